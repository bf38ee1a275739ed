import PyProof.Rows.All
import Wide.All
import OpenK.AllK
import Wide.FinOn
import HandS.ForMost
import HandS.Rev
import HandS.TupAny
import HandS.IsInst
import HandS.Flow
import KE.GoesMore
import KE.GoesEnum
import PySem.Challenge.RW_sortes_k01_polynomials
set_option Elab.async false
set_option linter.all false
set_option maxRecDepth 100000
set_option maxHeartbeats 4000000
namespace Z
open PySem PySem.Spec PyProof.Rows L2
/-! xs[k] op= e: the item of a list read -/
theorem get_list {X : Cx} : PGet X (fun o i H Q => ∃ p xs k v, o = .ref p ∧ i = .int k ∧ SqL X.K H p xs ∧ 0 ≤ k ∧ xs[k.toNat]? = some v ∧ Q v H) := by
  intro pins s σ H o i ov iv Q I r1 r2 h
  obtain ⟨p, xs, k, v, rfl, rfl, hq, h0, hx, q⟩ := h
  cases r1
  obtain ⟨t, rfl⟩ := r2
  obtain ⟨its, r, pl, hz⟩ := I.list hq
  obtain ⟨u, eu, ru⟩ := r.get hx
  have hl := r.length
  have hn := line63
  have hlt : k.toNat < xs.length := by
    have := List.getElem?_eq_some_iff.mp hx
    exact this.1
  exact wpAny_getItem_list pl.isList h0 (by omega) (by simpa using eu) ⟨v, H, I, ru, q⟩
/-! enumerate of a tuple -/
theorem meets_enum_new1 {v : Value} {o : Obj} {F : Heap → Prop} (B : Begins v o F) :
    Meets (Builtin.«enumerate.__new__» ⟨[.type "enumerate", v], []⟩) (fun _ R s => F s.heap ∧
      R (.ok (.ret (.ref (s.heap.push o).objs.size))) { s with heap := (s.heap.push o).push { cls := .type "enumerate", data := .fields #[.none, .bool false, .ref s.heap.objs.size, rawInt 0, .none, .none] } }) :=
  .of_wp fun prog w A R s h => by
    obtain ⟨hp, g, d, tk, os⟩ := s
    obtain ⟨h1, h⟩ := h
    have hsub := sub_enumerate
    have q1 : ∀ {A' : Around} {E Q : Value → Shared → Prop}, Q (.ref hp.objs.size) ⟨hp.push o, g, d, tk, os⟩ → wpAny (model prog w) A' (pyIter v) Q E ⟨hp, g, d, tk, os⟩ :=
      fun q => B.iter prog w _ _ ⟨hp, g, d, tk, os⟩ _ h1 q
    wp_walk using q1
    refine wpAny_stack_any fun st => wpAny_pure ?_
    split
    · rename_i c _ _ _ _ _
      cases (c == Value.type "enumerate") <;> (wp_walk using q1; exact ⟨_, rfl, h⟩)
    · (wp_walk using q1; exact ⟨_, rfl, h⟩)
theorem enum_new1 {prog : Program} {w : World} {A : Around} {E : Value → Shared → Prop} {s : Shared} {v : Value} {o : Obj} {G : Heap → Prop} {Q : Value → Shared → Prop} (B : Begins v o G) (h1 : G s.heap)
    (h : ∀ h', IsEnum h' (s.heap.objs.size + 1) s.heap.objs.size 0 .none → h'.get? s.heap.objs.size = some o →
      (∀ b o, s.heap.get? b = some o → h'.get? b = some o) → Q (.ref (s.heap.objs.size + 1)) { s with heap := h' }) :
    wpAny (model prog w) A (call (.type "enumerate") [v]) Q E s := by
  refine callType_new F.called_enumerate (by decide) (F.typeCall_enumerate_1 _) (F.newCall_enumerate_1 _) (fun obj => F.args_object_init_2 obj _) F.entry_enumerate_new
    (meets_enum_new1 B) ⟨h1, ?_⟩
  have hz : (s.heap.push o).objs.size = s.heap.objs.size + 1 := Heap.size_push ..
  show _ ∧ _
  rw [hz]
  have he : IsEnum ((s.heap.push o).push { cls := .type "enumerate", data := .fields #[.none, .bool false, .ref s.heap.objs.size, rawInt 0, .none, .none] }) (s.heap.objs.size + 1) s.heap.objs.size 0 .none := by
    have e1 := Heap.get?_push_size (s.heap.push o) (o := { cls := .type "enumerate", data := .fields #[.none, .bool false, .ref s.heap.objs.size, rawInt 0, .none, .none] }) rfl
    rw [hz] at e1
    exact e1
  exact ⟨⟨_, he, rfl⟩, h _ he (Heap.get?_push_of_some _ (Heap.get?_push_size _ B.free)) fun b o x => Heap.get?_push_of_some _ (Heap.get?_push_of_some _ x)⟩
/-- the tuple at a, each item in a new pair -/
def IteT (K : PySem.W.Frag) (a : Addr) : It :=
  ⟨fun i H => ∃ (xs : List V) (x : V), SqT K H a xs ∧ xs[i]? = some x, fun i H v H' => ∃ T x, v = .ref T ∧ H T = none ∧ H' = upd H T (.tup [.int (i : Nat), x]) ∧ ∀ xs, SqT K H a xs → xs[i]? = some x, fun i H => ∃ xs : List V, SqT K H a xs ∧ xs.length ≤ i⟩
theorem enumT_end {prog : Program} {w : World} {A : Around} {E : Value → Shared → Prop} {s : Shared} {e it t : Addr} {i : Nat} {items : Array Value} {old : Value} {Q : Option Value → Shared → Prop} (hh : A.handled = none)
    (he : IsEnum s.heap e it i old) (hit : s.heap.IsTupleIter it t i) (ht : s.heap.IsTuple t items) (hx : items[i]? = none)
    (hQ : ∀ h', Heap.ExtBut it s.heap h' → Q none { s with heap := h' }) : wpAny (model prog w) A (pyNext (.ref e)) Q E s := by
  have hT : s.TypeIs (.ref e) "enumerate" := ⟨_, he, rfl⟩
  unfold pyNext
  refine wpAny_bind (wpAny_attempt (wpAny_callSpecial?_slot (name := Str.ofString "__next__") hT F.slot_enumerate_next
    (wpAny_call_entry F.slot_enumerate_next hT F.entry_enumerate_next ?_ (F.args_enumerate_next_1 _))))
  show wpAny _ _ (field (.ref e) 2 >>= _) _ _ _
  refine wpAny_bind (wpAny_field he rfl (x := .ref it) rfl ?_)
  refine wpAny_bind (wpAny_nextOf_tuple_end hh hit ht hx fun h' x he' hx' => ?_)
  obtain ⟨o, ho, hc⟩ := hx'
  refine wpAny_bind (wpAny_isInstance (T := "StopIteration") (b := true) ⟨o, ho, hc⟩ isSubtype_stop ?_)
  exact wpAny_pure (hQ _ he')
theorem turn_enumT {P : Program} {w : World} {K : PySem.W.Frag} {elts : List Expr} {kk : Nat} {tpos : Pos} (a e it : Addr) :
    Turn P w K (.Tuple elts kk tpos) (IteT K a) [e, it] e (fun i h => (∃ old, IsEnum h e it ((i : Nat) : Int) old) ∧ h.IsTupleIter it a i ∧ e ≠ it ∧ a ≠ it ∧ e ≠ a) where
  mem := by simp
  obj := fun i h st b hb => by
    obtain ⟨⟨old, he⟩, ⟨o, ho, hc, hd⟩, _⟩ := st
    have e' : b = e ∨ b = it := by simpa using hb
    rcases e' with z | z
    · rw [z]
      exact ⟨_, he, fun v q => nomatch q⟩
    · rw [z]
      exact ⟨o, ho, fun v q => by rw [hd] at q; cases q⟩
  keep := fun i h h' st k => by
    obtain ⟨⟨old, he⟩, hi, hne⟩ := st
    exact ⟨⟨old, k e (by simp) _ he⟩, hi.at fun o q => k it (by simp) o q, hne⟩
  item := by
    intro X hP hw hK hc i pins s σ H E I hf st hg
    subst hP hw hK
    obtain ⟨⟨old, he⟩, hit, hne, hai, hea⟩ := st
    obtain ⟨xs, x, hq, hx⟩ := hg
    obtain ⟨its, rv, p, hz⟩ := I.tuple hq
    obtain ⟨u, hu, ru⟩ := rv.get hx
    have hel : e < s.heap.objs.size := Heap.lt_size he
    have hil : it < s.heap.objs.size := by
      obtain ⟨_, q, _⟩ := hit
      exact Heap.lt_size q
    have hlt : i < its.toArray.size := by
      obtain ⟨h1, _⟩ := List.getElem?_eq_some_iff.mp hu
      simpa using h1
    have D := Draws.tuple (prog := X.prog) (w := X.w) (A := X.A.in1) (show X.A.in1.handled = none from I.ok.hd hc) it a hai its.toArray
    refine wpAny_pyNext_enum_itemD D he ⟨hit, p⟩ hlt hne (by simp [hne, hea]) fun u' h' tk hP ho hst' hT hsz hk => ?_
    have eu : u' = u := by
      have h2 : its.toArray[i]? = some u' := hP
      have h3 : its.toArray[i]? = some u := by simpa using hu
      rw [h2] at h3
      exact Option.some.inj h3
    subst eu
    refine ⟨_, rfl, wpAny_letOwnedTupleGo_enum (s := { s with heap := h', toks := tk + 1 }) ho fun h'' he' sb => ?_⟩
    have hT2 : h''.get? s.heap.objs.size = some { cls := .type "tuple", data := .seq #[.int i tk, u'] } := (sb.2 _ (Nat.ne_of_gt hel)).trans hT
    have new : ObjOk X.prog X.w (upd H s.heap.objs.size (.tup [.int (i : Nat), x])) h'' s.heap.objs.size (.tup [.int (i : Nat), x]) :=
      ⟨by show 2 ≤ sizeLine; decide, [.int i tk, u'], .cons ⟨_, rfl⟩ (.cons ru .nil), ⟨_, hT2, rfl, _, rfl⟩⟩
    have I1 : Inv X pins σ (upd H s.heap.objs.size (.tup [.int (i : Nat), x])) { s with heap := h'', toks := tk + 1 } :=
      I.turnedNew (ch := [e, it]) (fun b ob hb q => (sb.2 b (fun z => hb (by simp [z]))).trans (hk b ob (fun z => hb (by simp [z])) (fun z => hb (by simp [z])) q)) hf (Nat.le_refl _) new
    refine ⟨.ref s.heap.objs.size, _, I1, rfl, ⟨_, x, rfl, I.hok.fresh (Nat.le_refl _), rfl, fun ys hy => by rw [I.tuple_inj hy hq]; exact hx⟩, ⟨⟨u', ?_⟩, hst'.1.at fun o q => (sb.2 it (Ne.symm hne)).trans q, hne, hai, hea⟩, fun b hb => ?_⟩
    · have e1 : ((i + 1 : Nat) : Int) = (i : Int) + 1 := by omega
      rw [e1]
      exact he'
    · have hb' : b < s.heap.objs.size := by
        have e' : b = e ∨ b = it := by simpa using hb
        rcases e' with z | z
        · rw [z]; exact hel
        · rw [z]; exact hil
      rw [upd_ne (Nat.ne_of_lt hb')]
      exact (hf b hb).1
  done := by
    intro X hP hw hK hc i pins s σ H E I hf st hg
    subst hP hw hK
    obtain ⟨⟨old, he⟩, hit, hne, hai, hea⟩ := st
    obtain ⟨xs, hq, hx⟩ := hg
    obtain ⟨its, rv, p, hz⟩ := I.tuple hq
    obtain ⟨f0, f1, f2, f3, f4, f5⟩ := hf it (by simp)
    have hl := rv.length
    exact enumT_end (I.ok.hd hc) he hit p (by simp; omega) fun h' eb => ⟨rfl, I.turned (t' := s.toks) (fun b o hb q => eb b o hb q) f0 f1 f3 f4 f5⟩
  self := fun A i s Q E st h => by
    obtain ⟨⟨_, he⟩, _⟩ := st
    exact wpAny_pyIter_enum he h
def iEnumA (K : PySem.W.Frag) (ta : TA) : TI := fun σ H R => ta σ H fun vs H1 => ∃ a xs, vs = [.ref a] ∧ ((SqL K H1 a xs ∧ R (Ite K a) H1) ∨ (SqT K H1 a xs ∧ R (IteT K a) H1))
theorem pi_enumA {X : Cx} {e : Expr} {ta : TA} {p pos tpos : Pos} {elts : List Expr} {kk : Nat} (hg : Gl X "enumerate") (hm : X.mg "enumerate" = none) (ha : PA X [e] ta) (hs : starEach [e] X.env = [(false, eval e X.env)] := by rfl) :
    PI X (.Tuple elts kk tpos) (.Call (.Name "enumerate" p) [e] [] pos) (iEnumA X.K ta) := by
  refine ⟨fun pins s σ H R I h => ?_⟩
  refine Call_ (ld_blt I hg hm boot_enumerate (PyProof.Rows.callWith_type1 (thn (ha.run pos pins s σ H _ I h) fun us s1 ⟨vs, H1, I1, r1, q1⟩ => ?_) hs rfl))
  obtain ⟨a, xs, ex, q⟩ := q1
  subst ex
  cases r1 with
  | cons r rr =>
    cases rr
    cases r
    have fp : ∀ (H' : Hp) (b : Addr), b ∈ [s1.heap.objs.size + 1, s1.heap.objs.size] → FpOk X pins H1 b := fun _ b hb => by
      have e' : b = s1.heap.objs.size + 1 ∨ b = s1.heap.objs.size := by simpa using hb
      have hle : s1.heap.objs.size ≤ b := by
        rcases e' with z | z
        · rw [z]; exact Nat.le_add_right _ _
        · rw [z]; exact Nat.le_refl _
      exact I1.fpOk hle (I1.hok.fresh hle)
    rcases q with ⟨hq, q⟩ | ⟨hq, q⟩
    · obtain ⟨its, rv, p', hz⟩ := I1.list hq
      refine call_enumerate_list p'.isList fun h' he hit hsz hk => wpAny_pyIter_enum he ?_
      have I2 : Inv X pins σ H1 { s1 with heap := h' } := I1.kept (t' := s1.toks) hk
      exact ⟨s1.heap.objs.size + 1, [s1.heap.objs.size + 1, s1.heap.objs.size], _, _, H1, rfl, I2, turn_enum a (s1.heap.objs.size + 1) s1.heap.objs.size, ⟨⟨.none, he⟩, hit, Nat.succ_ne_self _⟩, fp H1, q⟩
    · obtain ⟨its, rv, p', hz⟩ := I1.tuple hq
      have ha : a < s1.heap.objs.size := p'.lt
      refine enum_new1 (begins_tuple a its.toArray) p' fun h' he hit hk => wpAny_pyIter_enum he ?_
      have I2 : Inv X pins σ H1 { s1 with heap := h' } := I1.kept (t' := s1.toks) hk
      exact ⟨s1.heap.objs.size + 1, [s1.heap.objs.size + 1, s1.heap.objs.size], _, _, H1, rfl, I2, turn_enumT a (s1.heap.objs.size + 1) s1.heap.objs.size, ⟨⟨.none, he⟩, ⟨_, hit, rfl, rfl⟩, Nat.succ_ne_self _, Nat.ne_of_lt ha, Nat.ne_of_gt (Nat.lt_succ_of_lt ha)⟩, fp H1, q⟩
/-- for i, x in enumerate(a tuple): each turn a new pair -/
theorem for_enumT {K : PySem.W.Frag} {a : Addr} {xs : List V} {g : TG} {tb : TS} {D : Ends} {σ : L2.St} {H : Hp} (Pv : Nat → L2.St → Hp → Prop) (h0 : Pv 0 σ H) (hl : ∀ i σ H, i ≤ xs.length → Pv i σ H → SqT K H a xs)
    (hs : ∀ i x σ H T, xs[i]? = some x → Pv i σ H → H T = none → g (.ref T) σ (upd H T (.tup [.int (i : Nat), x])) fun σ2 H2 => tb { D with nx := Pv (i + 1), ct := Pv (i + 1), bk := D.nx } σ2 H2) (hd : ∀ σ H, Pv xs.length σ H → D.nx σ H) :
    ∃ W : Nat → Nat → L2.St → Hp → Prop, (∃ m, W 0 m σ H) ∧ ∀ i m σ H, W i m σ H →
      ((IteT K a).stop i H ∧ D.nx σ H) ∨ ((IteT K a).go i H ∧ ∃ N : L2.St → Hp → Prop, (∀ σ' H', N σ' H' → ∃ m', m' < m ∧ W (i + 1) m' σ' H') ∧ ∀ x H', (IteT K a).yld i H x H' → g x σ H' fun σ2 H2 => tb { D with nx := N, ct := N, bk := D.nx } σ2 H2) := by
  refine ⟨fun i m σ H => m = xs.length - i ∧ i ≤ xs.length ∧ Pv i σ H, ⟨xs.length, by simp, Nat.zero_le _, h0⟩, ?_⟩
  rintro i m σ H ⟨rfl, hi, p⟩
  have q := hl i σ H hi p
  by_cases hlt : i < xs.length
  · refine .inr ⟨⟨xs, xs[i], q, by simp [hlt]⟩, Pv (i + 1), fun σ' H' p' => ⟨xs.length - (i + 1), by omega, rfl, hlt, p'⟩, fun x H' y => ?_⟩
    obtain ⟨T, y, rfl, nT, rfl, f⟩ := y
    exact hs i y σ H T (f xs q) p nT
  · have e : i = xs.length := by omega
    subst e
    exact .inl ⟨⟨xs, q, Nat.le_refl _⟩, hd σ H p⟩
end Z
namespace Z
open PySem PySem.Spec PyProof.Rows L2
/-! more rules -/
theorem piOr {X : Cx} {tg l : Expr} {w1 w2 : TI} (h1 : PI X tg l w1) (h2 : PI X tg l w2) : PI X tg l (fun σ H R => w1 σ H R ∨ w2 σ H R) :=
  ⟨fun pins s σ H R I h => h.elim (h1.run pins s σ H R I) (h2.run pins s σ H R I)⟩
def iAny (K : PySem.W.Frag) (tl : TE) : TI := fun σ H R => tl σ H fun x H1 => ∃ a, x = .ref a ∧ ((∃ xs, SqL K H1 a xs ∧ R (Itl K a) H1) ∨ (∃ xs, SqT K H1 a xs ∧ R (Itt K a) H1))
theorem pi_any {X : Cx} {tg l : Expr} {tl : TE} (hl : PE X l tl) : PI X tg l (iAny X.K tl) := by
  refine ⟨fun pins s σ H R I h => ?_⟩
  refine thn (hl.run pins s σ H _ I h) fun v s1 ⟨x, H1, I1, r1, q1⟩ => ?_
  obtain ⟨a, e, q⟩ := q1
  subst e
  cases r1
  rcases q with ⟨xs, hq, q⟩ | ⟨xs, hq, q⟩
  · obtain ⟨its, rv, p, hz⟩ := I1.list hq
    refine wpAny_pyIter_list p.isList ?_
    refine ⟨s1.heap.objs.size, [s1.heap.objs.size], _, _, H1, rfl, I1.kept (t' := s1.toks) fun b o e => Heap.get?_push_of_some _ e, turn_list a _, ⟨_, Heap.get?_push_size _ rfl, rfl, rfl⟩, fun b hb => ?_, q⟩
    have e : b = s1.heap.objs.size := by simpa using hb
    subst e
    exact I1.fpOk (Nat.le_refl _) (I1.hok.fresh (Nat.le_refl _))
  · obtain ⟨its, rv, p, hz⟩ := I1.tuple hq
    refine wpAny_pyIter_tuple (show s1.heap.IsTuple a its.toArray from p) ?_
    refine ⟨s1.heap.objs.size, [s1.heap.objs.size], _, _, H1, rfl, I1.kept (t' := s1.toks) fun b o e => Heap.get?_push_of_some _ e, turn_tuple a _, ⟨_, Heap.get?_push_size _ rfl, rfl, rfl⟩, fun b hb => ?_, q⟩
    have e : b = s1.heap.objs.size := by simpa using hb
    subst e
    exact I1.fpOk (Nat.le_refl _) (I1.hok.fresh (Nat.le_refl _))
/-- the rules of built-in calls under names -/
def rLen (K : PySem.W.Frag) : List V → Hp → VK → Prop := fun xs H Q => ∃ p ys, xs = [.ref p] ∧ (SqL K H p ys ∨ SqT K H p ys) ∧ Q (.int ys.length) H
theorem c_len {X : Cx} : CallR X (.builtin "len") (rLen X.K) := call_len_seq
def rMax2 : List V → Hp → VK → Prop := fun xs H Q => ∃ i j, xs = [.int i, .int j] ∧ Q (.int (if j > i then j else i)) H
theorem c_max2 {X : Cx} (hc : X.calm = true) : CallR X (.builtin "max") rMax2 := call_max2 hc
def rInt1 : List V → Hp → VK → Prop := fun xs H Q => (∃ i, xs = [.int i] ∧ Q (.int i) H) ∨ ∃ k, xs = [.bl k] ∧ Q (.int (if k then 1 else 0)) H
theorem c_int1 {X : Cx} : CallR X (.type "int") rInt1 := call_int1
def rTup (K : PySem.W.Frag) : List V → Hp → VK → Prop := fun xs H Q => ∃ p ys, xs = [.ref p] ∧ ((SqL K H p ys ∧ ∀ l, H l = none → Q (.ref l) (upd H l (.tup ys))) ∨ (SqT K H p ys ∧ Q (.ref p) H))
theorem c_tup {X : Cx} : CallR X (.type "tuple") (rTup X.K) := call_tuple_of
def kGetL (K : PySem.W.Frag) : V → V → Hp → VK → Prop := fun o i H Q => ∃ p xs k v, o = .ref p ∧ i = .int k ∧ SqL K H p xs ∧ 0 ≤ k ∧ xs[k.toNat]? = some v ∧ Q v H
theorem g_list {X : Cx} : PGet X (kGetL X.K) := get_list
def tTru (K : PySem.W.Frag) (ta : TE) : TT := fun σ H Q => ta σ H fun x H' => ∃ k, TruV K x H' k ∧ Q k H'
theorem pt_tru {X : Cx} {a : Expr} {ta : TE} (ha : PE X a ta) (he : ∀ whole, isTrue a X.env whole = (do let v ← whole; standAt a.pos; holding [v] (truthy v))) : PT X a (tTru X.K ta) := pt_truth ha he
/-! a def that keeps its promise, by its name -/
structure Good (P : Program) (w : World) (K : PySem.W.Frag) (mg : Str → Option Value) (base : Heap) (k : Nat) (x : Str) (ps : List Str) (sp : Sp) : Prop where
  ex : ∃ (f : Addr) (fd : FuncData), mg x = some (.ref f) ∧ PySem.W.keepIn K (.ref f) = true ∧ Binds K fd ps [] ∧ FnOk P w K mg base CX0 k f fd ps sp
theorem pe_callG {X : Cx} {k : Nat} {x : Str} {ps : List Str} {sp : Sp} {p pos : Pos} {e : Expr} {es : List Expr} {t : TA} (G : Good X.prog X.w X.K X.mg X.base k x ps sp) (hr : Room k X.A) (hg : Gl X x) (ha : PA X (e :: es) t)
    (hdb : (x == ("__debug__" : Str)) = false := by decide) (he : starEach (e :: es) X.env = (false, eval e X.env) :: starEach es X.env := by rfl) (hpl : (backTo pos (starEach es X.env)).any (·.1) = false := by rfl) :
    PE X (.Call (.Name x p) (e :: es) [] pos) (tCall sp [] E0 t) := by
  obtain ⟨f, fd, hm, hk, hb, F⟩ := G.ex
  exact pe_call F hr hg hm hk hb .nil pass0 ha hdb he hpl
theorem pe_callG0 {X : Cx} {k : Nat} {x : Str} {ps : List Str} {sp : Sp} {p pos : Pos} (G : Good X.prog X.w X.K X.mg X.base k x ps sp) (hr : Room k X.A) (hg : Gl X x)
    (hdb : (x == ("__debug__" : Str)) = false := by decide) : PE X (.Call (.Name x p) [] [] pos) (tCall sp [] E0 tNil) := by
  obtain ⟨f, fd, hm, hk, hb, F⟩ := G.ex
  exact pe_call0 F hr hg hm hk hb .nil pass0 hdb
/-- what the top leaves of a def -/
structure Has (K : PySem.W.Frag) (mg : Str → Option Value) (x : Str) (st : Stmt) (ps : List Str) : Prop where
  ex : ∃ (f : Addr) (fd : FuncData), Fun K x x st f fd ∧ mg x = some (.ref f) ∧ Binds K fd ps []
theorem Has.good {P : Program} {w : World} {K : PySem.W.Frag} {mg : Str → Option Value} {base : Heap} {x : Str} {st : Stmt} {N ps : List Str} {k : Nat} {sp : Sp} (h : Has K mg x st ps) (S : FnScope N ps (defScope st)) (len : ∀ vs H Q E, sp vs H Q E → vs.length = ps.length)
    (hbody : ∀ (f : Addr) (cdv : Value) (A : Around) (outer : List Env) (s : Shared) (H : Hp) (vs : List V) (Q : VK) (E : XK), Room k (A.deeper (envOfC x (defScope st) s.heap.objs.size f cdv)) → sp vs H Q E →
      ∃ t, PSs (cxOf CX0 P w K mg base N x (defScope st) f cdv A outer s H E).nox (defBody st) t ∧ t ⟨fun _ H' => Q .non H', Q, fun _ _ => False, fun _ _ => False⟩ (start N vs) H) : Good P w K mg base (k + 1) x ps sp := by
  obtain ⟨f, fd, F, hm, hb⟩ := h.ex
  exact ⟨f, fd, hm, F.kp, hb, F.ok S len (hbody f)⟩
/-! heaps -/
/-- all but the object at c is as it was -/
def But (c : Addr) (H H' : Hp) : Prop := ∀ b o, b ≠ c → H b = some o → H' b = some o
theorem But.of {c : Addr} {H H' : Hp} (h : Same H H') : But c H H' := fun b o _ e => h b o e
theorem But.refl (c : Addr) (H : Hp) : But c H H := fun _ _ _ e => e
theorem But.trans {c : Addr} {H H1 H2 : Hp} (a : But c H H1) (b : But c H1 H2) : But c H H2 := fun x o n e => b x o n (a x o n e)
theorem But.upd {c : Addr} {H : Hp} {o : HO} : But c H (L2.upd H c o) := fun b u n e => by
  rw [upd_ne n]
  exact e
theorem Same.new {H : Hp} {p : Addr} {o : HO} (h : H p = none) : Same H (L2.upd H p o) := fun b u e => by
  rw [upd_ne (ne_of_none e h)]
  exact e
/-- of an object that is new behind H, whatever was done to it -/
theorem But.same {c : Addr} {H H1 H2 : Hp} (b : But c H1 H2) (a : Same H H1) (n : H c = none) : Same H H2 := fun x o e => b x o (ne_of_none e n) (a x o e)
theorem Same.rd {H H' : Hp} {a : Addr} {u : HO} (e : Same H H') (h : Rd H a u) : Rd H' a u := by
  rcases h with h | ⟨o, h⟩
  · exact .inl (e _ _ h)
  · exact .inr ⟨o, e _ _ h⟩
theorem But.rd {c : Addr} {H H' : Hp} {a : Addr} {u : HO} (e : But c H H') (n : a ≠ c) (h : Rd H a u) : Rd H' a u := by
  rcases h with h | ⟨o, h⟩
  · exact .inl (e _ _ n h)
  · exact .inr ⟨o, e _ _ n h⟩
theorem sqt_same {K : PySem.W.Frag} {H H' : Hp} {a : Addr} {xs : List V} (e : Same H H') (h : SqT K H a xs) : SqT K H' a xs := h.elim (fun h => .inl (Same.rd e h)) .inr
theorem sql_same {K : PySem.W.Frag} {H H' : Hp} {a : Addr} {xs : List V} (e : Same H H') (h : SqL K H a xs) : SqL K H' a xs := h.elim (fun h => .inl (Same.rd e h)) .inr
theorem sql_but {K : PySem.W.Frag} {c : Addr} {H H' : Hp} {a : Addr} {xs : List V} (e : But c H H') (n : a ≠ c) (h : SqL K H a xs) : SqL K H' a xs := h.elim (fun h => .inl (But.rd e n h)) .inr
theorem sqt_but {K : PySem.W.Frag} {c : Addr} {H H' : Hp} {a : Addr} {xs ys : List V} (e : But c H H') (hc : H c = some (.lst ys)) (h : SqT K H a xs) : SqT K H' a xs := h.elim (fun h => .inl (But.rd e (fun z => by
  subst z
  rcases h with h | ⟨o, h⟩
  · rw [h] at hc
    cases hc
  · rw [h] at hc
    cases hc) h)) .inr
theorem Same.of_ {H H' : Hp} {a : Addr} {o : HO} (e : Same H H') (h : H a = some o) : H' a = some o := e _ _ h
theorem But.of_ {c : Addr} {H H' : Hp} {a : Addr} {o : HO} (e : But c H H') (n : a ≠ c) (h : H a = some o) : H' a = some o := e _ _ n h
theorem same_tr {H H1 H2 : Hp} (e : Same H1 H2) (h : Same H H1) : Same H H2 := h.trans e
theorem same_but {c : Addr} {H H1 H2 : Hp} (e : But c H1 H2) (h : Same H H1) (n : H c = none) : Same H H2 := But.same e h n
theorem but_tr {c : Addr} {H H1 H2 : Hp} (e : Same H1 H2) (h : But c H H1) : But c H H2 := h.trans (But.of e)
theorem but_trB {c : Addr} {H H1 H2 : Hp} (e : But c H1 H2) (h : But c H H1) : But c H H2 := h.trans e
theorem but_refl {c : Addr} {H : Hp} : But c H H := But.refl c H
theorem same_refl {H : Hp} : Same H H := Same.refl H
/-! what is asked of a value, its wish kept apart -/
def IsBl (x : V) (H : Hp) (F : Bool → Hp → Prop) : Prop := ∃ k, x = .bl k ∧ F k H
def IsTru (K : PySem.W.Frag) (x : V) (H : Hp) (F : Bool → Hp → Prop) : Prop := ∃ k, TruV K x H k ∧ F k H
def IsPart (x : V) (H : Hp) (F : Option Int → Hp → Prop) : Prop := ∃ i, x = .int i ∧ F (some i) H
def NewT (xs : List V) (H : Hp) (Q : VK) : Prop := xs.length ≤ sizeLine ∧ ∀ p, H p = none → Q (.ref p) (upd H p (.tup xs))
def NewL (xs : List V) (H : Hp) (Q : VK) : Prop := xs.length ≤ sizeLine ∧ ∀ p, H p = none → Q (.ref p) (upd H p (.lst xs))
def Rng1 (vs : List V) (H : Hp) (R : It → Hp → Prop) : Prop := ∃ j : Int, vs = [.int j] ∧ -(2 ^ 62) ≤ j ∧ j < 2 ^ 62 ∧ R (Itr 0 j.toNat) H
def Rng2 (vs : List V) (H : Hp) (R : It → Hp → Prop) : Prop := ∃ i j : Int, vs = [.int i, .int j] ∧ (-(2 ^ 62) ≤ i ∧ i < 2 ^ 62 ∧ -(2 ^ 62) ≤ j ∧ j < 2 ^ 62) ∧ R (Itr i (j - i).toNat) H
def Rng3 (vs : List V) (H : Hp) (R : It → Hp → Prop) : Prop := ∃ (i j c : Int) (n : Nat), vs = [.int i, .int j, .int c] ∧ RgC i j c n ∧ R (Itc i c n) H
def WlkL (K : PySem.W.Frag) (x : V) (H : Hp) (R : It → Hp → Prop) : Prop := ∃ a, x = .ref a ∧ (∃ xs, SqL K H a xs) ∧ R (Itl K a) H
def WlkT (K : PySem.W.Frag) (x : V) (H : Hp) (R : It → Hp → Prop) : Prop := ∃ a, x = .ref a ∧ (∃ xs, SqT K H a xs) ∧ R (Itt K a) H
def WlkA (K : PySem.W.Frag) (x : V) (H : Hp) (R : It → Hp → Prop) : Prop := ∃ a, x = .ref a ∧ ((∃ xs, SqL K H a xs ∧ R (Itl K a) H) ∨ (∃ xs, SqT K H a xs ∧ R (Itt K a) H))
def WlkE (K : PySem.W.Frag) (vs : List V) (H : Hp) (R : It → Hp → Prop) : Prop := ∃ a xs, vs = [.ref a] ∧ ((SqL K H a xs ∧ R (Ite K a) H) ∨ (SqT K H a xs ∧ R (IteT K a) H))
def WlkV (K : PySem.W.Frag) (v : V) (H : Hp) (R : It → Hp → Prop) : Prop := ∃ (a : Addr) (xs : List V), v = .ref a ∧ ((SqL K H a xs ∧ R (Itv K a xs.length) H) ∨ (SqT K H a xs ∧ R (RT.ItvT K a xs.length) H))
def ForW (g : TG) (tb : TS) (r : VK) (n : L2.St → Hp → Prop) (J : It) (σ : L2.St) (H : Hp) : Prop := ∃ W : Nat → Nat → L2.St → Hp → Prop, (∃ m, W 0 m σ H) ∧ ∀ i m σ H, W i m σ H →
  (J.stop i H ∧ n σ H) ∨ (J.go i H ∧ ∃ N : L2.St → Hp → Prop, (∀ σ' H', N σ' H' → ∃ m', m' < m ∧ W (i + 1) m' σ' H') ∧ ∀ x H', J.yld i H x H' → g x σ H' fun σ2 H2 => tb ⟨N, r, n, N⟩ σ2 H2)
def LcW (g : TG) (tt : TT) (te : TE) (vs : List Nat) (Q : VK) (σ : L2.St) (J : It) (H : Hp) : Prop := ∀ D, H D = none → ∃ W : Nat → Nat → Hp → Prop, (∃ m, W 0 m (upd H D (.lst []))) ∧ ∀ i m H, W i m H →
  (J.stop i H ∧ Q (.ref D) H) ∨ (J.go i H ∧ ∃ Nx : Hp → Prop, (∀ H', Nx H' → ∃ m', m' < m ∧ W (i + 1) m' H') ∧ ∀ x H', J.yld i H x H' → g x (wipe σ vs) H' fun σ2 H2 => wipe σ2 vs = wipe σ vs ∧ tt σ2 H2 fun b H3 =>
    if b = true then te σ2 H3 fun y H4 => ∃ acc, H4 D = some (.lst acc) ∧ acc.length < sizeLine ∧ Nx (upd H4 D (.lst (acc ++ [y]))) else Nx H3)
/-! branches -/
theorem ifP {p A B : Prop} [Decidable p] (h1 : p → A) (h2 : ¬ p → B) : if decide p = true then A else B := ite2 (fun e => h1 (of_decide_eq_true e)) (fun e => h2 fun z => e (decide_eq_true z))
theorem ifI {x y : Int} {A B : Prop} (h1 : x = y → A) (h2 : x ≠ y → B) : if decide (V.int x = V.int y) = true then A else B := ifP (fun e => h1 (V.int.inj e)) (fun e => h2 fun z => e (by rw [z]))
theorem ifN {x y : Int} {A B : Prop} (h1 : x ≠ y → A) (h2 : x = y → B) : if (!decide (V.int x = V.int y)) = true then A else B := by
  by_cases e : x = y
  · subst e
    rw [decide_eq_true rfl]
    exact iteF (h2 rfl)
  · rw [decide_eq_false (fun z => e (V.int.inj z))]
    exact iteT (h1 e)
theorem ifTrue {k : Bool} {A B : Prop} (e : k = true) (h : A) : if k = true then A else B := by
  rw [if_pos e]
  exact h
theorem ifFalse {k : Bool} {A B : Prop} (e : k = false) (h : B) : if k = true then A else B := by
  subst e
  exact iteF h
theorem item_int {ns : List Int} {i : Nat} {x : V} (e : (ns.map V.int)[i]? = some x) : x = .int (ns.getD i 0) ∧ i < ns.length := by
  rw [List.getElem?_map] at e
  cases h : ns[i]? with
  | none =>
    rw [h] at e
    cases e
  | some y =>
    rw [h] at e
    have e1 : V.int y = x := Option.some.inj e
    refine ⟨?_, (List.getElem?_eq_some_iff.mp h).1⟩
    rw [← e1, List.getD_eq_getElem?_getD, h]
    rfl
theorem at_int {ns : List Int} {i : Nat} (h : i < ns.length) : (ns.map V.int)[i]? = some (.int (ns.getD i 0)) := by
  rw [List.getElem?_map, List.getD_eq_getElem?_getD, List.getElem?_eq_getElem h]
  rfl
theorem range_map {ns : List Int} (f : Int → Int) : ((List.range ns.length).map fun i => V.int (f (ns.getD i 0))) = (ns.map f).map V.int := by
  refine List.ext_getElem? fun i => ?_
  simp only [List.getElem?_map]
  by_cases h : i < ns.length
  · rw [List.getElem?_range h, List.getElem?_eq_getElem h]
    simp [List.getD_eq_getElem?_getD, List.getElem?_eq_getElem h]
  · rw [List.getElem?_eq_none (by simpa using Nat.le_of_not_lt h), List.getElem?_eq_none (by simpa using Nat.le_of_not_lt h)]
    rfl
theorem ixN_nat {m i : Nat} (h : i < m) : ixN m (i : Int) = some i := by
  unfold ixN
  rw [if_pos (by omega), if_pos (by omega), Int.toNat_natCast]
theorem map_set (ns : List Int) (i : Nat) (x : Int) : (ns.map V.int).set i (.int x) = (ns.set i x).map V.int := by rw [List.map_set]
theorem flat_rep (m : Nat) (x : V) : (List.replicate m [x]).flatten = List.replicate m x := by simp
theorem at_nat {ns : List Int} {i : Int} (h0 : 0 ≤ i) (h : i < ns.length) : atI (ns.map V.int) i = some (.int (ns.getD i.toNat 0)) := at_of (j := i.toNat) (by omega) (at_int (by omega))
theorem at_end {ns : List Int} (h : ns ≠ []) : ∃ v : Int, atI (ns.map V.int) (-1) = some (.int v) := by
  refine ⟨ns.getLast h, ?_⟩
  have e : ns.map V.int = ns.dropLast.map V.int ++ [V.int (ns.getLast h)] := by
    rw [show [V.int (ns.getLast h)] = [ns.getLast h].map V.int from rfl, ← List.map_append, List.dropLast_concat_getLast]
  rw [e]
  exact atI_last _ _
theorem cut_to (xs : List V) (m : Nat) : cutV xs none (some (m : Int)) = xs.take m := by
  unfold cutV
  rw [show HT.sIx xs.length xs.length (some (m : Int)) = min m xs.length from HT.sIx_nat _ _ _, HT.sIx_none, List.drop_zero, Nat.sub_zero]
  rw [List.take_eq_take_iff]
  omega
/-- how many items the list at D has -/
def lenAt (H : Hp) (D : Addr) : Nat := match H D with
  | some (.lst xs) => xs.length
  | _ => 0
theorem lenAt_of {H : Hp} {D : Addr} {xs : List V} (h : H D = some (.lst xs)) : lenAt H D = xs.length := by
  unfold lenAt
  rw [h]
theorem snoc_cases {α : Type} (l : List α) : l = [] ∨ ∃ l0 a, l = l0 ++ [a] := by
  cases h : l.reverse with
  | nil => exact .inl (by simpa using h)
  | cons a r => exact .inr ⟨r.reverse, a, by rw [← List.reverse_reverse l, h, List.reverse_cons]⟩
/-! one step of a reading -/
section
variable {K : PySem.W.Frag} {σ : L2.St} {H : Hp} {n b c : L2.St → Hp → Prop} {r : VK} {Q : VK}
theorem s_seq {t u : TS} (h : t ⟨u ⟨n, r, b, c⟩, r, b, c⟩ σ H) : tSeq t u ⟨n, r, b, c⟩ σ H := h
theorem s_next (h : n σ H) : tNext ⟨n, r, b, c⟩ σ H := h
theorem s_break (h : b σ H) : tBreak ⟨n, r, b, c⟩ σ H := h
theorem s_cont (h : c σ H) : tCont ⟨n, r, b, c⟩ σ H := h
theorem s_asg {te : TE} {g : TG} (h : te σ H fun x H1 => g x σ H1 n) : tAsg te g ⟨n, r, b, c⟩ σ H := h
theorem s_aug {i : Nat} {te : TE} {ti : TIp} {x : V} (e : σ[i]? = some (some x)) (h : te σ H fun y H1 => ti x y H1 fun z H2 => n (σ.set i (some z)) H2) : tAug i te ti ⟨n, r, b, c⟩ σ H := ⟨x, e, h⟩
theorem s_augS {to ti te : TE} {tget : V → V → Hp → VK → Prop} {tip : TIp} {tset : TSet} (h : to σ H fun o H1 => ti σ H1 fun i H2 => tget o i H2 fun x H3 => te σ H3 fun y H4 => tip x y H4 fun z H5 => tset o i z H5 fun H6 => n σ H6) : tAugS to ti te tget tip tset ⟨n, r, b, c⟩ σ H := h
theorem s_drop {te : TE} (h : te σ H fun _ H1 => n σ H1) : tDrop te ⟨n, r, b, c⟩ σ H := h
theorem s_ret {te : TE} (h : te σ H r) : tRet te ⟨n, r, b, c⟩ σ H := h
theorem s_retN (h : r .non H) : tRetN ⟨n, r, b, c⟩ σ H := h
theorem s_if {tc : TT} {t u : TS} (h : tc σ H fun k H1 => if k = true then t ⟨n, r, b, c⟩ σ H1 else u ⟨n, r, b, c⟩ σ H1) : tIfS tc t u ⟨n, r, b, c⟩ σ H := h
/-- what is known behind a statement that has several ways -/
theorem s_cut {t : TS} (Pv : L2.St → Hp → Prop) (h1 : ∀ N : L2.St → Hp → Prop, (∀ σ' H', Pv σ' H' → N σ' H') → t ⟨N, r, b, c⟩ σ H) (h2 : ∀ σ' H', Pv σ' H' → n σ' H') : t ⟨n, r, b, c⟩ σ H := h1 n h2
theorem s_gname {i : Nat} {v : V} {F : L2.St → Hp → Prop} (h : F (σ.set i (some v)) H) : gName i v σ H F := h
theorem s_gtup {a : Addr} {xs : List V} {k : Nat} {t : TGs} {F : L2.St → Hp → Prop} (hx : SqT K H a xs) (hl : xs.length = k) (h : t xs σ H F) : gTup K k t (.ref a) σ H F := ⟨a, xs, rfl, hx, hl, h⟩
theorem s_gcons {t : TG} {u : TGs} {v : V} {vs : List V} {F : L2.St → Hp → Prop} (h : t v σ H fun σ' H' => u vs σ' H' F) : gCons t u (v :: vs) σ H F := ⟨v, vs, rfl, h⟩
theorem s_gnil {F : L2.St → Hp → Prop} (h : F σ H) : gNil [] σ H F := ⟨rfl, h⟩
theorem s_gsub {to ti : TE} {t : TSet} {v : V} {F : L2.St → Hp → Prop} (h : to σ H fun o H1 => ti σ H1 fun i H2 => t o i v H2 fun H3 => F σ H3) : gSub to ti t v σ H F := h
/-- expressions -/
theorem s_var {i : Nat} {v : V} (e : σ[i]? = some (some v)) (h : Q v H) : tVar i σ H Q := ⟨v, e, h⟩
theorem s_c {v : V} (h : Q v H) : tC v σ H Q := h
theorem s_op {r2 : R2} {ta tb : TE} (h : ta σ H fun x H1 => tb σ H1 fun y H2 => r2 x y H2 Q) : tOp r2 ta tb σ H Q := h
theorem s_un {f : V → Hp → VK → Prop} {ta : TE} (h : ta σ H fun x H1 => f x H1 Q) : tUn f ta σ H Q := h
theorem s_rI0 {g : Int → Int → V} {i j : Int} (h : Q (g i j) H) : rI0 g (.int i) (.int j) H Q := ⟨i, j, rfl, rfl, h⟩
theorem s_rI {C : Int → Int → Prop} {g : Int → Int → V} {i j : Int} (hc : C i j) (h : Q (g i j) H) : rI C g (.int i) (.int j) H Q := ⟨i, j, rfl, rfl, hc, h⟩
theorem s_rU {g : Int → V} {i : Int} (h : Q (g i) H) : rU g (.int i) H Q := ⟨i, rfl, h⟩
theorem s_rEq {x y : V} (hs : scal x y = true) (h : Q (.bl (decide (x = y))) H) : rEq x y H Q := ⟨hs, h⟩
theorem s_rNe {x y : V} (hs : scal x y = true) (h : Q (.bl (!decide (x = y))) H) : rNe x y H Q := ⟨hs, h⟩
theorem s_ipI {f : Int → Int → Int} {i j : Int} (h : Q (.int (f i j)) H) : ipI f (.int i) (.int j) H Q := ⟨i, j, rfl, rfl, h⟩
theorem s_call {sp : Sp} {E : XK} {t : TA} (h : t σ H fun vs H1 => sp vs H1 Q E) : tCall sp [] E t σ H Q := by
  unfold tCall
  simp only [List.append_nil]
  exact h
theorem s_nil {F : List V → Hp → Prop} (h : F [] H) : tNil σ H F := h
theorem s_cons {ta : TE} {tr : TA} {F : List V → Hp → Prop} (h : ta σ H fun x H1 => tr σ H1 fun xs H2 => F (x :: xs) H2) : tCons ta tr σ H F := h
theorem s_tup {t : TA} (h : t σ H fun xs H1 => NewT xs H1 Q) : tTup t σ H Q := h
theorem s_lst {t : TA} (h : t σ H fun xs H1 => NewL xs H1 Q) : tLst t σ H Q := h
theorem s_new {o : HO} {Q : VK} (h : ∀ p H', H p = none → Same H H' → H' p = some o → Q (.ref p) H') : ∀ p, H p = none → Q (.ref p) (upd H p o) := fun p np => h p _ np (Same.new np) upd_same
theorem s_newT {xs : List V} (hz : xs.length ≤ sizeLine) (h : ∀ p H', H p = none → Same H H' → H' p = some (.tup xs) → Q (.ref p) H') : NewT xs H Q := ⟨hz, s_new h⟩
theorem s_newL {xs : List V} (hz : xs.length ≤ sizeLine) (h : ∀ p H', H p = none → Same H H' → H' p = some (.lst xs) → Q (.ref p) H') : NewL xs H Q := ⟨hz, s_new h⟩
theorem s_cb {f : List V → Hp → VK → Prop} {t : TA} (h : t σ H fun vs H1 => f vs H1 Q) : tCB f t σ H Q := h
theorem s_lenT {p : Addr} {xs : List V} (hx : SqT K H p xs) (h : Q (.int xs.length) H) : rLen K [.ref p] H Q := ⟨p, xs, rfl, .inr hx, h⟩
theorem s_lenL {p : Addr} {xs : List V} (hx : SqL K H p xs) (h : Q (.int xs.length) H) : rLen K [.ref p] H Q := ⟨p, xs, rfl, .inl hx, h⟩
theorem s_max2 {i j : Int} (h : Q (.int (if j > i then j else i)) H) : rMax2 [.int i, .int j] H Q := ⟨i, j, rfl, h⟩
theorem s_int1 {i : Int} (h : Q (.int i) H) : rInt1 [.int i] H Q := .inl ⟨i, rfl, h⟩
theorem s_intB {k : Bool} (h : Q (.int (if k then 1 else 0)) H) : rInt1 [.bl k] H Q := .inr ⟨k, rfl, h⟩
theorem s_tupL {p : Addr} {xs : List V} (hx : SqL K H p xs) (h : ∀ q H', H q = none → Same H H' → H' q = some (.tup xs) → Q (.ref q) H') : rTup K [.ref p] H Q := ⟨p, xs, rfl, .inl ⟨hx, s_new h⟩⟩
theorem s_tupT {p : Addr} {xs : List V} (hx : SqT K H p xs) (h : Q (.ref p) H) : rTup K [.ref p] H Q := ⟨p, xs, rfl, .inr ⟨hx, h⟩⟩
theorem s_ixL {p : Addr} {xs : List V} {i : Int} {v : V} (hx : SqL K H p xs) (e : atI xs i = some v) (h : Q v H) : rIxL K (.ref p) (.int i) H Q := ⟨p, xs, i, v, rfl, rfl, hx, e, h⟩
theorem s_ixT {p : Addr} {xs : List V} {i : Int} {v : V} (hx : SqT K H p xs) (e : atI xs i = some v) (h : Q v H) : rIxT K (.ref p) (.int i) H Q := ⟨p, xs, i, v, rfl, rfl, hx, e, h⟩
theorem s_getL {p : Addr} {xs : List V} {k : Int} {v : V} (hx : SqL K H p xs) (h0 : 0 ≤ k) (e : xs[k.toNat]? = some v) (h : Q v H) : kGetL K (.ref p) (.int k) H Q := ⟨p, xs, k, v, rfl, rfl, hx, h0, e, h⟩
theorem s_setL {p : Addr} {xs : List V} {k : Int} {j : Nat} {v : V} {F : Hp → Prop} (hx : H p = some (.lst xs)) (e : ixN xs.length k = some j) (h : ∀ H', But p H H' → H' p = some (.lst (xs.set j v)) → F H') : rSetL (.ref p) (.int k) v H F := ⟨p, xs, k, j, rfl, rfl, hx, e, h _ But.upd upd_same⟩
theorem s_rep {p : Addr} {xs : List V} {k : Int} (hx : H p = some (.lst xs)) (h0 : -(2 ^ 63) ≤ k) (h1 : k < 2 ^ 63) (hz : xs.length * k.toNat ≤ sizeLine) (h : ∀ q H', H q = none → Same H H' → H' q = some (.lst (List.replicate k.toNat xs).flatten) → Q (.ref q) H') : rRep (.ref p) (.int k) H Q :=
  ⟨p, k, xs, rfl, rfl, hx, h0, h1, hz, s_new h⟩
theorem s_catL {p q : Addr} {xs ys : List V} (hx : H p = some (.lst xs)) (hy : H q = some (.lst ys)) (hz : xs.length + ys.length ≤ sizeLine) (h : ∀ l H', H l = none → Same H H' → H' l = some (.lst (xs ++ ys)) → Q (.ref l) H') : rCat (.ref p) (.ref q) H Q :=
  ⟨p, q, xs, ys, rfl, rfl, hx, hy, hz, s_new h⟩
theorem s_catA {p q : Addr} {xs ys : List V} (hx : SqT K H p xs) (hy : SqT K H q ys) (hz : xs.length + ys.length ≤ sizeLine) (h : ∀ l H', Same H H' → SqT K H' l (xs ++ ys) → Q (.ref l) H') : rCatA K (.ref p) (.ref q) H Q :=
  ⟨p, q, xs, ys, rfl, rfl, hx, hy, hz, fun e => h q H (Same.refl H) (by subst e; exact hy), fun _ e => h p H (Same.refl H) (by subst e; rw [List.append_nil]; exact hx), fun _ _ => s_new fun l H' _ sm e => h l H' sm (SqT.of e)⟩
def TyR (K : PySem.W.Frag) (T : String) (f : V → List V → Hp → VK → Prop) (t : TA) (σ : L2.St) (x : V) (H : Hp) (Q : VK) : Prop := tyV K T x H ∧ t σ H fun xs H2 => f x xs H2 Q
def TyR0 (K : PySem.W.Frag) (T : String) (f : V → List V → Hp → VK → Prop) (x : V) (H : Hp) (Q : VK) : Prop := tyV K T x H ∧ f x [] H Q
theorem s_bm {T : String} {f : V → List V → Hp → VK → Prop} {to : TE} {t : TA} (h : to σ H fun x H1 => TyR K T f t σ x H1 Q) : tBM K T f to t σ H Q := h
theorem s_bm0 {T : String} {f : V → List V → Hp → VK → Prop} {to : TE} (h : to σ H fun x H1 => TyR0 K T f x H1 Q) : tBM0 K T f to σ H Q := h
theorem s_tyL {p : Addr} {xs : List V} {f : V → List V → Hp → VK → Prop} {t : TA} (hx : H p = some (.lst xs)) (h : t σ H fun xs H2 => f (.ref p) xs H2 Q) : TyR K "list" f t σ (.ref p) H Q := ⟨.inl ⟨rfl, _, SqL.of hx⟩, h⟩
theorem s_tyL0 {p : Addr} {xs : List V} {f : V → List V → Hp → VK → Prop} (hx : H p = some (.lst xs)) (h : f (.ref p) [] H Q) : TyR0 K "list" f (.ref p) H Q := ⟨.inl ⟨rfl, _, SqL.of hx⟩, h⟩
theorem s_append {p : Addr} {xs : List V} {y : V} (hx : H p = some (.lst xs)) (hz : xs.length < sizeLine) (h : ∀ H', But p H H' → H' p = some (.lst (xs ++ [y])) → Q .non H') : rAppend (.ref p) [y] H Q := ⟨p, xs, y, rfl, rfl, hx, hz, h _ But.upd upd_same⟩
theorem s_pop {p : Addr} {xs : List V} {y : V} (hx : H p = some (.lst xs)) (e : xs[xs.length - 1]? = some y) (h : ∀ H', But p H H' → H' p = some (.lst xs.dropLast) → Q y H') : rPop (.ref p) [] H Q := ⟨p, xs, y, rfl, rfl, hx, e, h _ But.upd upd_same⟩
theorem s_popAt {p : Addr} {xs : List V} {y : V} {i : Int} (hx : H p = some (.lst xs)) (h0 : 0 ≤ i) (hi : i < 2 ^ 63) (e : xs[i.toNat]? = some y) (h : ∀ H', But p H H' → H' p = some (.lst (xs.eraseIdx i.toNat)) → Q y H') : rPopAt (.ref p) [.int i] H Q := by
  have hl := (List.getElem?_eq_some_iff.mp e).1
  exact ⟨p, xs, i, i.toNat, y, rfl, rfl, hx, by omega, hi, seqIndex_of h0 (by omega), e, h _ But.upd upd_same⟩
/-- tests -/
theorem s_test {te : TE} {F : Bool → Hp → Prop} (h : te σ H fun x H' => IsBl x H' F) : tTest te σ H F := h
theorem s_tB {te : TE} {F : Bool → Hp → Prop} (h : te σ H fun x H' => IsBl x H' F) : tB te σ H F := h
theorem s_bl {k : Bool} {F : Bool → Hp → Prop} (h : F k H) : IsBl (.bl k) H F := ⟨k, rfl, h⟩
theorem s_and {t u : TT} {F : Bool → Hp → Prop} (h : t σ H fun k H1 => if k = true then u σ H1 F else F false H1) : tAnd t u σ H F := h
theorem s_or {t u : TT} {F : Bool → Hp → Prop} (h : t σ H fun k H1 => if k = true then F true H1 else u σ H1 F) : tOr t u σ H F := h
theorem s_not {t : TT} {F : Bool → Hp → Prop} (h : t σ H fun k H1 => F (!k) H1) : tNot t σ H F := h
theorem s_tru {ta : TE} {F : Bool → Hp → Prop} (h : ta σ H fun x H' => IsTru K x H' F) : tTru K ta σ H F := h
theorem s_truL {p : Addr} {xs : List V} {F : Bool → Hp → Prop} (hx : SqL K H p xs) (h : F (!xs.isEmpty) H) : IsTru K (.ref p) H F := ⟨_, .inl ⟨xs, hx, rfl⟩, h⟩
theorem s_truT {p : Addr} {xs : List V} {F : Bool → Hp → Prop} (hx : SqT K H p xs) (h : F (!xs.isEmpty) H) : IsTru K (.ref p) H F := ⟨_, .inr (.inl ⟨xs, hx, rfl⟩), h⟩
/-- loops -/
theorem s_for {wi : TI} {g : TG} {tb : TS} (h : wi σ H fun J H1 => ForW g tb r n J σ H1) : tFor wi g tb ⟨n, r, b, c⟩ σ H := h
theorem s_rng1 {ta : TA} {R : It → Hp → Prop} (h : ta σ H fun vs H1 => Rng1 vs H1 R) : iRng1 ta σ H R := h
theorem s_rng2 {ta : TA} {R : It → Hp → Prop} (h : ta σ H fun vs H1 => Rng2 vs H1 R) : iRng2 ta σ H R := h
theorem s_rng3 {ta : TA} {R : It → Hp → Prop} (h : ta σ H fun vs H1 => Rng3 vs H1 R) : iRng3 ta σ H R := h
theorem s_rng1v {j : Int} {R : It → Hp → Prop} (h0 : -(2 ^ 62) ≤ j) (h1 : j < 2 ^ 62) (h : R (Itr 0 j.toNat) H) : Rng1 [.int j] H R := ⟨j, rfl, h0, h1, h⟩
theorem s_rng2v {i j : Int} {R : It → Hp → Prop} (h0 : -(2 ^ 62) ≤ i) (h1 : i < 2 ^ 62) (h2 : -(2 ^ 62) ≤ j) (h3 : j < 2 ^ 62) (h : R (Itr i (j - i).toNat) H) : Rng2 [.int i, .int j] H R := ⟨i, j, rfl, ⟨h0, h1, h2, h3⟩, h⟩
theorem s_rng3v {i j c : Int} {m : Nat} {R : It → Hp → Prop} (hc : RgC i j c m) (h : R (Itc i c m) H) : Rng3 [.int i, .int j, .int c] H R := ⟨i, j, c, m, rfl, hc, h⟩
theorem s_ilist {tl : TE} {R : It → Hp → Prop} (h : tl σ H fun x H1 => WlkL K x H1 R) : iList K tl σ H R := h
theorem s_ilistv {a : Addr} {xs : List V} {R : It → Hp → Prop} (hx : SqL K H a xs) (h : R (Itl K a) H) : WlkL K (.ref a) H R := ⟨a, rfl, ⟨xs, hx⟩, h⟩
theorem s_itup {tl : TE} {R : It → Hp → Prop} (h : tl σ H fun x H1 => WlkT K x H1 R) : iTup K tl σ H R := h
theorem s_itupv {a : Addr} {xs : List V} {R : It → Hp → Prop} (hx : SqT K H a xs) (h : R (Itt K a) H) : WlkT K (.ref a) H R := ⟨a, rfl, ⟨xs, hx⟩, h⟩
theorem s_iany {tl : TE} {R : It → Hp → Prop} (h : tl σ H fun x H1 => WlkA K x H1 R) : iAny K tl σ H R := h
theorem s_ianyL {a : Addr} {xs : List V} {R : It → Hp → Prop} (hx : SqL K H a xs) (h : R (Itl K a) H) : WlkA K (.ref a) H R := ⟨a, rfl, .inl ⟨xs, hx, h⟩⟩
theorem s_ianyT {a : Addr} {xs : List V} {R : It → Hp → Prop} (hx : SqT K H a xs) (h : R (Itt K a) H) : WlkA K (.ref a) H R := ⟨a, rfl, .inr ⟨xs, hx, h⟩⟩
theorem s_ienum {ta : TA} {R : It → Hp → Prop} (h : ta σ H fun vs H1 => WlkE K vs H1 R) : iEnumA K ta σ H R := h
theorem s_ienumT {a : Addr} {xs : List V} {R : It → Hp → Prop} (hx : SqT K H a xs) (h : R (IteT K a) H) : WlkE K [.ref a] H R := ⟨a, xs, rfl, .inr ⟨hx, h⟩⟩
theorem s_ienumL {a : Addr} {xs : List V} {R : It → Hp → Prop} (hx : SqL K H a xs) (h : R (Ite K a) H) : WlkE K [.ref a] H R := ⟨a, xs, rfl, .inl ⟨hx, h⟩⟩
theorem s_irev {te : TE} {R : It → Hp → Prop} (h : te σ H fun v H1 => WlkV K v H1 R) : RT.iRevA K te σ H R := h
theorem s_irevT {a : Addr} {xs : List V} {R : It → Hp → Prop} (hx : SqT K H a xs) (h : R (RT.ItvT K a xs.length) H) : WlkV K (.ref a) H R := ⟨a, xs, rfl, .inr ⟨hx, h⟩⟩
theorem s_irevL {a : Addr} {xs : List V} {R : It → Hp → Prop} (hx : SqL K H a xs) (h : R (Itv K a xs.length) H) : WlkV K (.ref a) H R := ⟨a, xs, rfl, .inl ⟨hx, h⟩⟩
/-- loops by an invariant over the turn -/
theorem w_list {g : TG} {tb : TS} {a : Addr} {xs : List V} (Pv : Nat → L2.St → Hp → Prop) (h0 : Pv 0 σ H) (hl : ∀ i σ H, i ≤ xs.length → Pv i σ H → SqL K H a xs)
    (hs : ∀ i x σ H, xs[i]? = some x → Pv i σ H → g x σ H fun σ2 H2 => tb ⟨Pv (i + 1), r, n, Pv (i + 1)⟩ σ2 H2) (hd : ∀ σ H, Pv xs.length σ H → n σ H) : ForW g tb r n (Itl K a) σ H :=
  for_list (D := ⟨n, r, fun _ _ => False, fun _ _ => False⟩) Pv h0 hl hs hd
theorem w_tup {g : TG} {tb : TS} {a : Addr} {xs : List V} (Pv : Nat → L2.St → Hp → Prop) (h0 : Pv 0 σ H) (hl : ∀ i σ H, i ≤ xs.length → Pv i σ H → SqT K H a xs)
    (hs : ∀ i x σ H, xs[i]? = some x → Pv i σ H → g x σ H fun σ2 H2 => tb ⟨Pv (i + 1), r, n, Pv (i + 1)⟩ σ2 H2) (hd : ∀ σ H, Pv xs.length σ H → n σ H) : ForW g tb r n (Itt K a) σ H :=
  for_tup (D := ⟨n, r, fun _ _ => False, fun _ _ => False⟩) Pv h0 hl hs hd
theorem w_range {g : TG} {tb : TS} {lo : Int} {m : Nat} (Pv : Nat → L2.St → Hp → Prop) (h0 : Pv 0 σ H)
    (hs : ∀ i σ H, i < m → Pv i σ H → g (.int (lo + i)) σ H fun σ2 H2 => tb ⟨Pv (i + 1), r, n, Pv (i + 1)⟩ σ2 H2) (hd : ∀ σ H, Pv m σ H → n σ H) : ForW g tb r n (Itr lo m) σ H :=
  for_range (D := ⟨n, r, fun _ _ => False, fun _ _ => False⟩) Pv h0 hs hd
theorem w_rangeC {g : TG} {tb : TS} {lo c' : Int} {m : Nat} (Pv : Nat → L2.St → Hp → Prop) (h0 : Pv 0 σ H)
    (hs : ∀ i σ H, i < m → Pv i σ H → g (.int (lo + i * c')) σ H fun σ2 H2 => tb ⟨Pv (i + 1), r, n, Pv (i + 1)⟩ σ2 H2) (hd : ∀ σ H, Pv m σ H → n σ H) : ForW g tb r n (Itc lo c' m) σ H :=
  for_rangeC (D := ⟨n, r, fun _ _ => False, fun _ _ => False⟩) Pv h0 hs hd
theorem w_enumT {g : TG} {tb : TS} {a : Addr} {xs : List V} (Pv : Nat → L2.St → Hp → Prop) (h0 : Pv 0 σ H) (hl : ∀ i σ H, i ≤ xs.length → Pv i σ H → SqT K H a xs)
    (hs : ∀ i x σ H T H', xs[i]? = some x → Pv i σ H → H T = none → Same H H' → H' T = some (.tup [.int (i : Nat), x]) → g (.ref T) σ H' fun σ2 H2 => tb ⟨Pv (i + 1), r, n, Pv (i + 1)⟩ σ2 H2) (hd : ∀ σ H, Pv xs.length σ H → n σ H) : ForW g tb r n (IteT K a) σ H :=
  for_enumT (D := ⟨n, r, fun _ _ => False, fun _ _ => False⟩) Pv h0 hl (fun i x σ H T e p nT => hs i x σ H T _ e p nT (Same.new nT) upd_same) hd
theorem w_revT {g : TG} {tb : TS} {a : Addr} {xs : List V} (Pv : Nat → L2.St → Hp → Prop) (h0 : Pv 0 σ H) (hq : ∀ i σ H, Pv i σ H → SqT K H a xs)
    (hs : ∀ (i : Nat) (x : V) (σ : L2.St) (H : Hp), i < xs.length → xs[xs.length - 1 - i]? = some x → Pv i σ H → g x σ H fun σ2 H2 => tb ⟨Pv (i + 1), r, n, Pv (i + 1)⟩ σ2 H2) (hd : ∀ σ H, Pv xs.length σ H → n σ H) : ForW g tb r n (RT.ItvT K a xs.length) σ H :=
  RT.for_ItvT (D := ⟨n, r, fun _ _ => False, fun _ _ => False⟩) Pv h0 hq hs hd
/-- the int in a slot -/
def ival (σ : L2.St) (i : Nat) : Int := match σ[i]? with
  | some (some (.int k)) => k
  | _ => 0
theorem s_wh {tc : TT} {tb : TS} (Pv : L2.St → Hp → Prop) (μ : L2.St → Hp → Nat) (h0 : Pv σ H) (hs : ∀ σ H, Pv σ H → tc σ H (fun k H1 => if k = true then ∃ N : L2.St → Hp → Prop, (∀ σ' H', N σ' H' → ∃ m', m' < μ σ H ∧ m' = μ σ' H' ∧ Pv σ' H') ∧ tb ⟨N, r, n, N⟩ σ H1 else n σ H1)) :
    tWhile tc tb ⟨n, r, b, c⟩ σ H := by
  refine ⟨fun m σ H => m = μ σ H ∧ Pv σ H, ⟨_, rfl, h0⟩, ?_⟩
  rintro m σ H ⟨rfl, p⟩
  exact hs σ H p
theorem s_wN {tb : TS} {Pv : L2.St → Hp → Prop} {μ : L2.St → Hp → Nat} {m : Nat} (h : tb ⟨fun σ' H' => Pv σ' H' ∧ μ σ' H' < m, r, n, fun σ' H' => Pv σ' H' ∧ μ σ' H' < m⟩ σ H) : ∃ N : L2.St → Hp → Prop, (∀ σ' H', N σ' H' → ∃ m', m' < m ∧ m' = μ σ' H' ∧ Pv σ' H') ∧ tb ⟨N, r, n, N⟩ σ H :=
  ⟨_, fun σ' H' x => ⟨_, x.2, rfl, x.1⟩, h⟩
/-- slices -/
theorem s_sl {f : V → Option Int → Option Int → Hp → VK → Prop} {te : TE} {tl th : TO} (h : te σ H fun x H1 => tl σ H1 fun l H2 => th σ H2 fun u H3 => f x l u H3 Q) : tSl f te tl th σ H Q := h
theorem s_part {t : TE} {F : Option Int → Hp → Prop} (h : t σ H fun x H1 => IsPart x H1 F) : tPart t σ H F := h
theorem s_partv {i : Int} {F : Option Int → Hp → Prop} (h : F (some i) H) : IsPart (.int i) H F := ⟨i, rfl, h⟩
theorem s_noPart {F : Option Int → Hp → Prop} (h : F none H) : tNoPart σ H F := h
theorem s_slL {p : Addr} {xs : List V} {lo hi : Option Int} (hx : SqL K H p xs) (h : ∀ q H', H q = none → Same H H' → H' q = some (.lst (cutV xs lo hi)) → Q (.ref q) H') : rSlL K (.ref p) lo hi H Q := ⟨p, xs, rfl, hx, s_new h⟩
/-- comprehensions -/
theorem s_lc {wi : TI} {g : TG} {tt : TT} {te : TE} {vs : List Nat} (h : wi σ H fun J H1 => LcW g tt te vs Q σ J H1) : tLc wi g tt te vs σ H Q := h
def LcEnd (D : Addr) (Nx : Hp → Prop) (y : V) (H : Hp) : Prop := ∃ acc, H D = some (.lst acc) ∧ acc.length < sizeLine ∧ Nx (upd H D (.lst (acc ++ [y])))
theorem s_lcEnd {D : Addr} {acc : List V} {y : V} {Nx : Hp → Prop} (hD : H D = some (.lst acc)) (hz : acc.length < sizeLine) (h : ∀ H', But D H H' → H' D = some (.lst (acc ++ [y])) → Nx H') : LcEnd D Nx y H := ⟨acc, hD, hz, h _ But.upd upd_same⟩
/-- .. by an invariant over the turn and what the new list at D holds -/
theorem l_range {g : TG} {tt : TT} {te : TE} {vs : List Nat} {lo : Int} {m : Nat} (Pv : Addr → Nat → Hp → Prop) (h0 : ∀ D H', H D = none → Same H H' → H' D = some (.lst []) → Pv D 0 H')
    (hs : ∀ D i H, i < m → Pv D i H → g (.int (lo + i)) (wipe σ vs) H fun σ2 H2 => wipe σ2 vs = wipe σ vs ∧ tt σ2 H2 fun b H3 => if b = true then te σ2 H3 fun y H4 => LcEnd D (Pv D (i + 1)) y H4 else Pv D (i + 1) H3) (hd : ∀ D H, Pv D m H → Q (.ref D) H) : LcW g tt te vs Q σ (Itr lo m) H :=
  fun D nD => lc_range (Pv D) (h0 D _ nD (Same.new nD) upd_same) (hs D) (hd D)
theorem l_list {g : TG} {tt : TT} {te : TE} {vs : List Nat} {a : Addr} {xs : List V} (Pv : Addr → Nat → Hp → Prop) (h0 : ∀ D H', H D = none → Same H H' → H' D = some (.lst []) → Pv D 0 H') (hl : ∀ D i H, i ≤ xs.length → Pv D i H → SqL K H a xs)
    (hs : ∀ D i x H, xs[i]? = some x → Pv D i H → g x (wipe σ vs) H fun σ2 H2 => wipe σ2 vs = wipe σ vs ∧ tt σ2 H2 fun b H3 => if b = true then te σ2 H3 fun y H4 => LcEnd D (Pv D (i + 1)) y H4 else Pv D (i + 1) H3) (hd : ∀ D H, Pv D xs.length H → Q (.ref D) H) : LcW g tt te vs Q σ (Itl K a) H :=
  fun D nD => lc_list (Pv D) (h0 D _ nD (Same.new nD) upd_same) (hl D) (hs D) (hd D)
theorem l_tup {g : TG} {tt : TT} {te : TE} {vs : List Nat} {a : Addr} {xs : List V} (Pv : Addr → Nat → Hp → Prop) (h0 : ∀ D H', H D = none → Same H H' → H' D = some (.lst []) → Pv D 0 H') (hl : ∀ D i H, i ≤ xs.length → Pv D i H → SqT K H a xs)
    (hs : ∀ D i x H, xs[i]? = some x → Pv D i H → g x (wipe σ vs) H fun σ2 H2 => wipe σ2 vs = wipe σ vs ∧ tt σ2 H2 fun b H3 => if b = true then te σ2 H3 fun y H4 => LcEnd D (Pv D (i + 1)) y H4 else Pv D (i + 1) H3) (hd : ∀ D H, Pv D xs.length H → Q (.ref D) H) : LcW g tt te vs Q σ (Itt K a) H :=
  fun D nD => lc_tup (Pv D) (h0 D _ nD (Same.new nD) upd_same) (hl D) (hs D) (hd D)
/-- a list made item by item, nothing else changed: the k-th item is F k -/
theorem map_range_succ (F : Nat → V) (i : Nat) : (List.range (i + 1)).map F = (List.range i).map F ++ [F i] := by
  rw [List.range_succ, List.map_append]
  rfl
theorem l_mapL {g : TG} {tt : TT} {te : TE} {vs : List Nat} {a : Addr} {xs : List V} (F : Nat → V) (hx : SqL K H a xs) (hz : xs.length ≤ 100000)
    (hs : ∀ (D : Addr) (N : Hp → Prop) (i : Nat) (x : V) (H' : Hp), xs[i]? = some x → Same H H' → (∀ H4, Same H' H4 → LcEnd D N (F i) H4) → g x (wipe σ vs) H' fun σ2 H2 => wipe σ2 vs = wipe σ vs ∧ tt σ2 H2 fun b H3 => if b = true then te σ2 H3 fun y H4 => LcEnd D N y H4 else N H3)
    (hd : ∀ D H', H D = none → Same H H' → H' D = some (.lst ((List.range xs.length).map F)) → Q (.ref D) H') : LcW g tt te vs Q σ (Itl K a) H := by
  have line : (100000 : Nat) < sizeLine := by decide
  refine l_list (fun D i H' => H D = none ∧ Same H H' ∧ H' D = some (.lst ((List.range i).map F))) (fun D H' n sm e => ⟨n, sm, e⟩) (fun D i H' _ p => sql_same p.2.1 hx) ?_ fun D H' p => hd D H' p.1 p.2.1 p.2.2
  rintro D i x H' e ⟨n, sm, eD⟩
  have hi := (List.getElem?_eq_some_iff.mp e).1
  refine hs D (fun H' => H D = none ∧ Same H H' ∧ H' D = some (.lst ((List.range (i + 1)).map F))) i x H' e sm fun H4 s4 => ?_
  refine s_lcEnd (s4 _ _ eD) (by rw [List.length_map, List.length_range]; omega) fun H5 b5 e5 => ⟨n, But.same b5 (sm.trans s4) n, ?_⟩
  rw [map_range_succ]
  exact e5
theorem l_mapT {g : TG} {tt : TT} {te : TE} {vs : List Nat} {a : Addr} {xs : List V} (F : Nat → V) (hx : SqT K H a xs) (hz : xs.length ≤ 100000)
    (hs : ∀ (D : Addr) (N : Hp → Prop) (i : Nat) (x : V) (H' : Hp), xs[i]? = some x → Same H H' → (∀ H4, Same H' H4 → LcEnd D N (F i) H4) → g x (wipe σ vs) H' fun σ2 H2 => wipe σ2 vs = wipe σ vs ∧ tt σ2 H2 fun b H3 => if b = true then te σ2 H3 fun y H4 => LcEnd D N y H4 else N H3)
    (hd : ∀ D H', H D = none → Same H H' → H' D = some (.lst ((List.range xs.length).map F)) → Q (.ref D) H') : LcW g tt te vs Q σ (Itt K a) H := by
  have line : (100000 : Nat) < sizeLine := by decide
  refine l_tup (fun D i H' => H D = none ∧ Same H H' ∧ H' D = some (.lst ((List.range i).map F))) (fun D H' n sm e => ⟨n, sm, e⟩) (fun D i H' _ p => sqt_same p.2.1 hx) ?_ fun D H' p => hd D H' p.1 p.2.1 p.2.2
  rintro D i x H' e ⟨n, sm, eD⟩
  have hi := (List.getElem?_eq_some_iff.mp e).1
  refine hs D (fun H' => H D = none ∧ Same H H' ∧ H' D = some (.lst ((List.range (i + 1)).map F))) i x H' e sm fun H4 s4 => ?_
  refine s_lcEnd (s4 _ _ eD) (by rw [List.length_map, List.length_range]; omega) fun H5 b5 e5 => ⟨n, But.same b5 (sm.trans s4) n, ?_⟩
  rw [map_range_succ]
  exact e5
theorem l_map {g : TG} {tt : TT} {te : TE} {vs : List Nat} {a : Addr} {xs : List V} (F : Nat → V) (hx : SqL K H a xs ∨ SqT K H a xs) (hz : xs.length ≤ 100000)
    (hs : ∀ (D : Addr) (N : Hp → Prop) (i : Nat) (x : V) (H' : Hp), xs[i]? = some x → Same H H' → (∀ H4, Same H' H4 → LcEnd D N (F i) H4) → g x (wipe σ vs) H' fun σ2 H2 => wipe σ2 vs = wipe σ vs ∧ tt σ2 H2 fun b H3 => if b = true then te σ2 H3 fun y H4 => LcEnd D N y H4 else N H3)
    (hd : ∀ D H', H D = none → Same H H' → H' D = some (.lst ((List.range xs.length).map F)) → Q (.ref D) H') : WlkA K (.ref a) H (fun J H1 => LcW g tt te vs Q σ J H1) :=
  hx.elim (fun hx => s_ianyL hx (l_mapL F hx hz hs hd)) (fun hx => s_ianyT hx (l_mapT F hx hz hs hd))
theorem l_mapR {g : TG} {tt : TT} {te : TE} {vs : List Nat} {lo : Int} {m : Nat} (F : Nat → V) (hz : m ≤ 100000)
    (hs : ∀ (D : Addr) (N : Hp → Prop) (i : Nat) (H' : Hp), i < m → Same H H' → (∀ H4, Same H' H4 → LcEnd D N (F i) H4) → g (.int (lo + i)) (wipe σ vs) H' fun σ2 H2 => wipe σ2 vs = wipe σ vs ∧ tt σ2 H2 fun b H3 => if b = true then te σ2 H3 fun y H4 => LcEnd D N y H4 else N H3)
    (hd : ∀ D H', H D = none → Same H H' → H' D = some (.lst ((List.range m).map F)) → Q (.ref D) H') : LcW g tt te vs Q σ (Itr lo m) H := by
  have line : (100000 : Nat) < sizeLine := by decide
  refine l_range (fun D i H' => H D = none ∧ Same H H' ∧ H' D = some (.lst ((List.range i).map F))) (fun D H' n sm e => ⟨n, sm, e⟩) ?_ fun D H' p => hd D H' p.1 p.2.1 p.2.2
  rintro D i H' hi ⟨n, sm, eD⟩
  refine hs D (fun H' => H D = none ∧ Same H H' ∧ H' D = some (.lst ((List.range (i + 1)).map F))) i H' hi sm fun H4 s4 => ?_
  refine s_lcEnd (s4 _ _ eD) (by rw [List.length_map, List.length_range]; omega) fun H5 b5 e5 => ⟨n, But.same b5 (sm.trans s4) n, ?_⟩
  rw [map_range_succ]
  exact e5
theorem s_wipe {σ1 σ2 : L2.St} {vs : List Nat} {B : Prop} (e : wipe σ1 vs = wipe σ2 vs) (h : B) : wipe σ1 vs = wipe σ2 vs ∧ B := ⟨e, h⟩
theorem s_yes {F : Bool → Hp → Prop} (h : F true H) : tYes σ H F := h
end
end Z
namespace Z
open PySem PySem.Spec PyProof.Rows L2
/-! the rules with the written part named -/
section
variable {X : Cx} (K : PySem.W.Frag)
theorem pe_notK {a : Expr} {ta : TE} {pos : Pos} (ha : PE X a ta) (e : X.K = K := by rfl) : PE X (.UnaryOp .Not a pos) (tNotT K ta) := by subst e; exact pe_notT ha
theorem op_catK (e : X.K = K := by rfl) : OpR X (binaryOp .Add) (rCatA K) := by subst e; exact op_catA
theorem op_eqK (hu : X.A.units + 64 < cLine) (e : X.K = K := by rfl) : OpR X (compareOp .Eq) (rEqD K) := by subst e; exact op_eqD hu
theorem op_neK (hu : X.A.units + 64 < cLine) (e : X.K = K := by rfl) : OpR X (compareOp .NotEq) (rNeD K) := by subst e; exact op_neD hu
theorem sl_listK (e : X.K = K := by rfl) : SlR X (rSlL K) := by subst e; exact sl_list
theorem sl_tupK (e : X.K = K := by rfl) : SlR X (rSlA K) := by subst e; exact sl_tupA
theorem ix_listK (e : X.K = K := by rfl) : IxR X (rIxL K) := by subst e; exact ix_list
theorem ix_tupK (e : X.K = K := by rfl) : IxR X (rIxT K) := by subst e; exact ix_tup
theorem ix_seqK (e : X.K = K := by rfl) : IxR X (rIx K) := by subst e; exact ix_seq
theorem c_lenK (e : X.K = K := by rfl) : CallR X (.builtin "len") (rLen K) := by subst e; exact c_len
theorem cr_sumK (hc : X.calm = true) (e : X.K = K := by rfl) : CallR X (.builtin "sum") (rSum K) := by subst e; exact cr_sum hc
theorem cr_anyK (hc : X.calm = true) (e : X.K = K := by rfl) : CallR X (.builtin "any") (rAny K) := by subst e; exact cr_any hc
theorem cr_allK (hc : X.calm = true) (e : X.K = K := by rfl) : CallR X (.builtin "all") (rAll K) := by subst e; exact cr_all hc
theorem c_tupK (e : X.K = K := by rfl) : CallR X (.type "tuple") (rTup K) := by subst e; exact c_tup
theorem c_isiK (e : X.K = K := by rfl) : CallR X (.builtin "isinstance") (rIsi K) := by subst e; exact call_isi
theorem pi_listK {tg l : Expr} {tl : TE} (hl : PE X l tl) (e : X.K = K := by rfl) : PI X tg l (iList K tl) := by subst e; exact pi_list hl
theorem pi_tupK {tg l : Expr} {tl : TE} (hl : PE X l tl) (e : X.K = K := by rfl) : PI X tg l (iTup K tl) := by subst e; exact pi_tup hl
theorem pi_anyK {tg l : Expr} {tl : TE} (hl : PE X l tl) (e : X.K = K := by rfl) : PI X tg l (iAny K tl) := by subst e; exact pi_any hl
theorem pt_truK {a : Expr} {ta : TE} (ha : PE X a ta) (he : ∀ whole, isTrue a X.env whole = (do let v ← whole; standAt a.pos; holding [v] (truthy v))) (e : X.K = K := by rfl) : PT X a (tTru K ta) := by subst e; exact pt_tru ha he
theorem pg_tupK {es : List Expr} {k : Nat} {t : TGs} {pos : Pos} (n : Nat) (hc : X.calm = true) (h : PGs X es t) (hn : (assignEach es X.env).length = n := by rfl) (hst : (assignEach es X.env).findIdx? (·.1) = none := by rfl) (e : X.K = K := by rfl) : PG X (.Tuple es k pos) (gTup K n t) := by subst e; exact pg_tup hc h hn hst
theorem pi_enumK {e : Expr} {ta : TA} {p pos tpos : Pos} {elts : List Expr} {kk : Nat} (hg : Gl X "enumerate") (hm : X.mg "enumerate" = none) (ha : PA X [e] ta) (hs : starEach [e] X.env = [(false, eval e X.env)] := by rfl) (ek : X.K = K := by rfl) :
    PI X (.Tuple elts kk tpos) (.Call (.Name "enumerate" p) [e] [] pos) (iEnumA K ta) := by subst ek; exact pi_enumA hg hm ha hs
theorem pi_revK {tg e : Expr} {te : TE} {p pos : Pos} (hg : Gl X "reversed") (hm : X.mg "reversed" = none) (he : PE X e te) (hs : starEach [e] X.env = (false, eval e X.env) :: starEach [] X.env := by rfl) (ek : X.K = K := by rfl) :
    PI X tg (.Call (.Name "reversed" p) [e] [] pos) (RT.iRevA K te) := by subst ek; exact RT.pi_revA hg hm he hs
section
variable {o e : Expr} {es : List Expr} {to : TE} {t : TA} {name : Str} {apos cpos : Pos} {T id : String} {r : V → List V → Hp → VK → Prop}
theorem pe_bm0K (pa : PlainAttrs T) (slot : Slot T name id) (hty : typeOf (.builtin id) = pure (.type "method_descriptor")) (hm : MtR X id r) (ho : PE X o to)
    (hbase : attributeBase o name X.env (eval o X.env) = eval o X.env := by rfl) (hline : (apos.endLine == cpos.line) = true := by rfl) (ek : X.K = K := by rfl) : PE X (.Call (.Attribute o name apos) [] [] cpos) (tBM0 K T r to) := by subst ek; exact pe_bm0 pa slot hty hm ho hbase hline
theorem pe_bmK (pa : PlainAttrs T) (slot : Slot T name id) (hty : typeOf (.builtin id) = pure (.type "method_descriptor")) (hm : MtR X id r) (ho : PE X o to) (ha : PA X (e :: es) t)
    (hbase : attributeBase o name X.env (eval o X.env) = eval o X.env := by rfl)
    (hfew : ((backTo cpos (starEach (e :: es) X.env)).all (fun x => !x.1) && (backToKw cpos (keywordEach [] X.env)).all (fun x => x.1.isSome)
      && decide ((e :: es).length + ([] : List Keyword).length + (if ([] : List Keyword).isEmpty then 0 else 1) < 30)) = true := by rfl)
    (hline : (apos.endLine == cpos.line) = true := by rfl) (hs : starEach (e :: es) X.env = (false, eval e X.env) :: starEach es X.env := by rfl) (hplain : (backTo cpos (starEach es X.env)).any (·.1) = false := by rfl) (ek : X.K = K := by rfl) :
    PE X (.Call (.Attribute o name apos) (e :: es) [] cpos) (tBM K T r to t) := by subst ek; exact pe_bm pa slot hty hm ho ha hbase hfew hline hs hplain
end
theorem g_listK (e : X.K = K := by rfl) : PGet X (kGetL K) := by subst e; exact g_list
end
/-! heaps, lists, further steps -/
theorem But.sameN {c d : Addr} {H H1 H2 : Hp} (b : But c H1 H2) (a : But d H H1) (n : H c = none) : But d H H2 := fun x o nd e => b x o (ne_of_none e n) (a x o nd e)
theorem map_erase (ns : List Int) (i : Nat) : (ns.map V.int).eraseIdx i = (ns.eraseIdx i).map V.int := by
  induction ns generalizing i with
  | nil => rfl
  | cons a r ih =>
    cases i with
    | zero => rfl
    | succ i => show V.int a :: (r.map V.int).eraseIdx i = V.int a :: (r.eraseIdx i).map V.int; rw [ih]
theorem range_all (n : Nat) (v : Bool) : ((List.range n).map fun _ => V.bl v) = (List.replicate n v).map V.bl := by
  induction n with
  | zero => rfl
  | succ n ih => rw [List.range_succ, List.map_append, ih, List.replicate_succ', List.map_append]; rfl
theorem any_false (n : Nat) : (List.replicate n false).any id = false := by induction n with
  | zero => rfl
  | succ n ih => rw [List.replicate_succ, List.any_cons, ih]; rfl
theorem all_true (n : Nat) : (List.replicate n true).all id = true := by induction n with
  | zero => rfl
  | succ n ih => rw [List.replicate_succ, List.all_cons, ih]; rfl
section
variable {K : PySem.W.Frag} {H : Hp} {Q : VK}
theorem s_sum {p : Addr} {ns : List Int} (hx : SqL K H p (ns.map V.int)) (h : Q (.int ns.sum) H) : rSum K [.ref p] H Q := ⟨p, ns, rfl, hx, h⟩
theorem s_any {p : Addr} {bs : List Bool} (hx : SqL K H p (bs.map V.bl)) (h : Q (.bl (bs.any id)) H) : rAny K [.ref p] H Q := ⟨p, bs, rfl, hx, h⟩
theorem s_all {p : Addr} {bs : List Bool} (hx : SqL K H p (bs.map V.bl)) (h : Q (.bl (bs.all id)) H) : rAll K [.ref p] H Q := ⟨p, bs, rfl, hx, h⟩
theorem dp_ints : ∀ ns : List Int, DpAll K H (ns.map V.int) (ns.map PyData.int)
  | [] => .nil
  | n :: r => .cons (.int n) (dp_ints r)
theorem dp_t {a : Addr} {ns : List Int} (h : SqT K H a (ns.map V.int)) : Dp K H (.ref a) (.tuple (ns.map PyData.int)) := .tup h (dp_ints ns)
theorem dp_l {a : Addr} {ns : List Int} (h : SqL K H a (ns.map V.int)) : Dp K H (.ref a) (.list (ns.map PyData.int)) := .lst h (dp_ints ns)
end
end Z
namespace Z
open PySem PySem.Spec PyProof.Rows L2
/-! data -/
mutual
/-- no truth values, no dicts -/
def noB : PyData → Bool
  | .none => true
  | .bool _ => false
  | .int _ => true
  | .str _ => true
  | .list xs => noBs xs
  | .tuple xs => noBs xs
  | .dict _ => false
def noBs : List PyData → Bool
  | [] => true
  | x :: xs => noB x && noBs xs
end
mutual
theorem eqv_iff : ∀ d e : PyData, noB d = true → noB e = true → (PyData.eqv d e = true ↔ d = e)
  | .none, e, _, he => by cases e <;> simp_all [PyData.eqv, noB]
  | .int a, e, _, he => by cases e <;> simp_all [PyData.eqv, noB]
  | .str a, e, _, he => by cases e <;> simp_all [PyData.eqv, noB]
  | .list xs, e, hd, he => by
    cases e with
    | list ys =>
      rw [PyData.eqv, eqvs_iff xs ys (by simpa [noB] using hd) (by simpa [noB] using he)]
      exact ⟨fun h => by rw [h], fun h => by cases h; rfl⟩
    | _ => simp_all [PyData.eqv, noB]
  | .tuple xs, e, hd, he => by
    cases e with
    | tuple ys =>
      rw [PyData.eqv, eqvs_iff xs ys (by simpa [noB] using hd) (by simpa [noB] using he)]
      exact ⟨fun h => by rw [h], fun h => by cases h; rfl⟩
    | _ => simp_all [PyData.eqv, noB]
  | .bool _, _, hd, _ => by simp [noB] at hd
  | .dict _, _, hd, _ => by simp [noB] at hd
theorem eqvs_iff : ∀ xs ys : List PyData, noBs xs = true → noBs ys = true → (PyData.eqvAll xs ys = true ↔ xs = ys)
  | [], [], _, _ => by simp [PyData.eqvAll]
  | [], _ :: _, _, _ => by simp [PyData.eqvAll]
  | _ :: _, [], _, _ => by simp [PyData.eqvAll]
  | x :: xs, y :: ys, h, g => by
    have h' : noB x = true ∧ noBs xs = true := by simpa [noBs] using h
    have g' : noB y = true ∧ noBs ys = true := by simpa [noBs] using g
    rw [PyData.eqvAll, Bool.and_eq_true, eqv_iff x y h'.1 g'.1, eqvs_iff xs ys h'.2 g'.2]
    exact ⟨fun z => by rw [z.1, z.2], fun z => by cases z; exact ⟨rfl, rfl⟩⟩
end
theorem noBs_ints : ∀ ns : List Int, noBs (ns.map PyData.int) = true
  | [] => rfl
  | _ :: r => by simp [noBs, noB, noBs_ints r]
theorem canLayAll_ints : ∀ ns : List Int, PyData.canLayAll0 (ns.map PyData.int) = true
  | [] => rfl
  | _ :: r => by simp [PyData.canLayAll0, PyData.canLay0, canLayAll_ints r]
theorem depthAll_ints : ∀ ns : List Int, PyData.depthAll (ns.map PyData.int) = 0
  | [] => rfl
  | _ :: r => by simp [PyData.depthAll, PyData.depth, depthAll_ints r]
theorem shaped_t (ns : List Int) : SeqAt.shaped (.tuple (ns.map PyData.int)) = true := by
  simp [SeqAt.shaped, PyData.canLay0, PyData.depth, canLayAll_ints, depthAll_ints]
theorem shaped_l (ns : List Int) : SeqAt.shaped (.list (ns.map PyData.int)) = true := by
  simp [SeqAt.shaped, PyData.canLay0, PyData.depth, canLayAll_ints, depthAll_ints]
theorem eqv_self {d : PyData} (h : SeqAt.shaped d = true) : PyData.eqv d d = true := SeqAt.eqv_refl d (SeqAt.canLay_of_shaped h)
def rIsN : R2 := fun x y H Q => y = .non ∧ Q (.bl (decide (x = .non))) H
def rNotN : R2 := fun x y H Q => y = .non ∧ Q (.bl (!decide (x = .non))) H
theorem op_isNn {X : Cx} : OpR X (compareOp .Is) rIsN := op_isN
theorem op_notNn {X : Cx} : OpR X (compareOp .IsNot) rNotN := op_notN
section
variable {K : PySem.W.Frag} {H : Hp} {Q : VK}
theorem s_eqD {x y : V} {d e : PyData} (hx : Dp K H x d) (hy : Dp K H y e) (sd : SeqAt.shaped d = true) (se : SeqAt.shaped e = true) (h : Q (.bl (PyData.eqv d e)) H) : rEqD K x y H Q := ⟨d, e, hx, hy, sd, se, h⟩
theorem s_neD {x y : V} {d e : PyData} (hx : Dp K H x d) (hy : Dp K H y e) (sd : SeqAt.shaped d = true) (se : SeqAt.shaped e = true) (h : Q (.bl (!PyData.eqv d e)) H) : rNeD K x y H Q := ⟨d, e, hx, hy, sd, se, h⟩
theorem s_eqSame {x y : V} {d : PyData} (hx : Dp K H x d) (hy : Dp K H y d) (sd : SeqAt.shaped d = true) (h : Q (.bl true) H) : rEqD K x y H Q := ⟨d, d, hx, hy, sd, sd, by rw [eqv_self sd]; exact h⟩
theorem s_neSameD {x y : V} {d : PyData} (hx : Dp K H x d) (hy : Dp K H y d) (sd : SeqAt.shaped d = true) (h : Q (.bl false) H) : rNeD K x y H Q := ⟨d, d, hx, hy, sd, sd, by rw [eqv_self sd]; exact h⟩
theorem s_neSame {a b : Addr} {ns : List Int} (hx : SqT K H a (ns.map V.int)) (hy : SqT K H b (ns.map V.int)) (h : Q (.bl false) H) : rNeD K (.ref a) (.ref b) H Q := s_neSameD (dp_t hx) (dp_t hy) (shaped_t ns) h
theorem s_isi {i : Int} {c : String} {b : Bool} (e : kitB "int" c = some b) (h : Q (.bl b) H) : rIsi K [.int i, .ty c] H Q := ⟨_, _, _, _, b, rfl, .ty c, .base (.int i), kit_ty e, h⟩
theorem s_isiI {i : Int} (h : Q (.bl false) H) : rIsi K [.int i, .ty "bool"] H Q := s_isi (by decide +kernel) h
theorem s_isN {x : V} (h : Q (.bl (decide (x = .non))) H) : rIsN x .non H Q := ⟨rfl, h⟩
theorem s_notN {x : V} (h : Q (.bl (!decide (x = .non))) H) : rNotN x .non H Q := ⟨rfl, h⟩
end
end Z
namespace M
/-! powers modulo p -/
def pw (p a : Int) (k : Nat) : Int := a ^ k % p
theorem pow_sq (a : Int) (k : Nat) : a ^ (2 * k) = (a * a) ^ k := by
  induction k with
  | zero => rw [Nat.mul_zero, Int.pow_zero, Int.pow_zero]
  | succ k ih =>
    rw [show 2 * (k + 1) = 2 * k + 1 + 1 by omega, Int.pow_succ, Int.pow_succ, ih, Int.pow_succ, Int.mul_assoc]
theorem pow_emod (p a : Int) (k : Nat) : (a % p) ^ k % p = a ^ k % p := by
  induction k with
  | zero => rw [Int.pow_zero, Int.pow_zero]
  | succ k ih => rw [Int.pow_succ, Int.pow_succ, Int.mul_emod, ih, Int.emod_emod_of_dvd _ (Int.dvd_refl p), ← Int.mul_emod]
/-- the loop of squares: what is left is a power of the square -/
theorem mul_pow_emod (p t s : Int) (k : Nat) : t * (s % p) ^ k % p = t * s ^ k % p := by
  rw [Int.mul_emod, pow_emod, ← Int.mul_emod]
theorem loop_even {p t s l x : Int} (h0 : 0 ≤ l) (he : l % 2 = 0) (h : t * s ^ l.toNat % p = x) : t * (s * s % p) ^ (l / 2).toNat % p = x := by
  rw [mul_pow_emod, ← pow_sq, show 2 * (l / 2).toNat = l.toNat by omega]
  exact h
theorem loop_odd {p t s l x : Int} (h0 : 0 ≤ l) (he : l % 2 = 1) (h : t * s ^ l.toNat % p = x) : (t * s % p) * (s * s % p) ^ (l / 2).toNat % p = x := by
  rw [mul_pow_emod, ← pow_sq, Int.mul_emod, Int.emod_emod_of_dvd _ (Int.dvd_refl p), ← Int.mul_emod, Int.mul_assoc, Int.mul_comm s, ← Int.pow_succ, show (2 * (l / 2).toNat).succ = l.toNat by omega]
  exact h
end M
namespace M
/-! lists of coefficients -/
/-- zeros at the end cut off -/
def trim : List Int → List Int
  | [] => []
  | a :: r => if a = 0 ∧ trim r = [] then [] else a :: trim r
theorem trim_snoc_zero : ∀ l : List Int, trim (l ++ [0]) = trim l
  | [] => rfl
  | a :: r => by
    show (if a = 0 ∧ trim (r ++ [0]) = [] then [] else a :: trim (r ++ [0])) = _
    rw [trim_snoc_zero r]
    rfl
theorem trim_snoc : ∀ (l : List Int) (a : Int), a ≠ 0 → trim (l ++ [a]) = l ++ [a]
  | [], a, h => by
    show (if a = 0 ∧ ([] : List Int) = [] then [] else [a]) = [a]
    rw [if_neg (fun z => h z.1)]
  | b :: r, a, h => by
    show (if b = 0 ∧ trim (r ++ [a]) = [] then [] else b :: trim (r ++ [a])) = b :: (r ++ [a])
    rw [trim_snoc r a h, if_neg (fun z => by simp at z)]
theorem trim_length : ∀ l : List Int, (trim l).length ≤ l.length
  | [] => Nat.le_refl _
  | a :: r => by
    show (if a = 0 ∧ trim r = [] then [] else a :: trim r).length ≤ r.length + 1
    have h := trim_length r
    split
    · exact Nat.zero_le _
    · simpa using h
theorem trim_trim : ∀ l : List Int, trim (trim l) = trim l
  | [] => rfl
  | a :: r => by
    show trim (if a = 0 ∧ trim r = [] then [] else a :: trim r) = (if a = 0 ∧ trim r = [] then [] else a :: trim r)
    have h := trim_trim r
    by_cases e : a = 0 ∧ trim r = []
    · rw [if_pos e]
      rfl
    · rw [if_neg e]
      show (if a = 0 ∧ trim (trim r) = [] then [] else a :: trim (trim r)) = a :: trim r
      rw [h, if_neg e]
theorem mem_trim : ∀ {l : List Int} {x : Int}, x ∈ trim l → x ∈ l
  | [], _, h => h
  | a :: r, x, h => by
    have h' : x ∈ (if a = 0 ∧ trim r = [] then [] else a :: trim r) := h
    split at h'
    · cases h'
    · rcases List.mem_cons.mp h' with e | e
      · rw [e]
        exact List.mem_cons_self ..
      · exact List.mem_cons_of_mem _ (mem_trim e)
end M
namespace M
/-! values -/
def hv (p : Int) : List Int → Int → Int
  | [], _ => 0
  | c :: r, x => (hv p r x * x + c) % p
theorem hv_lt {p : Int} (h : 0 < p) : ∀ (l : List Int) (x : Int), 0 ≤ hv p l x ∧ hv p l x < p
  | [], _ => ⟨Int.le_refl _, h⟩
  | _ :: _, _ => ⟨Int.emod_nonneg _ (by omega), Int.emod_lt_of_pos _ h⟩
theorem hv_drop (p : Int) (l : List Int) (x : Int) {i : Nat} (h : i < l.length) : hv p (l.drop i) x = (hv p (l.drop (i + 1)) x * x + l.getD i 0) % p := by
  rw [List.drop_eq_getElem_cons h, List.getD_eq_getElem?_getD, List.getElem?_eq_getElem h]
  rfl
/-- c added at the place k -/
def bump (s : List Int) (k : Nat) (c : Int) : List Int := s.set k (s.getD k 0 + c)
theorem bump_length (s : List Int) (k : Nat) (c : Int) : (bump s k c).length = s.length := by simp [bump]
/-- a times a list, added from the place k on -/
def addMul (s : List Int) (k : Nat) (a : Int) : List Int → List Int
  | [] => s
  | b :: r => addMul (bump s k (a * b)) (k + 1) a r
theorem addMul_length : ∀ (l : List Int) (s : List Int) (k : Nat) (a : Int), (addMul s k a l).length = s.length
  | [], _, _, _ => rfl
  | b :: r, s, k, a => by
    show (addMul (bump s k (a * b)) (k + 1) a r).length = s.length
    rw [addMul_length r, bump_length]
theorem addMul_take : ∀ (l : List Int) (s : List Int) (k : Nat) (a : Int) (i : Nat), i < l.length → addMul s k a (l.take (i + 1)) = bump (addMul s k a (l.take i)) (k + i) (a * l.getD i 0)
  | [], _, _, _, _, h => by simp at h
  | b :: r, s, k, a, 0, _ => by simp [addMul]
  | b :: r, s, k, a, i + 1, h => by
    show addMul (bump s k (a * b)) (k + 1) a (r.take (i + 1)) = bump (addMul (bump s k (a * b)) (k + 1) a (r.take i)) (k + (i + 1)) (a * r.getD i 0)
    rw [addMul_take r _ _ _ i (by simpa using h), show k + 1 + i = k + (i + 1) by omega]
def zeros (n : Nat) : List Int := List.replicate n 0
def addL (n : Nat) (f g : List Int) : List Int := addMul (addMul (zeros n) 0 1 f) 0 1 g
/-- products -/
def mulFrom (s : List Int) (j : Nat) (g : List Int) : List Int → List Int
  | [] => s
  | a :: r => mulFrom (addMul s j a g) (j + 1) g r
theorem mulFrom_length : ∀ (f : List Int) (s : List Int) (j : Nat) (g : List Int), (mulFrom s j g f).length = s.length
  | [], _, _, _ => rfl
  | a :: r, s, j, g => by
    show (mulFrom (addMul s j a g) (j + 1) g r).length = s.length
    rw [mulFrom_length r, addMul_length]
theorem mulFrom_take : ∀ (f : List Int) (s : List Int) (j : Nat) (g : List Int) (i : Nat), i < f.length → mulFrom s j g (f.take (i + 1)) = addMul (mulFrom s j g (f.take i)) (j + i) (f.getD i 0) g
  | [], _, _, _, _, h => by simp at h
  | b :: r, s, j, g, 0, _ => by simp [mulFrom]
  | b :: r, s, j, g, i + 1, h => by
    show mulFrom (addMul s j b g) (j + 1) g (r.take (i + 1)) = addMul (mulFrom (addMul s j b g) (j + 1) g (r.take i)) (j + (i + 1)) (r.getD i 0) g
    rw [mulFrom_take r _ _ _ i (by simpa using h), show j + 1 + i = j + (i + 1) by omega]
def mulL (f g : List Int) : List Int := mulFrom (zeros (f.length + g.length)) 0 g f
end M
namespace M
/-! modulo p -/
def Cg (p a b : Int) : Prop := p ∣ a - b
theorem Cg.refl (p a : Int) : Cg p a a := by
  unfold Cg
  rw [Int.sub_self]
  exact Int.dvd_zero p
theorem Cg.symm {p a b : Int} (h : Cg p a b) : Cg p b a := by
  obtain ⟨k, e⟩ := h
  exact ⟨-k, by grind⟩
theorem Cg.trans {p a b c : Int} (h : Cg p a b) (g : Cg p b c) : Cg p a c := by
  obtain ⟨k, e⟩ := h
  obtain ⟨l, e'⟩ := g
  exact ⟨k + l, by grind⟩
theorem Cg.add {p a b c d : Int} (h : Cg p a b) (g : Cg p c d) : Cg p (a + c) (b + d) := by
  obtain ⟨k, e⟩ := h
  obtain ⟨l, e'⟩ := g
  exact ⟨k + l, by grind⟩
theorem Cg.sub {p a b c d : Int} (h : Cg p a b) (g : Cg p c d) : Cg p (a - c) (b - d) := by
  obtain ⟨k, e⟩ := h
  obtain ⟨l, e'⟩ := g
  exact ⟨k - l, by grind⟩
theorem Cg.mul {p a b c d : Int} (h : Cg p a b) (g : Cg p c d) : Cg p (a * c) (b * d) := by
  obtain ⟨k, e⟩ := h
  obtain ⟨l, e'⟩ := g
  exact ⟨k * c + b * l, by grind⟩
theorem Cg.mod (p a : Int) : Cg p (a % p) a := ⟨-(a / p), by
  have := Int.emod_add_mul_ediv a p
  grind⟩
theorem Cg.emod {p a b : Int} (h : Cg p a b) : a % p = b % p := by
  obtain ⟨k, e⟩ := h
  have : a = b + p * k := by omega
  rw [this, Int.add_mul_emod_self_left]
theorem Cg.of {p a b : Int} (h : a % p = b % p) : Cg p a b := (Cg.mod p a).symm.trans (by rw [h]; exact Cg.mod p b)
theorem Cg.eq {p a b : Int} (h : Cg p a b) (a0 : 0 ≤ a) (a1 : a < p) (b0 : 0 ≤ b) (b1 : b < p) : a = b := by
  have e := h.emod
  rwa [Int.emod_eq_of_lt a0 a1, Int.emod_eq_of_lt b0 b1] at e
/-! a list's value, unreduced -/
def ev : List Int → Int → Int
  | [], _ => 0
  | c :: r, x => ev r x * x + c
theorem hv_ev (p : Int) : ∀ (l : List Int) (x : Int), Cg p (hv p l x) (ev l x)
  | [], _ => Cg.refl _ _
  | c :: r, x => (Cg.mod p _).trans (((hv_ev p r x).mul (Cg.refl p x)).add (Cg.refl p c))
theorem ev_bump : ∀ (s : List Int) (k : Nat) (c x : Int), k < s.length → ev (bump s k c) x = ev s x + c * x ^ k
  | [], _, _, _, h => by simp at h
  | a :: r, 0, c, x, _ => by
    show ev r x * x + (a + c) = ev r x * x + a + c * x ^ 0
    grind
  | a :: r, k + 1, c, x, h => by
    have ih := ev_bump r k c x (by simpa using h)
    show ev (bump r k c) x * x + a = ev r x * x + a + c * x ^ (k + 1)
    rw [ih]
    grind
theorem ev_addMul : ∀ (l : List Int) (s : List Int) (k : Nat) (a x : Int), k + l.length ≤ s.length → ev (addMul s k a l) x = ev s x + a * x ^ k * ev l x
  | [], s, k, a, x, _ => by
    show ev s x = ev s x + a * x ^ k * 0
    grind
  | b :: r, s, k, a, x, h => by
    have h' : k + (r.length + 1) ≤ s.length := h
    show ev (addMul (bump s k (a * b)) (k + 1) a r) x = ev s x + a * x ^ k * (ev r x * x + b)
    rw [ev_addMul r _ _ _ _ (by rw [bump_length]; omega), ev_bump _ _ _ _ (by omega)]
    grind
theorem ev_mulFrom : ∀ (f : List Int) (s : List Int) (j : Nat) (g : List Int) (x : Int), j + f.length + g.length ≤ s.length → ev (mulFrom s j g f) x = ev s x + x ^ j * (ev f x * ev g x)
  | [], s, j, g, x, _ => by
    show ev s x = ev s x + x ^ j * (0 * ev g x)
    grind
  | a :: r, s, j, g, x, h => by
    have h' : j + (r.length + 1) + g.length ≤ s.length := h
    show ev (mulFrom (addMul s j a g) (j + 1) g r) x = ev s x + x ^ j * ((ev r x * x + a) * ev g x)
    rw [ev_mulFrom r _ _ _ _ (by rw [addMul_length]; omega), ev_addMul _ _ _ _ _ (by omega)]
    grind
theorem ev_zeros (n : Nat) (x : Int) : ev (zeros n) x = 0 := by
  induction n with
  | zero => rfl
  | succ n ih =>
    show ev (zeros n) x * x + 0 = 0
    rw [ih]
    omega
theorem ev_addL (n : Nat) (f g : List Int) (x : Int) (hf : f.length ≤ n) (hg : g.length ≤ n) : ev (addL n f g) x = ev f x + ev g x := by
  have lz : (zeros n).length = n := by simp [zeros]
  unfold addL
  rw [ev_addMul _ _ _ _ _ (by rw [addMul_length, lz]; omega), ev_addMul _ _ _ _ _ (by rw [lz]; omega), ev_zeros]
  grind
theorem ev_mulL (f g : List Int) (x : Int) : ev (mulL f g) x = ev f x * ev g x := by
  have lz : (zeros (f.length + g.length)).length = f.length + g.length := by simp [zeros]
  unfold mulL
  rw [ev_mulFrom _ _ _ _ _ (by rw [lz]; omega), ev_zeros]
  grind
theorem ev_mod (p : Int) : ∀ (l : List Int) (x : Int), Cg p (ev (l.map (· % p)) x) (ev l x)
  | [], _ => Cg.refl _ _
  | c :: r, x => ((ev_mod p r x).mul (Cg.refl p x)).add (Cg.mod p c)
theorem ev_trim : ∀ (l : List Int) (x : Int), ev (trim l) x = ev l x
  | [], _ => rfl
  | a :: r, x => by
    have ih := ev_trim r x
    show ev (if a = 0 ∧ trim r = [] then [] else a :: trim r) x = ev r x * x + a
    by_cases e : a = 0 ∧ trim r = []
    · rw [if_pos e, ← ih, e.2, e.1]
      show (0 : Int) = 0 * x + 0
      omega
    · rw [if_neg e, ← ih]
      rfl
/-! the reduced polynomials -/
def red (p : Int) (l : List Int) : List Int := trim (l.map (· % p))
def plus (p : Int) (f g : List Int) : List Int := red p (addL (max f.length g.length) f g)
def times (p : Int) (f g : List Int) : List Int := red p (mulL f g)
theorem ev_red (p : Int) (l : List Int) (x : Int) : Cg p (ev (red p l) x) (ev l x) := by
  unfold red
  rw [ev_trim]
  exact ev_mod p l x
theorem hv_red (p : Int) (l : List Int) (x : Int) : Cg p (hv p (red p l) x) (ev l x) := (hv_ev p _ x).trans (ev_red p l x)
theorem hv_plus (p : Int) (f g : List Int) (x : Int) : Cg p (hv p (plus p f g) x) (hv p f x + hv p g x) := by
  refine (hv_red p _ x).trans ?_
  rw [ev_addL _ _ _ _ (Nat.le_max_left _ _) (Nat.le_max_right _ _)]
  exact ((hv_ev p f x).add (hv_ev p g x)).symm
theorem hv_times (p : Int) (f g : List Int) (x : Int) : Cg p (hv p (times p f g) x) (hv p f x * hv p g x) := by
  refine (hv_red p _ x).trans ?_
  rw [ev_mulL]
  exact ((hv_ev p f x).mul (hv_ev p g x)).symm
theorem red_mem {p : Int} (h : 0 < p) {l : List Int} {x : Int} (m : x ∈ red p l) : 0 ≤ x ∧ x < p := by
  obtain ⟨y, _, e⟩ := List.mem_map.mp (mem_trim m)
  rw [← e]
  exact ⟨Int.emod_nonneg _ (by omega), Int.emod_lt_of_pos _ h⟩
theorem map_mod_id {p : Int} {l : List Int} (h : ∀ x ∈ l, 0 ≤ x ∧ x < p) : l.map (· % p) = l := by
  induction l with
  | nil => rfl
  | cons a r ih =>
    rw [List.map_cons, ih (fun x m => h x (List.mem_cons_of_mem _ m))]
    have := h a (List.mem_cons_self ..)
    rw [Int.emod_eq_of_lt this.1 this.2]
theorem red_red {p : Int} (h : 0 < p) (l : List Int) : red p (red p l) = red p l := by
  have e : (red p l).map (· % p) = red p l := map_mod_id fun x m => red_mem h m
  show trim ((red p l).map (· % p)) = red p l
  rw [e]
  exact trim_trim _
/-! lengths -/
theorem trim_le {l : List Int} {n : Nat} (h : ∀ i, n ≤ i → l.getD i 0 = 0) : (trim l).length ≤ n := by
  induction l generalizing n with
  | nil => exact Nat.zero_le _
  | cons a r ih =>
    show (if a = 0 ∧ trim r = [] then [] else a :: trim r).length ≤ n
    cases n with
    | zero =>
      have h0 : a = 0 := by simpa using h 0 (Nat.le_refl _)
      have h1 : (trim r).length ≤ 0 := ih fun i _ => by simpa using h (i + 1) (Nat.zero_le _)
      have h2 : trim r = [] := List.length_eq_zero_iff.mp (Nat.le_zero.mp h1)
      rw [if_pos ⟨h0, h2⟩]
      exact Nat.le_refl _
    | succ n =>
      have h1 : (trim r).length ≤ n := ih fun i hi => by simpa using h (i + 1) (by omega)
      split
      · exact Nat.zero_le _
      · simpa using h1
theorem bump_get (s : List Int) (k : Nat) (c : Int) (i : Nat) (h : i ≠ k) : (bump s k c).getD i 0 = s.getD i 0 := by
  unfold bump
  rw [List.getD_eq_getElem?_getD, List.getD_eq_getElem?_getD, List.getElem?_set_ne (Ne.symm h)]
  rfl
theorem addMul_get : ∀ (l : List Int) (s : List Int) (k : Nat) (a : Int) (i : Nat), k + l.length ≤ i → (addMul s k a l).getD i 0 = s.getD i 0
  | [], _, _, _, _, _ => rfl
  | b :: r, s, k, a, i, h => by
    have h' : k + (r.length + 1) ≤ i := h
    show (addMul (bump s k (a * b)) (k + 1) a r).getD i 0 = s.getD i 0
    rw [addMul_get r _ _ _ i (by omega), bump_get _ _ _ _ (by omega)]
theorem mulFrom_get : ∀ (f : List Int) (s : List Int) (j : Nat) (g : List Int) (i : Nat), j + f.length + g.length ≤ i + 1 → (mulFrom s j g f).getD i 0 = s.getD i 0
  | [], _, _, _, _, _ => rfl
  | a :: r, s, j, g, i, h => by
    have h' : j + (r.length + 1) + g.length ≤ i + 1 := h
    show (mulFrom (addMul s j a g) (j + 1) g r).getD i 0 = s.getD i 0
    rw [mulFrom_get r _ _ _ i (by omega), addMul_get _ _ _ _ _ (by omega)]
theorem zeros_get (n i : Nat) : (zeros n).getD i 0 = 0 := by
  unfold zeros
  rw [List.getD_eq_getElem?_getD, List.getElem?_replicate]
  split <;> rfl
theorem getD_map_mod (p : Int) (l : List Int) (i : Nat) (h : l.getD i 0 = 0) : (l.map (· % p)).getD i 0 = 0 := by
  rw [List.getD_eq_getElem?_getD] at h ⊢
  rw [List.getElem?_map]
  cases e : l[i]? with
  | none => rfl
  | some y =>
    rw [e] at h
    have : y = 0 := h
    subst this
    show (0 : Int) % p = 0
    exact Int.zero_emod p
theorem times_length (p : Int) (f g : List Int) : (times p f g).length ≤ f.length + g.length - 1 := by
  refine trim_le fun i hi => getD_map_mod p _ i ?_
  show (mulFrom (zeros (f.length + g.length)) 0 g f).getD i 0 = 0
  rw [mulFrom_get _ _ _ _ _ (by omega), zeros_get]
theorem plus_length (p : Int) (f g : List Int) : (plus p f g).length ≤ max f.length g.length := by
  refine Nat.le_trans (trim_length _) ?_
  rw [List.length_map]
  unfold addL
  rw [addMul_length, addMul_length]
  simp [zeros]
theorem addMul_at : ∀ (l : List Int) (s : List Int) (k : Nat) (a : Int) (i : Nat), k + l.length ≤ s.length → (addMul s k a l).getD i 0 = s.getD i 0 + (if k ≤ i then a * l.getD (i - k) 0 else 0)
  | [], s, k, a, i, _ => by
    show s.getD i 0 = s.getD i 0 + (if k ≤ i then a * 0 else 0)
    split <;> omega
  | b :: r, s, k, a, i, h => by
    have h' : k + (r.length + 1) ≤ s.length := h
    show (addMul (bump s k (a * b)) (k + 1) a r).getD i 0 = _
    rw [addMul_at r _ _ _ i (by rw [bump_length]; omega)]
    by_cases e : i = k
    · subst e
      have hb : (bump s i (a * b)).getD i 0 = s.getD i 0 + a * b := by
        unfold bump
        rw [List.getD_eq_getElem?_getD, List.getElem?_set_self (by omega)]
        rfl
      rw [hb, if_neg (by omega), if_pos (Nat.le_refl _), Nat.sub_self, Int.add_zero]
      rfl
    · rw [bump_get _ _ _ _ e]
      by_cases e2 : k ≤ i
      · rw [if_pos (by omega), if_pos e2, show i - k = (i - (k + 1)) + 1 by omega]
        rfl
      · rw [if_neg (by omega), if_neg e2]
theorem getD_range (m i : Nat) (f : Nat → Int) (h : ∀ i, m ≤ i → f i = 0) : ((List.range m).map f).getD i 0 = f i := by
  rw [List.getD_eq_getElem?_getD, List.getElem?_map]
  by_cases e : i < m
  · rw [List.getElem?_range e]
    rfl
  · rw [List.getElem?_eq_none (by simpa using Nat.le_of_not_lt e), h i (by omega)]
    rfl
theorem ext_getD {l l' : List Int} (h : l.length = l'.length) (g : ∀ i, l.getD i 0 = l'.getD i 0) : l = l' := by
  refine List.ext_getElem h fun i h1 h2 => ?_
  have := g i
  rwa [List.getD_eq_getElem?_getD, List.getD_eq_getElem?_getD, List.getElem?_eq_getElem h1, List.getElem?_eq_getElem h2] at this
theorem getD_ge {l : List Int} {i : Nat} (h : l.length ≤ i) : l.getD i 0 = 0 := by
  rw [List.getD_eq_getElem?_getD, List.getElem?_eq_none h]
  rfl
theorem addL_range (n : Nat) (f g : List Int) (hf : f.length ≤ n) (hg : g.length ≤ n) : addL n f g = (List.range n).map fun j => f.getD j 0 + g.getD j 0 := by
  have lz : (zeros n).length = n := by simp [zeros]
  refine ext_getD ?_ fun i => ?_
  · unfold addL
    rw [addMul_length, addMul_length, lz, List.length_map, List.length_range]
  · unfold addL
    rw [addMul_at _ _ _ _ _ (by rw [addMul_length, lz]; omega), addMul_at _ _ _ _ _ (by rw [lz]; omega), zeros_get, if_pos (Nat.zero_le _), if_pos (Nat.zero_le _), Nat.sub_zero,
      getD_range _ _ _ fun j hj => by rw [getD_ge (by omega), getD_ge (by omega)]; rfl]
    omega
def sel (l : List Int) (j : Nat) : List Int := if j < l.length then [l.getD j 0] else []
theorem sel_yes {l : List Int} {j : Nat} (h : j < l.length) : sel l j = [l.getD j 0] := if_pos h
theorem sel_no {l : List Int} {j : Nat} (h : ¬ j < l.length) : sel l j = [] := if_neg h
theorem sel_sum (l : List Int) (j : Nat) : (sel l j).sum = l.getD j 0 := by
  by_cases h : j < l.length
  · rw [sel_yes h]
    simp
  · rw [sel_no h, getD_ge (by omega)]
    rfl
def selN (f g : List Int) (j : Nat) : Nat → List Int
  | 0 => []
  | 1 => sel f j
  | _ => sel f j ++ sel g j
theorem selN_sum (f g : List Int) (j : Nat) : (selN f g j 2).sum = f.getD j 0 + g.getD j 0 := by
  show (sel f j ++ sel g j).sum = _
  rw [List.sum_append, sel_sum, sel_sum]
end M
namespace M
/-- the primes of the setups -/
def PR (p : Int) : Prop := p = 11 ∨ p = 13 ∨ p = 17 ∨ p = 31 ∨ p = 101
theorem PR.lt {p : Int} (h : PR p) : 10 < p ∧ p < 102 := by
  rcases h with e | e | e | e | e <;> omega
def inv (p a : Int) : Int := a ^ (p - 2).toNat % p
theorem inv_lt {p : Int} (h : 0 < p) (a : Int) : 0 ≤ inv p a ∧ inv p a < p := ⟨Int.emod_nonneg _ (by omega), Int.emod_lt_of_pos _ h⟩
def invB (p : Nat) : Bool := (List.range p).all fun n => n == 0 || decide (((n : Int) * inv (p : Int) n) % (p : Int) = 1)
theorem invB_11 : invB 11 = true := by decide +kernel
theorem invB_13 : invB 13 = true := by decide +kernel
theorem invB_17 : invB 17 = true := by decide +kernel
theorem invB_31 : invB 31 = true := by decide +kernel
theorem invB_101 : invB 101 = true := by decide +kernel
theorem inv_of {p : Nat} (h : invB p = true) {a : Int} (h0 : 0 < a) (h1 : a < p) : (a * inv p a) % p = 1 := by
  have h2 := List.all_eq_true.mp h a.toNat (List.mem_range.mpr (by omega))
  rw [Bool.or_eq_true] at h2
  rcases h2 with h2 | h2
  · have : a.toNat = 0 := by simpa using h2
    omega
  · have h3 := of_decide_eq_true h2
    rwa [show ((a.toNat : Nat) : Int) = a by omega] at h3
theorem inv_ok {p : Int} (h : PR p) {a : Int} (h0 : 0 < a) (h1 : a < p) : (a * inv p a) % p = 1 := by
  rcases h with rfl | rfl | rfl | rfl | rfl
  · exact inv_of (p := 11) invB_11 h0 h1
  · exact inv_of (p := 13) invB_13 h0 h1
  · exact inv_of (p := 17) invB_17 h0 h1
  · exact inv_of (p := 31) invB_31 h0 h1
  · exact inv_of (p := 101) invB_101 h0 h1
/-- no divisors of zero -/
theorem mul_ne {p : Int} (h : PR p) {a b : Int} (ha : a % p ≠ 0) (hb : b % p ≠ 0) : (a * b) % p ≠ 0 := by
  have hp := h.lt
  intro e
  have a0 := Int.emod_nonneg a (show p ≠ 0 by omega)
  have a1 := Int.emod_lt_of_pos a (show 0 < p by omega)
  have e1 : Cg p (a % p * inv p (a % p)) 1 := Cg.of (by rw [inv_ok h (by omega) a1, Int.emod_eq_of_lt (by omega) (by omega)])
  have e2 : Cg p (a * b) 0 := Cg.of (by rw [e, Int.zero_emod])
  have e3 : Cg p b 0 := by
    have e4 : Cg p (a % p * inv p (a % p) * b) (1 * b) := e1.mul (Cg.refl p b)
    have e5 : Cg p (a % p * inv p (a % p) * b) (inv p (a % p) * (a * b)) := by
      have := ((Cg.mod p a).mul (Cg.refl p (inv p (a % p) * b)))
      rw [show a % p * inv p (a % p) * b = a % p * (inv p (a % p) * b) by grind, show inv p (a % p) * (a * b) = a * (inv p (a % p) * b) by grind]
      exact this
    have e6 : Cg p (inv p (a % p) * (a * b)) (inv p (a % p) * 0) := (Cg.refl p _).mul e2
    have e7 := e4.symm.trans (e5.trans e6)
    rwa [Int.one_mul, Int.mul_zero] at e7
  have := e3.emod
  rw [Int.zero_emod] at this
  exact hb this
/-! interpolation -/
def stepI (p : Int) (s : List Int × List Int) (x y : Int) : List Int × List Int :=
  (plus p s.1 (times p (red p [(y - hv p s.1 x) * inv p (hv p s.2 x)]) s.2), times p s.2 (red p [-x, 1]))
def stI (p : Int) (l : List (Int × Int)) : List Int × List Int := l.foldl (fun s xy => stepI p s xy.1 xy.2) ([], [1])
theorem stI_snoc (p : Int) (l : List (Int × Int)) (xy : Int × Int) : stI p (l ++ [xy]) = stepI p (stI p l) xy.1 xy.2 := by
  unfold stI
  rw [List.foldl_append]
  rfl
structure InvI (p : Int) (l : List (Int × Int)) (s : List Int × List Int) : Prop where
  len1 : s.1.length ≤ l.length
  len2 : s.2.length ≤ l.length + 1
  in1 : ∀ x ∈ s.1, 0 ≤ x ∧ x < p
  in2 : ∀ x ∈ s.2, 0 ≤ x ∧ x < p
  nf : red p s.1 = s.1
  val : ∀ xy ∈ l, hv p s.1 xy.1 = xy.2
  zero : ∀ xy ∈ l, hv p s.2 xy.1 = 0
  ne : ∀ x, 0 ≤ x → x < p → (∀ xy ∈ l, xy.1 ≠ x) → hv p s.2 x ≠ 0
theorem invI_nil {p : Int} (h : PR p) : InvI p [] (stI p []) where
  len1 := Nat.le_refl _
  len2 := Nat.le_refl _
  in1 := fun x m => by cases m
  in2 := fun x m => by
    have e : x = 1 := by simpa [stI] using m
    have := h.lt
    omega
  nf := rfl
  val := fun _ m => by cases m
  zero := fun _ m => by cases m
  ne := fun x _ _ _ => by
    have hp := h.lt
    show (0 * x + 1) % p ≠ 0
    rw [show (0 : Int) * x + 1 = 1 by omega, Int.emod_eq_of_lt (by omega) (by omega)]
    decide
theorem invI_snoc {p : Int} (h : PR p) {l : List (Int × Int)} {x y : Int} (I : InvI p l (stI p l)) (x0 : 0 ≤ x) (x1 : x < p) (y0 : 0 ≤ y) (y1 : y < p) (nx : ∀ xy ∈ l, xy.1 ≠ x) : InvI p (l ++ [(x, y)]) (stI p (l ++ [(x, y)])) := by
  have hp := h.lt
  have p0 : 0 < p := by omega
  rw [stI_snoc]
  generalize stI p l = s at I
  have vb := hv_lt p0 s.2 x
  have b0 : 0 < hv p s.2 x := by
    have := I.ne x x0 x1 nx
    omega
  have hinv := inv_ok h b0 vb.2
  have vblank : ∀ z, Cg p (hv p (times p s.2 (red p [-x, 1])) z) (hv p s.2 z * (z - x)) := fun z => by
    refine (hv_times p _ _ z).trans ((Cg.refl p _).mul ?_)
    refine (hv_red p _ z).trans ?_
    show Cg p ((0 * z + 1) * z + -x) (z - x)
    rw [show (0 * z + 1) * z + -x = z - x by grind]
    exact Cg.refl _ _
  have vfound : ∀ z, Cg p (hv p (plus p s.1 (times p (red p [(y - hv p s.1 x) * inv p (hv p s.2 x)]) s.2)) z) (hv p s.1 z + (y - hv p s.1 x) * inv p (hv p s.2 x) * hv p s.2 z) := fun z => by
    refine (hv_plus p _ _ z).trans ((Cg.refl p _).add ?_)
    refine (hv_times p _ _ z).trans (Cg.mul ?_ (Cg.refl p _))
    refine (hv_red p _ z).trans ?_
    show Cg p (0 * z + (y - hv p s.1 x) * inv p (hv p s.2 x)) _
    rw [show 0 * z + (y - hv p s.1 x) * inv p (hv p s.2 x) = (y - hv p s.1 x) * inv p (hv p s.2 x) by grind]
    exact Cg.refl _ _
  have bnd := fun (f : List Int) (z : Int) => hv_lt p0 f z
  refine ⟨?_, ?_, fun _ m => red_mem p0 m, fun _ m => red_mem p0 m, red_red p0 _, ?_, ?_, ?_⟩
  · show (plus p s.1 (times p (red p [(y - hv p s.1 x) * inv p (hv p s.2 x)]) s.2)).length ≤ (l ++ [(x, y)]).length
    have h1 := plus_length p s.1 (times p (red p [(y - hv p s.1 x) * inv p (hv p s.2 x)]) s.2)
    have h2 := times_length p (red p [(y - hv p s.1 x) * inv p (hv p s.2 x)]) s.2
    have h3 : (red p [(y - hv p s.1 x) * inv p (hv p s.2 x)]).length ≤ 1 := by
      refine Nat.le_trans (trim_length _) ?_
      simp
    have h4 := I.len1
    have h5 := I.len2
    rw [List.length_append]
    show _ ≤ l.length + 1
    omega
  · show (times p s.2 (red p [-x, 1])).length ≤ (l ++ [(x, y)]).length + 1
    have h2 := times_length p s.2 (red p [-x, 1])
    have h3 : (red p [-x, 1]).length ≤ 2 := by
      refine Nat.le_trans (trim_length _) ?_
      simp
    have h5 := I.len2
    rw [List.length_append]
    show _ ≤ l.length + 1 + 1
    omega
  · rintro ⟨x', y'⟩ m
    show hv p (plus p s.1 (times p (red p [(y - hv p s.1 x) * inv p (hv p s.2 x)]) s.2)) x' = y'
    rcases List.mem_append.mp m with m | m
    · have e1 : hv p s.2 x' = 0 := I.zero _ m
      have e2 : hv p s.1 x' = y' := I.val _ m
      have c := vfound x'
      rw [e1, e2, Int.mul_zero, Int.add_zero] at c
      have b := bnd s.1 x'
      rw [e2] at b
      exact c.eq (bnd _ _).1 (bnd _ _).2 b.1 b.2
    · have e : (x', y') = (x, y) := by simpa using m
      cases e
      refine (vfound x).trans ?_ |>.eq (bnd _ _).1 (bnd _ _).2 y0 y1
      have c1 : Cg p (hv p s.2 x * inv p (hv p s.2 x)) 1 := Cg.of (by rw [hinv, Int.emod_eq_of_lt (by omega) (by omega)])
      have c2 := (Cg.refl p (hv p s.1 x)).add ((Cg.refl p (y - hv p s.1 x)).mul c1)
      rw [show hv p s.1 x + (y - hv p s.1 x) * 1 = y by grind] at c2
      rw [show hv p s.1 x + (y - hv p s.1 x) * inv p (hv p s.2 x) * hv p s.2 x = hv p s.1 x + (y - hv p s.1 x) * (hv p s.2 x * inv p (hv p s.2 x)) by grind]
      exact c2
  · rintro ⟨x', y'⟩ m
    show hv p (times p s.2 (red p [-x, 1])) x' = 0
    refine (vblank x').trans ?_ |>.eq (bnd _ _).1 (bnd _ _).2 (Int.le_refl _) p0
    rcases List.mem_append.mp m with m | m
    · have e1 : hv p s.2 x' = 0 := I.zero _ m
      rw [e1, Int.zero_mul]
      exact Cg.refl _ _
    · have e : (x', y') = (x, y) := by simpa using m
      cases e
      rw [Int.sub_self, Int.mul_zero]
      exact Cg.refl _ _
  · intro z z0 z1 nz e
    have e1 : hv p s.2 z ≠ 0 := I.ne z z0 z1 fun xy m => nz xy (List.mem_append_left _ m)
    have e2 : x ≠ z := nz (x, y) (List.mem_append_right _ (List.mem_singleton.mpr rfl))
    have c := vblank z
    have e3 : hv p (times p s.2 (red p [-x, 1])) z = 0 := e
    rw [e3] at c
    have b := bnd s.2 z
    refine mul_ne h (a := hv p s.2 z) (b := z - x) ?_ ?_ ?_
    · rw [Int.emod_eq_of_lt b.1 b.2]
      exact e1
    · intro e4
      have e5 : Cg p z x := Int.dvd_of_emod_eq_zero e4
      exact e2 (e5.eq z0 z1 x0 x1).symm
    · rw [← c.emod, Int.zero_emod]
theorem invI_take {p : Int} (h : PR p) {l : List (Int × Int)} (hin : ∀ xy ∈ l, 0 ≤ xy.1 ∧ xy.1 < p ∧ 0 ≤ xy.2 ∧ xy.2 < p) (hnd : (l.map (·.1)).Nodup) : ∀ i, i ≤ l.length → InvI p (l.take i) (stI p (l.take i)) := fun i => by
  induction i with
  | zero => exact fun _ => invI_nil h
  | succ i ih =>
    intro hi
    have hi' : i < l.length := hi
    have I := ih (by omega)
    obtain ⟨a1, a2, a3, a4⟩ := hin l[i] (List.getElem_mem hi')
    rw [List.take_succ_eq_append_getElem hi']
    exact invI_snoc h I a1 a2 a3 a4 fun xy m e => by
      obtain ⟨k, hk, ek⟩ := List.getElem_of_mem m
      rw [List.length_take] at hk
      rw [List.getElem_take] at ek
      have h1 : (l.map (·.1))[k]'(by rw [List.length_map]; omega) = (l.map (·.1))[i]'(by rw [List.length_map]; omega) := by
        rw [List.getElem_map, List.getElem_map, ek, e]
        rfl
      have := (List.getElem_inj hnd).mp h1
      omega
theorem invI_all {p : Int} (h : PR p) {l : List (Int × Int)} (hin : ∀ xy ∈ l, 0 ≤ xy.1 ∧ xy.1 < p ∧ 0 ≤ xy.2 ∧ xy.2 < p) (hnd : (l.map (·.1)).Nodup) : InvI p l (stI p l) := by
  have := invI_take h hin hnd l.length (Nat.le_refl _)
  rwa [List.take_length] at this
theorem erase_perm : ∀ (l : List Int) (d : Nat) (h : d < l.length), List.Perm (l[d] :: l.eraseIdx d) l
  | [], _, h => by simp at h
  | a :: r, 0, _ => List.Perm.refl _
  | a :: r, d + 1, h => by
    have ih := erase_perm r d (by simpa using h)
    show List.Perm (r[d]'(by simpa using h) :: a :: r.eraseIdx d) (a :: r)
    exact (List.Perm.swap a _ _).trans (List.Perm.cons a ih)
theorem nodup_move {l : List Int} {ls : List Int} {d : Nat} (hd : d < ls.length) (h : (l ++ ls).Nodup) : ((l ++ [ls[d]]) ++ ls.eraseIdx d).Nodup := by
  have p1 : List.Perm (ls[d] :: ls.eraseIdx d) ls := erase_perm ls d hd
  have p2 : List.Perm ((l ++ [ls[d]]) ++ ls.eraseIdx d) (l ++ ls) := by
    rw [List.append_assoc]
    exact List.Perm.append_left l p1
  exact p2.nodup_iff.mpr h
theorem range_nodup (m : Nat) : ((List.range m).map fun j => (0 : Int) + (j : Nat)).Nodup := by
  rw [List.nodup_iff_pairwise_ne, List.pairwise_map]
  exact List.Pairwise.imp (fun h e => by omega) List.pairwise_lt_range
theorem paired_snoc {α β : Type} {F : α → β → Prop} : ∀ {l : List α} {l' : List β} {a : α} {b : β}, PySem.Paired F l l' → F a b → PySem.Paired F (l ++ [a]) (l' ++ [b])
  | _, _, _, _, .nil, h => .cons h .nil
  | _, _, _, _, .cons r t, h => .cons r (paired_snoc t h)
end M
section
open PySem PySem.Spec PyProof.Rows L2 Z
local macro_rules | `(tactic| ktr_room) => `(tactic| first
  | assumption
  | (apply SqT.of; assumption)
  | (apply SqL.of; assumption)
  | (apply sqt_same; assumption; ktr_room)
  | (apply sql_same; assumption; ktr_room)
  | (apply sqt_but; assumption; assumption; ktr_room)
  | (apply sql_but; assumption; assumption; ktr_room)
  | (apply Same.of_; assumption; ktr_room)
  | (apply But.of_; assumption; assumption; ktr_room)
  | exact same_refl
  | exact but_refl
  | (apply same_tr; assumption; ktr_room)
  | (apply same_but; assumption; ktr_room; assumption)
  | (apply but_tr; assumption; ktr_room)
  | (apply but_trB; assumption; ktr_room))
local macro_rules | `(tactic| ktr_units) => `(tactic| first | with_reducible assumption | omega | rfl | exact ⟨by omega, by omega⟩ | exact .inl ⟨by omega, by omega⟩ | exact .inr ⟨by omega, by omega⟩ | exact ⟨by decide, by decide, by decide⟩ | exact Nat.le_of_ble_eq_true rfl | decide)
local macro_rules | `(tactic| kc_close) => `(tactic| repeat (with_reducible first
  | refine s_var (by with_unfolding_all rfl) ?_
  | refine s_c ?_
  | refine s_op ?_
  | refine s_rI0 ?_
  | refine s_asg ?_
  | refine s_gname ?_
  | refine s_seq ?_
  | refine s_cons ?_
  | refine s_nil ?_
  | refine s_call ?_
  | refine s_ret ?_
  | o_fieldsN
  | refine s_test ?_
  | refine s_bl ?_
  | refine s_rI (by with_unfolding_all (ktr_units)) ?_
  | refine s_rEq rfl ?_
  | refine s_rNe rfl ?_
  | refine s_cb ?_
  | refine s_int1 ?_
  | refine s_intB ?_
  | refine s_max2 ?_
  | refine s_tup ?_
  | refine s_lst ?_
  | refine s_newT (by with_unfolding_all first | decide | exact Nat.le_of_ble_eq_true rfl) ?_
  | refine s_newL (by with_unfolding_all first | decide | exact Nat.le_of_ble_eq_true rfl) ?_
  | refine s_ixT (by ktr_room) (by with_unfolding_all rfl) ?_
  | refine s_ixL (by ktr_room) (by with_unfolding_all rfl) ?_
  | refine s_lenT (by ktr_room) ?_
  | refine s_lenL (by ktr_room) ?_
  | refine s_un ?_
  | refine s_rU ?_
  | refine s_and ?_
  | refine s_or ?_
  | refine s_not ?_
  | refine s_tB ?_
  | refine s_tru ?_
  | refine s_drop ?_
  | refine s_next ?_
  | refine s_for ?_
  | refine s_rng1 ?_
  | refine s_rng2 ?_
  | refine s_rng3 ?_
  | refine s_ilist ?_
  | refine s_itup ?_
  | refine s_iany ?_
  | refine s_ienum ?_
  | refine s_irev ?_
  | refine s_gcons ?_
  | refine s_gnil ?_
  | refine s_gtup (by ktr_room) (by with_unfolding_all rfl) ?_
  | refine s_gsub ?_
  | refine s_augS ?_
  | refine s_aug (by with_unfolding_all rfl) ?_
  | refine s_ipI ?_
  | refine s_bm ?_
  | refine s_bm0 ?_
  | refine s_tyL (by ktr_room) ?_
  | refine s_tyL0 (by ktr_room) ?_
  | refine s_sl ?_
  | refine s_part ?_
  | refine s_partv ?_
  | refine s_noPart ?_
  | refine s_lc ?_
  | refine s_yes ?_
  | refine s_wipe (by with_unfolding_all rfl) ?_
  | refine iteT ?_
  | refine s_retN ?_
  | refine s_truL (by ktr_room) ?_
  | refine s_truT (by ktr_room) ?_))
namespace K1
def topS (i : Nat) : Stmt := PySem.Challenge.pw_sortes_k01_polynomials.main.body.getD i (.Pass ⟨0, 0, 0, 0⟩)
structure NoB (mg : Str → Option Value) : Prop where
  n_len : mg "len" = none
  n_max : mg "max" = none
  n_sum : mg "sum" = none
  n_any : mg "any" = none
  n_all : mg "all" = none
  n_int : mg "int" = none
  n_tuple : mg "tuple" = none
  n_range : mg "range" = none
  n_enumerate : mg "enumerate" = none
  n_reversed : mg "reversed" = none
  n_isinstance : mg "isinstance" = none
  n_bool : mg "bool" = none
section
variable {P : Program} {w : World} {K : PySem.W.Frag} {mg : Str → Option Value} {base : Heap}
def spPower : Sp := fun vs H Q _ => ∃ (p a k : Int), vs = [.int p, .int a, .int k] ∧ 1 < p ∧ p < 1000 ∧ 0 ≤ k ∧ Q (.int (a ^ k.toNat % p)) H
theorem ok_power (h : Has K mg "power" (topS 2) ["p", "a", "k"]) : Good P w K mg base 1 "power" ["p", "a", "k"] (spPower) := by
  have sc : FnScope ["p", "a", "k", "total", "square", "left"] ["p", "a", "k"] (defScope (topS 2)) := ⟨rfl, rfl, rfl, by decide +kernel, rfl, by decide +kernel, by decide +kernel⟩
  have nd := sc.nd
  refine h.good sc (fun vs H Q E h => by obtain ⟨p, a, k, rfl, _⟩ := h; rfl) (fun f cdv A outer s H vs Q E hr h => ?_)
  obtain ⟨p, a, k, rfl, hyp⟩ := h
  refine ⟨_, (pss_cons (ps_set (i := 3) nd rfl (by first | exact .inl rfl | exact .inr rfl) pe_int)
  (pss_cons (ps_set (i := 4) nd rfl (by first | exact .inl rfl | exact .inr rfl) (pe_op op_mod (pv 1) (pv 0)))
  (pss_cons (ps_set (i := 5) nd rfl (by first | exact .inl rfl | exact .inr rfl) (pv 2))
  (pss_cons (ps_while PassesOwn.never (pt_cmpR op_gt (pv 5) pe_int (nomark _))
  (pss_cons (ps_if (pt_cmpR op_eq (pe_op op_mod (pv 5) pe_int) pe_int (nomark _))
  (pss_one (ps_set (i := 3) nd rfl (by first | exact .inl rfl | exact .inr rfl) (pe_op op_mod (pe_op op_mul (pv 3) (pv 4)) (pv 0)))) pss_nil)
  (pss_cons (ps_set (i := 4) nd rfl (by first | exact .inl rfl | exact .inr rfl) (pe_op op_mod (pe_op op_mul (pv 4) (pv 4)) (pv 0)))
  (pss_one (ps_set (i := 5) nd rfl (by first | exact .inl rfl | exact .inr rfl) (pe_op op_fdiv (pv 5) pe_int))))))
  (pss_one (ps_ret (pv 3))))))), ?_⟩
  try dsimp only [cxOf, Cx.wish]
  obtain ⟨hp, hp2, hk, q⟩ := hyp
  kc_close
  refine s_wh (fun σ H' => ∃ t s l : Int, σ = [some (.int p), some (.int a), some (.int k), some (.int t), some (.int s), some (.int l)] ∧ H' = H ∧ 0 ≤ l ∧ 0 ≤ t ∧ t < p ∧ 0 ≤ s ∧ s < p ∧ t * s ^ l.toNat % p = a ^ k.toNat % p) (fun σ _ => (ival σ 5).toNat) ?_ ?_
  · refine ⟨1, a % p, k, rfl, rfl, hk, by omega, by omega, Int.emod_nonneg _ (by omega), Int.emod_lt_of_pos _ (by omega), ?_⟩
    rw [Int.one_mul, M.pow_emod]
  rintro _ _ ⟨t, s, l, rfl, rfl, h0, h1, h2, h3, h4, e⟩
  kc_close
  refine ifP (fun hl => ?_) (fun hl => ?_)
  · refine s_wN ?_
    have e1 := Int.emod_nonneg (s * s) (show p ≠ 0 by omega)
    have e2 := Int.emod_lt_of_pos (s * s) (show 0 < p by omega)
    have e3 := Int.emod_nonneg (t * s) (show p ≠ 0 by omega)
    have e4 := Int.emod_lt_of_pos (t * s) (show 0 < p by omega)
    kc_close
    refine s_if ?_
    kc_close
    refine ifI (fun e5 => ?_) (fun e5 => ?_)
    · kc_close
      refine ⟨⟨_, _, _, rfl, rfl, by omega, e3, e4, e1, e2, M.loop_odd h0 e5 e⟩, ?_⟩
      show (l / 2).toNat < l.toNat
      omega
    · kc_close
      refine ⟨⟨_, _, _, rfl, rfl, by omega, h1, h2, e1, e2, M.loop_even h0 (by omega) e⟩, ?_⟩
      show (l / 2).toNat < l.toNat
      omega
  · have el : l = 0 := by omega
    subst el
    kc_close
    have et : t = a ^ k.toNat % p := by
      rw [← e]
      show t = t * s ^ 0 % p
      rw [Int.pow_zero, Int.mul_one, Int.emod_eq_of_lt h1 h2]
    rw [← et] at q
    exact q
def spInverse : Sp := fun vs H Q _ => ∃ (p a : Int), vs = [.int p, .int a] ∧ 1 < p ∧ p < 1000 ∧ Q (.int (M.inv p a)) H
theorem ok_inverse (h : Has K mg "inverse" (topS 1) ["p", "a"]) (G_power : Good P w K mg base 1 "power" ["p", "a", "k"] (spPower)) : Good P w K mg base 2 "inverse" ["p", "a"] (spInverse) := by
  have sc : FnScope ["p", "a"] ["p", "a"] (defScope (topS 1)) := ⟨rfl, rfl, rfl, by decide +kernel, rfl, by decide +kernel, by decide +kernel⟩
  have nd := sc.nd
  refine h.good sc (fun vs H Q E h => by obtain ⟨p, a, rfl, _⟩ := h; rfl) (fun f cdv A outer s H vs Q E hr h => ?_)
  obtain ⟨p, a, rfl, hyp⟩ := h
  refine ⟨_, (pss_one (ps_ret (pe_callG G_power (hr.mono (by decide)) (by rfl) (pa_cons (pv 0) (pa_cons (pv 1) (pa_cons (pe_op op_sub (pv 0) pe_int) pa_nil)))))), ?_⟩
  try dsimp only [cxOf, Cx.wish]
  obtain ⟨hp, hp2, q⟩ := hyp
  kc_close
  exact ⟨p, a, p - 2, rfl, hp, hp2, by omega, q⟩
/-- a tuple, a list of ints -/
abbrev IsT (K : PySem.W.Frag) (H : Hp) (a : Addr) (ns : List Int) : Prop := SqT K H a (ns.map V.int)
abbrev IsL (K : PySem.W.Frag) (H : Hp) (a : Addr) (ns : List Int) : Prop := SqL K H a (ns.map V.int)
def spTrimmed (K : PySem.W.Frag) : Sp := fun vs H Q _ => ∃ (p : Int) (c : Addr), vs = [.int p, .ref c] ∧ ∃ ns : List Int, (IsL K H c ns ∨ IsT K H c ns) ∧ 0 < p ∧ ns.length ≤ 1000 ∧ ∀ H' q, Same H H' → IsT K H' q (M.red p ns) → Q (.ref q) H'
theorem ok_trimmed (T : NoB mg) (h : Has K mg "trimmed" (topS 4) ["p", "coefficients"]) : Good P w K mg base 1 "trimmed" ["p", "coefficients"] (spTrimmed K) := by
  have sc : FnScope ["p", "coefficients", "numbers", "c"] ["p", "coefficients"] (defScope (topS 4)) := ⟨rfl, rfl, rfl, by decide +kernel, rfl, by decide +kernel, by decide +kernel⟩
  have nd := sc.nd
  refine h.good sc (fun vs H Q E h => by obtain ⟨p, c, rfl, _⟩ := h; rfl) (fun f cdv A outer s H vs Q E hr h => ?_)
  obtain ⟨p, c, rfl, hyp⟩ := h
  refine ⟨_, (pss_cons (ps_setLc (i := 2) (own := [("c", 3)]) rfl nd rfl rfl (sw_true rfl rfl rfl (by decide +kernel)) (pi_anyK K (pv 1)) (blkOk_by (own := [("c", 3)]) (N := ["p", "coefficients", "numbers", "c"]) (by kernel_rfl)) (fun _ _ _ _ _ => (pg_name (i := 3) nd rfl (by first | exact .inl rfl | exact .inr rfl))) (fun _ _ _ _ _ => pts_nil) (fun _ _ _ _ _ => (pe_op op_mod (pv 3) (pv 0))))
  (pss_cons (ps_while PassesOwn.never (PW.pt (pw_and (pt_truK K (pv 2) (by intro _; rfl)) (pw_and1 (pt_cmpR op_eq (pe_ix (ix_listK K) (pv 2) (pe_un un_neg pe_int) (fun _ _ => rfl)) pe_int (nomark _)))))
  (pss_one (ps_expr (pe_bm0K K PySem.F.plainAttrs_list PySem.F.slot_list_pop PySem.F.type_list_pop mt_pop (pv 2)))))
  (pss_one (ps_ret (pe_callTy (c_tupK K) (by rfl) T.n_tuple (by decide +kernel) (pa_cons (pv 2) pa_nil)))))), ?_⟩
  try dsimp only [cxOf, Cx.wish]
  obtain ⟨ns, hc, hp, hz, q⟩ := hyp
  kc_close
  refine l_map (fun i => V.int (ns.getD i 0 % p)) hc (by rw [List.length_map]; omega) ?_ ?_
  · intro D N i x H' e sm k
    obtain ⟨rfl, hi⟩ := item_int e
    kc_close
    exact k _ (Same.refl _)
  intro D H1 nD sm eD
  rw [List.length_map, range_map (· % p)] at eD
  kc_close
  refine s_wh (fun σ H' => ∃ l : List Int, σ = [some (.int p), some (.ref c), some (.ref D), none] ∧ Same H H' ∧ H' D = some (.lst (l.map V.int)) ∧ M.trim l = M.trim (ns.map (· % p))) (fun _ H' => lenAt H' D) ⟨_, rfl, sm, eD, rfl⟩ ?_
  rintro _ H2 ⟨l, rfl, sm2, eD2, et⟩
  rcases snoc_cases l with rfl | ⟨l0, a, rfl⟩
  · kc_close
    refine iteF ?_
    refine iteF ?_
    kc_close
    refine s_tupL (SqL.of eD2) fun t H3 nt sm3 et3 => q H3 t (sm2.trans sm3) (SqT.of ?_)
    show H3 t = some (.tup ((M.trim (ns.map (· % p))).map V.int))
    rw [← et]
    exact et3
  · have es : (l0 ++ [a]).map V.int = l0.map V.int ++ [V.int a] := by rw [List.map_append]; rfl
    rw [es] at eD2
    kc_close
    refine ifTrue (by simp) ?_
    kc_close
    refine s_ixL (SqL.of eD2) (atI_last _ _) ?_
    kc_close
    refine ifI (fun ea => ?_) (fun ea => ?_)
    · refine s_wN ?_
      kc_close
      refine s_pop (y := .int a) eD2 (by simp) fun H3 b3 e3 => ?_
      rw [List.dropLast_concat] at e3
      refine ⟨⟨l0, rfl, But.same b3 sm2 nD, e3, ?_⟩, ?_⟩
      · rw [← et, ea, M.trim_snoc_zero]
      · rw [lenAt_of e3, lenAt_of eD2]
        simp
    · kc_close
      refine s_tupL (SqL.of eD2) fun t H3 nt sm3 et3 => q H3 t (sm2.trans sm3) (SqT.of ?_)
      show H3 t = some (.tup ((M.trim (ns.map (· % p))).map V.int))
      rw [← et, M.trim_snoc _ _ ea, es]
      exact et3
def spValue (K : PySem.W.Frag) : Sp := fun vs H Q _ => ∃ (p : Int) (f : Addr) (x : Int), vs = [.int p, .ref f, .int x] ∧ ∃ ns : List Int, IsT K H f ns ∧ 0 < p ∧ p < 1000 ∧ ns.length ≤ 1000 ∧ Q (.int (M.hv p ns x)) H
theorem ok_value (T : NoB mg) (h : Has K mg "value" (topS 5) ["p", "f", "x"]) : Good P w K mg base 1 "value" ["p", "f", "x"] (spValue K) := by
  have sc : FnScope ["p", "f", "x", "total", "c"] ["p", "f", "x"] (defScope (topS 5)) := ⟨rfl, rfl, rfl, by decide +kernel, rfl, by decide +kernel, by decide +kernel⟩
  have nd := sc.nd
  refine h.good sc (fun vs H Q E h => by obtain ⟨p, f, x, rfl, _⟩ := h; rfl) (fun f cdv A outer s H vs Q E hr h => ?_)
  obtain ⟨p, f, x, rfl, hyp⟩ := h
  refine ⟨_, (pss_cons (ps_set (i := 3) nd rfl (by first | exact .inl rfl | exact .inr rfl) pe_int)
  (pss_cons (ps_for PassesOwn.never rfl (pi_revK K (by rfl) T.n_reversed (pv 1)) (pg_name (i := 4) nd rfl (by first | exact .inl rfl | exact .inr rfl))
  (pss_one (ps_set (i := 3) nd rfl (by first | exact .inl rfl | exact .inr rfl) (pe_op op_mod (pe_op op_add (pe_op op_mul (pv 3) (pv 2)) (pv 4)) (pv 0)))))
  (pss_one (ps_ret (pv 3))))), ?_⟩
  try dsimp only [cxOf, Cx.wish]
  obtain ⟨ns, hf, hp, hp2, hz, q⟩ := hyp
  kc_close
  refine s_irevT hf ?_
  refine w_revT (fun i σ H' => i ≤ ns.length ∧ H' = H ∧ ∃ y, σ = [some (.int p), some (.ref f), some (.int x), some (.int (M.hv p (ns.drop (ns.length - i)) x)), y]) ?_ ?_ ?_ ?_
  · refine ⟨Nat.zero_le _, rfl, none, ?_⟩
    rw [Nat.sub_zero, List.drop_length]
    rfl
  · rintro i _ _ ⟨_, rfl, _⟩
    exact hf
  · rintro i c _ _ hi e ⟨_, rfl, y, rfl⟩
    rw [List.length_map] at hi e
    obtain ⟨rfl, hj⟩ := item_int e
    have hv := M.hv_lt hp (ns.drop (ns.length - i)) x
    kc_close
    refine ⟨hi, rfl, some (.int (ns.getD (ns.length - 1 - i) 0)), ?_⟩
    rw [show ns.length - (i + 1) = ns.length - 1 - i by omega, M.hv_drop p ns x hj, show ns.length - 1 - i + 1 = ns.length - i by omega]
    rfl
  · rintro _ _ ⟨_, rfl, y, rfl⟩
    kc_close
    rw [List.length_map, Nat.sub_self]
    exact q
def spPlus (K : PySem.W.Frag) : Sp := fun vs H Q _ => ∃ (p : Int) (f g : Addr), vs = [.int p, .ref f, .ref g] ∧ ∃ ns ms : List Int, IsT K H f ns ∧ IsT K H g ms ∧ 0 < p ∧ ns.length ≤ 100 ∧ ms.length ≤ 100 ∧
  ∀ H' q, Same H H' → IsT K H' q (M.plus p ns ms) → Q (.ref q) H'
theorem ok_plus (T : NoB mg) (h : Has K mg "plus" (topS 6) ["p", "f", "g"]) (G_trimmed : Good P w K mg base 1 "trimmed" ["p", "coefficients"] (spTrimmed K)) : Good P w K mg base 2 "plus" ["p", "f", "g"] (spPlus K) := by
  have sc : FnScope ["p", "f", "g", "sums", "k", "c"] ["p", "f", "g"] (defScope (topS 6)) := ⟨rfl, rfl, rfl, by decide +kernel, rfl, by decide +kernel, by decide +kernel⟩
  have nd := sc.nd
  refine h.good sc (fun vs H Q E h => by obtain ⟨p, f, g, rfl, _⟩ := h; rfl) (fun f cdv A outer s H vs Q E hr h => ?_)
  obtain ⟨p, f, g, rfl, hyp⟩ := h
  refine ⟨_, (pss_cons (ps_set (i := 3) nd rfl (by first | exact .inl rfl | exact .inr rfl) (pe_op op_rep (pe_lst (pa_cons pe_int pa_nil)) (pe_callB (c_max2 rfl) (by rfl) T.n_max (by decide +kernel) (pa_cons (pe_callB (c_lenK K) (by rfl) T.n_len (by decide +kernel) (pa_cons (pv 1) pa_nil)) (pa_cons (pe_callB (c_lenK K) (by rfl) T.n_len (by decide +kernel) (pa_cons (pv 2) pa_nil)) pa_nil)))))
  (pss_cons (ps_for PassesOwn.never rfl (pi_enumK K (by rfl) T.n_enumerate (pa_cons (pv 1) pa_nil)) (pg_tupK K 2 (by rfl) (pgs_cons (pg_name (i := 4) nd rfl (by first | exact .inl rfl | exact .inr rfl)) (pgs_cons (pg_name (i := 5) nd rfl (by first | exact .inl rfl | exact .inr rfl)) pgs_nil)))
  (pss_one (ps_augS (pv 3) (pv 4) (g_listK K) (pv 5) ip_add set_list)))
  (pss_cons (ps_for PassesOwn.never rfl (pi_enumK K (by rfl) T.n_enumerate (pa_cons (pv 2) pa_nil)) (pg_tupK K 2 (by rfl) (pgs_cons (pg_name (i := 4) nd rfl (by first | exact .inl rfl | exact .inr rfl)) (pgs_cons (pg_name (i := 5) nd rfl (by first | exact .inl rfl | exact .inr rfl)) pgs_nil)))
  (pss_one (ps_augS (pv 3) (pv 4) (g_listK K) (pv 5) ip_add set_list)))
  (pss_one (ps_ret (pe_callG G_trimmed (hr.mono (by decide)) (by rfl) (pa_cons (pv 0) (pa_cons (pv 3) pa_nil)))))))), ?_⟩
  try dsimp only [cxOf, Cx.wish]
  obtain ⟨ns, ms, hf, hg, hp, hz, hz2, q⟩ := hyp
  kc_close
  intro o H1 no s1 eo
  kc_close
  have hm : (if ((ms.map V.int).length : Int) > ((ns.map V.int).length : Int) then ((ms.map V.int).length : Int) else ((ns.map V.int).length : Int)) = ((max ns.length ms.length : Nat) : Int) := by
    rw [List.length_map, List.length_map]
    split <;> omega
  rw [hm]
  refine s_rep eo (by omega) (by omega) (by rw [Int.toNat_natCast]; exact Nat.le_trans (show 1 * max ns.length ms.length ≤ 200 by omega) (by decide)) fun S H2 nS s2 eS => ?_
  rw [Int.toNat_natCast, flat_rep, show List.replicate (max ns.length ms.length) (V.int 0) = (M.zeros (max ns.length ms.length)).map V.int by simp [M.zeros]] at eS
  have nS0 : H S = none := s1.free nS
  have lz : (M.zeros (max ns.length ms.length)).length = max ns.length ms.length := by simp [M.zeros]
  kc_close
  refine s_ienumT (xs := ns.map V.int) (by ktr_room) ?_
  refine w_enumT (xs := ns.map V.int) (fun i σ H' => ∃ y z, σ = [some (.int p), some (.ref f), some (.ref g), some (.ref S), y, z] ∧ Same H H' ∧ H' S = some (.lst ((M.addMul (M.zeros (max ns.length ms.length)) 0 1 (ns.take i)).map V.int))) ⟨none, none, rfl, s1.trans s2, eS⟩ ?_ ?_ ?_
  · rintro i _ H' _ ⟨y, z, rfl, sm, _⟩
    ktr_room
  · rintro i x _ H3 Tp H4 e ⟨y, z, rfl, sm3, e3⟩ nT sm4 eT
    obtain ⟨rfl, hi⟩ := item_int e
    have hl : i < (M.addMul (M.zeros (max ns.length ms.length)) 0 1 (ns.take i)).length := by rw [M.addMul_length, lz]; omega
    have e4 : H4 S = some (.lst ((M.addMul (M.zeros (max ns.length ms.length)) 0 1 (ns.take i)).map V.int)) := by ktr_room
    kc_close
    refine s_getL (SqL.of e4) (by omega) (by rw [Int.toNat_natCast]; exact at_int hl) ?_
    kc_close
    refine s_setL e4 (ixN_nat (by rw [List.length_map]; exact hl)) fun H5 b5 e5 => ?_
    refine ⟨_, _, rfl, But.same b5 (sm3.trans sm4) nS0, ?_⟩
    rw [M.addMul_take _ _ _ _ i hi, Nat.zero_add, Int.one_mul]
    rw [map_set] at e5
    exact e5
  rintro _ H3 ⟨y, z, rfl, sm3, e3⟩
  rw [List.length_map, List.take_length] at e3
  kc_close
  refine s_ienumT (xs := ms.map V.int) (by ktr_room) ?_
  refine w_enumT (xs := ms.map V.int) (fun i σ H' => ∃ y z, σ = [some (.int p), some (.ref f), some (.ref g), some (.ref S), y, z] ∧ Same H H' ∧ H' S = some (.lst ((M.addMul (M.addMul (M.zeros (max ns.length ms.length)) 0 1 ns) 0 1 (ms.take i)).map V.int))) ⟨_, _, rfl, sm3, e3⟩ ?_ ?_ ?_
  · rintro i _ H' _ ⟨y, z, rfl, sm, _⟩
    ktr_room
  · rintro i x _ H3 Tp H4 e ⟨y, z, rfl, sm3, e3⟩ nT sm4 eT
    obtain ⟨rfl, hi⟩ := item_int e
    have hl : i < (M.addMul (M.addMul (M.zeros (max ns.length ms.length)) 0 1 ns) 0 1 (ms.take i)).length := by rw [M.addMul_length, M.addMul_length, lz]; omega
    have e4 : H4 S = some (.lst ((M.addMul (M.addMul (M.zeros (max ns.length ms.length)) 0 1 ns) 0 1 (ms.take i)).map V.int)) := by ktr_room
    kc_close
    refine s_getL (SqL.of e4) (by omega) (by rw [Int.toNat_natCast]; exact at_int hl) ?_
    kc_close
    refine s_setL e4 (ixN_nat (by rw [List.length_map]; exact hl)) fun H5 b5 e5 => ?_
    refine ⟨_, _, rfl, But.same b5 (sm3.trans sm4) nS0, ?_⟩
    rw [M.addMul_take _ _ _ _ i hi, Nat.zero_add, Int.one_mul]
    rw [map_set] at e5
    exact e5
  rintro _ H4 ⟨y, z, rfl, sm4, e4⟩
  rw [List.length_map, List.take_length] at e4
  kc_close
  refine ⟨p, S, rfl, _, .inl (SqL.of e4), hp, ?_, fun H5 r sm5 hr => q H5 r (sm4.trans sm5) hr⟩
  rw [M.addMul_length, M.addMul_length, lz]
  omega
def spTimes (K : PySem.W.Frag) : Sp := fun vs H Q _ => ∃ (p : Int) (f g : Addr), vs = [.int p, .ref f, .ref g] ∧ ∃ ns ms : List Int, IsT K H f ns ∧ IsT K H g ms ∧ 0 < p ∧ ns.length ≤ 100 ∧ ms.length ≤ 100 ∧ (∀ x ∈ ns, 0 ≤ x ∧ x < 1000) ∧
  ∀ H' q, Same H H' → IsT K H' q (M.times p ns ms) → Q (.ref q) H'
theorem ok_times (T : NoB mg) (h : Has K mg "times" (topS 7) ["p", "f", "g"]) (G_trimmed : Good P w K mg base 1 "trimmed" ["p", "coefficients"] (spTrimmed K)) : Good P w K mg base 2 "times" ["p", "f", "g"] (spTimes K) := by
  have sc : FnScope ["p", "f", "g", "sums", "j", "a", "k", "b"] ["p", "f", "g"] (defScope (topS 7)) := ⟨rfl, rfl, rfl, by decide +kernel, rfl, by decide +kernel, by decide +kernel⟩
  have nd := sc.nd
  refine h.good sc (fun vs H Q E h => by obtain ⟨p, f, g, rfl, _⟩ := h; rfl) (fun f cdv A outer s H vs Q E hr h => ?_)
  obtain ⟨p, f, g, rfl, hyp⟩ := h
  refine ⟨_, (pss_cons (ps_set (i := 3) nd rfl (by first | exact .inl rfl | exact .inr rfl) (pe_op op_rep (pe_lst (pa_cons pe_int pa_nil)) (pe_op op_add (pe_callB (c_lenK K) (by rfl) T.n_len (by decide +kernel) (pa_cons (pv 1) pa_nil)) (pe_callB (c_lenK K) (by rfl) T.n_len (by decide +kernel) (pa_cons (pv 2) pa_nil)))))
  (pss_cons (ps_for PassesOwn.never rfl (pi_enumK K (by rfl) T.n_enumerate (pa_cons (pv 1) pa_nil)) (pg_tupK K 2 (by rfl) (pgs_cons (pg_name (i := 4) nd rfl (by first | exact .inl rfl | exact .inr rfl)) (pgs_cons (pg_name (i := 5) nd rfl (by first | exact .inl rfl | exact .inr rfl)) pgs_nil)))
  (pss_one (ps_for PassesOwn.never rfl (pi_enumK K (by rfl) T.n_enumerate (pa_cons (pv 2) pa_nil)) (pg_tupK K 2 (by rfl) (pgs_cons (pg_name (i := 6) nd rfl (by first | exact .inl rfl | exact .inr rfl)) (pgs_cons (pg_name (i := 7) nd rfl (by first | exact .inl rfl | exact .inr rfl)) pgs_nil)))
  (pss_one (ps_augS (pv 3) (pe_op op_add (pv 4) (pv 6)) (g_listK K) (pe_op op_mul (pv 5) (pv 7)) ip_add set_list)))))
  (pss_one (ps_ret (pe_callG G_trimmed (hr.mono (by decide)) (by rfl) (pa_cons (pv 0) (pa_cons (pv 3) pa_nil))))))), ?_⟩
  try dsimp only [cxOf, Cx.wish]
  obtain ⟨ns, ms, hf, hg, hp, hz, hz2, hsm, q⟩ := hyp
  kc_close
  intro o H1 no s1 eo
  kc_close
  have hm : ((ns.map V.int).length : Int) + ((ms.map V.int).length : Int) = ((ns.length + ms.length : Nat) : Int) := by
    rw [List.length_map, List.length_map]
    omega
  rw [hm]
  refine s_rep eo (by omega) (by omega) (by rw [Int.toNat_natCast]; exact Nat.le_trans (show 1 * (ns.length + ms.length) ≤ 200 by omega) (by decide)) fun S H2 nS s2 eS => ?_
  rw [Int.toNat_natCast, flat_rep, show List.replicate (ns.length + ms.length) (V.int 0) = (M.zeros (ns.length + ms.length)).map V.int by simp [M.zeros]] at eS
  have nS0 : H S = none := s1.free nS
  have lz : (M.zeros (ns.length + ms.length)).length = ns.length + ms.length := by simp [M.zeros]
  kc_close
  refine s_ienumT (xs := ns.map V.int) (by ktr_room) ?_
  refine w_enumT (xs := ns.map V.int) (fun i σ H' => ∃ y z u v, σ = [some (.int p), some (.ref f), some (.ref g), some (.ref S), y, z, u, v] ∧ Same H H' ∧ H' S = some (.lst ((M.mulFrom (M.zeros (ns.length + ms.length)) 0 ms (ns.take i)).map V.int))) ⟨none, none, none, none, rfl, s1.trans s2, eS⟩ ?_ ?_ ?_
  · rintro i _ H' _ ⟨y, z, u, v, rfl, sm, _⟩
    ktr_room
  · rintro i x _ H3 Tp H4 e ⟨y, z, u, v, rfl, sm3, e3⟩ nT sm4 eT
    obtain ⟨rfl, hi⟩ := item_int e
    have e4 : H4 S = some (.lst ((M.mulFrom (M.zeros (ns.length + ms.length)) 0 ms (ns.take i)).map V.int)) := by ktr_room
    have lm : (M.mulFrom (M.zeros (ns.length + ms.length)) 0 ms (ns.take i)).length = ns.length + ms.length := by rw [M.mulFrom_length, lz]
    have hsx : 0 ≤ ns.getD i 0 ∧ ns.getD i 0 < 1000 := hsm _ (by rw [List.getD_eq_getElem?_getD, List.getElem?_eq_getElem hi]; exact List.getElem_mem hi)
    kc_close
    refine s_ienumT (xs := ms.map V.int) (by ktr_room) ?_
    refine w_enumT (xs := ms.map V.int) (fun k σ H' => ∃ u v, σ = [some (.int p), some (.ref f), some (.ref g), some (.ref S), some (.int (i : Nat)), some (.int (ns.getD i 0)), u, v] ∧ Same H H' ∧ H' S = some (.lst ((M.addMul (M.mulFrom (M.zeros (ns.length + ms.length)) 0 ms (ns.take i)) i (ns.getD i 0) (ms.take k)).map V.int))) ⟨u, v, rfl, sm3.trans sm4, e4⟩ ?_ ?_ ?_
    · rintro k _ H' _ ⟨u, v, rfl, sm, _⟩
      ktr_room
    · rintro k x _ H5 Tp H6 e ⟨u, v, rfl, sm5, e5⟩ nT sm6 eT
      obtain ⟨rfl, hk⟩ := item_int e
      have e6 : H6 S = some (.lst ((M.addMul (M.mulFrom (M.zeros (ns.length + ms.length)) 0 ms (ns.take i)) i (ns.getD i 0) (ms.take k)).map V.int)) := by ktr_room
      have hl : i + k < (M.addMul (M.mulFrom (M.zeros (ns.length + ms.length)) 0 ms (ns.take i)) i (ns.getD i 0) (ms.take k)).length := by rw [M.addMul_length, lm]; omega
      kc_close
      refine s_getL (SqL.of e6) (by omega) (by rw [show ((i : Int) + (k : Int)).toNat = i + k by omega]; exact at_int hl) ?_
      kc_close
      rw [show (i : Int) + (k : Int) = ((i + k : Nat) : Int) by omega]
      refine s_setL e6 (ixN_nat (by rw [List.length_map]; exact hl)) fun H7 b7 e7 => ?_
      refine ⟨_, _, rfl, But.same b7 (sm5.trans sm6) nS0, ?_⟩
      rw [M.addMul_take _ _ _ _ k hk]
      rw [map_set] at e7
      exact e7
    rintro _ H5 ⟨u, v, rfl, sm5, e5⟩
    rw [List.length_map, List.take_length] at e5
    refine ⟨_, _, _, _, rfl, sm5, ?_⟩
    rw [M.mulFrom_take _ _ _ _ i hi, Nat.zero_add]
    exact e5
  rintro _ H3 ⟨y, z, u, v, rfl, sm3, e3⟩
  rw [List.length_map, List.take_length] at e3
  kc_close
  refine ⟨p, S, rfl, _, .inl (SqL.of e3), hp, ?_, fun H5 r sm5 hr => q H5 r (sm3.trans sm5) hr⟩
  rw [M.mulFrom_length, lz]
  omega
theorem u_power {p a k : Int} {H : Hp} {Q : VK} {E : XK} (h1 : 1 < p) (h2 : p < 1000) (h3 : 0 ≤ k) (q : Q (.int (a ^ k.toNat % p)) H) : spPower [.int p, .int a, .int k] H Q E := ⟨p, a, k, rfl, h1, h2, h3, q⟩
theorem u_inverse {p a : Int} {H : Hp} {Q : VK} {E : XK} (h1 : 1 < p) (h2 : p < 1000) (q : Q (.int (M.inv p a)) H) : spInverse [.int p, .int a] H Q E := ⟨p, a, rfl, h1, h2, q⟩
theorem u_trimmedL {p : Int} {c : Addr} {ns : List Int} {H : Hp} {Q : VK} {E : XK} (hx : IsL K H c ns) (h1 : 0 < p) (h2 : ns.length ≤ 1000) (q : ∀ H' q, Same H H' → IsT K H' q (M.red p ns) → Q (.ref q) H') : spTrimmed K [.int p, .ref c] H Q E := ⟨p, c, rfl, ns, .inl hx, h1, h2, q⟩
theorem u_trimmedT {p : Int} {c : Addr} {ns : List Int} {H : Hp} {Q : VK} {E : XK} (hx : IsT K H c ns) (h1 : 0 < p) (h2 : ns.length ≤ 1000) (q : ∀ H' q, Same H H' → IsT K H' q (M.red p ns) → Q (.ref q) H') : spTrimmed K [.int p, .ref c] H Q E := ⟨p, c, rfl, ns, .inr hx, h1, h2, q⟩
theorem u_value {p x : Int} {f : Addr} {ns : List Int} {H : Hp} {Q : VK} {E : XK} (hx : IsT K H f ns) (h1 : 0 < p) (h2 : p < 1000) (h3 : ns.length ≤ 1000) (q : Q (.int (M.hv p ns x)) H) : spValue K [.int p, .ref f, .int x] H Q E := ⟨p, f, x, rfl, ns, hx, h1, h2, h3, q⟩
theorem u_plus {p : Int} {f g : Addr} {ns ms : List Int} {H : Hp} {Q : VK} {E : XK} (hf : IsT K H f ns) (hg : IsT K H g ms) (h1 : 0 < p) (h2 : ns.length ≤ 100) (h3 : ms.length ≤ 100) (q : ∀ H' q, Same H H' → IsT K H' q (M.plus p ns ms) → Q (.ref q) H') : spPlus K [.int p, .ref f, .ref g] H Q E := ⟨p, f, g, rfl, ns, ms, hf, hg, h1, h2, h3, q⟩
theorem u_times {p : Int} {f g : Addr} {ns ms : List Int} {H : Hp} {Q : VK} {E : XK} (hf : IsT K H f ns) (hg : IsT K H g ms) (h1 : 0 < p) (h2 : ns.length ≤ 100) (h3 : ms.length ≤ 100) (h4 : ∀ x ∈ ns, 0 ≤ x ∧ x < 1000) (q : ∀ H' q, Same H H' → IsT K H' q (M.times p ns ms) → Q (.ref q) H') : spTimes K [.int p, .ref f, .ref g] H Q E := ⟨p, f, g, rfl, ns, ms, hf, hg, h1, h2, h3, h4, q⟩
end
end K1
end
section
open PySem PySem.Spec PyProof.Rows L2 Z
local macro_rules | `(tactic| ktr_room) => `(tactic| first
  | assumption
  | (apply SqT.of; assumption)
  | (apply SqL.of; assumption)
  | (apply sqt_same; assumption; ktr_room)
  | (apply sql_same; assumption; ktr_room)
  | (apply sqt_but; assumption; assumption; ktr_room)
  | (apply sql_but; assumption; assumption; ktr_room)
  | (apply Same.of_; assumption; ktr_room)
  | (apply But.of_; assumption; assumption; ktr_room)
  | exact same_refl
  | exact but_refl
  | (apply same_tr; assumption; ktr_room)
  | (apply same_but; assumption; ktr_room; assumption)
  | (apply but_tr; assumption; ktr_room)
  | (apply but_trB; assumption; ktr_room))
local macro_rules | `(tactic| ktr_units) => `(tactic| first | with_reducible assumption | omega | rfl | exact ⟨by omega, by omega⟩ | exact .inl ⟨by omega, by omega⟩ | exact .inr ⟨by omega, by omega⟩ | exact ⟨by decide, by decide, by decide⟩ | exact Nat.le_of_ble_eq_true rfl | decide)
local macro_rules | `(tactic| kc_close) => `(tactic| repeat (with_reducible first
  | refine s_var (by with_unfolding_all rfl) ?_
  | refine s_c ?_
  | refine s_op ?_
  | refine s_rI0 ?_
  | refine s_asg ?_
  | refine s_gname ?_
  | refine s_seq ?_
  | refine s_cons ?_
  | refine s_nil ?_
  | refine s_call ?_
  | refine s_ret ?_
  | o_fieldsN
  | refine s_test ?_
  | refine s_bl ?_
  | refine s_rI (by with_unfolding_all (ktr_units)) ?_
  | refine s_rEq rfl ?_
  | refine s_rNe rfl ?_
  | refine s_cb ?_
  | refine s_int1 ?_
  | refine s_intB ?_
  | refine s_max2 ?_
  | refine s_tup ?_
  | refine s_lst ?_
  | refine s_newT (by with_unfolding_all first | decide | exact Nat.le_of_ble_eq_true rfl) ?_
  | refine s_newL (by with_unfolding_all first | decide | exact Nat.le_of_ble_eq_true rfl) ?_
  | refine s_ixT (by ktr_room) (by with_unfolding_all rfl) ?_
  | refine s_ixL (by ktr_room) (by with_unfolding_all rfl) ?_
  | refine s_lenT (by ktr_room) ?_
  | refine s_lenL (by ktr_room) ?_
  | refine s_un ?_
  | refine s_rU ?_
  | refine s_and ?_
  | refine s_or ?_
  | refine s_not ?_
  | refine s_tB ?_
  | refine s_tru ?_
  | refine s_drop ?_
  | refine s_next ?_
  | refine s_for ?_
  | refine s_rng1 ?_
  | refine s_rng2 ?_
  | refine s_rng3 ?_
  | refine s_ilist ?_
  | refine s_itup ?_
  | refine s_iany ?_
  | refine s_ienum ?_
  | refine s_irev ?_
  | refine s_gcons ?_
  | refine s_gnil ?_
  | refine s_gtup (by ktr_room) (by with_unfolding_all rfl) ?_
  | refine s_gsub ?_
  | refine s_augS ?_
  | refine s_aug (by with_unfolding_all rfl) ?_
  | refine s_ipI ?_
  | refine s_bm ?_
  | refine s_bm0 ?_
  | refine s_tyL (by ktr_room) ?_
  | refine s_tyL0 (by ktr_room) ?_
  | refine s_sl ?_
  | refine s_part ?_
  | refine s_partv ?_
  | refine s_noPart ?_
  | refine s_lc ?_
  | refine s_yes ?_
  | refine s_wipe (by with_unfolding_all rfl) ?_
  | refine iteT ?_
  | refine s_retN ?_
  | refine s_truL (by ktr_room) ?_
  | refine s_truT (by ktr_room) ?_))
open K1
local macro_rules | `(tactic| o_fieldsN) => `(tactic| with_reducible first
  | refine u_power (by ktr_units) (by ktr_units) (by ktr_units) ?_
  | refine u_inverse (by ktr_units) (by ktr_units) ?_
  | (refine u_trimmedT (by ktr_room) (by ktr_units) (by ktr_units) ?_; intro H' q' sm' hr')
  | (refine u_trimmedL (by ktr_room) (by ktr_units) (by ktr_units) ?_; intro H' q' sm' hr')
  | refine u_value (by ktr_room) (by ktr_units) (by ktr_units) (by ktr_units) ?_
  | (refine u_plus (by ktr_room) (by ktr_room) (by ktr_units) (by ktr_units) (by ktr_units) ?_; intro H' q' sm' hr')
  | (refine u_times (by ktr_room) (by ktr_room) (by ktr_units) (by ktr_units) (by ktr_units) (by ktr_units) ?_; intro H' q' sm' hr'))
namespace K1
section
variable {P : Program} {w : World} {K : PySem.W.Frag} {mg : Str → Option Value} {base : Heap}
def spInterp (K : PySem.W.Frag) : Sp := fun vs H Q _ => ∃ (p : Int) (c : Addr), vs = [.int p, .ref c] ∧ ∃ (l : List (Int × Int)) (as : List Addr), SqT K H c (as.map V.ref) ∧ Paired (fun a xy => SqT K H a [.int xy.1, .int xy.2]) as l ∧ M.PR p ∧ l.length ≤ 40 ∧
  (∀ xy ∈ l, 0 ≤ xy.1 ∧ xy.1 < p ∧ 0 ≤ xy.2 ∧ xy.2 < p) ∧ (l.map (·.1)).Nodup ∧ ∀ H' q, Same H H' → IsT K H' q (M.stI p l).1 → Q (.ref q) H'
theorem ok_interpolate (h : Has K mg "interpolate" (topS 8) ["p", "pairs"]) (G_value : Good P w K mg base 1 "value" ["p", "f", "x"] (spValue K)) (G_inverse : Good P w K mg base 2 "inverse" ["p", "a"] (spInverse)) (G_plus : Good P w K mg base 2 "plus" ["p", "f", "g"] (spPlus K)) (G_times : Good P w K mg base 2 "times" ["p", "f", "g"] (spTimes K)) (G_trimmed : Good P w K mg base 1 "trimmed" ["p", "coefficients"] (spTrimmed K)) : Good P w K mg base 3 "interpolate" ["p", "pairs"] (spInterp K) := by
  have sc : FnScope ["p", "pairs", "found", "blank", "x", "y", "gap", "factor"] ["p", "pairs"] (defScope (topS 8)) := ⟨rfl, rfl, rfl, by decide +kernel, rfl, by decide +kernel, by decide +kernel⟩
  have nd := sc.nd
  refine h.good sc (fun vs H Q E h => by obtain ⟨p, c, rfl, _⟩ := h; rfl) (fun f cdv A outer s H vs Q E hr h => ?_)
  obtain ⟨p, c, rfl, hyp⟩ := h
  refine ⟨_, (pss_cons (ps_set (i := 2) nd rfl (by first | exact .inl rfl | exact .inr rfl) (pe_tup pa_nil))
  (pss_cons (ps_set (i := 3) nd rfl (by first | exact .inl rfl | exact .inr rfl) (pe_tup (pa_cons pe_int pa_nil)))
  (pss_cons (ps_for PassesOwn.never rfl (pi_tupK K (pv 1)) (pg_tupK K 2 (by rfl) (pgs_cons (pg_name (i := 4) nd rfl (by first | exact .inl rfl | exact .inr rfl)) (pgs_cons (pg_name (i := 5) nd rfl (by first | exact .inl rfl | exact .inr rfl)) pgs_nil)))
  (pss_cons (ps_set (i := 6) nd rfl (by first | exact .inl rfl | exact .inr rfl) (pe_op op_sub (pv 5) (pe_callG G_value (hr.mono (by decide)) (by rfl) (pa_cons (pv 0) (pa_cons (pv 2) (pa_cons (pv 4) pa_nil))))))
  (pss_cons (ps_set (i := 7) nd rfl (by first | exact .inl rfl | exact .inr rfl) (pe_op op_mul (pv 6) (pe_callG G_inverse (hr.mono (by decide)) (by rfl) (pa_cons (pv 0) (pa_cons (pe_callG G_value (hr.mono (by decide)) (by rfl) (pa_cons (pv 0) (pa_cons (pv 3) (pa_cons (pv 4) pa_nil)))) pa_nil)))))
  (pss_cons (ps_set (i := 2) nd rfl (by first | exact .inl rfl | exact .inr rfl) (pe_callG G_plus (hr.mono (by decide)) (by rfl) (pa_cons (pv 0) (pa_cons (pv 2) (pa_cons (pe_callG G_times (hr.mono (by decide)) (by rfl) (pa_cons (pv 0) (pa_cons (pe_callG G_trimmed (hr.mono (by decide)) (by rfl) (pa_cons (pv 0) (pa_cons (pe_tup (pa_cons (pv 7) pa_nil)) pa_nil))) (pa_cons (pv 3) pa_nil)))) pa_nil)))))
  (pss_one (ps_set (i := 3) nd rfl (by first | exact .inl rfl | exact .inr rfl) (pe_callG G_times (hr.mono (by decide)) (by rfl) (pa_cons (pv 0) (pa_cons (pv 3) (pa_cons (pe_callG G_trimmed (hr.mono (by decide)) (by rfl) (pa_cons (pv 0) (pa_cons (pe_tup (pa_cons (pe_un un_neg (pv 4)) (pa_cons pe_int pa_nil))) pa_nil))) pa_nil))))))))))
  (pss_one (ps_ret (pv 2)))))), ?_⟩
  try dsimp only [cxOf, Cx.wish]
  obtain ⟨l, as, hc, hps, hpr, hz, hin, hnd, q⟩ := hyp
  have hp := hpr.lt
  have hlen := Paired.length hps
  have inv := M.invI_take hpr hin hnd
  kc_close
  intro F H1 nF s1 eF
  kc_close
  intro B H2 nB s2 eB
  kc_close
  refine s_itupv (xs := as.map V.ref) (by ktr_room) ?_
  refine w_tup (xs := as.map V.ref) (fun i σ H' => ∃ F B y4 y5 y6 y7, σ = [some (.int p), some (.ref c), some (.ref F), some (.ref B), y4, y5, y6, y7] ∧ Same H H' ∧ IsT K H' F (M.stI p (l.take i)).1 ∧ IsT K H' B (M.stI p (l.take i)).2) ?_ ?_ ?_ ?_
  · refine ⟨F, B, none, none, none, none, rfl, s1.trans s2, ?_, ?_⟩
    · show SqT K H2 F []
      ktr_room
    · show SqT K H2 B [V.int 1]
      ktr_room
  · rintro i _ H' _ ⟨F, B, y4, y5, y6, y7, rfl, sm, _⟩
    ktr_room
  · rintro i x _ H3 e ⟨F, B, y4, y5, y6, y7, rfl, sm3, hF, hB⟩
    rw [List.getElem?_map] at e
    cases ea : as[i]? with
    | none =>
      rw [ea] at e
      cases e
    | some a =>
      rw [ea] at e
      have ex : V.ref a = x := Option.some.inj e
      subst ex
      obtain ⟨xy, el, hxy⟩ := paired_get hps ea
      have hi : i < l.length := (List.getElem?_eq_some_iff.mp el).1
      have I := inv i (by omega)
      have hxy3 : SqT K H3 a [.int xy.1, .int xy.2] := sqt_same sm3 hxy
      have hb := hin xy (List.mem_of_getElem? el)
      have l1 := I.len1
      have l2 := I.len2
      rw [List.length_take, Nat.min_eq_left (by omega)] at l1 l2
      generalize hst : M.stI p (l.take i) = st at I hF hB l1 l2
      have in1 : ∀ x ∈ st.1, 0 ≤ x ∧ x < 1000 := fun x m => by
        have := I.in1 x m
        omega
      have in2 : ∀ x ∈ st.2, 0 ≤ x ∧ x < 1000 := fun x m => by
        have := I.in2 x m
        omega
      have v1 := M.hv_lt (show 0 < p by omega) st.1 xy.1
      have v2 := M.hv_lt (show 0 < p by omega) st.2 xy.1
      have r1 : (M.red p [(xy.2 - M.hv p st.1 xy.1) * M.inv p (M.hv p st.2 xy.1)]).length ≤ 1 := by
        refine Nat.le_trans (M.trim_length _) ?_
        simp
      have r2 : ∀ x ∈ M.red p [(xy.2 - M.hv p st.1 xy.1) * M.inv p (M.hv p st.2 xy.1)], 0 ≤ x ∧ x < 1000 := fun x m => by
        have := M.red_mem (show 0 < p by omega) m
        omega
      have r3 : (M.red p [-xy.1, 1]).length ≤ 2 := by
        refine Nat.le_trans (M.trim_length _) ?_
        simp
      have r4 := M.times_length p (M.red p [(xy.2 - M.hv p st.1 xy.1) * M.inv p (M.hv p st.2 xy.1)]) st.2
      kc_close
      intro t1 H4 n4 s4 e4
      have k4 : IsT K H4 t1 [(xy.2 - M.hv p st.1 xy.1) * M.inv p (M.hv p st.2 xy.1)] := SqT.of e4
      kc_close
      intro t2 H5 n5 s5 e5
      have k5 : IsT K H5 t2 [-xy.1, 1] := SqT.of e5
      kc_close
      have est : M.stI p (l.take (i + 1)) = M.stepI p st xy.1 xy.2 := by
        have hxi : l[i] = xy := by
          rw [List.getElem?_eq_getElem hi] at el
          exact Option.some.inj el
        rw [List.take_succ_eq_append_getElem hi, M.stI_snoc, hst, hxi]
      refine ⟨_, _, _, _, _, _, rfl, ?_, ?_, ?_⟩
      · ktr_room
      · rw [est]
        show SqT K _ _ _
        ktr_room
      · rw [est]
        show SqT K _ _ _
        ktr_room
  · rintro _ H3 ⟨F, B, y4, y5, y6, y7, rfl, sm3, hF, hB⟩
    rw [List.length_map, hlen, List.take_length] at hF
    kc_close
    exact q _ _ sm3 hF
end
end K1
end
section
open PySem PySem.Spec PyProof.Rows L2 Z
local macro_rules | `(tactic| ktr_room) => `(tactic| first
  | assumption
  | (apply SqT.of; assumption)
  | (apply SqL.of; assumption)
  | (apply sqt_same; assumption; ktr_room)
  | (apply sql_same; assumption; ktr_room)
  | (apply sqt_but; assumption; assumption; ktr_room)
  | (apply sql_but; assumption; assumption; ktr_room)
  | (apply Same.of_; assumption; ktr_room)
  | (apply But.of_; assumption; assumption; ktr_room)
  | exact same_refl
  | exact but_refl
  | (apply same_tr; assumption; ktr_room)
  | (apply same_but; assumption; ktr_room; assumption)
  | (apply but_tr; assumption; ktr_room)
  | (apply but_trB; assumption; ktr_room))
local macro_rules | `(tactic| ktr_units) => `(tactic| first | with_reducible assumption | omega | rfl | exact ⟨by omega, by omega⟩ | exact .inl ⟨by omega, by omega⟩ | exact .inr ⟨by omega, by omega⟩ | exact ⟨by decide, by decide, by decide⟩ | exact Nat.le_of_ble_eq_true rfl | decide)
local macro_rules | `(tactic| kc_close) => `(tactic| repeat (with_reducible first
  | refine s_var (by with_unfolding_all rfl) ?_
  | refine s_c ?_
  | refine s_op ?_
  | refine s_rI0 ?_
  | refine s_asg ?_
  | refine s_gname ?_
  | refine s_seq ?_
  | refine s_cons ?_
  | refine s_nil ?_
  | refine s_call ?_
  | refine s_ret ?_
  | o_fieldsN
  | refine s_test ?_
  | refine s_bl ?_
  | refine s_rI (by with_unfolding_all (ktr_units)) ?_
  | refine s_rEq rfl ?_
  | refine s_rNe rfl ?_
  | refine s_cb ?_
  | refine s_int1 ?_
  | refine s_intB ?_
  | refine s_max2 ?_
  | refine s_tup ?_
  | refine s_lst ?_
  | refine s_newT (by with_unfolding_all first | decide | exact Nat.le_of_ble_eq_true rfl) ?_
  | refine s_newL (by with_unfolding_all first | decide | exact Nat.le_of_ble_eq_true rfl) ?_
  | refine s_ixT (by ktr_room) (by with_unfolding_all rfl) ?_
  | refine s_ixL (by ktr_room) (by with_unfolding_all rfl) ?_
  | refine s_lenT (by ktr_room) ?_
  | refine s_lenL (by ktr_room) ?_
  | refine s_un ?_
  | refine s_rU ?_
  | refine s_and ?_
  | refine s_or ?_
  | refine s_not ?_
  | refine s_tB ?_
  | refine s_tru ?_
  | refine s_drop ?_
  | refine s_next ?_
  | refine s_for ?_
  | refine s_rng1 ?_
  | refine s_rng2 ?_
  | refine s_rng3 ?_
  | refine s_ilist ?_
  | refine s_itup ?_
  | refine s_iany ?_
  | refine s_ienum ?_
  | refine s_irev ?_
  | refine s_gcons ?_
  | refine s_gnil ?_
  | refine s_gtup (by ktr_room) (by with_unfolding_all rfl) ?_
  | refine s_gsub ?_
  | refine s_augS ?_
  | refine s_aug (by with_unfolding_all rfl) ?_
  | refine s_ipI ?_
  | refine s_bm ?_
  | refine s_bm0 ?_
  | refine s_tyL (by ktr_room) ?_
  | refine s_tyL0 (by ktr_room) ?_
  | refine s_sl ?_
  | refine s_part ?_
  | refine s_partv ?_
  | refine s_noPart ?_
  | refine s_lc ?_
  | refine s_yes ?_
  | refine s_wipe (by with_unfolding_all rfl) ?_
  | refine iteT ?_
  | refine s_retN ?_
  | refine s_truL (by ktr_room) ?_
  | refine s_truT (by ktr_room) ?_))
namespace K1
section
variable {P : Program} {w : World} {K : PySem.W.Frag} {mg : Str → Option Value} {base : Heap}
/-- the store of draws at c: the script's numbers at L, the next one's place, what is left of the last, how many there were, 20 -/
def DR (H : Hp) (c L : Addr) : Prop := ∃ (ns : List Int) (i r n : Int), H c = some (.lst [.ref L, .int i, .int r, .int n, .int 20]) ∧ H L = some (.lst (ns.map V.int)) ∧ L ≠ c ∧ 0 ≤ i
theorem DR.same {H H' : Hp} {c L : Addr} (s : Same H H') (h : DR H c L) : DR H' c L := by
  obtain ⟨ns, i, r, n, e, hL, ne, h0⟩ := h
  exact ⟨ns, i, r, n, s _ _ e, s _ _ hL, ne, h0⟩
theorem DR.but {H H' : Hp} {c L D : Addr} (b : But D H H') (h : DR H c L) (n1 : D ≠ c) (n2 : D ≠ L) : DR H' c L := by
  obtain ⟨ns, i, r, n, e, hL, ne, h0⟩ := h
  exact ⟨ns, i, r, n, b _ _ (Ne.symm n1) e, b _ _ (Ne.symm n2) hL, ne, h0⟩
theorem DR.ne {H : Hp} {c L D : Addr} (d : DR H c L) (n : H D = none) : D ≠ c := by
  obtain ⟨ns, i, r, m, e, _⟩ := d
  intro z
  subst z
  rw [e] at n
  cases n
theorem DR.neL {H : Hp} {c L D : Addr} (d : DR H c L) (n : H D = none) : D ≠ L := by
  obtain ⟨ns, i, r, m, _, e, _⟩ := d
  intro z
  subst z
  rw [e] at n
  cases n
def spFill : Sp := fun vs H Q _ => ∃ c : Addr, vs = [.ref c] ∧ ∃ L, DR H c L ∧ ∀ H' v, But c H H' → DR H' c L → Q (.int v) H'
def spTake : Sp := fun vs H Q _ => ∃ (c : Addr) (m : Int), vs = [.ref c, .int m] ∧ ∃ L, DR H c L ∧ 0 < m ∧ m < 1073741824 ∧ ∀ H' d, But c H H' → DR H' c L → 0 ≤ d → d < m → Q (.int d) H'
theorem ok__law_fill (T : NoB mg) (h : Has K mg "_law_fill" (topS 11) ["c"]) : Good P w K mg base 1 "_law_fill" ["c"] (spFill) := by
  have sc : FnScope ["c", "number"] ["c"] (defScope (topS 11)) := ⟨rfl, rfl, rfl, by decide +kernel, rfl, by decide +kernel, by decide +kernel⟩
  have nd := sc.nd
  refine h.good sc (fun vs H Q E h => by obtain ⟨c, rfl, _⟩ := h; rfl) (fun f cdv A outer s H vs Q E hr h => ?_)
  obtain ⟨c, rfl, hyp⟩ := h
  refine ⟨_, (pss_cons (ps_asg (pe_op op_add (pe_ix (ix_listK K) (pv 0) pe_int (fun _ _ => rfl)) pe_int) (pg_sub (pv 0) pe_int set_list))
  (pss_cons (ps_set (i := 1) nd rfl (by first | exact .inl rfl | exact .inr rfl) (pe_op op_add (pe_op op_mul (pe_ix (ix_listK K) (pv 0) pe_int (fun _ _ => rfl)) pe_int) pe_int))
  (pss_cons (ps_if (pt_cmpR op_lt (pe_ix (ix_listK K) (pv 0) pe_int (fun _ _ => rfl)) (pe_callB (c_lenK K) (by rfl) T.n_len (by decide +kernel) (pa_cons (pe_ix (ix_listK K) (pv 0) pe_int (fun _ _ => rfl)) pa_nil)) (nomark _))
  (pss_cons (ps_set (i := 1) nd rfl (by first | exact .inl rfl | exact .inr rfl) (pe_ix (ix_listK K) (pe_ix (ix_listK K) (pv 0) pe_int (fun _ _ => rfl)) (pe_ix (ix_listK K) (pv 0) pe_int (fun _ _ => rfl)) (fun _ _ => rfl)))
  (pss_cons (ps_asg (pe_op op_add (pe_ix (ix_listK K) (pv 0) pe_int (fun _ _ => rfl)) pe_int) (pg_sub (pv 0) pe_int set_list))
  (pss_cons (ps_if (pt_cmpR op_lt (pv 1) pe_int (nomark _))
  (pss_one (ps_set (i := 1) nd rfl (by first | exact .inl rfl | exact .inr rfl) (pe_op op_sub (pe_op op_sub pe_int pe_int) (pv 1)))) pss_nil)
  (pss_one (ps_if (pt_cmpR op_ge (pv 1) (pe_op op_pow pe_int pe_int) (nomark _))
  (pss_one (ps_ret (pv 1))) pss_nil))))) pss_nil)
  (pss_cons (ps_if (PW.pt (pw_and (pt_truK K (pe_ix (ix_listK K) (pv 0) pe_int (fun _ _ => rfl)) (by intro _; rfl)) (pw_and1 (pt_cmpR op_ge (pe_ix (ix_listK K) (pv 0) pe_int (fun _ _ => rfl)) (pe_callB (c_lenK K) (by rfl) T.n_len (by decide +kernel) (pa_cons (pe_ix (ix_listK K) (pv 0) pe_int (fun _ _ => rfl)) pa_nil)) (nomark _)))))
  (pss_one (ps_set (i := 1) nd rfl (by first | exact .inl rfl | exact .inr rfl) (pe_op op_add (pv 1) (pe_op op_mod (pe_callTy c_int1 (by rfl) T.n_int (by decide +kernel) (pa_cons (pe_ix (ix_listK K) (pe_ix (ix_listK K) (pv 0) pe_int (fun _ _ => rfl)) (pe_un un_neg pe_int) (fun _ _ => rfl)) pa_nil)) pe_int)))) pss_nil)
  (pss_cons (ps_set (i := 1) nd rfl (by first | exact .inl rfl | exact .inr rfl) (pe_op op_mod (pe_callTy c_int1 (by rfl) T.n_int (by decide +kernel) (pa_cons (pe_op op_add (pe_op op_mul (pv 1) pe_int) (pe_op op_mul (pe_ix (ix_listK K) (pv 0) pe_int (fun _ _ => rfl)) pe_int)) pa_nil)) pe_int))
  (pss_one (ps_ret (pe_op op_add (pe_op op_mod (pe_callTy c_int1 (by rfl) T.n_int (by decide +kernel) (pa_cons (pe_op op_add (pe_op op_add (pe_op op_mul (pv 1) (pv 1)) (pe_op op_mul (pe_ix (ix_listK K) (pv 0) pe_int (fun _ _ => rfl)) pe_int)) pe_int) pa_nil)) pe_int) pe_int)))))))), ?_⟩
  try dsimp only [cxOf, Cx.wish]
  obtain ⟨L, ⟨ns, i, r, n, ec, hL, nL, h0⟩, q⟩ := hyp
  kc_close
  refine s_setL ec rfl fun H1 b1 e1 => ?_
  have hL1 : H1 L = some (.lst (ns.map V.int)) := b1 _ _ nL hL
  have kL : IsL K H L ns := SqL.of hL
  have kL1 : IsL K H1 L ns := SqL.of hL1
  kc_close
  refine s_cut (fun σ' H' => ∃ (v i' r' n' : Int), σ' = [some (.ref c), some (.int v)] ∧ But c H H' ∧ H' c = some (.lst [.ref L, .int i', .int r', .int n', .int 20]) ∧ H' L = some (.lst (ns.map V.int)) ∧ 0 ≤ i') (fun N hN => ?_) ?_
  · refine s_if ?_
    kc_close
    refine ifP (fun hi => ?_) (fun hi => ?_)
    · rw [List.length_map] at hi
      kc_close
      refine s_ixL kL1 (at_nat h0 hi) ?_
      kc_close
      refine s_setL e1 rfl fun H2 b2 e2 => ?_
      have hL2 : H2 L = some (.lst (ns.map V.int)) := b2 _ _ nL hL1
      have kL2 : IsL K H2 L ns := SqL.of hL2
      have fin : ∀ v : Int, N [some (.ref c), some (.int v)] H2 := fun v => hN _ _ ⟨v, _, _, _, rfl, b1.trans b2, e2, hL2, by omega⟩
      kc_close
      refine s_cut (fun σ' H' => ∃ v : Int, σ' = [some (.ref c), some (.int v)] ∧ H' = H2) (fun N' hN' => ?_) ?_
      · refine s_if ?_
        kc_close
        refine ifP (fun _ => ?_) (fun _ => ?_)
        · kc_close
          exact hN' _ _ ⟨_, rfl, rfl⟩
        · kc_close
          exact hN' _ _ ⟨_, rfl, rfl⟩
      · rintro _ _ ⟨v, rfl, rfl⟩
        kc_close
        refine s_if ?_
        kc_close
        refine ifP (fun _ => ?_) (fun _ => ?_)
        · kc_close
          exact q _ _ (b1.trans b2) ⟨ns, _, _, _, e2, hL2, nL, by omega⟩
        · kc_close
          exact fin v
    · kc_close
      exact hN _ _ ⟨_, _, _, _, rfl, b1, e1, hL1, h0⟩
  rintro _ H2 ⟨v, i', r', n', rfl, b2, e2, hL2, h2⟩
  have kL2 : IsL K H2 L ns := SqL.of hL2
  kc_close
  refine s_cut (fun σ' H' => ∃ v : Int, σ' = [some (.ref c), some (.int v)] ∧ H' = H2) (fun N' hN' => ?_) ?_
  · refine s_if ?_
    kc_close
    by_cases hn : ns = []
    · refine ifFalse (by rw [hn]; rfl) (iteF ?_)
      kc_close
      exact hN' _ _ ⟨_, rfl, rfl⟩
    · obtain ⟨z, ez⟩ := at_end hn
      refine ifTrue (by cases ns with | nil => exact absurd rfl hn | cons _ _ => rfl) ?_
      kc_close
      refine ifP (fun _ => ?_) (fun _ => ?_)
      · kc_close
        refine s_ixL kL2 ez ?_
        kc_close
        exact hN' _ _ ⟨_, rfl, rfl⟩
      · kc_close
        exact hN' _ _ ⟨_, rfl, rfl⟩
  rintro _ _ ⟨v2, rfl, rfl⟩
  kc_close
  exact q _ _ b2 ⟨ns, _, _, _, e2, hL2, nL, h2⟩
theorem ok__law_take (T : NoB mg) (h : Has K mg "_law_take" (topS 12) ["c", "many"]) (G__law_fill : Good P w K mg base 1 "_law_fill" ["c"] (spFill)) : Good P w K mg base 2 "_law_take" ["c", "many"] (spTake) := by
  have sc : FnScope ["c", "many", "digit"] ["c", "many"] (defScope (topS 12)) := ⟨rfl, rfl, rfl, by decide +kernel, rfl, by decide +kernel, by decide +kernel⟩
  have nd := sc.nd
  refine h.good sc (fun vs H Q E h => by obtain ⟨c, m, rfl, _⟩ := h; rfl) (fun f cdv A outer s H vs Q E hr h => ?_)
  obtain ⟨c, m, rfl, hyp⟩ := h
  refine ⟨_, (pss_cons (ps_if (pt_cmpR op_lt (pe_ix (ix_listK K) (pv 0) pe_int (fun _ _ => rfl)) (pv 1) (nomark _))
  (pss_one (ps_asg (pe_callG G__law_fill (hr.mono (by decide)) (by rfl) (pa_cons (pv 0) pa_nil)) (pg_sub (pv 0) pe_int set_list))) pss_nil)
  (pss_cons (ps_set (i := 2) nd rfl (by first | exact .inl rfl | exact .inr rfl) (pe_op op_mod (pe_callTy c_int1 (by rfl) T.n_int (by decide +kernel) (pa_cons (pe_ix (ix_listK K) (pv 0) pe_int (fun _ _ => rfl)) pa_nil)) (pv 1)))
  (pss_cons (ps_asg (pe_op op_fdiv (pe_ix (ix_listK K) (pv 0) pe_int (fun _ _ => rfl)) (pv 1)) (pg_sub (pv 0) pe_int set_list))
  (pss_one (ps_ret (pv 2)))))), ?_⟩
  try dsimp only [cxOf, Cx.wish]
  obtain ⟨L, ⟨ns, i, r, n, ec, hL, nL, h0⟩, hm, hm2, q⟩ := hyp
  have hL' : IsL K H L ns := SqL.of hL
  kc_close
  refine s_cut (fun σ' H' => ∃ (i' r' n' : Int) (ns : List Int), σ' = [some (.ref c), some (.int m), none] ∧ But c H H' ∧ H' c = some (.lst [.ref L, .int i', .int r', .int n', .int 20]) ∧ H' L = some (.lst (ns.map V.int)) ∧ 0 ≤ i') (fun N hN => ?_) ?_
  · refine s_if ?_
    kc_close
    refine ifP (fun _ => ?_) (fun _ => ?_)
    · kc_close
      refine ⟨c, rfl, L, ⟨ns, i, r, n, ec, hL, nL, h0⟩, fun H1 v b1 d1 => ?_⟩
      obtain ⟨ns1, i1, r1, n1, e1, hL1, nL1, h1⟩ := d1
      kc_close
      refine s_setL e1 rfl fun H2 b2 e2 => ?_
      exact hN _ _ ⟨_, _, _, ns1, rfl, b1.trans b2, e2, b2 _ _ nL1 hL1, h1⟩
    · kc_close
      exact hN _ _ ⟨_, _, _, ns, rfl, But.refl c H, ec, hL, h0⟩
  rintro _ H1 ⟨i1, r1, n1, ns1, rfl, b1, e1, hL1, h1⟩
  kc_close
  refine s_setL e1 rfl fun H2 b2 e2 => ?_
  kc_close
  exact q _ _ (b1.trans b2) ⟨ns1, _, _, _, e2, b2 _ _ nL hL1, nL, h1⟩ (Int.emod_nonneg _ (by omega)) (Int.emod_lt_of_pos _ hm)
def spStart (K : PySem.W.Frag) : Sp := fun vs H Q _ => ∃ s : Addr, vs = [.ref s] ∧ (∃ ns : List Int, IsL K H s ns ∧ ns.length ≤ 63) ∧ ∀ H' c L, Same H H' → DR H' c L → Q (.ref c) H'
theorem ok__law_start (T : NoB mg) (h : Has K mg "_law_start" (topS 10) ["script"]) : Good P w K mg base 1 "_law_start" ["script"] (spStart K) := by
  have sc : FnScope ["script", "cell"] ["script"] (defScope (topS 10)) := ⟨rfl, rfl, rfl, by decide +kernel, rfl, by decide +kernel, by decide +kernel⟩
  have nd := sc.nd
  refine h.good sc (fun vs H Q E h => by obtain ⟨s0, rfl, _⟩ := h; rfl) (fun f cdv A outer s H vs Q E hr h => ?_)
  obtain ⟨s0, rfl, hyp⟩ := h
  refine ⟨_, (pss_one (ps_ret (pe_lst (pa_cons (pe_lc (own := [("cell", 1)]) rfl nd (pi_listK K (pe_slice (sl_listK K) (pv 0) po_none (po_some pe_int))) (blkOk_by (own := [("cell", 1)]) (N := ["script", "cell"]) (by kernel_rfl)) (fun _ _ _ _ _ => (pg_name (i := 1) nd rfl (by first | exact .inl rfl | exact .inr rfl))) (fun _ _ _ _ _ => pts_nil) (fun _ _ _ _ _ => (pe_callTy c_int1 (by rfl) T.n_int (by decide +kernel) (pa_cons (pv 1) pa_nil)))) (pa_cons pe_int (pa_cons pe_int (pa_cons pe_int (pa_cons pe_int pa_nil)))))))), ?_⟩
  try dsimp only [cxOf, Cx.wish]
  obtain ⟨⟨ns, hs, hz⟩, q⟩ := hyp
  kc_close
  refine s_slL hs fun z H1 nz s1 e1 => ?_
  rw [show (some 63 : Option Int) = some ((63 : Nat) : Int) from rfl, cut_to, ← List.map_take] at e1
  refine s_ilistv (SqL.of e1) (l_mapL (fun i => V.int ((ns.take 63).getD i 0)) (SqL.of e1) (by rw [List.length_map, List.length_take]; omega) ?_ ?_)
  · intro D N i x H' e sm k
    obtain ⟨rfl, hi⟩ := item_int e
    kc_close
    exact k _ (Same.refl _)
  intro D H2 nD s2 eD
  rw [List.length_map, range_map (fun x => x)] at eD
  kc_close
  intro c H3 nc s3 ec
  have nD3 : D ≠ c := by
    intro z
    subst z
    rw [eD] at nc
    cases nc
  exact q H3 c D ((s1.trans s2).trans s3) ⟨_, 0, 0, 0, ec, s3 _ _ eD, nD3, Int.le_refl _⟩
end
end K1
end
section
open PySem PySem.Spec PyProof.Rows L2 Z
local macro_rules | `(tactic| ktr_room) => `(tactic| first
  | assumption
  | (apply SqT.of; assumption)
  | (apply SqL.of; assumption)
  | (apply sqt_same; assumption; ktr_room)
  | (apply sql_same; assumption; ktr_room)
  | (apply sqt_but; assumption; assumption; ktr_room)
  | (apply sql_but; assumption; assumption; ktr_room)
  | (apply Same.of_; assumption; ktr_room)
  | (apply But.of_; assumption; assumption; ktr_room)
  | exact same_refl
  | exact but_refl
  | (apply same_tr; assumption; ktr_room)
  | (apply same_but; assumption; ktr_room; assumption)
  | (apply but_tr; assumption; ktr_room)
  | (apply but_trB; assumption; ktr_room))
local macro_rules | `(tactic| ktr_units) => `(tactic| first | with_reducible assumption | omega | rfl | exact ⟨by omega, by omega⟩ | exact .inl ⟨by omega, by omega⟩ | exact .inr ⟨by omega, by omega⟩ | exact ⟨by decide, by decide, by decide⟩ | exact Nat.le_of_ble_eq_true rfl | decide)
local macro_rules | `(tactic| kc_close) => `(tactic| repeat (with_reducible first
  | refine s_var (by with_unfolding_all rfl) ?_
  | refine s_c ?_
  | refine s_op ?_
  | refine s_rI0 ?_
  | refine s_asg ?_
  | refine s_gname ?_
  | refine s_seq ?_
  | refine s_cons ?_
  | refine s_nil ?_
  | refine s_call ?_
  | refine s_ret ?_
  | o_fieldsN
  | refine s_test ?_
  | refine s_bl ?_
  | refine s_rI (by with_unfolding_all (ktr_units)) ?_
  | refine s_rEq rfl ?_
  | refine s_rNe rfl ?_
  | refine s_cb ?_
  | refine s_int1 ?_
  | refine s_intB ?_
  | refine s_max2 ?_
  | refine s_tup ?_
  | refine s_lst ?_
  | refine s_newT (by with_unfolding_all first | decide | exact Nat.le_of_ble_eq_true rfl) ?_
  | refine s_newL (by with_unfolding_all first | decide | exact Nat.le_of_ble_eq_true rfl) ?_
  | refine s_ixT (by ktr_room) (by with_unfolding_all rfl) ?_
  | refine s_ixL (by ktr_room) (by with_unfolding_all rfl) ?_
  | refine s_lenT (by ktr_room) ?_
  | refine s_lenL (by ktr_room) ?_
  | refine s_un ?_
  | refine s_rU ?_
  | refine s_and ?_
  | refine s_or ?_
  | refine s_not ?_
  | refine s_tB ?_
  | refine s_tru ?_
  | refine s_drop ?_
  | refine s_next ?_
  | refine s_for ?_
  | refine s_rng1 ?_
  | refine s_rng2 ?_
  | refine s_rng3 ?_
  | refine s_ilist ?_
  | refine s_itup ?_
  | refine s_iany ?_
  | refine s_ienum ?_
  | refine s_irev ?_
  | refine s_gcons ?_
  | refine s_gnil ?_
  | refine s_gtup (by ktr_room) (by with_unfolding_all rfl) ?_
  | refine s_gsub ?_
  | refine s_augS ?_
  | refine s_aug (by with_unfolding_all rfl) ?_
  | refine s_ipI ?_
  | refine s_bm ?_
  | refine s_bm0 ?_
  | refine s_tyL (by ktr_room) ?_
  | refine s_tyL0 (by ktr_room) ?_
  | refine s_sl ?_
  | refine s_part ?_
  | refine s_partv ?_
  | refine s_noPart ?_
  | refine s_lc ?_
  | refine s_yes ?_
  | refine s_wipe (by with_unfolding_all rfl) ?_
  | refine iteT ?_
  | refine s_retN ?_
  | refine s_truL (by ktr_room) ?_
  | refine s_truT (by ktr_room) ?_))
namespace K1
section
variable {P : Program} {w : World} {K : PySem.W.Frag} {mg : Str → Option Value} {base : Heap}
def spLPower : Sp := fun vs H Q _ => ∃ (p a k : Int), vs = [.int p, .int a, .int k] ∧ 1 < p ∧ p < 1000 ∧ 0 ≤ k ∧ k < 1000000 ∧ Q (.int (a ^ k.toNat % p)) H
theorem ok__law_power (T : NoB mg) (h : Has K mg "_law_power" (topS 13) ["p", "a", "k"]) : Good P w K mg base 1 "_law_power" ["p", "a", "k"] (spLPower) := by
  have sc : FnScope ["p", "a", "k", "found", "j"] ["p", "a", "k"] (defScope (topS 13)) := ⟨rfl, rfl, rfl, by decide +kernel, rfl, by decide +kernel, by decide +kernel⟩
  have nd := sc.nd
  refine h.good sc (fun vs H Q E h => by obtain ⟨p, a, k, rfl, _⟩ := h; rfl) (fun f cdv A outer s H vs Q E hr h => ?_)
  obtain ⟨p, a, k, rfl, hyp⟩ := h
  refine ⟨_, (pss_cons (ps_set (i := 3) nd rfl (by first | exact .inl rfl | exact .inr rfl) pe_int)
  (pss_cons (ps_for PassesOwn.never rfl (pi_range1 rfl T.n_range (pa_cons (pv 2) pa_nil)) (pg_name (i := 4) nd rfl (by first | exact .inl rfl | exact .inr rfl))
  (pss_one (ps_set (i := 3) nd rfl (by first | exact .inl rfl | exact .inr rfl) (pe_op op_mod (pe_callTy c_int1 (by rfl) T.n_int (by decide +kernel) (pa_cons (pe_op op_mul (pv 3) (pv 1)) pa_nil)) (pv 0)))))
  (pss_one (ps_ret (pv 3))))), ?_⟩
  try dsimp only [cxOf, Cx.wish]
  obtain ⟨hp, hp2, hk, hk2, q⟩ := hyp
  kc_close
  refine s_rng1v (by omega) (by omega) ?_
  refine w_range (fun i σ H' => ∃ y, σ = [some (.int p), some (.int a), some (.int k), some (.int (a ^ i % p)), y] ∧ H' = H) ?_ ?_ ?_
  · refine ⟨none, ?_, rfl⟩
    rw [Int.pow_zero, Int.emod_eq_of_lt (by omega) hp]
    rfl
  · rintro i _ _ hi ⟨y, rfl, rfl⟩
    have e1 := Int.emod_nonneg (a ^ i) (show p ≠ 0 by omega)
    have e2 := Int.emod_lt_of_pos (a ^ i) (show 0 < p by omega)
    kc_close
    refine ⟨some (.int (0 + (i : Nat))), ?_, rfl⟩
    rw [Int.pow_succ, Int.mul_emod (a ^ i), show (a ^ i % p) * (a % p) % p = (a ^ i % p) * a % p by rw [Int.mul_emod (a ^ i % p) a, Int.emod_emod_of_dvd _ (Int.dvd_refl p)]]
    rfl
  · rintro _ _ ⟨y, rfl, rfl⟩
    kc_close
    exact q
def spLValue (K : PySem.W.Frag) : Sp := fun vs H Q _ => ∃ (p : Int) (f : Addr) (x : Int), vs = [.int p, .ref f, .int x] ∧ ∃ ns : List Int, IsT K H f ns ∧ 0 < p ∧ p < 1000 ∧ ns.length ≤ 1000 ∧ Q (.int (M.hv p ns x)) H
theorem ok__law_value (T : NoB mg) (h : Has K mg "_law_value" (topS 14) ["p", "f", "x"]) : Good P w K mg base 1 "_law_value" ["p", "f", "x"] (spLValue K) := by
  have sc : FnScope ["p", "f", "x", "total", "k"] ["p", "f", "x"] (defScope (topS 14)) := ⟨rfl, rfl, rfl, by decide +kernel, rfl, by decide +kernel, by decide +kernel⟩
  have nd := sc.nd
  refine h.good sc (fun vs H Q E h => by obtain ⟨p, f, x, rfl, _⟩ := h; rfl) (fun f cdv A outer s H vs Q E hr h => ?_)
  obtain ⟨p, f, x, rfl, hyp⟩ := h
  refine ⟨_, (pss_cons (ps_set (i := 3) nd rfl (by first | exact .inl rfl | exact .inr rfl) pe_int)
  (pss_cons (ps_for PassesOwn.never rfl (pi_range3 rfl T.n_range (pa_cons (pe_op op_sub (pe_callB (c_lenK K) (by rfl) T.n_len (by decide +kernel) (pa_cons (pv 1) pa_nil)) pe_int) (pa_cons (pe_op op_sub pe_int pe_int) (pa_cons (pe_op op_sub pe_int pe_int) pa_nil)))) (pg_name (i := 4) nd rfl (by first | exact .inl rfl | exact .inr rfl))
  (pss_one (ps_set (i := 3) nd rfl (by first | exact .inl rfl | exact .inr rfl) (pe_op op_mod (pe_callTy c_int1 (by rfl) T.n_int (by decide +kernel) (pa_cons (pe_op op_add (pe_op op_mul (pv 3) (pv 2)) (pe_ix (ix_tupK K) (pv 1) (pv 4) (fun _ _ => rfl))) pa_nil)) (pv 0)))))
  (pss_one (ps_ret (pv 3))))), ?_⟩
  try dsimp only [cxOf, Cx.wish]
  obtain ⟨ns, hf, hp, hp2, hz, q⟩ := hyp
  kc_close
  rw [List.length_map]
  refine s_rng3v (m := ns.length) (show RgC ((ns.length : Int) - 1) (-1) (-1) ns.length by
    have := RgC.neg (i := (ns.length : Int) - 1) (j := -1) (by omega) (by omega) (by omega) (by omega)
    rwa [show ((ns.length : Int) - 1 - -1).toNat = ns.length by omega] at this) ?_
  refine w_rangeC (fun i σ H' => i ≤ ns.length ∧ H' = H ∧ ∃ y, σ = [some (.int p), some (.ref f), some (.int x), some (.int (M.hv p (ns.drop (ns.length - i)) x)), y]) ?_ ?_ ?_
  · refine ⟨Nat.zero_le _, rfl, none, ?_⟩
    rw [Nat.sub_zero, List.drop_length]
    rfl
  · rintro i _ _ hi ⟨_, rfl, y, rfl⟩
    have hv := M.hv_lt hp (ns.drop (ns.length - i)) x
    kc_close
    refine s_ixT hf (at_nat (by omega) (by omega)) ?_
    kc_close
    refine ⟨hi, rfl, some (.int ((ns.length : Int) - 1 + i * (0 - 1))), ?_⟩
    rw [show ((ns.length : Int) - 1 + i * (0 - 1)).toNat = ns.length - (i + 1) by omega, M.hv_drop p ns x (show ns.length - (i + 1) < ns.length by omega), show ns.length - (i + 1) + 1 = ns.length - i by omega]
    rfl
  · rintro _ _ ⟨_, rfl, y, rfl⟩
    kc_close
    rw [Nat.sub_self]
    exact q
theorem ok__law_trimmed (T : NoB mg) (h : Has K mg "_law_trimmed" (topS 15) ["p", "rows"]) : Good P w K mg base 1 "_law_trimmed" ["p", "rows"] (spTrimmed K) := by
  have sc : FnScope ["p", "rows", "found", "x"] ["p", "rows"] (defScope (topS 15)) := ⟨rfl, rfl, rfl, by decide +kernel, rfl, by decide +kernel, by decide +kernel⟩
  have nd := sc.nd
  refine h.good sc (fun vs H Q E h => by obtain ⟨p, c, rfl, _⟩ := h; rfl) (fun f cdv A outer s H vs Q E hr h => ?_)
  obtain ⟨p, c, rfl, hyp⟩ := h
  refine ⟨_, (pss_cons (ps_setLc (i := 2) (own := [("x", 3)]) rfl nd rfl rfl (sw_true rfl rfl rfl (by decide +kernel)) (pi_anyK K (pv 1)) (blkOk_by (own := [("x", 3)]) (N := ["p", "rows", "found", "x"]) (by kernel_rfl)) (fun _ _ _ _ _ => (pg_name (i := 3) nd rfl (by first | exact .inl rfl | exact .inr rfl))) (fun _ _ _ _ _ => pts_nil) (fun _ _ _ _ _ => (pe_op op_mod (pe_callTy c_int1 (by rfl) T.n_int (by decide +kernel) (pa_cons (pv 3) pa_nil)) (pv 0))))
  (pss_cons (ps_while PassesOwn.never (PW.pt (pw_and (pt_truK K (pv 2) (by intro _; rfl)) (pw_and1 (pt_cmpR op_eq (pe_ix (ix_listK K) (pv 2) (pe_un un_neg pe_int) (fun _ _ => rfl)) pe_int (nomark _)))))
  (pss_one (ps_expr (pe_bm0K K PySem.F.plainAttrs_list PySem.F.slot_list_pop PySem.F.type_list_pop mt_pop (pv 2)))))
  (pss_one (ps_ret (pe_callTy (c_tupK K) (by rfl) T.n_tuple (by decide +kernel) (pa_cons (pv 2) pa_nil)))))), ?_⟩
  try dsimp only [cxOf, Cx.wish]
  obtain ⟨ns, hc, hp, hz, q⟩ := hyp
  kc_close
  refine l_map (fun i => V.int (ns.getD i 0 % p)) hc (by rw [List.length_map]; omega) ?_ ?_
  · intro D N i x H' e sm k
    obtain ⟨rfl, hi⟩ := item_int e
    kc_close
    exact k _ (Same.refl _)
  intro D H1 nD sm eD
  rw [List.length_map, range_map (· % p)] at eD
  kc_close
  refine s_wh (fun σ H' => ∃ l : List Int, σ = [some (.int p), some (.ref c), some (.ref D), none] ∧ Same H H' ∧ H' D = some (.lst (l.map V.int)) ∧ M.trim l = M.trim (ns.map (· % p))) (fun _ H' => lenAt H' D) ⟨_, rfl, sm, eD, rfl⟩ ?_
  rintro _ H2 ⟨l, rfl, sm2, eD2, et⟩
  rcases snoc_cases l with rfl | ⟨l0, a, rfl⟩
  · kc_close
    refine iteF ?_
    refine iteF ?_
    kc_close
    refine s_tupL (SqL.of eD2) fun t H3 nt sm3 et3 => q H3 t (sm2.trans sm3) (SqT.of ?_)
    show H3 t = some (.tup ((M.trim (ns.map (· % p))).map V.int))
    rw [← et]
    exact et3
  · have es : (l0 ++ [a]).map V.int = l0.map V.int ++ [V.int a] := by rw [List.map_append]; rfl
    rw [es] at eD2
    kc_close
    refine ifTrue (by simp) ?_
    kc_close
    refine s_ixL (SqL.of eD2) (atI_last _ _) ?_
    kc_close
    refine ifI (fun ea => ?_) (fun ea => ?_)
    · refine s_wN ?_
      kc_close
      refine s_pop (y := .int a) eD2 (by simp) fun H3 b3 e3 => ?_
      rw [List.dropLast_concat] at e3
      refine ⟨⟨l0, rfl, But.same b3 sm2 nD, e3, ?_⟩, ?_⟩
      · rw [← et, ea, M.trim_snoc_zero]
      · rw [lenAt_of e3, lenAt_of eD2]
        simp
    · kc_close
      refine s_tupL (SqL.of eD2) fun t H3 nt sm3 et3 => q H3 t (sm2.trans sm3) (SqT.of ?_)
      show H3 t = some (.tup ((M.trim (ns.map (· % p))).map V.int))
      rw [← et, M.trim_snoc _ _ ea, es]
      exact et3
end
end K1
end
section
open PySem PySem.Spec PyProof.Rows L2 Z
local macro_rules | `(tactic| ktr_room) => `(tactic| first
  | assumption
  | (apply SqT.of; assumption)
  | (apply SqL.of; assumption)
  | (apply sqt_same; assumption; ktr_room)
  | (apply sql_same; assumption; ktr_room)
  | (apply sqt_but; assumption; assumption; ktr_room)
  | (apply sql_but; assumption; assumption; ktr_room)
  | (apply Same.of_; assumption; ktr_room)
  | (apply But.of_; assumption; assumption; ktr_room)
  | exact same_refl
  | exact but_refl
  | (apply same_tr; assumption; ktr_room)
  | (apply same_but; assumption; ktr_room; assumption)
  | (apply but_tr; assumption; ktr_room)
  | (apply but_trB; assumption; ktr_room))
local macro_rules | `(tactic| ktr_units) => `(tactic| first | with_reducible assumption | omega | rfl | exact ⟨by omega, by omega⟩ | exact .inl ⟨by omega, by omega⟩ | exact .inr ⟨by omega, by omega⟩ | exact ⟨by decide, by decide, by decide⟩ | exact Nat.le_of_ble_eq_true rfl | decide)
local macro_rules | `(tactic| kc_close) => `(tactic| repeat (with_reducible first
  | refine s_var (by with_unfolding_all rfl) ?_
  | refine s_c ?_
  | refine s_op ?_
  | refine s_rI0 ?_
  | refine s_asg ?_
  | refine s_gname ?_
  | refine s_seq ?_
  | refine s_cons ?_
  | refine s_nil ?_
  | refine s_call ?_
  | refine s_ret ?_
  | o_fieldsN
  | refine s_test ?_
  | refine s_bl ?_
  | refine s_rI (by with_unfolding_all (ktr_units)) ?_
  | refine s_rEq rfl ?_
  | refine s_rNe rfl ?_
  | refine s_cb ?_
  | refine s_int1 ?_
  | refine s_intB ?_
  | refine s_max2 ?_
  | refine s_tup ?_
  | refine s_lst ?_
  | refine s_newT (by with_unfolding_all first | decide | exact Nat.le_of_ble_eq_true rfl) ?_
  | refine s_newL (by with_unfolding_all first | decide | exact Nat.le_of_ble_eq_true rfl) ?_
  | refine s_ixT (by ktr_room) (by with_unfolding_all rfl) ?_
  | refine s_ixL (by ktr_room) (by with_unfolding_all rfl) ?_
  | refine s_lenT (by ktr_room) ?_
  | refine s_lenL (by ktr_room) ?_
  | refine s_un ?_
  | refine s_rU ?_
  | refine s_and ?_
  | refine s_or ?_
  | refine s_not ?_
  | refine s_tB ?_
  | refine s_tru ?_
  | refine s_drop ?_
  | refine s_next ?_
  | refine s_for ?_
  | refine s_rng1 ?_
  | refine s_rng2 ?_
  | refine s_rng3 ?_
  | refine s_ilist ?_
  | refine s_itup ?_
  | refine s_iany ?_
  | refine s_ienum ?_
  | refine s_irev ?_
  | refine s_gcons ?_
  | refine s_gnil ?_
  | refine s_gtup (by ktr_room) (by with_unfolding_all rfl) ?_
  | refine s_gsub ?_
  | refine s_augS ?_
  | refine s_aug (by with_unfolding_all rfl) ?_
  | refine s_ipI ?_
  | refine s_bm ?_
  | refine s_bm0 ?_
  | refine s_tyL (by ktr_room) ?_
  | refine s_tyL0 (by ktr_room) ?_
  | refine s_sl ?_
  | refine s_part ?_
  | refine s_partv ?_
  | refine s_noPart ?_
  | refine s_lc ?_
  | refine s_yes ?_
  | refine s_wipe (by with_unfolding_all rfl) ?_
  | refine iteT ?_
  | refine s_retN ?_
  | refine s_truL (by ktr_room) ?_
  | refine s_truT (by ktr_room) ?_))
open K1
local macro_rules | `(tactic| o_fieldsN) => `(tactic| with_reducible first
  | refine u_power (by ktr_units) (by ktr_units) (by ktr_units) ?_
  | refine u_inverse (by ktr_units) (by ktr_units) ?_
  | (refine u_trimmedT (by ktr_room) (by ktr_units) (by ktr_units) ?_; intro H' q' sm' hr')
  | (refine u_trimmedL (by ktr_room) (by ktr_units) (by ktr_units) ?_; intro H' q' sm' hr')
  | refine u_value (by ktr_room) (by ktr_units) (by ktr_units) (by ktr_units) ?_
  | (refine u_plus (by ktr_room) (by ktr_room) (by ktr_units) (by ktr_units) (by ktr_units) ?_; intro H' q' sm' hr')
  | (refine u_times (by ktr_room) (by ktr_room) (by ktr_units) (by ktr_units) (by ktr_units) (by ktr_units) ?_; intro H' q' sm' hr'))
namespace K1
/-- the slots of the law -/
abbrev stL (s c p a k far rows f g x due j i left pairs told : Option V := none) : L2.St := [s, c, p, a, k, far, rows, f, g, x, due, j, i, left, pairs, told, none, none]
theorem sqt_butD {K : PySem.W.Frag} {c L : Addr} {H H' : Hp} {a : Addr} {xs : List V} (e : But c H H') (d : DR H c L) (h : SqT K H a xs) : SqT K H' a xs := by
  obtain ⟨ns, i, r, m, ec, _⟩ := d
  exact sqt_but e ec h
/-- a list of draws, made by a comprehension over a range -/
theorem l_draws {g : TG} {tt : TT} {te : TE} {vs : List Nat} {σ : L2.St} {Q : VK} {H : Hp} {C L : Addr} {m : Nat} {lo : Int} (Pr : Int → Prop) (d0 : DR H C L) (hz : m ≤ 1000)
    (hs : ∀ (D : Addr) (N : Hp → Prop) (i : Nat) (H' : Hp), i < m → But C H H' → DR H' C L → (∀ H4 v, But C H' H4 → DR H4 C L → Pr v → LcEnd D N (.int v) H4) → g (.int (lo + i)) (wipe σ vs) H' fun σ2 H2 => wipe σ2 vs = wipe σ vs ∧ tt σ2 H2 fun b H3 => if b = true then te σ2 H3 fun y H4 => LcEnd D N y H4 else N H3)
    (hd : ∀ (D : Addr) (H' : Hp) (ls : List Int), H D = none → D ≠ C → D ≠ L → But C H H' → DR H' C L → ls.length = m → (∀ v ∈ ls, Pr v) → H' D = some (.lst (ls.map V.int)) → Q (.ref D) H') : LcW g tt te vs Q σ (Itr lo m) H := by
  have line : (1000 : Nat) < sizeLine := by decide
  refine l_range (fun D i H' => H D = none ∧ But C H H' ∧ DR H' C L ∧ ∃ ls : List Int, ls.length = i ∧ (∀ v ∈ ls, Pr v) ∧ H' D = some (.lst (ls.map V.int)))
    (fun D H' n sm e => ⟨n, But.of sm, d0.same sm, [], rfl, fun v h => (by cases h), e⟩) ?_ ?_
  · rintro D i H' hi ⟨n, b, d, ls, hl, hp, eD⟩
    refine hs D _ i H' hi b d fun H4 v b4 d4 pv => ?_
    have nC := d0.ne n
    have nL := d0.neL n
    refine s_lcEnd (b4 _ _ nC eD) (by rw [List.length_map, hl]; omega) fun H5 b5 e5 => ⟨n, But.sameN b5 (b.trans b4) n, d4.but b5 nC nL, ls ++ [v], by rw [List.length_append, hl]; rfl, fun x hx => ?_, ?_⟩
    · rcases List.mem_append.mp hx with hx | hx
      · exact hp x hx
      · rw [List.mem_singleton.mp hx]
        exact pv
    · rw [List.map_append]
      exact e5
  · rintro D H' ⟨n, b, d, ls, hl, hp, eD⟩
    exact hd D H' ls n (d0.ne n) (d0.neL n) b d hl hp eD
theorem ints5 {d : Int} (h0 : 0 ≤ d) (h1 : d < 5) : ∃ p : Int, M.PR p ∧ atI [V.int 11, .int 13, .int 17, .int 31, .int 101] d = some (.int p) := by
  rcases (show d = 0 ∨ d = 1 ∨ d = 2 ∨ d = 3 ∨ d = 4 by omega) with rfl | rfl | rfl | rfl | rfl
  · exact ⟨11, .inl rfl, rfl⟩
  · exact ⟨13, .inr (.inl rfl), rfl⟩
  · exact ⟨17, .inr (.inr (.inl rfl)), rfl⟩
  · exact ⟨31, .inr (.inr (.inr (.inl rfl))), rfl⟩
  · exact ⟨101, .inr (.inr (.inr (.inr rfl))), rfl⟩
theorem ints2 {d x y : Int} (h0 : 0 ≤ d) (h1 : d < 2) : ∃ k : Int, (k = x ∨ k = y) ∧ atI [V.int x, .int y] d = some (.int k) := by
  rcases (show d = 0 ∨ d = 1 by omega) with rfl | rfl
  · exact ⟨x, .inl rfl, rfl⟩
  · exact ⟨y, .inr rfl, rfl⟩
theorem ints3 {d x y z : Int} (h0 : 0 ≤ d) (h1 : d < 3) : ∃ k : Int, (k = x ∨ k = y ∨ k = z) ∧ atI [V.int x, .int y, .int z] d = some (.int k) := by
  rcases (show d = 0 ∨ d = 1 ∨ d = 2 by omega) with rfl | rfl | rfl
  · exact ⟨x, .inl rfl, rfl⟩
  · exact ⟨y, .inr (.inl rfl), rfl⟩
  · exact ⟨z, .inr (.inr rfl), rfl⟩
section
variable {P : Program} {w : World} {K : PySem.W.Frag} {mg : Str → Option Value} {base : Heap}
theorem u_start {s : Addr} {ns : List Int} {H : Hp} {Q : VK} {E : XK} (hs : IsL K H s ns) (hz : ns.length ≤ 63) (q : ∀ H' c L, Same H H' → DR H' c L → Q (.ref c) H') : spStart K [.ref s] H Q E := ⟨s, rfl, ⟨ns, hs, hz⟩, q⟩
theorem u_take {c L : Addr} {m : Int} {H : Hp} {Q : VK} {E : XK} (d : DR H c L) (h0 : 0 < m) (h1 : m < 1073741824) (q : ∀ H' d, But c H H' → DR H' c L → 0 ≤ d → d < m → Q (.int d) H') : spTake [.ref c, .int m] H Q E := ⟨c, m, rfl, L, d, h0, h1, q⟩
theorem u_lpower {p a k : Int} {H : Hp} {Q : VK} {E : XK} (h1 : 1 < p) (h2 : p < 1000) (h3 : 0 ≤ k) (h4 : k < 1000000) (q : Q (.int (a ^ k.toNat % p)) H) : spLPower [.int p, .int a, .int k] H Q E := ⟨p, a, k, rfl, h1, h2, h3, h4, q⟩
theorem u_lvalue {p x : Int} {f : Addr} {ns : List Int} {H : Hp} {Q : VK} {E : XK} (hx : IsT K H f ns) (h1 : 0 < p) (h2 : p < 1000) (h3 : ns.length ≤ 1000) (q : Q (.int (M.hv p ns x)) H) : spLValue K [.int p, .ref f, .int x] H Q E := ⟨p, f, x, rfl, ns, hx, h1, h2, h3, q⟩
theorem u_ltrimmedL {p : Int} {c : Addr} {ns : List Int} {H : Hp} {Q : VK} {E : XK} (hx : IsL K H c ns) (h1 : 0 < p) (h2 : ns.length ≤ 1000) (q : ∀ H' q, Same H H' → IsT K H' q (M.red p ns) → Q (.ref q) H') : spTrimmed K [.int p, .ref c] H Q E := ⟨p, c, rfl, ns, .inl hx, h1, h2, q⟩
local macro_rules | `(tactic| o_fieldsN) => `(tactic| with_reducible first
  | refine u_lpower (by ktr_units) (by ktr_units) (by ktr_units) (by ktr_units) ?_
  | refine u_lvalue (by ktr_room) (by ktr_units) (by ktr_units) (by ktr_units) ?_)
local macro_rules | `(tactic| ktr_room) => `(tactic| first
  | (apply DR.same; assumption; ktr_room)
  | (apply sqt_butD; assumption; ktr_room; ktr_room))
def spLaw (K : PySem.W.Frag) : Sp := fun vs H Q _ => ∃ s : Addr, vs = [.ref s] ∧ (∃ ns : List Int, IsL K H s ns ∧ ns.length ≤ 63) ∧ ∀ H', Q (.bl true) H'
theorem ok_law (T : NoB mg) {f : Addr} {fd : FuncData} (F : Fun K "law" "law" (topS 16) f fd) (G__law_start : Good P w K mg base 1 "_law_start" ["script"] (spStart K)) (G__law_take : Good P w K mg base 2 "_law_take" ["c", "many"] (spTake)) (G_power : Good P w K mg base 1 "power" ["p", "a", "k"] (spPower)) (G__law_power : Good P w K mg base 1 "_law_power" ["p", "a", "k"] (spLPower)) (G_inverse : Good P w K mg base 2 "inverse" ["p", "a"] (spInverse)) (G_trimmed : Good P w K mg base 1 "trimmed" ["p", "coefficients"] (spTrimmed K)) (G__law_trimmed : Good P w K mg base 1 "_law_trimmed" ["p", "rows"] (spTrimmed K)) (G_value : Good P w K mg base 1 "value" ["p", "f", "x"] (spValue K)) (G__law_value : Good P w K mg base 1 "_law_value" ["p", "f", "x"] (spLValue K)) (G_plus : Good P w K mg base 2 "plus" ["p", "f", "g"] (spPlus K)) (G_times : Good P w K mg base 2 "times" ["p", "f", "g"] (spTimes K)) (G_interpolate : Good P w K mg base 3 "interpolate" ["p", "pairs"] (spInterp K)) : FnOk P w K mg base CX0 4 f fd ["script"] (spLaw K) := by
  have sc : FnScope ["script", "c", "p", "a", "k", "far", "rows", "f", "g", "x", "due", "j", "i", "left", "pairs", "told", "h", "one"] ["script"] (defScope (topS 16)) := ⟨rfl, rfl, rfl, by decide +kernel, rfl, by decide +kernel, by decide +kernel⟩
  have nd := sc.nd
  refine F.ok sc (fun vs H Q E h => by obtain ⟨s0, rfl, _⟩ := h; rfl) (fun cdv A outer s H vs Q E hr h => ?_)
  obtain ⟨s0, rfl, hyp⟩ := h
  refine ⟨_, (pss_cons (ps_set (i := 1) nd rfl (by first | exact .inl rfl | exact .inr rfl) (pe_callG G__law_start (hr.mono (by decide)) (by rfl) (pa_cons (pv 0) pa_nil)))
  (pss_cons (ps_set (i := 2) nd rfl (by first | exact .inl rfl | exact .inr rfl) (pe_ix (ix_listK K) (pe_lst (pa_cons pe_int (pa_cons pe_int (pa_cons pe_int (pa_cons pe_int (pa_cons pe_int pa_nil)))))) (pe_callG G__law_take (hr.mono (by decide)) (by rfl) (pa_cons (pv 1) (pa_cons pe_int pa_nil))) (fun _ _ => rfl)))
  (pss_cons (ps_set (i := 3) nd rfl (by first | exact .inl rfl | exact .inr rfl) (pe_op op_add pe_int (pe_callG G__law_take (hr.mono (by decide)) (by rfl) (pa_cons (pv 1) (pa_cons (pe_op op_sub (pv 2) pe_int) pa_nil)))))
  (pss_cons (ps_set (i := 4) nd rfl (by first | exact .inl rfl | exact .inr rfl) (pe_ix (ix_listK K) (pe_lst (pa_cons (pe_callG G__law_take (hr.mono (by decide)) (by rfl) (pa_cons (pv 1) (pa_cons pe_int pa_nil))) (pa_cons (pe_callG G__law_take (hr.mono (by decide)) (by rfl) (pa_cons (pv 1) (pa_cons pe_int pa_nil))) pa_nil))) (pe_callG G__law_take (hr.mono (by decide)) (by rfl) (pa_cons (pv 1) (pa_cons pe_int pa_nil))) (fun _ _ => rfl)))
  (pss_cons (ps_if (PW.pt (pw_or (pt_cmpR op_lt (pe_callG G_inverse (hr.mono (by decide)) (by rfl) (pa_cons (pv 2) (pa_cons (pv 3) pa_nil))) pe_int (nomark _)) (pw_or (pt_cmpR op_ge (pe_callG G_inverse (hr.mono (by decide)) (by rfl) (pa_cons (pv 2) (pa_cons (pv 3) pa_nil))) (pv 2) (nomark _)) (pw_or (pt_cmpR op_ne (pe_op op_mod (pe_callTy c_int1 (by rfl) T.n_int (by decide +kernel) (pa_cons (pe_op op_mul (pe_callG G_inverse (hr.mono (by decide)) (by rfl) (pa_cons (pv 2) (pa_cons (pv 3) pa_nil))) (pv 3)) pa_nil)) (pv 2)) pe_int (nomark _)) (pw_or (pt_cmpR op_ne (pe_callG G_power (hr.mono (by decide)) (by rfl) (pa_cons (pv 2) (pa_cons (pv 3) (pa_cons (pv 4) pa_nil)))) (pe_callG G__law_power (hr.mono (by decide)) (by rfl) (pa_cons (pv 2) (pa_cons (pv 3) (pa_cons (pv 4) pa_nil)))) (nomark _)) (pw_or1 (pt_cmpR op_ne (pe_callG G_power (hr.mono (by decide)) (by rfl) (pa_cons (pv 2) (pa_cons pe_int (pa_cons (pv 4) pa_nil)))) (pe_callTy c_int1 (by rfl) T.n_int (by decide +kernel) (pa_cons (pe_cmpR op_eq (pv 4) pe_int (nomark _)) pa_nil)) (nomark _))))))))
  (pss_one (ps_ret pe_bl)) pss_nil)
  (pss_cons (ps_set (i := 5) nd rfl (by first | exact .inl rfl | exact .inr rfl) (pe_ix (ix_listK K) (pe_lst (pa_cons (pe_op op_mul pe_int (pv 2)) (pa_cons (pe_op op_mul pe_int (pv 2)) (pa_cons (pe_op op_pow pe_int pe_int) pa_nil)))) (pe_callG G__law_take (hr.mono (by decide)) (by rfl) (pa_cons (pv 1) (pa_cons pe_int pa_nil))) (fun _ _ => rfl)))
  (pss_cons (ps_set (i := 6) nd rfl (by first | exact .inl rfl | exact .inr rfl) (pe_op op_cat (pe_lc (own := [("j", 11)]) rfl nd (pi_range1 rfl T.n_range (pa_cons (pe_callG G__law_take (hr.mono (by decide)) (by rfl) (pa_cons (pv 1) (pa_cons pe_int pa_nil))) pa_nil)) (blkOk_by (own := [("j", 11)]) (N := ["script", "c", "p", "a", "k", "far", "rows", "f", "g", "x", "due", "j", "i", "left", "pairs", "told", "h", "one"]) (by kernel_rfl)) (fun _ _ _ _ _ => (pg_name (i := 11) nd rfl (by first | exact .inl rfl | exact .inr rfl))) (fun _ _ _ _ _ => pts_nil) (fun _ _ _ _ _ => (pe_op op_sub (pe_callG G__law_take (hr.mono (by decide)) (by rfl) (pa_cons (pv 1) (pa_cons (pv 5) pa_nil))) (pe_op op_fdiv (pv 5) pe_int)))) (pe_op op_rep (pe_lst (pa_cons pe_int pa_nil)) (pe_callG G__law_take (hr.mono (by decide)) (by rfl) (pa_cons (pv 1) (pa_cons pe_int pa_nil))))))
  (pss_cons (ps_if (pt_cmpR (op_neK K hr.units) (pe_callG G_trimmed (hr.mono (by decide)) (by rfl) (pa_cons (pv 2) (pa_cons (pe_callTy (c_tupK K) (by rfl) T.n_tuple (by decide +kernel) (pa_cons (pv 6) pa_nil)) pa_nil))) (pe_callG G__law_trimmed (hr.mono (by decide)) (by rfl) (pa_cons (pv 2) (pa_cons (pv 6) pa_nil))) (nomark _))
  (pss_one (ps_ret pe_bl)) pss_nil)
  (pss_cons (ps_set (i := 7) nd rfl (by first | exact .inl rfl | exact .inr rfl) (pe_callG G__law_trimmed (hr.mono (by decide)) (by rfl) (pa_cons (pv 2) (pa_cons (pv 6) pa_nil))))
  (pss_cons (ps_set (i := 8) nd rfl (by first | exact .inl rfl | exact .inr rfl) (pe_callG G__law_trimmed (hr.mono (by decide)) (by rfl) (pa_cons (pv 2) (pa_cons (pe_lc (own := [("j", 11)]) rfl nd (pi_range1 rfl T.n_range (pa_cons (pe_callG G__law_take (hr.mono (by decide)) (by rfl) (pa_cons (pv 1) (pa_cons pe_int pa_nil))) pa_nil)) (blkOk_by (own := [("j", 11)]) (N := ["script", "c", "p", "a", "k", "far", "rows", "f", "g", "x", "due", "j", "i", "left", "pairs", "told", "h", "one"]) (by kernel_rfl)) (fun _ _ _ _ _ => (pg_name (i := 11) nd rfl (by first | exact .inl rfl | exact .inr rfl))) (fun _ _ _ _ _ => pts_nil) (fun _ _ _ _ _ => (pe_callG G__law_take (hr.mono (by decide)) (by rfl) (pa_cons (pv 1) (pa_cons (pv 2) pa_nil))))) pa_nil))))
  (pss_cons (ps_set (i := 9) nd rfl (by first | exact .inl rfl | exact .inr rfl) (pe_callG G__law_take (hr.mono (by decide)) (by rfl) (pa_cons (pv 1) (pa_cons (pv 2) pa_nil))))
  (pss_cons (ps_if (pt_cmpR op_ne (pe_callG G_value (hr.mono (by decide)) (by rfl) (pa_cons (pv 2) (pa_cons (pv 7) (pa_cons (pv 9) pa_nil)))) (pe_callG G__law_value (hr.mono (by decide)) (by rfl) (pa_cons (pv 2) (pa_cons (pv 7) (pa_cons (pv 9) pa_nil)))) (nomark _))
  (pss_one (ps_ret pe_bl)) pss_nil)
  (pss_cons (ps_if (pt_cmpR (op_neK K hr.units) (pe_callG G_plus (hr.mono (by decide)) (by rfl) (pa_cons (pv 2) (pa_cons (pv 7) (pa_cons (pv 8) pa_nil)))) (pe_callG G__law_trimmed (hr.mono (by decide)) (by rfl) (pa_cons (pv 2) (pa_cons (pe_lc (own := [("j", 11)]) rfl nd (pi_range1 rfl T.n_range (pa_cons (pe_callB (c_max2 rfl) (by rfl) T.n_max (by decide +kernel) (pa_cons (pe_callB (c_lenK K) (by rfl) T.n_len (by decide +kernel) (pa_cons (pv 7) pa_nil)) (pa_cons (pe_callB (c_lenK K) (by rfl) T.n_len (by decide +kernel) (pa_cons (pv 8) pa_nil)) pa_nil))) pa_nil)) (blkOk_by (own := [("j", 11)]) (N := ["script", "c", "p", "a", "k", "far", "rows", "f", "g", "x", "due", "j", "i", "left", "pairs", "told", "h", "one"]) (by kernel_rfl)) (fun _ _ _ _ _ => (pg_name (i := 11) nd rfl (by first | exact .inl rfl | exact .inr rfl))) (fun _ _ _ _ _ => pts_nil) (fun _ _ _ _ _ => (pe_callB (cr_sumK K rfl) (by rfl) T.n_sum (by decide +kernel) (pa_cons (pe_lc (own := [("h", 16)]) rfl nd (pi_listK K (pe_lst (pa_cons (pv 7) (pa_cons (pv 8) pa_nil)))) (blkOk_by (own := [("h", 16)]) (N := ["script", "c", "p", "a", "k", "far", "rows", "f", "g", "x", "due", "j", "i", "left", "pairs", "told", "h", "one"]) (by kernel_rfl)) (fun _ _ _ _ _ => (pg_name (i := 16) nd rfl (by first | exact .inl rfl | exact .inr rfl))) (fun _ _ _ _ _ => (pts_one (pt_cmpR op_lt (pv 11) (pe_callB (c_lenK K) (by rfl) T.n_len (by decide +kernel) (pa_cons (pv 16) pa_nil)) (nomark _)))) (fun _ _ _ _ _ => (pe_ix (ix_tupK K) (pv 16) (pv 11) (fun _ _ => rfl)))) pa_nil)))) pa_nil))) (nomark _))
  (pss_one (ps_ret pe_bl)) pss_nil)
  (pss_cons (ps_set (i := 10) nd rfl (by first | exact .inl rfl | exact .inr rfl) (pe_op op_rep (pe_lst (pa_cons pe_int pa_nil)) (pe_op op_add (pe_callB (c_lenK K) (by rfl) T.n_len (by decide +kernel) (pa_cons (pv 7) pa_nil)) (pe_callB (c_lenK K) (by rfl) T.n_len (by decide +kernel) (pa_cons (pv 8) pa_nil)))))
  (pss_cons (ps_for PassesOwn.never rfl (pi_range1 rfl T.n_range (pa_cons (pe_callB (c_lenK K) (by rfl) T.n_len (by decide +kernel) (pa_cons (pv 7) pa_nil)) pa_nil)) (pg_name (i := 11) nd rfl (by first | exact .inl rfl | exact .inr rfl))
  (pss_one (ps_for PassesOwn.never rfl (pi_range1 rfl T.n_range (pa_cons (pe_callB (c_lenK K) (by rfl) T.n_len (by decide +kernel) (pa_cons (pv 8) pa_nil)) pa_nil)) (pg_name (i := 12) nd rfl (by first | exact .inl rfl | exact .inr rfl))
  (pss_one (ps_asg (pe_op op_add (pe_ix (ix_listK K) (pv 10) (pe_op op_add (pv 12) (pv 11)) (fun _ _ => rfl)) (pe_op op_mul (pe_ix (ix_tupK K) (pv 7) (pv 11) (fun _ _ => rfl)) (pe_ix (ix_tupK K) (pv 8) (pv 12) (fun _ _ => rfl)))) (pg_sub (pv 10) (pe_op op_add (pv 12) (pv 11)) set_list))))))
  (pss_cons (ps_if (pt_cmpR (op_neK K hr.units) (pe_callG G_times (hr.mono (by decide)) (by rfl) (pa_cons (pv 2) (pa_cons (pv 7) (pa_cons (pv 8) pa_nil)))) (pe_callG G__law_trimmed (hr.mono (by decide)) (by rfl) (pa_cons (pv 2) (pa_cons (pv 10) pa_nil))) (nomark _))
  (pss_one (ps_ret pe_bl)) pss_nil)
  (pss_cons (ps_setLc (i := 13) (own := [("j", 11)]) rfl nd rfl rfl (sw_true rfl rfl rfl (by decide +kernel)) (pi_range1 rfl T.n_range (pa_cons (pv 2) pa_nil)) (blkOk_by (own := [("j", 11)]) (N := ["script", "c", "p", "a", "k", "far", "rows", "f", "g", "x", "due", "j", "i", "left", "pairs", "told", "h", "one"]) (by kernel_rfl)) (fun _ _ _ _ _ => (pg_name (i := 11) nd rfl (by first | exact .inl rfl | exact .inr rfl))) (fun _ _ _ _ _ => pts_nil) (fun _ _ _ _ _ => (pv 11)))
  (pss_cons (ps_set (i := 14) nd rfl (by first | exact .inl rfl | exact .inr rfl) (pe_lst pa_nil))
  (pss_cons (ps_for PassesOwn.never rfl (pi_range1 rfl T.n_range (pa_cons (pe_callG G__law_take (hr.mono (by decide)) (by rfl) (pa_cons (pv 1) (pa_cons pe_int pa_nil))) pa_nil)) (pg_name (i := 4) nd rfl (by first | exact .inl rfl | exact .inr rfl))
  (pss_one (ps_expr (pe_bmK K PySem.F.plainAttrs_list PySem.F.slot_list_append PySem.F.type_list_append mt_append (pv 14) (pa_cons (pe_tup (pa_cons (pe_bmK K PySem.F.plainAttrs_list PySem.F.slot_list_pop PySem.F.type_list_pop mt_popAt (pv 13) (pa_cons (pe_callG G__law_take (hr.mono (by decide)) (by rfl) (pa_cons (pv 1) (pa_cons (pe_callB (c_lenK K) (by rfl) T.n_len (by decide +kernel) (pa_cons (pv 13) pa_nil)) pa_nil))) pa_nil)) (pa_cons (pe_callG G__law_take (hr.mono (by decide)) (by rfl) (pa_cons (pv 1) (pa_cons (pv 2) pa_nil))) pa_nil))) pa_nil)))))
  (pss_cons (ps_set (i := 14) nd rfl (by first | exact .inl rfl | exact .inr rfl) (pe_callTy (c_tupK K) (by rfl) T.n_tuple (by decide +kernel) (pa_cons (pv 14) pa_nil)))
  (pss_cons (ps_set (i := 15) nd rfl (by first | exact .inl rfl | exact .inr rfl) (pe_callG G_interpolate (hr.mono (by decide)) (by rfl) (pa_cons (pv 2) (pa_cons (pv 14) pa_nil))))
  (pss_cons (ps_if (pt_val (pe_callB (cr_anyK K rfl) (by rfl) T.n_any (by decide +kernel) (pa_cons (pe_lc (own := [("one", 17)]) rfl nd (pi_tupK K (pe_op (op_catK K) (pe_op (op_catK K) (pv 15) (pv 7)) (pe_tup (pa_cons (pe_callG G_inverse (hr.mono (by decide)) (by rfl) (pa_cons (pv 2) (pa_cons (pv 3) pa_nil))) (pa_cons (pe_callG G_power (hr.mono (by decide)) (by rfl) (pa_cons (pv 2) (pa_cons (pv 3) (pa_cons (pv 4) pa_nil)))) (pa_cons (pe_callG G_value (hr.mono (by decide)) (by rfl) (pa_cons (pv 2) (pa_cons (pv 7) (pa_cons (pv 9) pa_nil)))) pa_nil)))))) (blkOk_by (own := [("one", 17)]) (N := ["script", "c", "p", "a", "k", "far", "rows", "f", "g", "x", "due", "j", "i", "left", "pairs", "told", "h", "one"]) (by kernel_rfl)) (fun _ _ _ _ _ => (pg_name (i := 17) nd rfl (by first | exact .inl rfl | exact .inr rfl))) (fun _ _ _ _ _ => pts_nil) (fun _ _ _ _ _ => (pe_callB (c_isiK K) (by rfl) T.n_isinstance (by decide +kernel) (pa_cons (pv 17) (pa_cons (pe_bltn (v := .ty "bool") (by rfl) T.n_bool (by decide +kernel) rfl) pa_nil))))) pa_nil)))
  (pss_one (ps_ret pe_bl)) pss_nil)
  (pss_cons (ps_if (PW.pt (pw_or (pt_cmpR (op_neK K hr.units) (pv 15) (pe_callG G__law_trimmed (hr.mono (by decide)) (by rfl) (pa_cons (pv 2) (pa_cons (pv 15) pa_nil))) (nomark _)) (pw_or1 (pt_cmpR op_gt (pe_callB (c_lenK K) (by rfl) T.n_len (by decide +kernel) (pa_cons (pv 15) pa_nil)) (pe_callB (c_lenK K) (by rfl) T.n_len (by decide +kernel) (pa_cons (pv 14) pa_nil)) (nomark _)))))
  (pss_one (ps_ret pe_bl)) pss_nil)
  (pss_one (ps_ret (pe_callB (cr_allK K rfl) (by rfl) T.n_all (by decide +kernel) (pa_cons (pe_lc (own := [("one", 17)]) rfl nd (pi_tupK K (pv 14)) (blkOk_by (own := [("one", 17)]) (N := ["script", "c", "p", "a", "k", "far", "rows", "f", "g", "x", "due", "j", "i", "left", "pairs", "told", "h", "one"]) (by kernel_rfl)) (fun _ _ _ _ _ => (pg_name (i := 17) nd rfl (by first | exact .inl rfl | exact .inr rfl))) (fun _ _ _ _ _ => pts_nil) (fun _ _ _ _ _ => (pe_cmpR op_eq (pe_callG G__law_value (hr.mono (by decide)) (by rfl) (pa_cons (pv 2) (pa_cons (pv 15) (pa_cons (pe_ix (ix_tupK K) (pv 17) pe_int (fun _ _ => rfl)) pa_nil)))) (pe_ix (ix_tupK K) (pv 17) pe_int (fun _ _ => rfl)) (nomark _)))) pa_nil))))))))))))))))))))))))))), ?_⟩
  try dsimp only [cxOf, Cx.wish]
  obtain ⟨⟨ns, hs, hz⟩, q⟩ := hyp
  -- c
  refine s_seq ?_
  refine s_cut (fun σ' H' => ∃ C L : Addr, σ' = stL (some (.ref s0)) (some (.ref C)) ∧ DR H' C L) (fun N hN => ?_) ?_
  · kc_close
    exact u_start hs hz fun H1 C L s1 d1 => by
      kc_close
      exact hN _ _ ⟨C, L, rfl, d1⟩
  rintro _ H1 ⟨C, L, rfl, d1⟩
  -- p
  refine s_seq ?_
  refine s_cut (fun σ' H' => ∃ p : Int, σ' = stL (some (.ref s0)) (some (.ref C)) (some (.int p)) ∧ DR H' C L ∧ M.PR p) (fun N hN => ?_) ?_
  · kc_close
    intro l H2 nl s2 el
    have dl := d1.ne nl
    kc_close
    refine u_take (by ktr_room) (by omega) (by omega) fun H3 d b3 d3 g0 g1 => ?_
    obtain ⟨p, hp, ep⟩ := ints5 g0 g1
    kc_close
    refine s_ixL (by ktr_room) ep ?_
    kc_close
    exact hN _ _ ⟨p, rfl, d3, hp⟩
  rintro _ H2 ⟨p, rfl, d2, hpr⟩
  have hp := hpr.lt
  -- a
  refine s_seq ?_
  refine s_cut (fun σ' H' => ∃ a : Int, σ' = stL (some (.ref s0)) (some (.ref C)) (some (.int p)) (some (.int a)) ∧ DR H' C L ∧ 0 < a ∧ a < p) (fun N hN => ?_) ?_
  · kc_close
    refine u_take (by ktr_room) (by omega) (by omega) fun H3 d b3 d3 g0 g1 => ?_
    kc_close
    exact hN _ _ ⟨1 + d, rfl, d3, by omega, by omega⟩
  rintro _ H3 ⟨a, rfl, d3, a0, a1⟩
  -- k
  refine s_seq ?_
  refine s_cut (fun σ' H' => ∃ k : Int, σ' = stL (some (.ref s0)) (some (.ref C)) (some (.int p)) (some (.int a)) (some (.int k)) ∧ DR H' C L ∧ 0 ≤ k ∧ k < 2000) (fun N hN => ?_) ?_
  · kc_close
    refine u_take (by ktr_room) (by omega) (by omega) fun H4 x1 b4 d4 g0 g1 => ?_
    kc_close
    refine u_take (by ktr_room) (by omega) (by omega) fun H5 x2 b5 d5 g2 g3 => ?_
    kc_close
    intro l H6 nl s6 el
    have dl := d5.ne nl
    kc_close
    refine u_take (by ktr_room) (by omega) (by omega) fun H7 x3 b7 d7 g4 g5 => ?_
    obtain ⟨k, hk, ek⟩ := ints2 (x := x1) (y := x2) g4 g5
    kc_close
    refine s_ixL (by ktr_room) ek ?_
    kc_close
    exact hN _ _ ⟨k, rfl, d7, by omega, by omega⟩
  rintro _ H4 ⟨k, rfl, d4, k0, k1⟩
  -- inverse, power
  have iv := M.inv_lt (show 0 < p by omega) a
  have iok := M.inv_ok hpr a0 a1
  have iv1 : 1 ≤ M.inv p a := by
    rcases Int.lt_or_le (M.inv p a) 1 with h | h
    · have e : M.inv p a = 0 := by omega
      rw [e, Int.mul_zero, Int.zero_emod] at iok
      omega
    · exact h
  refine s_seq ?_
  refine s_cut (fun σ' H' => σ' = stL (some (.ref s0)) (some (.ref C)) (some (.int p)) (some (.int a)) (some (.int k)) ∧ H' = H4) (fun N hN => ?_) ?_
  · refine s_if ?_
    kc_close
    refine ifFalse (decide_eq_false (by omega)) ?_
    kc_close
    refine ifFalse (decide_eq_false (by omega)) ?_
    kc_close
    refine ifN (fun h => absurd ?_ h) (fun _ => ?_)
    · rw [Int.mul_comm]
      exact iok
    kc_close
    refine ifN (fun h => absurd rfl h) (fun _ => ?_)
    kc_close
    refine ifN (fun h => absurd ?_ h) (fun _ => ?_)
    · by_cases ek : k = 0
      · subst ek
        show (1 : Int) % p = 1
        rw [Int.emod_eq_of_lt (by omega) (by omega)]
      · rw [if_neg (by
          intro z
          exact ek (V.int.inj (of_decide_eq_true z))), show k.toNat = (k.toNat - 1) + 1 by omega, Int.pow_succ, Int.mul_zero, Int.zero_emod]
    kc_close
    exact hN _ _ ⟨rfl, rfl⟩
  rintro _ _ ⟨rfl, rfl⟩
  -- far
  refine s_seq ?_
  refine s_cut (fun σ' H' => ∃ far : Int, σ' = stL (some (.ref s0)) (some (.ref C)) (some (.int p)) (some (.int a)) (some (.int k)) (some (.int far)) ∧ DR H' C L ∧ 0 < far ∧ far ≤ 1000000000) (fun N hN => ?_) ?_
  · kc_close
    intro l H5 nl s5 el
    have dl := d4.ne nl
    kc_close
    refine u_take (by ktr_room) (by omega) (by omega) fun H6 d b6 d6 g0 g1 => ?_
    obtain ⟨far, hfar, efar⟩ := ints3 (x := 3 * p) (y := 3 * p) (z := 10 ^ (Int.toNat 9)) g0 g1
    kc_close
    refine s_ixL (by ktr_room) efar ?_
    kc_close
    have e9 : (10 : Int) ^ (Int.toNat 9) = 1000000000 := by decide
    exact hN _ _ ⟨far, rfl, d6, by omega, by omega⟩
  rintro _ H5 ⟨far, rfl, d5, f0, f1⟩
  -- rows
  refine s_seq ?_
  refine s_cut (fun σ' H' => ∃ (R : Addr) (rs : List Int), σ' = stL (some (.ref s0)) (some (.ref C)) (some (.int p)) (some (.int a)) (some (.int k)) (some (.int far)) (some (.ref R)) ∧ DR H' C L ∧ R ≠ C ∧ R ≠ L ∧ H' R = some (.lst (rs.map V.int)) ∧ rs.length ≤ 16) (fun N hN => ?_) ?_
  · kc_close
    refine u_take d5 (by omega) (by omega) fun H6 d b6 d6 g0 g1 => ?_
    kc_close
    refine s_rng1v (by omega) (by omega) ?_
    refine l_draws (C := C) (L := L) (fun _ => True) d6 (by omega) ?_ ?_
    · intro D N i H7 hi b7 d7 k7
      kc_close
      refine u_take d7 (by omega) (by omega) fun H8 d b8 d8 g2 g3 => ?_
      kc_close
      exact k7 _ _ b8 d8 trivial
    intro D H7 ls nD nC nL b7 d7 hl _ eD
    kc_close
    intro o H8 no s8 eo
    have nCo := d7.ne no
    kc_close
    refine u_take (d7.same s8) (by omega) (by omega) fun H9 e b9 d9 g2 g3 => ?_
    have eo9 := b9 _ _ nCo eo
    refine s_rep eo9 (by omega) (by omega) (Nat.le_trans (show 1 * e.toNat ≤ 10 by omega) (by decide)) fun z H10 nz s10 ez => ?_
    rw [flat_rep] at ez
    have eD10 : H10 D = some (.lst (ls.map V.int)) := by ktr_room
    refine s_catL eD10 ez (by rw [List.length_map, List.length_replicate]; exact Nat.le_trans (show ls.length + e.toNat ≤ 30 by omega) (by decide)) fun R H11 nR s11 eR => ?_
    have d10 : DR H10 C L := d9.same s10
    kc_close
    refine hN _ _ ⟨R, ls ++ List.replicate e.toNat 0, rfl, d10.same s11, d10.ne nR, d10.neL nR, ?_, by rw [List.length_append, List.length_replicate]; omega⟩
    rw [List.map_append, List.map_replicate]
    exact eR
  rintro _ H6 ⟨R, rs, rfl, d6, nR, nRL, eR, hrs⟩
  have hR : IsL K H6 R rs := SqL.of eR
  -- trimmed
  refine s_seq ?_
  refine s_cut (fun σ' H' => σ' = stL (some (.ref s0)) (some (.ref C)) (some (.int p)) (some (.int a)) (some (.int k)) (some (.int far)) (some (.ref R)) ∧ Same H6 H') (fun N hN => ?_) ?_
  · refine s_if ?_
    kc_close
    refine s_tupL hR fun t H7 nt s7 et => ?_
    have ht : IsT K H7 t rs := SqT.of et
    kc_close
    refine s_neSame (by ktr_room) (by ktr_room) ?_
    kc_close
    refine iteF ?_
    kc_close
    refine hN _ _ ⟨rfl, ?_⟩
    ktr_room
  rintro _ H7 ⟨rfl, s7⟩
  have d7 := d6.same s7
  -- f
  refine s_seq ?_
  refine s_cut (fun σ' H' => ∃ F : Addr, σ' = stL (some (.ref s0)) (some (.ref C)) (some (.int p)) (some (.int a)) (some (.int k)) (some (.int far)) (some (.ref R)) (some (.ref F)) ∧ Same H7 H' ∧ IsT K H' F (M.red p rs)) (fun N hN => ?_) ?_
  · kc_close
    refine hN _ _ ⟨_, rfl, ?_, ?_⟩ <;> ktr_room
  rintro _ H8 ⟨F, rfl, s8, hF⟩
  have d8 := d7.same s8
  have lF : (M.red p rs).length ≤ 16 := Nat.le_trans (M.trim_length _) (by rw [List.length_map]; exact hrs)
  have mF : ∀ x ∈ M.red p rs, 0 ≤ x ∧ x < 1000 := fun x m => by
    have := M.red_mem (show 0 < p by omega) m
    omega
  generalize M.red p rs = fs at hF lF mF
  -- g
  refine s_seq ?_
  refine s_cut (fun σ' H' => ∃ (G : Addr) (gs : List Int), σ' = stL (some (.ref s0)) (some (.ref C)) (some (.int p)) (some (.int a)) (some (.int k)) (some (.int far)) (some (.ref R)) (some (.ref F)) (some (.ref G)) ∧ But C H8 H' ∧ DR H' C L ∧ IsT K H' G gs ∧ gs.length ≤ 13) (fun N hN => ?_) ?_
  · kc_close
    refine u_take d8 (by omega) (by omega) fun H9 d b9 d9 g0 g1 => ?_
    kc_close
    refine s_rng1v (by omega) (by omega) ?_
    refine l_draws (C := C) (L := L) (fun _ => True) d9 (by omega) ?_ ?_
    · intro D N i H10 hi b10 d10 k10
      kc_close
      refine u_take d10 (by omega) (by omega) fun H11 d b11 d11 g2 g3 => ?_
      kc_close
      exact k10 _ _ b11 d11 trivial
    intro D H10 ls nD nC nL b10 d10 hl _ eD
    have hD : IsL K H10 D ls := SqL.of eD
    kc_close
    refine hN _ _ ⟨_, M.red p ls, rfl, ?_, ?_, ?_, ?_⟩
    · exact (b9.trans b10).trans (But.of (by assumption))
    · exact d10.same (by assumption)
    · assumption
    · refine Nat.le_trans (M.trim_length _) ?_
      rw [List.length_map]
      omega
  rintro _ H9 ⟨G, gs, rfl, b9, d9, hG, lG⟩
  have hF9 : IsT K H9 F fs := sqt_butD b9 d8 hF
  -- x
  refine s_seq ?_
  refine s_cut (fun σ' H' => ∃ x : Int, σ' = stL (some (.ref s0)) (some (.ref C)) (some (.int p)) (some (.int a)) (some (.int k)) (some (.int far)) (some (.ref R)) (some (.ref F)) (some (.ref G)) (some (.int x)) ∧ But C H9 H' ∧ DR H' C L) (fun N hN => ?_) ?_
  · kc_close
    refine u_take d9 (by omega) (by omega) fun H10 d b10 d10 g0 g1 => ?_
    kc_close
    exact hN _ _ ⟨d, rfl, b10, d10⟩
  rintro _ H10 ⟨x, rfl, b10, d10⟩
  have hF10 : IsT K H10 F fs := sqt_butD b10 d9 hF9
  have hG10 : IsT K H10 G gs := sqt_butD b10 d9 hG
  -- value
  refine s_seq ?_
  refine s_cut (fun σ' H' => σ' = stL (some (.ref s0)) (some (.ref C)) (some (.int p)) (some (.int a)) (some (.int k)) (some (.int far)) (some (.ref R)) (some (.ref F)) (some (.ref G)) (some (.int x)) ∧ H' = H10) (fun N hN => ?_) ?_
  · refine s_if ?_
    kc_close
    refine ifN (fun h => absurd rfl h) (fun _ => ?_)
    kc_close
    exact hN _ _ ⟨rfl, rfl⟩
  rintro _ H10 ⟨rfl, rfl⟩
  -- plus
  refine s_seq ?_
  refine s_cut (fun σ' H' => σ' = stL (some (.ref s0)) (some (.ref C)) (some (.int p)) (some (.int a)) (some (.int k)) (some (.int far)) (some (.ref R)) (some (.ref F)) (some (.ref G)) (some (.int x)) ∧ Same H10 H') (fun N hN => ?_) ?_
  · refine s_if ?_
    kc_close
    have hm : (if ((gs.map V.int).length : Int) > ((fs.map V.int).length : Int) then ((gs.map V.int).length : Int) else ((fs.map V.int).length : Int)) = ((max fs.length gs.length : Nat) : Int) := by
      rw [List.length_map, List.length_map]
      split <;> omega
    rw [hm]
    refine s_rng1v (by omega) (by omega) ?_
    rw [Int.toNat_natCast]
    refine l_mapR (fun j => V.int (fs.getD j 0 + gs.getD j 0)) (by omega) ?_ ?_
    · intro D N i H12 hi s12 k12
      kc_close
      intro l H13 nl s13 el
      have hF13 : IsT K H13 F fs := by ktr_room
      have hG13 : IsT K H13 G gs := by ktr_room
      have one : ∀ (l : List Int) (o : Addr) (acc : List Int) (D' : Addr) (Nx : Hp → Prop) (H14 : Hp), IsT K H14 o l → H13 D' = none → Same H13 H14 → H14 D' = some (.lst (acc.map V.int)) → acc.length ≤ 1 → (0 : Int) + (i : Nat) < (l.length : Nat) →
          (∀ H15, Same H13 H15 → H15 D' = some (.lst ((acc ++ M.sel l i).map V.int)) → Nx H15) → rIxT K (.ref o) (.int (0 + (i : Nat))) H14 (fun y H4 => LcEnd D' Nx y H4) := by
        intro l o acc D' Nx H14 hl n14 s14 e14 ha hj fin
        refine s_ixT hl (at_nat (by omega) hj) ?_
        refine s_lcEnd e14 (by rw [List.length_map]; exact Nat.lt_of_le_of_lt ha (by decide)) fun H15 b15 e15 => fin H15 (But.same b15 s14 n14) ?_
        rw [M.sel_yes (show i < l.length by omega), List.map_append]
        rw [show (0 + (i : Int)).toNat = i by omega] at e15
        exact e15
      refine s_ilistv (SqL.of el) ?_
      refine l_list (xs := [.ref F, .ref G]) (fun D' m H' => H13 D' = none ∧ Same H13 H' ∧ H' D' = some (.lst ((M.selN fs gs i m).map V.int))) (fun D' H' n s e => ⟨n, s, e⟩) (fun D' m H' _ q => sql_same q.2.1 (SqL.of el)) ?_ ?_
      · rintro D' m y H14 e ⟨n14, s14, e14⟩
        rcases m with _ | _ | m
        · cases e
          kc_close
          refine ifP (fun hj => ?_) (fun hj => ?_) <;> rw [List.length_map] at hj
          · kc_close
            refine one fs F [] D' _ H14 (sqt_same s14 hF13) n14 s14 e14 (Nat.zero_le _) hj fun H15 s15 e15 => ?_
            exact ⟨n14, s15, e15⟩
          · refine ⟨n14, s14, ?_⟩
            show H14 D' = some (.lst ((M.sel fs i).map V.int))
            rw [M.sel_no (show ¬ i < fs.length by omega)]
            exact e14
        · cases e
          kc_close
          refine ifP (fun hj => ?_) (fun hj => ?_) <;> rw [List.length_map] at hj
          · kc_close
            refine one gs G (M.sel fs i) D' _ H14 (sqt_same s14 hG13) n14 s14 e14 (by unfold M.sel; split <;> simp) hj fun H15 s15 e15 => ?_
            exact ⟨n14, s15, e15⟩
          · refine ⟨n14, s14, ?_⟩
            show H14 D' = some (.lst ((M.sel fs i ++ M.sel gs i).map V.int))
            rw [M.sel_no (show ¬ i < gs.length by omega), List.append_nil]
            exact e14
        · cases e
      rintro D' H14 ⟨n14, s14, e14⟩
      kc_close
      refine s_sum (SqL.of e14) ?_
      rw [show (M.selN fs gs i [V.ref F, V.ref G].length).sum = _ from M.selN_sum fs gs i]
      exact k12 _ (s13.trans s14)
    intro D H12 nD s12 eD
    rw [show (List.range (max fs.length gs.length)).map (fun j => V.int (fs.getD j 0 + gs.getD j 0)) = (M.addL (max fs.length gs.length) fs gs).map V.int by
      rw [M.addL_range _ _ _ (Nat.le_max_left _ _) (Nat.le_max_right _ _), List.map_map]
      rfl] at eD
    have hD : IsL K H12 D (M.addL (max fs.length gs.length) fs gs) := SqL.of eD
    have lD : (M.addL (max fs.length gs.length) fs gs).length ≤ 1000 := by
      unfold M.addL
      rw [M.addMul_length, M.addMul_length, M.zeros, List.length_replicate]
      omega
    kc_close
    refine s_neSame (ns := M.plus p fs gs) (by ktr_room) (by show SqT K _ _ ((M.red p (M.addL (max fs.length gs.length) fs gs)).map V.int); ktr_room) ?_
    kc_close
    refine iteF ?_
    kc_close
    refine hN _ _ ⟨rfl, ?_⟩
    ktr_room
  rintro _ H11 ⟨rfl, s11⟩
  have hF11 : IsT K H11 F fs := sqt_same s11 hF10
  have hG11 : IsT K H11 G gs := sqt_same s11 hG10
  have d11 := d10.same s11
  -- due
  refine s_seq ?_
  refine s_cut (fun σ' H' => ∃ D : Addr, σ' = stL (some (.ref s0)) (some (.ref C)) (some (.int p)) (some (.int a)) (some (.int k)) (some (.int far)) (some (.ref R)) (some (.ref F)) (some (.ref G)) (some (.int x)) (some (.ref D)) ∧ Same H11 H' ∧ H11 D = none ∧ H' D = some (.lst ((M.zeros (fs.length + gs.length)).map V.int))) (fun N hN => ?_) ?_
  · kc_close
    intro o H12 no s12 eo
    kc_close
    have hm : ((fs.map V.int).length : Int) + ((gs.map V.int).length : Int) = ((fs.length + gs.length : Nat) : Int) := by
      rw [List.length_map, List.length_map]
      omega
    rw [hm]
    refine s_rep eo (by omega) (by omega) (by rw [Int.toNat_natCast]; exact Nat.le_trans (show 1 * (fs.length + gs.length) ≤ 200 by omega) (by decide)) fun D H13 nD s13 eD => ?_
    rw [Int.toNat_natCast, flat_rep, show List.replicate (fs.length + gs.length) (V.int 0) = (M.zeros (fs.length + gs.length)).map V.int by simp [M.zeros]] at eD
    kc_close
    exact hN _ _ ⟨D, rfl, s12.trans s13, s12.free nD, eD⟩
  rintro _ H12 ⟨D, rfl, s12, nD, eD⟩
  have lz : (M.zeros (fs.length + gs.length)).length = fs.length + gs.length := by simp [M.zeros]
  -- the products
  refine s_seq ?_
  refine s_cut (fun σ' H' => ∃ u v, σ' = stL (some (.ref s0)) (some (.ref C)) (some (.int p)) (some (.int a)) (some (.int k)) (some (.int far)) (some (.ref R)) (some (.ref F)) (some (.ref G)) (some (.int x)) (some (.ref D)) u v ∧ Same H11 H' ∧ H' D = some (.lst ((M.mulL fs gs).map V.int))) (fun N hN => ?_) ?_
  · kc_close
    rw [List.length_map]
    refine s_rng1v (by omega) (by omega) ?_
    rw [Int.toNat_natCast]
    refine w_range (fun j σ H' => ∃ u v, σ = stL (some (.ref s0)) (some (.ref C)) (some (.int p)) (some (.int a)) (some (.int k)) (some (.int far)) (some (.ref R)) (some (.ref F)) (some (.ref G)) (some (.int x)) (some (.ref D)) u v ∧ Same H11 H' ∧ H' D = some (.lst ((M.mulFrom (M.zeros (fs.length + gs.length)) 0 gs (fs.take j)).map V.int))) ⟨none, none, rfl, s12, eD⟩ ?_ ?_
    · rintro j _ H13 hj ⟨u, v, rfl, s13, e13⟩
      have lm : (M.mulFrom (M.zeros (fs.length + gs.length)) 0 gs (fs.take j)).length = fs.length + gs.length := by rw [M.mulFrom_length, lz]
      have hsx : 0 ≤ fs.getD j 0 ∧ fs.getD j 0 < 1000 := mF _ (by rw [List.getD_eq_getElem?_getD, List.getElem?_eq_getElem hj]; exact List.getElem_mem hj)
      kc_close
      rw [List.length_map]
      refine s_rng1v (by omega) (by omega) ?_
      rw [Int.toNat_natCast]
      refine w_range (fun i σ H' => ∃ v, σ = stL (some (.ref s0)) (some (.ref C)) (some (.int p)) (some (.int a)) (some (.int k)) (some (.int far)) (some (.ref R)) (some (.ref F)) (some (.ref G)) (some (.int x)) (some (.ref D)) (some (.int (0 + (j : Nat)))) v ∧ Same H11 H' ∧ H' D = some (.lst ((M.addMul (M.mulFrom (M.zeros (fs.length + gs.length)) 0 gs (fs.take j)) j (fs.getD j 0) (gs.take i)).map V.int))) ⟨v, rfl, s13, e13⟩ ?_ ?_
      · rintro i _ H14 hi ⟨v, rfl, s14, e14⟩
        have hF14 : IsT K H14 F fs := sqt_same s14 hF11
        have hG14 : IsT K H14 G gs := sqt_same s14 hG11
        have hl : j + i < (M.addMul (M.mulFrom (M.zeros (fs.length + gs.length)) 0 gs (fs.take j)) j (fs.getD j 0) (gs.take i)).length := by rw [M.addMul_length, lm]; omega
        kc_close
        refine s_ixL (SqL.of e14) (at_nat (by omega) (by omega)) ?_
        kc_close
        refine s_ixT hF14 (at_nat (by omega) (by omega)) ?_
        kc_close
        refine s_ixT hG14 (at_nat (by omega) (by omega)) ?_
        rw [show ((0 : Int) + (j : Int)).toNat = j by omega, show ((0 : Int) + (i : Int)).toNat = i by omega, show ((0 : Int) + (i : Int) + (0 + (j : Int))).toNat = j + i by omega]
        kc_close
        rw [show (0 : Int) + (i : Int) + (0 + (j : Int)) = ((j + i : Nat) : Int) by omega]
        refine s_setL e14 (ixN_nat (by rw [List.length_map]; exact hl)) fun H15 b15 e15 => ?_
        refine ⟨_, rfl, But.same b15 s14 nD, ?_⟩
        rw [M.addMul_take _ _ _ _ i hi]
        rw [map_set] at e15
        exact e15
      · rintro _ H14 ⟨v, rfl, s14, e14⟩
        refine ⟨_, _, rfl, s14, ?_⟩
        rw [List.take_length] at e14
        rw [M.mulFrom_take _ _ _ _ j hj, Nat.zero_add]
        exact e14
    · rintro _ H13 ⟨u, v, rfl, s13, e13⟩
      rw [List.take_length] at e13
      exact hN _ _ ⟨u, v, rfl, s13, e13⟩
  rintro _ H13 ⟨u, v, rfl, s13, e13⟩
  have hF13 : IsT K H13 F fs := sqt_same s13 hF11
  have hG13 : IsT K H13 G gs := sqt_same s13 hG11
  have hD13 : IsL K H13 D (M.mulL fs gs) := SqL.of e13
  have lD13 : (M.mulL fs gs).length ≤ 1000 := by
    unfold M.mulL
    rw [M.mulFrom_length, lz]
    omega
  -- times
  refine s_seq ?_
  refine s_cut (fun σ' H' => σ' = stL (some (.ref s0)) (some (.ref C)) (some (.int p)) (some (.int a)) (some (.int k)) (some (.int far)) (some (.ref R)) (some (.ref F)) (some (.ref G)) (some (.int x)) (some (.ref D)) u v ∧ Same H13 H') (fun N hN => ?_) ?_
  · refine s_if ?_
    kc_close
    refine s_neSame (ns := M.times p fs gs) (by ktr_room) (by show SqT K _ _ ((M.red p (M.mulL fs gs)).map V.int); ktr_room) ?_
    kc_close
    refine iteF ?_
    kc_close
    refine hN _ _ ⟨rfl, ?_⟩
    ktr_room
  rintro _ H14 ⟨rfl, s14⟩
  have s15 : Same H11 H14 := s13.trans s14
  have hF15 : IsT K H14 F fs := sqt_same s15 hF11
  have d15 := d11.same s15
  -- left
  refine s_seq ?_
  refine s_cut (fun σ' H' => ∃ Lf : Addr, σ' = stL (some (.ref s0)) (some (.ref C)) (some (.int p)) (some (.int a)) (some (.int k)) (some (.int far)) (some (.ref R)) (some (.ref F)) (some (.ref G)) (some (.int x)) (some (.ref D)) u v (some (.ref Lf)) ∧ Same H14 H' ∧ H14 Lf = none ∧ H' Lf = some (.lst (((List.range p.toNat).map fun j => (0 : Int) + (j : Nat)).map V.int))) (fun N hN => ?_) ?_
  · kc_close
    refine s_rng1v (by omega) (by omega) ?_
    refine l_mapR (fun j => V.int (0 + (j : Nat))) (by omega) ?_ ?_
    · intro D' N' i H' hi s' k'
      kc_close
      exact k' _ (Same.refl _)
    intro Lf H16 nLf s16 eLf
    kc_close
    refine hN _ _ ⟨Lf, rfl, s16, nLf, ?_⟩
    rw [List.map_map]
    exact eLf
  rintro _ H16 ⟨Lf, rfl, s16, nLf, eLf⟩
  -- pairs
  refine s_seq ?_
  refine s_cut (fun σ' H' => ∃ Pr : Addr, σ' = stL (some (.ref s0)) (some (.ref C)) (some (.int p)) (some (.int a)) (some (.int k)) (some (.int far)) (some (.ref R)) (some (.ref F)) (some (.ref G)) (some (.int x)) (some (.ref D)) u v (some (.ref Lf)) (some (.ref Pr)) ∧ Same H16 H' ∧ H16 Pr = none ∧ H' Pr = some (.lst [])) (fun N hN => ?_) ?_
  · kc_close
    intro Pr H17 nPr s17 ePr
    kc_close
    exact hN _ _ ⟨Pr, rfl, s17, nPr, ePr⟩
  rintro _ H17 ⟨Pr, rfl, s17, nPr, ePr⟩
  have nLC : Lf ≠ C := d15.ne nLf
  have nLL : Lf ≠ L := d15.neL nLf
  have d16 := d15.same s16
  have nPC : Pr ≠ C := d16.ne nPr
  have nPL : Pr ≠ L := d16.neL nPr
  have nPLf : Pr ≠ Lf := by
    intro z
    subst z
    rw [eLf] at nPr
    cases nPr
  have nPr14 : H14 Pr = none := s16.free nPr
  -- the pairs drawn
  refine s_seq ?_
  refine s_cut (fun σ' H' => ∃ (kk : Int) (as : List Addr) (l : List (Int × Int)), 0 ≤ kk ∧ σ' = stL (some (.ref s0)) (some (.ref C)) (some (.int p)) (some (.int a)) (some (.int kk)) (some (.int far)) (some (.ref R)) (some (.ref F)) (some (.ref G)) (some (.int x)) (some (.ref D)) u v (some (.ref Lf)) (some (.ref Pr)) ∧ But C H14 H' ∧ DR H' C L ∧ H' Pr = some (.lst (as.map V.ref)) ∧ Paired (fun a xy => SqT K H' a [.int xy.1, .int xy.2]) as l ∧ l.length ≤ 10 ∧ (l.map (·.1)).Nodup ∧ (∀ xy ∈ l, 0 ≤ xy.1 ∧ xy.1 < p ∧ 0 ≤ xy.2 ∧ xy.2 < p)) (fun N hN => ?_) ?_
  · kc_close
    refine u_take (d16.same s17) (by omega) (by omega) fun H18 m b18 d18 g0 g1 => ?_
    kc_close
    refine s_rng1v (by omega) (by omega) ?_
    refine w_range (fun i σ H' => ∃ (kk : Int) (as : List Addr) (l : List (Int × Int)) (ls : List Int), 0 ≤ kk ∧ σ = stL (some (.ref s0)) (some (.ref C)) (some (.int p)) (some (.int a)) (some (.int kk)) (some (.int far)) (some (.ref R)) (some (.ref F)) (some (.ref G)) (some (.int x)) (some (.ref D)) u v (some (.ref Lf)) (some (.ref Pr)) ∧ But C H14 H' ∧ DR H' C L ∧ H' Lf = some (.lst (ls.map V.int)) ∧ H' Pr = some (.lst (as.map V.ref)) ∧ Paired (fun a xy => SqT K H' a [.int xy.1, .int xy.2]) as l ∧ l.length = i ∧ ls.length + i = p.toNat ∧
      (l.map (·.1) ++ ls).Nodup ∧ (∀ xy ∈ l, 0 ≤ xy.1 ∧ xy.1 < p ∧ 0 ≤ xy.2 ∧ xy.2 < p) ∧ ∀ z ∈ ls, 0 ≤ z ∧ z < p) ?_ ?_ ?_
    · refine ⟨k, [], [], (List.range p.toNat).map fun j => (0 : Int) + (j : Nat), k0, rfl, ?_, d18, ?_, ?_, .nil, rfl, ?_, ?_, fun xy h => (by cases h), ?_⟩
      · exact (But.of (s16.trans s17)).trans b18
      · exact b18 _ _ nLC (s17 _ _ eLf)
      · exact b18 _ _ nPC ePr
      · rw [List.length_map, List.length_range]
        rfl
      · rw [List.map_nil, List.nil_append]
        exact M.range_nodup _
      · intro z hz
        obtain ⟨j, hj, e⟩ := List.mem_map.mp hz
        have := List.mem_range.mp hj
        omega
    · rintro i _ H19 hi ⟨kk, as, l, ls, hkk, rfl, b19, d19, eL19, eP19, hps, hl, hls, hnd, hin, hz⟩
      have lls : 0 < ls.length ∧ ls.length < 200 := by omega
      kc_close
      have hL19 : IsL K H19 Lf ls := SqL.of eL19
      kc_close
      rw [List.length_map]
      refine u_take d19 (by omega) (by omega) fun H20 d b20 d20 g2 g3 => ?_
      have eL20 := b20 _ _ nLC eL19
      have eP20 := b20 _ _ nPC eP19
      kc_close
      have hd : d.toNat < ls.length := by omega
      refine s_popAt eL20 g2 (by omega) (at_int hd) fun H21 b21 e21 => ?_
      rw [Z.map_erase] at e21
      have d21 := d20.but b21 nLC nLL
      have eP21 := b21 _ _ nPLf eP20
      kc_close
      refine u_take d21 (by omega) (by omega) fun H22 y b22 d22 g4 g5 => ?_
      have eL22 := b22 _ _ nLC e21
      have eP22 := b22 _ _ nPC eP21
      kc_close
      intro t H23 nt s23 et
      have eP23 := s23 _ _ eP22
      have eL23 := s23 _ _ eL22
      kc_close
      refine s_append eP23 (by rw [List.length_map, Paired.length hps]; exact Nat.lt_of_lt_of_le (show l.length < 100 by omega) (by decide)) fun H24 b24 e24 => ?_
      have tr : ∀ a xs, SqT K H19 a xs → SqT K H24 a xs := fun a xs h =>
        sqt_but b24 eP23 (sqt_same s23 (sqt_butD b22 d21 (sqt_but b21 eL20 (sqt_butD b20 d19 h))))
      have hg : ls.getD d.toNat 0 = ls[d.toNat] := by rw [List.getD_eq_getElem?_getD, List.getElem?_eq_getElem hd]; rfl
      have hv := hz _ (List.getElem_mem hd)
      refine ⟨0 + (i : Nat), as ++ [t], l ++ [(ls.getD d.toNat 0, y)], ls.eraseIdx d.toNat, by omega, rfl, ?_, (d22.same s23).but b24 nPC nPL, ?_, ?_, ?_, ?_, ?_, ?_, ?_, ?_⟩
      · exact But.sameN b24 ((But.sameN b21 (b19.trans b20) nLf).trans (b22.trans (But.of s23))) nPr14
      · exact b24 _ _ (Ne.symm nPLf) eL23
      · rw [List.map_append]
        exact e24
      · exact M.paired_snoc (L2.Paired.mapP hps fun a xy h => tr _ _ h) (sqt_but b24 eP23 (SqT.of et))
      · rw [List.length_append, hl]
        rfl
      · rw [List.length_eraseIdx, if_pos hd]
        omega
      · rw [List.map_append, hg]
        exact M.nodup_move hd hnd
      · intro xy hxy
        rcases List.mem_append.mp hxy with hxy | hxy
        · exact hin xy hxy
        · rw [List.mem_singleton.mp hxy, hg]
          exact ⟨hv.1, hv.2, g4, g5⟩
      · exact fun z hz' => hz z (List.mem_of_mem_eraseIdx hz')
    · rintro _ H19 ⟨kk, as, l, ls, hkk, rfl, b19, d19, eL19, eP19, hps, hl, hls, hnd, hin, hz⟩
      exact hN _ _ ⟨kk, as, l, hkk, rfl, b19, d19, eP19, hps, by omega, (List.nodup_append.mp hnd).1, hin⟩
  rintro _ H18 ⟨kk, as, l, hkk, rfl, b18, d18, eP18, hps, hl, hnd, hin⟩
  have hF18 : IsT K H18 F fs := sqt_butD b18 d15 hF15
  have hlen := Paired.length hps
  -- the tuple of the pairs
  refine s_seq ?_
  refine s_cut (fun σ' H' => ∃ T : Addr, σ' = stL (some (.ref s0)) (some (.ref C)) (some (.int p)) (some (.int a)) (some (.int kk)) (some (.int far)) (some (.ref R)) (some (.ref F)) (some (.ref G)) (some (.int x)) (some (.ref D)) u v (some (.ref Lf)) (some (.ref T)) ∧ Same H18 H' ∧ SqT K H' T (as.map V.ref)) (fun N hN => ?_) ?_
  · kc_close
    refine s_tupL (SqL.of eP18) fun T H19 nT s19 eT => ?_
    kc_close
    exact hN _ _ ⟨T, rfl, s19, SqT.of eT⟩
  rintro _ H19 ⟨T, rfl, s19, hT⟩
  have hps19 : Paired (fun a xy => SqT K H19 a [.int xy.1, .int xy.2]) as l := L2.Paired.mapP hps fun a xy h => sqt_same s19 h
  have I := M.invI_all hpr hin hnd
  generalize hti : (M.stI p l).1 = ts
  have lts : ts.length ≤ l.length := by rw [← hti]; exact I.len1
  -- told
  refine s_seq ?_
  refine s_cut (fun σ' H' => ∃ O : Addr, σ' = stL (some (.ref s0)) (some (.ref C)) (some (.int p)) (some (.int a)) (some (.int kk)) (some (.int far)) (some (.ref R)) (some (.ref F)) (some (.ref G)) (some (.int x)) (some (.ref D)) u v (some (.ref Lf)) (some (.ref T)) (some (.ref O)) ∧ Same H19 H' ∧ IsT K H' O ts) (fun N hN => ?_) ?_
  · kc_close
    refine ⟨p, T, rfl, l, as, hT, hps19, hpr, by omega, hin, hnd, fun H20 O s20 hO => ?_⟩
    rw [hti] at hO
    kc_close
    exact hN _ _ ⟨O, rfl, s20, hO⟩
  rintro _ H20 ⟨O, rfl, s20, hO⟩
  have hF20 : IsT K H20 F fs := sqt_same s20 (sqt_same s19 hF18)
  have hT20 : SqT K H20 T (as.map V.ref) := sqt_same s20 hT
  have hps20 : Paired (fun a xy => SqT K H20 a [.int xy.1, .int xy.2]) as l := L2.Paired.mapP hps19 fun a xy h => sqt_same s20 h
  -- no bools
  refine s_seq ?_
  refine s_cut (fun σ' H' => σ' = stL (some (.ref s0)) (some (.ref C)) (some (.int p)) (some (.int a)) (some (.int kk)) (some (.int far)) (some (.ref R)) (some (.ref F)) (some (.ref G)) (some (.int x)) (some (.ref D)) u v (some (.ref Lf)) (some (.ref T)) (some (.ref O)) ∧ Same H20 H') (fun N hN => ?_) ?_
  · refine s_if ?_
    kc_close
    have lt : ts.length ≤ 10 := by omega
    refine s_catA hO hF20 (by rw [List.length_map, List.length_map]; exact Nat.le_trans (show ts.length + fs.length ≤ 100 by omega) (by decide)) fun A1 H21 s21 hA1 => ?_
    rw [← List.map_append] at hA1
    have hF21 : IsT K H21 F fs := sqt_same s21 hF20
    kc_close
    intro A2 H22 nA2 s22 eA2
    have hA2 : IsT K H22 A2 [M.inv p a, a ^ kk.toNat % p, M.hv p fs x] := SqT.of eA2
    kc_close
    refine s_catA (sqt_same s22 hA1) hA2 (by rw [List.length_map, List.length_map, List.length_append]; exact Nat.le_trans (show ts.length + fs.length + 3 ≤ 100 by omega) (by decide)) fun A3 H23 s23 hA3 => ?_
    rw [← List.map_append] at hA3
    kc_close
    refine s_itupv hA3 (l_mapT (fun _ => V.bl false) hA3 (by rw [List.length_map, List.length_append, List.length_append]; show ts.length + fs.length + 3 ≤ 100000; omega) ?_ ?_)
    · intro D' N' i y H' e s' k'
      obtain ⟨rfl, _⟩ := item_int e
      kc_close
      refine s_isiI ?_
      exact k' _ (Same.refl _)
    intro B H24 nB s24 eB
    rw [range_all] at eB
    kc_close
    refine s_any (SqL.of eB) ?_
    rw [any_false]
    kc_close
    refine iteF ?_
    kc_close
    refine hN _ _ ⟨rfl, ?_⟩
    ktr_room
  rintro _ H21 ⟨rfl, s21⟩
  have hO21 : IsT K H21 O ts := sqt_same s21 hO
  have hT21 : SqT K H21 T (as.map V.ref) := sqt_same s21 hT20
  -- told
  refine s_seq ?_
  refine s_cut (fun σ' H' => σ' = stL (some (.ref s0)) (some (.ref C)) (some (.int p)) (some (.int a)) (some (.int kk)) (some (.int far)) (some (.ref R)) (some (.ref F)) (some (.ref G)) (some (.int x)) (some (.ref D)) u v (some (.ref Lf)) (some (.ref T)) (some (.ref O)) ∧ Same H21 H') (fun N hN => ?_) ?_
  · refine s_if ?_
    kc_close
    have enf : M.red p ts = ts := by
      rw [← hti]
      exact I.nf
    refine s_neSame (ns := ts) (by ktr_room) (by rw [show ts.map V.int = (M.red p ts).map V.int by rw [enf]]; ktr_room) ?_
    kc_close
    refine iteF ?_
    kc_close
    rw [List.length_map, List.length_map]
    refine ifFalse (decide_eq_false (by omega)) ?_
    kc_close
    refine hN _ _ ⟨rfl, ?_⟩
    ktr_room
  rintro _ H22 ⟨rfl, s22⟩
  have hO22 : IsT K H22 O ts := sqt_same s22 hO21
  have hT22 : SqT K H22 T (as.map V.ref) := sqt_same s22 hT21
  kc_close
  refine s_itupv hT22 (l_mapT (fun _ => V.bl true) hT22 (by rw [List.length_map]; omega) ?_ ?_)
  · intro D' N' i y H' e s' k'
    rw [List.getElem?_map] at e
    cases ea : as[i]? with
    | none =>
      rw [ea] at e
      cases e
    | some b =>
      rw [ea] at e
      have ey : V.ref b = y := Option.some.inj e
      subst ey
      obtain ⟨xy, el, hxy⟩ := paired_get hps20 ea
      have hxy' : SqT K H' b [.int xy.1, .int xy.2] := sqt_same s' (sqt_same s22 (sqt_same s21 hxy))
      have hO' : IsT K H' O ts := sqt_same s' hO22
      have ev : M.hv p ts xy.1 = xy.2 := by
        rw [← hti]
        exact I.val xy (List.mem_of_getElem? el)
      kc_close
      have := k' _ (Same.refl _)
      rw [ev, decide_eq_true rfl]
      exact this
  intro B H23 nB s23 eB
  rw [range_all] at eB
  kc_close
  refine s_all (SqL.of eB) ?_
  rw [all_true]
  exact q _
end
end K1
end
section
open PySem PySem.Spec PyProof.Rows L2 Z
namespace K1
theorem has_mk {K : PySem.W.Frag} {h : Heap} {mg : Str → Option Value} {x : Str} {st : Stmt} {ps : List Str} {f : Addr} {oc : Value} {od an : Option Addr} {osl : Array (Option Value)} {kV doc pm cdv ct : Value} (X : K.In h) (G : h.Ns mainGlobals mg) (a : PySem.W.nsIn K mainGlobals x = some (some (.ref f)))
    (l : K.lookup f = some ⟨oc, od, .func (PySem.W.fnOf x x (defArgs st) (defBody st) (defScope st) .none kV doc pm an cdv ct), osl⟩) (c : PySem.W.codeIn K cdv x = true) (k : PySem.W.keepIn K (.ref f) = true)
    (hb : ∀ (kV doc pm : Value) (an : Option Addr) (cdv ct : Value) (us : List Value), us.length = ps.length → bindArgs (PySem.W.fnOf x x (defArgs st) (defBody st) (defScope st) .none kV doc pm an cdv ct) ⟨us, []⟩ = pure (ps.zip us)) : Z.Has K mg x st ps :=
  ⟨f, _, fun_mk l c k, PySem.W.mg_of X G a, (fun_mk l c k).binds hb⟩
theorem all_mk {l : PySem.W.OpenLaw} {w : World} {K : PySem.W.Frag} {h : Heap} {mg : Str → Option Value} {fa f1 f2 f3 f4 f5 f6 f7 f8 f9 f10 f11 f12 f13 f14 : Addr} (X : K.In h) (G : h.Ns mainGlobals mg) (hfa : mg "law" = some (.ref fa))
    {od1 an1 od2 an2 od3 an3 od4 an4 od5 an5 od6 an6 od7 an7 od8 an8 od9 an9 od10 an10 od11 an11 od12 an12 od13 an13 od14 an14 : Option Addr} {sl1 sl2 sl3 sl4 sl5 sl6 sl7 sl8 sl9 sl10 sl11 sl12 sl13 sl14 : Array (Option Value)} {oc1 kV1 dc1 pm1 cd1 ct1 oc2 kV2 dc2 pm2 cd2 ct2 oc3 kV3 dc3 pm3 cd3 ct3 oc4 kV4 dc4 pm4 cd4 ct4 oc5 kV5 dc5 pm5 cd5 ct5 oc6 kV6 dc6 pm6 cd6 ct6 oc7 kV7 dc7 pm7 cd7 ct7 oc8 kV8 dc8 pm8 cd8 ct8 oc9 kV9 dc9 pm9 cd9 ct9 oc10 kV10 dc10 pm10 cd10 ct10 oc11 kV11 dc11 pm11 cd11 ct11 oc12 kV12 dc12 pm12 cd12 ct12 oc13 kV13 dc13 pm13 cd13 ct13 oc14 kV14 dc14 pm14 cd14 ct14 : Value}
    (a1 : PySem.W.nsIn K mainGlobals "_law_start" = some (some (.ref f1))) (l1 : K.lookup f1 = some ⟨oc1, od1, .func (PySem.W.fnOf "_law_start" "_law_start" (defArgs (topS 10)) (defBody (topS 10)) (defScope (topS 10)) .none kV1 dc1 pm1 an1 cd1 ct1), sl1⟩) (c1 : PySem.W.codeIn K cd1 "_law_start" = true) (k1 : PySem.W.keepIn K (.ref f1) = true)
    (a2 : PySem.W.nsIn K mainGlobals "_law_fill" = some (some (.ref f2))) (l2 : K.lookup f2 = some ⟨oc2, od2, .func (PySem.W.fnOf "_law_fill" "_law_fill" (defArgs (topS 11)) (defBody (topS 11)) (defScope (topS 11)) .none kV2 dc2 pm2 an2 cd2 ct2), sl2⟩) (c2 : PySem.W.codeIn K cd2 "_law_fill" = true) (k2 : PySem.W.keepIn K (.ref f2) = true)
    (a3 : PySem.W.nsIn K mainGlobals "_law_take" = some (some (.ref f3))) (l3 : K.lookup f3 = some ⟨oc3, od3, .func (PySem.W.fnOf "_law_take" "_law_take" (defArgs (topS 12)) (defBody (topS 12)) (defScope (topS 12)) .none kV3 dc3 pm3 an3 cd3 ct3), sl3⟩) (c3 : PySem.W.codeIn K cd3 "_law_take" = true) (k3 : PySem.W.keepIn K (.ref f3) = true)
    (a4 : PySem.W.nsIn K mainGlobals "power" = some (some (.ref f4))) (l4 : K.lookup f4 = some ⟨oc4, od4, .func (PySem.W.fnOf "power" "power" (defArgs (topS 2)) (defBody (topS 2)) (defScope (topS 2)) .none kV4 dc4 pm4 an4 cd4 ct4), sl4⟩) (c4 : PySem.W.codeIn K cd4 "power" = true) (k4 : PySem.W.keepIn K (.ref f4) = true)
    (a5 : PySem.W.nsIn K mainGlobals "_law_power" = some (some (.ref f5))) (l5 : K.lookup f5 = some ⟨oc5, od5, .func (PySem.W.fnOf "_law_power" "_law_power" (defArgs (topS 13)) (defBody (topS 13)) (defScope (topS 13)) .none kV5 dc5 pm5 an5 cd5 ct5), sl5⟩) (c5 : PySem.W.codeIn K cd5 "_law_power" = true) (k5 : PySem.W.keepIn K (.ref f5) = true)
    (a6 : PySem.W.nsIn K mainGlobals "inverse" = some (some (.ref f6))) (l6 : K.lookup f6 = some ⟨oc6, od6, .func (PySem.W.fnOf "inverse" "inverse" (defArgs (topS 1)) (defBody (topS 1)) (defScope (topS 1)) .none kV6 dc6 pm6 an6 cd6 ct6), sl6⟩) (c6 : PySem.W.codeIn K cd6 "inverse" = true) (k6 : PySem.W.keepIn K (.ref f6) = true)
    (a7 : PySem.W.nsIn K mainGlobals "trimmed" = some (some (.ref f7))) (l7 : K.lookup f7 = some ⟨oc7, od7, .func (PySem.W.fnOf "trimmed" "trimmed" (defArgs (topS 4)) (defBody (topS 4)) (defScope (topS 4)) .none kV7 dc7 pm7 an7 cd7 ct7), sl7⟩) (c7 : PySem.W.codeIn K cd7 "trimmed" = true) (k7 : PySem.W.keepIn K (.ref f7) = true)
    (a8 : PySem.W.nsIn K mainGlobals "_law_trimmed" = some (some (.ref f8))) (l8 : K.lookup f8 = some ⟨oc8, od8, .func (PySem.W.fnOf "_law_trimmed" "_law_trimmed" (defArgs (topS 15)) (defBody (topS 15)) (defScope (topS 15)) .none kV8 dc8 pm8 an8 cd8 ct8), sl8⟩) (c8 : PySem.W.codeIn K cd8 "_law_trimmed" = true) (k8 : PySem.W.keepIn K (.ref f8) = true)
    (a9 : PySem.W.nsIn K mainGlobals "value" = some (some (.ref f9))) (l9 : K.lookup f9 = some ⟨oc9, od9, .func (PySem.W.fnOf "value" "value" (defArgs (topS 5)) (defBody (topS 5)) (defScope (topS 5)) .none kV9 dc9 pm9 an9 cd9 ct9), sl9⟩) (c9 : PySem.W.codeIn K cd9 "value" = true) (k9 : PySem.W.keepIn K (.ref f9) = true)
    (a10 : PySem.W.nsIn K mainGlobals "_law_value" = some (some (.ref f10))) (l10 : K.lookup f10 = some ⟨oc10, od10, .func (PySem.W.fnOf "_law_value" "_law_value" (defArgs (topS 14)) (defBody (topS 14)) (defScope (topS 14)) .none kV10 dc10 pm10 an10 cd10 ct10), sl10⟩) (c10 : PySem.W.codeIn K cd10 "_law_value" = true) (k10 : PySem.W.keepIn K (.ref f10) = true)
    (a11 : PySem.W.nsIn K mainGlobals "plus" = some (some (.ref f11))) (l11 : K.lookup f11 = some ⟨oc11, od11, .func (PySem.W.fnOf "plus" "plus" (defArgs (topS 6)) (defBody (topS 6)) (defScope (topS 6)) .none kV11 dc11 pm11 an11 cd11 ct11), sl11⟩) (c11 : PySem.W.codeIn K cd11 "plus" = true) (k11 : PySem.W.keepIn K (.ref f11) = true)
    (a12 : PySem.W.nsIn K mainGlobals "times" = some (some (.ref f12))) (l12 : K.lookup f12 = some ⟨oc12, od12, .func (PySem.W.fnOf "times" "times" (defArgs (topS 7)) (defBody (topS 7)) (defScope (topS 7)) .none kV12 dc12 pm12 an12 cd12 ct12), sl12⟩) (c12 : PySem.W.codeIn K cd12 "times" = true) (k12 : PySem.W.keepIn K (.ref f12) = true)
    (a13 : PySem.W.nsIn K mainGlobals "interpolate" = some (some (.ref f13))) (l13 : K.lookup f13 = some ⟨oc13, od13, .func (PySem.W.fnOf "interpolate" "interpolate" (defArgs (topS 8)) (defBody (topS 8)) (defScope (topS 8)) .none kV13 dc13 pm13 an13 cd13 ct13), sl13⟩) (c13 : PySem.W.codeIn K cd13 "interpolate" = true) (k13 : PySem.W.keepIn K (.ref f13) = true)
    (a14 : PySem.W.nsIn K mainGlobals "law" = some (some (.ref f14))) (l14 : K.lookup f14 = some ⟨oc14, od14, .func (PySem.W.fnOf "law" "law" (defArgs (topS 16)) (defBody (topS 16)) (defScope (topS 16)) .none kV14 dc14 pm14 an14 cd14 ct14), sl14⟩) (c14 : PySem.W.codeIn K cd14 "law" = true) (k14 : PySem.W.keepIn K (.ref f14) = true)
    (z0 : PySem.W.nsIn K mainGlobals "len" = some none)
    (z1 : PySem.W.nsIn K mainGlobals "max" = some none)
    (z2 : PySem.W.nsIn K mainGlobals "sum" = some none)
    (z3 : PySem.W.nsIn K mainGlobals "any" = some none)
    (z4 : PySem.W.nsIn K mainGlobals "all" = some none)
    (z5 : PySem.W.nsIn K mainGlobals "int" = some none)
    (z6 : PySem.W.nsIn K mainGlobals "tuple" = some none)
    (z7 : PySem.W.nsIn K mainGlobals "range" = some none)
    (z8 : PySem.W.nsIn K mainGlobals "enumerate" = some none)
    (z9 : PySem.W.nsIn K mainGlobals "reversed" = some none)
    (z10 : PySem.W.nsIn K mainGlobals "isinstance" = some none)
    (z11 : PySem.W.nsIn K mainGlobals "bool" = some none)
    : ∃ fd : FuncData, (∀ (s : Shared) (v : Value), BindsTo s fd ⟨[v], []⟩ [("script", v)]) ∧ ∀ base : Heap, K.In base → base.Ns mainGlobals mg → FnOk l.prog w K mg base CX0 4 fa fd ["script"] (spLaw K) := by
  have e := hfa.symm.trans (PySem.W.mg_of X G a14)
  cases e
  have T : NoB mg := ⟨PySem.W.mg_none_of X G z0, PySem.W.mg_none_of X G z1, PySem.W.mg_none_of X G z2, PySem.W.mg_none_of X G z3, PySem.W.mg_none_of X G z4, PySem.W.mg_none_of X G z5, PySem.W.mg_none_of X G z6, PySem.W.mg_none_of X G z7, PySem.W.mg_none_of X G z8, PySem.W.mg_none_of X G z9, PySem.W.mg_none_of X G z10, PySem.W.mg_none_of X G z11⟩
  have h__law_start := has_mk (st := topS 10) (ps := ["script"]) X G a1 l1 c1 k1 (fun _ _ _ _ _ _ us hl => match us, hl with | [_], _ => rfl)
  have h__law_fill := has_mk (st := topS 11) (ps := ["c"]) X G a2 l2 c2 k2 (fun _ _ _ _ _ _ us hl => match us, hl with | [_], _ => rfl)
  have h__law_take := has_mk (st := topS 12) (ps := ["c", "many"]) X G a3 l3 c3 k3 (fun _ _ _ _ _ _ us hl => match us, hl with | [_, _], _ => rfl)
  have h_power := has_mk (st := topS 2) (ps := ["p", "a", "k"]) X G a4 l4 c4 k4 (fun _ _ _ _ _ _ us hl => match us, hl with | [_, _, _], _ => rfl)
  have h__law_power := has_mk (st := topS 13) (ps := ["p", "a", "k"]) X G a5 l5 c5 k5 (fun _ _ _ _ _ _ us hl => match us, hl with | [_, _, _], _ => rfl)
  have h_inverse := has_mk (st := topS 1) (ps := ["p", "a"]) X G a6 l6 c6 k6 (fun _ _ _ _ _ _ us hl => match us, hl with | [_, _], _ => rfl)
  have h_trimmed := has_mk (st := topS 4) (ps := ["p", "coefficients"]) X G a7 l7 c7 k7 (fun _ _ _ _ _ _ us hl => match us, hl with | [_, _], _ => rfl)
  have h__law_trimmed := has_mk (st := topS 15) (ps := ["p", "rows"]) X G a8 l8 c8 k8 (fun _ _ _ _ _ _ us hl => match us, hl with | [_, _], _ => rfl)
  have h_value := has_mk (st := topS 5) (ps := ["p", "f", "x"]) X G a9 l9 c9 k9 (fun _ _ _ _ _ _ us hl => match us, hl with | [_, _, _], _ => rfl)
  have h__law_value := has_mk (st := topS 14) (ps := ["p", "f", "x"]) X G a10 l10 c10 k10 (fun _ _ _ _ _ _ us hl => match us, hl with | [_, _, _], _ => rfl)
  have h_plus := has_mk (st := topS 6) (ps := ["p", "f", "g"]) X G a11 l11 c11 k11 (fun _ _ _ _ _ _ us hl => match us, hl with | [_, _, _], _ => rfl)
  have h_times := has_mk (st := topS 7) (ps := ["p", "f", "g"]) X G a12 l12 c12 k12 (fun _ _ _ _ _ _ us hl => match us, hl with | [_, _, _], _ => rfl)
  have h_interpolate := has_mk (st := topS 8) (ps := ["p", "pairs"]) X G a13 l13 c13 k13 (fun _ _ _ _ _ _ us hl => match us, hl with | [_, _], _ => rfl)
  refine ⟨PySem.W.fnOf "law" "law" (defArgs (topS 16)) (defBody (topS 16)) (defScope (topS 16)) .none kV14 dc14 pm14 an14 cd14 ct14, fun s v => .of_eq rfl, fun base _ _ => ?_⟩
  have G__law_start := ok__law_start (P := l.prog) (w := w) (base := base) T h__law_start
  have G__law_fill := ok__law_fill (P := l.prog) (w := w) (base := base) T h__law_fill
  have G__law_take := ok__law_take (P := l.prog) (w := w) (base := base) T h__law_take G__law_fill
  have G_power := ok_power (P := l.prog) (w := w) (base := base) h_power
  have G__law_power := ok__law_power (P := l.prog) (w := w) (base := base) T h__law_power
  have G_inverse := ok_inverse (P := l.prog) (w := w) (base := base) h_inverse G_power
  have G_trimmed := ok_trimmed (P := l.prog) (w := w) (base := base) T h_trimmed
  have G__law_trimmed := ok__law_trimmed (P := l.prog) (w := w) (base := base) T h__law_trimmed
  have G_value := ok_value (P := l.prog) (w := w) (base := base) T h_value
  have G__law_value := ok__law_value (P := l.prog) (w := w) (base := base) T h__law_value
  have G_plus := ok_plus (P := l.prog) (w := w) (base := base) T h_plus G_trimmed
  have G_times := ok_times (P := l.prog) (w := w) (base := base) T h_times G_trimmed
  have G_interpolate := ok_interpolate (P := l.prog) (w := w) (base := base) h_interpolate G_value G_inverse G_plus G_times G_trimmed
  exact ok_law T (fun_mk (st := topS 16) l14 c14 k14) G__law_start G__law_take G_power G__law_power G_inverse G_trimmed G__law_trimmed G_value G__law_value G_plus G_times G_interpolate
end K1
end
open PySem PySem.W PyProof.Rows
set_option maxHeartbeats 0 in
theorem PySem.Challenge.cw_sortes_k01_polynomials_holds : PySem.Challenge.rw_sortes_k01_polynomials.Holds := by
  w_on; o_law; k_head; (case hw => w_witness2)
  k_fill
  refine L2.walk_of (l := PySem.Challenge.rw_sortes_k01_polynomials) (n := 63) (k := 4) (x := "script") (CX := fun _ => L2.CX0) (sp := fun w => K1.spLaw _) rfl (by decide) rfl ⟨rfl, by decide, by decide⟩ (fun w h Y => PySem.W.kIn_of Y) ?F (fun _ _ a ns hl _ hS => ⟨a, rfl, ⟨ns, hS, hl⟩, fun _ => rfl⟩) (fun _ _ _ _ _ h => h)
  case F =>
    intro w mg fa h KX G hmg
    refine' K1.all_mk KX G hmg ?a1 ?l1 ?c1 ?k1 ?a2 ?l2 ?c2 ?k2 ?a3 ?l3 ?c3 ?k3 ?a4 ?l4 ?c4 ?k4 ?a5 ?l5 ?c5 ?k5 ?a6 ?l6 ?c6 ?k6 ?a7 ?l7 ?c7 ?k7 ?a8 ?l8 ?c8 ?k8 ?a9 ?l9 ?c9 ?k9 ?a10 ?l10 ?c10 ?k10 ?a11 ?l11 ?c11 ?k11 ?a12 ?l12 ?c12 ?k12 ?a13 ?l13 ?c13 ?k13 ?a14 ?l14 ?c14 ?k14 ?z0 ?z1 ?z2 ?z3 ?z4 ?z5 ?z6 ?z7 ?z8 ?z9 ?z10 ?z11
    (case a1 => k_is); (case l1 => k_is); (case c1 => k_is); (case k1 => k_is); (case a2 => k_is); (case l2 => k_is); (case c2 => k_is); (case k2 => k_is); (case a3 => k_is); (case l3 => k_is); (case c3 => k_is); (case k3 => k_is); (case a4 => k_is); (case l4 => k_is); (case c4 => k_is); (case k4 => k_is); (case a5 => k_is); (case l5 => k_is); (case c5 => k_is); (case k5 => k_is); (case a6 => k_is); (case l6 => k_is); (case c6 => k_is); (case k6 => k_is); (case a7 => k_is); (case l7 => k_is); (case c7 => k_is); (case k7 => k_is); (case a8 => k_is); (case l8 => k_is); (case c8 => k_is); (case k8 => k_is); (case a9 => k_is); (case l9 => k_is); (case c9 => k_is); (case k9 => k_is); (case a10 => k_is); (case l10 => k_is); (case c10 => k_is); (case k10 => k_is); (case a11 => k_is); (case l11 => k_is); (case c11 => k_is); (case k11 => k_is); (case a12 => k_is); (case l12 => k_is); (case c12 => k_is); (case k12 => k_is); (case a13 => k_is); (case l13 => k_is); (case c13 => k_is); (case k13 => k_is); (case a14 => k_is); (case l14 => k_is); (case c14 => k_is); (case k14 => k_is); (case z0 => k_is); (case z1 => k_is); (case z2 => k_is); (case z3 => k_is); (case z4 => k_is); (case z5 => k_is); (case z6 => k_is); (case z7 => k_is); (case z8 => k_is); (case z9 => k_is); (case z10 => k_is); (case z11 => k_is)
