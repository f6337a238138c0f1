import PyProof.Rows.All
import Wide.All
import OpenK.AllK
import Wide.FinOn
import HandS.ForMost
import HandS.Conv
import HandS.Zip
import HandS.TupAny
import HandS.IsInst
import HandS.SortRule
import HandS.DictTup
import HandS.WrittenGet
import PySem.Challenge.RW_drumlay_k21_texts_that_are_none
import KE.GoesEnum
import KE.GoesMore
import HandS.SetFor
import HandS.ExcIs
import HandS.Lambda
import HandS.Text
import HandS.RaiseMore
import HandS.Star
import PyProof.CollectIter
import KE.KIntText
import KE.IntTextLaws
import HandS.Defaults
import KE.KDflt
import HandS.ExcInit
import HandS.ExcField
import HandS.FStr
import PyProof.FitsInt
import PyProof.StrLaws
import HandS.WordsExc
import HandS.ExcOwn
import PyProof.StrOps2
import HandS.EndOwn
set_option Elab.async false
set_option linter.all false
set_option maxRecDepth 100000
set_option maxHeartbeats 4000000
namespace DL
open PySem L2
abbrev Frg := PySem.W.Frag
/-! ### heaps -/
theorem sz {n : Nat} (h : n ≤ 100000) : n ≤ sizeLine := Nat.le_trans h (by decide)
theorem szl {n : Nat} (h : n < 100000) : n < sizeLine := Nat.lt_of_lt_of_le h (by decide)
def But (d : Addr) (H H' : Hp) : Prop := ∀ a o, a ≠ d → H a = some o → H' a = some o
theorem But.refl (d : Addr) (H : Hp) : But d H H := fun _ _ _ h => h
theorem But.trans {d : Addr} {H H1 H2 : Hp} (a : But d H H1) (b : But d H1 H2) : But d H H2 := fun x o n h => b x o n (a x o n h)
theorem But.of {d : Addr} {H H' : Hp} (a : Same H H') : But d H H' := fun x o _ h => a x o h
abbrev Same1 := @L2.Same
theorem Same.new {H : Hp} {p : Addr} {o : HO} (h : H p = none) : Same H (upd H p o) := fun a u e => by
  rw [upd_ne (ne_of_none e h)]; exact e
theorem Same.mut {H H' : Hp} {p : Addr} {o : HO} (e : Same H H') (h : H p = none) : Same H (upd H' p o) := fun a u ha => by
  rw [upd_ne (ne_of_none ha h)]; exact e a u ha
theorem Same.get {H H' : Hp} (s : Same H H') {a : Addr} {o : HO} (h : H a = some o) : H' a = some o := s a o h
def DiceV (H : Hp) (d sa : Addr) : Prop := ∃ (i m r : Int), H d = some (.lst [.ref sa, .int i, .int m, .int r]) ∧ 0 ≤ i ∧ 0 ≤ m ∧ m < 2147483647
structure Ent (K : Frg) (H : Hp) (d sa : Addr) (ns : List Int) : Prop where
  dice : DiceV H d sa
  scr : SqL K H sa (ns.map V.int)
  len : ns.length ≤ 63
structure Dc (K : Frg) (H0 H : Hp) (d sa : Addr) (ns : List Int) : Prop where
  e0 : Ent K H0 d sa ns
  but : But d H0 H
  dice : DiceV H d sa
variable {K : Frg} {H0 H H' : Hp} {d sa : Addr} {ns : List Int}
theorem But.seq (b : But d H0 H) (dv : DiceV H0 d sa) (h : SqL K H0 sa (ns.map V.int)) : SqL K H sa (ns.map V.int) := by
  obtain ⟨i, m, r, z, _⟩ := dv
  rcases h with (h | ⟨o, h⟩) | h
  · refine .inl (.inl (b _ _ (fun e => ?_) h))
    subst e
    rw [z] at h
    have q : ([.ref sa, .int i, .int m, .int r] : List V) = ns.map V.int := by injection (Option.some.inj h)
    cases ns with
    | nil => cases q
    | cons x xs => have q2 := (List.cons.inj q).1; cases q2
  · refine .inl (.inr ⟨o, b _ _ (fun e => ?_) h⟩)
    subst e
    rw [z] at h; cases h
  · exact .inr h
theorem Dc.refl (e : Ent K H d sa ns) : Dc K H H d sa ns := ⟨e, But.refl _ _, e.dice⟩
theorem Dc.ent (c : Dc K H0 H d sa ns) : Ent K H d sa ns := ⟨c.dice, c.but.seq c.e0.dice c.e0.scr, c.e0.len⟩
theorem Dc.here (c : Dc K H0 H d sa ns) {p : Addr} (h : H p = none) : H0 p = none := by
  cases q : H0 p with
  | none => rfl
  | some o =>
    by_cases e : p = d
    · subst e
      obtain ⟨i, m, r, z, _⟩ := c.dice
      rw [z] at h; cases h
    · rw [c.but p o e q] at h; cases h
theorem Dc.ned (c : Dc K H0 H d sa ns) {p : Addr} (h : H0 p = none) : p ≠ d := fun e => by
  subst e
  obtain ⟨i, m, r, z, _⟩ := c.e0.dice
  rw [z] at h; cases h
theorem Dc.mut (c : Dc K H0 H d sa ns) {p : Addr} {o : HO} (h : H0 p = none) : Dc K H0 (upd H p o) d sa ns := by
  refine ⟨c.e0, fun a u n e => ?_, ?_⟩
  · rw [upd_ne (ne_of_none e h)]; exact c.but a u n e
  · obtain ⟨i, m, r, z, q⟩ := c.dice
    exact ⟨i, m, r, by rw [upd_ne (c.ned h).symm]; exact z, q⟩
theorem Dc.new (c : Dc K H0 H d sa ns) {p : Addr} {o : HO} (h : H p = none) : Dc K H0 (upd H p o) d sa ns := c.mut (c.here h)
theorem Dc.trans (c : Dc K H0 H d sa ns) (c2 : Dc K H H' d sa ns) : Dc K H0 H' d sa ns := ⟨c.e0, c.but.trans c2.but, c2.dice⟩
theorem Dc.same (c : Dc K H0 H d sa ns) (s : Same H H') : Dc K H0 H' d sa ns := by
  obtain ⟨i, m, r, z, q⟩ := c.dice
  exact ⟨c.e0, c.but.trans (But.of s), i, m, r, s _ _ z, q⟩
theorem Dc.roll (c : Dc K H0 H d sa ns) {i m r : Int} (h0 : 0 ≤ i) (h1 : 0 ≤ m) (h2 : m < 2147483647) : Dc K H0 (upd H d (.lst [.ref sa, .int i, .int m, .int r])) d sa ns :=
  ⟨c.e0, fun a u n e => by rw [upd_ne n]; exact c.but a u n e, ⟨i, m, r, upd_same, h0, h1, h2⟩⟩
def Kp (H H' : Hp) : Prop := ∀ a xs, H a = some (.tup xs) → H' a = some (.tup xs)
theorem Kp.refl (H : Hp) : Kp H H := fun _ _ h => h
theorem Kp.trans {H H1 H2 : Hp} (a : Kp H H1) (b : Kp H1 H2) : Kp H H2 := fun x o h => b x o (a x o h)
theorem Kp.same (s : Same H H') : Kp H H' := fun a xs h => s a _ h
theorem Kp.new {p : Addr} {o : HO} (h : H p = none) : Kp H (upd H p o) := Kp.same (Same.new h)
theorem Kp.lst {p : Addr} {o : HO} {ys : List V} (h : H p = some (.lst ys)) : Kp H (upd H p o) := fun a xs e => by
  rw [upd_ne (ne_of e h (by intro z; cases z))]; exact e
theorem Dc.kp (c : Dc K H0 H d sa ns) : Kp H0 H := fun a xs h => c.but a _ (by
  intro e; subst e
  obtain ⟨i, m, r, z, _⟩ := c.e0.dice
  rw [z] at h; cases h) h
@[elab_as_elim] theorem alloc {R : Hp → Prop} {H : Hp} {p : Addr} {o : HO} (hp : H p = none) (k : ∀ H', Same H H' → H' p = some o → R H') : R (upd H p o) := k _ (Same.new hp) upd_same
@[elab_as_elim] theorem change {R : Hp → Prop} {H : Hp} {p : Addr} {o : HO} (k : ∀ H', But p H H' → H' p = some o → R H') : R (upd H p o) := k _ (fun a u n e => by rw [upd_ne n]; exact e) upd_same
/-! ### one list read or written by place -/
theorem at0 {x : V} {xs : List V} : atI (x :: xs) 0 = some x := atI_nat (j := 0) rfl
theorem at1 {x y : V} {xs : List V} : atI (x :: y :: xs) 1 = some y := atI_nat (j := 1) rfl
theorem at2 {x y z : V} {xs : List V} : atI (x :: y :: z :: xs) 2 = some z := atI_nat (j := 2) rfl
theorem at3 {x y z u : V} {xs : List V} : atI (x :: y :: z :: u :: xs) 3 = some u := atI_nat (j := 3) rfl
theorem pg_tupK {X : Cx} {pos : Pos} (K : PySem.W.Frag) (hK : X.K = K) {es : List Expr} {k : Nat} {t : TGs} {n : Nat} (hc : X.calm = true) (h : PGs X es t)
    (hn : (assignEach es X.env).length = n := by rfl) (hst : (assignEach es X.env).findIdx? (·.1) = none := by rfl) : PG X (.Tuple es k pos) (gTup K n t) := hK ▸ pg_tup hc h hn hst
theorem upd_none {H : Hp} {p a : Addr} {o : HO} (h : upd H p o a = none) : H a = none := by
  by_cases e : a = p
  · subst e; rw [upd_same] at h; cases h
  · rwa [upd_ne e] at h
theorem range_elim {lo : Int} {n : Nat} {g : TG} {tb : TS} {D : Ends} {σ : L2.St} {H : Hp} (Pv : Nat → L2.St → Hp → Prop) (R : L2.St → Hp → Prop) (h0 : Pv 0 σ H) (key : ∀ σ H, R σ H → D.nx σ H)
    (hs : ∀ Nx : L2.St → Hp → Prop, (∀ σ H, R σ H → Nx σ H) → ∀ i σ H, i < n → Pv i σ H →
      g (.int (lo + i)) σ H fun σ2 H2 => tb { D with nx := Pv (i + 1), ct := Pv (i + 1), bk := Nx } σ2 H2) (hd : ∀ σ H, Pv n σ H → R σ H) :
    ∃ W : Nat → Nat → L2.St → Hp → Prop, (∃ m, W 0 m σ H) ∧ ∀ i m σ H, W i m σ H →
      ((Itr lo n).stop i H ∧ D.nx σ H) ∨ ((Itr lo n).go i H ∧ ∃ N : L2.St → Hp → Prop, (∀ σ' H', N σ' H' → ∃ m', m' < m ∧ W (i + 1) m' σ' H') ∧
        ∀ x H', (Itr lo n).yld i H x H' → g x σ H' fun σ2 H2 => tb { D with nx := N, ct := N, bk := D.nx } σ2 H2) := for_range Pv h0 (hs D.nx key) fun σ H h => key _ _ (hd _ _ h)
end DL
namespace DLR
open PySem PySem.Spec PyProof.Rows L2
/-! ### enumerate(a tuple) -/
def itO (a : Addr) : Obj := { cls := .type "tuple_iterator", data := .fields #[.ref a, .int 0 0] }
def enO (i : Addr) : Obj := { cls := .type "enumerate", data := .fields #[.none, .bool false, .ref i, rawInt 0, .none, .none] }
theorem made_enumT (a : Addr) (items : Array Value) :
    Meets (Builtin.«enumerate.__new__» ⟨[.type "enumerate", .ref a], []⟩) (fun _ R s => s.heap.IsTuple a items ∧
      R (.ok (.ret (.ref (s.heap.push (itO a)).objs.size))) { s with heap := (s.heap.push (itO a)).push (enO s.heap.objs.size) }) := by
  refine .of_wp fun prog w A R s h => ?_
  obtain ⟨hp, g, d, tk, os⟩ := s
  obtain ⟨h1, h⟩ := h
  have hs2 := sub_enumerate
  have it1 : ∀ {A' : Around} {E : Value → Shared → Prop} {Q : Value → Shared → Prop}, Q (.ref hp.objs.size) ⟨hp.push (itO a), g, d, tk, os⟩ →
      wpAny (model prog w) A' (pyIter (.ref a)) Q E ⟨hp, g, d, tk, os⟩ := fun q => (begins_tuple a items).iter prog w _ _ ⟨hp, g, d, tk, os⟩ _ h1 q
  wp_walk using it1
  refine wpAny_stack_any fun st => wpAny_pure ?_
  split
  · rename_i c _ _ _ _ _
    cases (c == Value.type "enumerate") <;> (wp_walk using it1; exact ⟨_, rfl, h⟩)
  · wp_walk using it1
    exact ⟨_, rfl, h⟩
section
variable {prog : Program} {w : World} {A : Around} {E : Value → Shared → Prop} {s : Shared}
theorem call_enumT {a : Addr} {items : Array Value} {Q : Value → Shared → Prop} (hT : s.heap.IsTuple a items)
    (h : ∀ h', IsEnum h' (s.heap.objs.size + 1) s.heap.objs.size 0 .none → h'.IsTupleIter s.heap.objs.size a 0 → (∀ b o, s.heap.get? b = some o → h'.get? b = some o) →
      Q (.ref (s.heap.objs.size + 1)) { s with heap := h' }) : wpAny (model prog w) A (call (.type "enumerate") [.ref a]) Q E s := by
  refine callType_new F.called_enumerate (by decide) (F.typeCall_enumerate_1 _) (F.newCall_enumerate_1 _)
    (fun obj => F.args_object_init_2 obj _) F.entry_enumerate_new (made_enumT a items) ⟨hT, ?_⟩
  have hz : (s.heap.push (itO a)).objs.size = s.heap.objs.size + 1 := Heap.size_push ..
  show _ ∧ _
  rw [hz]
  have he : IsEnum ((s.heap.push (itO a)).push (enO s.heap.objs.size)) (s.heap.objs.size + 1) s.heap.objs.size 0 .none := by
    have q := Heap.get?_push_size (s.heap.push (itO a)) (o := enO s.heap.objs.size) rfl
    rw [hz] at q
    exact q
  exact ⟨⟨_, he, rfl⟩, h _ he ⟨_, Heap.get?_push_of_some _ (Heap.get?_push_size _ rfl), rfl, rfl⟩
    fun b o x => Heap.get?_push_of_some _ (Heap.get?_push_of_some _ x)⟩
end
def IteT (K : PySem.W.Frag) (a : Addr) : It :=
  ⟨fun i H => ∃ (xs : List V) (x : V), SqT K H a xs ∧ xs[i]? = some x,
   fun i H v H' => ∃ T x, v = .ref T ∧ H T = none ∧ H' = upd H T (.tup [.int (i : Nat), x]) ∧ ∀ xs, SqT K H a xs → xs[i]? = some x,
   fun i H => ∃ xs : List V, SqT K H a xs ∧ xs.length ≤ i⟩
theorem turn_enumT {P : Program} {w : World} {K : PySem.W.Frag} {elts : List Expr} {kk : Nat} {tpos : Pos} (a e it : Addr) :
    Turn P w K (.Tuple elts kk tpos) (IteT K a) [e, it] e (fun i h => (∃ old, IsEnum h e it ((i : Nat) : Int) old) ∧ h.IsTupleIter it a i ∧ e ≠ it ∧ a ≠ e ∧ a ≠ it) where
  mem := by simp
  obj := fun i h st b hb => by
    obtain ⟨⟨old, he⟩, ⟨o, ho, hc, hd⟩, _⟩ := st
    rcases (show b = e ∨ b = it by simpa using hb) with z | z
    · rw [z]; exact ⟨_, he, fun v q => nomatch q⟩
    · rw [z]; exact ⟨o, ho, fun v q => by rw [hd] at q; cases q⟩
  keep := fun i h h' st k => let ⟨⟨old, he⟩, hi, z⟩ := st; ⟨⟨old, k e (by simp) _ he⟩, hi.at fun o q => k it (by simp) o q, z⟩
  item := by
    intro X hP hw hK hc i pins s σ H E I hf st hg
    subst hP hw hK
    obtain ⟨⟨old, he⟩, hit, hne, hae, hai⟩ := st
    obtain ⟨xs, x, hq, hx⟩ := hg
    obtain ⟨its, rv, p, hz⟩ := I.tuple hq
    obtain ⟨u, hu, ru⟩ := rv.get hx
    have hel : e < s.heap.objs.size := Heap.lt_size he
    have hil : it < s.heap.objs.size := by obtain ⟨_, q, _⟩ := hit; exact Heap.lt_size q
    have hlt : i < its.toArray.size := by
      have q := (List.getElem?_eq_some_iff.mp hu).1
      simpa using q
    refine wpAny_pyNext_enum_itemD (Draws.tuple (A := X.A.in1) (I.ok.hd hc) it a hai its.toArray) he ⟨hit, p⟩ hlt hne
      (by simp [hne, Ne.symm hae]) fun v h' tk hv ho hst' hT hsz hk => ?_
    have ev : v = u := by
      have q : its[i]? = some v := by simpa using hv
      rw [hu] at q
      exact (Option.some.inj q).symm
    subst ev
    refine ⟨_, rfl, wpAny_letOwnedTupleGo_enum (s := { s with heap := h', toks := tk + 1 }) ho fun h'' he' sb => ?_⟩
    have hT2 := (sb.2 _ (Nat.ne_of_gt hel)).trans hT
    have new : ObjOk X.prog X.w (upd H s.heap.objs.size (.tup [.int (i : Nat), x])) h'' s.heap.objs.size (.tup [.int (i : Nat), x]) :=
      ⟨by show 2 ≤ sizeLine; decide, [.int i tk, v], .cons ⟨_, rfl⟩ (.cons ru .nil), ⟨_, hT2, rfl, _, rfl⟩⟩
    have I1 : Inv X pins σ (upd H s.heap.objs.size (.tup [.int (i : Nat), x])) { s with heap := h'', toks := tk + 1 } :=
      I.turnedNew (ch := [e, it]) (fun b ob hb q =>
        (sb.2 b (fun z => hb (by simp [z]))).trans (hk b ob (fun z => hb (by simp [z])) (fun z => hb (by simp [z])) q)) hf (Nat.le_refl _) new
    refine ⟨.ref s.heap.objs.size, _, I1, rfl, ⟨_, x, rfl, I.hok.fresh (Nat.le_refl _), rfl, fun ys hy => by rw [I.tuple_inj hy hq]; exact hx⟩,
      ⟨⟨v, ?_⟩, hst'.1.at fun o q => (sb.2 it (Ne.symm hne)).trans q, hne, hae, hai⟩, fun b hb => ?_⟩
    · rw [show ((i + 1 : Nat) : Int) = (i : Int) + 1 by omega]
      exact he'
    · have hb' : b < s.heap.objs.size := by
        rcases (show b = e ∨ b = it by simpa using hb) with z | z
        · rw [z]; exact hel
        · rw [z]; exact hil
      rw [upd_ne (Nat.ne_of_lt hb')]
      exact (hf b hb).1
  done := by
    intro X hP hw hK hc i pins s σ H E I hf st hg
    subst hP hw hK
    obtain ⟨⟨old, he⟩, hit, hne, hae, hai⟩ := st
    obtain ⟨xs, hq, hx⟩ := hg
    obtain ⟨its, rv, p, hz⟩ := I.tuple hq
    obtain ⟨f0, f1, f2, f3, f4, f5⟩ := hf it (by simp)
    have hl := rv.length
    have hnone : its.toArray[i]? = none := by simp; omega
    have D : Draws X.prog X.w X.A.in1 it [it, a] 0 (fun _ _ => False) (fun _ h => h.IsTupleIter it a i ∧ h.IsTuple a its.toArray) :=
      { live := fun _ _ st => let ⟨o, ho, _⟩ := st.1; ⟨o, ho⟩
        frame := fun _ _ _ st hk => ⟨st.1.at fun o e => hk it (by simp) o e, st.2.at fun o e => hk a (by simp) o e⟩
        item := fun i s Q E hi => absurd hi (Nat.not_lt_zero _)
        done := fun s Q E st hE => wpAny_nextOf_tuple_end (I.ok.hd hc) st.1 st.2 hnone hE }
    exact wpAny_pyNext_enum_endD D he ⟨hit, p⟩ fun h' eb => ⟨rfl, I.turned (t' := s.toks) (fun b o hb q => eb b o hb q) f0 f1 f3 f4 f5⟩
  self := fun A i s Q E st h => let ⟨⟨_, he⟩, _⟩ := st; wpAny_pyIter_enum he h
def iEnumT (K : PySem.W.Frag) (ta : TA) : TI := fun σ H R => ta σ H fun vs H1 => ∃ a xs, vs = [.ref a] ∧ SqT K H1 a xs ∧ R (IteT K a) H1
theorem pi_enumT {X : Cx} {e : Expr} {ta : TA} {p pos tpos : Pos} {elts : List Expr} {kk : Nat} (hg : Gl X "enumerate") (hm : X.mg "enumerate" = none) (ha : PA X [e] ta)
    (hs : starEach [e] X.env = [(false, eval e X.env)] := by rfl) : PI X (.Tuple elts kk tpos) (.Call (.Name "enumerate" p) [e] [] pos) (iEnumT X.K ta) := by
  refine ⟨fun pins s σ H R I h => ?_⟩
  refine Call_ (ld_blt I hg hm boot_enumerate (PyProof.Rows.callWith_type1 (thn (ha.run pos pins s σ H _ I h) fun us s1 ⟨vs, H1, I1, r1, q1⟩ => ?_) hs rfl))
  obtain ⟨a, xs, ex, hq, q⟩ := q1
  subst ex
  cases r1 with
  | cons r rr =>
    cases rr
    cases r
    obtain ⟨its, rv, p', hz⟩ := I1.tuple hq
    have hal : a < s1.heap.objs.size := by obtain ⟨o, q, _⟩ := p'; exact Heap.lt_size q
    refine call_enumT p' fun h' he hit hk => wpAny_pyIter_enum he ?_
    have I2 : Inv X pins σ H1 { s1 with heap := h' } := I1.kept (t' := s1.toks) hk
    refine ⟨s1.heap.objs.size + 1, [s1.heap.objs.size + 1, s1.heap.objs.size], _, _, H1, rfl, I2, turn_enumT a (s1.heap.objs.size + 1) s1.heap.objs.size,
      ⟨⟨.none, he⟩, hit, Nat.succ_ne_self _, Nat.ne_of_lt (Nat.lt_succ_of_lt hal), Nat.ne_of_lt hal⟩, fun b hb => ?_, q⟩
    have hle : s1.heap.objs.size ≤ b := by
      rcases (show b = s1.heap.objs.size + 1 ∨ b = s1.heap.objs.size by simpa using hb) with z | z
      · rw [z]; exact Nat.le_succ _
      · rw [z]; exact Nat.le_refl _
    exact I1.fpOk hle (I1.hok.fresh hle)
theorem for_enumT {K : PySem.W.Frag} {a : Addr} {xs : List V} {g : TG} {tb : TS} {D : Ends} {σ : L2.St} {H : Hp} (Pv : Nat → L2.St → Hp → Prop) (h0 : Pv 0 σ H) (hq : ∀ i σ H, Pv i σ H → SqT K H a xs)
    (hs : ∀ i x T σ H, xs[i]? = some x → Pv i σ H → H T = none → g (.ref T) σ (upd H T (.tup [.int (i : Nat), x])) fun σ2 H2 => tb { D with nx := Pv (i + 1), ct := Pv (i + 1), bk := D.nx } σ2 H2)
    (hd : ∀ σ H, Pv xs.length σ H → D.nx σ H) :
    ∃ W : Nat → Nat → L2.St → Hp → Prop, (∃ m, W 0 m σ H) ∧ ∀ i m σ H, W i m σ H →
      ((IteT K a).stop i H ∧ D.nx σ H) ∨ ((IteT K a).go i H ∧ ∃ N : L2.St → Hp → Prop, (∀ σ' H', N σ' H' → ∃ m', m' < m ∧ W (i + 1) m' σ' H') ∧ ∀ x H', (IteT K a).yld i H x H' → g x σ H' fun σ2 H2 => tb { D with nx := N, ct := N, bk := D.nx } σ2 H2) := by
  refine ⟨fun i m σ H => m = xs.length - i ∧ i ≤ xs.length ∧ Pv i σ H, ⟨xs.length, rfl, Nat.zero_le _, h0⟩, ?_⟩
  rintro i m σ H ⟨rfl, hi, p⟩
  have qx := hq i σ H p
  by_cases hlt : i < xs.length
  · refine .inr ⟨⟨xs, _, qx, List.getElem?_eq_getElem hlt⟩, Pv (i + 1), fun σ' H' p' => ⟨_, by omega, rfl, hlt, p'⟩, fun v H' y => ?_⟩
    obtain ⟨T, x', rfl, hT, rfl, f1⟩ := y
    exact hs i x' T σ H (f1 xs qx) p hT
  · have e : i = xs.length := by omega
    subst e
    exact .inl ⟨⟨xs, qx, Nat.le_refl _⟩, hd σ H p⟩
/-! ### slices and sums of tuples, told by what holds behind -/
theorem cut_whole {xs : List V} {lo hi : Option Int} (h : HT.sIx xs.length 0 lo = 0 ∧ HT.sIx xs.length xs.length hi = xs.length) : cutV xs lo hi = xs := by
  unfold cutV
  rw [h.1, h.2, List.drop_zero, Nat.sub_zero, List.take_length]
def rSlS : V → Option Int → Option Int → Hp → VK → Prop := fun x lo hi H Q => ∃ a xs, x = .ref a ∧ H a = some (.tup xs) ∧
  ∀ t H', DL.Same1 H H' → H' t = some (.tup (cutV xs lo hi)) → Q (.ref t) H'
theorem sl_tupS {X : Cx} : SlR X rSlS := by
  intro pins s σ H x v vl vu lo hi sl Q I rx hs pl pu h
  obtain ⟨a, xs, rfl, ha, q⟩ := h
  exact sl_tupA pins s σ H _ v vl vu lo hi sl Q I rx hs pl pu ⟨a, xs, rfl, SqT.of ha, fun w => q a H (Same.refl _) (by rw [cut_whole w]; exact ha),
    fun _ p hp => q p _ (DL.Same.new hp) upd_same⟩
def rCatS : R2 := fun x y H Q => ∃ a b xs ys, x = .ref a ∧ y = .ref b ∧ H a = some (.tup xs) ∧ H b = some (.tup ys) ∧ xs.length + ys.length ≤ sizeLine ∧
  ∀ t H', DL.Same1 H H' → H' t = some (.tup (xs ++ ys)) → Q (.ref t) H'
theorem op_catS {X : Cx} : OpR X (binaryOp .Add) rCatS := by
  intro pins s σ H x y v u Q I rx ry h
  obtain ⟨a, b, xs, ys, rfl, rfl, ha, hb, hz, q⟩ := h
  refine op_catA pins s σ H _ _ v u Q I rx ry ⟨a, b, xs, ys, rfl, rfl, SqT.of ha, SqT.of hb, hz, fun e => q b H (Same.refl _) ?_, fun _ e => q a H (Same.refl _) ?_, fun _ _ p hp => q p _ (DL.Same.new hp) upd_same⟩
  · rw [e]; exact hb
  · rw [e, List.append_nil]; exact ha
/-! ### a method's call within a comprehension's block -/
theorem pe_bmK {X : Cx} {o e : Expr} {es : List Expr} {to : TE} {t : TA} {name : Str} {apos cpos : Pos} {T id : String} {r : V → List V → Hp → VK → Prop} (K0 : PySem.W.Frag) (hK : X.K = K0)
    (pa : PlainAttrs T) (slot : Slot T name id) (hty : typeOf (.builtin id) = pure (.type "method_descriptor")) (hm : MtR X id r) (ho : PE X o to) (ha : PA X (e :: es) t)
    (hbase : attributeBase o name X.env (eval o X.env) = eval o X.env := by rfl)
    (hfew : ((backTo cpos (starEach (e :: es) X.env)).all (fun x => !x.1) && (backToKw cpos (keywordEach [] X.env)).all (fun x => x.1.isSome)
      && decide ((e :: es).length + ([] : List Keyword).length + (if ([] : List Keyword).isEmpty then 0 else 1) < 30)) = true := by rfl)
    (hline : (apos.endLine == cpos.line) = true := by rfl)
    (hs : starEach (e :: es) X.env = (false, eval e X.env) :: starEach es X.env := by rfl) (hplain : (backTo cpos (starEach es X.env)).any (·.1) = false := by rfl) :
    PE X (.Call (.Attribute o name apos) (e :: es) [] cpos) (tBM K0 T r to t) := hK ▸ pe_bm pa slot hty hm ho ha hbase hfew hline hs hplain
theorem mt_indexK {X : Cx} (K0 : PySem.W.Frag) (hK : X.K = K0) : MtR X "list.index" (rIndex K0) := hK ▸ mt_index
def rLenK (K : PySem.W.Frag) : List V → Hp → VK → Prop := fun xs H Q => ∃ p ys, xs = [V.ref p] ∧ (SqL K H p ys ∨ SqT K H p ys) ∧ Q (.int ys.length) H
theorem call_lenK {X : Cx} (K0 : PySem.W.Frag) (hK : X.K = K0) : CallR X (.builtin "len") (rLenK K0) := hK ▸ call_len_seq
theorem ix_tupK {X : Cx} (K0 : PySem.W.Frag) (hK : X.K = K0) : IxR X (rIxT K0) := hK ▸ ix_tup
theorem ix_listK {X : Cx} (K0 : PySem.W.Frag) (hK : X.K = K0) : IxR X (rIxL K0) := hK ▸ ix_list
theorem ix_seqK {X : Cx} (K0 : PySem.W.Frag) (hK : X.K = K0) : IxR X (rIx K0) := hK ▸ ix_seq
theorem op_catTK {X : Cx} (K0 : PySem.W.Frag) (hK : X.K = K0) : OpR X (binaryOp .Add) (rCatT K0) := hK ▸ op_catT
theorem call_isiK2 {X : Cx} (K0 : PySem.W.Frag) (hK : X.K = K0) : CallR X (.builtin "isinstance") (rIsi K0) := hK ▸ call_isi
/-! ### xs[i] op= e of a list -/
def rGetL (K : PySem.W.Frag) : V → V → Hp → VK → Prop := fun x y H Q => ∃ (p : Addr) (xs : List V) (j : Nat) (v : V), x = .ref p ∧ y = .int (j : Int) ∧ SqL K H p xs ∧ xs[j]? = some v ∧ Q v H
theorem get_list {X : Cx} : PGet X (rGetL X.K) := by
  intro pins s σ H o i ov iv Q I ro ri h
  obtain ⟨p, xs, j, v, rfl, rfl, hq, he, q⟩ := h
  cases ro
  obtain ⟨t, rfl⟩ := ri
  obtain ⟨its, r, pl, hz⟩ := I.list hq
  obtain ⟨u, hu, ru⟩ := r.get he
  have hj := (List.getElem?_eq_some_iff.mp he).1
  have hn := line63
  exact wpAny_getItem_list pl.isList (by omega) (by omega) (x := u) (by simpa using hu) ⟨v, H, I, ru, q⟩
end DLR
namespace DL
open PySem L2
def top (i : Nat) : Stmt := PySem.Challenge.pw_drumlay_k21_texts_that_are_none.main.body.getD i (.Pass ⟨0, 0, 0, 0⟩)
structure Bt (mg : Str → Option Value) : Prop where
  len : mg "len" = none
  int : mg "int" = none
  range : mg "range" = none
  isinstance : mg "isinstance" = none
  tuple : mg "tuple" = none
  list : mg "list" = none
  sorted : mg "sorted" = none
  sum : mg "sum" = none
  max : mg "max" = none
  enumerate : mg "enumerate" = none
  zip : mg "zip" = none
  all : mg "all" = none
  bool : mg "bool" = none
  str : mg "str" = none
abbrev sDice : Stmt := top 31
abbrev sNext : Stmt := top 32
def spDice (K : Frg) : Sp := fun vs H Q _ => ∃ (sa : Addr) (ns : List Int), vs = [.ref sa] ∧ SqL K H sa (ns.map V.int) ∧ ns.length ≤ 63 ∧
  ∀ p H', Same H H' → H p = none → Ent K H' p sa ns → Q (.ref p) H'
def spNext (K : Frg) : Sp := fun vs H Q _ => ∃ (d sa : Addr) (ns : List Int) (many : Int), vs = [.ref d, .int many] ∧ Ent K H d sa ns ∧ 0 < many ∧ many < 1073741824 ∧
  ∀ n H', 0 ≤ n → n < many → Dc K H H' d sa ns → Q (.int n) H'
section
variable {P : Program} {w : World} {K : PySem.W.Frag} {mg : Str → Option Value} {base : Heap}
theorem scDice : FnScope ["_law_script", "_law_mixed_here", "_law_cell"] ["_law_script"] (defScope sDice) := ⟨rfl, rfl, rfl, by decide +kernel, rfl, by decide +kernel, by decide +kernel⟩
theorem ok_dice {f : Addr} {fd : FuncData} (F : Fun K "_law_dice" "_law_dice" sDice f fd) (T : Bt mg) : FnOk P w K mg base CX0 1 f fd ["_law_script"] (spDice K) := by
  refine F.ok scDice (fun vs H Q E h => ?_) (fun cdv A outer s H vs Q E hr h => ?_)
  · obtain ⟨sa, ns, rfl, _⟩ := h
    rfl
  · obtain ⟨sa, ns, rfl, hS, hlen, k⟩ := h
    refine ⟨_, pss_cons (ps_set (i := 1) scDice.nd rfl (Or.inl rfl) pe_int)
      (pss_cons (ps_for PassesOwn.never rfl (pi_list (pv 0)) (pg_name (i := 2) scDice.nd rfl (Or.inl rfl))
        (pss_one (ps_set (i := 1) scDice.nd rfl (Or.inl rfl) (pe_op op_mod (pe_op op_add (pe_op op_add (pe_op op_mul (pv 1) pe_int) (pe_op op_mul (pe_op op_mod (pv 2) pe_int) pe_int)) pe_int) pe_int))))
      (pss_one (ps_ret (pe_lst (pa_cons (pv 0) (pa_cons pe_int (pa_cons (pe_op op_mul (pv 1) (pe_callTy call_int1 (by rfl) T.int (by decide +kernel)
        (pa_cons (pe_cmpR op_gt (pe_callB call_len_seq (by rfl) T.len PySem.boot_len (pa_cons (pv 0) pa_nil)) pe_int (nomark _)) pa_nil))) (pa_cons pe_int pa_nil)))))))), ?_⟩
    refine ⟨_, rfl, sa, rfl, ⟨_, hS⟩, for_list (K := K) (a := sa) (xs := ns.map V.int) (fun i σ H' => ∃ (m : Int) (v : Option V), σ = [some (.ref sa), some (.int m), v] ∧ H' = H ∧ 0 ≤ m ∧ m < 2147483647)
      ⟨0, none, rfl, rfl, by decide, by decide⟩ (fun i σ H' _ ⟨_, _, _, e, _⟩ => by rw [e]; exact hS) ?_ ?_⟩
    · rintro i y σ H' hi ⟨m, v, rfl, rfl, h0, h1⟩
      obtain ⟨u, rfl⟩ : ∃ u, y = V.int u := by
        rw [List.getElem?_map] at hi
        cases e : ns[i]? with
        | none => rw [e] at hi; cases hi
        | some u => rw [e] at hi; exact ⟨u, (Option.some.inj hi).symm⟩
      refine ⟨_, rfl, _, _, rfl, rfl, .inl ⟨by omega, by omega⟩, _, rfl, _, _, rfl, rfl, (by show (0 : Int) < 2147483647; decide), _, _, rfl, rfl, .inl ⟨by omega, by omega⟩, _, _, rfl, rfl, _, _, rfl, rfl, _, _, rfl, rfl, (by show (0 : Int) < 2147483647; decide), ?_⟩
      exact ⟨_, _, rfl, rfl, Int.emod_nonneg _ (by decide), Int.emod_lt_of_pos _ (by decide)⟩
    · rintro σ H' ⟨m, v, rfl, rfl, h0, h1⟩
      refine ⟨_, rfl, _, rfl, _, rfl, sa, _, rfl, .inl hS, _, _, rfl, rfl, .inr ⟨_, rfl, ?_⟩⟩
      refine ⟨_, _, rfl, rfl, .inl ⟨by omega, by omega⟩, (by show 4 ≤ sizeLine; decide), fun p hp => ?_⟩
      have hns : (List.map V.int ns).length = ns.length := List.length_map _
      exact k p _ (Same.new hp) hp ⟨⟨_, _, _, upd_same, by decide, by split <;> omega, by split <;> omega⟩, (Same.new hp).seq hS, hlen⟩
theorem scNext : FnScope ["_law_dice_here", "_law_many", "_law_found", "_law_cell"] ["_law_dice_here", "_law_many"] (defScope sNext) := ⟨rfl, rfl, rfl, by decide +kernel, rfl, by decide +kernel, by decide +kernel⟩
theorem ok_next {f : Addr} {fd : FuncData} (F : Fun K "_law_next" "_law_next" sNext f fd) (T : Bt mg) : FnOk P w K mg base CX0 1 f fd ["_law_dice_here", "_law_many"] (spNext K) := by
  refine F.ok scNext (fun vs H Q E h => ?_) (fun cdv A outer s H vs Q E hr h => ?_)
  · obtain ⟨d, sa, ns, many, rfl, _⟩ := h
    rfl
  · obtain ⟨d, sa, ns, many, rfl, hE, hm0, hm1, k⟩ := h
    obtain ⟨⟨i, m, r, hd, hi0, hmx, hmy⟩, hS, hlen⟩ := id hE
    have C0 := Dc.refl hE
    refine ⟨_, pss_cons (ps_if (pt_cmpR op_gt (pe_ix ix_list (pv 0) pe_int (fun _ _ => rfl)) pe_int (nomark _))
        (pss_cons (ps_set (i := 2) scNext.nd rfl (Or.inl rfl) (pe_op op_mod (pe_ix ix_list (pv 0) pe_int (fun _ _ => rfl)) (pv 1)))
        (pss_cons (ps_asg (pe_op op_fdiv (pe_ix ix_list (pv 0) pe_int (fun _ _ => rfl)) (pv 1)) (pg_sub (pv 0) pe_int set_list))
        (pss_one (ps_ret (pv 2))))) pss_nil)
      (pss_cons (ps_asg (pe_op op_add (pe_ix ix_list (pv 0) pe_int (fun _ _ => rfl)) pe_int) (pg_sub (pv 0) pe_int set_list))
      (pss_cons (ps_if (pt_cmpR op_le (pe_ix ix_list (pv 0) pe_int (fun _ _ => rfl)) (pe_callB call_len_seq (by rfl) T.len PySem.boot_len (pa_cons (pe_ix ix_list (pv 0) pe_int (fun _ _ => rfl)) pa_nil)) (nomark _))
        (pss_cons (ps_set (i := 3) scNext.nd rfl (Or.inl rfl) (pe_ix ix_list (pe_ix ix_list (pv 0) pe_int (fun _ _ => rfl)) (pe_op op_sub (pe_ix ix_list (pv 0) pe_int (fun _ _ => rfl)) pe_int) (fun _ _ => rfl)))
        (pss_cons (ps_asg (pe_ifExp (pt_cmpR op_ge (pv 3) (pe_op op_pow pe_int pe_int) (nomark _)) (pe_op op_fdiv (pv 3) (pv 1)) pe_int) (pg_sub (pv 0) pe_int set_list))
        (pss_one (ps_ret (pe_op op_mod (pv 3) (pv 1)))))) pss_nil)
      (pss_cons (ps_asg (pe_op op_mod (pe_op op_mul (pe_ix ix_list (pv 0) pe_int (fun _ _ => rfl)) pe_int) pe_int) (pg_sub (pv 0) pe_int set_list))
      (pss_one (ps_ret (pe_op op_mod (pe_op op_fdiv (pe_ix ix_list (pv 0) pe_int (fun _ _ => rfl)) pe_int) (pv 1))))))), ?_⟩
    refine ⟨_, rfl, d, _, _, _, rfl, rfl, SqL.of hd, at3, _, _, rfl, rfl, _, rfl, ite2 (fun c => ?_) (fun c => ?_)⟩
    · refine ⟨_, rfl, d, _, _, _, rfl, rfl, SqL.of hd, at3, _, rfl, _, _, rfl, rfl, hm0, ?_⟩
      refine ⟨_, rfl, d, _, _, _, rfl, rfl, SqL.of hd, at3, _, rfl, _, _, rfl, rfl, ⟨hm0, hm1⟩, _, rfl, d, _, _, 3, rfl, rfl, hd, rfl, ?_⟩
      exact ⟨_, rfl, k _ _ (Int.emod_nonneg _ (by omega)) (Int.emod_lt_of_pos _ hm0) (C0.roll hi0 hmx hmy)⟩
    · refine ⟨_, rfl, d, _, _, _, rfl, rfl, SqL.of hd, at1, _, _, rfl, rfl, _, rfl, d, _, _, 1, rfl, rfl, hd, rfl, ?_⟩
      have C1 : Dc K H (upd H d (.lst [.ref sa, .int (i + 1), .int m, .int r])) d sa ns := C0.roll (by omega) hmx hmy
      have h1 : (upd H d (.lst [.ref sa, .int (i + 1), .int m, .int r])) d = some (.lst [.ref sa, .int (i + 1), .int m, .int r]) := upd_same
      have hS1 := C1.ent.scr
      revert C1 h1 hS1
      show _ → _ → _ → _
      generalize hH1 : (upd H d (.lst [.ref sa, .int (i + 1), .int m, .int r])) = H1
      intro C1 h1 hS1
      have hH1' : upd H d (.lst (List.set [V.ref sa, .int i, .int m, .int r] 1 (.int (i + 1)))) = H1 := hH1
      rw [hH1']
      refine ⟨_, rfl, d, _, _, _, rfl, rfl, SqL.of h1, at1, _, rfl, d, _, _, _, rfl, rfl, SqL.of h1, at0, sa, _, rfl, .inl hS1, _, _, rfl, rfl, _, rfl, ite2 (fun c => ?_) (fun c => ?_)⟩
      · have c : i + 1 ≤ ((ns.map V.int).length : Int) := of_decide_eq_true c
        rw [List.length_map] at c
        obtain ⟨j, hj⟩ : ∃ j : Nat, i = (j : Int) := ⟨i.toNat, by omega⟩
        have hjl : j < ns.length := by omega
        have hat : atI (ns.map V.int) (i + 1 - 1) = some (.int ns[j]) := by
          have e : i + 1 - 1 = (j : Int) := by omega
          rw [e]
          refine atI_nat ?_
          rw [List.getElem?_map, List.getElem?_eq_getElem hjl]
          rfl
        refine ⟨_, rfl, d, _, _, _, rfl, rfl, SqL.of h1, at0, _, rfl, d, _, _, _, rfl, rfl, SqL.of h1, at1, _, _, rfl, rfl, sa, _, _, _, rfl, rfl, hS1, hat, ?_⟩
        refine ⟨_, rfl, _, _, rfl, rfl, ⟨by decide, by decide, by decide⟩, _, _, rfl, rfl, _, rfl, ite2 (fun c2 => ?_) (fun c2 => ?_)⟩
        · refine ⟨_, rfl, _, rfl, _, _, rfl, rfl, ⟨hm0, hm1⟩, _, rfl, d, _, _, 3, rfl, rfl, h1, rfl, ?_⟩
          exact ⟨_, rfl, _, rfl, _, _, rfl, rfl, hm0, k _ _ (Int.emod_nonneg _ (by omega)) (Int.emod_lt_of_pos _ hm0) (C1.roll (by omega) hmx hmy)⟩
        · refine ⟨_, rfl, d, _, _, 3, rfl, rfl, h1, rfl, ?_⟩
          exact ⟨_, rfl, _, rfl, _, _, rfl, rfl, hm0, k _ _ (Int.emod_nonneg _ (by omega)) (Int.emod_lt_of_pos _ hm0) (C1.roll (by omega) hmx hmy)⟩
      · refine ⟨_, rfl, d, _, _, _, rfl, rfl, SqL.of h1, at2, _, _, rfl, rfl, .inl ⟨by omega, by omega⟩, _, _, rfl, rfl, (by show (0 : Int) < 2147483647; decide), _, rfl, d, _, _, 2, rfl, rfl, h1, rfl, ?_⟩
        refine ⟨_, rfl, d, _, _, _, rfl, rfl, SqL.of upd_same, at2, _, _, rfl, rfl, ⟨by decide, by decide⟩, _, rfl, _, _, rfl, rfl, hm0, ?_⟩
        exact k _ _ (Int.emod_nonneg _ (by omega)) (Int.emod_lt_of_pos _ hm0) (C1.roll (by omega) (Int.emod_nonneg _ (by decide)) (Int.emod_lt_of_pos _ (by decide)))
end
end DL
namespace DL
open PySem L2
/-! ### data: what like compares -/
inductive D where
  | non | bl (b : Bool) | int (i : Int) | str (s : Str) | lst (l : List D) | tup (l : List D)
mutual
def At (H : Hp) : V → D → Prop
  | v, .non => v = .non
  | v, .bl b => v = .bl b
  | v, .int i => v = .int i
  | v, .str s => v = .str s
  | v, .lst ds => ∃ a vs, v = .ref a ∧ H a = some (.lst vs) ∧ Ats H vs ds
  | v, .tup ds => ∃ a vs, v = .ref a ∧ H a = some (.tup vs) ∧ Ats H vs ds
def Ats (H : Hp) : List V → List D → Prop
  | [], [] => True
  | v :: vs, d :: ds => At H v d ∧ Ats H vs ds
  | _, _ => False
end
mutual
def D.dep : D → Nat
  | .lst ds => depL ds + 1
  | .tup ds => depL ds + 1
  | _ => 0
def depL : List D → Nat
  | [] => 0
  | d :: ds => max d.dep (depL ds)
end
mutual
def D.fit : D → Prop
  | .lst ds => ds.length ≤ 100000 ∧ fitL ds
  | .tup ds => ds.length ≤ 100000 ∧ fitL ds
  | _ => True
def fitL : List D → Prop
  | [] => True
  | d :: ds => d.fit ∧ fitL ds
end
theorem fitL_iff : ∀ {ds : List D}, fitL ds ↔ ∀ x ∈ ds, x.fit
  | [] => by simp [fitL]
  | d :: ds => by simp [fitL, fitL_iff (ds := ds)]
theorem D.fit_of {x : D} {ds : List D} (hx : x = .lst ds ∨ x = .tup ds) (h : x.fit) : ds.length ≤ 100000 ∧ fitL ds := by
  rcases hx with rfl | rfl <;> simpa [D.fit] using h
theorem Ats.len {H : Hp} : ∀ {vs : List V} {ds : List D}, Ats H vs ds → vs.length = ds.length
  | [], [], _ => rfl
  | v :: vs, d :: ds, h => by
    have h : At H v d ∧ Ats H vs ds := by simpa [Ats] using h
    show vs.length + 1 = ds.length + 1
    rw [Ats.len h.2]
  | [], _ :: _, h => by simp [Ats] at h
  | _ :: _, [], h => by simp [Ats] at h
theorem Ats.get {H : Hp} : ∀ {vs : List V} {ds : List D} (i : Nat), Ats H vs ds → i < ds.length → ∃ v x, vs[i]? = some v ∧ ds[i]? = some x ∧ At H v x
  | [], [], i, _, hi => by simp at hi
  | v :: vs, d :: ds, 0, h, _ => by
    have h : At H v d ∧ Ats H vs ds := by simpa [Ats] using h
    exact ⟨v, d, rfl, rfl, h.1⟩
  | v :: vs, d :: ds, i + 1, h, hi => by
    have h : At H v d ∧ Ats H vs ds := by simpa [Ats] using h
    obtain ⟨u, x, h1, h2, h3⟩ := Ats.get i h.2 (by simpa using hi)
    exact ⟨u, x, by simpa using h1, by simpa using h2, h3⟩
  | [], _ :: _, i, h, _ => by simp [Ats] at h
  | _ :: _, [], i, h, _ => by simp [Ats] at h
theorem depL_get : ∀ {ds : List D} {i : Nat} {x : D}, ds[i]? = some x → x.dep ≤ depL ds
  | [], i, x, h => by simp at h
  | d :: ds, 0, x, h => by
    have e : d = x := by simpa using h
    subst e
    show d.dep ≤ max d.dep (depL ds)
    omega
  | d :: ds, i + 1, x, h => by
    have := depL_get (ds := ds) (i := i) (x := x) (by simpa using h)
    show x.dep ≤ max d.dep (depL ds)
    omega
def D.ty : D → String
  | .non => "NoneType" | .bl _ => "bool" | .int _ => "int" | .str _ => "str" | .lst _ => "list" | .tup _ => "tuple"
theorem At.ty {K : Frg} {H : Hp} {v : V} : ∀ {x : D}, At H v x → TyX K H v (.type x.ty)
  | .non, h => by
    have h : v = .non := by simpa [At] using h
    subst h; exact .base .non
  | .bl b, h => by
    have h : v = .bl b := by simpa [At] using h
    subst h; exact .base (.bl _)
  | .int i, h => by
    have h : v = .int i := by simpa [At] using h
    subst h; exact .base (.int _)
  | .str s, h => by
    have h : v = .str s := by simpa [At] using h
    subst h; exact .base (.str _)
  | .lst ds, h => by
    obtain ⟨a, vs, rfl, h, _⟩ : ∃ a vs, v = .ref a ∧ H a = some (.lst vs) ∧ Ats H vs ds := by simpa [At] using h
    exact .base (.lst h)
  | .tup ds, h => by
    obtain ⟨a, vs, rfl, h, _⟩ : ∃ a vs, v = .ref a ∧ H a = some (.tup vs) ∧ Ats H vs ds := by simpa [At] using h
    exact .base (.tup h)
theorem isi_go {K : Frg} {H : Hp} {v : V} {x : D} {c : String} {b : Bool} {Q : VK} (h : At H v x) (r : kitB x.ty c = some b) (q : Q (.bl b) H) : rIsi K [v, .ty c] H Q :=
  ⟨_, _, _, _, _, rfl, .ty _, h.ty, kit_ty r, q⟩
def spLike (K : Frg) (n : Nat) : Sp := fun vs H Q _ => ∃ (v u : V) (x : D), vs = [v, u] ∧ At H v x ∧ At H u x ∧ x.dep ≤ n ∧ x.fit ∧ Q (.bl true) H
abbrev sLike : Stmt := top 33
section
variable {P : Program} {w : World} {K : PySem.W.Frag} {mg : Str → Option Value} {base : Heap}
theorem scLike : FnScope ["_law_found", "_law_due_here", "_law_k"] ["_law_found", "_law_due_here"] (defScope sLike) := ⟨rfl, rfl, rfl, by decide +kernel, rfl, by decide +kernel, by decide +kernel⟩
theorem At.sq {K : Frg} {H : Hp} {v : V} {x : D} {ds : List D} (hx : x = .lst ds ∨ x = .tup ds) (h : At H v x) : ∃ a vs, v = .ref a ∧ (SqL K H a vs ∨ SqT K H a vs) ∧ Ats H vs ds := by
  rcases hx with rfl | rfl
  · obtain ⟨a, vs, rfl, h, z⟩ : ∃ a vs, v = .ref a ∧ H a = some (.lst vs) ∧ Ats H vs ds := by simpa [At] using h
    exact ⟨a, vs, rfl, .inl (SqL.of h), z⟩
  · obtain ⟨a, vs, rfl, h, z⟩ : ∃ a vs, v = .ref a ∧ H a = some (.tup vs) ∧ Ats H vs ds := by simpa [At] using h
    exact ⟨a, vs, rfl, .inr (SqT.of h), z⟩
theorem sq_ix {K : Frg} {H : Hp} {a : Addr} {vs : List V} {i : Nat} {v : V} {Q : VK} (h : SqL K H a vs ∨ SqT K H a vs) (e : vs[i]? = some v) (q : Q v H) : rIx K (.ref a) (.int (i : Int)) H Q := by
  rcases h with h | h
  · exact .inl ⟨a, vs, _, v, rfl, rfl, h, atI_nat e, q⟩
  · exact .inr (.inl ⟨a, vs, _, v, rfl, rfl, h, atI_nat e, q⟩)
theorem D.dep_of {x : D} {ds : List D} (hx : x = .lst ds ∨ x = .tup ds) : x.dep = depL ds + 1 := by
  rcases hx with rfl | rfl <;> rfl
abbrev spNo : Sp := fun _ _ _ _ => False
theorem ok_no {CX : CXT} {k : Nat} {f : Addr} {fd : FuncData} {ps : List Str} : FnOk P w K mg base CX k f fd ps spNo := ⟨fun _ _ _ _ h => h.elim, fun _ _ _ _ _ _ _ _ _ _ _ _ _ h => h.elim⟩
theorem like_one {f : Addr} {fd : FuncData} {k n : Nat} {sp : Sp} (F : Fun K "_law_like" "_law_like" sLike f fd) (b : Binds K fd ["_law_found", "_law_due_here"] []) (m : mg "_law_like" = some (.ref f)) (T : Bt mg)
    (G : FnOk P w K mg base CX0 k f fd ["_law_found", "_law_due_here"] sp) (hk : ∀ v u x H Q E, At H v x → At H u x → x.dep + 1 ≤ n → x.fit → Q (.bl true) H → sp [v, u] H Q E) :
    FnOk P w K mg base CX0 (k + 1) f fd ["_law_found", "_law_due_here"] (spLike K n) := by
  refine F.ok scLike (fun vs H Q E h => ?_) (fun cdv A outer s H vs Q E hr h => ?_)
  · obtain ⟨v, u, x, rfl, _⟩ := h
    rfl
  · obtain ⟨v, u, x, rfl, hv, hu, hn, hfit, q⟩ := h
    refine ⟨_, pss_cons (ps_if (pt_val (pe_callB call_isi (by rfl) T.isinstance (by decide +kernel) (pa_cons (pv 1) (pa_cons (pe_bltn (v := .ty "bool") (by rfl) T.bool (by decide +kernel) rfl) pa_nil))))
        (pss_one (ps_ret (pe_and (pe_callB call_isi (by rfl) T.isinstance (by decide +kernel) (pa_cons (pv 0) (pa_cons (pe_bltn (v := .ty "bool") (by rfl) T.bool (by decide +kernel) rfl) pa_nil))) (pe_one (pe_cmpR op_eq (pv 0) (pv 1) (nomark _)))))) pss_nil)
      (pss_cons (ps_if (pt_val (pe_callB call_isi (by rfl) T.isinstance (by decide +kernel) (pa_cons (pv 1) (pa_cons (pe_bltn (v := .ty "str") (by rfl) T.str (by decide +kernel) rfl) pa_nil))))
        (pss_one (ps_ret (pe_and (pe_callB call_isi (by rfl) T.isinstance (by decide +kernel) (pa_cons (pv 0) (pa_cons (pe_bltn (v := .ty "str") (by rfl) T.str (by decide +kernel) rfl) pa_nil))) (pe_one (pe_cmpR op_eq (pv 0) (pv 1) (nomark _)))))) pss_nil)
      (pss_cons (ps_if (pt_val (pe_callB call_isi (by rfl) T.isinstance (by decide +kernel) (pa_cons (pv 1) (pa_cons (pe_bltn (v := .ty "int") (by rfl) T.int (by decide +kernel) rfl) pa_nil))))
        (pss_one (ps_ret (pe_and (pe_callB call_isi (by rfl) T.isinstance (by decide +kernel) (pa_cons (pv 0) (pa_cons (pe_bltn (v := .ty "int") (by rfl) T.int (by decide +kernel) rfl) pa_nil)))
          (pe_and (pe_not (pe_callB call_isi (by rfl) T.isinstance (by decide +kernel) (pa_cons (pv 0) (pa_cons (pe_bltn (v := .ty "bool") (by rfl) T.bool (by decide +kernel) rfl) pa_nil))))
          (pe_one (pe_cmpR op_eq (pv 0) (pv 1) (nomark _))))))) pss_nil)
      (pss_cons (ps_if (pt_cmpR op_isN (pv 1) pe_non (nomark _)) (pss_one (ps_ret (pe_cmpR op_isN (pv 0) pe_non (nomark _)))) pss_nil)
      (pss_cons (ps_if (PW.pt (pw_or
          (pt_cmpR op_ne (pe_callB call_isi (by rfl) T.isinstance (by decide +kernel) (pa_cons (pv 1) (pa_cons (pe_bltn (v := .ty "tuple") (by rfl) T.tuple (by decide +kernel) rfl) pa_nil))) (pe_callB call_isi (by rfl) T.isinstance (by decide +kernel) (pa_cons (pv 0) (pa_cons (pe_bltn (v := .ty "tuple") (by rfl) T.tuple (by decide +kernel) rfl) pa_nil))) (nomark _))
          (pw_or1 (pt_cmpR op_ne (pe_callB call_isi (by rfl) T.isinstance (by decide +kernel) (pa_cons (pv 1) (pa_cons (pe_bltn (v := .ty "list") (by rfl) T.list (by decide +kernel) rfl) pa_nil))) (pe_callB call_isi (by rfl) T.isinstance (by decide +kernel) (pa_cons (pv 0) (pa_cons (pe_bltn (v := .ty "list") (by rfl) T.list (by decide +kernel) rfl) pa_nil))) (nomark _)))))
        (pss_one (ps_ret pe_bl)) pss_nil)
      (pss_cons (ps_if (pt_cmpR op_ne (pe_callB call_len_seq (by rfl) T.len PySem.boot_len (pa_cons (pv 0) pa_nil)) (pe_callB call_len_seq (by rfl) T.len PySem.boot_len (pa_cons (pv 1) pa_nil)) (nomark _)) (pss_one (ps_ret pe_bl)) pss_nil)
      (pss_cons (ps_for PassesOwn.never rfl (pi_range1 rfl T.range (pa_cons (pe_callB call_len_seq (by rfl) T.len PySem.boot_len (pa_cons (pv 1) pa_nil)) pa_nil)) (pg_name (i := 2) scLike.nd rfl (Or.inl rfl))
        (pss_one (ps_if (pt_not (pt_val (pe_call G hr (by rfl) m F.kp b .nil pass0 (pa_cons (pe_ix ix_seq (pv 0) (pv 2) (fun _ _ => rfl)) (pa_cons (pe_ix ix_seq (pv 1) (pv 2) (fun _ _ => rfl)) pa_nil)))))
          (pss_one (ps_ret pe_bl)) pss_nil)))
      (pss_one (ps_ret pe_bl)))))))), ?_⟩
    have sc : (v = u ∧ (x = .non ∧ u = .non ∨ (∃ b, x = .bl b ∧ u = .bl b) ∨ (∃ i, x = .int i ∧ u = .int i) ∨ ∃ s, x = .str s ∧ u = .str s)) ∨ ∃ ds, x = .lst ds ∨ x = .tup ds := by
      cases x with
      | non =>
        have h1 : v = .non := by simpa [At] using hv
        have h2 : u = .non := by simpa [At] using hu
        exact .inl ⟨h1.trans h2.symm, .inl ⟨rfl, h2⟩⟩
      | bl b =>
        have h1 : v = .bl b := by simpa [At] using hv
        have h2 : u = .bl b := by simpa [At] using hu
        exact .inl ⟨h1.trans h2.symm, .inr (.inl ⟨b, rfl, h2⟩)⟩
      | int i =>
        have h1 : v = .int i := by simpa [At] using hv
        have h2 : u = .int i := by simpa [At] using hu
        exact .inl ⟨h1.trans h2.symm, .inr (.inr (.inl ⟨i, rfl, h2⟩))⟩
      | str s =>
        have h1 : v = .str s := by simpa [At] using hv
        have h2 : u = .str s := by simpa [At] using hu
        exact .inl ⟨h1.trans h2.symm, .inr (.inr (.inr ⟨s, rfl, h2⟩))⟩
      | lst ds => exact .inr ⟨ds, .inl rfl⟩
      | tup ds => exact .inr ⟨ds, .inr rfl⟩
    rcases sc with ⟨rfl, ⟨rfl, rfl⟩ | ⟨bb, rfl, rfl⟩ | ⟨i, rfl, rfl⟩ | ⟨z, rfl, rfl⟩⟩ | ⟨ds, hx⟩
    · refine ⟨_, rfl, _, _, _, _, false, rfl, .ty _, hu.ty, kit_ty (by dsimp only [D.ty]; decide +kernel), _, rfl, iteF ?_⟩
      refine ⟨_, rfl, _, _, _, _, false, rfl, .ty _, hu.ty, kit_ty (by dsimp only [D.ty]; decide +kernel), _, rfl, iteF ?_⟩
      refine ⟨_, rfl, _, _, _, _, false, rfl, .ty _, hu.ty, kit_ty (by dsimp only [D.ty]; decide +kernel), _, rfl, iteF ?_⟩
      exact ⟨_, rfl, rfl, _, rfl, iteT ⟨_, rfl, rfl, q⟩⟩
    · refine ⟨_, rfl, _, _, _, _, true, rfl, .ty _, hu.ty, kit_ty (by dsimp only [D.ty]; decide +kernel), _, rfl, iteT ?_⟩
      refine ⟨_, rfl, _, _, _, _, true, rfl, .ty _, hu.ty, kit_ty (by dsimp only [D.ty]; decide +kernel), _, rfl, iteT ⟨_, rfl, _, rfl, rfl, ?_⟩⟩
      rw [decide_eq_true rfl]; exact q
    · refine ⟨_, rfl, _, _, _, _, false, rfl, .ty _, hu.ty, kit_ty (by dsimp only [D.ty]; decide +kernel), _, rfl, iteF ?_⟩
      refine ⟨_, rfl, _, _, _, _, false, rfl, .ty _, hu.ty, kit_ty (by dsimp only [D.ty]; decide +kernel), _, rfl, iteF ?_⟩
      refine ⟨_, rfl, _, _, _, _, true, rfl, .ty _, hu.ty, kit_ty (by dsimp only [D.ty]; decide +kernel), _, rfl, iteT ?_⟩
      refine ⟨_, rfl, _, _, _, _, true, rfl, .ty _, hu.ty, kit_ty (by dsimp only [D.ty]; decide +kernel), _, rfl, iteT ⟨_, rfl, _, _, _, _, false, rfl, .ty _, hu.ty, kit_ty (by dsimp only [D.ty]; decide +kernel), _, rfl, _, rfl, iteT ⟨_, rfl, _, rfl, rfl, ?_⟩⟩⟩
      rw [decide_eq_true rfl]; exact q
    · refine ⟨_, rfl, _, _, _, _, false, rfl, .ty _, hu.ty, kit_ty (by dsimp only [D.ty]; decide +kernel), _, rfl, iteF ?_⟩
      refine ⟨_, rfl, _, _, _, _, true, rfl, .ty _, hu.ty, kit_ty (by dsimp only [D.ty]; decide +kernel), _, rfl, iteT ?_⟩
      refine ⟨_, rfl, _, _, _, _, true, rfl, .ty _, hu.ty, kit_ty (by dsimp only [D.ty]; decide +kernel), _, rfl, iteT ⟨_, rfl, _, rfl, rfl, ?_⟩⟩
      rw [decide_eq_true rfl]; exact q
    · obtain ⟨a, vs, rfl, ha, hvs⟩ := At.sq (K := K) hx hv
      obtain ⟨c, us, rfl, hc, hus⟩ := At.sq (K := K) hx hu
      have hnn : x.dep = depL ds + 1 := D.dep_of hx
      have hb : kitB x.ty "bool" = some false := by rcases hx with rfl | rfl <;> dsimp only [D.ty] <;> decide +kernel
      have hs : kitB x.ty "str" = some false := by rcases hx with rfl | rfl <;> dsimp only [D.ty] <;> decide +kernel
      have hi : kitB x.ty "int" = some false := by rcases hx with rfl | rfl <;> dsimp only [D.ty] <;> decide +kernel
      obtain ⟨bt, ht⟩ : ∃ bt, kitB x.ty "tuple" = some bt := by
        rcases hx with rfl | rfl
        · exact ⟨false, by dsimp only [D.ty]; decide +kernel⟩
        · exact ⟨true, by dsimp only [D.ty]; decide +kernel⟩
      obtain ⟨bl, hl⟩ : ∃ bl, kitB x.ty "list" = some bl := by
        rcases hx with rfl | rfl
        · exact ⟨true, by dsimp only [D.ty]; decide +kernel⟩
        · exact ⟨false, by dsimp only [D.ty]; decide +kernel⟩
      refine ⟨_, rfl, _, _, _, _, _, rfl, .ty _, hu.ty, kit_ty hb, _, rfl, iteF ?_⟩
      refine ⟨_, rfl, _, _, _, _, _, rfl, .ty _, hu.ty, kit_ty hs, _, rfl, iteF ?_⟩
      refine ⟨_, rfl, _, _, _, _, _, rfl, .ty _, hu.ty, kit_ty hi, _, rfl, iteF ?_⟩
      refine ⟨_, rfl, rfl, _, rfl, iteF ?_⟩
      refine ⟨_, rfl, _, _, _, _, _, rfl, .ty _, hu.ty, kit_ty ht, _, rfl, _, _, _, _, _, rfl, .ty _, hv.ty, kit_ty ht, rfl, _, rfl, ?_⟩
      rw [decide_eq_true rfl]
      refine iteF ⟨_, rfl, _, _, _, _, _, rfl, .ty _, hu.ty, kit_ty hl, _, rfl, _, _, _, _, _, rfl, .ty _, hv.ty, kit_ty hl, rfl, _, rfl, ?_⟩
      rw [decide_eq_true rfl]
      refine iteF ⟨_, rfl, a, _, rfl, ha, _, rfl, c, _, rfl, hc, rfl, _, rfl, ?_⟩
      have hlen : vs.length = us.length := hvs.len.trans hus.len.symm
      rw [hlen, decide_eq_true rfl]
      have hul : us.length < 2 ^ 62 := by
        have z1 := (D.fit_of hx hfit).1
        have z2 := hus.len
        omega
      refine iteF ⟨_, rfl, c, _, rfl, hc, _, rfl, by omega, by omega, ?_⟩
      refine for_range (lo := 0) (n := us.length) (fun i σ H' => H' = H ∧ ∃ z, σ = [some (.ref a), some (.ref c), z]) ⟨rfl, _, rfl⟩ ?_ ?_
      · rintro i σ H' hi ⟨rfl, z, rfl⟩
        have e0 : (0 : Int) + (i : Int) = (i : Int) := Int.zero_add _
        rw [e0]
        obtain ⟨v1, y1, g1, g2, g3⟩ := hvs.get i (by rw [← hus.len]; exact hi)
        obtain ⟨u1, y2, g4, g5, g6⟩ := hus.get i (by rw [← hus.len]; exact hi)
        have ey : y2 = y1 := by rw [g2] at g5; exact (Option.some.inj g5).symm
        subst ey
        refine ⟨_, rfl, _, rfl, sq_ix ha g1 ?_⟩
        refine ⟨_, rfl, _, rfl, sq_ix hc g4 ?_⟩
        refine hk _ _ _ _ _ _ g3 g6 (by have := depL_get g2; omega) (fitL_iff.mp (D.fit_of hx hfit).2 _ (List.mem_of_getElem? g2)) ⟨_, rfl, iteF ⟨rfl, _, rfl⟩⟩
      · rintro σ H' ⟨rfl, z, rfl⟩
        exact q
theorem ok_like {f : Addr} {fd : FuncData} (F : Fun K "_law_like" "_law_like" sLike f fd) (b : Binds K fd ["_law_found", "_law_due_here"] []) (m : mg "_law_like" = some (.ref f)) (T : Bt mg) :
    ∀ n : Nat, FnOk P w K mg base CX0 (n + 1) f fd ["_law_found", "_law_due_here"] (spLike K n)
  | 0 => like_one F b m T (ok_no (k := 0)) (fun _ _ _ _ _ _ _ _ h _ _ => by omega)
  | n + 1 => like_one F b m T (ok_like F b m T n) (fun v u x H Q E h1 h2 h3 h4 q => ⟨v, u, x, rfl, h1, h2, by omega, h4, q⟩)
end
end DL
namespace DL
open PySem L2
/-! ### rows -/
inductive Row where
  | load (w n : Nat) | add (w n : Nat) | take (w n : Nat) | store (w n : Nat) | say (n : Nat) | test (a b : Nat) | stop
def rowVs : Row → List V
  | .load w n => [.str "load", .int (w : Int), .int (n : Int)]
  | .add w n => [.str "add", .int (w : Int), .int (n : Int)]
  | .take w n => [.str "take", .int (w : Int), .int (n : Int)]
  | .store w n => [.str "store", .int (w : Int), .int (n : Int)]
  | .say n => [.str "say", .int (n : Int)]
  | .test a b => [.str "test", .int (a : Int), .int (b : Int)]
  | .stop => [.str "stop"]
def Row.ok (W N : Nat) : Row → Prop
  | .load w n => w < W ∧ n < N
  | .add w n => w < W ∧ n < N
  | .take w n => w < W ∧ n < N
  | .store w n => w < W ∧ n < N
  | .say n => n < N
  | .test a b => a < N ∧ b < N
  | .stop => True
def Row.plain : Row → Prop
  | .test _ _ => False
  | .stop => False
  | _ => True
def Row.to (m : Nat) : Row → Row
  | .load w _ => .load w m
  | .add w _ => .add w m
  | .take w _ => .take w m
  | .store w _ => .store w m
  | .say _ => .say m
  | r => r
def isT (r : Row) : Nat := if decide ((rowVs r)[0]? = some (V.str "test")) = true then 1 else 0
def tests (rs : List Row) : Nat := (rs.map isT).sum
theorem isT_le (r : Row) : isT r ≤ 1 := by
  unfold isT
  split <;> decide
theorem isT_plain : ∀ {r : Row}, r.plain → isT r = 0
  | .load _ _, _ => (by decide +kernel : (if decide (some (V.str "load") = some (V.str "test")) = true then 1 else 0) = 0)
  | .add _ _, _ => (by decide +kernel : (if decide (some (V.str "add") = some (V.str "test")) = true then 1 else 0) = 0)
  | .take _ _, _ => (by decide +kernel : (if decide (some (V.str "take") = some (V.str "test")) = true then 1 else 0) = 0)
  | .store _ _, _ => (by decide +kernel : (if decide (some (V.str "store") = some (V.str "test")) = true then 1 else 0) = 0)
  | .say _, _ => (by decide +kernel : (if decide (some (V.str "say") = some (V.str "test")) = true then 1 else 0) = 0)
theorem isT_stop : isT .stop = 0 := (by decide +kernel : (if decide (some (V.str "stop") = some (V.str "test")) = true then 1 else 0) = 0)
theorem isT_to {r : Row} {m : Nat} (p : r.plain) : isT (r.to m) = 0 := by
  cases r <;> first | exact p.elim | exact isT_plain trivial
theorem tests_app : ∀ (a b : List Row), tests (a ++ b) = tests a + tests b
  | [], b => by unfold tests; simp
  | x :: a, b => by
    show isT x + tests (a ++ b) = isT x + tests a + tests b
    rw [tests_app a b]
    omega
theorem tests_cons (x : Row) (a : List Row) : tests (x :: a) = isT x + tests a := rfl
theorem tests_one {r : Row} : tests [r] = isT r := Nat.add_zero _
theorem tests_plain : ∀ {rs : List Row}, (∀ r ∈ rs, r.plain) → tests rs = 0
  | [], _ => rfl
  | x :: rs, h => by
    rw [tests_cons, isT_plain (h x List.mem_cons_self), tests_plain fun r hr => h r (List.mem_cons_of_mem _ hr)]
theorem Row.ok.mono {W N M : Nat} (h : N ≤ M) : ∀ {r : Row}, r.ok W N → r.ok W M := fun {r} k => by
  cases r <;> simp only [Row.ok] at * <;> omega
theorem Row.ok.to {W N m M : Nat} (hm : m < M) : ∀ {r : Row}, r.plain → r.ok W N → (r.to m).ok W M := fun {r} p k => by
  cases r <;> simp only [Row.ok, Row.to, Row.plain] at * <;> omega
theorem Row.vs_to {m : Nat} : ∀ {r : Row}, r.plain → rowVs (r.to m) = (rowVs r).dropLast ++ [V.int (m : Int)] := fun {r} p => by
  cases r <;> first | rfl | exact p.elim
theorem Row.vs_len (r : Row) : 1 ≤ (rowVs r).length ∧ (rowVs r).length ≤ 3 := by cases r <;> simp [rowVs]
def RowsAt (H : Hp) (bs : List Addr) (rs : List Row) : Prop := Paired (fun b r => H b = some (.tup (rowVs r))) bs rs
theorem RowsAt.kp {H H' : Hp} {bs : List Addr} {rs : List Row} (h : RowsAt H bs rs) (k : Kp H H') : RowsAt H' bs rs := Paired.mapP h fun _ _ q => k _ _ q
theorem Paired.app {α β : Type} {F : α → β → Prop} : ∀ {a : List α} {b : List β} {c : List α} {d : List β}, Paired F a b → Paired F c d → Paired F (a ++ c) (b ++ d)
  | _, _, _, _, .nil, h => h
  | _, _, _, _, .cons x t, h => .cons x (Paired.app t h)
theorem Paired.get {α β : Type} {F : α → β → Prop} : ∀ {a : List α} {b : List β} {i : Nat} {x : α}, Paired F a b → a[i]? = some x → ∃ y, b[i]? = some y ∧ F x y
  | _, _, _, _, .nil, e => by simp at e
  | _, _, 0, _, .cons h _, e => by simp at e; subst e; exact ⟨_, rfl, h⟩
  | _, _, i + 1, _, .cons _ t, e => by
    obtain ⟨y, h1, h2⟩ := Paired.get (i := i) t (by simpa using e)
    exact ⟨y, by simpa using h1, h2⟩
theorem Paired.getR {α β : Type} {F : α → β → Prop} : ∀ {a : List α} {b : List β} {i : Nat} {y : β}, Paired F a b → b[i]? = some y → ∃ x, a[i]? = some x ∧ F x y
  | _, _, _, _, .nil, e => by simp at e
  | _, _, 0, _, .cons h _, e => by simp at e; subst e; exact ⟨_, rfl, h⟩
  | _, _, i + 1, _, .cons _ t, e => by
    obtain ⟨y, h1, h2⟩ := Paired.getR (i := i) t (by simpa using e)
    exact ⟨y, by simpa using h1, h2⟩
theorem Paired.one {α β : Type} {F : α → β → Prop} {x : α} {y : β} (h : F x y) : Paired F [x] [y] := .cons h .nil
structure Fd (K : Frg) (mg : Str → Option Value) (x : Str) (st : Stmt) (ps : List Str) where
  f : Addr
  fd : FuncData
  F : Fun K x x st f fd
  b : Binds K fd ps []
  m : mg x = some (.ref f)
abbrev FNext (K : Frg) (mg : Str → Option Value) := Fd K mg "_law_next" sNext ["_law_dice_here", "_law_many"]
abbrev sStraight : Stmt := top 34
abbrev FStraight (K : Frg) (mg : Str → Option Value) := Fd K mg "_law_straight" sStraight ["_law_d", "_law_at"]
def spStraight (K : Frg) : Sp := fun vs H Q _ => ∃ (d sa : Addr) (ns : List Int) (at_ : Nat), vs = [.ref d, .int (at_ : Int)] ∧ Ent K H d sa ns ∧
  ∀ t r H', Dc K H H' d sa ns → H' t = some (.tup (rowVs r)) → r.plain → r.ok 8 (at_ + 2) → Q (.ref t) H'
section
variable {P : Program} {w : World} {K : PySem.W.Frag} {mg : Str → Option Value} {base : Heap}
theorem scStraight : FnScope ["_law_d", "_law_at", "_law_way"] ["_law_d", "_law_at"] (defScope sStraight) := ⟨rfl, rfl, rfl, by decide +kernel, rfl, by decide +kernel, by decide +kernel⟩
theorem ok_straight (c : FStraight K mg) (cN : FNext K mg) (T : Bt mg) : FnOk P w K mg base CX0 2 c.f c.fd ["_law_d", "_law_at"] (spStraight K) := by
  have GN : FnOk P w K mg base CX0 1 cN.f cN.fd ["_law_dice_here", "_law_many"] (spNext K) := ok_next cN.F T
  refine c.F.ok scStraight (fun vs H Q E h => ?_) (fun cdv A outer s H vs Q E hr h => ?_)
  · obtain ⟨d, sa, ns, a, rfl, _⟩ := h
    rfl
  · obtain ⟨d, sa, ns, a, rfl, hE, k⟩ := h
    refine ⟨_, pss_cons (ps_set (i := 2) scStraight.nd rfl (Or.inl rfl) (pe_call GN hr (by rfl) cN.m cN.F.kp cN.b .nil pass0 (pa_cons (pv 0) (pa_cons pe_int pa_nil))))
      (pss_cons (ps_if (pt_cmpR op_eq (pv 2) pe_int (nomark _)) (pss_one (ps_ret (pe_tup (pa_cons pe_str (pa_cons (pe_op op_add (pv 1) pe_int) pa_nil))))) pss_nil)
      (pss_one (ps_ret (pe_tup (pa_cons (pe_ix ix_list (pe_lst (pa_cons pe_str (pa_cons pe_str (pa_cons pe_str (pa_cons pe_str (pa_cons pe_str pa_nil)))))) (pv 2) (fun _ _ => rfl))
        (pa_cons (pe_op op_add pe_int (pe_call GN hr (by rfl) cN.m cN.F.kp cN.b .nil pass0 (pa_cons (pv 0) (pa_cons pe_int pa_nil)))) (pa_cons (pe_op op_add (pv 1) pe_int) pa_nil))))))), ?_⟩
    refine ⟨_, rfl, d, sa, ns, _, rfl, hE, by decide, by decide, fun n H1 n0 n1 C1 => ?_⟩
    refine ⟨_, rfl, rfl, _, rfl, ?_⟩
    refine ite2 (fun e => ?_) (fun e => ?_)
    · refine ⟨_, rfl, _, _, rfl, rfl, (by show 2 ≤ sizeLine; decide), fun t ht => ?_⟩
      refine k t (.say (a + 1)) _ (C1.new ht) (by rw [upd_same]; rfl) trivial (by show a + 1 < a + 2; omega)
    · have n5 : n ≠ 5 := fun q => e (by rw [q]; exact decide_eq_true rfl)
      refine ⟨(by show 5 ≤ sizeLine; decide), fun l hl => ?_⟩
      obtain ⟨j, hj⟩ : ∃ j : Nat, n = (j : Int) := ⟨n.toNat, by omega⟩
      subst hj
      have hj5 : j < 5 := by omega
      obtain ⟨wd, hw⟩ : ∃ wd : Str, ([V.str "load", V.str "add", V.str "take", V.str "store", V.str "add"] : List V)[j]? = some (.str wd) ∧ ∀ x y : Nat, ∃ r : Row, rowVs r = [.str wd, .int (x : Int), .int (y : Int)] ∧ r.plain ∧ (x < 8 → y < a + 2 → r.ok 8 (a + 2)) := by
        match j, hj5 with
        | 0, _ => exact ⟨_, rfl, fun x y => ⟨.load x y, rfl, trivial, fun p q => ⟨p, q⟩⟩⟩
        | 1, _ => exact ⟨_, rfl, fun x y => ⟨.add x y, rfl, trivial, fun p q => ⟨p, q⟩⟩⟩
        | 2, _ => exact ⟨_, rfl, fun x y => ⟨.take x y, rfl, trivial, fun p q => ⟨p, q⟩⟩⟩
        | 3, _ => exact ⟨_, rfl, fun x y => ⟨.store x y, rfl, trivial, fun p q => ⟨p, q⟩⟩⟩
        | 4, _ => exact ⟨_, rfl, fun x y => ⟨.add x y, rfl, trivial, fun p q => ⟨p, q⟩⟩⟩
      have C2 := C1.new (o := .lst [V.str "load", V.str "add", V.str "take", V.str "store", V.str "add"]) hl
      refine ⟨_, rfl, l, _, _, _, rfl, rfl, SqL.of upd_same, atI_nat hw.1, ?_⟩
      refine ⟨_, rfl, d, sa, ns, _, rfl, C2.ent, by decide, by decide, fun m H2 m0 m1 C3 => ?_⟩
      refine ⟨_, _, rfl, rfl, _, rfl, _, _, rfl, rfl, (by show 3 ≤ sizeLine; decide), fun t ht => ?_⟩
      obtain ⟨x, hx⟩ : ∃ x : Nat, (5 : Int) + m = (x : Int) := ⟨(5 + m).toNat, by omega⟩
      obtain ⟨r, r1, r2, r3⟩ := hw.2 x (a + 1)
      refine k t r _ ((C2.trans C3).new ht) ?_ r2 (r3 (by omega) (by omega))
      rw [upd_same, r1, ← hx]
      rfl
end
end DL
namespace DL
open PySem L2
theorem Paired.last {α β : Type} {F : α → β → Prop} {x : α} : ∀ {a : List α} {b : List β}, Paired F (a ++ [x]) b → ∃ b0 y, b = b0 ++ [y] ∧ Paired F a b0 ∧ F x y
  | [], _, .cons h t => by
    cases t
    exact ⟨[], _, rfl, .nil, h⟩
  | c :: a, _, .cons h t => by
    obtain ⟨b0, y, e, h1, h2⟩ := Paired.last (a := a) t
    subst e
    exact ⟨_ :: b0, y, rfl, .cons h h1, h2⟩
theorem snoc_of {α : Type} : ∀ {l : List α}, 1 ≤ l.length → ∃ a x, l = a ++ [x]
  | [], h => by simp at h
  | [x], _ => ⟨[], x, rfl⟩
  | x :: y :: l, _ => by
    obtain ⟨a, z, e⟩ := snoc_of (l := y :: l) (by simp)
    exact ⟨x :: a, z, by rw [e]; rfl⟩
theorem ix_last (n : Nat) : ixN (n + 1) (-1) = some n := by
  unfold ixN
  rw [if_neg (by decide), if_pos (by omega)]
  congr 1
  omega
theorem all_snoc {α : Type} {p : α → Prop} {l : List α} {x : α} (h : ∀ y ∈ l, p y) (hx : p x) : ∀ y ∈ l ++ [x], p y := fun y m => by
  rcases List.mem_append.mp m with q | q
  · exact h y q
  · rw [List.mem_singleton.mp q]; exact hx
theorem all_app {α : Type} {p : α → Prop} {l m : List α} (h : ∀ y ∈ l, p y) (hx : ∀ y ∈ m, p y) : ∀ y ∈ l ++ m, p y := fun y q => by
  rcases List.mem_append.mp q with q | q
  · exact h y q
  · exact hx y q
abbrev sFork : Stmt := top 35
abbrev FFork (K : Frg) (mg : Str → Option Value) := Fd K mg "_law_fork" sFork ["_law_d", "_law_at"]
def spFork (K : Frg) : Sp := fun vs H Q _ => ∃ (d sa : Addr) (ns : List Int) (at_ : Nat), vs = [.ref d, .int (at_ : Int)] ∧ Ent K H d sa ns ∧
  ∀ l bs rs H', Dc K H H' d sa ns → H l = none → H' l = some (.lst (bs.map V.ref)) → RowsAt H' bs rs → 1 ≤ rs.length → rs.length ≤ 6 → 4 * tests rs ≤ rs.length → (∀ r ∈ rs, r.ok 8 (at_ + rs.length + 1)) → Q (.ref l) H'
theorem sIx_neg (n d : Nat) : HT.sIx n d (some (-1)) = ((-1 : Int) + n).toNat := by
  show (if (-1 : Int) < 0 then ((-1 : Int) + (n : Int)).toNat else min (-1 : Int).toNat n) = _
  exact if_pos (by decide)
theorem set_last {α : Type} {l : List α} {x y : α} {n : Nat} (h : l.length = n) : (l ++ [x]).set n y = l ++ [y] := by
  subst h
  rw [List.set_append_right _ _ (Nat.le_refl _), Nat.sub_self]
  rfl
theorem cut_last {xs : List V} (h : 1 ≤ xs.length) : cutV xs none (some (-1)) = xs.dropLast := by
  unfold cutV
  rw [sIx_neg, HT.sIx_none, List.drop_zero, List.dropLast_eq_take, Nat.sub_zero]
  congr 1
  omega
theorem cut_not {xs : List V} (h : 1 ≤ xs.length) : ¬ (HT.sIx xs.length 0 none = 0 ∧ HT.sIx xs.length xs.length (some (-1)) = xs.length) := by
  rintro ⟨_, q⟩
  rw [sIx_neg] at q
  omega
theorem row_ne {r : Row} (p : r.plain) : (rowVs r).dropLast ≠ [] := by
  cases r <;> first | exact p.elim | (intro e; cases e)
def StrAt (K : Frg) (H0 : Hp) (d sa : Addr) (ns : List Int) (D : Addr) (at_ : Nat) (i : Nat) (H : Hp) : Prop :=
  ∃ bs rs, Dc K H0 H d sa ns ∧ H0 D = none ∧ H D = some (.lst (bs.map V.ref)) ∧ RowsAt H bs rs ∧ rs.length = i ∧ ∀ r ∈ rs, r.plain ∧ r.ok 8 (at_ + i + 1)
theorem StrAt.zero {K : Frg} {H0 H : Hp} {d sa : Addr} {ns : List Int} {D : Addr} {a : Nat} (C : Dc K H0 H d sa ns) (hD : H D = none) : StrAt K H0 d sa ns D a 0 (upd H D (.lst [])) :=
  ⟨[], [], C.new hD, C.here hD, upd_same, .nil, rfl, fun _ h => absurd h (by simp)⟩
theorem StrAt.step {K : Frg} {H0 H H' : Hp} {d sa : Addr} {ns : List Int} {D t : Addr} {a i : Nat} {bs : List Addr} {rs : List Row} {r : Row} (C : Dc K H0 H d sa ns) (n0 : H0 D = none) (hD : H D = some (.lst (bs.map V.ref))) (ha : RowsAt H bs rs) (hl : rs.length = i) (hr : ∀ r ∈ rs, r.plain ∧ r.ok 8 (a + i + 1))
    (C2 : Dc K H H' d sa ns) (ht : H' t = some (.tup (rowVs r))) (hp : r.plain) (ho : r.ok 8 (a + i + 2)) :
    H' D = some (.lst (bs.map V.ref)) ∧ StrAt K H0 d sa ns D a (i + 1) (upd H' D (.lst (bs.map V.ref ++ [.ref t]))) := by
  have C3 := C.trans C2
  have hD' : H' D = some (.lst (bs.map V.ref)) := C2.but _ _ (C.ned n0) hD
  refine ⟨hD', bs ++ [t], rs ++ [r], C3.mut n0, n0, by rw [upd_same, List.map_append]; rfl, ?_, by rw [List.length_append, hl]; rfl, ?_⟩
  · exact RowsAt.kp (Paired.app (ha.kp C2.kp) (Paired.one ht)) (Kp.lst hD')
  · refine all_snoc (fun y m => ?_) ⟨hp, by rw [show a + (i + 1) + 1 = a + i + 2 by omega]; exact ho⟩
    exact ⟨(hr y m).1, (hr y m).2.mono (by omega)⟩
section
variable {P : Program} {w : World} {K : PySem.W.Frag} {mg : Str → Option Value} {base : Heap}
abbrev nFork : List Str := ["_law_d", "_law_at", "_law_yes", "_law_begin", "_law_no", "_law_k"]
theorem scFork : FnScope nFork ["_law_d", "_law_at"] (defScope sFork) := ⟨rfl, rfl, rfl, by decide +kernel, rfl, by decide +kernel, by decide +kernel⟩
theorem ok_fork (c : FFork K mg) (cS : FStraight K mg) (cN : FNext K mg) (T : Bt mg) : FnOk P w K mg base CX0 3 c.f c.fd ["_law_d", "_law_at"] (spFork K) := by
  have GN : FnOk P w K mg base CX0 1 cN.f cN.fd ["_law_dice_here", "_law_many"] (spNext K) := ok_next cN.F T
  have GS : FnOk P w K mg base CX0 2 cS.f cS.fd ["_law_d", "_law_at"] (spStraight K) := ok_straight cS cN T
  refine c.F.ok scFork (fun vs H Q E h => ?_) (fun cdv A outer s H vs Q E hr h => ?_)
  · obtain ⟨d, sa, ns, a, rfl, _⟩ := h
    rfl
  · obtain ⟨d, sa, ns, a, rfl, hE, k⟩ := h
    have hr1 : Room 1 _ := hr.mono (by decide)
    refine ⟨_, pss_cons (ps_setLc (i := 2) (own := [("_law_k", 5)]) (g := gName 5) (tt := tYes) rfl scFork.nd rfl rfl (sw_true rfl rfl rfl (by decide +kernel))
        (pi_range1 rfl T.range (pa_cons (pe_op op_add pe_int (pe_call GN hr1 (by rfl) cN.m cN.F.kp cN.b .nil pass0 (pa_cons (pv 0) (pa_cons pe_int pa_nil)))) pa_nil))
        (blkOk_by (N := nFork) (sc := defScope sFork) (by decide +kernel)) (fun _ _ _ _ _ => pg_name (i := 5) scFork.nd rfl (Or.inl rfl)) (fun _ _ _ _ _ => pts_nil)
        (fun _ _ _ _ _ => (pe_call GS hr (by rfl) cS.m cS.F.kp cS.b .nil pass0 (pa_cons (pv 0) (pa_cons (pe_op op_add (pe_op op_add (pv 1) pe_int) (pv 5)) pa_nil)))))
      (pss_cons (ps_set (i := 3) scFork.nd rfl (Or.inr rfl) (pe_op op_add (pe_op op_add (pv 1) pe_int) (pe_callB call_len_seq (by rfl) T.len PySem.boot_len (pa_cons (pv 2) pa_nil))))
      (pss_cons (ps_setLc (i := 4) (own := [("_law_k", 5)]) (g := gName 5) (tt := tYes) rfl scFork.nd rfl rfl (sw_true rfl rfl rfl (by decide +kernel))
        (pi_range1 rfl T.range (pa_cons (pe_op op_add pe_int (pe_call GN hr1 (by rfl) cN.m cN.F.kp cN.b .nil pass0 (pa_cons (pv 0) (pa_cons pe_int pa_nil)))) pa_nil))
        (blkOk_by (N := nFork) (sc := defScope sFork) (by decide +kernel)) (fun _ _ _ _ _ => pg_name (i := 5) scFork.nd rfl (Or.inl rfl)) (fun _ _ _ _ _ => pts_nil)
        (fun _ _ _ _ _ => (pe_call GS hr (by rfl) cS.m cS.F.kp cS.b .nil pass0 (pa_cons (pv 0) (pa_cons (pe_op op_add (pv 3) (pv 5)) pa_nil)))))
      (pss_cons (ps_asg (pe_op op_catT (pe_slice sl_tup (pe_ix ix_list (pv 2) (pe_un un_neg pe_int) (fun _ _ => rfl)) po_none (po_some (pe_un un_neg pe_int)))
          (pe_tup (pa_cons (pe_op op_add (pv 3) (pe_callB call_len_seq (by rfl) T.len PySem.boot_len (pa_cons (pv 4) pa_nil))) pa_nil))) (pg_sub (pv 2) (pe_un un_neg pe_int) set_list))
      (pss_one (ps_ret (pe_op op_cat (pe_op op_cat (pe_lst (pa_cons (pe_tup (pa_cons pe_str (pa_cons (pe_op op_add pe_int (pe_call GN hr1 (by rfl) cN.m cN.F.kp cN.b .nil pass0 (pa_cons (pv 0) (pa_cons pe_int pa_nil)))) (pa_cons (pe_op op_add (pv 1) pe_int) pa_nil))))
        (pa_cons (pe_tup (pa_cons pe_str (pa_cons (pe_op op_add (pv 1) pe_int) (pa_cons (pv 3) pa_nil)))) pa_nil))) (pv 2)) (pv 4))))))), ?_⟩
    refine ⟨_, rfl, d, sa, ns, _, rfl, hE, by decide, by decide, fun n H1 n0 n1 C1 => ?_⟩
    refine ⟨_, _, rfl, rfl, _, rfl, by omega, by omega, fun D1 hD1 => ?_⟩
    refine lc_range (lo := 0) (n := (1 + n).toNat) (StrAt K H d sa ns D1 (a + 2)) (StrAt.zero C1 hD1) ?_ ?_
    · rintro i H2 hi ⟨bs, rs, C2, nD, hD, hR, hl, hr⟩
      refine ⟨rfl, _, rfl, _, rfl, _, _, rfl, rfl, _, rfl, _, _, rfl, rfl, d, sa, ns, a + 2 + i, ?_, C2.ent, fun t r H3 C3 ht hp ho => ?_⟩
      · show [V.ref d, V.int ((a : Int) + 2 + (0 + (i : Int)))] = [V.ref d, V.int ((a + 2 + i : Nat) : Int)]
        rw [show ((a + 2 + i : Nat) : Int) = (a : Int) + 2 + (0 + (i : Int)) by omega]
      · obtain ⟨z1, z2⟩ := StrAt.step C2 nD hD hR hl hr C3 ht hp ho
        exact ⟨_, z1, szl (by have := Paired.length hR; rw [List.length_map]; omega), z2⟩
    · rintro H2 ⟨bs1, rs1, C2, nD1, hD1', hR1, hl1, hr1'⟩
      have lb1 := Paired.length hR1
      refine ⟨_, rfl, _, _, rfl, rfl, _, rfl, D1, _, rfl, .inl (SqL.of hD1'), _, _, rfl, rfl, ?_⟩
      refine ⟨_, rfl, d, sa, ns, _, rfl, C2.ent, by decide, by decide, fun n2 H3 n20 n21 C3 => ?_⟩
      refine ⟨_, _, rfl, rfl, _, rfl, by omega, by omega, fun D2 hD2 => ?_⟩
      have C13 := C2.trans C3
      refine lc_range (lo := 0) (n := (1 + n2).toNat) (fun i H4 => StrAt K H d sa ns D2 (a + 2 + rs1.length) i H4 ∧ D2 ≠ D1 ∧ H4 D1 = some (.lst (bs1.map V.ref)) ∧ RowsAt H4 bs1 rs1) ?_ ?_ ?_
      · have nD12 : D2 ≠ D1 := (ne_of_none (C3.but _ _ (C2.ned nD1) hD1') hD2).symm
        exact ⟨StrAt.zero C13 hD2, nD12, by rw [upd_ne nD12.symm]; exact C3.but _ _ (C2.ned nD1) hD1', (hR1.kp C3.kp).kp (Kp.new hD2)⟩
      · rintro i H4 hi ⟨⟨bs, rs, C4, nD, hD, hR, hl, hr⟩, nD12, h1, hR1⟩
        refine ⟨rfl, _, rfl, _, rfl, _, rfl, _, _, rfl, rfl, d, sa, ns, a + 2 + rs1.length + i, ?_, C4.ent, fun t r H5 C5 ht hp ho => ?_⟩
        · show [V.ref d, V.int ((a : Int) + 2 + (((bs1.map V.ref).length : Nat) : Int) + (0 + (i : Int)))] = [V.ref d, V.int ((a + 2 + rs1.length + i : Nat) : Int)]
          rw [List.length_map, lb1, show ((a + 2 + rs1.length + i : Nat) : Int) = (a : Int) + 2 + (rs1.length : Int) + (0 + (i : Int)) by omega]
        · obtain ⟨z1, z2⟩ := StrAt.step C4 nD hD hR hl hr C5 ht hp ho
          refine ⟨_, z1, szl (by have := Paired.length hR; rw [List.length_map]; omega), z2, nD12, ?_, ?_⟩
          · rw [upd_ne nD12.symm]
            exact C5.but _ _ (C4.ned nD1) h1
          · exact (hR1.kp C5.kp).kp (Kp.lst z1)
      · rintro H4 ⟨⟨bs2, rs2, C4, nD2, hD2', hR2, hl2, hr2⟩, nD12, h1, hR1⟩
        have lb2 := Paired.length hR2
        obtain ⟨bs0, b, e⟩ := snoc_of (l := bs1) (by omega)
        subst e
        obtain ⟨rs0, r, e, hR0, hb⟩ := Paired.last hR1
        subst e
        have hr0 := hr1' r (List.mem_append_right _ List.mem_cons_self)
        have h1 : H4 D1 = some (.lst (bs0.map V.ref ++ [.ref b])) := by rw [List.map_append] at h1; exact h1
        have rl := Row.vs_len r
        refine ⟨_, rfl, _, rfl, D1, _, _, _, rfl, rfl, SqL.of h1, atI_last _ _, _, rfl, _, rfl, b, _, rfl, SqT.of hb, cut_not rl.1, fun p1 hp1 => ?_⟩
        rw [cut_last rl.1]
        refine alloc hp1 fun H5 s5 e5 => ?_
        refine ⟨_, rfl, _, rfl, D2, _, rfl, .inl (SqL.of (s5 _ _ hD2')), _, _, rfl, rfl, (by show 1 ≤ sizeLine; decide), fun p2 hp2 => ?_⟩
        refine alloc hp2 fun H6 s6 e6 => ?_
        have hsz : (rowVs r).dropLast.length + 1 ≤ sizeLine := sz (by rw [List.length_dropLast]; omega)
        refine ⟨p1, p2, _, _, rfl, rfl, SqT.of (s6 _ _ e5), SqT.of e6, row_ne hr0.1, hsz, (fun e => nomatch e), fun _ p3 hp3 => ?_⟩
        refine alloc hp3 fun H7 s7 e7 => ?_
        have S47 := (s5.trans s6).trans s7
        have h17 := S47 _ _ h1
        refine ⟨_, rfl, _, rfl, D1, _, _, bs0.length, rfl, rfl, h17, ?_, ?_⟩
        · rw [List.length_append, List.length_map]
          exact ix_last _
        rw [set_last (by rw [List.length_map])]
        have nD1' : D1 ≠ D2 := nD12.symm
        have C7 := (C4.same S47).mut (o := .lst (bs0.map V.ref ++ [.ref p3])) nD1
        have hp3 : p3 ≠ D1 := ne_of e7 h17 (by intro z; cases z)
        have R7 : RowsAt H7 (bs0 ++ [p3]) (rs0 ++ [r.to (a + 2 + rs0.length + 1 + rs2.length)]) := by
          refine Paired.app (RowsAt.kp hR0 (Kp.same S47)) (Paired.one ?_)
          rw [e7, Row.vs_to hr0.1]
          congr 3
          show [V.int ((a : Int) + 2 + (((bs0 ++ [b]).map V.ref).length : Int) + ((bs2.map V.ref).length : Int))] = _
          rw [List.length_map, List.length_map, lb1, lb2, List.length_append]
          congr 2
        have R72 : RowsAt H7 bs2 rs2 := RowsAt.kp hR2 (Kp.same S47)
        have K7 : Kp H7 (upd H7 D1 (.lst (bs0.map V.ref ++ [.ref p3]))) := Kp.lst h17
        have hD28 : (upd H7 D1 (.lst (bs0.map V.ref ++ [.ref p3]))) D2 = some (.lst (bs2.map V.ref)) := by rw [upd_ne nD12]; exact S47 _ _ hD2'
        revert C7 K7 hD28
        refine change fun H8 b8 e8 => ?_
        intro C8 K8 hD28
        have R8 := R7.kp K8
        have R82 := R72.kp K8
        refine ⟨_, rfl, d, sa, ns, _, rfl, C8.ent, by decide, by decide, fun m H9 m0 m1 C9 => ?_⟩
        refine ⟨_, _, rfl, rfl, _, rfl, _, _, rfl, rfl, (by show 3 ≤ sizeLine; decide), fun t1 ht1 => ?_⟩
        refine alloc ht1 fun H10 s10 e10 => ?_
        refine ⟨_, rfl, _, _, rfl, rfl, _, rfl, (by show 3 ≤ sizeLine; decide), fun t2 ht2 => ?_⟩
        refine alloc ht2 fun H11 s11 e11 => ?_
        refine ⟨(by show 2 ≤ sizeLine; decide), fun l1 hl1n => ?_⟩
        refine alloc hl1n fun H12 s12 e12 => ?_
        have S9 := (s10.trans s11).trans s12
        have g1 : H12 D1 = some (.lst (bs0.map V.ref ++ [.ref p3])) := S9 _ _ (C9.but _ _ (C8.ned nD1) e8)
        have g2 : H12 D2 = some (.lst (bs2.map V.ref)) := S9 _ _ (C9.but _ _ (C8.ned nD2) hD28)
        have C12 := (C8.trans C9).same S9
        refine ⟨_, rfl, l1, D1, _, _, rfl, rfl, e12, g1, ?_, fun l2 hl2n => ?_⟩
        · refine sz ?_
          rw [List.length_append, List.length_map]
          have z1 := Paired.length hR0
          rw [List.length_append] at hl1
          show 2 + (bs0.length + 1) ≤ 100000
          simp only [List.length_singleton] at hl1
          omega
        refine alloc hl2n fun H13 s13 e13 => ?_
        refine ⟨_, rfl, l2, D2, _, _, rfl, rfl, e13, s13 _ _ g2, ?_, fun l3 hl3n => ?_⟩
        · refine sz ?_
          rw [List.length_append, List.length_append, List.length_map, List.length_map]
          have z1 := Paired.length hR0
          rw [List.length_append] at hl1
          show 2 + (bs0.length + 1) + bs2.length ≤ 100000
          simp only [List.length_singleton] at hl1
          omega
        have C13' := C12.same s13
        have K13 : Kp H8 H13 := (C9.kp.trans (Kp.same S9)).trans (Kp.same s13)
        have rl0 := Paired.length hR0
        have hlen1 : rs0.length + 1 = (1 + n).toNat := by rw [← hl1, List.length_append]; rfl
        obtain ⟨x, hx⟩ : ∃ x : Nat, (5 : Int) + m = (x : Int) := ⟨(5 + m).toNat, by omega⟩
        have hm8 : x < 8 := by omega
        refine k l3 (t1 :: t2 :: (bs0 ++ [p3]) ++ bs2) (.load x (a + 1) :: .test (a + 2) (a + 2 + rs0.length + 1) :: (rs0 ++ [r.to (a + 2 + rs0.length + 1 + rs2.length)]) ++ rs2) _ (C13'.new hl3n) (C13'.here hl3n) ?_ ?_ ?_ ?_ ?_ ?_
        · rw [upd_same]
          simp only [List.map_append, List.map_cons, List.map_nil]
          rfl
        · refine RowsAt.kp ?_ (Kp.new hl3n)
          refine Paired.app (.cons ?_ (.cons ?_ (R8.kp K13))) (R82.kp K13)
          · refine (s11.trans (s12.trans s13)) _ _ (e10.trans ?_)
            show some (HO.tup [V.str "load", V.int (5 + m), V.int ((a : Int) + 1)]) = some (.tup [V.str "load", V.int (x : Int), V.int ((a + 1 : Nat) : Int)])
            rw [hx]
            rfl
          · refine (s12.trans s13) _ _ (e11.trans ?_)
            show some (HO.tup [V.str "test", V.int ((a : Int) + 2), V.int ((a : Int) + 2 + (((bs0 ++ [b]).map V.ref).length : Int))]) = some (.tup [V.str "test", V.int ((a + 2 : Nat) : Int), V.int ((a + 2 + rs0.length + 1 : Nat) : Int)])
            rw [List.length_map, List.length_append, rl0]
            rfl
        · simp
        · simp only [List.length_append, List.length_cons, List.length_nil]
          omega
        · have t2 : tests rs2 = 0 := tests_plain fun y hy => (hr2 y hy).1
          have t0 : tests rs0 = 0 := tests_plain fun y hy => (hr1' y (List.mem_append_left _ hy)).1
          have t1 := isT_le (.test (a + 2) (a + 2 + rs0.length + 1))
          have tl : isT (.load x (a + 1)) = 0 := isT_plain trivial
          have tr := isT_to (m := a + 2 + rs0.length + 1 + rs2.length) hr0.1
          rw [List.cons_append, List.cons_append, tests_cons, tests_cons, tests_app, tests_app, tests_one, t2, t0, tl, tr]
          simp only [List.length_append, List.length_cons, List.length_nil]
          omega
        · have hL : (Row.load x (a + 1) :: .test (a + 2) (a + 2 + rs0.length + 1) :: (rs0 ++ [r.to (a + 2 + rs0.length + 1 + rs2.length)]) ++ rs2).length = rs0.length + rs2.length + 3 := by
            simp only [List.length_append, List.length_cons, List.length_nil]
            omega
          rw [hL]
          intro y hy
          rcases List.mem_append.mp hy with hy | hy
          · rcases List.mem_cons.mp hy with rfl | hy
            · exact ⟨hm8, by omega⟩
            · rcases List.mem_cons.mp hy with rfl | hy
              · exact ⟨by omega, by omega⟩
              · rcases List.mem_append.mp hy with hy | hy
                · exact (hr1' y (List.mem_append_left _ hy)).2.mono (by omega)
                · rw [List.mem_singleton.mp hy]
                  exact hr0.2.to (by omega) hr0.1
          · refine (hr2 y hy).2.mono ?_
            rw [List.length_append, List.length_singleton]
            omega
end
end DL
namespace DL
open PySem L2
theorem if_elim {c : TT} {t u : TS} {D : Ends} {σ : St} {H : Hp} (R : Bool → Hp → Prop) (key : ∀ b H', R b H' → if b = true then t D σ H' else u D σ H') (test : ∀ F' : Bool → Hp → Prop, (∀ b H', R b H' → F' b H') → c σ H F') : tIfS c t u D σ H := test _ key
def PB : Nat → Nat
  | 0 => 6
  | n + 1 => 6 + 3 * PB n
abbrev sBody : Stmt := top 36
abbrev pBody : List Str := ["_law_d", "_law_at", "_law_deep"]
abbrev FBody (K : Frg) (mg : Str → Option Value) := Fd K mg "_law_body" sBody pBody
def spBody (K : Frg) (n : Nat) : Sp := fun vs H Q _ => ∃ (d sa : Addr) (ns : List Int) (at_ : Nat), vs = [.ref d, .int (at_ : Int), .int (n : Int)] ∧ n ≤ 2 ∧ Ent K H d sa ns ∧
  ∀ l bs rs H', Dc K H H' d sa ns → H l = none → H' l = some (.lst (bs.map V.ref)) → RowsAt H' bs rs → rs.length ≤ 3 * PB n → 4 * tests rs ≤ rs.length → (∀ r ∈ rs, r.ok 8 (at_ + rs.length + 1)) → Q (.ref l) H'
def BodyAt (K : Frg) (H0 : Hp) (d sa : Addr) (ns : List Int) (l : Addr) (at_ : Nat) (z : Nat) (H : Hp) : Prop :=
  ∃ bs rs, Dc K H0 H d sa ns ∧ H0 l = none ∧ H l = some (.lst (bs.map V.ref)) ∧ RowsAt H bs rs ∧ rs.length ≤ z ∧ 4 * tests rs ≤ rs.length ∧ ∀ r ∈ rs, r.ok 8 (at_ + rs.length + 1)
theorem BodyAt.after {K : Frg} {H0 H H' : Hp} {d sa : Addr} {ns : List Int} {l : Addr} {a z : Nat} (h : BodyAt K H0 d sa ns l a z H) (C : Dc K H H' d sa ns) : BodyAt K H0 d sa ns l a z H' := by
  obtain ⟨bs, rs, C0, n0, hl, hR, hz, hT, ho⟩ := h
  exact ⟨bs, rs, C0.trans C, n0, C.but _ _ (C0.ned n0) hl, hR.kp C.kp, hz, hT, ho⟩
theorem PB_le : ∀ {n : Nat}, n ≤ 2 → PB n ≤ 78
  | 0, _ => by decide
  | 1, _ => by decide
  | 2, _ => by decide
section
variable {P : Program} {w : World} {K : PySem.W.Frag} {mg : Str → Option Value} {base : Heap}
abbrev nBody : List Str := ["_law_d", "_law_at", "_law_deep", "_law_found", "_law_turn", "_law_here", "_law_way", "_law_inner", "_law_behind"]
theorem scBody : FnScope nBody pBody (defScope sBody) := ⟨rfl, rfl, rfl, by decide +kernel, rfl, by decide +kernel, by decide +kernel⟩
theorem body_one {k n : Nat} {sp : Sp} (cBody : FBody K mg) (cFork : FFork K mg) (cStraight : FStraight K mg) (cNext : FNext K mg) (T : Bt mg) (h3 : 3 ≤ k) (GBody : FnOk P w K mg base CX0 k cBody.f cBody.fd pBody sp) (hk : 0 < n → ∀ vs H Q E, spBody K (n - 1) vs H Q E → sp vs H Q E) :
    FnOk P w K mg base CX0 (k + 1) cBody.f cBody.fd pBody (spBody K n) := by
  have GNext : FnOk P w K mg base CX0 1 cNext.f cNext.fd ["_law_dice_here", "_law_many"] (spNext K) := ok_next cNext.F T
  have GStraight : FnOk P w K mg base CX0 2 cStraight.f cStraight.fd ["_law_d", "_law_at"] (spStraight K) := ok_straight cStraight cNext T
  have GFork : FnOk P w K mg base CX0 3 cFork.f cFork.fd ["_law_d", "_law_at"] (spFork K) := ok_fork cFork cStraight cNext T
  refine cBody.F.ok scBody (fun vs H Q E h => ?_) (fun cdv A outer s H vs Q E hr h => ?_)
  · obtain ⟨d, sa, ns, a, rfl, _⟩ := h
    rfl
  · obtain ⟨d, sa, ns, a, rfl, n2, hE, kq⟩ := h
    refine ⟨_, (pss_cons (ps_set (i := 3) scBody.nd rfl (Or.inl rfl) (pe_lst pa_nil))
      (pss_cons (ps_for PassesOwn.never rfl (pi_range1 rfl T.range (pa_cons (pe_op op_add pe_int (pe_call GNext (hr.mono (by first | omega | decide)) (by rfl) cNext.m cNext.F.kp cNext.b .nil pass0 (pa_cons (pv 0) (pa_cons pe_int pa_nil)))) pa_nil)) (pg_name (i := 4) scBody.nd rfl (Or.inl rfl))
          (pss_cons (ps_set (i := 5) scBody.nd rfl (Or.inl rfl) (pe_op op_add (pv 1) (pe_callB call_len_seq (by rfl) T.len PySem.boot_len (pa_cons (pv 3) pa_nil))))
          (pss_cons (ps_set (i := 6) scBody.nd rfl (Or.inl rfl) (pe_call GNext (hr.mono (by first | omega | decide)) (by rfl) cNext.m cNext.F.kp cNext.b .nil pass0 (pa_cons (pv 0) (pa_cons pe_int pa_nil))))
          (pss_one (ps_if (PW.pt (pw_or (pt_cmpR op_lt (pv 6) pe_int (nomark _)) (pw_or1 (PW.pt (pw_and (pt_cmpR op_eq (pv 6) pe_int (nomark _)) (pw_and (pt_cmpR op_lt (pv 2) pe_int (nomark _)) (pw_and1 (pt_cmpR op_eq (pe_call GNext (hr.mono (by first | omega | decide)) (by rfl) cNext.m cNext.F.kp cNext.b .nil pass0 (pa_cons (pv 0) (pa_cons pe_int pa_nil))) pe_int (nomark _)))))))))
              (pss_one (ps_expr (pe_bm PySem.F.plainAttrs_list PySem.F.slot_list_append PySem.F.type_list_append mt_append (pv 3) (pa_cons (pe_call GStraight (hr.mono (by first | omega | decide)) (by rfl) cStraight.m cStraight.F.kp cStraight.b .nil pass0 (pa_cons (pv 0) (pa_cons (pv 5) pa_nil))) pa_nil))))
              (pss_one (ps_if (pt_cmpR op_eq (pv 6) pe_int (nomark _))
                  (pss_one (ps_set (i := 3) scBody.nd rfl (Or.inl rfl) (pe_op op_cat (pv 3) (pe_call GFork (hr.mono (by first | omega | decide)) (by rfl) cFork.m cFork.F.kp cFork.b .nil pass0 (pa_cons (pv 0) (pa_cons (pv 5) pa_nil))))))
                  (pss_one (ps_if (pt_cmpR op_gt (pv 2) pe_int (nomark _))
                      (pss_cons (ps_set (i := 7) scBody.nd rfl (Or.inl rfl) (pe_call GBody (hr.mono (by first | omega | decide)) (by rfl) cBody.m cBody.F.kp cBody.b .nil pass0 (pa_cons (pv 0) (pa_cons (pe_op op_add (pv 5) pe_int) (pa_cons (pe_op op_sub (pv 2) pe_int) pa_nil)))))
                      (pss_cons (ps_set (i := 8) scBody.nd rfl (Or.inl rfl) (pe_op op_add (pe_op op_add (pv 5) pe_int) (pe_callB call_len_seq (by rfl) T.len PySem.boot_len (pa_cons (pv 7) pa_nil))))
                      (pss_cons (ps_set (i := 3) scBody.nd rfl (Or.inl rfl) (pe_op op_cat (pe_op op_cat (pv 3) (pe_lst (pa_cons (pe_tup (pa_cons pe_str (pa_cons (pv 2) (pa_cons (pe_op op_add (pv 5) pe_int) pa_nil)))) (pa_cons (pe_tup (pa_cons pe_str (pa_cons (pe_op op_add pe_int (pv 2)) (pa_cons (pe_op op_add (pv 5) pe_int) pa_nil)))) pa_nil)))) (pv 7)))
                      (pss_cons (ps_set (i := 3) scBody.nd rfl (Or.inl rfl) (pe_op op_cat (pv 3) (pe_lst (pa_cons (pe_tup (pa_cons pe_str (pa_cons (pe_op op_add pe_int (pv 2)) (pa_cons (pe_op op_add (pv 8) pe_int) pa_nil)))) (pa_cons (pe_tup (pa_cons pe_str (pa_cons pe_int (pa_cons (pe_op op_add (pv 8) pe_int) pa_nil)))) (pa_cons (pe_tup (pa_cons pe_str (pa_cons (pe_op op_add pe_int (pv 2)) (pa_cons (pe_op op_add (pv 8) pe_int) pa_nil)))) pa_nil))))))
                      (pss_one (ps_expr (pe_bm PySem.F.plainAttrs_list PySem.F.slot_list_append PySem.F.type_list_append mt_append (pv 3) (pa_cons (pe_tup (pa_cons pe_str (pa_cons (pe_op op_add (pv 8) pe_int) (pa_cons (pe_op op_add (pv 5) pe_int) pa_nil)))) pa_nil))))))))
                      pss_nil)))))))))
      (pss_one (ps_ret (pv 3))))), ?_⟩
    refine ⟨Nat.zero_le _, fun l0 hl0 => ?_⟩
    have B0 : BodyAt K H d sa ns l0 a 0 (upd H l0 (.lst [])) := ⟨[], [], (Dc.refl hE).new hl0, hl0, upd_same, .nil, Nat.le_refl _, Nat.le_refl 0, fun _ h => absurd h (by simp)⟩
    have C0 : Dc K H (upd H l0 (.lst [])) d sa ns := (Dc.refl hE).new hl0
    refine ⟨_, rfl, d, sa, ns, _, rfl, C0.ent, by decide, by decide, fun n3 H1 n30 n31 C1 => ?_⟩
    refine ⟨_, _, rfl, rfl, _, rfl, by omega, by omega, ?_⟩
    refine for_range (lo := 0) (n := (1 + n3).toNat) (fun i σ H' => ∃ (l : Addr) (x4 x5 x6 x7 x8 : Option V), σ = [some (.ref d), some (.int (a : Int)), some (.int (n : Int)), some (.ref l), x4, x5, x6, x7, x8] ∧ BodyAt K H d sa ns l a (i * PB n) H')
      ⟨l0, _, _, _, _, _, rfl, by rw [Nat.zero_mul]; exact B0.after C1⟩ ?_ ?_
    · rintro i σ H2 hi ⟨l, x4, x5, x6, x7, x8, rfl, bs, rs, C2, l0, hl, hR, hz, hT, ho⟩
      have hbl := Paired.length hR
      refine ⟨_, rfl, _, rfl, l, _, rfl, .inl (SqL.of hl), _, _, rfl, rfl, ?_⟩
      refine ⟨_, rfl, d, sa, ns, _, rfl, C2.ent, by decide, by decide, fun n6 H3 n60 n61 C3 => ?_⟩
      dsimp only [gName]
      refine if_elim (fun _ H4 => Dc K H2 H4 d sa ns) ?_ ?_
      · intro bb H4 C4
        have C24 := C2.trans C4
        have hl4 := C4.but _ _ (C2.ned l0) hl
        have hR4 := hR.kp C4.kp
        have hh : (a : Int) + ((bs.map V.ref).length : Int) = ((a + rs.length : Nat) : Int) := by rw [List.length_map, hbl]; rfl
        have hm : (i + 1) * PB n = i * PB n + PB n := Nat.succ_mul _ _
        have hp6 : 6 ≤ PB n := by cases n with
          | zero => exact Nat.le_refl _
          | succ n => show 6 ≤ 6 + 3 * PB n; omega
        have hi3 : i < 3 := by omega
        have hbig : i * PB n ≤ 300 := by
          have h1 := PB_le n2
          have h2 := Nat.mul_le_mul (show i ≤ 3 by omega) h1
          omega
        cases bb with
        | true =>
          refine ⟨_, rfl, .inl ⟨rfl, _, SqL.of hl4⟩, _, rfl, _, rfl, d, sa, ns, a + rs.length, ?_, C24.ent, fun t r H5 C5 ht hp ho5 => ?_⟩
          · show [V.ref d, V.int ((a : Int) + ((bs.map V.ref).length : Int))] = _
            rw [hh]
          · have hl5 := C5.but _ _ (C24.ned l0) hl4
            refine ⟨l, _, _, rfl, rfl, hl5, szl (by rw [List.length_map]; omega), ?_⟩
            refine ⟨l, _, _, _, _, _, rfl, bs ++ [t], rs ++ [r], (C24.trans C5).mut l0, l0, by rw [upd_same, List.map_append]; rfl, ?_, by rw [List.length_append, List.length_singleton]; omega, by rw [tests_app, tests_one, isT_plain hp, List.length_append, List.length_singleton]; omega, ?_⟩
            · exact RowsAt.kp (Paired.app (hR4.kp C5.kp) (Paired.one ht)) (Kp.lst hl5)
            · rw [List.length_append, List.length_singleton]
              exact all_snoc (fun y m => (ho y m).mono (by omega)) (ho5.mono (by omega))
        | false =>
          refine ⟨_, rfl, rfl, _, rfl, ite2 (fun _ => ?_) (fun _ => ?_)⟩
          · refine ⟨_, rfl, _, rfl, _, rfl, d, sa, ns, a + rs.length, ?_, C24.ent, fun l2 bs2 rs2 H5 C5 nl2 hl2 hR2 h21 h26 hT2 ho2 => ?_⟩
            · show [V.ref d, V.int ((a : Int) + ((bs.map V.ref).length : Int))] = _
              rw [hh]
            · have hl5 := C5.but _ _ (C24.ned l0) hl4
              have hb2 := Paired.length hR2
              refine ⟨l, l2, _, _, rfl, rfl, hl5, hl2, sz (by rw [List.length_map, List.length_map]; omega), fun l3 hl3 => ?_⟩
              refine ⟨l3, _, _, _, _, _, rfl, bs ++ bs2, rs ++ rs2, (C24.trans C5).new hl3, (C24.trans C5).here hl3, by rw [upd_same, List.map_append], ?_, by rw [List.length_append]; omega, by rw [tests_app, List.length_append]; omega, ?_⟩
              · exact RowsAt.kp (Paired.app (hR4.kp C5.kp) hR2) (Kp.new hl3)
              · rw [List.length_append]
                exact all_app (fun y m => (ho y m).mono (by omega)) (fun y m => (ho2 y m).mono (by omega))
          · refine ⟨_, rfl, _, _, rfl, rfl, _, rfl, ite2 (fun c => ?_) (fun _ => ?_)⟩
            · have hn0 : 0 < n := by
                have c := of_decide_eq_true c
                omega
              have hPn : PB n = 6 + 3 * PB (n - 1) := by
                obtain ⟨n', e⟩ : ∃ n', n = n' + 1 := ⟨n - 1, by omega⟩
                subst e
                rfl
              have hP1 := PB_le (n := n - 1) (by omega)
              refine ⟨_, rfl, _, rfl, _, _, rfl, rfl, _, rfl, _, _, rfl, rfl, ?_⟩
              refine hk hn0 _ _ _ _ ⟨d, sa, ns, a + rs.length + 2, ?_, by omega, C24.ent, fun li bsi rsi H5 C5 nli hli hRi hzi hTi hoi => ?_⟩
              · show [V.ref d, V.int ((a : Int) + ((bs.map V.ref).length : Int) + 2), V.int ((n : Int) - 1)] = [V.ref d, V.int ((a + rs.length + 2 : Nat) : Int), V.int ((n - 1 : Nat) : Int)]
                rw [hh, show ((n - 1 : Nat) : Int) = (n : Int) - 1 by omega]
                rfl
              · have hl5 := C5.but _ _ (C24.ned l0) hl4
                have hR5 := hR4.kp C5.kp
                have hbi := Paired.length hRi
                have C25 := C24.trans C5
                have nlli : l ≠ li := ne_of_none hl4 nli
                refine ⟨_, rfl, _, _, rfl, rfl, _, rfl, li, _, rfl, .inl (SqL.of hli), _, _, rfl, rfl, ?_⟩
                refine ⟨_, rfl, _, rfl, _, rfl, _, _, rfl, rfl, (by show 3 ≤ sizeLine; decide), fun t1 ht1 => ?_⟩
                refine alloc ht1 fun H6 s6 e6 => ?_
                refine ⟨_, rfl, _, _, rfl, rfl, _, rfl, _, _, rfl, rfl, (by show 3 ≤ sizeLine; decide), fun t2 ht2 => ?_⟩
                refine alloc ht2 fun H7 s7 e7 => ?_
                refine ⟨(by show 2 ≤ sizeLine; decide), fun l6 hl6 => ?_⟩
                refine alloc hl6 fun H8 s8 e8 => ?_
                have S58 := (s6.trans s7).trans s8
                refine ⟨l, l6, _, _, rfl, rfl, S58 _ _ hl5, e8, sz (by rw [List.length_map]; show _ + 2 ≤ _; omega), fun l7 hl7 => ?_⟩
                refine alloc hl7 fun H9 s9 e9 => ?_
                refine ⟨_, rfl, l7, li, _, _, rfl, rfl, e9, (S58.trans s9) _ _ hli, sz (by rw [List.length_append, List.length_map, List.length_map]; show _ + 2 + _ ≤ _; omega), fun l8 hl8 => ?_⟩
                refine alloc hl8 fun H10 s10 e10 => ?_
                refine ⟨_, rfl, _, rfl, _, _, rfl, rfl, _, rfl, _, _, rfl, rfl, (by show 3 ≤ sizeLine; decide), fun t3 ht3 => ?_⟩
                refine alloc ht3 fun H11 s11 e11 => ?_
                refine ⟨_, rfl, _, _, rfl, rfl, (by show 3 ≤ sizeLine; decide), fun t4 ht4 => ?_⟩
                refine alloc ht4 fun H12 s12 e12 => ?_
                refine ⟨_, rfl, _, _, rfl, rfl, _, rfl, _, _, rfl, rfl, (by show 3 ≤ sizeLine; decide), fun t5 ht5 => ?_⟩
                refine alloc ht5 fun H13 s13 e13 => ?_
                refine ⟨(by show 3 ≤ sizeLine; decide), fun l9 hl9 => ?_⟩
                refine alloc hl9 fun H14 s14 e14 => ?_
                have S1014 := ((s11.trans s12).trans s13).trans s14
                refine ⟨l8, l9, _, _, rfl, rfl, S1014 _ _ e10, e14, sz (by rw [List.length_append, List.length_append, List.length_map, List.length_map]; show _ + 2 + _ + 3 ≤ _; omega), fun l10 hl10 => ?_⟩
                refine alloc hl10 fun H15 s15 e15 => ?_
                refine ⟨_, rfl, .inl ⟨rfl, _, SqL.of e15⟩, _, rfl, _, _, rfl, rfl, _, rfl, _, _, rfl, rfl, (by show 3 ≤ sizeLine; decide), fun t6 ht6 => ?_⟩
                refine alloc ht6 fun H16 s16 e16 => ?_
                have S516 := (((S58.trans s9).trans s10).trans S1014).trans (s15.trans s16)
                have C26 := C25.same S516
                have n10 : H l10 = none := C25.here ((((S58.trans s9).trans s10).trans S1014).free hl10)
                have f10 : H16 l10 = some (.lst (((bs.map V.ref ++ [.ref t1, .ref t2]) ++ bsi.map V.ref) ++ [.ref t3, .ref t4, .ref t5])) := s16 _ _ e15
                refine ⟨l10, _, _, rfl, rfl, f10, szl (by simp only [List.length_append, List.length_map, List.length_cons, List.length_nil]; omega), ?_⟩
                refine ⟨l10, _, _, _, _, _, rfl, ((bs ++ [t1, t2]) ++ bsi) ++ ([t3, t4, t5] ++ [t6]),
                  ((rs ++ [Row.load n (a + rs.length + 1), .store (2 + n) (a + rs.length + 2)]) ++ rsi) ++ ([Row.load (2 + n) (a + rs.length + 2 + rsi.length + 1), .take 0 (a + rs.length + 2 + rsi.length + 2), .store (2 + n) (a + rs.length + 2 + rsi.length + 3)] ++ [Row.test (a + rs.length + 2 + rsi.length + 4) (a + rs.length + 2)]),
                  C26.mut n10, n10, ?_, ?_, ?_, ?_, ?_⟩
                · rw [upd_same]
                  simp only [List.map_append, List.map_cons, List.map_nil, List.append_assoc]
                · refine RowsAt.kp ?_ (Kp.lst f10)
                  have hbe : (a : Int) + ((bs.map V.ref).length : Int) + 2 + ((bsi.map V.ref).length : Int) = ((a + rs.length + 2 + rsi.length : Nat) : Int) := by rw [hh, List.length_map, hbi]; rfl
                  refine Paired.app (Paired.app (Paired.app (hR5.kp (Kp.same S516)) (.cons ?_ (.cons ?_ .nil))) (hRi.kp (Kp.same S516))) (Paired.app (.cons ?_ (.cons ?_ (.cons ?_ .nil))) (Paired.one ?_))
                  · refine (s7.trans (s8.trans (s9.trans (s10.trans (S1014.trans (s15.trans s16)))))) _ _ (e6.trans ?_)
                    show some (HO.tup [V.str "load", V.int (n : Int), V.int ((a : Int) + ((bs.map V.ref).length : Int) + 1)]) = _
                    rw [hh]
                    rfl
                  · refine (s8.trans (s9.trans (s10.trans (S1014.trans (s15.trans s16))))) _ _ (e7.trans ?_)
                    show some (HO.tup [V.str "store", V.int (2 + (n : Int)), V.int ((a : Int) + ((bs.map V.ref).length : Int) + 2)]) = _
                    rw [hh, show (2 : Int) + (n : Int) = ((2 + n : Nat) : Int) by omega]
                    rfl
                  · refine (s12.trans (s13.trans (s14.trans (s15.trans s16)))) _ _ (e11.trans ?_)
                    show some (HO.tup [V.str "load", V.int (2 + (n : Int)), V.int ((a : Int) + ((bs.map V.ref).length : Int) + 2 + ((bsi.map V.ref).length : Int) + 1)]) = _
                    rw [hbe, show (2 : Int) + (n : Int) = ((2 + n : Nat) : Int) by omega]
                    rfl
                  · refine (s13.trans (s14.trans (s15.trans s16))) _ _ (e12.trans ?_)
                    show some (HO.tup [V.str "take", V.int 0, V.int ((a : Int) + ((bs.map V.ref).length : Int) + 2 + ((bsi.map V.ref).length : Int) + 2)]) = _
                    rw [hbe]
                    rfl
                  · refine (s14.trans (s15.trans s16)) _ _ (e13.trans ?_)
                    show some (HO.tup [V.str "store", V.int (2 + (n : Int)), V.int ((a : Int) + ((bs.map V.ref).length : Int) + 2 + ((bsi.map V.ref).length : Int) + 3)]) = _
                    rw [hbe, show (2 : Int) + (n : Int) = ((2 + n : Nat) : Int) by omega]
                    rfl
                  · refine e16.trans ?_
                    show some (HO.tup [V.str "test", V.int ((a : Int) + ((bs.map V.ref).length : Int) + 2 + ((bsi.map V.ref).length : Int) + 4), V.int ((a : Int) + ((bs.map V.ref).length : Int) + 2)]) = _
                    rw [hbe, hh]
                    rfl
                · simp only [List.length_append, List.length_cons, List.length_nil]
                  omega
                · have t1 := isT_le (.test (a + rs.length + 2 + rsi.length + 4) (a + rs.length + 2))
                  have q1 : isT (.load n (a + rs.length + 1)) = 0 := isT_plain trivial
                  have q2 : isT (.store (2 + n) (a + rs.length + 2)) = 0 := isT_plain trivial
                  have q3 : isT (.load (2 + n) (a + rs.length + 2 + rsi.length + 1)) = 0 := isT_plain trivial
                  have q4 : isT (.take 0 (a + rs.length + 2 + rsi.length + 2)) = 0 := isT_plain trivial
                  have q5 : isT (.store (2 + n) (a + rs.length + 2 + rsi.length + 3)) = 0 := isT_plain trivial
                  simp only [tests_app, tests_cons, tests_one, show tests [] = 0 from rfl, q1, q2, q3, q4, q5, List.length_append, List.length_cons, List.length_nil]
                  omega
                · have hL : (((rs ++ [Row.load n (a + rs.length + 1), .store (2 + n) (a + rs.length + 2)]) ++ rsi) ++ ([Row.load (2 + n) (a + rs.length + 2 + rsi.length + 1), .take 0 (a + rs.length + 2 + rsi.length + 2), .store (2 + n) (a + rs.length + 2 + rsi.length + 3)] ++ [Row.test (a + rs.length + 2 + rsi.length + 4) (a + rs.length + 2)])).length = rs.length + rsi.length + 6 := by
                    simp only [List.length_append, List.length_cons, List.length_nil]
                    omega
                  rw [hL]
                  refine all_app (all_app (all_app (fun y m => (ho y m).mono (by omega)) ?_) (fun y m => (hoi y m).mono (by omega))) (all_app ?_ ?_)
                  all_goals
                    intro y m
                    simp only [List.mem_cons, List.mem_singleton, List.not_mem_nil, or_false] at m
                    first
                      | (rcases m with rfl | rfl | rfl <;> (simp only [Row.ok]; omega))
                      | (rcases m with rfl | rfl <;> (simp only [Row.ok]; omega))
                      | (rcases m with rfl; simp only [Row.ok]; omega)
            · exact ⟨l, _, _, _, _, _, rfl, bs, rs, C24, l0, hl4, hR4, by omega, hT, ho⟩
      · intro F' hF
        refine ⟨_, rfl, _, _, rfl, rfl, _, rfl, ite2 (fun _ => hF _ _ C3) (fun _ => ?_)⟩
        refine ⟨_, rfl, rfl, _, rfl, ite2 (fun _ => ?_) (fun _ => hF _ _ C3)⟩
        refine ⟨_, rfl, _, _, rfl, rfl, _, rfl, ite2 (fun _ => ?_) (fun _ => hF _ _ C3)⟩
        refine ⟨_, rfl, d, sa, ns, _, rfl, (C2.trans C3).ent, by decide, by decide, fun n7 H5 n70 n71 C5 => ?_⟩
        exact ⟨rfl, _, rfl, hF _ _ (C3.trans C5)⟩
    · rintro σ H2 ⟨l, x4, x5, x6, x7, x8, rfl, bs, rs, C2, l0, hl, hR, hz, hT, ho⟩
      refine ⟨_, rfl, kq l bs rs H2 C2 l0 hl hR ?_ hT ho⟩
      refine Nat.le_trans hz (Nat.mul_le_mul_right _ ?_)
      omega
theorem ok_body (cBody : FBody K mg) (cFork : FFork K mg) (cStraight : FStraight K mg) (cNext : FNext K mg) (T : Bt mg) : ∀ n : Nat, FnOk P w K mg base CX0 (n + 4) cBody.f cBody.fd pBody (spBody K n)
  | 0 => body_one (k := 3) cBody cFork cStraight cNext T (Nat.le_refl _) ok_no (fun h => absurd h (Nat.lt_irrefl 0))
  | n + 1 => body_one (k := n + 4) cBody cFork cStraight cNext T (by omega) (ok_body cBody cFork cStraight cNext T n) (fun _ vs H Q E h => h)
def spBodyU (K : Frg) : Sp := fun vs H Q E => ∃ n, n ≤ 2 ∧ spBody K n vs H Q E
theorem ok_bodyU (cBody : FBody K mg) (cFork : FFork K mg) (cStraight : FStraight K mg) (cNext : FNext K mg) (T : Bt mg) : FnOk P w K mg base CX0 6 cBody.f cBody.fd pBody (spBodyU K) := by
  refine ⟨fun vs H Q E ⟨n, hn, h⟩ => (ok_body (P := P) (w := w) (base := base) cBody cFork cStraight cNext T n).len _ _ _ _ h, fun A outer s H args us vs Q E hr he hb hv ⟨n, hn, h⟩ => ?_⟩
  exact ((ok_body cBody cFork cStraight cNext T n).mono (by omega)).run A outer s H args us vs Q E hr he hb hv h
end
end DL
namespace DL
open PySem L2 DLR
/-! ### programs -/
structure Prog where
  ws : List Int
  rows : List Row
structure Good (p : Prog) : Prop where
  r1 : 1 ≤ p.rows.length
  r40 : p.rows.length ≤ 40
  w8 : p.ws.length ≤ 8
  num : ∀ x ∈ p.ws, -1000000 ≤ x ∧ x ≤ 1000000
  ok : ∀ r ∈ p.rows, r.ok p.ws.length p.rows.length
def ProgAt (H : Hp) (a : Addr) (p : Prog) : Prop :=
  ∃ (wa ra : Addr) (bs : List Addr), H a = some (.tup [.ref wa, .ref ra]) ∧ H wa = some (.tup (p.ws.map V.int)) ∧ H ra = some (.tup (bs.map V.ref)) ∧ RowsAt H bs p.rows
theorem ProgAt.kp {H H' : Hp} {a : Addr} {p : Prog} (h : ProgAt H a p) (k : Kp H H') : ProgAt H' a p := by
  obtain ⟨wa, ra, bs, h1, h2, h3, h4⟩ := h
  exact ⟨wa, ra, bs, k _ _ h1, k _ _ h2, k _ _ h3, h4.kp k⟩
def nI (n : Nat) : V := .int (n : Int)
def PopAt (K : Frg) (H0 : Hp) (d sa : Addr) (ns : List Int) (D l : Addr) (all : List Nat) (i : Nat) (H : Hp) : Prop :=
  ∃ ks ls : List Nat, Dc K H0 H d sa ns ∧ H0 D = none ∧ H0 l = none ∧ D ≠ l ∧ H D = some (.lst (ks.map nI)) ∧ H l = some (.lst (ls.map nI)) ∧ (ks ++ ls).Perm all ∧ ks.length = i
theorem PopAt.perm {K : Frg} {H0 H : Hp} {d sa : Addr} {ns : List Int} {D l : Addr} {all : List Nat} (h : PopAt K H0 d sa ns D l all all.length H) :
    ∃ ks : List Nat, Dc K H0 H d sa ns ∧ H0 D = none ∧ H D = some (.lst (ks.map nI)) ∧ ks.Perm all := by
  obtain ⟨ks, ls, C, nD, nl, ne, hD, hl, hp, hk⟩ := h
  have e := hp.length_eq
  rw [List.length_append, hk] at e
  have z : ls = [] := List.length_eq_zero_iff.mp (by omega)
  subst z
  rw [List.append_nil] at hp
  exact ⟨ks, C, nD, hD, hp⟩
theorem erase_pm {α : Type} : ∀ {l : List α} {j : Nat} {x : α}, l[j]? = some x → (x :: l.eraseIdx j).Perm l
  | [], j, x, h => by simp at h
  | y :: l, 0, x, h => by
    have e : y = x := by simpa using h
    subst e
    exact List.Perm.refl _
  | y :: l, j + 1, x, h => by
    have ih := erase_pm (l := l) (j := j) (x := x) (by simpa using h)
    exact (List.Perm.swap y x _).trans (List.Perm.cons y ih)
theorem sl1 {xs : List V} (h : 1 ≤ xs.length) : cutV xs none (some 1) = xs.take 1 := by
  unfold cutV
  have e : HT.sIx xs.length xs.length (some 1) = min 1 xs.length := HT.sIx_nat _ _ 1
  rw [e, HT.sIx_none, List.drop_zero, Nat.sub_zero, Nat.min_eq_left h]
theorem drop1 {xs : List V} : cutV xs (some 1) none = xs.drop 1 := by
  unfold cutV
  have e : HT.sIx xs.length 0 (some 1) = min 1 xs.length := HT.sIx_nat _ _ 1
  rw [e, HT.sIx_none]
  cases xs with
  | nil => rfl
  | cons x xs =>
    have q : min 1 (x :: xs).length = 1 := Nat.min_eq_left (by simp)
    rw [q]
    exact List.take_of_length_le (by simp)
theorem map_erase {α β : Type} (f : α → β) : ∀ (l : List α) (j : Nat), (l.eraseIdx j).map f = (l.map f).eraseIdx j
  | [], _ => rfl
  | _ :: _, 0 => rfl
  | x :: l, j + 1 => by
    show f x :: (l.eraseIdx j).map f = f x :: (l.map f).eraseIdx j
    rw [map_erase f l j]
theorem pop_perm {ks ls all : List Nat} {j : Nat} {x : Nat} (h : (ks ++ ls).Perm all) (e : ls[j]? = some x) : ((ks ++ [x]) ++ ls.eraseIdx j).Perm all := by
  refine List.Perm.trans ?_ h
  rw [List.append_assoc]
  exact List.Perm.append_left _ (erase_pm e)
theorem nI_get {l : List Nat} {j : Nat} (h : j < l.length) : (l.map nI)[j]? = some (.int ((l[j] : Nat) : Int)) := by
  rw [List.getElem?_map, List.getElem?_eq_getElem h]
  rfl
theorem nI_getD {l : List Nat} {j : Nat} (h : j < l.length) : (l.map nI)[j]? = some (.int ((l.getD j 0 : Nat) : Int)) := by
  rw [nI_get h, List.getD_eq_getElem?_getD, List.getElem?_eq_getElem h]
  rfl
theorem nI_flat (l : List Nat) : (l.map nI).all flatV = true := by
  rw [List.all_eq_true]
  intro x hx
  obtain ⟨n, _, rfl⟩ := List.mem_map.mp hx
  rfl
theorem nI_none {l : List Nat} {x m : Nat} {z : V} (h : l[m]? ≠ some x) (e : (l.map nI)[m]? = some z) : eqV z (.int (x : Int)) = false := by
  rw [List.getElem?_map] at e
  cases q : l[m]? with
  | none => rw [q] at e; cases e
  | some y =>
    rw [q] at e
    have ez : nI y = z := Option.some.inj e
    subst ez
    show ((y : Int) == (x : Int)) = false
    refine beq_eq_false_iff_ne.mpr fun z => h ?_
    rw [q, Int.ofNat_inj.mp z]
theorem rgV_nI (n : Nat) : rgV 0 (n : Int) = (List.range n).map nI := by
  unfold rgV
  have e : ((n : Int) - 0).toNat = n := by omega
  rw [e]
  refine List.map_congr_left fun i _ => ?_
  show V.int (0 + (i : Int)) = V.int (i : Int)
  rw [Int.zero_add]
theorem rgV_nI1 (n : Nat) : rgV 1 (n : Int) = ((List.range (n - 1)).map (· + 1)).map nI := by
  unfold rgV
  have e : ((n : Int) - 1).toNat = n - 1 := by omega
  rw [e, List.map_map]
  refine List.map_congr_left fun i _ => ?_
  show V.int (1 + (i : Int)) = V.int ((i + 1 : Nat) : Int)
  rw [show ((i + 1 : Nat) : Int) = 1 + (i : Int) by omega]
def Row.ren (f g : Nat → Nat) : Row → Row
  | .load w n => .load (f w) (g n)
  | .add w n => .add (f w) (g n)
  | .take w n => .take (f w) (g n)
  | .store w n => .store (f w) (g n)
  | .say n => .say (g n)
  | .test a b => .test (g a) (g b)
  | .stop => .stop
def Row.uses : Row → Bool
  | .load _ _ => true
  | .add _ _ => true
  | .take _ _ => true
  | .store _ _ => true
  | _ => false
def Row.word : Row → Str
  | .load _ _ => "load"
  | .add _ _ => "add"
  | .take _ _ => "take"
  | .store _ _ => "store"
  | .say _ => "say"
  | .test _ _ => "test"
  | .stop => "stop"
theorem Row.w0 (r : Row) : (rowVs r)[0]? = some (.str r.word) := by cases r <;> rfl
theorem Row.ren_len (f g : Nat → Nat) (r : Row) : (rowVs (r.ren f g)).length = (rowVs r).length := by cases r <;> rfl
theorem Row.ren_w (f g : Nat → Nat) (r : Row) : (rowVs r).take 1 = (rowVs (r.ren f g)).take 1 := by cases r <;> rfl
theorem Row.ren_ok {f g : Nat → Nat} {W N : Nat} (hf : ∀ x, x < W → f x < W) (hg : ∀ x, x < N → g x < N) : ∀ {r : Row}, r.ok W N → (r.ren f g).ok W N := fun {r} h => by
  cases r <;> simp only [Row.ok, Row.ren] at * <;> first | exact ⟨hf _ h.1, hg _ h.2⟩ | exact ⟨hg _ h.1, hg _ h.2⟩ | exact hg _ h
theorem Row.ren_at {f g : Nat → Nat} {W N : Nat} : ∀ {r : Row} {i : Nat}, r.ok W N → i + 1 < (rowVs r).length → ∃ x : Nat, (rowVs r)[i + 1]? = some (.int (x : Int)) ∧
    ((i == 0 && r.uses) = true → x < W ∧ (rowVs (r.ren f g))[i + 1]? = some (.int (f x : Int))) ∧ ((i == 0 && r.uses) = false → x < N ∧ (rowVs (r.ren f g))[i + 1]? = some (.int (g x : Int))) := by
  intro r i h hi
  have hi3 : i < 2 := by have := Row.vs_len r; omega
  match i, hi3 with
  | 0, _ =>
    cases r <;> first
      | exact ⟨_, rfl, fun _ => ⟨h.1, rfl⟩, fun e => Bool.noConfusion e⟩
      | exact ⟨_, rfl, fun e => Bool.noConfusion e, fun _ => ⟨h, rfl⟩⟩
      | exact ⟨_, rfl, fun e => Bool.noConfusion e, fun _ => ⟨h.1, rfl⟩⟩
      | (exfalso; simp [rowVs] at hi)
  | 1, _ =>
    cases r <;> first
      | exact ⟨_, rfl, fun e => Bool.noConfusion e, fun _ => ⟨h.2, rfl⟩⟩
      | (exfalso; simp [rowVs] at hi)
theorem Row.in4 (r : Row) : inV (.str r.word) [.str "load", .str "add", .str "take", .str "store"] = r.uses := by cases r <;> (dsimp only [Row.word, Row.uses]; decide +kernel)
theorem first_of {l : List Nat} {x : Nat} (h : x ∈ l) : ∃ j, j < l.length ∧ l[j]? = some x ∧ ∀ m, m < j → l[m]? ≠ some x := by
  induction l with
  | nil => cases h
  | cons y l ih =>
    by_cases e : y = x
    · exact ⟨0, by simp, by simp [e], fun m hm => absurd hm (Nat.not_lt_zero _)⟩
    · obtain ⟨j, h1, h2, h3⟩ := ih ((List.mem_cons.mp h).resolve_left fun z => e z.symm)
      refine ⟨j + 1, by simp; omega, by simpa using h2, fun m hm => ?_⟩
      cases m with
      | zero => simpa using e
      | succ m => simpa using h3 m (by omega)
theorem refs_of {F : Addr → Row → Prop} : ∀ {l : List V}, (∀ i, i < l.length → ∃ b r, l[i]? = some (.ref b) ∧ F b r) → ∃ bs rs, l = bs.map V.ref ∧ Paired F bs rs
  | [], _ => ⟨[], [], rfl, .nil⟩
  | x :: l, h => by
    obtain ⟨b, r, h1, h2⟩ := h 0 (by simp)
    obtain ⟨bs, rs, h3, h4⟩ := refs_of (l := l) fun i hi => by
      obtain ⟨b, r, q1, q2⟩ := h (i + 1) (by simp; omega)
      exact ⟨b, r, by simpa using q1, q2⟩
    have e : x = .ref b := by simpa using h1
    exact ⟨b :: bs, r :: rs, by rw [e, h3]; rfl, .cons h2 h4⟩
theorem asg_elim {te : TE} {g : TG} {D : Ends} {σ : L2.St} {H : Hp} (R : V → Hp → Prop) (key : ∀ v H', R v H' → g v σ H' D.nx) (test : ∀ Q' : VK, (∀ v H', R v H' → Q' v H') → te σ H Q') : tAsg te g D σ H := test _ key
theorem ixN_nat {n x : Nat} (h : x < n) : ixN n (x : Int) = some x := by
  unfold ixN
  rw [if_pos (by omega), if_pos (by omega)]
  rfl
structure MixAt (K : Frg) (H0 : Hp) (d sa : Addr) (ns : List Int) (D1 ln lf : Addr) (ks nums ts : List Nat) (W N : Nat) (i : Nat) (H : Hp) : Prop where
  dc : Dc K H0 H d sa ns
  nf : H0 lf = none
  ne1 : D1 ≠ lf
  ne2 : ln ≠ lf
  names : H D1 = some (.lst (ks.map nI))
  numbers : H ln = some (.lst (nums.map nI))
  found : ∃ fs : List V, H lf = some (.lst fs) ∧ fs.length = N ∧ ∀ x, x < N → x ∈ nums.take i → ∃ b r, fs[x]? = some (.ref b) ∧ H b = some (.tup (rowVs r)) ∧ r.ok W N ∧ ∃ j, nums[j]? = some x ∧ isT r = ts.getD j 0
theorem MixAt.same {K : Frg} {H0 H H' : Hp} {d sa : Addr} {ns : List Int} {D1 ln lf : Addr} {ks nums ts : List Nat} {W N i : Nat} (m : MixAt K H0 d sa ns D1 ln lf ks nums ts W N i H) (s : Same1 H H') : MixAt K H0 d sa ns D1 ln lf ks nums ts W N i H' := by
  obtain ⟨fs, h1, h2, h3⟩ := m.found
  refine ⟨m.dc.same s, m.nf, m.ne1, m.ne2, s _ _ m.names, s _ _ m.numbers, fs, s _ _ h1, h2, fun x hx hm => ?_⟩
  obtain ⟨b, r, q1, q2, q3⟩ := h3 x hx hm
  exact ⟨b, r, q1, s _ _ q2, q3⟩
theorem MixAt.put {K : Frg} {H0 H : Hp} {d sa : Addr} {ns : List Int} {D1 ln lf : Addr} {ks nums ts : List Nat} {W N i y : Nat} {t : Addr} {r : Row} {fs : List V} (m : MixAt K H0 d sa ns D1 ln lf ks nums ts W N i H) (hf : H lf = some (.lst fs)) (hy : nums[i]? = some y) (hyN : y < N)
    (ht : H t = some (.tup (rowVs r))) (ho : r.ok W N) (hT : isT r = ts.getD i 0) : MixAt K H0 d sa ns D1 ln lf ks nums ts W N (i + 1) (upd H lf (.lst (fs.set y (.ref t)))) := by
  obtain ⟨fs', h1, h2, h3⟩ := m.found
  rw [hf] at h1
  have e : fs = fs' := by injection (Option.some.inj h1)
  subst e
  have kp : Kp H (upd H lf (.lst (fs.set y (.ref t)))) := Kp.lst hf
  refine ⟨m.dc.mut m.nf, m.nf, m.ne1, m.ne2, by rw [upd_ne m.ne1]; exact m.names, by rw [upd_ne m.ne2]; exact m.numbers, fs.set y (.ref t), upd_same, by rw [List.length_set]; exact h2, fun x hx hm => ?_⟩
  by_cases e : y = x
  · subst e
    exact ⟨t, r, by rw [List.getElem?_set_self (by omega)], kp _ _ ht, ho, i, hy, hT⟩
  · rw [List.getElem?_set_ne e]
    rw [List.take_add_one, hy] at hm
    rcases List.mem_append.mp hm with q | q
    · obtain ⟨b, r, q1, q2, q3⟩ := h3 x hx q
      exact ⟨b, r, q1, kp _ _ q2, q3⟩
    · have q : x = y := by simpa using q
      exact absurd q.symm e
theorem isT_of {r r' : Row} (h : rowVs r = rowVs r') : isT r = isT r' := by
  unfold isT
  rw [h]
theorem isT_ren (f g : Nat → Nat) (r : Row) : isT (r.ren f g) = isT r := by
  unfold isT
  have e : (rowVs (r.ren f g))[0]? = (rowVs r)[0]? := by cases r <;> rfl
  rw [e]
theorem permN_sum {α : Type} {f : α → Nat} {l m : List α} (h : l.Perm m) : (l.map f).sum = (m.map f).sum := by
  induction h with
  | nil => rfl
  | cons x _ ih => rw [List.map_cons, List.map_cons, List.sum_cons, List.sum_cons, ih]
  | swap x y l =>
    rw [List.map_cons, List.map_cons, List.map_cons, List.map_cons, List.sum_cons, List.sum_cons, List.sum_cons, List.sum_cons]
    omega
  | trans _ _ a b => rw [a, b]
theorem tests_range (rs : List Row) : tests rs = ((List.range rs.length).map fun x => isT (rs.getD x .stop)).sum := by
  unfold tests
  congr 1
  refine List.ext_getElem (by simp) fun i h1 h2 => ?_
  rw [List.length_map] at h1
  rw [List.getElem_map, List.getElem_map, List.getElem_range, List.getD_eq_getElem?_getD, List.getElem?_eq_getElem h1]
  rfl
theorem tests_perm {rs rs' : List Row} {nums : List Nat} (hl : rs'.length = rs.length) (hp : nums.Perm (List.range rs.length)) (h : ∀ x, x < rs.length → ∃ j, nums[j]? = some x ∧ isT (rs'.getD x .stop) = (rs.map isT).getD j 0) : tests rs' = tests rs := by
  have nd : nums.Nodup := hp.nodup_iff.mpr List.nodup_range
  rw [tests_range rs', hl, ← permN_sum hp]
  unfold tests
  congr 1
  have nl : nums.length = rs.length := by rw [hp.length_eq, List.length_range]
  refine List.ext_getElem (by rw [List.length_map, List.length_map, nl]) fun i h1 h2 => ?_
  rw [List.length_map] at h1 h2
  rw [List.getElem_map, List.getElem_map]
  have hx : nums[i] < rs.length := List.mem_range.mp (hp.mem_iff.mp (List.getElem_mem h1))
  obtain ⟨j, hj, e⟩ := h nums[i] hx
  obtain ⟨hj1, hj2⟩ := List.getElem?_eq_some_iff.mp hj
  have ij : j = i := (List.getElem_inj nd).mp hj2
  subst ij
  rw [e, List.getD_eq_getElem?_getD, List.getElem?_map, List.getElem?_eq_getElem h2]
  rfl
abbrev sMixed : Stmt := top 37
abbrev pMixed : List Str := ["_law_d", "_law_program"]
abbrev FMixed (K : Frg) (mg : Str → Option Value) := Fd K mg "_law_mixed" sMixed pMixed
def spMixed (K : Frg) : Sp := fun vs H Q _ => ∃ (d sa : Addr) (ns : List Int) (a : Addr) (p : Prog), vs = [.ref d, .ref a] ∧ Ent K H d sa ns ∧ ProgAt H a p ∧ Good p ∧
  ∀ b q H', Dc K H H' d sa ns → ProgAt H' b q → Good q → tests q.rows = tests p.rows → q.rows.length = p.rows.length → Q (.ref b) H'
section
variable {P : Program} {w : World} {K : PySem.W.Frag} {mg : Str → Option Value} {base : Heap}
abbrev nMixed : List Str := ["_law_d", "_law_program", "_law_worths", "_law_rows", "_law_left", "_law_names", "_law_row", "_law_numbers", "_law_found", "_law_number_here", "_law_told_here", "_law_k", "_law_is_worth", "_law_order", "_law_worth"]
theorem scMixed : FnScope nMixed pMixed (defScope sMixed) := ⟨rfl, rfl, rfl, by decide +kernel, rfl, by decide +kernel, by decide +kernel⟩
theorem ok_mixed (cMixed : FMixed K mg) (cNext : FNext K mg) (T : Bt mg) : FnOk P w K mg base CX0 2 cMixed.f cMixed.fd pMixed (spMixed K) := by
  have GNext : FnOk P w K mg base CX0 1 cNext.f cNext.fd ["_law_dice_here", "_law_many"] (spNext K) := ok_next cNext.F T
  refine cMixed.F.ok scMixed (fun vs H Q E h => ?_) (fun cdv A outer s H vs Q E hr h => ?_)
  · obtain ⟨d, sa, ns, a, p, rfl, _⟩ := h
    rfl
  · obtain ⟨d, sa, ns, a, p, rfl, hE, ⟨wa, ra, bs, ha, hwa, hra, hR⟩, g, kq⟩ := h
    refine ⟨_, (pss_cons (ps_asg (pv 1) (pg_tup rfl (pgs_cons (pg_name (i := 2) scMixed.nd rfl (Or.inr rfl)) (pgs_cons (pg_name (i := 3) scMixed.nd rfl (Or.inl rfl)) pgs_nil))))
      (pss_cons (ps_set (i := 4) scMixed.nd rfl (Or.inr rfl) (pe_listRg rfl (by rfl) T.list (prg_1 (by rfl) T.range (pe_callB call_len_seq (by rfl) T.len PySem.boot_len (pa_cons (pv 2) pa_nil)))))
      (pss_cons (ps_set (i := 5) scMixed.nd rfl (Or.inr rfl) (pe_lc (own := [("_law_worth", 14)]) (g := gName 14) (tt := tYes) rfl scMixed.nd (pi_tup (pv 2)) (blkOk_by (N := nMixed) (sc := defScope sMixed) (by decide +kernel)) (fun _ _ _ _ _ => (pg_name (i := 14) scMixed.nd rfl (Or.inl rfl))) (fun _ _ _ _ _ => pts_nil) (fun _ _ _ _ _ => (pe_bmK K rfl PySem.F.plainAttrs_list PySem.F.slot_list_pop PySem.F.type_list_pop mt_popAt (pv 4) (pa_cons (pe_call GNext (hr.mono (by first | omega | decide)) (by rfl) cNext.m cNext.F.kp cNext.b .nil pass0 (pa_cons (pv 0) (pa_cons (pe_callB (call_lenK K rfl) (by rfl) T.len PySem.boot_len (pa_cons (pv 4) pa_nil)) pa_nil))) pa_nil)))))
      (pss_cons (ps_set (i := 4) scMixed.nd rfl (Or.inr rfl) (pe_listRg rfl (by rfl) T.list (prg_2 (by rfl) T.range pe_int (pe_callB call_len_seq (by rfl) T.len PySem.boot_len (pa_cons (pv 3) pa_nil)))))
      (pss_cons (ps_set (i := 7) scMixed.nd rfl (Or.inl rfl) (pe_op op_cat (pe_lst (pa_cons pe_int pa_nil)) (pe_lc (own := [("_law_row", 6)]) (g := gName 6) (tt := tYes) rfl scMixed.nd (pi_tup (pe_slice sl_tupS (pv 3) (po_some pe_int) po_none)) (blkOk_by (N := nMixed) (sc := defScope sMixed) (by decide +kernel)) (fun _ _ _ _ _ => (pg_name (i := 6) scMixed.nd rfl (Or.inl rfl))) (fun _ _ _ _ _ => pts_nil) (fun _ _ _ _ _ => (pe_bmK K rfl PySem.F.plainAttrs_list PySem.F.slot_list_pop PySem.F.type_list_pop mt_popAt (pv 4) (pa_cons (pe_call GNext (hr.mono (by first | omega | decide)) (by rfl) cNext.m cNext.F.kp cNext.b .nil pass0 (pa_cons (pv 0) (pa_cons (pe_callB (call_lenK K rfl) (by rfl) T.len PySem.boot_len (pa_cons (pv 4) pa_nil)) pa_nil))) pa_nil))))))
      (pss_cons (ps_set (i := 8) scMixed.nd rfl (Or.inl rfl) (pe_op op_rep (pe_lst (pa_cons pe_non pa_nil)) (pe_callB call_len_seq (by rfl) T.len PySem.boot_len (pa_cons (pv 3) pa_nil))))
      (pss_cons (ps_for PassesOwn.never rfl (pi_enumT (by rfl) T.enumerate (pa_cons (pv 3) pa_nil)) (pg_tup rfl (pgs_cons (pg_name (i := 9) scMixed.nd rfl (Or.inl rfl)) (pgs_cons (pg_name (i := 6) scMixed.nd rfl (Or.inl rfl)) pgs_nil)))
          (pss_cons (ps_set (i := 10) scMixed.nd rfl (Or.inl rfl) (pe_slice sl_tupS (pv 6) po_none (po_some pe_int)))
          (pss_cons (ps_for PassesOwn.never rfl (pi_range2 rfl T.range (pa_cons pe_int (pa_cons (pe_callB call_len_seq (by rfl) T.len PySem.boot_len (pa_cons (pv 6) pa_nil)) pa_nil))) (pg_name (i := 11) scMixed.nd rfl (Or.inl rfl))
              (pss_cons (ps_set (i := 12) scMixed.nd rfl (Or.inl rfl) (pe_and (pe_cmpR op_eq (pv 11) pe_int (nomark _)) (pe_one (pe_cmpR op_in_seq (pe_ix ix_tup (pv 6) pe_int (fun _ _ => rfl)) (pe_tup (pa_cons pe_str (pa_cons pe_str (pa_cons pe_str (pa_cons pe_str pa_nil))))) rfl))))
              (pss_one (ps_set (i := 10) scMixed.nd rfl (Or.inl rfl) (pe_op op_catS (pv 10) (pe_tup (pa_cons (pe_ix ix_list (pe_ifExp (pt_val (pv 12)) (pv 5) (pv 7)) (pe_ix ix_tup (pv 6) (pv 11) (fun _ _ => rfl)) (fun _ _ => rfl)) pa_nil)))))))
          (pss_one (ps_asg (pv 10) (pg_sub (pv 8) (pe_ix ix_list (pv 7) (pv 9) (fun _ _ => rfl)) set_list))))))
      (pss_cons (ps_setLc (i := 13) (own := [("_law_worth", 14)]) (g := gName 14) (tt := tYes) rfl scMixed.nd rfl rfl (sw_true rfl rfl rfl (by decide +kernel)) (pi_range1 rfl T.range (pa_cons (pe_callB call_len_seq (by rfl) T.len PySem.boot_len (pa_cons (pv 2) pa_nil)) pa_nil)) (blkOk_by (N := nMixed) (sc := defScope sMixed) (by decide +kernel)) (fun _ _ _ _ _ => (pg_name (i := 14) scMixed.nd rfl (Or.inl rfl))) (fun _ _ _ _ _ => pts_nil) (fun _ _ _ _ _ => (pe_bmK K rfl PySem.F.plainAttrs_list PySem.F.slot_list_index PySem.F.type_list_index (mt_indexK K rfl) (pv 5) (pa_cons (pv 14) pa_nil))))
      (pss_one (ps_ret (pe_tup (pa_cons (pe_callTy call_tuple_of (by rfl) T.tuple (by decide +kernel) (pa_cons (pe_lc (own := [("_law_worth", 14)]) (g := gName 14) (tt := tYes) rfl scMixed.nd (pi_list (pv 13)) (blkOk_by (N := nMixed) (sc := defScope sMixed) (by decide +kernel)) (fun _ _ _ _ _ => (pg_name (i := 14) scMixed.nd rfl (Or.inl rfl))) (fun _ _ _ _ _ => pts_nil) (fun _ _ _ _ _ => (pe_ix (ix_tupK K rfl) (pv 2) (pv 14) (fun _ _ => rfl)))) pa_nil)) (pa_cons (pe_callTy call_tuple_of (by rfl) T.tuple (by decide +kernel) (pa_cons (pv 8) pa_nil)) pa_nil))))))))))))), ?_⟩
    have hK0 := Dc.refl hE
    have hbr := Paired.length hR
    refine ⟨_, rfl, a, _, rfl, SqT.of ha, rfl, .ref wa, _, rfl, .ref ra, _, rfl, rfl, ?_⟩
    have hW8 := g.w8
    have hR40 := g.r40
    have hR1 := g.r1
    refine ⟨_, rfl, wa, _, rfl, .inr (SqT.of hwa), _, rfl, RgOk.of_le (Int.le_refl _) (by rw [List.length_map]; omega) (by omega) (by omega), fun l1 hl1 => ?_⟩
    refine alloc hl1 fun H1 s1 e1 => ?_
    rw [List.length_map, rgV_nI] at e1
    have C1 := hK0.same s1
    refine ⟨_, rfl, wa, rfl, ⟨_, SqT.of (s1 _ _ hwa)⟩, fun D1 hD1 => ?_⟩
    have nDl : D1 ≠ l1 := (ne_of_none e1 hD1).symm
    refine lc_tup (K := K) (a := wa) (xs := p.ws.map V.int) (PopAt K H d sa ns D1 l1 (List.range p.ws.length))
      ⟨[], _, C1.new hD1, C1.here hD1, hl1, nDl, upd_same, by rw [upd_ne nDl.symm]; exact e1, List.Perm.refl _, rfl⟩ (fun i H2 _ ⟨_, _, C, _⟩ => SqT.of (C.kp _ _ hwa)) ?_ ?_
    · rintro i x H2 hi ⟨ks, ls, C2, nD, nl, ne, hD, hl, hp, hk⟩
      have hiW : i < p.ws.length := by
        have q := (List.getElem?_eq_some_iff.mp hi).1
        rwa [List.length_map] at q
      have hle := hp.length_eq
      rw [List.length_append, hk, List.length_range] at hle
      refine ⟨rfl, _, rfl, .inl ⟨rfl, _, SqL.of hl⟩, _, rfl, _, rfl, l1, _, rfl, .inl (SqL.of hl), d, sa, ns, _, rfl, C2.ent, ?_, ?_, fun n H3 n0 n1 C3 => ?_⟩
      · rw [List.length_map]; omega
      · rw [List.length_map]; omega
      · rw [List.length_map] at n1
        obtain ⟨j, hj⟩ : ∃ j : Nat, n = (j : Int) := ⟨n.toNat, by omega⟩
        subst hj
        have hjl : j < ls.length := by omega
        have hl3 := C3.but _ _ (C2.ned nl) hl
        have hD3 := C3.but _ _ (C2.ned nD) hD
        refine ⟨l1, _, _, j, _, rfl, rfl, hl3, by omega, by omega, ?_, nI_get hjl, _, ?_, szl (show (ks.map nI).length < 100000 by rw [List.length_map]; omega), ?_⟩
        · rw [List.length_map, seqIndex_of (by omega) (by omega)]
          rfl
        · rw [upd_ne ne]; exact hD3
        · refine ⟨ks ++ [ls[j]], ls.eraseIdx j, ((C2.trans C3).mut nl).mut nD, nD, nl, ne, ?_, ?_, pop_perm hp (List.getElem?_eq_getElem hjl), by rw [List.length_append, hk]; rfl⟩
          · rw [upd_same, List.map_append]; rfl
          · rw [upd_ne ne.symm, upd_same, map_erase]
    · intro H2 h2
      rw [List.length_map] at h2
      obtain ⟨ks, C2, nD1, hks, hkp⟩ := PopAt.perm (all := List.range p.ws.length) (by rw [List.length_range]; exact h2)
      have hra2 := C2.kp _ _ hra
      refine ⟨_, rfl, ra, _, rfl, .inr (SqT.of hra2), _, _, rfl, rfl, RgOk.of_le (by decide) (by rw [List.length_map]; omega) (by decide) (by omega), fun l2 hl2 => ?_⟩
      refine alloc hl2 fun H3 s3 e3 => ?_
      rw [List.length_map, hbr, rgV_nI1] at e3
      have C3 := C2.same s3
      refine ⟨(by show 1 ≤ sizeLine; decide), fun l0 hl0 => ?_⟩
      refine alloc hl0 fun H4 s4 e4 => ?_
      have C4 := C3.same s4
      refine ⟨_, rfl, _, rfl, ra, _, rfl, C4.kp _ _ hra, fun p2 H5 s5 e5 => ?_⟩
      rw [drop1] at e5
      have C5 := C4.same s5
      refine ⟨p2, rfl, ⟨_, SqT.of e5⟩, fun D2 hD2 => ?_⟩
      have hxl : ((bs.map V.ref).drop 1).length = p.rows.length - 1 := by rw [List.length_drop, List.length_map, hbr]
      have el2 : H5 l2 = some (.lst (((List.range (p.rows.length - 1)).map (· + 1)).map nI)) := (s4.trans s5) _ _ e3
      have el0 : H5 l0 = some (.lst [.int 0]) := s5 _ _ e4
      have hks5 : H5 D1 = some (.lst (ks.map nI)) := ((s3.trans s4).trans s5) _ _ hks
      have nDl2 : D2 ≠ l2 := (ne_of_none el2 hD2).symm
      have nl2 : H l2 = none := C2.here hl2
      have nl0 : H l0 = none := C3.here hl0
      have nDa : D1 ≠ l2 := ne_of_none hks hl2
      have nDb : D1 ≠ D2 := ne_of_none hks5 hD2
      have nl02 : l0 ≠ l2 := (ne_of_none e3 hl0).symm
      have nl0D : l0 ≠ D2 := ne_of_none el0 hD2
      refine lc_tup (K := K) (a := p2) (xs := (bs.map V.ref).drop 1)
        (fun i H6 => PopAt K H d sa ns D2 l2 ((List.range (p.rows.length - 1)).map (· + 1)) i H6 ∧ H6 D1 = some (.lst (ks.map nI)) ∧ H6 l0 = some (.lst [.int 0]) ∧ H6 p2 = some (.tup ((bs.map V.ref).drop 1)))
        ⟨⟨[], _, C5.new hD2, C5.here hD2, nl2, nDl2, upd_same, by rw [upd_ne nDl2.symm]; exact el2, List.Perm.refl _, rfl⟩, by rw [upd_ne nDb]; exact hks5, by rw [upd_ne nl0D]; exact el0,
          by rw [upd_ne (ne_of_none e5 hD2)]; exact e5⟩ (fun i H2 _ ⟨_, _, _, q⟩ => SqT.of q) ?_ ?_
      · rintro i x H2 hi ⟨⟨ks2, ls, C2, nD, nl, ne, hD, hl, hp, hk⟩, g1, g0, g2⟩
        have hiW : i < p.rows.length - 1 := by
          have q := (List.getElem?_eq_some_iff.mp hi).1
          rwa [hxl] at q
        have hle := hp.length_eq
        rw [List.length_append, hk, List.length_map, List.length_range] at hle
        refine ⟨rfl, _, rfl, .inl ⟨rfl, _, SqL.of hl⟩, _, rfl, _, rfl, l2, _, rfl, .inl (SqL.of hl), d, sa, ns, _, rfl, C2.ent, ?_, ?_, fun n H3 n0 n1 C3 => ?_⟩
        · rw [List.length_map]; omega
        · rw [List.length_map]; omega
        · rw [List.length_map] at n1
          obtain ⟨j, hj⟩ : ∃ j : Nat, n = (j : Int) := ⟨n.toNat, by omega⟩
          subst hj
          have hjl : j < ls.length := by omega
          have hl3 := C3.but _ _ (C2.ned nl) hl
          have hD3 := C3.but _ _ (C2.ned nD) hD
          refine ⟨l2, _, _, j, _, rfl, rfl, hl3, by omega, by omega, ?_, nI_get hjl, _, ?_, szl (show (ks2.map nI).length < 100000 by rw [List.length_map]; omega), ?_⟩
          · rw [List.length_map, seqIndex_of (by omega) (by omega)]
            rfl
          · rw [upd_ne ne]; exact hD3
          · refine ⟨⟨ks2 ++ [ls[j]], ls.eraseIdx j, ((C2.trans C3).mut nl).mut nD, nD, nl, ne, ?_, ?_, pop_perm hp (List.getElem?_eq_getElem hjl), by rw [List.length_append, hk]; rfl⟩, ?_, ?_, ?_⟩
            · rw [upd_same, List.map_append]; rfl
            · rw [upd_ne ne.symm, upd_same, map_erase]
            · rw [upd_ne nDb, upd_ne nDa]; exact C3.but _ _ (C2.ned nD1) g1
            · rw [upd_ne nl0D, upd_ne nl02]; exact C3.but _ _ (C2.ned nl0) g0
            · exact ((C3.kp.trans (Kp.lst hl3)).trans (Kp.lst (by rw [upd_ne ne]; exact hD3))) _ _ g2
      · rintro H6 ⟨h6, g1, g0, g2⟩
        rw [hxl] at h6
        obtain ⟨ms, C6, nD2, hms, hmp⟩ := PopAt.perm (all := (List.range (p.rows.length - 1)).map (· + 1)) (by rw [List.length_map, List.length_range]; exact h6)
        have hml := hmp.length_eq
        rw [List.length_map, List.length_range] at hml
        refine ⟨l0, D2, _, _, rfl, rfl, g0, hms, sz (by rw [List.length_map]; show 1 + _ ≤ _; omega), fun ln hln => ?_⟩
        refine alloc hln fun H7 s7 e7 => ?_
        have e7 : H7 ln = some (.lst ((0 :: ms).map nI)) := e7
        have C7 := C6.same s7
        refine ⟨(by show 1 ≤ sizeLine; decide), fun l7 hl7 => ?_⟩
        refine alloc hl7 fun H8 s8 e8 => ?_
        have C8 := C7.same s8
        have hra8 := C8.kp _ _ hra
        refine ⟨_, rfl, ra, _, rfl, .inr (SqT.of hra8), l7, _, _, rfl, rfl, e8, ?_, ?_, ?_, fun lf hlf => ?_⟩
        · rw [List.length_map]; omega
        · rw [List.length_map]; omega
        · refine sz ?_
          show 1 * _ ≤ _
          rw [List.length_map]; omega
        refine alloc hlf fun H9 s9 e9 => ?_
        rw [List.flatten_replicate_singleton, List.length_map, hbr] at e9
        have C9 := C8.same s9
        have n1f : D1 ≠ lf := ne_of_none ((s7.trans s8) _ _ g1) hlf
        have n2f : ln ≠ lf := ne_of_none (s8 _ _ e7) hlf
        have hmem : ∀ x, x ∈ (0 :: ms) ↔ x < p.rows.length := fun x => by
          rw [List.mem_cons, hmp.mem_iff, List.mem_map]
          constructor
          · rintro (q | ⟨y, q1, q2⟩)
            · omega
            · have := List.mem_range.mp q1; omega
          · intro q
            cases x with
            | zero => exact .inl rfl
            | succ x => exact .inr ⟨x, List.mem_range.mpr (by omega), rfl⟩
        have hpm : (0 :: ms).Perm (List.range p.rows.length) := by
          have e : List.range p.rows.length = 0 :: (List.range (p.rows.length - 1)).map (· + 1) := by
            rw [show p.rows.length = (p.rows.length - 1) + 1 by omega, List.range_succ_eq_map]
            rfl
          rw [e]
          exact hmp.cons 0
        have hkm : ∀ x, x ∈ ks ↔ x < p.ws.length := fun x => by rw [hkp.mem_iff, List.mem_range]
        have hnl : (0 :: ms).length = p.rows.length := by show ms.length + 1 = _; omega
        have hkl : ks.length = p.ws.length := by rw [hkp.length_eq, List.length_range]
        have hf : ∀ x, x < p.ws.length → ks.getD x 0 < p.ws.length := fun x hx => by
          rw [List.getD_eq_getElem?_getD, List.getElem?_eq_getElem (by omega)]
          exact (hkm _).mp (List.getElem_mem _)
        have hg : ∀ x, x < p.rows.length → (0 :: ms).getD x 0 < p.rows.length := fun x hx => by
          rw [List.getD_eq_getElem?_getD, List.getElem?_eq_getElem (by omega)]
          exact (hmem _).mp (List.getElem_mem _)
        refine ⟨_, rfl, ra, _, rfl, SqT.of (C9.kp _ _ hra), for_enumT (K := K) (a := ra) (xs := bs.map V.ref)
          (fun i σ H' => ∃ x6 x9 x10 x11 x12 : Option V, σ = [some (.ref d), some (.ref a), some (.ref wa), some (.ref ra), some (.ref l2), some (.ref D1), x6, some (.ref ln), some (.ref lf), x9, x10, x11, x12, none, none] ∧
            MixAt K H d sa ns D1 ln lf ks (0 :: ms) (p.rows.map isT) p.ws.length p.rows.length i H')
          ⟨_, _, _, _, _, rfl, C9, C8.here hlf, n1f, n2f, ((s7.trans s8).trans s9) _ _ g1, (s8.trans s9) _ _ e7, _, e9, List.length_replicate, fun _ _ q => absurd q (by simp)⟩
          (fun i σ H' ⟨_, _, _, _, _, _, m⟩ => SqT.of (m.dc.kp _ _ hra)) ?_ ?_⟩
        · rintro i x T' σ H' hi ⟨x6, x9, x10, x11, x12, rfl, m⟩ hT'
          have hiR : i < p.rows.length := by
            have q := (List.getElem?_eq_some_iff.mp hi).1
            rwa [List.length_map, hbr] at q
          obtain ⟨r, hr1⟩ : ∃ r, p.rows[i]? = some r := ⟨_, List.getElem?_eq_getElem hiR⟩
          obtain ⟨b, hb1, hb2⟩ := Paired.getR hR hr1
          have hrm : r ∈ p.rows := List.mem_of_getElem? hr1
          have hro := g.ok r hrm
          have ex : x = V.ref b := by
            rw [List.getElem?_map, hb1] at hi
            exact (Option.some.inj hi).symm
          subst ex
          refine alloc hT' fun H2 s2 e2 => ?_
          have m2 := m.same s2
          have hb3 := m2.dc.kp _ _ hb2
          refine ⟨T', _, rfl, SqT.of e2, rfl, _, _, rfl, _, _, rfl, rfl, ?_⟩
          refine ⟨_, rfl, _, rfl, b, _, rfl, hb3, fun t H3 s3 e3 => ?_⟩
          have rl := Row.vs_len r
          rw [sl1 rl.1, Row.ren_w (fun x => ks.getD x 0) (fun x => (0 :: ms).getD x 0)] at e3
          have m3 := m2.same s3
          have hb4 := s3 _ _ hb3
          refine ⟨_, rfl, b, _, rfl, .inr (SqT.of hb4), _, _, rfl, ⟨by decide, by decide, by omega, by omega⟩, ?_⟩
          refine for_range (lo := 1) (n := (((rowVs r).length : Int) - 1).toNat) (fun j σ H' => ∃ (x11 x12 : Option V) (t : Addr), σ = [some (.ref d), some (.ref a), some (.ref wa), some (.ref ra), some (.ref l2), some (.ref D1), some (.ref b), some (.ref ln), some (.ref lf), some (.int (i : Int)), some (.ref t), x11, x12, none, none] ∧
            Same1 H3 H' ∧ H' t = some (.tup ((rowVs (r.ren (fun x => ks.getD x 0) (fun x => (0 :: ms).getD x 0))).take (1 + j)))) ⟨_, _, t, rfl, Same.refl _, e3⟩ ?_ ?_
          · rintro j σ H4 hj ⟨x11, x12, t, rfl, S4, ht⟩
            have hj1 : j + 1 < (rowVs r).length := by omega
            obtain ⟨x, hx, hx1, hx2⟩ := Row.ren_at (f := fun x => ks.getD x 0) (g := fun x => (0 :: ms).getD x 0) hro hj1
            have hb5 := S4 _ _ hb4
            have ej : (1 : Int) + (j : Int) = ((j + 1 : Nat) : Int) := by omega
            refine asg_elim (fun v H' => v = .bl (j == 0 && r.uses) ∧ Same1 H4 H') ?_ ?_
            · rintro v H5 ⟨rfl, s5⟩
              have S5 := S4.trans s5
              have m5 := m3.same S5
              have fin : ∀ (y : Nat) (t5 t6 : Addr) (H6 H7 : Hp) (c : Bool), (rowVs (r.ren (fun x => ks.getD x 0) (fun x => (0 :: ms).getD x 0)))[j + 1]? = some (.int (y : Int)) → Same1 H5 H6 → Same1 H6 H7 →
                  H7 t6 = some (.tup ((rowVs (r.ren (fun x => ks.getD x 0) (fun x => (0 :: ms).getD x 0))).take (1 + j) ++ [.int (y : Int)])) →
                  Same1 H3 H7 ∧ H7 t6 = some (.tup ((rowVs (r.ren (fun x => ks.getD x 0) (fun x => (0 :: ms).getD x 0))).take (1 + (j + 1)))) := by
                intro y t5 t6 H6 H7 c q1 q2 q3 q4
                refine ⟨(S5.trans q2).trans q3, q4.trans ?_⟩
                rw [show 1 + (j + 1) = (1 + j) + 1 by omega, List.take_add_one, show 1 + j = j + 1 by omega, q1]
                rfl
              cases hc : (j == 0 && r.uses) with
              | true =>
                obtain ⟨q1, q2⟩ := hx1 hc
                refine ⟨_, rfl, _, rfl, _, rfl, _, rfl, _, rfl, _, rfl, b, _, _, .int (x : Int), rfl, rfl, SqT.of (s5 _ _ hb5), by rw [ej]; exact atI_nat hx, D1, _, _, _, rfl, rfl, SqL.of m5.names, atI_nat (nI_getD (by rw [hkl]; exact q1)), (by show 1 ≤ sizeLine; decide), fun t5 ht5 => ?_⟩
                refine alloc ht5 fun H6 s6 e6 => ?_
                refine ⟨t, t5, _, _, rfl, rfl, (s5.trans s6) _ _ ht, e6, sz (by rw [List.length_take]; show _ + 1 ≤ _; omega), fun t6 H7 s7 e7 => ?_⟩
                exact ⟨_, _, t6, rfl, fin _ t5 t6 H6 H7 true q2 s6 s7 e7⟩
              | false =>
                obtain ⟨q1, q2⟩ := hx2 hc
                refine ⟨_, rfl, _, rfl, _, rfl, _, rfl, _, rfl, _, rfl, b, _, _, .int (x : Int), rfl, rfl, SqT.of (s5 _ _ hb5), by rw [ej]; exact atI_nat hx, ln, _, _, _, rfl, rfl, SqL.of m5.numbers, atI_nat (nI_getD (by rw [hnl]; exact q1)), (by show 1 ≤ sizeLine; decide), fun t5 ht5 => ?_⟩
                refine alloc ht5 fun H6 s6 e6 => ?_
                refine ⟨t, t5, _, _, rfl, rfl, (s5.trans s6) _ _ ht, e6, sz (by rw [List.length_take]; show _ + 1 ≤ _; omega), fun t6 H7 s7 e7 => ?_⟩
                exact ⟨_, _, t6, rfl, fin _ t5 t6 H6 H7 true q2 s6 s7 e7⟩
            · intro Q' hQ
              refine ⟨_, rfl, rfl, _, rfl, ite2 (fun c => ?_) (fun c => ?_)⟩
              · have c := of_decide_eq_true c
                have c : (1 : Int) + (j : Int) = 1 := by injection c
                have j0 : j = 0 := by omega
                subst j0
                refine ⟨_, rfl, b, _, _, _, rfl, rfl, SqT.of hb5, atI_nat (j := 0) (Row.w0 r), (by show 4 ≤ sizeLine; decide), fun t4 ht4 => ?_⟩
                refine alloc ht4 fun H5 s5 e5 => ?_
                refine ⟨t4, _, rfl, .inr (SqT.of e5), rfl, rfl, hQ _ _ ⟨?_, s5⟩⟩
                show V.bl (inV (.str r.word) [.str "load", .str "add", .str "take", .str "store"]) = V.bl (0 == 0 && r.uses)
                rw [Row.in4]
                rfl
              · refine hQ _ _ ⟨?_, Same.refl _⟩
                have hj0 : j ≠ 0 := fun e => by subst e; exact c (decide_eq_true rfl)
                rw [beq_false_of_ne hj0]
                rfl
          · rintro σ H4 ⟨x11, x12, t, rfl, S4, ht⟩
            have m4 := m3.same S4
            rw [List.take_of_length_le (by rw [Row.ren_len]; omega)] at ht
            obtain ⟨fs, hf1, hf2, hf3⟩ := m4.found
            have hy := nI_getD (l := 0 :: ms) (j := i) (by rw [hnl]; exact hiR)
            have hy2 : (0 :: ms)[i]? = some ((0 :: ms).getD i 0) := by
              rw [List.getD_eq_getElem?_getD, List.getElem?_eq_getElem (by rw [hnl]; exact hiR)]
              rfl
            have hyN := hg i hiR
            refine ⟨_, rfl, _, rfl, _, rfl, _, rfl, ln, _, _, _, rfl, rfl, SqL.of m4.numbers, atI_nat hy, lf, fs, _, (0 :: ms).getD i 0, rfl, rfl, hf1, ixN_nat (by rw [hf2]; exact hyN), ?_⟩
            exact ⟨_, _, _, _, _, rfl, m4.put hf1 hy2 hyN ht (Row.ren_ok hf hg hro) (by rw [isT_ren, List.getD_eq_getElem?_getD, List.getElem?_map, hr1]; rfl)⟩
        · rintro σ H' ⟨x6, x9, x10, x11, x12, rfl, m⟩
          rw [List.length_map, hbr] at m
          obtain ⟨fs, hf1, hf2, hf3⟩ := m.found
          obtain ⟨bs', rs', hfs, hF⟩ := refs_of (F := fun b r => H' b = some (.tup (rowVs r)) ∧ r.ok p.ws.length p.rows.length) (l := fs) (fun i hi => by
            obtain ⟨b, r, q1, q2, q3, _⟩ := hf3 i (by omega) (by rw [List.take_of_length_le (by omega)]; exact (hmem i).mpr (by omega))
            exact ⟨b, r, q1, q2, q3⟩)
          have hwa2 := m.dc.kp _ _ hwa
          have hfl : bs'.length = p.rows.length := by rw [← hf2, hfs, List.length_map]
          have hrl : rs'.length = p.rows.length := by rw [← Paired.length hF, hfl]
          have hTT : tests rs' = tests p.rows := by
            refine tests_perm (nums := 0 :: ms) hrl hpm fun x hx => ?_
            obtain ⟨b, r, q1, q2, q3, j, q4, q5⟩ := hf3 x (by omega) (by rw [List.take_of_length_le (by omega)]; exact (hmem x).mpr hx)
            refine ⟨j, q4, ?_⟩
            rw [← q5]
            have hx' : x < rs'.length := by omega
            obtain ⟨b', hb1, hb2⟩ := Paired.getR hF (List.getElem?_eq_getElem hx')
            have eb : b' = b := by
              rw [hfs, List.getElem?_map, hb1] at q1
              exact V.ref.inj (Option.some.inj q1)
            subst eb
            have e2 := hb2.1
            rw [q2] at e2
            rw [List.getD_eq_getElem?_getD, List.getElem?_eq_getElem hx']
            exact (isT_of (HO.tup.inj (Option.some.inj e2))).symm
          refine ⟨_, rfl, wa, _, rfl, .inr (SqT.of hwa2), _, rfl, by rw [List.length_map]; omega, by rw [List.length_map]; omega, fun D3 hD3 => ?_⟩
          have n13 : D1 ≠ D3 := ne_of_none m.names hD3
          have nf3 : lf ≠ D3 := ne_of_none hf1 hD3
          refine lc_range (lo := 0) (n := (((p.ws.map V.int).length : Nat) : Int).toNat) (fun i H2 => ∃ js : List Nat, Dc K H H2 d sa ns ∧ H D3 = none ∧ H2 D3 = some (.lst (js.map nI)) ∧ js.length = i ∧ (∀ x ∈ js, x < p.ws.length) ∧ Kp H' H2 ∧ H2 D1 = some (.lst (ks.map nI)) ∧ H2 lf = some (.lst fs))
            ⟨[], m.dc.new hD3, m.dc.here hD3, upd_same, rfl, fun _ h => absurd h (by simp), Kp.new hD3, by rw [upd_ne n13]; exact m.names, by rw [upd_ne nf3]; exact hf1⟩ ?_ ?_
          · rintro i H2 hi ⟨js, C, nD3, hj, hjl, hjm, k2, g1, g2⟩
            have hiW : i < p.ws.length := by rw [List.length_map] at hi; omega
            obtain ⟨j, j1, j2, j3⟩ := first_of ((hkm i).mpr hiW)
            have e0 : (0 : Int) + (i : Int) = (i : Int) := Int.zero_add _
            rw [e0]
            refine ⟨rfl, _, rfl, .inl ⟨rfl, _, SqL.of g1⟩, _, rfl, D1, _, _, j, .int (i : Int), rfl, rfl, SqL.of g1, rfl, nI_flat ks, ?_, ?_, fun m z hm e => nI_none (j3 m hm) e, _, hj, szl (by rw [List.length_map]; omega), ?_⟩
            · rw [List.getElem?_map, j2]; rfl
            · show ((i : Int) == (i : Int)) = true
              exact beq_self_eq_true _
            · refine ⟨js ++ [j], C.mut nD3, nD3, by rw [upd_same, List.map_append]; rfl, by rw [List.length_append, hjl]; rfl, all_snoc hjm (by omega), k2.trans (Kp.lst hj), by rw [upd_ne n13]; exact g1, by rw [upd_ne nf3]; exact g2⟩
          · rintro H2 ⟨js, C, nD3, hj, hjl, hjm, k2, g1, g2⟩
            rw [List.length_map, Int.toNat_natCast] at hjl
            have hwa3 := k2 _ _ hwa2
            refine ⟨_, rfl, D3, rfl, ⟨_, SqL.of hj⟩, fun D4 hD4 => ?_⟩
            have nf4 : lf ≠ D4 := ne_of_none g2 hD4
            have n34 : D3 ≠ D4 := ne_of_none hj hD4
            refine lc_list (K := K) (a := D3) (xs := js.map nI) (fun i H3 => ∃ us : List Int, Dc K H H3 d sa ns ∧ H D4 = none ∧ H3 D4 = some (.lst (us.map V.int)) ∧ us.length = i ∧ (∀ x ∈ us, x ∈ p.ws) ∧ Kp H2 H3 ∧ H3 D3 = some (.lst (js.map nI)) ∧ H3 lf = some (.lst fs))
              ⟨[], C.new hD4, C.here hD4, upd_same, rfl, fun _ h => absurd h (by simp), Kp.new hD4, by rw [upd_ne n34]; exact hj, by rw [upd_ne nf4]; exact g2⟩ (fun i H3 _ ⟨_, _, _, _, _, _, _, q, _⟩ => SqL.of q) ?_ ?_
            · rintro i x H3 hi ⟨us, C3, nD4, hu, hul, hum, k3, g3, g4⟩
              have hij : i < js.length := by
                have q := (List.getElem?_eq_some_iff.mp hi).1
                rwa [List.length_map] at q
              have ex : x = .int ((js[i] : Nat) : Int) := by
                rw [nI_get hij] at hi
                exact (Option.some.inj hi).symm
              subst ex
              have hjw := hjm _ (List.getElem_mem hij)
              have hat : (p.ws.map V.int)[js[i]]? = some (.int p.ws[js[i]]) := by
                rw [List.getElem?_map, List.getElem?_eq_getElem hjw]
                rfl
              refine ⟨rfl, _, rfl, _, rfl, wa, _, _, _, rfl, rfl, SqT.of (k3 _ _ hwa3), atI_nat hat, _, hu, szl (by rw [List.length_map]; omega), ?_⟩
              exact ⟨us ++ [p.ws[js[i]]], C3.mut nD4, nD4, by rw [upd_same, List.map_append]; rfl, by rw [List.length_append, hul]; rfl, all_snoc hum (List.getElem_mem _), k3.trans (Kp.lst hu), by rw [upd_ne n34]; exact g3, by rw [upd_ne nf4]; exact g4⟩
            · rintro H3 ⟨us, C3, nD4, hu, hul, hum, k3, g3, g4⟩
              rw [List.length_map, hjl] at hul
              refine ⟨D4, _, rfl, .inl ⟨SqL.of hu, fun t1 ht1 => ?_⟩⟩
              refine alloc ht1 fun H4 s4 e4 => ?_
              refine ⟨_, rfl, lf, _, rfl, .inl ⟨SqL.of (s4 _ _ g4), fun t2 ht2 => ?_⟩⟩
              refine alloc ht2 fun H5 s5 e5 => ?_
              refine ⟨(by show 2 ≤ sizeLine; decide), fun t3 ht3 => ?_⟩
              refine alloc ht3 fun H6 s6 e6 => ?_
              have S36 := (s4.trans s5).trans s6
              have kF : Kp H' H6 := (k2.trans k3).trans (Kp.same S36)
              refine kq t3 ⟨us, rs'⟩ H6 (C3.same S36) ⟨t1, t2, bs', e6, (s5.trans s6) _ _ e4, ?_, ?_⟩ ⟨?_, ?_, ?_, ?_, ?_⟩ hTT hrl
              · rw [← hfs]; exact s6 _ _ e5
              · exact Paired.mapP hF fun b r q => kF _ _ q.1
              · show 1 ≤ rs'.length
                omega
              · show rs'.length ≤ 40
                omega
              · show us.length ≤ 8
                omega
              · exact fun x hx => g.num x (hum x hx)
              · intro r hr
                show r.ok us.length rs'.length
                rw [hul, hrl]
                obtain ⟨i, hi⟩ := List.getElem?_of_mem hr
                obtain ⟨b, _, q⟩ := Paired.getR hF hi
                exact q.2
end
end DL
namespace DL
open PySem L2 DLR
def rowD : Row → PyData
  | .load w n => .tuple [.str "load", .int (w : Int), .int (n : Int)]
  | .add w n => .tuple [.str "add", .int (w : Int), .int (n : Int)]
  | .take w n => .tuple [.str "take", .int (w : Int), .int (n : Int)]
  | .store w n => .tuple [.str "store", .int (w : Int), .int (n : Int)]
  | .say n => .tuple [.str "say", .int (n : Int)]
  | .test a b => .tuple [.str "test", .int (a : Int), .int (b : Int)]
  | .stop => .tuple [.str "stop"]
theorem rowD_dp {K : Frg} {H : Hp} {b : Addr} {r : Row} (h : H b = some (.tup (rowVs r))) : Dp K H (.ref b) (rowD r) := by
  cases r <;> exact .tup (SqT.of h) (by first | exact .cons (.str _) (.cons (.int _) (.cons (.int _) .nil)) | exact .cons (.str _) (.cons (.int _) .nil) | exact .cons (.str _) .nil)
theorem rowsD_dp {K : Frg} {H : Hp} : ∀ {bs : List Addr} {rs : List Row}, RowsAt H bs rs → DpAll K H (bs.map V.ref) (rs.map rowD)
  | _, _, .nil => .nil
  | _, _, .cons h t => .cons (rowD_dp h) (rowsD_dp t)
theorem strOk4 : (["load", "add", "take", "store", "say", "test", "stop"] : List Str).all PyData.strOk = true := by decide +kernel
theorem rowD_lay (r : Row) : (rowD r).canLay0 = true := by
  have k : ∀ x ∈ (["load", "add", "take", "store", "say", "test", "stop"] : List Str), PyData.strOk x = true := List.all_eq_true.mp strOk4
  cases r <;> (simp only [rowD, PyData.canLay0, PyData.canLayAll0, Bool.and_true, Bool.and_eq_true]; apply k; simp)
theorem rowsD_lay : ∀ rs : List Row, PyData.canLayAll0 (rs.map rowD) = true
  | [] => rfl
  | r :: rs => by
    show ((rowD r).canLay0 && PyData.canLayAll0 (rs.map rowD)) = true
    rw [rowD_lay, rowsD_lay rs]
    rfl
theorem rowsD_dep : ∀ rs : List Row, PyData.depthAll (rs.map rowD) ≤ 3
  | [] => by decide
  | r :: rs => by
    have h := rowsD_dep rs
    show max (rowD r).depth (PyData.depthAll (rs.map rowD)) ≤ 3
    have : (rowD r).depth ≤ 3 := by cases r <;> simp [rowD, PyData.depth, PyData.depthAll]
    omega
theorem eq_nil {K : Frg} {H : Hp} {l e : Addr} {bs : List Addr} {rs : List Row} {Q : VK} (hl : H l = some (.lst (bs.map V.ref))) (hR : RowsAt H bs rs) (he : H e = some (.lst [])) (q : Q (.bl rs.isEmpty) H) : rEqD K (.ref l) (.ref e) H Q := by
  refine ⟨.list (rs.map rowD), .list [], .lst (SqL.of hl) (rowsD_dp hR), .lst (SqL.of he) .nil, ?_, by decide +kernel, ?_⟩
  · show (PyData.canLayAll0 (rs.map rowD) && decide (PyData.depth (.list (rs.map rowD)) ≤ 64)) = true
    rw [rowsD_lay]
    refine decide_eq_true ?_
    have := rowsD_dep rs
    show _ + _ ≤ 64
    omega
  · have e : PyData.eqv (.list (rs.map rowD)) (.list []) = rs.isEmpty := by cases rs <;> rfl
    rw [e]; exact q
theorem seq_elim {t u : TS} {D : Ends} {σ : L2.St} {H : Hp} (R : L2.St → Hp → Prop) (key : ∀ σ' H', R σ' H' → u D σ' H') (first : ∀ N : L2.St → Hp → Prop, (∀ σ' H', R σ' H' → N σ' H') → t { D with nx := N } σ H) : tSeq t u D σ H := first _ key
def RowsL (K : Frg) (H0 : Hp) (d sa : Addr) (ns : List Int) (t3 : Addr) (ws : List Int) (l : Addr) (z : Nat) (H : Hp) : Prop :=
  ∃ bs rs, Dc K H0 H d sa ns ∧ H t3 = some (.tup (ws.map V.int)) ∧ H l = some (.lst (bs.map V.ref)) ∧ RowsAt H bs rs ∧ rs.length ≤ z ∧ 4 * tests rs ≤ rs.length ∧ ∀ r ∈ rs, r.ok 8 (rs.length + 1)
abbrev sStopping : Stmt := top 38
abbrev pStopping : List Str := ["_law_d", "_law_deep"]
abbrev FStopping (K : Frg) (mg : Str → Option Value) := Fd K mg "_law_stopping" sStopping pStopping
def spStopping (K : Frg) : Sp := fun vs H Q _ => ∃ (d sa : Addr) (ns : List Int) (n : Nat), vs = [.ref d, .int (n : Int)] ∧ n ≤ 2 ∧ Ent K H d sa ns ∧
  ∀ b q H', Dc K H H' d sa ns → ProgAt H' b q → Good q → 4 * tests q.rows ≤ q.rows.length → Q (.ref b) H'
section
variable {P : Program} {w : World} {K : PySem.W.Frag} {mg : Str → Option Value} {base : Heap}
abbrev nStopping : List Str := ["_law_d", "_law_deep", "_law_worths", "_law_rows", "_law_program", "_law_k"]
theorem scStopping : FnScope nStopping pStopping (defScope sStopping) := ⟨rfl, rfl, rfl, by decide +kernel, rfl, by decide +kernel, by decide +kernel⟩
theorem ok_stopping (cStopping : FStopping K mg) (cMixed : FMixed K mg) (cBody : FBody K mg) (cFork : FFork K mg) (cStraight : FStraight K mg) (cNext : FNext K mg) (T : Bt mg) : FnOk P w K mg base CX0 7 cStopping.f cStopping.fd pStopping (spStopping K) := by
  have GNext : FnOk P w K mg base CX0 1 cNext.f cNext.fd ["_law_dice_here", "_law_many"] (spNext K) := ok_next cNext.F T
  have GStraight : FnOk P w K mg base CX0 2 cStraight.f cStraight.fd ["_law_d", "_law_at"] (spStraight K) := ok_straight cStraight cNext T
  have GBody : FnOk P w K mg base CX0 6 cBody.f cBody.fd pBody (spBodyU K) := ok_bodyU cBody cFork cStraight cNext T
  have GMixed : FnOk P w K mg base CX0 2 cMixed.f cMixed.fd pMixed (spMixed K) := ok_mixed cMixed cNext T
  refine cStopping.F.ok scStopping (fun vs H Q E h => ?_) (fun cdv A outer s H vs Q E hr h => ?_)
  · obtain ⟨d, sa, ns, n, rfl, _⟩ := h
    rfl
  · obtain ⟨d, sa, ns, n, rfl, hn, hE, kq⟩ := h
    refine ⟨_, (pss_cons (ps_set (i := 2) scStopping.nd rfl (Or.inl rfl) (pe_tup (pa_cons pe_int (pa_cons (pe_op op_add pe_int (pe_call GNext (hr.mono (by first | omega | decide)) (by rfl) cNext.m cNext.F.kp cNext.b .nil pass0 (pa_cons (pv 0) (pa_cons pe_int pa_nil)))) (pa_cons (pe_op op_add pe_int (pe_call GNext (hr.mono (by first | omega | decide)) (by rfl) cNext.m cNext.F.kp cNext.b .nil pass0 (pa_cons (pv 0) (pa_cons pe_int pa_nil)))) (pa_cons pe_int (pa_cons pe_int pa_nil)))))))
      (pss_cons (ps_set (i := 2) scStopping.nd rfl (Or.inl rfl) (pe_op op_catS (pv 2) (pe_callTy call_tuple_of (by rfl) T.tuple (by decide +kernel) (pa_cons (pe_lc (own := [("_law_k", 5)]) (g := gName 5) (tt := tYes) rfl scStopping.nd (pi_range1 rfl T.range (pa_cons pe_int pa_nil)) (blkOk_by (N := nStopping) (sc := defScope sStopping) (by decide +kernel)) (fun _ _ _ _ _ => (pg_name (i := 5) scStopping.nd rfl (Or.inl rfl))) (fun _ _ _ _ _ => pts_nil) (fun _ _ _ _ _ => (pe_op op_sub (pe_call GNext (hr.mono (by first | omega | decide)) (by rfl) cNext.m cNext.F.kp cNext.b .nil pass0 (pa_cons (pv 0) (pa_cons pe_int pa_nil))) pe_int))) pa_nil))))
      (pss_cons (ps_set (i := 3) scStopping.nd rfl (Or.inl rfl) (pe_call GBody (hr.mono (by first | omega | decide)) (by rfl) cBody.m cBody.F.kp cBody.b .nil pass0 (pa_cons (pv 0) (pa_cons pe_int (pa_cons (pv 1) pa_nil)))))
      (pss_cons (ps_while PassesOwn.never (pt_cmpR op_gt (pe_callB call_len_seq (by rfl) T.len PySem.boot_len (pa_cons (pv 3) pa_nil)) pe_int (nomark _))
          (pss_one (ps_set (i := 3) scStopping.nd rfl (Or.inl rfl) (pe_call GBody (hr.mono (by first | omega | decide)) (by rfl) cBody.m cBody.F.kp cBody.b .nil pass0 (pa_cons (pv 0) (pa_cons pe_int (pa_cons pe_int pa_nil)))))))
      (pss_cons (ps_if (pt_cmpR (op_eqD hr.units) (pv 3) (pe_lst pa_nil) (nomark _))
          (pss_one (ps_set (i := 3) scStopping.nd rfl (Or.inl rfl) (pe_lst (pa_cons (pe_call GStraight (hr.mono (by first | omega | decide)) (by rfl) cStraight.m cStraight.F.kp cStraight.b .nil pass0 (pa_cons (pv 0) (pa_cons pe_int pa_nil))) pa_nil))))
          pss_nil)
      (pss_cons (ps_set (i := 4) scStopping.nd rfl (Or.inl rfl) (pe_tup (pa_cons (pv 2) (pa_cons (pe_op op_catS (pe_callTy call_tuple_of (by rfl) T.tuple (by decide +kernel) (pa_cons (pv 3) pa_nil)) (pe_tup (pa_cons (pe_tup (pa_cons pe_str pa_nil)) pa_nil))) pa_nil))))
      (pss_one (ps_ret (pe_ifExp (pt_cmpR op_eq (pe_call GNext (hr.mono (by first | omega | decide)) (by rfl) cNext.m cNext.F.kp cNext.b .nil pass0 (pa_cons (pv 0) (pa_cons pe_int pa_nil))) pe_int (nomark _)) (pe_call GMixed (hr.mono (by first | omega | decide)) (by rfl) cMixed.m cMixed.F.kp cMixed.b .nil pass0 (pa_cons (pv 0) (pa_cons (pv 4) pa_nil))) (pv 4)))))))))), ?_⟩
    refine ⟨_, rfl, d, sa, ns, _, rfl, hE, by decide, by decide, fun n5 H1 a0 a1 C1 => ?_⟩
    refine ⟨_, _, rfl, rfl, _, rfl, d, sa, ns, _, rfl, C1.ent, by decide, by decide, fun n4 H2 b0 b1 C2 => ?_⟩
    refine ⟨_, _, rfl, rfl, (by show 5 ≤ sizeLine; decide), fun t1 ht1 => ?_⟩
    refine alloc ht1 fun H3 s3 e3 => ?_
    have C3 := (C1.trans C2).same s3
    refine ⟨_, rfl, _, rfl, by decide, by decide, fun D hD => ?_⟩
    refine lc_range (lo := 0) (n := 3) (fun i H4 => ∃ us : List Int, Dc K H H4 d sa ns ∧ H D = none ∧ H4 D = some (.lst (us.map V.int)) ∧ us.length = i ∧ (∀ x ∈ us, -3 ≤ x ∧ x ≤ 3) ∧ Kp H3 H4)
      ⟨[], C3.new hD, C3.here hD, upd_same, rfl, fun _ h => absurd h (by simp), Kp.new hD⟩ ?_ ?_
    · rintro i H4 hi ⟨us, C4, nD, hu, hul, hum, k4⟩
      refine ⟨rfl, _, rfl, d, sa, ns, _, rfl, C4.ent, by decide, by decide, fun m H5 m0 m1 C5 => ?_⟩
      have hu5 := C5.but _ _ (C4.ned nD) hu
      refine ⟨_, _, rfl, rfl, _, hu5, szl (by rw [List.length_map]; omega), us ++ [m - 3], (C4.trans C5).mut nD, nD, by rw [upd_same, List.map_append]; rfl, by rw [List.length_append, hul]; rfl, all_snoc hum (by omega), (k4.trans C5.kp).trans (Kp.lst hu5)⟩
    · rintro H4 ⟨us, C4, nD, hu, hul, hum, k4⟩
      refine ⟨D, _, rfl, .inl ⟨SqL.of hu, fun t2 ht2 => ?_⟩⟩
      refine alloc ht2 fun H5 s5 e5 => ?_
      refine ⟨t1, t2, _, _, rfl, rfl, s5 _ _ (k4 _ _ e3), e5, sz (by rw [List.length_map]; show 5 + _ ≤ _; omega), fun t3 H6 s6 e6 => ?_⟩
      have e6 : H6 t3 = some (.tup (([1, 1 + n5, 1 + n4, 0, 0] ++ us).map V.int)) := by rw [e6, List.map_append]; rfl
      have hwl : ([1, 1 + n5, 1 + n4, 0, 0] ++ us).length = 8 := by simp [hul]
      have hwm : ∀ x ∈ ([1, 1 + n5, 1 + n4, 0, 0] ++ us), -1000000 ≤ x ∧ x ≤ 1000000 := by
        intro x hx
        rcases List.mem_append.mp hx with q | q
        · simp only [List.mem_cons, List.not_mem_nil, or_false] at q
          omega
        · have := hum x q; omega
      revert e6 hwl hwm
      generalize ([1, 1 + n5, 1 + n4, 0, 0] ++ us) = ws
      intro e6 hwl hwm
      have C6 := (C4.same s5).same s6
      have hP := PB_le hn
      refine ⟨_, rfl, _, rfl, n, hn, d, sa, ns, 0, rfl, hn, C6.ent, fun l bs rs H7 C7 nl hl hR hz hT ho => ?_⟩
      have w0 : RowsL K H d sa ns t3 ws l 300 H7 := ⟨bs, rs, C6.trans C7, C7.kp _ _ e6, hl, hR, by omega, hT, fun r hr => (ho r hr).mono (by omega)⟩
      refine ⟨fun m σ H' => ∃ l, σ = [some (.ref d), some (.int (n : Int)), some (.ref t3), some (.ref l), none, none] ∧ RowsL K H d sa ns t3 ws l (39 + m * 300) H', ⟨1, l, rfl, ?_⟩, ?_⟩
      · obtain ⟨bs, rs, q1, q2, q3, q4, q5, q6⟩ := w0
        exact ⟨bs, rs, q1, q2, q3, q4, by omega, q6⟩
      rintro m σ H8 ⟨l, rfl, bs, rs, C8, ht3, hl, hR, hz, hT, ho⟩
      have hbr := Paired.length hR
      refine ⟨_, rfl, l, _, rfl, .inl (SqL.of hl), _, _, rfl, rfl, _, rfl, ite2 (fun c => ?_) (fun c => ?_)⟩
      · have c : (39 : Int) < (((bs.map V.ref).length : Nat) : Int) := of_decide_eq_true c
        rw [List.length_map, hbr] at c
        refine ⟨_, fun σ' H' q => q, _, rfl, 0, by decide, d, sa, ns, 0, rfl, by decide, C8.ent, fun l2 bs2 rs2 H9 C9 nl2 hl2 hR2 hz2 hT2 ho2 => ?_⟩
        refine ⟨0, ?_, l2, rfl, bs2, rs2, C8.trans C9, C9.kp _ _ ht3, hl2, hR2, ?_, hT2, fun r hr => (ho2 r hr).mono (by omega)⟩
        · cases m with
          | zero => omega
          | succ m => exact Nat.succ_pos m
        · have z : rs2.length ≤ 3 * 6 := hz2
          omega
      · have c : ¬ (39 : Int) < (((bs.map V.ref).length : Nat) : Int) := fun q => c (decide_eq_true q)
        rw [List.length_map, hbr] at c
        dsimp only
        refine seq_elim (fun σ' H' => ∃ l bs rs, σ' = [some (.ref d), some (.int (n : Int)), some (.ref t3), some (.ref l), none, none] ∧ Dc K H H' d sa ns ∧ H' t3 = some (.tup (ws.map V.int)) ∧ H' l = some (.lst (bs.map V.ref)) ∧ RowsAt H' bs rs ∧ 1 ≤ rs.length ∧ rs.length ≤ 39 ∧ 4 * tests rs ≤ rs.length ∧ ∀ r ∈ rs, r.ok 8 (rs.length + 1)) ?_ ?_
        · rintro σ' H9 ⟨l, bs, rs, rfl, C9, ht3, hl, hR, h1, h39, hT, ho⟩
          have hbr := Paired.length hR
          refine ⟨_, rfl, _, rfl, l, _, rfl, .inl ⟨SqL.of hl, fun t4 ht4 => ?_⟩⟩
          refine alloc ht4 fun H10 s10 e10 => ?_
          refine ⟨(by show 1 ≤ sizeLine; decide), fun t5 ht5 => ?_⟩
          refine alloc ht5 fun H11 s11 e11 => ?_
          refine ⟨(by show 1 ≤ sizeLine; decide), fun t6 ht6 => ?_⟩
          refine alloc ht6 fun H12 s12 e12 => ?_
          refine ⟨t4, t6, _, _, rfl, rfl, (s11.trans s12) _ _ e10, e12, sz (by rw [List.length_map]; show _ + 1 ≤ _; omega), fun t7 H13 s13 e13 => ?_⟩
          refine ⟨(by show 2 ≤ sizeLine; decide), fun t8 ht8 => ?_⟩
          refine alloc ht8 fun H14 s14 e14 => ?_
          have S914 := ((((s10.trans s11).trans s12).trans s13).trans s14)
          have C14 := C9.same S914
          have hP : ProgAt H14 t8 ⟨ws, rs ++ [.stop]⟩ := by
            refine ⟨t3, t7, bs ++ [t5], e14, S914 _ _ ht3, ?_, ?_⟩
            · rw [s14 _ _ e13, List.map_append]; rfl
            · exact Paired.app (hR.kp (Kp.same S914)) (Paired.one (((s12.trans s13).trans s14) _ _ e11))
          have hG : Good ⟨ws, rs ++ [.stop]⟩ := by
            refine ⟨?_, ?_, ?_, hwm, ?_⟩
            · show 1 ≤ (rs ++ [Row.stop]).length
              rw [List.length_append]; exact Nat.le_add_left 1 _
            · show (rs ++ [Row.stop]).length ≤ 40
              rw [List.length_append]; show _ + 1 ≤ 40; omega
            · show ws.length ≤ 8
              omega
            · intro r hr
              show r.ok ws.length (rs ++ [Row.stop]).length
              rw [hwl, List.length_append]
              rcases List.mem_append.mp hr with q | q
              · exact ho r q
              · rw [List.mem_singleton.mp q]; trivial
          have hTs : 4 * tests (rs ++ [Row.stop]) ≤ (rs ++ [Row.stop]).length := by
            rw [tests_app, tests_one, isT_stop, List.length_append]
            omega
          refine ⟨_, rfl, d, sa, ns, _, rfl, C14.ent, by decide, by decide, fun n2 H15 m0 m1 C15 => ?_⟩
          refine ⟨rfl, _, rfl, ite2 (fun _ => ?_) (fun _ => ?_)⟩
          · exact ⟨_, rfl, _, rfl, d, sa, ns, t8, _, rfl, C15.ent, hP.kp C15.kp, hG, fun b q H16 C16 hp hg hT1 hT2 => kq b q H16 ((C14.trans C15).trans C16) hp hg (by rw [hT1, hT2]; exact hTs)⟩
          · exact ⟨_, rfl, kq t8 _ H15 (C14.trans C15) (hP.kp C15.kp) hG hTs⟩
        · intro N hN
          refine ⟨_, rfl, Nat.zero_le _, fun e he => ?_⟩
          refine alloc he fun H9 s9 e9 => ?_
          have C9 := C8.same s9
          refine eq_nil (s9 _ _ hl) (hR.kp (Kp.same s9)) e9 ⟨_, rfl, ?_⟩
          cases rs with
          | nil =>
            refine ⟨_, rfl, d, sa, ns, 0, rfl, C9.ent, fun t r H10 C10 ht hp ho2 => ?_⟩
            refine ⟨(by show 1 ≤ sizeLine; decide), fun l9 hl9 => hN _ _ ?_⟩
            exact ⟨l9, [t], [r], rfl, (C9.trans C10).new hl9, (C10.kp.trans (Kp.new hl9)) _ _ (s9 _ _ ht3), upd_same, Paired.one (Kp.new hl9 _ _ ht), Nat.le_refl _, (by show 1 ≤ 39; decide), (by rw [tests_one, isT_plain hp]; exact Nat.zero_le _), fun y hy => by rw [List.mem_singleton.mp hy]; exact ho2⟩
          | cons r rs =>
            exact hN _ _ ⟨l, bs, r :: rs, rfl, C9, s9 _ _ ht3, s9 _ _ hl, hR.kp (Kp.same s9), by simp, by omega, hT, ho⟩
end
end DL
namespace DL
open PySem L2 DLR
theorem word5 {a : Nat} {j : Nat} (hj : j < 5) : ∃ wd : Str, ([V.str "load", V.str "add", V.str "take", V.str "store", V.str "add"] : List V)[j]? = some (.str wd) ∧ ∀ x y : Nat, ∃ r : Row, rowVs r = [.str wd, .int (x : Int), .int (y : Int)] ∧ ∀ W N, x < W → y < N → r.ok W N := by
  match j, hj with
  | 0, _ => exact ⟨_, rfl, fun x y => ⟨.load x y, rfl, fun _ _ p q => ⟨p, q⟩⟩⟩
  | 1, _ => exact ⟨_, rfl, fun x y => ⟨.add x y, rfl, fun _ _ p q => ⟨p, q⟩⟩⟩
  | 2, _ => exact ⟨_, rfl, fun x y => ⟨.take x y, rfl, fun _ _ p q => ⟨p, q⟩⟩⟩
  | 3, _ => exact ⟨_, rfl, fun x y => ⟨.store x y, rfl, fun _ _ p q => ⟨p, q⟩⟩⟩
  | 4, _ => exact ⟨_, rfl, fun x y => ⟨.add x y, rfl, fun _ _ p q => ⟨p, q⟩⟩⟩
def AnyAt (K : Frg) (H0 : Hp) (d sa : Addr) (ns : List Int) (wt : Addr) (us : List Int) (l : Addr) (N : Nat) (i : Nat) (H : Hp) : Prop :=
  ∃ bs rs, Dc K H0 H d sa ns ∧ H0 l = none ∧ H wt = some (.tup (us.map V.int)) ∧ H l = some (.lst (bs.map V.ref)) ∧ RowsAt H bs rs ∧ rs.length = i ∧ ∀ r ∈ rs, r.ok us.length N
theorem AnyAt.put {K : Frg} {H0 H : Hp} {d sa : Addr} {ns : List Int} {wt : Addr} {us : List Int} {l : Addr} {N : Nat} {i : Nat} {bs : List Addr} {rs : List Row} {t : Addr} {r : Row} (C : Dc K H0 H d sa ns) (n0 : H0 l = none) (hw : H wt = some (.tup (us.map V.int)))
    (hl : H l = some (.lst (bs.map V.ref))) (hR : RowsAt H bs rs) (hi : rs.length = i) (ho : ∀ r ∈ rs, r.ok us.length N) (ht : H t = some (.tup (rowVs r))) (hr : r.ok us.length N) : AnyAt K H0 d sa ns wt us l N (i + 1) (upd H l (.lst (bs.map V.ref ++ [.ref t]))) := by
  have k : Kp H (upd H l (.lst (bs.map V.ref ++ [.ref t]))) := Kp.lst hl
  exact ⟨bs ++ [t], rs ++ [r], C.mut n0, n0, k _ _ hw, by rw [upd_same, List.map_append]; rfl, RowsAt.kp (Paired.app hR (Paired.one ht)) k, by rw [List.length_append, hi]; rfl, all_snoc ho hr⟩
abbrev sAny : Stmt := top 39
abbrev FAny (K : Frg) (mg : Str → Option Value) := Fd K mg "_law_any" sAny ["_law_d"]
def spAny (K : Frg) : Sp := fun vs H Q _ => ∃ (d sa : Addr) (ns : List Int), vs = [.ref d] ∧ Ent K H d sa ns ∧
  ∀ b q H', Dc K H H' d sa ns → ProgAt H' b q → Good q → Q (.ref b) H'
section
variable {P : Program} {w : World} {K : PySem.W.Frag} {mg : Str → Option Value} {base : Heap}
abbrev nAny : List Str := ["_law_d", "_law_many", "_law_rows", "_law_worths", "_law_size", "_law_number_here", "_law_near", "_law_way", "_law_k"]
theorem scAny : FnScope nAny ["_law_d"] (defScope sAny) := ⟨rfl, rfl, rfl, by decide +kernel, rfl, by decide +kernel, by decide +kernel⟩
theorem ok_any (cAny : FAny K mg) (cStopping : FStopping K mg) (cMixed : FMixed K mg) (cBody : FBody K mg) (cFork : FFork K mg) (cStraight : FStraight K mg) (cNext : FNext K mg) (T : Bt mg) : FnOk P w K mg base CX0 8 cAny.f cAny.fd ["_law_d"] (spAny K) := by
  have GNext : FnOk P w K mg base CX0 1 cNext.f cNext.fd ["_law_dice_here", "_law_many"] (spNext K) := ok_next cNext.F T
  have GStopping : FnOk P w K mg base CX0 7 cStopping.f cStopping.fd pStopping (spStopping K) := ok_stopping cStopping cMixed cBody cFork cStraight cNext T
  refine cAny.F.ok scAny (fun vs H Q E h => ?_) (fun cdv A outer s H vs Q E hr h => ?_)
  · obtain ⟨d, sa, ns, rfl, _⟩ := h
    rfl
  · obtain ⟨d, sa, ns, rfl, hE, kq⟩ := h
    refine ⟨_, (pss_cons (ps_if (pt_cmpR op_gt (pe_call GNext (hr.mono (by first | omega | decide)) (by rfl) cNext.m cNext.F.kp cNext.b .nil pass0 (pa_cons (pv 0) (pa_cons pe_int pa_nil))) pe_int (nomark _))
          (pss_one (ps_ret (pe_call GStopping (hr.mono (by first | omega | decide)) (by rfl) cStopping.m cStopping.F.kp cStopping.b .nil pass0 (pa_cons (pv 0) (pa_cons (pe_call GNext (hr.mono (by first | omega | decide)) (by rfl) cNext.m cNext.F.kp cNext.b .nil pass0 (pa_cons (pv 0) (pa_cons pe_int pa_nil))) pa_nil)))))
          pss_nil)
      (pss_cons (ps_par (i := 1) (j := 2) (by rfl) scAny.nd rfl rfl (by decide) rfl rfl (pa_cons (pe_call GNext (hr.mono (by first | omega | decide)) (by rfl) cNext.m cNext.F.kp cNext.b .nil pass0 (pa_cons (pv 0) (pa_cons pe_int pa_nil))) (pa_cons (pe_lst pa_nil) pa_nil)) (by rfl))
      (pss_cons (ps_set (i := 3) scAny.nd rfl (Or.inl rfl) (pe_callTy call_tuple_of (by rfl) T.tuple (by decide +kernel) (pa_cons (pe_lc (own := [("_law_k", 8)]) (g := gName 8) (tt := tYes) rfl scAny.nd (pi_range1 rfl T.range (pa_cons (pv 1) pa_nil)) (blkOk_by (N := nAny) (sc := defScope sAny) (by decide +kernel)) (fun _ _ _ _ _ => (pg_name (i := 8) scAny.nd rfl (Or.inl rfl))) (fun _ _ _ _ _ => pts_nil) (fun _ _ _ _ _ => (pe_ix (ix_listK K rfl) (pe_lst (pa_cons (pe_op op_sub (pe_call GNext (hr.mono (by first | omega | decide)) (by rfl) cNext.m cNext.F.kp cNext.b .nil pass0 (pa_cons (pv 0) (pa_cons pe_int pa_nil))) pe_int) (pa_cons (pe_op op_sub (pe_call GNext (hr.mono (by first | omega | decide)) (by rfl) cNext.m cNext.F.kp cNext.b .nil pass0 (pa_cons (pv 0) (pa_cons pe_int pa_nil))) (pe_op op_pow pe_int pe_int)) pa_nil))) (pe_call GNext (hr.mono (by first | omega | decide)) (by rfl) cNext.m cNext.F.kp cNext.b .nil pass0 (pa_cons (pv 0) (pa_cons pe_int pa_nil))) (fun _ _ => rfl)))) pa_nil)))
      (pss_cons (ps_set (i := 4) scAny.nd rfl (Or.inl rfl) (pe_op op_add pe_int (pe_call GNext (hr.mono (by first | omega | decide)) (by rfl) cNext.m cNext.F.kp cNext.b .nil pass0 (pa_cons (pv 0) (pa_cons (pe_ix ix_list (pe_lst (pa_cons pe_int (pa_cons pe_int (pa_cons pe_int pa_nil)))) (pe_call GNext (hr.mono (by first | omega | decide)) (by rfl) cNext.m cNext.F.kp cNext.b .nil pass0 (pa_cons (pv 0) (pa_cons pe_int pa_nil))) (fun _ _ => rfl)) pa_nil)))))
      (pss_cons (ps_for PassesOwn.never rfl (pi_range1 rfl T.range (pa_cons (pv 4) pa_nil)) (pg_name (i := 5) scAny.nd rfl (Or.inl rfl))
          (pss_cons (ps_set (i := 6) scAny.nd rfl (Or.inl rfl) (pe_ix ix_list (pe_lst (pa_cons (pe_op op_mod (pe_op op_add (pv 5) pe_int) (pv 4)) (pa_cons (pe_call GNext (hr.mono (by first | omega | decide)) (by rfl) cNext.m cNext.F.kp cNext.b .nil pass0 (pa_cons (pv 0) (pa_cons (pv 4) pa_nil))) pa_nil))) (pe_callTy call_int1 (by rfl) T.int (by decide +kernel) (pa_cons (pe_cmpR op_eq (pe_call GNext (hr.mono (by first | omega | decide)) (by rfl) cNext.m cNext.F.kp cNext.b .nil pass0 (pa_cons (pv 0) (pa_cons pe_int pa_nil))) pe_int (nomark _)) pa_nil)) (fun _ _ => rfl)))
          (pss_cons (ps_set (i := 7) scAny.nd rfl (Or.inl rfl) (pe_call GNext (hr.mono (by first | omega | decide)) (by rfl) cNext.m cNext.F.kp cNext.b .nil pass0 (pa_cons (pv 0) (pa_cons pe_int pa_nil))))
          (pss_one (ps_if (PW.pt (pw_and (pt_cmpR op_lt (pv 7) pe_int (nomark _)) (pw_and1 (pt_cmpR op_gt (pv 1) pe_int (nomark _)))))
              (pss_one (ps_expr (pe_bm PySem.F.plainAttrs_list PySem.F.slot_list_append PySem.F.type_list_append mt_append (pv 2) (pa_cons (pe_tup (pa_cons (pe_ix ix_list (pe_lst (pa_cons pe_str (pa_cons pe_str (pa_cons pe_str (pa_cons pe_str (pa_cons pe_str pa_nil)))))) (pv 7) (fun _ _ => rfl)) (pa_cons (pe_call GNext (hr.mono (by first | omega | decide)) (by rfl) cNext.m cNext.F.kp cNext.b .nil pass0 (pa_cons (pv 0) (pa_cons (pv 1) pa_nil))) (pa_cons (pv 6) pa_nil)))) pa_nil))))
              (pss_one (ps_expr (pe_bm PySem.F.plainAttrs_list PySem.F.slot_list_append PySem.F.type_list_append mt_append (pv 2) (pa_cons (pe_ix ix_list (pe_lst (pa_cons (pe_tup (pa_cons pe_str (pa_cons (pv 6) pa_nil))) (pa_cons (pe_tup (pa_cons pe_str (pa_cons (pe_call GNext (hr.mono (by first | omega | decide)) (by rfl) cNext.m cNext.F.kp cNext.b .nil pass0 (pa_cons (pv 0) (pa_cons (pv 4) pa_nil))) (pa_cons (pv 6) pa_nil)))) (pa_cons (pe_tup (pa_cons pe_str pa_nil)) pa_nil)))) (pe_op op_mod (pv 7) pe_int) (fun _ _ => rfl)) pa_nil)))))))))
      (pss_one (ps_ret (pe_tup (pa_cons (pv 3) (pa_cons (pe_callTy call_tuple_of (by rfl) T.tuple (by decide +kernel) (pa_cons (pv 2) pa_nil)) pa_nil)))))))))), ?_⟩
    refine ⟨_, rfl, d, sa, ns, _, rfl, hE, by decide, by decide, fun n0 H1 a0 a1 C1 => ?_⟩
    refine ⟨_, _, rfl, rfl, _, rfl, ite2 (fun _ => ?_) (fun _ => ?_)⟩
    · refine ⟨_, rfl, _, rfl, d, sa, ns, _, rfl, C1.ent, by decide, by decide, fun n1 H2 b0 b1 C2 => ?_⟩
      refine ⟨d, sa, ns, n1.toNat, ?_, by omega, C2.ent, fun b q H3 C3 hp hg _ => kq b q H3 ((C1.trans C2).trans C3) hp hg⟩
      show [V.ref d, V.int n1] = _
      rw [Int.toNat_of_nonneg b0]
    refine ⟨_, rfl, d, sa, ns, _, rfl, C1.ent, by decide, by decide, fun many H2 b0 b1 C2 => ?_⟩
    obtain ⟨mn, rfl⟩ : ∃ mn : Nat, many = (mn : Int) := ⟨many.toNat, by omega⟩
    refine ⟨Nat.zero_le _, fun l hl => ?_⟩
    refine alloc hl fun H3 s3 e3 => ?_
    have C3 := (C1.trans C2).same s3
    have nl : H l = none := (C1.trans C2).here hl
    refine ⟨_, _, rfl, ?_⟩
    refine ⟨_, rfl, _, rfl, by omega, by omega, fun D hD => ?_⟩
    have nlD : l ≠ D := ne_of_none e3 hD
    refine lc_range (lo := 0) (n := (mn : Int).toNat) (fun i H4 => ∃ us : List Int, Dc K H H4 d sa ns ∧ H D = none ∧ H4 D = some (.lst (us.map V.int)) ∧ us.length = i ∧ (∀ x ∈ us, -1000000 ≤ x ∧ x ≤ 1000000) ∧ H4 l = some (.lst []))
      ⟨[], C3.new hD, C3.here hD, upd_same, rfl, fun _ h => absurd h (by simp), by rw [upd_ne nlD]; exact e3⟩ ?_ ?_
    · rintro i H4 hi ⟨us, C4, nD, hu, hul, hum, hl4⟩
      refine ⟨rfl, _, rfl, d, sa, ns, _, rfl, C4.ent, by decide, by decide, fun m1 H5 m10 m11 C5 => ?_⟩
      refine ⟨_, _, rfl, rfl, _, rfl, d, sa, ns, _, rfl, C5.ent, by decide, by decide, fun m2 H6 m20 m21 C6 => ?_⟩
      refine ⟨_, _, rfl, rfl, ⟨by decide, by decide, by decide⟩, _, _, rfl, rfl, (by show 2 ≤ sizeLine; decide), fun lx hlx => ?_⟩
      refine alloc hlx fun H7 s7 e7 => ?_
      have C7 := (C5.trans C6).same s7
      refine ⟨_, rfl, d, sa, ns, _, rfl, C7.ent, by decide, by decide, fun m3 H8 m30 m31 C8 => ?_⟩
      have C48 := C7.trans C8
      have hu8 := C48.but _ _ (C4.ned nD) hu
      have hl8 := C48.but _ _ (C4.ned nl) hl4
      have hx8 := C8.but _ _ (((C4.trans C5).trans C6).ned (((C4.trans C5).trans C6).here hlx)) e7
      have e6 : ((10 : Int) ^ (6 : Int).toNat) = 1000000 := by decide
      obtain ⟨z, hz, hz1, hz2⟩ : ∃ z : Int, atI ([V.int (m1 - 4), V.int (m2 - (10 : Int) ^ (6 : Int).toNat)] : List V) m3 = some (.int z) ∧ -1000000 ≤ z ∧ z ≤ 1000000 := by
        rcases (show m3 = 0 ∨ m3 = 1 by omega) with q | q
        · exact ⟨m1 - 4, by rw [q]; exact at0, by omega, by omega⟩
        · exact ⟨m2 - 1000000, by rw [q, e6]; exact at1, by omega, by omega⟩
      refine ⟨lx, _, _, _, rfl, rfl, SqL.of hx8, hz, _, hu8, szl (by rw [List.length_map]; omega), us ++ [z], (C4.trans C48).mut nD, nD, by rw [upd_same, List.map_append]; rfl, by rw [List.length_append, hul]; rfl, all_snoc hum ⟨hz1, hz2⟩, by rw [upd_ne nlD]; exact hl8⟩
    · rintro H4 ⟨us, C4, nD, hu, hul, hum, hl4⟩
      rw [Int.toNat_natCast] at hul
      refine ⟨D, _, rfl, .inl ⟨SqL.of hu, fun wt hwt => ?_⟩⟩
      refine alloc hwt fun H5 s5 e5 => ?_
      have C5 := C4.same s5
      refine ⟨_, rfl, (by show 3 ≤ sizeLine; decide), fun ly hly => ?_⟩
      refine alloc hly fun H6 s6 e6 => ?_
      have C6 := C5.same s6
      refine ⟨_, rfl, d, sa, ns, _, rfl, C6.ent, by decide, by decide, fun m3 H7 m30 m31 C7 => ?_⟩
      have C67 := C6.trans C7
      obtain ⟨z, hz, hz1, hz2⟩ : ∃ z : Int, atI ([V.int 6, V.int 12, V.int 40] : List V) m3 = some (.int z) ∧ 0 < z ∧ z ≤ 40 := by
        rcases (show m3 = 0 ∨ m3 = 1 ∨ m3 = 2 by omega) with q | q | q
        · exact ⟨6, by rw [q]; exact at0, by decide, by decide⟩
        · exact ⟨12, by rw [q]; exact at1, by decide, by decide⟩
        · exact ⟨40, by rw [q]; exact at2, by decide, by decide⟩
      refine ⟨ly, _, _, _, rfl, rfl, SqL.of (C7.but _ _ (C5.ned (C5.here hly)) e6), hz, d, sa, ns, _, rfl, C67.ent, hz1, by omega, fun m4 H8 m40 m41 C8 => ?_⟩
      refine ⟨_, _, rfl, rfl, ?_⟩
      have C8' := C67.trans C8
      obtain ⟨N, hN⟩ : ∃ N : Nat, 1 + m4 = (N : Int) := ⟨(1 + m4).toNat, by omega⟩
      have hN1 : 1 ≤ N := by omega
      have hN40 : N ≤ 40 := by omega
      refine ⟨_, rfl, 1 + m4, rfl, by omega, by omega, ?_⟩
      refine for_range (lo := 0) (n := (1 + m4).toNat) (fun i σ H' => ∃ x5 x6 x7 : Option V, σ = [some (.ref d), some (.int (mn : Int)), some (.ref l), some (.ref wt), some (.int (N : Int)), x5, x6, x7, none] ∧ AnyAt K H d sa ns wt us l N i H')
        ⟨none, none, none, by rw [← hN]; rfl, [], [], C8', nl, (C7.kp.trans C8.kp) _ _ (s6 _ _ e5), (C7.trans C8).but _ _ (C6.ned nl) ((s5.trans s6) _ _ hl4), .nil, rfl, fun _ h => absurd h (by simp)⟩ ?_ ?_
      · rintro i σ H9 hi ⟨x5, x6, x7, rfl, bs, rs, C9, _, hw9, hl9, hR, hil, ho⟩
        have hbr := Paired.length hR
        have hiN : i < N := by omega
        refine ⟨_, rfl, _, _, rfl, rfl, _, rfl, _, _, rfl, rfl, (by omega), _, rfl, _, rfl, d, sa, ns, _, rfl, C9.ent, (by omega), (by omega), fun m5 H10 m50 m51 C10 => ?_⟩
        refine ⟨(by show 2 ≤ sizeLine; decide), fun lz hlz => ?_⟩
        refine alloc hlz fun H11 s11 e11 => ?_
        have C11 := C10.same s11
        refine ⟨_, rfl, d, sa, ns, _, rfl, C11.ent, by decide, by decide, fun m6 H12 m60 m61 C12 => ?_⟩
        obtain ⟨z, hz, hzN⟩ : ∃ z : Nat, atI ([V.int ((0 + (i : Int) + 1) % (N : Int)), V.int m5] : List V) (if decide (V.int m6 = V.int 3) = true then 1 else 0) = some (.int (z : Int)) ∧ z < N := by
          by_cases c : decide (V.int m6 = V.int 3) = true
          · rw [if_pos c]
            obtain ⟨z, q⟩ : ∃ z : Nat, m5 = (z : Int) := ⟨m5.toNat, by omega⟩
            exact ⟨z, by rw [q]; exact at1, by omega⟩
          · rw [if_neg c]
            have q0 := Int.emod_nonneg (0 + (i : Int) + 1) (show (N : Int) ≠ 0 by omega)
            have q1 := Int.emod_lt_of_pos (0 + (i : Int) + 1) (show (0 : Int) < (N : Int) by omega)
            obtain ⟨z, q⟩ : ∃ z : Nat, (0 + (i : Int) + 1) % (N : Int) = (z : Int) := ⟨((0 + (i : Int) + 1) % (N : Int)).toNat, by omega⟩
            exact ⟨z, by rw [q]; exact at0, by omega⟩
        have C912 := C11.trans C12
        refine ⟨rfl, .inr ⟨_, rfl, lz, _, _, _, rfl, rfl, SqL.of (C12.but _ _ (C10.ned (C10.here hlz)) e11), hz, ?_⟩⟩
        refine ⟨_, rfl, d, sa, ns, _, rfl, C912.ent, by decide, by decide, fun wy H13 w0 w1 C13 => ?_⟩
        dsimp only [gName]
        have C913 := C912.trans C13
        have hl13 := C913.but _ _ (C9.ned nl) hl9
        have hw13 := C913.kp _ _ hw9
        have hR13 := hR.kp C913.kp
        refine if_elim (fun b H' => H' = H13 ∧ (b = true → wy < 5 ∧ 0 < mn)) ?_ ?_
        · rintro bb _ ⟨rfl, hbb⟩
          cases bb with
          | true =>
            obtain ⟨hw5, hm0⟩ := hbb rfl
            refine ⟨_, rfl, .inl ⟨rfl, _, SqL.of hl13⟩, (by show 5 ≤ sizeLine; decide), fun l5 hl5 => ?_⟩
            refine alloc hl5 fun H14 s14 e14 => ?_
            obtain ⟨j, rfl⟩ : ∃ j : Nat, wy = (j : Int) := ⟨wy.toNat, by omega⟩
            obtain ⟨wd, hwd, hrow⟩ := word5 (a := 0) (j := j) (by omega)
            have C14 := C913.same s14
            refine ⟨_, rfl, l5, _, _, _, rfl, rfl, SqL.of e14, atI_nat hwd, ?_⟩
            refine ⟨_, rfl, _, rfl, d, sa, ns, _, rfl, C14.ent, (by omega), (by omega), fun m7 H15 m70 m71 C15 => ?_⟩
            obtain ⟨y, rfl⟩ : ∃ y : Nat, m7 = (y : Int) := ⟨m7.toNat, by omega⟩
            obtain ⟨r, hr1, hr2⟩ := hrow y z
            refine ⟨_, rfl, (by show 3 ≤ sizeLine; decide), fun t ht => ?_⟩
            refine alloc ht fun H16 s16 e16 => ?_
            have C16 := (C14.trans C15).same s16
            have hl16 := C16.but _ _ (C9.ned nl) hl9
            refine ⟨l, _, _, rfl, rfl, hl16, szl (by rw [List.length_map]; omega), _, _, _, rfl, ?_⟩
            exact AnyAt.put (C9.trans C16) nl (C16.kp _ _ hw9) hl16 (hR.kp C16.kp) hil ho (by rw [e16, hr1]) (hr2 _ _ (by omega) hzN)
          | false =>
            refine ⟨_, rfl, .inl ⟨rfl, _, SqL.of hl13⟩, _, rfl, (by show 2 ≤ sizeLine; decide), fun t1 ht1 => ?_⟩
            refine alloc ht1 fun H14 s14 e14 => ?_
            have C14 := C913.same s14
            refine ⟨_, rfl, _, rfl, d, sa, ns, _, rfl, C14.ent, (by omega), (by omega), fun m7 H15 m70 m71 C15 => ?_⟩
            obtain ⟨y, rfl⟩ : ∃ y : Nat, m7 = (y : Int) := ⟨m7.toNat, by omega⟩
            refine ⟨_, rfl, (by show 3 ≤ sizeLine; decide), fun t2 ht2 => ?_⟩
            refine alloc ht2 fun H16 s16 e16 => ?_
            refine ⟨(by show 1 ≤ sizeLine; decide), fun t3 ht3 => ?_⟩
            refine alloc ht3 fun H17 s17 e17 => ?_
            refine ⟨(by show 3 ≤ sizeLine; decide), fun lx hlx => ?_⟩
            refine alloc hlx fun H18 s18 e18 => ?_
            have C18 := (((C14.trans C15).same s16).same s17).same s18
            obtain ⟨t, r, hat, htr, hrr⟩ : ∃ (t : Addr) (r : Row), atI ([V.ref t1, V.ref t2, V.ref t3] : List V) (wy % 3) = some (.ref t) ∧ H18 t = some (.tup (rowVs r)) ∧ r.ok us.length N := by
              have S18 := s17.trans s18
              rcases (show wy % 3 = 0 ∨ wy % 3 = 1 ∨ wy % 3 = 2 by omega) with q | q | q
              · exact ⟨t1, .say z, by rw [q]; exact at0, (C15.kp.trans (Kp.same (s16.trans S18))) _ _ e14, hzN⟩
              · exact ⟨t2, .test y z, by rw [q]; exact at1, S18 _ _ e16, by omega, hzN⟩
              · exact ⟨t3, .stop, by rw [q]; exact at2, s18 _ _ e17, trivial⟩
            have hl18 := C18.but _ _ (C9.ned nl) hl9
            refine ⟨_, rfl, _, _, rfl, rfl, (by show (0 : Int) < 3; decide), lx, _, _, _, rfl, rfl, SqL.of e18, hat, l, _, _, rfl, rfl, hl18, szl (by rw [List.length_map]; omega), _, _, _, rfl, ?_⟩
            exact AnyAt.put (C9.trans C18) nl (C18.kp _ _ hw9) hl18 (hR.kp C18.kp) hil ho htr hrr
        · intro F' hF
          refine ⟨_, rfl, _, _, rfl, rfl, _, rfl, ite2 (fun c => ?_) (fun _ => hF _ _ ⟨rfl, fun e => Bool.noConfusion e⟩)⟩
          have c := of_decide_eq_true c
          refine ⟨_, rfl, _, _, rfl, rfl, _, rfl, hF _ _ ⟨rfl, fun e => ⟨c, ?_⟩⟩⟩
          have e := of_decide_eq_true e
          omega
      · rintro σ H9 ⟨x5, x6, x7, rfl, bs, rs, C9, _, hw9, hl9, hR, hil, ho⟩
        have hbr := Paired.length hR
        refine ⟨_, rfl, _, rfl, l, _, rfl, .inl ⟨SqL.of hl9, fun t1 ht1 => ?_⟩⟩
        refine alloc ht1 fun H10 s10 e10 => ?_
        refine ⟨(by show 2 ≤ sizeLine; decide), fun t2 ht2 => ?_⟩
        refine alloc ht2 fun H11 s11 e11 => ?_
        have S := s10.trans s11
        have hNl : rs.length = N := by omega
        refine kq t2 ⟨us, rs⟩ H11 (C9.same S) ⟨wt, t1, bs, e11, S _ _ hw9, s11 _ _ e10, hR.kp (Kp.same S)⟩ ⟨?_, ?_, ?_, hum, ?_⟩
        · show 1 ≤ rs.length
          omega
        · show rs.length ≤ 40
          omega
        · show us.length ≤ 8
          omega
        · intro r hr
          show r.ok us.length rs.length
          rw [hNl]
          exact ho r hr
end
end DL
namespace DL
open PySem L2 DLR
/-! ### the machine -/
def ring (n : Int) : Int := (n + 1000000000) % 2000000000 - 1000000000
structure Mach where
  desk : Int
  ws : List Int
  said : List Int
def InR (x : Int) : Prop := -1000000000 ≤ x ∧ x < 1000000000
theorem ring_in (n : Int) : InR (ring n) := by
  have h0 := Int.emod_nonneg (n + 1000000000) (show (2000000000 : Int) ≠ 0 by decide)
  have h1 := Int.emod_lt_of_pos (n + 1000000000) (show (0 : Int) < 2000000000 by decide)
  unfold ring InR
  omega
theorem ring_id {n : Int} (h : InR n) : ring n = n := by
  unfold ring
  rw [Int.emod_eq_of_lt (by unfold InR at h; omega) (by unfold InR at h; omega)]
  omega
theorem ring_add (a b : Int) : ring (ring a + b) = ring (a + b) := by
  unfold ring
  have e : (a + 1000000000) % 2000000000 - 1000000000 + b + 1000000000 = (a + 1000000000) % 2000000000 + b := by omega
  rw [e, Int.emod_add_emod]
  have e2 : a + 1000000000 + b = a + b + 1000000000 := by omega
  rw [e2]
structure MOk (m : Mach) : Prop where
  desk : InR m.desk
  ws : ∀ x ∈ m.ws, InR x
def Mach.at (m : Mach) (w : Nat) : Int := m.ws.getD w 0
def stepM (m : Mach) : Row → Mach × Option Nat
  | .load w n => ({ m with desk := m.at w }, some n)
  | .add w n => ({ m with desk := ring (m.desk + m.at w) }, some n)
  | .take w n => ({ m with desk := ring (m.desk - m.at w) }, some n)
  | .store w n => ({ m with ws := m.ws.set w m.desk }, some n)
  | .say n => ({ m with said := m.said ++ [m.desk] }, some n)
  | .test a b => (m, some (if m.desk = 0 then a else b))
  | .stop => (m, none)
theorem at_in {m : Mach} (h : MOk m) {w : Nat} (hw : w < m.ws.length) : m.ws[w]? = some (m.at w) ∧ InR (m.at w) := by
  have e : m.ws[w]? = some (m.at w) := by
    unfold Mach.at
    rw [List.getD_eq_getElem?_getD, List.getElem?_eq_getElem hw]
    rfl
  exact ⟨e, h.ws _ (List.mem_of_getElem? e)⟩
theorem stepM_ok {m : Mach} (h : MOk m) {r : Row} {N : Nat} (ho : r.ok m.ws.length N) : MOk (stepM m r).1 ∧ (stepM m r).1.ws.length = m.ws.length ∧ (stepM m r).1.said.length ≤ m.said.length + 1 ∧ ∀ n, (stepM m r).2 = some n → n < N := by
  cases r with
  | load w n => exact ⟨⟨(at_in h ho.1).2, h.ws⟩, rfl, Nat.le_succ _, fun k e => by cases e; exact ho.2⟩
  | add w n => exact ⟨⟨ring_in _, h.ws⟩, rfl, Nat.le_succ _, fun k e => by cases e; exact ho.2⟩
  | take w n => exact ⟨⟨ring_in _, h.ws⟩, rfl, Nat.le_succ _, fun k e => by cases e; exact ho.2⟩
  | store w n =>
    refine ⟨⟨h.desk, fun x hx => ?_⟩, List.length_set .., Nat.le_succ _, fun k e => by cases e; exact ho.2⟩
    rcases List.mem_or_eq_of_mem_set hx with q | q
    · exact h.ws x q
    · rw [q]; exact h.desk
  | say n => exact ⟨⟨h.desk, h.ws⟩, rfl, by show (m.said ++ [m.desk]).length ≤ _; rw [List.length_append]; exact Nat.le_refl _, fun k e => by cases e; exact ho⟩
  | test a b =>
    refine ⟨h, rfl, Nat.le_succ _, fun k e => ?_⟩
    have e : (if m.desk = 0 then a else b) = k := Option.some.inj e
    rw [← e]
    split
    · exact ho.1
    · exact ho.2
  | stop => exact ⟨h, rfl, Nat.le_succ _, fun k e => by cases e⟩
def oV : Option Nat → V
  | none => .non
  | some n => .int (n : Int)
/-! ### the law's own machine: a dict -/
def kW : Key := .inr "worths"
def kD : Key := .inr "desk"
def kS : Key := .inr "said"
theorem k_WD : kW ≠ kD := by decide +kernel
theorem k_WS : kW ≠ kS := by decide +kernel
theorem k_DS : kD ≠ kS := by decide +kernel
structure LawM (ex : Key → Option V) (H : Hp) (ad aw as_ : Addr) (m : Mach) : Prop where
  dic : ∃ kvs : List (Key × V), H ad = some (.dK kvs) ∧ kvs.length ≤ 100 ∧ valV kvs kW = some (.ref aw) ∧ valV kvs kD = some (.int m.desk) ∧ valV kvs kS = some (.ref as_) ∧ ∀ k, k ≠ kW → k ≠ kD → k ≠ kS → valV kvs k = ex k
  ws : H aw = some (.lst (m.ws.map V.int))
  said : H as_ = some (.lst (m.said.map V.int))
  ne : aw ≠ as_
def But3 (a b c : Addr) (H H' : Hp) : Prop := ∀ x o, x ≠ a → x ≠ b → x ≠ c → H x = some o → H' x = some o
theorem But3.of {a b c : Addr} {H H' : Hp} (s : Same1 H H') : But3 a b c H H' := fun x o _ _ _ h => s x o h
theorem But3.trans {a b c : Addr} {H H1 H2 : Hp} (s : But3 a b c H H1) (t : But3 a b c H1 H2) : But3 a b c H H2 := fun x o h1 h2 h3 h => t x o h1 h2 h3 (s x o h1 h2 h3 h)
theorem But3.upd1 {a b c : Addr} {H : Hp} {o : HO} : But3 a b c H (upd H a o) := fun x u h _ _ e => by rw [upd_ne h]; exact e
theorem But3.upd2 {a b c : Addr} {H : Hp} {o : HO} : But3 a b c H (upd H b o) := fun x u _ h _ e => by rw [upd_ne h]; exact e
theorem But3.upd3 {a b c : Addr} {H : Hp} {o : HO} : But3 a b c H (upd H c o) := fun x u _ _ h e => by rw [upd_ne h]; exact e
theorem LawM.same {ex : Key → Option V} {H H' : Hp} {ad aw as_ : Addr} {m : Mach} (h : LawM ex H ad aw as_ m) (s : Same1 H H') : LawM ex H' ad aw as_ m := by
  obtain ⟨⟨kvs, h1, h2⟩, h3, h4, h5⟩ := h
  exact ⟨⟨kvs, s _ _ h1, h2⟩, s _ _ h3, s _ _ h4, h5⟩
theorem put_len {κ : Type} [DecidableEq κ] {kvs : List (κ × V)} {k : κ} {v x : V} (h : valV kvs k = some x) : (putK kvs k v).length = kvs.length := by
  unfold putK
  rw [valV_any, h, if_pos (by rfl), List.length_map]
theorem LawM.put {ex : Key → Option V} {H : Hp} {ad aw as_ : Addr} {m : Mach} {kvs : List (Key × V)} {z : Int} (h : LawM ex H ad aw as_ m) (e : H ad = some (.dK kvs)) : LawM ex (upd H ad (.dK (putK kvs kD (.int z)))) ad aw as_ { m with desk := z } := by
  obtain ⟨⟨kvs', h1, h2, h3, h4, h5, h9⟩, h6, h7, h8⟩ := h
  rw [e] at h1
  have q : kvs = kvs' := by injection (Option.some.inj h1)
  subst q
  have nw : aw ≠ ad := ne_of h6 e (by intro z; cases z)
  have ns : as_ ≠ ad := ne_of h7 e (by intro z; cases z)
  refine ⟨⟨putK kvs kD (.int z), upd_same, by rw [put_len h4]; exact h2, ?_, ?_, ?_, fun k a b c => by rw [valV_put, if_neg (fun z => b z)]; exact h9 k a b c⟩, by rw [upd_ne nw]; exact h6, by rw [upd_ne ns]; exact h7, h8⟩
  · rw [valV_put, if_neg k_WD]; exact h3
  · rw [valV_put, if_pos rfl]
  · rw [valV_put, if_neg k_DS.symm]; exact h5
theorem dget {H : Hp} {a : Addr} {kvs : List (Key × V)} {k : Key} {v : V} (e : H a = some (.dK kvs)) (h : valV kvs k = some v) : DGet H a (kV k) (some v) := by
  have q := DGet.k (k := k) e
  rw [h] at q
  exact q
def Row.ar : Row → Bool
  | .load _ _ => true
  | .add _ _ => true
  | .take _ _ => true
  | _ => false
theorem Row.in3 (r : Row) : inV (.str r.word) [.str "load", .str "add", .str "take"] = r.ar := by cases r <;> (dsimp only [Row.word, Row.ar]; decide +kernel)
def Row.isWd (s : Str) (r : Row) : Bool := decide (V.str r.word = V.str s)
def Row.fac (r : Row) : Int × Int := match r with
  | .load _ _ => (0, 1)
  | .take _ _ => (1, -1)
  | _ => (1, 1)
theorem Row.f1 (r : Row) : (if (!decide (V.str r.word = V.str "load")) = true then (1 : Int) else 0) = r.fac.1 := by
  cases r with
  | load _ _ => exact (by decide +kernel : (if (!decide (V.str "load" = V.str "load")) = true then (1 : Int) else 0) = 0)
  | add _ _ => exact (by decide +kernel : (if (!decide (V.str "add" = V.str "load")) = true then (1 : Int) else 0) = 1)
  | take _ _ => exact (by decide +kernel : (if (!decide (V.str "take" = V.str "load")) = true then (1 : Int) else 0) = 1)
  | store _ _ => exact (by decide +kernel : (if (!decide (V.str "store" = V.str "load")) = true then (1 : Int) else 0) = 1)
  | say _ => exact (by decide +kernel : (if (!decide (V.str "say" = V.str "load")) = true then (1 : Int) else 0) = 1)
  | test _ _ => exact (by decide +kernel : (if (!decide (V.str "test" = V.str "load")) = true then (1 : Int) else 0) = 1)
  | stop  => exact (by decide +kernel : (if (!decide (V.str "stop" = V.str "load")) = true then (1 : Int) else 0) = 1)
theorem Row.f2 (r : Row) : atI ([V.int 1, V.int (-1)] : List V) (if decide (V.str r.word = V.str "take") = true then (1 : Int) else 0) = some (.int r.fac.2) := by
  cases r with
  | load _ _ => exact (by decide +kernel : atI ([V.int 1, V.int (-1)] : List V) (if decide (V.str "load" = V.str "take") = true then (1 : Int) else 0) = some (.int (1)))
  | add _ _ => exact (by decide +kernel : atI ([V.int 1, V.int (-1)] : List V) (if decide (V.str "add" = V.str "take") = true then (1 : Int) else 0) = some (.int (1)))
  | take _ _ => exact (by decide +kernel : atI ([V.int 1, V.int (-1)] : List V) (if decide (V.str "take" = V.str "take") = true then (1 : Int) else 0) = some (.int (-1)))
  | store _ _ => exact (by decide +kernel : atI ([V.int 1, V.int (-1)] : List V) (if decide (V.str "store" = V.str "take") = true then (1 : Int) else 0) = some (.int (1)))
  | say _ => exact (by decide +kernel : atI ([V.int 1, V.int (-1)] : List V) (if decide (V.str "say" = V.str "take") = true then (1 : Int) else 0) = some (.int (1)))
  | test _ _ => exact (by decide +kernel : atI ([V.int 1, V.int (-1)] : List V) (if decide (V.str "test" = V.str "take") = true then (1 : Int) else 0) = some (.int (1)))
  | stop  => exact (by decide +kernel : atI ([V.int 1, V.int (-1)] : List V) (if decide (V.str "stop" = V.str "take") = true then (1 : Int) else 0) = some (.int (1)))
theorem Row.wd_eq (r : Row) : r.isWd "test" = (match r with | .test _ _ => true | _ => false) ∧ r.isWd "store" = (match r with | .store _ _ => true | _ => false) ∧ r.isWd "say" = (match r with | .say _ => true | _ => false) ∧ r.isWd "stop" = (match r with | .stop => true | _ => false) := by
  cases r with
  | load _ _ => exact (by decide +kernel : decide (V.str "load" = V.str "test") = false ∧ decide (V.str "load" = V.str "store") = false ∧ decide (V.str "load" = V.str "say") = false ∧ decide (V.str "load" = V.str "stop") = false)
  | add _ _ => exact (by decide +kernel : decide (V.str "add" = V.str "test") = false ∧ decide (V.str "add" = V.str "store") = false ∧ decide (V.str "add" = V.str "say") = false ∧ decide (V.str "add" = V.str "stop") = false)
  | take _ _ => exact (by decide +kernel : decide (V.str "take" = V.str "test") = false ∧ decide (V.str "take" = V.str "store") = false ∧ decide (V.str "take" = V.str "say") = false ∧ decide (V.str "take" = V.str "stop") = false)
  | store _ _ => exact (by decide +kernel : decide (V.str "store" = V.str "test") = false ∧ decide (V.str "store" = V.str "store") = true ∧ decide (V.str "store" = V.str "say") = false ∧ decide (V.str "store" = V.str "stop") = false)
  | say _ => exact (by decide +kernel : decide (V.str "say" = V.str "test") = false ∧ decide (V.str "say" = V.str "store") = false ∧ decide (V.str "say" = V.str "say") = true ∧ decide (V.str "say" = V.str "stop") = false)
  | test _ _ => exact (by decide +kernel : decide (V.str "test" = V.str "test") = true ∧ decide (V.str "test" = V.str "store") = false ∧ decide (V.str "test" = V.str "say") = false ∧ decide (V.str "test" = V.str "stop") = false)
  | stop  => exact (by decide +kernel : decide (V.str "stop" = V.str "test") = false ∧ decide (V.str "stop" = V.str "store") = false ∧ decide (V.str "stop" = V.str "say") = false ∧ decide (V.str "stop" = V.str "stop") = true)
theorem Row.ar_of {r : Row} (h : r.ar = true) {W N : Nat} (ho : r.ok W N) : ∃ w n : Nat, (rowVs r)[1]? = some (.int (w : Int)) ∧ w < W ∧ atI (rowVs r) (-1) = some (.int (n : Int)) ∧
    ∀ m : Mach, MOk m → w < m.ws.length → stepM m r = ({ m with desk := ring (m.desk * r.fac.1 + m.at w * r.fac.2) }, some n) := by
  cases r with
  | load w n =>
    refine ⟨w, n, rfl, ho.1, rfl, fun m hm hw => ?_⟩
    show ({ m with desk := m.at w }, some n) = ({ m with desk := ring (m.desk * 0 + m.at w * 1) }, some n)
    rw [Int.mul_zero, Int.zero_add, Int.mul_one, ring_id (at_in hm hw).2]
  | add w n =>
    refine ⟨w, n, rfl, ho.1, rfl, fun m hm hw => ?_⟩
    show ({ m with desk := ring (m.desk + m.at w) }, some n) = ({ m with desk := ring (m.desk * 1 + m.at w * 1) }, some n)
    rw [Int.mul_one, Int.mul_one]
  | take w n =>
    refine ⟨w, n, rfl, ho.1, rfl, fun m hm hw => ?_⟩
    show ({ m with desk := ring (m.desk - m.at w) }, some n) = ({ m with desk := ring (m.desk * 1 + m.at w * -1) }, some n)
    rw [Int.mul_one, Int.mul_neg_one]
    rfl
  | store w n => cases h
  | say n => cases h
  | test a b => cases h
  | stop => cases h
theorem Row.fb (r : Row) : (0 ≤ r.fac.1 ∧ r.fac.1 ≤ 1) ∧ (-1 ≤ r.fac.2 ∧ r.fac.2 ≤ 1) := by cases r <;> (dsimp only [Row.fac]; decide)
def spRing : Sp := fun vs H Q _ => ∃ n : Int, vs = [.int n] ∧ Q (.int (ring n)) H
def spStep : Sp := fun vs H Q _ => ∃ (ex : Key → Option V) (ad aw as_ ra : Addr) (m : Mach) (r : Row) (N : Nat), vs = [.ref ad, .ref ra] ∧ LawM ex H ad aw as_ m ∧ MOk m ∧ m.said.length ≤ 9000 ∧ H ra = some (.tup (rowVs r)) ∧ r.ok m.ws.length N ∧
  ∀ H', But3 ad aw as_ H H' → LawM ex H' ad aw as_ (stepM m r).1 → Q (oV (stepM m r).2) H'
section
variable {P : Program} {w : World} {K : PySem.W.Frag} {mg : Str → Option Value} {base : Heap}
abbrev nStep : List Str := ["_law_s", "_law_row", "_law_number"]
end
end DL
namespace DLR
open PySem PySem.Spec PyProof.Rows L2
/-! ### sorted(a dict whose keys are pairs of whole numbers), any number of them -/
def pairH (H : Hp) (a : Addr) : Int × Int := match H a with
  | some (.tup [.int i, .int j]) => (i, j)
  | _ => (0, 0)
theorem pairH_of {H : Hp} {a : Addr} {i j : Int} (h : H a = some (.tup [.int i, .int j])) : pairH H a = (i, j) := by
  unfold pairH
  rw [h]
def pairV (H : Hp) : Value → Int × Int
  | .ref a => pairH H a
  | _ => (0, 0)
def keyP (q : Int × Int) : List Key := [Sum.inl q.1, Sum.inl q.2]
def PairsAt (H : Hp) (bs : List Addr) (L : List (Int × Int)) : Prop := Paired (fun b q => H b = some (.tup [.int q.1, .int q.2])) bs L
theorem pairs_of_map {H : Hp} : ∀ {bs : List Addr}, (∀ b ∈ bs, H b = some (.tup [.int (pairH H b).1, .int (pairH H b).2])) → PairsAt H bs (bs.map (pairH H))
  | [], _ => .nil
  | b :: bs, h => .cons (h b List.mem_cons_self) (pairs_of_map fun c hc => h c (List.mem_cons_of_mem _ hc))
theorem keys_pairs {H : Hp} {kvs : List (List Key × V)} {ks : List (List Key × Addr × Value)} (r : KT H kvs ks) : ∀ {ps : List (Int × Int)}, kvs.map (·.1) = ps.map keyP → PairsAt H (ks.map fun x => x.2.1) ps := by
  induction r with
  | nil =>
    intro ps h
    cases ps with
    | nil => exact .nil
    | cons q ps => cases h
  | @cons p x pt xt h t ih =>
    intro ps hp
    cases ps with
    | nil => cases hp
    | cons q ps =>
      obtain ⟨e1, e2⟩ := List.cons.inj hp
      refine .cons ?_ (ih e2)
      have z := h.2.1
      have e1 : p.1 = keyP q := e1
      rw [e1] at z
      exact z
theorem pairs_map {H : Hp} : ∀ {bs : List Addr} {ps : List (Int × Int)}, PairsAt H bs ps → bs.map (pairH H) = ps
  | _, _, .nil => rfl
  | _, _, .cons h t => by
    rw [List.map_cons, pairs_map t, pairH_of h]
def rSortedDT : List V → Hp → VK → Prop := fun vs H Q => ∃ (d : Addr) (kvs : List (List Key × V)) (ps : List (Int × Int)), vs = [V.ref d] ∧ Rd H d (.dT kvs) ∧ kvs.map (·.1) = ps.map keyP ∧
  ∀ (p : Addr) (ys : List Addr) (L : List (Int × Int)), PairsAt H ys L → SrtO.Srtd SrtO.lexB L → SrtO.Stb SrtO.lexB L ps → H p = none → Q (.ref p) (upd H p (.lst (ys.map V.ref)))
theorem cr_sortedDT {X : Cx} (hc : X.calm = true) : CallR X (.builtin "sorted") rSortedDT := by
  intro pins s σ H vs us Q I r h
  obtain ⟨d, kvs, ps, rfl, hd, hps, q⟩ := h
  obtain ⟨u, rfl, rx⟩ := r.one
  cases rx
  obtain ⟨z, hs, ks, pr, o, es, ep, ho, hx, hdt, he, hn⟩ := (show ObjOk X.prog X.w H s.heap d (.dT kvs) from hd.ok I.hok)
  have l1 := size_of_entries he
  have l2 := Paired.length pr
  refine Calls.call_function_entry kind_sorted plain_sorted entry_sorted (args_sorted1 _) ?_
  unfold Builtin.«sorted»
  refine wpAny_bind (m := checkCount "sorted" 1 1 _) (wpAny_pure ?_)
  refine wpAny_bind (PySem.W.kdu_collect (A := X.A.in1) (kdl_raw hs hx hdt) (I.ok.hd hc) ho (by omega) fun h' tk acc kp it => ?_)
  have ea : acc.toList = (ks.map fun x => x.2.1).map Value.ref := by
    apply List.ext_getElem?
    intro j
    rw [List.map_map, List.getElem?_map]
    cases hj : acc.toList[j]? with
    | none =>
      have g := List.getElem?_eq_none_iff.mp hj
      rw [Array.length_toList, it.1, l1] at g
      rw [List.getElem?_eq_none g]
      rfl
    | some v =>
      obtain ⟨en, hen, hv⟩ := it.2 j v (by rw [← Array.getElem?_toList]; exact hj)
      have qe := entry_at he j
      rw [hen] at qe
      cases hb : ks[j]? with
      | none => rw [hb] at qe; cases qe
      | some b =>
        rw [hb] at qe
        have e2 := Option.some.inj qe
        rw [hv, e2]
        rfl
  have hal : acc.toList.length = ks.length := by rw [ea, List.length_map, List.length_map]
  have hz16 : acc.toList.length ≤ sizeLine := by omega
  have hP := keys_pairs pr hps
  have I1 : Inv X pins σ H { s with heap := h', toks := tk } := I.kept kp
  refine wpAny_bind (wpAny_newList ?_ hz16)
  have hoL : (h'.push (seqObj "list" acc.toList.toArray 0)).get? h'.objs.size = some (seqObj "list" acc.toList.toArray 0) := Heap.get?_push_size _ rfl
  have hpv : ∀ v ∈ acc.toList, Srt.IsPair (h'.push (seqObj "list" acc.toList.toArray 0)) v (pairV H v).1 (pairV H v).2 := by
    intro v hv
    rw [ea] at hv
    obtain ⟨b, hb, rfl⟩ := List.mem_map.mp hv
    obtain ⟨j, hj⟩ := List.getElem?_of_mem hb
    obtain ⟨y, hy, hy2⟩ := DL.Paired.get hP hj
    obtain ⟨_, its2, r2, o2, ho2, hc2, n2, hd2⟩ := I1.hok _ _ hy2
    obtain ⟨u1, u2, rfl, ri, rj⟩ := vals2 r2
    obtain ⟨t1, rfl⟩ := ri
    obtain ⟨t2, rfl⟩ := rj
    have e : pairV H (.ref b) = y := pairH_of hy2
    rw [e]
    exact ⟨b, o2, t1, t2, n2, rfl, Heap.get?_push_of_some _ ho2, hc2, hd2⟩
  show wpAny _ _ _ _ _ { s with heap := h'.push (seqObj "list" acc.toList.toArray 0), toks := tk }
  refine wpAny_bind (wpAny_holding (wpAny_call_entry slot_list_sort ⟨_, hoL, rfl⟩ entry_list_sort
    (SrtO.list_sort_ord (s := { s with heap := h'.push (seqObj "list" acc.toList.toArray 0), toks := tk }) (SrtO.swo_lex (pairV H)) hoL hz16 (fun h2 => ?_) fun out hs2 hb => ⟨_, rfl, ?_⟩) (args_list_sort _)))
  · refine SrtO.pairs_sortableO (by omega) hpv fun o3 e3 => ?_
    rw [show (({ s with heap := h'.push (seqObj "list" acc.toList.toArray 0), toks := tk } : Shared).heap.get? h'.objs.size) = _ from hoL] at e3
    cases e3
    intro c
    exact absurd (Value.type.inj c) (by decide)
  · obtain ⟨e', he'⟩ := PyProof.Rows.sortedHeap_at (vs := acc.toList) (out := out.toArray) hoL
    have href : ∀ u ∈ out, ∃ a, u = Value.ref a := fun u hu => by
      have m := hb.perm.mem_iff.mp hu
      rw [ea] at m
      obtain ⟨b, _, e⟩ := List.mem_map.mp m
      exact ⟨b, e.symm⟩
    obtain ⟨ys, hys⟩ : ∃ ys : List Addr, out = ys.map Value.ref := by
      clear hs2 hb he'
      induction out with
      | nil => exact ⟨[], rfl⟩
      | cons u t ih =>
        obtain ⟨a, ha⟩ := href u List.mem_cons_self
        obtain ⟨ys, e⟩ := ih fun v hv => href v (List.mem_cons_of_mem _ hv)
        exact ⟨a :: ys, by rw [ha, e]; rfl⟩
    have hlo : out.length ≤ sizeLine := by rw [hb.len]; exact hz16
    refine wpAny_pure ⟨_, rfl, .ref h'.objs.size, upd H h'.objs.size (.lst (ys.map V.ref)), I1.laid (t' := tk) (fun b u e => ?_) (Nat.le_refl _) ?_, rfl,
      q _ ys (ys.map (pairH H)) ?_ ?_ ?_ (I1.hok.fresh (Nat.le_refl _))⟩
    · have hlt : b < h'.objs.size := Heap.lt_size e
      rw [PyProof.Rows.sortedHeap_old (Nat.ne_of_lt hlt) (by rw [size_push']; exact Nat.lt_succ_of_lt hlt)]
      exact Heap.get?_push_of_some _ e
    · refine ⟨by rw [List.length_map, ← List.length_map (f := Value.ref), ← hys]; exact hlo, out, e', ?_, he'⟩
      rw [hys]
      exact vals_refs ys
    · refine pairs_of_map fun b hb2 => ?_
      have m : Value.ref b ∈ acc.toList := hb.perm.mem_iff.mp (by rw [hys]; exact List.mem_map.mpr ⟨b, hb2, rfl⟩)
      rw [ea] at m
      obtain ⟨c, hc2, e⟩ := List.mem_map.mp m
      cases e
      obtain ⟨j, hj⟩ := List.getElem?_of_mem hc2
      obtain ⟨y, hy, hy2⟩ := DL.Paired.get hP hj
      rw [pairH_of hy2]
      exact hy2
    · have e : ys.map (pairH H) = out.map (pairV H) := by rw [hys, List.map_map]; rfl
      rw [e]
      exact SrtO.srtd_map hs2
    · have e : ys.map (pairH H) = out.map (pairV H) := by rw [hys, List.map_map]; rfl
      have e2 : ps = acc.toList.map (pairV H) := by rw [ea, List.map_map, ← pairs_map hP]; rfl
      rw [e, e2]
      refine SrtO.Stb.map ?_ (pairV H) hb
      refine ⟨fun x y h => ?_, fun x y z h1 h2 => ?_⟩
      · have a := SrtO.lexB_iff.mp h
        exact SrtO.lexB_no.mpr (by omega)
      · have a := SrtO.lexB_no.mp h1
        have b := SrtO.lexB_no.mp h2
        exact SrtO.lexB_no.mpr (by omega)
end DLR
namespace DL
open PySem L2 DLR
/-! ### the mirror of a run -/
abbrev GL := List ((Int × Int) × V)
def gcount : Option V → Int
  | some (.int c) => c
  | _ => 0
def bump (g : GL) (q : Int × Int) : GL := putK g q (.int (gcount (valV g q) + 1))
structure RS where
  m : Mach
  cnt : List Int
  goes : GL
  here : Option Nat
def goesOf (g : GL) (r : Nat) : Option Nat → GL
  | none => g
  | some n => bump g ((r : Int), (n : Int))
def turnS (rows : List Row) (s : RS) : RS := match s.here with
  | none => s
  | some r => ⟨(stepM s.m (rows.getD r .stop)).1, s.cnt.set r (s.cnt.getD r 0 + 1),
      goesOf s.goes r (stepM s.m (rows.getD r .stop)).2,
      (stepM s.m (rows.getD r .stop)).2⟩
def startS (p : Prog) : RS := ⟨⟨0, p.ws, []⟩, List.replicate p.rows.length 0, [], some 0⟩
def runS (p : Prog) : Nat → RS
  | 0 => startS p
  | k + 1 => turnS p.rows (runS p k)
theorem runS_none {p : Prog} {j : Nat} (h : (runS p j).here = none) : ∀ k, runS p (j + k) = runS p j
  | 0 => rfl
  | k + 1 => by
    show turnS p.rows (runS p (j + k)) = _
    rw [runS_none h k]
    unfold turnS
    rw [h]
structure ROk (p : Prog) (k : Nat) (s : RS) : Prop where
  m : MOk s.m
  w : s.m.ws.length = p.ws.length
  said : s.m.said.length ≤ k
  dl : s.cnt.length = p.rows.length
  sum : s.here ≠ none → s.cnt.sum = (k : Int)
  le : s.cnt.sum ≤ (k : Int) ∧ 0 ≤ s.cnt.sum
  gok : ∀ e ∈ s.goes, ∃ c, e.2 = .int c
  gl : s.goes.length ≤ k
  here : ∀ r, s.here = some r → r < p.rows.length
theorem getD_set_sum {l : List Int} {r : Nat} (h : r < l.length) : (l.set r (l.getD r 0 + 1)).sum = l.sum + 1 := by
  have e : l[r]? = some (l.getD r 0) := by
    rw [List.getD_eq_getElem?_getD, List.getElem?_eq_getElem h]
    rfl
  rw [L2.sum_set e]
  omega
theorem sum_rep : ∀ n : Nat, (List.replicate n (0 : Int)).sum = 0
  | 0 => rfl
  | n + 1 => by
    rw [List.replicate_succ, List.sum_cons, sum_rep n]
    rfl
theorem putK_len {κ : Type} [DecidableEq κ] {kvs : List (κ × V)} {k : κ} {v : V} : (putK kvs k v).length ≤ kvs.length + 1 := by
  unfold putK
  split
  · rw [List.length_map]; omega
  · rw [List.length_append]; exact Nat.le_refl _
theorem putK_all {κ : Type} [DecidableEq κ] {kvs : List (κ × V)} {k : κ} {c : Int} (h : ∀ e ∈ kvs, ∃ c, e.2 = V.int c) : ∀ e ∈ putK kvs k (.int c), ∃ c, e.2 = V.int c := by
  intro e he
  unfold putK at he
  split at he
  · obtain ⟨x, hx, rfl⟩ := List.mem_map.mp he
    by_cases q : x.1 = k
    · rw [if_pos q]; exact ⟨c, rfl⟩
    · rw [if_neg q]; exact h x hx
  · rcases List.mem_append.mp he with q | q
    · exact h e q
    · rw [List.mem_singleton.mp q]; exact ⟨c, rfl⟩
theorem runS_ok {p : Prog} (g : Good p) : ∀ k, ROk p k (runS p k)
  | 0 => by
    refine ⟨⟨(by show -1000000000 ≤ (0 : Int) ∧ (0 : Int) < 1000000000; decide), fun x hx => ?_⟩, rfl, Nat.le_refl _, List.length_replicate, fun _ => ?_, ?_, fun _ h => absurd h (by simp [runS, startS]), Nat.le_refl _, fun r h => ?_⟩
    · have := g.num x hx
      unfold InR
      omega
    · show (List.replicate p.rows.length (0 : Int)).sum = 0
      exact sum_rep _
    · show (List.replicate p.rows.length (0 : Int)).sum ≤ 0 ∧ 0 ≤ (List.replicate p.rows.length (0 : Int)).sum
      rw [sum_rep]
      decide
    · have e : (0 : Nat) = r := Option.some.inj h
      rw [← e]
      exact g.r1
  | k + 1 => by
    have ih := runS_ok g k
    show ROk p (k + 1) (turnS p.rows (runS p k))
    generalize runS p k = s at ih ⊢
    unfold turnS
    cases hh : s.here with
    | none =>
      exact ⟨ih.m, ih.w, Nat.le_succ_of_le ih.said, ih.dl, fun q => absurd hh q, ⟨by show s.cnt.sum ≤ ((k + 1 : Nat) : Int); have := ih.le.1; omega, ih.le.2⟩, ih.gok, Nat.le_succ_of_le ih.gl, fun r h => by rw [hh] at h; cases h⟩
    | some r =>
      have hr := ih.here r hh
      have er : p.rows.getD r .stop = p.rows[r] := by rw [List.getD_eq_getElem?_getD, List.getElem?_eq_getElem hr]; rfl
      have ho : (p.rows.getD r .stop).ok s.m.ws.length p.rows.length := by
        rw [er, ih.w]
        exact g.ok _ (List.getElem_mem hr)
      obtain ⟨s1, s2, s3, s4⟩ := stepM_ok ih.m ho
      have hs := getD_set_sum (l := s.cnt) (r := r) (by rw [ih.dl]; exact hr)
      have hsum := ih.sum (by rw [hh]; simp)
      refine ⟨s1, s2.trans ih.w, ?_, by rw [List.length_set]; exact ih.dl, fun _ => by rw [hs, hsum]; rfl, ?_, ?_, ?_, fun n h => s4 n h⟩
      · show (stepM s.m (p.rows.getD r .stop)).1.said.length ≤ k + 1
        have := ih.said
        omega
      · show (s.cnt.set r (s.cnt.getD r 0 + 1)).sum ≤ _ ∧ 0 ≤ (s.cnt.set r (s.cnt.getD r 0 + 1)).sum
        rw [hs, hsum]
        omega
      · show ∀ e ∈ goesOf s.goes r (stepM s.m (p.rows.getD r .stop)).2, _
        cases (stepM s.m (p.rows.getD r .stop)).2 with
        | none => exact ih.gok
        | some n => exact putK_all ih.gok
      · show (goesOf s.goes r (stepM s.m (p.rows.getD r .stop)).2).length ≤ _
        cases (stepM s.m (p.rows.getD r .stop)).2 with
        | none => exact Nat.le_succ_of_le ih.gl
        | some n => exact Nat.le_trans putK_len (Nat.succ_le_succ ih.gl)
/-! ### the goes as they stand in a dict -/
def kmap (g : GL) : List (List Key × V) := g.map fun e => (keyP e.1, e.2)
theorem keyP_inj {a b : Int × Int} (h : keyP a = keyP b) : a = b := by
  obtain ⟨h1, h2⟩ := List.cons.inj h
  obtain ⟨h3, _⟩ := List.cons.inj h2
  exact Prod.ext (Sum.inl.inj h1) (Sum.inl.inj h3)
theorem kmap_val (g : GL) (q : Int × Int) : valV (kmap g) (keyP q) = valV g q := by
  induction g with
  | nil => rfl
  | cons e g ih =>
    by_cases h : e.1 = q
    · rw [valV_pos h]
      exact valV_pos (p := (keyP e.1, e.2)) (by rw [h])
    · rw [valV_neg h, ← ih]
      exact valV_neg (p := (keyP e.1, e.2)) (fun z => h (keyP_inj z))
theorem kmap_put (g : GL) (q : Int × Int) (v : V) : putK (kmap g) (keyP q) v = kmap (putK g q v) := by
  unfold putK
  have e : ((kmap g).any fun kv => decide (kv.1 = keyP q)) = (g.any fun kv => decide (kv.1 = q)) := by
    rw [valV_any, valV_any, kmap_val]
  rw [e]
  split
  · unfold kmap
    rw [List.map_map, List.map_map]
    refine List.map_congr_left fun x _ => ?_
    show (if keyP x.1 = keyP q then (keyP x.1, v) else (keyP x.1, x.2)) = (keyP (if x.1 = q then (x.1, v) else x).1, (if x.1 = q then (x.1, v) else x).2)
    by_cases h : x.1 = q
    · rw [if_pos h, if_pos (by rw [h])]
    · rw [if_neg h, if_neg (fun z => h (keyP_inj z))]
  · unfold kmap
    rw [List.map_append]
    rfl
theorem kmap_keys (g : GL) : (kmap g).map (·.1) = (g.map (·.1)).map keyP := by
  unfold kmap
  rw [List.map_map, List.map_map]
  rfl
theorem kmap_len (g : GL) : (kmap g).length = g.length := List.length_map _
theorem valV_mem {κ : Type} [DecidableEq κ] {g : List (κ × V)} {q : κ} {v : V} (h : valV g q = some v) : ∃ e ∈ g, e.2 = v := by
  induction g with
  | nil => cases h
  | cons e g ih =>
    by_cases z : e.1 = q
    · rw [valV_pos z] at h
      exact ⟨e, List.mem_cons_self, Option.some.inj h⟩
    · rw [valV_neg z] at h
      obtain ⟨x, hx, hy⟩ := ih h
      exact ⟨x, List.mem_cons_of_mem _ hx, hy⟩
theorem gget {g : GL} (h : ∀ e ∈ g, ∃ c, e.2 = V.int c) (q : Int × Int) : (valV g q).getD (.int 0) = .int (gcount (valV g q)) := by
  cases e : valV g q with
  | none => rfl
  | some v =>
    obtain ⟨x, hx, hy⟩ := valV_mem e
    obtain ⟨c, hc⟩ := h x hx
    rw [← hy, hc]
    rfl
theorem ggot {g : GL} (h : ∀ e ∈ g, ∃ c, e.2 = V.int c) {q : Int × Int} (m : q ∈ g.map (·.1)) : valV g q = some (.int (gcount (valV g q))) := by
  have e := gget h q
  cases z : valV g q with
  | none => exact absurd m (L2.valV_not z)
  | some v =>
    rw [z] at e
    exact congrArg some e
/-! ### what a run tells -/
structure Res (p : Prog) (fuel : Nat) (H0 H : Hp) (a ls le ld lg : Addr) (ys : List Addr) (L : List (Int × Int)) : Prop where
  same : Same1 H0 H
  top : H a = some (.tup [.ref ls, .ref le, .ref ld, .ref lg])
  fs : H0 ls = none
  fd : H0 ld = none
  fg : H0 lg = none
  said : H ls = some (.lst ((runS p fuel).m.said.map V.int))
  fin : H le = some (.tup [.str (if (runS p fuel).here = none then "stop" else "long")])
  cnt : H ld = some (.lst ((runS p fuel).cnt.map V.int))
  goes : H lg = some (.lst (ys.map V.ref))
  each : Paired (fun b q => H b = some (.tup [.int q.1, .int q.2, .int (gcount (valV (runS p fuel).goes q))])) ys L
  srt : SrtO.Srtd SrtO.lexB L
  stb : SrtO.Stb SrtO.lexB L ((runS p fuel).goes.map (·.1))
  n1 : ls ≠ ld
  n2 : ls ≠ lg
  n3 : ld ≠ lg
def spRun : Sp := fun vs H Q _ => ∃ (pa : Addr) (p : Prog) (fuel : Nat), vs = [.ref pa, .int (fuel : Int)] ∧ ProgAt H pa p ∧ Good p ∧ fuel ≤ 5000 ∧
  ∀ a ls le ld lg ys L H', Res p fuel H H' a ls le ld lg ys L → Q (.ref a) H'
end DL
namespace DL
open PySem L2 DLR
theorem relI {i : Int} {t : Tok} : RelV (.int i) (.int i t) := ⟨t, rfl⟩
structure Cn (mg : Str → Option Value) where
  tW : Tok
  tR : Tok
  tN : Tok
  mW : mg "MOST_WORTHS" = some (.int 8 tW)
  mR : mg "MOST_ROWS" = some (.int 40 tR)
  mN : mg "MOST_NUMBER" = some (.int 1000000 tN)
structure Cf (mg : Str → Option Value) where
  tF : Tok
  mF : mg "MOST_FUEL" = some (.int 5000 tF)
structure Cd (mg : Str → Option Value) where
  tL : Tok
  tC : Tok
  mL : mg "DESK_LOW" = some (.int (-1000000000) tL)
  mC : mg "DESK_COUNT" = some (.int 2000000000 tC)
abbrev sIsNumber : Stmt := top 15
abbrev sIsBetween : Stmt := top 16
abbrev sPart : Stmt := top 17
abbrev sCheckWorths : Stmt := top 19
abbrev FIsNumber (K : Frg) (mg : Str → Option Value) := Fd K mg "is_number" sIsNumber ["thing"]
abbrev FIsBetween (K : Frg) (mg : Str → Option Value) := Fd K mg "is_between" sIsBetween ["thing", "low", "high"]
abbrev FPart (K : Frg) (mg : Str → Option Value) := Fd K mg "part" sPart ["whole", "at"]
abbrev FCheckWorths (K : Frg) (mg : Str → Option Value) := Fd K mg "check_worths" sCheckWorths ["worths"]
def spNum : Sp := fun vs H Q _ => ∃ i : Int, vs = [.int i] ∧ Q (.bl true) H
def spBetween : Sp := fun vs H Q _ => ∃ i lo hi : Int, vs = [.int i, .int lo, .int hi] ∧ lo ≤ i ∧ i ≤ hi ∧ Q (.bl true) H
def spPart : Sp := fun vs H Q _ => ∃ (a : Addr) (xs : List V) (j : Nat) (v : V), vs = [.ref a, .int (j : Int)] ∧ H a = some (.tup xs) ∧ xs[j]? = some v ∧ Q v H
def spCheckWorths : Sp := fun vs H Q _ => ∃ (a : Addr) (ws : List Int), vs = [.ref a] ∧ H a = some (.tup (ws.map V.int)) ∧ ws.length ≤ 8 ∧ (∀ x ∈ ws, -1000000 ≤ x ∧ x ≤ 1000000) ∧ Q .non H
def spCheckFuel : Sp := fun vs H Q _ => ∃ n : Int, vs = [.int n] ∧ 0 ≤ n ∧ n ≤ 5000 ∧ Q .non H
section
variable {P : Program} {w : World} {K : PySem.W.Frag} {mg : Str → Option Value} {base : Heap}
theorem scIsNumber : FnScope ["thing"] ["thing"] (defScope sIsNumber) := ⟨rfl, rfl, rfl, by decide +kernel, rfl, by decide +kernel, by decide +kernel⟩
theorem ok_isNumber (c : FIsNumber K mg) (T : Bt mg) : FnOk P w K mg base CX0 1 c.f c.fd ["thing"] spNum := by
  refine c.F.ok scIsNumber (fun vs H Q E h => ?_) (fun cdv A outer s H vs Q E hr h => ?_)
  · obtain ⟨n, rfl, _⟩ := h
    rfl
  · obtain ⟨n, rfl, k⟩ := h
    refine ⟨_, (pss_one (ps_ret (pe_and (pe_callB call_isi (by rfl) T.isinstance (by decide +kernel) (pa_cons (pv 0) (pa_cons (pe_bltn (v := .ty "int") (by rfl) T.int (by decide +kernel) rfl) pa_nil))) (pe_one (pe_not (pe_callB call_isi (by rfl) T.isinstance (by decide +kernel) (pa_cons (pv 0) (pa_cons (pe_bltn (v := .ty "bool") (by rfl) T.bool (by decide +kernel) rfl) pa_nil)))))))), ?_⟩
    refine ⟨_, rfl, _, _, _, _, true, rfl, .ty _, .base (.int _), kit_ty (by decide +kernel), _, rfl, ?_⟩
    exact ⟨_, rfl, _, _, _, _, false, rfl, .ty _, .base (.int _), kit_ty (by decide +kernel), _, rfl, k⟩
theorem scIsBetween : FnScope ["thing", "low", "high"] ["thing", "low", "high"] (defScope sIsBetween) := ⟨rfl, rfl, rfl, by decide +kernel, rfl, by decide +kernel, by decide +kernel⟩
theorem ok_isBetween (c : FIsBetween K mg) (cIsNumber : FIsNumber K mg) (T : Bt mg) : FnOk P w K mg base CX0 2 c.f c.fd ["thing", "low", "high"] spBetween := by
  have GIsNumber : FnOk P w K mg base CX0 1 cIsNumber.f cIsNumber.fd ["thing"] spNum := ok_isNumber cIsNumber T
  refine c.F.ok scIsBetween (fun vs H Q E h => ?_) (fun cdv A outer s H vs Q E hr h => ?_)
  · obtain ⟨i, lo, hi, rfl, _⟩ := h
    rfl
  · obtain ⟨i, lo, hi, rfl, h1, h2, k⟩ := h
    refine ⟨_, (pss_one (ps_ret (pe_and (pe_call GIsNumber (hr.mono (by first | omega | decide)) (by rfl) cIsNumber.m cIsNumber.F.kp cIsNumber.b .nil pass0 (pa_cons (pv 0) pa_nil)) (pe_one (pe_chain op_le op_le (pv 1) (pv 0) (pv 2)))))), ?_⟩
    refine ⟨_, rfl, _, rfl, _, rfl, ?_⟩
    refine ⟨_, rfl, _, rfl, _, _, rfl, rfl, _, rfl, ?_⟩
    rw [decide_eq_true h1]
    refine iteT ⟨_, rfl, _, _, rfl, rfl, ?_⟩
    show Q (.bl (decide (i ≤ hi))) H
    rw [decide_eq_true h2]
    exact k
theorem scPart : FnScope ["whole", "at"] ["whole", "at"] (defScope sPart) := ⟨rfl, rfl, rfl, by decide +kernel, rfl, by decide +kernel, by decide +kernel⟩
theorem ok_part (c : FPart K mg) (T : Bt mg) : FnOk P w K mg base CX0 1 c.f c.fd ["whole", "at"] spPart := by
  refine c.F.ok scPart (fun vs H Q E h => ?_) (fun cdv A outer s H vs Q E hr h => ?_)
  · obtain ⟨a, xs, j, v, rfl, _⟩ := h
    rfl
  · obtain ⟨a, xs, j, v, rfl, h1, h2, k⟩ := h
    have hj := (List.getElem?_eq_some_iff.mp h2).1
    refine ⟨_, (pss_cons (ps_if (PW.pt (pw_and (pt_val (pe_callB call_isi (by rfl) T.isinstance (by decide +kernel) (pa_cons (pv 0) (pa_cons (pe_bltn (v := .ty "tuple") (by rfl) T.tuple (by decide +kernel) rfl) pa_nil)))) (pw_and1 (pt_cmpR op_lt (pv 1) (pe_callB call_len_seq (by rfl) T.len PySem.boot_len (pa_cons (pv 0) pa_nil)) (nomark _)))))
          (pss_one (ps_ret (pe_ix ix_tup (pv 0) (pv 1) (fun _ _ => rfl))))
          pss_nil)
      (pss_one (ps_ret pe_non))), ?_⟩
    refine ⟨_, rfl, _, _, _, _, true, rfl, .ty _, .base (.tup h1), kit_ty (by decide +kernel), _, rfl, ?_⟩
    refine ⟨_, rfl, _, rfl, a, _, rfl, .inr (SqT.of h1), _, _, rfl, rfl, _, rfl, ?_⟩
    rw [decide_eq_true (show (j : Int) < (xs.length : Int) by omega)]
    exact iteT ⟨_, rfl, _, rfl, a, _, _, _, rfl, rfl, SqT.of h1, atI_nat h2, k⟩
theorem scCheckWorths : FnScope ["worths", "worth"] ["worths"] (defScope sCheckWorths) := ⟨rfl, rfl, rfl, by decide +kernel, rfl, by decide +kernel, by decide +kernel⟩
theorem ok_checkWorths (c : FCheckWorths K mg) (cIsBetween : FIsBetween K mg) (cIsNumber : FIsNumber K mg) (T : Bt mg) (C : Cn mg) : FnOk P w K mg base CX0 3 c.f c.fd ["worths"] spCheckWorths := by
  have GIsBetween : FnOk P w K mg base CX0 2 cIsBetween.f cIsBetween.fd ["thing", "low", "high"] spBetween := ok_isBetween cIsBetween cIsNumber T
  refine c.F.ok scCheckWorths (fun vs H Q E h => ?_) (fun cdv A outer s H vs Q E hr h => ?_)
  · obtain ⟨a, ws, rfl, _⟩ := h
    rfl
  · obtain ⟨a, ws, rfl, h1, h8, hb, k⟩ := h
    refine ⟨_, (pss_cons (ps_if (PW.pt (pw_or (pt_not (pt_val (pe_callB call_isi (by rfl) T.isinstance (by decide +kernel) (pa_cons (pv 0) (pa_cons (pe_bltn (v := .ty "tuple") (by rfl) T.tuple (by decide +kernel) rfl) pa_nil))))) (pw_or1 (pt_cmpR op_gt (pe_callB call_len_seq (by rfl) T.len PySem.boot_len (pa_cons (pv 0) pa_nil)) (pe_glob rfl C.mW relI) (nomark _)))))
          (pss_one ps_never)
          pss_nil)
      (pss_one (ps_for PassesOwn.never rfl (pi_tup (pv 0)) (pg_name (i := 1) scCheckWorths.nd rfl (Or.inl rfl))
          (pss_one (ps_if (pt_not (pt_val (pe_call GIsBetween (hr.mono (by first | omega | decide)) (by rfl) cIsBetween.m cIsBetween.F.kp cIsBetween.b .nil pass0 (pa_cons (pv 1) (pa_cons (pe_un un_neg (pe_glob rfl C.mN relI)) (pa_cons (pe_glob rfl C.mN relI) pa_nil))))))
              (pss_one ps_never)
              pss_nil))))), ?_⟩
    refine ⟨_, rfl, _, _, _, _, true, rfl, .ty _, .base (.tup h1), kit_ty (by decide +kernel), _, rfl, ?_⟩
    refine ⟨_, rfl, a, _, rfl, .inr (SqT.of h1), _, _, rfl, rfl, _, rfl, ?_⟩
    rw [decide_eq_false (show ¬ (8 : Int) < ((ws.map V.int).length : Int) by rw [List.length_map]; omega)]
    refine iteF ⟨_, rfl, a, rfl, ⟨_, SqT.of h1⟩, for_tup (K := K) (a := a) (xs := ws.map V.int) (fun i σ H' => ∃ x : Option V, σ = [some (.ref a), x] ∧ H' = H) ⟨_, rfl, rfl⟩ (fun i σ H' _ ⟨_, _, e⟩ => by rw [e]; exact SqT.of h1) ?_ ?_⟩
    · rintro i x σ H' hi ⟨y, rfl, rfl⟩
      rw [List.getElem?_map] at hi
      cases hz : ws[i]? with
      | none => rw [hz] at hi; cases hi
      | some z =>
        rw [hz] at hi
        have e : V.int z = x := Option.some.inj hi
        subst e
        obtain ⟨b1, b2⟩ := hb z (List.mem_of_getElem? hz)
        refine ⟨_, rfl, _, rfl, z, _, _, rfl, by omega, by omega, _, rfl, ?_⟩
        exact ⟨_, rfl, rfl⟩
    · rintro σ H' ⟨y, rfl, rfl⟩
      exact k
end
end DL
namespace DL
open PySem L2 DLR
def Row.parts : Row → List Str
  | .say _ => ["next"]
  | .test _ _ => ["next", "next"]
  | .stop => []
  | _ => ["worth", "next"]
theorem Row.parts_len (r : Row) : (rowVs r).length = r.parts.length + 1 := by cases r <;> rfl
structure Pt (K : Frg) (w : World) (mg : Str → Option Value) where
  d : Addr
  es : Array DictEntry
  n : Nat
  m : mg "PARTS" = some (.ref d)
  kd : KDict K w d es n
  at_ : ∀ r : Row, ∃ t, PySem.W.nsIn K d r.word = some (some (.ref t)) ∧ ∀ H, SqT K H t (r.parts.map V.str)
theorem Pt.get {K : Frg} {w : World} {mg : Str → Option Value} (Z : Pt K w mg) (r : Row) : ∃ t, PySem.W.nsIn K Z.d r.word = some (some (.ref t)) ∧ KDct K w Z.d r.word (.ref t) ∧ ∀ H, SqT K H t (r.parts.map V.str) := by
  obtain ⟨t, h1, h2⟩ := Z.at_ r
  exact ⟨t, h1, ⟨_, _, _, Z.kd.at_, Z.kd.lit, h1, rfl⟩, h2⟩
theorem Row.args (r : Row) {i : Nat} (h : i < r.parts.length) : ∃ x : Nat, ((rowVs r).drop 1)[i]? = some (.int (x : Int)) ∧ ∀ {W N : Nat}, r.ok W N →
    (r.parts[i]? = some "worth" ∧ x < W) ∨ (r.parts[i]? = some "next" ∧ x < N) := by
  have hi : i < 2 := by cases r <;> simp [Row.parts] at h <;> omega
  match i, hi with
  | 0, _ =>
    cases r <;> first
      | exact ⟨_, rfl, fun o => .inl ⟨rfl, o.1⟩⟩
      | exact ⟨_, rfl, fun o => .inr ⟨rfl, o⟩⟩
      | exact ⟨_, rfl, fun o => .inr ⟨rfl, o.1⟩⟩
      | (exfalso; simp [Row.parts] at h)
  | 1, _ =>
    cases r <;> first
      | exact ⟨_, rfl, fun o => .inr ⟨rfl, o.2⟩⟩
      | (exfalso; simp [Row.parts] at h)
theorem Row.ints (r : Row) : ∃ ns : List Int, (rowVs r).drop 1 = ns.map V.int ∧ ns.length = r.parts.length := by
  cases r with
  | load a b => exact ⟨[(a : Int), (b : Int)], rfl, rfl⟩
  | add a b => exact ⟨[(a : Int), (b : Int)], rfl, rfl⟩
  | take a b => exact ⟨[(a : Int), (b : Int)], rfl, rfl⟩
  | store a b => exact ⟨[(a : Int), (b : Int)], rfl, rfl⟩
  | say b => exact ⟨[(b : Int)], rfl, rfl⟩
  | test a b => exact ⟨[(a : Int), (b : Int)], rfl, rfl⟩
  | stop => exact ⟨[], rfl, rfl⟩
abbrev sHasShape : Stmt := top 21
abbrev sCheckRow : Stmt := top 20
abbrev sCheckProgram : Stmt := top 18
abbrev FHasShape (K : Frg) (mg : Str → Option Value) := Fd K mg "has_shape" sHasShape ["row"]
abbrev FCheckRow (K : Frg) (mg : Str → Option Value) := Fd K mg "check_row" sCheckRow ["row", "number", "counts"]
abbrev FCheckProgram (K : Frg) (mg : Str → Option Value) := Fd K mg "check_program" sCheckProgram ["program"]
def spHasShape : Sp := fun vs H Q _ => ∃ (a : Addr) (r : Row), vs = [.ref a] ∧ H a = some (.tup (rowVs r)) ∧ ∀ H', Same1 H H' → Q (.bl true) H'
def kWo : Key := .inr "worth"
def kNx : Key := .inr "next"
def spCheckRow : Sp := fun vs H Q _ => ∃ (a c : Addr) (n : Int) (r : Row) (W N : Nat) (kvs : List (Key × V)), vs = [.ref a, .int n, .ref c] ∧ H a = some (.tup (rowVs r)) ∧ r.ok W N ∧
  H c = some (.dK kvs) ∧ valV kvs kWo = some (.int (W : Int)) ∧ valV kvs kNx = some (.int (N : Int)) ∧ ∀ H', Same1 H H' → Q .non H'
def spCheckProgram : Sp := fun vs H Q _ => ∃ (a : Addr) (p : Prog), vs = [.ref a] ∧ ProgAt H a p ∧ Good p ∧ ∀ H', Same1 H H' → Q .non H'
def spUses : Sp := fun vs H Q _ => ∃ (a : Addr) (r : Row), vs = [.ref a] ∧ H a = some (.tup (rowVs r)) ∧ Q (.bl r.uses) H
theorem uses_in (r : Row) : inV (.str "worth") (r.parts.map V.str) = r.uses := by
  cases r <;> (dsimp only [Row.parts, Row.uses, List.map]; decide +kernel)
section
variable {P : Program} {w : World} {K : PySem.W.Frag} {mg : Str → Option Value} {base : Heap}
abbrev nHasShape : List Str := ["row", "word", "thing"]
theorem scHasShape : FnScope nHasShape ["row"] (defScope sHasShape) := ⟨rfl, rfl, rfl, by decide +kernel, rfl, by decide +kernel, by decide +kernel⟩
theorem ok_hasShape (c : FHasShape K mg) (cPart : FPart K mg) (cIsNumber : FIsNumber K mg) (T : Bt mg) (Z : Pt K w mg) : FnOk P w K mg base CX0 2 c.f c.fd ["row"] spHasShape := by
  have GPart : FnOk P w K mg base CX0 1 cPart.f cPart.fd ["whole", "at"] spPart := ok_part cPart T
  have GIsNumber : FnOk P w K mg base CX0 1 cIsNumber.f cIsNumber.fd ["thing"] spNum := ok_isNumber cIsNumber T
  refine c.F.ok scHasShape (fun vs H Q E h => ?_) (fun cdv A outer s H vs Q E hr h => ?_)
  · obtain ⟨a, r, rfl, _⟩ := h
    rfl
  · obtain ⟨a, r, rfl, ha, k⟩ := h
    obtain ⟨t, z1, z2, z3⟩ := Z.get r
    obtain ⟨ns, n1, n2⟩ := Row.ints r
    have rl := Row.vs_len r
    refine ⟨_, (pss_cons (ps_set (i := 1) scHasShape.nd rfl (Or.inl rfl) (pe_call GPart (hr.mono (by first | omega | decide)) (by rfl) cPart.m cPart.F.kp cPart.b .nil pass0 (pa_cons (pv 0) (pa_cons pe_int pa_nil))))
      (pss_cons (ps_if (PW.pt (pw_or (pt_not (pt_val (pe_callB call_isi (by rfl) T.isinstance (by decide +kernel) (pa_cons (pv 1) (pa_cons (pe_bltn (v := .ty "str") (by rfl) T.str (by decide +kernel) rfl) pa_nil))))) (pw_or1 (pt_cmpR (op_notIn_kd Z.kd) (pv 1) (pe_glob (v := .ref Z.d) rfl Z.m rfl) rfl))))
          (pss_one (ps_ret pe_bl))
          pss_nil)
      (pss_one (ps_ret (pe_and (pe_cmpR op_eq (pe_callB call_len_seq (by rfl) T.len PySem.boot_len (pa_cons (pv 0) pa_nil)) (pe_op op_add (pe_callB call_len_seq (by rfl) T.len PySem.boot_len (pa_cons (pe_ix ix_kdict (pe_glob (v := .ref Z.d) rfl Z.m rfl) (pv 1) (fun _ _ => rfl)) pa_nil)) pe_int) (nomark _)) (pe_one (pe_callB (cr_all rfl) (by rfl) T.all (by decide +kernel) (pa_cons (pe_lc (own := [("thing", 2)]) (g := gName 2) (tt := tYes) rfl scHasShape.nd (pi_tup (pe_slice sl_tupS (pv 0) (po_some pe_int) po_none)) (blkOk_by (N := nHasShape) (sc := defScope sHasShape) (by decide +kernel)) (fun _ _ _ _ _ => (pg_name (i := 2) scHasShape.nd rfl (Or.inl rfl))) (fun _ _ _ _ _ => pts_nil) (fun _ _ _ _ _ => (pe_call GIsNumber (hr.mono (by first | omega | decide)) (by rfl) cIsNumber.m cIsNumber.F.kp cIsNumber.b .nil pass0 (pa_cons (pv 2) pa_nil)))) pa_nil)))))))), ?_⟩
    refine ⟨_, rfl, a, _, 0, _, rfl, ha, Row.w0 r, ?_⟩
    refine ⟨_, rfl, _, _, _, _, true, rfl, .ty _, .base (.str _), kit_ty (by decide +kernel), _, rfl, ?_⟩
    refine ⟨_, rfl, _, _, rfl, rfl, z1, _, rfl, ?_⟩
    refine ⟨_, rfl, a, _, rfl, .inr (SqT.of ha), _, rfl, Z.d, _, _, rfl, rfl, z2, t, _, rfl, .inr (z3 H), _, _, rfl, rfl, rfl, _, rfl, ?_⟩
    rw [List.length_map, Row.parts_len, decide_eq_true (show V.int ((r.parts.length + 1 : Nat) : Int) = V.int ((r.parts.length : Int) + 1) from rfl)]
    refine iteT ⟨_, rfl, _, rfl, a, _, rfl, ha, fun t2 H2 s2 e2 => ?_⟩
    rw [drop1, n1] at e2
    refine ⟨t2, rfl, ⟨_, SqT.of e2⟩, fun D hD => ?_⟩
    refine lc_tup (K := K) (a := t2) (xs := ns.map V.int) (fun i H' => H' D = some (.lst ((List.replicate i true).map V.bl)) ∧ Same1 H2 H') ⟨upd_same, Same.new hD⟩ (fun i H' _ ⟨_, q⟩ => SqT.of (q _ _ e2)) ?_ ?_
    · rintro i x H3 hi ⟨hd, s3⟩
      have hin : i < ns.length := by
        have q := (List.getElem?_eq_some_iff.mp hi).1
        rwa [List.length_map] at q
      obtain ⟨z, rfl⟩ : ∃ z, x = V.int z := by
        rw [List.getElem?_map, List.getElem?_eq_getElem hin] at hi
        exact ⟨_, (Option.some.inj hi).symm⟩
      refine ⟨rfl, _, rfl, z, rfl, _, hd, szl (by rw [List.length_map, List.length_replicate]; rw [n2] at hin; have := Row.parts_len r; omega), ?_, Same.mut s3 hD⟩
      rw [upd_same, List.replicate_succ', List.map_append]
      rfl
    · rintro H3 ⟨hd, s3⟩
      refine ⟨D, _, rfl, SqL.of hd, ?_⟩
      rw [show (List.replicate (ns.map V.int).length true).all id = true by rw [List.all_eq_true]; intro x hx; rw [List.eq_of_mem_replicate hx]; rfl]
      exact k _ (s2.trans s3)
abbrev nCheckRow : List Str := ["row", "number", "counts", "name", "thing"]
theorem scCheckRow : FnScope nCheckRow ["row", "number", "counts"] (defScope sCheckRow) := ⟨rfl, rfl, rfl, by decide +kernel, rfl, by decide +kernel, by decide +kernel⟩
theorem ok_checkRow (c : FCheckRow K mg) (cHasShape : FHasShape K mg) (cPart : FPart K mg) (cIsNumber : FIsNumber K mg) (T : Bt mg) (Z : Pt K w mg) : FnOk P w K mg base CX0 3 c.f c.fd ["row", "number", "counts"] spCheckRow := by
  have GHasShape : FnOk P w K mg base CX0 2 cHasShape.f cHasShape.fd ["row"] spHasShape := ok_hasShape cHasShape cPart cIsNumber T Z
  refine c.F.ok scCheckRow (fun vs H Q E h => ?_) (fun cdv A outer s H vs Q E hr h => ?_)
  · obtain ⟨a, c, n, r, W, N, kvs, rfl, _⟩ := h
    rfl
  · obtain ⟨a, c, n, r, W, N, kvs, rfl, ha, ho, hc, hW, hN, k⟩ := h
    obtain ⟨t, z1, z2, z3⟩ := Z.get r
    refine ⟨_, (pss_cons (ps_if (pt_not (pt_val (pe_call GHasShape (hr.mono (by first | omega | decide)) (by rfl) cHasShape.m cHasShape.F.kp cHasShape.b .nil pass0 (pa_cons (pv 0) pa_nil))))
          (pss_one ps_never)
          pss_nil)
      (pss_one (ps_for PassesOwn.never rfl (RZ.pi_zipA (by rfl) T.zip (pa_cons (pe_ix ix_kdict (pe_glob (v := .ref Z.d) rfl Z.m rfl) (pe_ix ix_tup (pv 0) pe_int (fun _ _ => rfl)) (fun _ _ => rfl)) (pa_cons (pe_slice sl_tupS (pv 0) (po_some pe_int) po_none) pa_nil))) (pg_tup rfl (pgs_cons (pg_name (i := 3) scCheckRow.nd rfl (Or.inl rfl)) (pgs_cons (pg_name (i := 4) scCheckRow.nd rfl (Or.inl rfl)) pgs_nil)))
          (pss_one (ps_if (pt_not (pt_chain op_le op_lt pe_int (pv 4) (pe_dget (hu_of hr) (pv 2) (pv 3) (fun _ _ => rfl))))
              (pss_one ps_never)
              pss_nil))))), ?_⟩
    refine ⟨_, rfl, a, r, rfl, ha, fun H1 s1 => ⟨_, rfl, ?_⟩⟩
    have ha1 := s1 _ _ ha
    refine ⟨_, rfl, a, _, _, _, rfl, rfl, SqT.of ha1, atI_nat (j := 0) (Row.w0 r), Z.d, _, _, rfl, rfl, z2, _, rfl, _, rfl, a, _, rfl, ha1, fun t2 H2 s2 e2 => ?_⟩
    rw [drop1] at e2
    have hl : (r.parts.map V.str).length = ((rowVs r).drop 1).length := by
      rw [List.length_map, List.length_drop, Row.parts_len]
      omega
    have S2 := s1.trans s2
    refine ⟨t, t2, _, _, rfl, .inr ⟨z3 H2, SqT.of e2, RZ.for_zipT hl (fun i σ H' => ∃ x3 x4 : Option V, σ = [some (.ref a), some (.int n), some (.ref c), x3, x4] ∧ Same1 H2 H') ⟨none, none, rfl, Same.refl _⟩
      (fun i σ H' ⟨_, _, _, q⟩ => ⟨z3 H', SqT.of (q _ _ e2)⟩) ?_ ?_⟩⟩
    · rintro i x y T' σ H3 hx hy ⟨x3, x4, rfl, s3⟩ hT'
      have hi : i < r.parts.length := by
        have q := (List.getElem?_eq_some_iff.mp hx).1
        rwa [List.length_map] at q
      obtain ⟨z, g1, g2⟩ := Row.args r hi
      have ey : y = .int (z : Int) := by
        rw [hy] at g1
        exact Option.some.inj g1
      subst ey
      have hc3 := (S2.trans s3) _ _ hc
      refine alloc hT' fun H4 s4 e4 => ?_
      have hc4 := s4 _ _ hc3
      refine ⟨T', _, rfl, SqT.of e4, rfl, _, _, rfl, _, _, rfl, rfl, ?_⟩
      refine ⟨_, rfl, _, _, rfl, rfl, _, rfl, ?_⟩
      rw [decide_eq_true (show (0 : Int) ≤ (z : Int) by omega)]
      rw [List.getElem?_map] at hx
      rcases g2 ho with ⟨q1, q2⟩ | ⟨q1, q2⟩
      · rw [q1] at hx
        have ex : V.str "worth" = x := Option.some.inj hx
        subst ex
        refine iteT ⟨_, rfl, _, rfl, c, _, rfl, dget (k := kWo) hc4 hW, _, _, rfl, rfl, _, rfl, ?_⟩
        rw [decide_eq_true (show (z : Int) < (W : Int) by omega)]
        exact ⟨_, _, rfl, s3.trans s4⟩
      · rw [q1] at hx
        have ex : V.str "next" = x := Option.some.inj hx
        subst ex
        refine iteT ⟨_, rfl, _, rfl, c, _, rfl, dget (k := kNx) hc4 hN, _, _, rfl, rfl, _, rfl, ?_⟩
        rw [decide_eq_true (show (z : Int) < (N : Int) by omega)]
        exact ⟨_, _, rfl, s3.trans s4⟩
    · rintro σ H3 ⟨x3, x4, rfl, s3⟩
      exact k _ (S2.trans s3)
theorem k_WN : kWo ≠ kNx := by decide +kernel
abbrev nCheckProgram : List Str := ["program", "rows", "number", "row"]
theorem scCheckProgram : FnScope nCheckProgram ["program"] (defScope sCheckProgram) := ⟨rfl, rfl, rfl, by decide +kernel, rfl, by decide +kernel, by decide +kernel⟩
theorem ok_checkProgram (c : FCheckProgram K mg) (cCheckRow : FCheckRow K mg) (cCheckWorths : FCheckWorths K mg) (cHasShape : FHasShape K mg) (cPart : FPart K mg) (cIsBetween : FIsBetween K mg) (cIsNumber : FIsNumber K mg) (T : Bt mg) (C : Cn mg) (Z : Pt K w mg) : FnOk P w K mg base CX0 4 c.f c.fd ["program"] spCheckProgram := by
  have GCheckRow : FnOk P w K mg base CX0 3 cCheckRow.f cCheckRow.fd ["row", "number", "counts"] spCheckRow := ok_checkRow cCheckRow cHasShape cPart cIsNumber T Z
  have GCheckWorths : FnOk P w K mg base CX0 3 cCheckWorths.f cCheckWorths.fd ["worths"] spCheckWorths := ok_checkWorths cCheckWorths cIsBetween cIsNumber T C
  have GPart : FnOk P w K mg base CX0 1 cPart.f cPart.fd ["whole", "at"] spPart := ok_part cPart T
  refine c.F.ok scCheckProgram (fun vs H Q E h => ?_) (fun cdv A outer s H vs Q E hr h => ?_)
  · obtain ⟨a, p, rfl, _⟩ := h
    rfl
  · obtain ⟨a, p, rfl, ⟨wa, ra, bs, ha, hwa, hra, hR⟩, g, k⟩ := h
    have hbr := Paired.length hR
    have hR40 := g.r40
    have hR1 := g.r1
    refine ⟨_, (pss_cons (ps_expr (pe_call GCheckWorths (hr.mono (by first | omega | decide)) (by rfl) cCheckWorths.m cCheckWorths.F.kp cCheckWorths.b .nil pass0 (pa_cons (pe_call GPart (hr.mono (by first | omega | decide)) (by rfl) cPart.m cPart.F.kp cPart.b .nil pass0 (pa_cons (pv 0) (pa_cons pe_int pa_nil))) pa_nil)))
      (pss_cons (ps_set (i := 1) scCheckProgram.nd rfl (Or.inl rfl) (pe_call GPart (hr.mono (by first | omega | decide)) (by rfl) cPart.m cPart.F.kp cPart.b .nil pass0 (pa_cons (pv 0) (pa_cons pe_int pa_nil))))
      (pss_cons (ps_if (PW.pt (pw_or (pt_not (pt_val (pe_callB call_isi (by rfl) T.isinstance (by decide +kernel) (pa_cons (pv 1) (pa_cons (pe_bltn (v := .ty "tuple") (by rfl) T.tuple (by decide +kernel) rfl) pa_nil))))) (pw_or (pt_cmpR op_ne (pe_callB call_len_seq (by rfl) T.len PySem.boot_len (pa_cons (pv 0) pa_nil)) pe_int (nomark _)) (pw_or1 (pt_not (pt_chain op_le op_le pe_int (pe_callB call_len_seq (by rfl) T.len PySem.boot_len (pa_cons (pv 1) pa_nil)) (pe_glob rfl C.mR relI)))))))
          (pss_one ps_never)
          pss_nil)
      (pss_one (ps_for PassesOwn.never rfl (pi_enumT (by rfl) T.enumerate (pa_cons (pv 1) pa_nil)) (pg_tup rfl (pgs_cons (pg_name (i := 2) scCheckProgram.nd rfl (Or.inl rfl)) (pgs_cons (pg_name (i := 3) scCheckProgram.nd rfl (Or.inl rfl)) pgs_nil)))
          (pss_one (ps_expr (pe_call GCheckRow (hr.mono (by first | omega | decide)) (by rfl) cCheckRow.m cCheckRow.F.kp cCheckRow.b .nil pass0 (pa_cons (pv 3) (pa_cons (pv 2) (pa_cons (pe_disp (pps_cons pe_str (pe_callB call_len_seq (by rfl) T.len PySem.boot_len (pa_cons (pe_ix ix_tup (pv 0) pe_int (fun _ _ => rfl)) pa_nil)) (pps_cons pe_str (pe_callB call_len_seq (by rfl) T.len PySem.boot_len (pa_cons (pv 1) pa_nil)) pps_nil)) (by rfl) (by rfl) (fun z => by cases z) (by decide)) pa_nil))))))))))), ?_⟩
    refine ⟨_, rfl, a, _, 0, _, rfl, ha, rfl, wa, p.ws, rfl, hwa, g.w8, g.num, ?_⟩
    refine ⟨_, rfl, a, _, 1, _, rfl, ha, rfl, ?_⟩
    refine ⟨_, rfl, _, _, _, _, true, rfl, .ty _, .base (.tup hra), kit_ty (by decide +kernel), _, rfl, ?_⟩
    refine ⟨_, rfl, a, _, rfl, .inr (SqT.of ha), rfl, _, rfl, ?_⟩
    rw [decide_eq_true (show V.int ((([V.ref wa, V.ref ra] : List V).length : Nat) : Int) = V.int 2 from rfl)]
    refine iteF ⟨_, rfl, ra, _, rfl, .inr (SqT.of hra), _, _, rfl, rfl, _, rfl, ?_⟩
    rw [List.length_map, hbr, decide_eq_true (show (1 : Int) ≤ (p.rows.length : Int) by omega)]
    refine iteT ⟨_, _, rfl, rfl, _, rfl, ?_⟩
    rw [decide_eq_true (show (p.rows.length : Int) ≤ 40 by omega)]
    refine iteF ?_
    refine ⟨_, rfl, ra, _, rfl, SqT.of hra, for_enumT (K := K) (a := ra) (xs := bs.map V.ref) (fun i σ H' => ∃ x2 x3 : Option V, σ = [some (.ref a), some (.ref ra), x2, x3] ∧ Same1 H H') ⟨none, none, rfl, Same.refl _⟩
      (fun i σ H' ⟨_, _, _, q⟩ => SqT.of (q _ _ hra)) ?_ ?_⟩
    · rintro i x T' σ H1 hi ⟨x2, x3, rfl, s1⟩ hT'
      have hiR : i < p.rows.length := by
        have q := (List.getElem?_eq_some_iff.mp hi).1
        rwa [List.length_map, hbr] at q
      have hr1 : p.rows[i]? = some p.rows[i] := List.getElem?_eq_getElem hiR
      obtain ⟨b, hb1, hb2⟩ := Paired.getR hR hr1
      have ex : x = V.ref b := by
        rw [List.getElem?_map, hb1] at hi
        exact (Option.some.inj hi).symm
      subst ex
      refine alloc hT' fun H2 s2 e2 => ?_
      have S2 := s1.trans s2
      refine ⟨T', _, rfl, SqT.of e2, rfl, _, _, rfl, _, _, rfl, rfl, ?_⟩
      refine ⟨_, rfl, _, rfl, fun c1 hc1 => ?_⟩
      refine alloc hc1 fun H3 s3 e3 => ?_
      have S3 := S2.trans s3
      refine ⟨_, rfl, a, _, _, _, rfl, rfl, SqT.of (S3 _ _ ha), at0, wa, _, rfl, .inr (SqT.of (S3 _ _ hwa)), _, rfl, ra, _, rfl, .inr (SqT.of (S3 _ _ hra)), e3,
        [(kWo, .int (((p.ws.map V.int).length : Nat) : Int)), (kNx, .int (((bs.map V.ref).length : Nat) : Int))], rfl, (by show 2 ≤ 15; decide), ?_⟩
      have em : mergeK [] [(kWo, .int (((p.ws.map V.int).length : Nat) : Int)), (kNx, .int (((bs.map V.ref).length : Nat) : Int))] = putK (putK [] kWo (.int (p.ws.length : Int))) kNx (.int (p.rows.length : Int)) := by
        rw [List.length_map, List.length_map, hbr]
        rfl
      rw [em]
      have S4 : Same1 H (upd H3 c1 (.dK (putK (putK [] kWo (.int (p.ws.length : Int))) kNx (.int (p.rows.length : Int))))) := Same.mut S3 (S2.free hc1)
      refine ⟨b, c1, _, p.rows[i], p.ws.length, p.rows.length, putK (putK [] kWo (.int (p.ws.length : Int))) kNx (.int (p.rows.length : Int)), rfl, S4 _ _ hb2, g.ok _ (List.getElem_mem hiR), upd_same, ?_, ?_, fun H5 s5 => ⟨_, _, rfl, S4.trans s5⟩⟩
      · rw [valV_put, if_neg k_WN, valV_put, if_pos rfl]
      · rw [valV_put, if_pos rfl]
    · rintro σ H1 ⟨x2, x3, rfl, s1⟩
      exact k _ s1
end
end DL
namespace DLR
open PySem PySem.Spec PyProof.Rows L2
/-! ### how often a truth stands in a list; what is never asked -/
def rCntB (K : PySem.W.Frag) : V → List V → Hp → VK → Prop := fun x xs H Q => ∃ (p : Addr) (bs : List Bool) (b : Bool), x = .ref p ∧ xs = [.bl b] ∧ SqL K H p (bs.map V.bl) ∧ Q (.int (bs.count b : Nat)) H
theorem flat_bl : ∀ bs : List Bool, (bs.map V.bl).all flatV = true
  | [] => rfl
  | _ :: bs => flat_bl bs
theorem count_bl (b : Bool) : ∀ {bs : List Bool} {us : List Value}, Vals (bs.map V.bl) us → us.countP (eqU (.bl b)) = bs.count b
  | [], _, .nil => rfl
  | c :: bs, u :: us, .cons r t => by
    rw [List.countP_cons, count_bl b t, eqU_of r rfl, List.count_cons]
    rfl
section
variable {X : Cx}
theorem mt_countB : MtR X "list.count" (rCntB X.K) := by
  intro pins s σ H x xs v us Q I rx rxs h
  obtain ⟨p, bs, b, rfl, rfl, hs, q⟩ := h
  cases rx
  obtain ⟨u, rfl, ru⟩ := rxs.one
  obtain ⟨its, rv, ⟨⟨cls, dd, data, sl⟩, n, ho, hc, hdn, hd⟩, hlen⟩ := I.list hs
  simp only at hc hd
  subst hc hd
  refine call_meets PySem.F.slot_list_count ⟨_, ho, rfl⟩ PySem.F.entry_list_count (PySem.F.args_list_count_2 _ _)
    (SeqAt.list_countAt p its.toArray n dd sl u (eqU (.bl b))) ⟨ho, fun y hy => mem_eqAt ru rfl rv (flat_bl bs) y (by simpa using hy), ?_⟩
  refine ⟨.int (bs.count b : Nat), H, I.tok _, ⟨s.toks, ?_⟩, q⟩
  show Value.int ((its.toArray.toList.countP (eqU (.bl b)) : Nat) : Int) s.toks = Value.int ((bs.count b : Nat) : Int) s.toks
  rw [show its.toArray.toList = its from rfl, count_bl b rv]
def tNo : TE := fun _ _ _ => False
theorem pe_no {e : Expr} : PE X e tNo := ⟨fun _ _ _ _ _ _ h => h.elim⟩
end
end DLR
namespace DL
open PySem L2 DLR LamX
/-! ### what a work told, or as what it was refused -/
structure Er (mg : Str → Option Value) where
  BP : Addr
  BL : Addr
  BF : Addr
  BG : Addr
  BE : Addr
  TM : Addr
  OV : Addr
  BT : Addr
  DE : Addr
  mBP : mg "BadProgram" = some (.ref BP)
  mBL : mg "BadLaying" = some (.ref BL)
  mBF : mg "BadFuel" = some (.ref BF)
  mBG : mg "BadGoes" = some (.ref BG)
  mBE : mg "BadPaper" = some (.ref BE)
  mTM : mg "TooMany" = some (.ref TM)
  mOV : mg "Over" = some (.ref OV)
  mBT : mg "BadText" = some (.ref BT)
  mDE : mg "DrumError" = some (.ref DE)
  VE : mg "ValueError" = none
def wordJ : Nat → Str
  | 0 => "program"
  | 1 => "laying"
  | 2 => "fuel"
  | 3 => "goes"
  | 4 => "paper"
  | 5 => "many"
  | 6 => "over"
  | _ => "text"
structure Knd (K : Frg) {mg : Str → Option Value} (E : Er mg) (D : Addr) (j : Nat) : Prop where
  ex : ExcC K D
  one : PySem.W.exmOne K (.ref D) (.ref E.DE) = some true
  ve : PySem.W.kitOne K (.ref D) (.type "ValueError") = some true
  k0 : PySem.W.kitOne K (.ref D) (.ref E.BP) = some (decide (0 = j))
  k1 : PySem.W.kitOne K (.ref D) (.ref E.BL) = some (decide (1 = j))
  k2 : PySem.W.kitOne K (.ref D) (.ref E.BF) = some (decide (2 = j))
  k3 : PySem.W.kitOne K (.ref D) (.ref E.BG) = some (decide (3 = j))
  k4 : PySem.W.kitOne K (.ref D) (.ref E.BE) = some (decide (4 = j))
  k5 : PySem.W.kitOne K (.ref D) (.ref E.TM) = some (decide (5 = j))
  k6 : PySem.W.kitOne K (.ref D) (.ref E.OV) = some (decide (6 = j))
  k7 : PySem.W.kitOne K (.ref D) (.ref E.BT) = some (decide (7 = j))
  j : j = 2 ∨ j = 3 ∨ j = 5 ∨ j = 6
abbrev sTold : Stmt := top 40
abbrev nTold : List Str := ["_law_work", "e", "_law_kinds", "_law_word"]
theorem scTold : FnScope nTold ["_law_work"] (defScope sTold) := ⟨rfl, rfl, rfl, by decide +kernel, rfl, by decide +kernel, by decide +kernel⟩
def suiteOf : Stmt → List Stmt
  | .Try _ [.ExceptHandler _ _ b _] _ _ _ => b
  | _ => []
abbrev toldSuite : List Stmt := suiteOf ((defBody sTold).getD 0 (.Pass ⟨0, 0, 0, 0⟩))
theorem at_kinds {j : Nat} (h : j = 2 ∨ j = 3 ∨ j = 5 ∨ j = 6) : ([decide (0 = j), decide (1 = j), decide (2 = j), decide (3 = j)] ++ [decide (4 = j), decide (5 = j), decide (6 = j), decide (7 = j)]).count true = 1 ∧
    atI [V.str "program", V.str "laying", V.str "fuel", V.str "goes", V.str "paper", V.str "many", V.str "over", V.str "text"] (j : Int) = some (.str (wordJ j)) ∧
    ((([decide (0 = j), decide (1 = j), decide (2 = j), decide (3 = j)] ++ [decide (4 = j), decide (5 = j), decide (6 = j), decide (7 = j)] : List Bool).map V.bl)[j]? = some (.bl true)) ∧
    (∀ (m : Nat) (z' : V), m < j → (([decide (0 = j), decide (1 = j), decide (2 = j), decide (3 = j)] ++ [decide (4 = j), decide (5 = j), decide (6 = j), decide (7 = j)] : List Bool).map V.bl)[m]? = some z' → eqV z' (.bl true) = false) ∧
    decide (V.str (wordJ j) = V.str "program") = false ∧ decide (V.str (wordJ j) = V.str "laying") = false ∧ decide (V.str (wordJ j) = V.str "paper") = false ∧ decide (V.str (wordJ j) = V.str "text") = false := by
  have low : ∀ {l : List V} {j : Nat}, (∀ i, i < j → ∃ z, l[i]? = some z ∧ eqV z (.bl true) = false) → ∀ (m : Nat) (z' : V), m < j → l[m]? = some z' → eqV z' (.bl true) = false := by
    intro l j h m z' hm e
    obtain ⟨z, h1, h2⟩ := h m hm
    rw [h1] at e
    rw [← Option.some.inj e]
    exact h2
  rcases h with rfl | rfl | rfl | rfl
  · refine ⟨by decide +kernel, rfl, rfl, low fun i hi => ?_, by decide +kernel, by decide +kernel, by decide +kernel, by decide +kernel⟩
    match i, hi with
    | 0, _ => exact ⟨_, rfl, rfl⟩
    | 1, _ => exact ⟨_, rfl, rfl⟩
  · refine ⟨by decide +kernel, rfl, rfl, low fun i hi => ?_, by decide +kernel, by decide +kernel, by decide +kernel, by decide +kernel⟩
    match i, hi with
    | 0, _ => exact ⟨_, rfl, rfl⟩
    | 1, _ => exact ⟨_, rfl, rfl⟩
    | 2, _ => exact ⟨_, rfl, rfl⟩
  · refine ⟨by decide +kernel, rfl, rfl, low fun i hi => ?_, by decide +kernel, by decide +kernel, by decide +kernel, by decide +kernel⟩
    match i, hi with
    | 0, _ => exact ⟨_, rfl, rfl⟩
    | 1, _ => exact ⟨_, rfl, rfl⟩
    | 2, _ => exact ⟨_, rfl, rfl⟩
    | 3, _ => exact ⟨_, rfl, rfl⟩
    | 4, _ => exact ⟨_, rfl, rfl⟩
  · refine ⟨by decide +kernel, rfl, rfl, low fun i hi => ?_, by decide +kernel, by decide +kernel, by decide +kernel, by decide +kernel⟩
    match i, hi with
    | 0, _ => exact ⟨_, rfl, rfl⟩
    | 1, _ => exact ⟨_, rfl, rfl⟩
    | 2, _ => exact ⟨_, rfl, rfl⟩
    | 3, _ => exact ⟨_, rfl, rfl⟩
    | 4, _ => exact ⟨_, rfl, rfl⟩
    | 5, _ => exact ⟨_, rfl, rfl⟩
theorem relRef {C : Addr} : ∀ u, RelV (.ref C) u → u = .ref C := fun u h => by cases h; rfl
theorem relTy {C : String} : ∀ u, RelV (.ty C) u → u = .type C := fun u h => by cases h; rfl
section
variable {X : Cx}
theorem told_suite (E : Er X.mg) (T : Bt X.mg) {g : Addr} {cdg : Value} {s : Shared} {H0 : Hp} {CX : CXT} {E0 : XK} {j : Nat} {D a : Addr} {oe : Obj} {pn : List (Addr × Obj)} (kn : Knd X.K E D j) (hz : Zc (.ref D) none oe) (hf : ∃ vs, oe.data = .fields vs) :
    ∃ t, PSs ((cxOf CX X.prog X.w X.K X.mg X.base nTold "_law_told" (defScope sTold) g cdg X.A X.stack s H0 E0).nox.suite a ((a, oe) :: pn)) toldSuite t ∧
      ∀ (D : Ends) (σ : L2.St) (H : Hp), σ.length = 4 → σ[1]? = some (some (.ref a)) → (∀ t' H', Same1 H H' → H' t' = some (.tup [.str (wordJ j)]) → D.rt (.ref t') H') → t D σ H := by
  refine ⟨_, (pss_cons (ps_set (i := 2) scTold.nd rfl (Or.inl rfl) (pe_lst (pa_cons (pe_callB (call_isE kn.ex hz hf) (by rfl) T.isinstance (by decide +kernel) (pa_cons (pv 1) (pa_cons (pe_glob (v := .ref E.BP) rfl E.mBP rfl) pa_nil))) (pa_cons (pe_callB (call_isE kn.ex hz hf) (by rfl) T.isinstance (by decide +kernel) (pa_cons (pv 1) (pa_cons (pe_glob (v := .ref E.BL) rfl E.mBL rfl) pa_nil))) (pa_cons (pe_callB (call_isE kn.ex hz hf) (by rfl) T.isinstance (by decide +kernel) (pa_cons (pv 1) (pa_cons (pe_glob (v := .ref E.BF) rfl E.mBF rfl) pa_nil))) (pa_cons (pe_callB (call_isE kn.ex hz hf) (by rfl) T.isinstance (by decide +kernel) (pa_cons (pv 1) (pa_cons (pe_glob (v := .ref E.BG) rfl E.mBG rfl) pa_nil))) pa_nil))))))
      (pss_cons (ps_set (i := 2) scTold.nd rfl (Or.inl rfl) (pe_op op_cat (pv 2) (pe_lst (pa_cons (pe_callB (call_isE kn.ex hz hf) (by rfl) T.isinstance (by decide +kernel) (pa_cons (pv 1) (pa_cons (pe_glob (v := .ref E.BE) rfl E.mBE rfl) pa_nil))) (pa_cons (pe_callB (call_isE kn.ex hz hf) (by rfl) T.isinstance (by decide +kernel) (pa_cons (pv 1) (pa_cons (pe_glob (v := .ref E.TM) rfl E.mTM rfl) pa_nil))) (pa_cons (pe_callB (call_isE kn.ex hz hf) (by rfl) T.isinstance (by decide +kernel) (pa_cons (pv 1) (pa_cons (pe_glob (v := .ref E.OV) rfl E.mOV rfl) pa_nil))) (pa_cons (pe_callB (call_isE kn.ex hz hf) (by rfl) T.isinstance (by decide +kernel) (pa_cons (pv 1) (pa_cons (pe_glob (v := .ref E.BT) rfl E.mBT rfl) pa_nil))) pa_nil)))))))
      (pss_cons (ps_if (PW.pt (pw_or (pt_cmpR op_ne (pe_bm PySem.F.plainAttrs_list PySem.F.slot_list_count PySem.F.type_list_count mt_countB (pv 2) (pa_cons pe_bl pa_nil)) pe_int (nomark _)) (pw_or1 (pt_not (pt_val (pe_callB (call_isE kn.ex hz hf) (by rfl) T.isinstance (by decide +kernel) (pa_cons (pv 1) (pa_cons (pe_bltn (v := .ty "ValueError") (by rfl) E.VE (by decide +kernel) rfl) pa_nil))))))))
          (pss_one ps_never)
          pss_nil)
      (pss_cons (ps_set (i := 3) scTold.nd rfl (Or.inl rfl) (pe_ix ix_list (pe_lst (pa_cons pe_str (pa_cons pe_str (pa_cons pe_str (pa_cons pe_str (pa_cons pe_str (pa_cons pe_str (pa_cons pe_str (pa_cons pe_str pa_nil))))))))) (pe_bm PySem.F.plainAttrs_list PySem.F.slot_list_index PySem.F.type_list_index mt_index (pv 2) (pa_cons pe_bl pa_nil)) (fun _ _ => rfl)))
      (pss_cons (ps_if (pt_cmpR op_eq (pv 3) pe_str (nomark _))
          (pss_one ps_never)
          pss_nil)
      (pss_cons (ps_if (pt_cmpR op_eq (pv 3) pe_str (nomark _))
          (pss_one ps_never)
          pss_nil)
      (pss_cons (ps_if (pt_cmpR op_eq (pv 3) pe_str (nomark _))
          (pss_one ps_never)
          pss_nil)
      (pss_one (ps_ret (pe_ifExp (pt_cmpR op_eq (pv 3) pe_str (nomark _)) pe_no (pe_tup (pa_cons (pv 3) pa_nil)))))))))))), ?_⟩
  intro D' σ H hl h1 hq
  obtain ⟨x0, x1, x2, x3, rfl⟩ : ∃ x0 x1 x2 x3, σ = [x0, x1, x2, x3] := by
    match σ, hl with
    | [x0, x1, x2, x3], _ => exact ⟨x0, x1, x2, x3, rfl⟩
  have h1 : x1 = some (.ref a) := Option.some.inj h1
  subst h1
  obtain ⟨q1, q2, q3, q4, q5, q6, q7, q8⟩ := at_kinds kn.j
  refine ⟨_, rfl, .ref E.BP, .ref E.BP, _, rfl, relRef, kn.k0, _, rfl, .ref E.BL, .ref E.BL, _, rfl, relRef, kn.k1, _, rfl, .ref E.BF, .ref E.BF, _, rfl, relRef, kn.k2, _, rfl, .ref E.BG, .ref E.BG, _, rfl, relRef, kn.k3, (by show 4 ≤ sizeLine; decide), fun l1 hl1 => ?_⟩
  refine alloc hl1 fun H1 s1 e1 => ?_
  refine ⟨_, rfl, _, rfl, .ref E.BE, .ref E.BE, _, rfl, relRef, kn.k4, _, rfl, .ref E.TM, .ref E.TM, _, rfl, relRef, kn.k5, _, rfl, .ref E.OV, .ref E.OV, _, rfl, relRef, kn.k6, _, rfl, .ref E.BT, .ref E.BT, _, rfl, relRef, kn.k7, (by show 4 ≤ sizeLine; decide), fun l2 hl2 => ?_⟩
  refine alloc hl2 fun H2 s2 e2 => ?_
  refine ⟨l1, l2, _, _, rfl, rfl, s2 _ _ e1, e2, (by show 8 ≤ sizeLine; decide), fun l3 hl3 => ?_⟩
  refine alloc hl3 fun H3 s3 e3 => ?_
  have e3 : H3 l3 = some (.lst (([decide (0 = j), decide (1 = j), decide (2 = j), decide (3 = j)] ++ [decide (4 = j), decide (5 = j), decide (6 = j), decide (7 = j)] : List Bool).map V.bl)) := e3
  generalize hk : ([decide (0 = j), decide (1 = j), decide (2 = j), decide (3 = j)] ++ [decide (4 = j), decide (5 = j), decide (6 = j), decide (7 = j)] : List Bool) = ks at q1 q3 q4 e3
  refine ⟨_, rfl, .inl ⟨rfl, _, SqL.of e3⟩, l3, ks, true, rfl, rfl, SqL.of e3, ?_⟩
  rw [q1]
  refine ⟨rfl, _, rfl, ?_⟩
  rw [show (!decide (V.int ((1 : Nat) : Int) = V.int 1)) = false by decide +kernel]
  refine iteF ⟨_, rfl, .ty "ValueError", .type "ValueError", true, rfl, relTy, kn.ve, _, rfl, ?_⟩
  refine iteF ?_
  refine ⟨(by show 8 ≤ sizeLine; decide), fun l4 hl4 => ?_⟩
  refine alloc hl4 fun H4 s4 e4 => ?_
  refine ⟨_, rfl, .inl ⟨rfl, _, SqL.of (s4 _ _ e3)⟩, l3, _, _, j, _, rfl, rfl, SqL.of (s4 _ _ e3), rfl, flat_bl ks, q3, rfl, q4, ?_⟩
  refine ⟨l4, _, _, _, rfl, rfl, SqL.of e4, q2, ?_⟩
  refine ⟨_, rfl, rfl, _, rfl, ?_⟩
  rw [q5]
  refine iteF ⟨_, rfl, rfl, _, rfl, ?_⟩
  rw [q6]
  refine iteF ⟨_, rfl, rfl, _, rfl, ?_⟩
  rw [q7]
  refine iteF ⟨_, rfl, rfl, _, rfl, ?_⟩
  rw [q8]
  refine iteF ⟨_, rfl, (by show 1 ≤ sizeLine; decide), fun t ht => ?_⟩
  refine alloc ht fun H5 s5 e5 => ?_
  exact hq t H5 ((((s1.trans s2).trans s3).trans s4).trans s5) e5
end
end DL
namespace DL
open PySem PySem.Spec PyProof.Rows L2 DLR LamX
def TTd (K : Frg) {mg : Str → Option Value} (E : Er mg) : (XK → Hp → VK → Prop) → Hp → VK → Prop := fun tl H Q =>
  tl (fun cls d H' => ∃ (D : Addr) (j : Nat), Knd K E D j ∧ cls = .ref D ∧ d = none ∧ ∀ t H'', Same1 H' H'' → H'' t = some (.tup [.str (wordJ j)]) → Q (.ref t) H'') H Q
section
variable {X : Cx}
def tsTold (K : Frg) {mg : Str → Option Value} (E : Er mg) : Addr → Value → Option Addr → TS := fun a cls d D σ H =>
  σ.length = 4 → σ[1]? = some (some (.ref a)) ∧ ∃ (D0 : Addr) (j : Nat), Knd K E D0 j ∧ cls = .ref D0 ∧ d = none ∧ ∀ t H'', Same1 H H'' → H'' t = some (.tup [.str (wordJ j)]) → D.rt (.ref t) H''
theorem told_ok (E : Er X.mg) (T : Bt X.mg) {g : Addr} {cdg : Value} {q : Str} : GivesTo X nTold "_law_told" (defScope sTold) g cdg (defBody sTold) "_law_work" q (TTd X.K E) := by
  intro f c' s H Q tl act hc h
  refine ⟨_, pss_one (ps_try_as (X := (cxOf C8.CX0 X.prog X.w X.K X.mg X.base nTold "_law_told" (defScope sTold) g cdg X.A X.stack s H C8.E0).nox) (c := .ref E.DE) (i := 1)
      (tb := fun W D σ H => ∃ Ech : XK, (∀ cls d σ' H', Ech cls d H' → W cls d σ' H') ∧ σ[0]? = some (some (.ref f)) ∧ H c' = some (CodeO c' q) ∧ tl Ech H D.rt)
      (ts := tsTold X.K E) rfl rfl scTold.nd rfl rfl ⟨by rfl, by decide, .inl E.mDE⟩ LamX.takes0 (fun W pn xe tk _ => ?_) (fun a oe cls d pn hz hf => ?_)), ?_⟩
  · refine ⟨fun pins s' σ H' D I h' => ?_⟩
    obtain ⟨Ech, hW, h1, h2, h3⟩ := h'
    exact (pss_one (ps_ret (act W pn xe Ech _ _ tk hW))).run pins s' σ H' D I ⟨h1, h2, h3⟩
  · refine ⟨fun pins s' σ H' D I h' => ?_⟩
    have hl : σ.length = 4 := I.len
    obtain ⟨h1, D0, j, kn, rfl, rfl, hq⟩ := h' hl
    obtain ⟨t, ht, hr⟩ := told_suite (X := X) (g := g) (cdg := cdg) (s := s) (H0 := H) (CX := C8.CX0) (E0 := C8.E0) (a := a) (pn := pn) E T kn hz hf
    exact ht.run pins s' σ H' D I (hr D σ H' hl h1 hq)
  · refine ⟨fun cls d H' => ∃ (D : Addr) (j : Nat), Knd X.K E D j ∧ cls = .ref D ∧ d = none ∧ ∀ t H'', Same1 H' H'' → H'' t = some (.tup [.str (wordJ j)]) → Q (.ref t) H'', ?_, rfl, hc, h⟩
    rintro cls d σ' H' ⟨D, j, kn, rfl, rfl, hq⟩
    refine ⟨true, kn.one, fun _ a ha => ?_, fun z => by cases z⟩
    intro hl
    rw [List.length_set] at hl
    refine ⟨?_, D, j, kn, rfl, rfl, hq⟩
    rw [List.getElem?_set_self (by omega)]
end
structure OvK (K : Frg) (D : Addr) : Prop where
  x : PySem.W.excIn K D [.type "ValueError", .type "Exception", .type "BaseException", .type "object"] "ValueError.__new__" = true
  k : PySem.W.keepIn K (.ref D) = true
  b : PySem.W.subIn K (.ref D) (.type "BaseException") = some true
  t : PySem.W.typeIn K (.ref D) = some (.type "type")
end DL
namespace DLR
open PySem PySem.Spec PyProof.Rows L2
/-! ### a, *b = a list -/
theorem walksS_shift {prog : Program} {w : World} {A : Around} {I : Addr} {fp wr : List Addr} {G : Array GenState → Array GenState → Prop} {n : Nat} {P : Nat → Value → Prop} {St : Nat → Shared → Prop} (W : WalksS prog w A I fp wr G (n + 1) P St) :
    WalksS prog w A I fp wr G n (fun i => P (i + 1)) (fun i => St (i + 1)) where
  sub := W.sub
  grefl := W.grefl
  gtrans := W.gtrans
  frame := fun i s h' tk st le k => W.frame (i + 1) s h' tk st le k
  item := fun i s Q E hi st hQ => W.item (i + 1) s Q E (Nat.succ_lt_succ hi) st hQ
  done := fun s Q E st hQ => W.done s Q E st hQ
  self := fun i s Q E st hQ => W.self (i + 1) s Q E st hQ
def gStar (K : PySem.W.Frag) (t1 t2 : TG) : TG := fun v σ H Q => ∃ (a : Addr) (x : V) (xs : List V), v = .ref a ∧ SqL K H a (x :: xs) ∧ ∀ l, H l = none → t1 x σ (upd H l (.lst xs)) fun σ' H' => t2 (.ref l) σ' H' Q
theorem pg_star {X : Cx} {e1 e2 : Expr} {t1 t2 : TG} {p pos : Pos} {k : Nat} (hc : X.calm = true) (h1 : PG X e1 t1) (h2 : PG X e2 t2) (hst : assignEach [e1, .Starred e2 p] X.env = [(false, assign e1 X.env), (true, assign e2 X.env)] := by rfl) :
    PG X (.Tuple [e1, .Starred e2 p] k pos) (gStar X.K t1 t2) := by
  refine ⟨fun pins s σ H v u Q I r h => ?_⟩
  obtain ⟨a, x, xs, rfl, hq, h⟩ := h
  cases r
  obtain ⟨its, rv, pl, hz⟩ := I.list hq
  cases rv with
  | cons rx rxs =>
  rename_i u us
  rw [List.length_cons] at hz
  have hlen := rxs.length
  rw [assign_Tuple]
  refine wpAny_bind (wpAny_standAt ?_)
  unfold unpack
  rw [hst]
  show wpAny _ _ (holding [Value.ref a] (unpackItems (.ref a) 2 (some 1)) >>= fun vs => assignInOrder [assign e1 X.env, assign e2 X.env] vs) _ _ _
  refine wpAny_bind (wpAny_holding ?_)
  unfold unpackItems
  refine wpAny_bind ?_
  unfold notIterableAtAll
  refine wpAny_bind (wpAny_specialOf pl.isList.typeIs PySem.F.slot_list_iter.lookup ?_)
  refine wpAny_pure ?_
  simp only [Bool.false_eq_true, if_false]
  refine wpAny_bind (wpAny_holding (wpAny_pyIter_list pl.isList ?_))
  have hlt : a < s.heap.objs.size := by
    obtain ⟨o, ho, _⟩ := pl.isList
    exact Heap.lt_size ho
  have hne : a ≠ s.heap.objs.size := Nat.ne_of_lt hlt
  have hit0 : (s.heap.push { cls := .type "list_iterator", data := .fields #[.ref a, .int 0 0] }).IsListIter s.heap.objs.size a 0 := ⟨_, Heap.get?_push_size _ rfl, rfl, rfl⟩
  have hl0 : (s.heap.push { cls := .type "list_iterator", data := .fields #[.ref a, .int 0 0] }).IsList a (u :: us).toArray := by
    obtain ⟨o, ho, r⟩ := pl.isList
    exact ⟨o, Heap.get?_push_of_some _ ho, r⟩
  have k0 : ∀ b o, s.heap.get? b = some o → (s.heap.push { cls := .type "list_iterator", data := .fields #[.ref a, .int 0 0] }).get? b = some o := fun b o e => Heap.get?_push_of_some _ e
  have sz0 : (s.heap.push { cls := .type "list_iterator", data := .fields #[.ref a, .int 0 0] }).objs.size = s.heap.objs.size + 1 := Heap.size_push ..
  generalize s.heap.push { cls := .type "list_iterator", data := .fields #[.ref a, .int 0 0] } = g0 at hit0 hl0 k0 sz0 ⊢
  refine wpAny_bind (wpAny_holding ?_)
  show wpAny _ _ (pyNext (.ref s.heap.objs.size) >>= _) _ _ _
  refine wpAny_bind (PySem.wpAny_pyNext_list_item (s := { s with heap := g0 }) hit0 hl0 (x := u) rfl fun g1 hit1 hs1 => ?_)
  refine wpAny_bind (wpAny_holding (show wpAny _ _ (pure []) _ _ _ from wpAny_pure (wpAny_pure ?_)))
  rw [if_neg (by simp)]
  have hl1 : g1.IsList a (u :: us).toArray := hl0.extBut hs1.extBut hne
  have W := walksS_shift (n := us.length) (show WalksS X.prog X.w X.A.in1 s.heap.objs.size _ _ _ (us.length + 1) _ _ from (Walks.list (A := X.A.in1) (by exact I.ok.hd hc) s.heap.objs.size a hne (u :: us).toArray).toS)
  refine wpAny_bind (wpAny_holding (PySem.wpAny_collect_iter (s := { s with heap := g1 }) (.inr (.inr (.inl rfl))) W (fun i z st => st.1.typeIs) ⟨hit1, hl1⟩ (fun b hb => ?_) (by simp) (fun s2 acc hm hacc => ?_) (by rw [sizeLine_eq]; rw [sizeLine_eq] at hz; omega)))
  · have e' : b = s.heap.objs.size ∨ b = a := by simpa using hb
    show b < g1.objs.size
    rw [hs1.1, sz0]
    rcases e' with e | e
    · rw [e]; exact Nat.lt_succ_self _
    · rw [e]; exact Nat.lt_succ_of_lt hlt
  have eacc : acc.toList = us := by
    refine List.ext_getElem? fun j => ?_
    obtain ⟨n1, n2⟩ := hacc
    rw [Array.getElem?_toList]
    rcases Nat.lt_or_ge j us.length with lt | ge
    · have lt2 : j < acc.size := by omega
      have q := n2 j acc[j] (Array.getElem?_eq_getElem lt2)
      rw [Array.getElem?_eq_getElem lt2, ← q]
      simp
    · rw [Array.getElem?_eq_none (by omega), List.getElem?_eq_none ge]
  have k2 : ∀ b o, s.heap.get? b = some o → s2.heap.get? b = some o := fun b o e => hm.heap b o (by simp; exact Nat.ne_of_lt (Heap.lt_size e)) (hs1.extBut b o (Nat.ne_of_lt (Heap.lt_size e)) (k0 b o e))
  rw [if_neg (by simp)]
  rw [eacc]
  have m1 : s2.gens = s.gens := hm.gens
  have m2 : s2.drawn = s.drawn := hm.drawn
  have m3 : s2.os = s.os := hm.os
  obtain ⟨h2', g2', d2', tk2, o2⟩ := s2
  simp only at m1 m2 m3 k2
  subst m1 m2 m3
  have I2 : L2.Inv X pins σ H { s with heap := h2', toks := tk2 } := I.kept k2
  have I3 := I2.lnew (t' := tk2) (ys := xs) (its := us) rxs (by omega)
  have fr : H h2'.objs.size = none := I2.hok.fresh (Nat.le_refl _)
  refine wpAny_bind (wpAny_newList ?_ (by rw [List.length_take]; omega))
  rw [show List.take (us.length - (2 - 1 - 1)) us = us from List.take_of_length_le (by omega), show List.drop (us.length - (2 - 1 - 1)) us = [] from List.drop_of_length_le (by omega)]
  refine wpAny_pure ?_
  refine assignInOrder_cons (thn (h1.run pins _ σ _ x u _ I3 rx (h _ fr)) fun _ s3 ⟨σ1, H4, I4, q4⟩ => ?_)
  exact assignInOrder_cons (thn (h2.run pins s3 σ1 H4 (.ref h2'.objs.size) (.ref h2'.objs.size) _ I4 rfl q4) fun _ s4 q => assignInOrder_nil q)
end DLR
namespace DL
open PySem L2 DLR TL NumText
/-! ### numbers as texts -/
def numS (i : Int) : Str := Str.ofString (toString i)
def sgnL (i : Int) : List Nat := if i < 0 then 45 :: numL i.natAbs else numL i.natAbs
theorem tl_numS (i : Int) : tl (numS i) = sgnL i := by
  unfold numS sgnL
  by_cases lt : i < 0
  · rw [if_pos lt]
    obtain ⟨n, rfl⟩ : ∃ n : Nat, i = -((n + 1 : Nat) : Int) := ⟨(-i).toNat - 1, by omega⟩
    rw [tl_ofString]
    have e : toString (-((n + 1 : Nat) : Int)) = "-" ++ toString ((n + 1 : Nat) : Int) := rfl
    rw [e, String.toList_append, List.map_append]
    rw [← tl_ofString (toString ((n + 1 : Nat) : Int)), tl_num]
    have e2 : (-((n + 1 : Nat) : Int)).natAbs = n + 1 := by omega
    rw [e2]
    rfl
  · rw [if_neg (by omega)]
    obtain ⟨n, rfl⟩ : ∃ n : Nat, i = (n : Int) := ⟨i.toNat, by omega⟩
    rw [tl_num]
    rfl
theorem sgnL_len {i : Int} (h : i.natAbs ≤ 1000000) : (numL i.natAbs).length ≤ 7 ∧ 0 < (numL i.natAbs).length ∧ (sgnL i).length ≤ 8 := by
  have a := numL_len (n := i.natAbs) (k := 7) (by decide) (by omega)
  have b := List.length_pos_iff.mpr (numL_ne i.natAbs)
  unfold sgnL
  refine ⟨a, b, ?_⟩
  split
  · rw [List.length_cons]; omega
  · omega
theorem sgnL_free {i : Int} {s : Nat} (h : s < 45) : s ∉ sgnL i := by
  unfold sgnL
  split
  · intro z
    rcases List.mem_cons.mp z with e | e
    · omega
    · exact numL_free (.inl (by omega)) e
  · exact numL_free (.inl (by omega))
theorem num_back {i : Int} (h : i.natAbs ≤ 1000000) : intText? (numS i) = some i := by
  have len : (numS i).length ≤ 8 := by
    rw [len_tl, tl_numS]
    exact (sgnL_len h).2.2
  by_cases lt : i < 0
  · have e : (numS i).cps.toList = 45 :: numL i.natAbs := by
      have q := tl_numS i
      unfold sgnL at q
      rw [if_pos lt] at q
      exact q
    rw [intText_neg e (numL_digits _) (numL_ne _) (by omega), numL_val]
    exact congrArg some (by omega)
  · have e : (numS i).cps.toList = numL i.natAbs := by
      have q := tl_numS i
      unfold sgnL at q
      rw [if_neg (by omega)] at q
      exact q
    rw [intText_digits (by rw [e]; exact numL_digits _) (by rw [e]; exact numL_ne _) (by omega), e, numL_val]
    exact congrArg some (by omega)
theorem numL_head {n : Nat} (h : 0 < n) : ∀ c r, numL n = c :: r → c ≠ 48 := by
  induction n using Nat.strongRecOn with
  | _ n ih =>
    intro c r e
    by_cases k : n < 10
    · rw [numL_lt k] at e
      injection e with e1 e2
      omega
    · rw [numL_step (by omega)] at e
      cases z : numL (n / 10) with
      | nil => exact absurd z (numL_ne _)
      | cons x y =>
        rw [z] at e
        injection e with e1 e2
        rw [← e1]
        exact ih (n / 10) (by omega) (by omega) x y z
end DL
namespace DLR
open PySem PySem.Spec L2
theorem lc_genU {J : It} {g : TG} {tt : TT} {te : TE} {vs : List Nat} {σ : L2.St} {H1 : Hp} {D : Addr} {Qd : Hp → Prop} (n : Nat) (Pv : Nat → Hp → Prop)
    (h0 : Pv 0 (upd H1 D (HO.lst []))) (go : ∀ i H, i < n → Pv i H → J.go i H) (stop : ∀ H, Pv n H → J.stop n H)
    (step : ∀ i x H H', i < n → Pv i H → J.yld i H x H' → g x (wipe σ vs) H' fun σ2 H2 => wipe σ2 vs = wipe σ vs ∧ tt σ2 H2 fun b H3 =>
      if b = true then te σ2 H3 fun y H4 => ∃ acc, H4 D = some (HO.lst acc) ∧ acc.length < sizeLine ∧ Pv (i + 1) (upd H4 D (HO.lst (acc ++ [y]))) else Pv (i + 1) H3)
    (fin : ∀ H, Pv n H → Qd H) :
    ∃ W : Nat → Nat → Hp → Prop, (∃ m, W 0 m (upd H1 D (HO.lst []))) ∧ ∀ i m H, W i m H → J.stop i H ∧ Qd H ∨ J.go i H ∧ ∃ Nx : Hp → Prop, (∀ H', Nx H' → ∃ m', m' < m ∧ W (i + 1) m' H') ∧
      ∀ x H', J.yld i H x H' → g x (wipe σ vs) H' fun σ2 H2 => wipe σ2 vs = wipe σ vs ∧ tt σ2 H2 fun b H3 =>
        if b = true then te σ2 H3 fun y H4 => ∃ acc, H4 D = some (HO.lst acc) ∧ acc.length < sizeLine ∧ Nx (upd H4 D (HO.lst (acc ++ [y]))) else Nx H3 := by
  refine ⟨fun i m H => m = n - i ∧ i ≤ n ∧ Pv i H, ⟨n, rfl, Nat.zero_le _, h0⟩, ?_⟩
  rintro i m H ⟨rfl, hi, hp⟩
  rcases Nat.lt_or_ge i n with lt | ge
  · exact .inr ⟨go i H lt hp, Pv (i + 1), fun H' h => ⟨n - (i + 1), by omega, rfl, lt, h⟩, fun x H' hy => step i x H H' lt hp hy⟩
  · have e : i = n := Nat.le_antisymm hi ge
    subst e
    exact .inl ⟨stop H hp, fin H hp⟩
end DLR
namespace DL
open PySem PySem.Spec L2 DLR TL
theorem starts_minus (i : Int) : Txt.startswith (numS i) "-" = decide (i < 0) := by
  have e1 : ("-" : Str).length = 1 := rfl
  have e2 : ("-" : Str).cps.toList = [45] := rfl
  have e3 : (numS i).cps.toList = sgnL i := tl_numS i
  have e4 : (numS i).length = (sgnL i).length := by rw [len_tl]; exact congrArg _ (tl_numS i)
  unfold Txt.startswith
  rw [StrLaws.subAt_eq, e1, e2, e3, e4]
  unfold sgnL
  by_cases lt : i < 0
  · rw [if_pos lt, decide_eq_true lt]
    simp
  · rw [if_neg lt, decide_eq_false lt]
    cases e : numL i.natAbs with
    | nil => exact absurd e (numL_ne _)
    | cons c r =>
      have hc : c ≠ 45 := fun z => numL_free (n := i.natAbs) (s := 45) (.inl (by omega)) (by rw [e, z]; exact List.mem_cons_self)
      simp [hc]
theorem tl_cut1 (z : Str) : tl (cutS z (some 1) none) = (tl z).drop 1 := by
  unfold cutS
  have e : HT.sIx z.length 0 (some 1) = min 1 z.length := HT.sIx_nat _ _ 1
  rw [e, HT.sIx_none]
  show ((z.cps.toList.drop (min 1 z.length)).take (z.length - min 1 z.length)).toArray.toList = z.cps.toList.drop 1
  have hz : z.length = z.cps.toList.length := len_tl z
  rw [hz]
  rcases Nat.le_total 1 z.cps.toList.length with q | q
  · rw [Nat.min_eq_left q]
    exact List.take_of_length_le (by rw [List.length_drop]; omega)
  · rw [Nat.min_eq_right q, List.drop_eq_nil_of_le q, List.drop_eq_nil_of_le (Nat.le_refl _)]
    simp
theorem figs {c : Nat} (h : 48 ≤ c ∧ c ≤ 57) : decide (c ∈ ("0123456789" : Str).cps.toList) = true := by
  have e : ("0123456789" : Str).cps.toList = [48, 49, 50, 51, 52, 53, 54, 55, 56, 57] := rfl
  rw [e]
  refine decide_eq_true ?_
  simp only [List.mem_cons, List.not_mem_nil, or_false]
  omega
structure Cx7 (mg : Str → Option Value) where
  t7 : Tok
  m7 : mg "MOST_FIGURES" = some (.int 7 t7)
structure Ci (mg : Str → Option Value) where
  tI : Tok
  mI : mg "FIGURES" = some (.str "0123456789" tI)
abbrev sWn : Stmt := top 29
abbrev nWn : List Str := ["word", "figures", "figure"]
abbrev FWn (K : Frg) (mg : Str → Option Value) := Fd K mg "is_written_number" sWn ["word"]
def spWn : Sp := fun vs H Q _ => ∃ i : Int, vs = [.str (numS i)] ∧ i.natAbs ≤ 1000000 ∧ ∀ H', Same1 H H' → Q (.bl true) H'
section
variable {P : Program} {w : World} {K : PySem.W.Frag} {mg : Str → Option Value} {base : Heap}
theorem scWn : FnScope nWn ["word"] (defScope sWn) := ⟨rfl, rfl, rfl, by decide +kernel, rfl, by decide +kernel, by decide +kernel⟩
theorem ok_wn (c : FWn K mg) (T : Bt mg) (CX : Cx7 mg) (CI : Ci mg) : FnOk P w K mg base CX0 1 c.f c.fd ["word"] spWn := by
  refine c.F.ok scWn (fun vs H Q E h => ?_) (fun cdv A outer s H vs Q E hr h => ?_)
  · obtain ⟨i, rfl, _⟩ := h
    rfl
  · obtain ⟨i, rfl, hi, k⟩ := h
    refine ⟨_, (pss_cons (ps_set (i := 1) scWn.nd rfl (Or.inl rfl) (pe_ifExp (pt_val (pe_m1 PySem.F.slot_str_startswith PySem.F.type_str_startswith mt_startswith (pv 0) pe_str)) (pe_slice sl_str (pv 0) (po_some pe_int) po_none) (pv 0)))
      (pss_cons (ps_if (PW.pt (pw_or (pt_not (pt_chain op_le op_le pe_int (pe_callB call_len_str (by rfl) T.len PySem.boot_len (pa_cons (pv 1) pa_nil)) (pe_glob rfl CX.m7 relI))) (pw_or1 (pt_not (pt_val (pe_callB (cr_all rfl) (by rfl) T.all (by decide +kernel) (pa_cons (pe_lc (own := [("figure", 2)]) (g := gName 2) (tt := tYes) rfl scWn.nd (pi_str (pv 1)) (blkOk_by (N := nWn) (sc := defScope sWn) (by decide +kernel)) (fun _ _ _ _ _ => (pg_name (i := 2) scWn.nd rfl (Or.inl rfl))) (fun _ _ _ _ _ => pts_nil) (fun _ _ _ _ _ => (pe_cmpR op_in_sign (pv 2) (pe_glob (v := .str "0123456789") rfl CI.mI ⟨_, rfl⟩) rfl))) pa_nil)))))))
          (pss_one (ps_ret pe_bl))
          pss_nil)
      (pss_one (ps_ret (pe_or (pe_cmpR op_eq (pv 0) pe_str (nomark _)) (pe_one (pe_cmpR op_ne (pe_ix ix_str (pv 1) pe_int (fun _ _ => rfl)) pe_str (nomark _)))))))), ?_⟩
    obtain ⟨l7, l0, l8⟩ := sgnL_len hi
    refine asg_elim (fun v H' => ∃ f : Str, v = .str f ∧ tl f = numL i.natAbs ∧ H' = H) ?_ ?_
    · rintro v H' ⟨f, rfl, hf, rfl⟩
      have hfl : f.length = (numL i.natAbs).length := by rw [len_tl, hf]
      dsimp only [gName]
      have fs : f.length ≤ sizeLine := by rw [sizeLine_eq]; omega
      refine ⟨_, rfl, f, rfl, fs, _, _, rfl, rfl, _, rfl, ?_⟩
      rw [show decide ((1 : Int) ≤ (f.length : Int)) = true from decide_eq_true (by omega)]
      refine ⟨_, _, rfl, rfl, _, rfl, ?_⟩
      rw [show decide ((f.length : Int) ≤ 7) = true from decide_eq_true (by omega)]
      refine iteF ?_
      refine ⟨_, rfl, f, rfl, fun D hD => ?_⟩
      refine DLR.lc_genU (J := Its f) f.cps.size (fun j H1 => Same1 H' H1 ∧ H1 D = some (.lst ((List.replicate j true).map V.bl))) ⟨Same.new hD, upd_same⟩ (fun j H1 hj _ => hj) (fun H1 _ => Nat.le_refl _) ?_ ?_
      · rintro j x H1 H2 hj ⟨s1, hd1⟩ ⟨rfl, c, hc, rfl⟩
        have hcd : 48 ≤ c ∧ c ≤ 57 := by
          refine numL_digits i.natAbs c ?_
          rw [← hf]
          have q := List.mem_of_getElem? (l := f.cps.toList) (i := j) (by rw [Array.getElem?_toList]; exact hc)
          exact q
        refine ⟨rfl, _, rfl, c, _, rfl, rfl, ?_⟩
        rw [figs hcd]
        have hjl : j < f.length := hj
        refine ⟨_, hd1, szl (by rw [List.length_map, List.length_replicate]; omega), Same.mut s1 hD, ?_⟩
        rw [upd_same, List.replicate_succ', List.map_append]
        rfl
      rintro H1 ⟨s1, hd1⟩
      refine ⟨D, _, rfl, SqL.of hd1, _, rfl, ?_⟩
      rw [show (List.replicate f.cps.size true).all id = true by rw [List.all_eq_true]; intro x hx; rw [List.eq_of_mem_replicate hx]; rfl]
      refine iteF ?_
      refine ⟨_, rfl, rfl, _, rfl, ?_⟩
      cases hd : decide (V.str (numS i) = V.str "0") with
      | true => exact iteT (k H1 s1)
      | false =>
        have hi0 : i ≠ 0 := fun z => by
          have q := of_decide_eq_false hd
          rw [z] at q
          exact q rfl
        have np : 0 < i.natAbs := by omega
        cases e : numL i.natAbs with
        | nil => exact absurd e (numL_ne _)
        | cons c r =>
          have c48 := numL_head np c r e
          refine iteF ⟨_, rfl, f, _, c, rfl, rfl, fs, by rw [show f.cps.toList = c :: r from hf.trans e]; exact atI_nat (xs := c :: r) (j := 0) rfl, rfl, ?_⟩
          have ne : (!decide (V.str ⟨#[c]⟩ = V.str "0")) = true := by
            rw [decide_eq_false fun z => c48 (by
              have z2 : (⟨#[c]⟩ : Str) = ⟨#[48]⟩ := V.str.inj z
              have z3 := congrArg (fun y : Str => y.cps.toList) z2
              simpa using z3)]
            rfl
          rw [ne]
          exact k H1 s1
    · intro Q' hQ
      refine ⟨_, rfl, ⟨_, rfl⟩, _, _, rfl, rfl, _, rfl, ?_⟩
      rw [starts_minus]
      by_cases lt : i < 0
      · rw [decide_eq_true lt]
        refine ⟨_, rfl, _, rfl, _, rfl, by rw [len_tl, tl_numS, sizeLine_eq]; omega, hQ _ _ ⟨_, rfl, ?_, rfl⟩⟩
        rw [tl_cut1, tl_numS]
        unfold sgnL
        rw [if_pos lt]
        rfl
      · rw [decide_eq_false lt]
        refine ⟨_, rfl, hQ _ _ ⟨_, rfl, ?_, rfl⟩⟩
        rw [tl_numS]
        unfold sgnL
        rw [if_neg lt]
end
end DL
namespace DL
open PySem PySem.Spec L2 DLR TL
/-! ### lines of a text -/
def numsR : Row → List Nat
  | .load x n => [x, n]
  | .add x n => [x, n]
  | .take x n => [x, n]
  | .store x n => [x, n]
  | .say n => [n]
  | .test a b => [a, b]
  | .stop => []
theorem rowVs_nums (r : Row) : rowVs r = V.str r.word :: (numsR r).map nI := by cases r <;> rfl
theorem numsR_len (r : Row) : (numsR r).length = r.parts.length := by cases r <;> rfl
theorem numsR_le (r : Row) : (numsR r).length ≤ 2 := by cases r <;> simp [numsR]
theorem numsR_lt {r : Row} {n N : Nat} (h : r.ok n N) : ∀ x ∈ numsR r, x < n + N := by
  intro x hx
  cases r with
  | load a b => rcases List.mem_cons.mp hx with e | e; · rw [e]; have := h.1; omega
                rw [List.mem_singleton.mp e]; have := h.2; omega
  | add a b => rcases List.mem_cons.mp hx with e | e; · rw [e]; have := h.1; omega
               rw [List.mem_singleton.mp e]; have := h.2; omega
  | take a b => rcases List.mem_cons.mp hx with e | e; · rw [e]; have := h.1; omega
                rw [List.mem_singleton.mp e]; have := h.2; omega
  | store a b => rcases List.mem_cons.mp hx with e | e; · rw [e]; have := h.1; omega
                 rw [List.mem_singleton.mp e]; have := h.2; omega
  | say a => rw [List.mem_singleton.mp hx]; have h : a < N := h; omega
  | test a b => rcases List.mem_cons.mp hx with e | e; · rw [e]; have := h.1; omega
                rw [List.mem_singleton.mp e]; have := h.2; omega
  | stop => cases hx
theorem dropU (n : Nat) {xs : List V} : cutV xs (some (n : Int)) none = xs.drop n := by
  unfold cutV
  have e : HT.sIx xs.length 0 (some (n : Int)) = min n xs.length := HT.sIx_nat _ _ n
  rw [e, HT.sIx_none]
  rcases Nat.le_total n xs.length with q | q
  · rw [Nat.min_eq_left q]
    exact List.take_of_length_le (by rw [List.length_drop]; omega)
  · rw [Nat.min_eq_right q, List.drop_eq_nil_of_le q, List.drop_eq_nil_of_le (Nat.le_refl _)]
    exact List.take_nil
def lineF (x : Str) (is : List Int) : List Str := x :: is.map numS
abbrev sIl : Stmt := top 28
abbrev nIl : List Str := ["words","number","word","numbers","figures"]
abbrev FIl (K : Frg) (mg : Str → Option Value) := Fd K mg "is_line" sIl ["words", "number"]
abbrev sRo : Stmt := top 27
abbrev nRo : List Str := ["words","numbers","word"]
abbrev FRo (K : Frg) (mg : Str → Option Value) := Fd K mg "row_of" sRo ["words"]
def smallI (is : List Int) : Prop := ∀ i ∈ is, i.natAbs ≤ 1000000
def spIl : Sp := fun vs H Q _ => ∃ (a : Addr) (x : Str) (is : List Int) (n : Nat), vs = [.ref a, nI n] ∧ H a = some (.lst ((lineF x is).map V.str)) ∧ smallI is ∧ is.length ≤ 10 ∧ (n = 0 ∧ x = "worths" ∨ n ≠ 0 ∧ ∃ r : Row, x = r.word ∧ is.length = r.parts.length) ∧ ∀ H', Same1 H H' → Q (.bl true) H'
def spRo : Sp := fun vs H Q _ => ∃ (a : Addr) (x : Str) (is : List Int), vs = [.ref a] ∧ H a = some (.lst ((lineF x is).map V.str)) ∧ smallI is ∧ is.length ≤ 10 ∧ ∀ t H', Same1 H H' → H' t = some (.tup (V.str x :: is.map V.int)) → Q (.ref t) H'
section
variable {P : Program} {w : World} {K : PySem.W.Frag} {mg : Str → Option Value} {base : Heap}
theorem scIl : FnScope nIl ["words", "number"] (defScope sIl) := ⟨rfl, rfl, rfl, by decide +kernel, rfl, by decide +kernel, by decide +kernel⟩
theorem scRo : FnScope nRo ["words"] (defScope sRo) := ⟨rfl, rfl, rfl, by decide +kernel, rfl, by decide +kernel, by decide +kernel⟩
theorem ok_isline (c : FIl K mg) (cWn : FWn K mg) (T : Bt mg) (Z : Pt K w mg) (CX : Cx7 mg) (CI : Ci mg) : FnOk P w K mg base CX0 2 c.f c.fd ["words", "number"] spIl := by
  have GWn : FnOk P w K mg base CX0 1 cWn.f cWn.fd ["word"] spWn := ok_wn cWn T CX CI
  refine c.F.ok scIl (fun vs H Q E h => ?_) (fun cdv A outer s H vs Q E hr h => ?_)
  · obtain ⟨a, x, is, n, rfl, _⟩ := h
    rfl
  · obtain ⟨a, x, is, n, rfl, ha, hs, h10, hc, k⟩ := h
    refine ⟨_, (pss_cons (ps_asg (pv 0) (DLR.pg_star rfl (pg_name (i := 2) scIl.nd rfl (Or.inl rfl)) (pg_name (i := 3) scIl.nd rfl (Or.inl rfl))))
      (pss_cons (ps_if (pt_not (pt_val (pe_callB (cr_all rfl) (by rfl) T.all (by decide +kernel) (pa_cons (pe_lc (own := [("figures", 4)]) (g := gName 4) (tt := tYes) rfl scIl.nd (pi_list (pv 3)) (blkOk_by (N := nIl) (sc := defScope sIl) (by decide +kernel)) (fun _ _ _ _ _ => (pg_name (i := 4) scIl.nd rfl (Or.inl rfl))) (fun _ _ _ _ _ => pts_nil) (fun _ _ _ _ _ => (pe_call GWn (hr.mono (by first | omega | decide)) (by rfl) cWn.m cWn.F.kp cWn.b .nil pass0 (pa_cons (pv 4) pa_nil)))) pa_nil))))
          (pss_one (ps_ret pe_bl))
          pss_nil)
      (pss_cons (ps_if (pt_cmpR op_eq (pv 1) pe_int (nomark _))
          (pss_one (ps_ret (pe_cmpR op_eq (pv 2) pe_str (nomark _))))
          pss_nil)
      (pss_one (ps_ret (pe_and (pe_cmpR (op_in_kd Z.kd) (pv 2) (pe_glob (v := .ref Z.d) rfl Z.m rfl) rfl) (pe_one (pe_cmpR op_eq (pe_callB call_len_seq (by rfl) T.len PySem.boot_len (pa_cons (pv 3) pa_nil)) (pe_callB call_len_seq (by rfl) T.len PySem.boot_len (pa_cons (pe_ix ix_kdict (pe_glob (v := .ref Z.d) rfl Z.m rfl) (pv 2) (fun _ _ => rfl)) pa_nil)) (nomark _))))))))), ?_⟩
    have ha : H a = some (.lst (V.str x :: (is.map numS).map V.str)) := ha
    refine ⟨_, rfl, a, V.str x, (is.map numS).map V.str, rfl, SqL.of ha, fun l hl => ?_⟩
    refine alloc hl fun H1 s1 e1 => ?_
    dsimp only [gName]
    refine ⟨_, rfl, l, rfl, ⟨_, SqL.of e1⟩, fun D hD => ?_⟩
    refine lc_list (K := K) (a := l) (xs := (is.map numS).map V.str) (fun j H' => Same1 H1 H' ∧ H' D = some (.lst ((List.replicate j true).map V.bl))) ⟨Same.new hD, upd_same⟩ (fun j H' _ ⟨q, _⟩ => SqL.of (q _ _ e1)) ?_ ?_
    · rintro j v H2 hj ⟨s2, hd2⟩
      rw [List.getElem?_map, List.getElem?_map] at hj
      cases hz : is[j]? with
      | none => rw [hz] at hj; cases hj
      | some i =>
        rw [hz] at hj
        have e : V.str (numS i) = v := Option.some.inj hj
        subst e
        have hjl := (List.getElem?_eq_some_iff.mp hz).1
        refine ⟨rfl, _, rfl, i, rfl, hs i (List.mem_of_getElem? hz), fun H3 s3 => ?_⟩
        refine ⟨_, s3 _ _ hd2, szl (by rw [List.length_map, List.length_replicate]; omega), Same.mut (s2.trans s3) hD, ?_⟩
        rw [upd_same, List.replicate_succ', List.map_append]
        rfl
    rintro H2 ⟨s2, hd2⟩
    refine ⟨D, _, rfl, SqL.of hd2, _, rfl, ?_⟩
    rw [show (List.replicate ((is.map numS).map V.str).length true).all id = true by rw [List.all_eq_true]; intro x hx; rw [List.eq_of_mem_replicate hx]; rfl]
    refine iteF ?_
    refine ⟨_, rfl, rfl, _, rfl, ?_⟩
    have S2 := s1.trans s2
    rcases hc with ⟨rfl, rfl⟩ | ⟨hn, r, rfl, hlen⟩
    · rw [show decide (nI 0 = V.int 0) = true from by decide]
      refine iteT ⟨_, rfl, rfl, ?_⟩
      rw [decide_eq_true rfl]
      exact k H2 S2
    · rw [show decide (nI n = V.int 0) = false from decide_eq_false (fun z => hn (by have := V.int.inj z; omega))]
      obtain ⟨t, z1, z2, z3⟩ := Z.get r
      refine iteF ⟨_, rfl, _, _, rfl, rfl, z1, _, rfl, ?_⟩
      refine ⟨_, rfl, l, _, rfl, .inl (SqL.of (s2 _ _ e1)), _, rfl, Z.d, _, _, rfl, rfl, z2, t, _, rfl, .inr (z3 H2), rfl, ?_⟩
      rw [List.length_map, List.length_map, List.length_map, hlen, decide_eq_true rfl]
      exact k H2 S2
theorem ok_rowof (c : FRo K mg) (T : Bt mg) : FnOk P w K mg base CX0 1 c.f c.fd ["words"] spRo := by
  refine c.F.ok scRo (fun vs H Q E h => ?_) (fun cdv A outer s H vs Q E hr h => ?_)
  · obtain ⟨a, x, is, rfl, _⟩ := h
    rfl
  · obtain ⟨a, x, is, rfl, ha, hs, h10, k⟩ := h
    refine ⟨_, (pss_cons (ps_setLc (i := 1) (own := [("word", 2)]) (g := gName 2) (tt := tYes) rfl scRo.nd rfl rfl (sw_true rfl rfl rfl (by decide +kernel)) (pi_list (pe_slice sl_list (pv 0) (po_some pe_int) po_none)) (blkOk_by (N := nRo) (sc := defScope sRo) (by decide +kernel)) (fun _ _ _ _ _ => (pg_name (i := 2) scRo.nd rfl (Or.inl rfl))) (fun _ _ _ _ _ => pts_nil) (fun _ _ _ _ _ => (pe_callTy call_int_str (by rfl) T.int (by decide +kernel) (pa_cons (pv 2) pa_nil))))
      (pss_one (ps_ret (pe_tup (pa_cons (pe_ix ix_list (pv 0) pe_int (fun _ _ => rfl)) (StX.pa_star (pv 1) pa_nil)))))), ?_⟩
    have ha : H a = some (.lst (V.str x :: (is.map numS).map V.str)) := ha
    refine ⟨_, rfl, _, rfl, a, _, rfl, SqL.of ha, fun l hl => ?_⟩
    refine alloc hl fun H1 s1 e1 => ?_
    have e1 : H1 l = some (.lst ((is.map numS).map V.str)) := e1.trans (congrArg (fun z => some (HO.lst z)) (dropU 1 (xs := V.str x :: (is.map numS).map V.str)))
    refine ⟨l, rfl, ⟨_, SqL.of e1⟩, fun D hD => ?_⟩
    refine lc_list (K := K) (a := l) (xs := (is.map numS).map V.str) (fun j H' => Same1 H1 H' ∧ H' D = some (.lst ((is.take j).map V.int))) ⟨Same.new hD, upd_same⟩ (fun j H' _ ⟨q, _⟩ => SqL.of (q _ _ e1)) ?_ ?_
    · rintro j v H2 hj ⟨s2, hd2⟩
      rw [List.getElem?_map, List.getElem?_map] at hj
      cases hz : is[j]? with
      | none => rw [hz] at hj; cases hj
      | some i =>
        rw [hz] at hj
        have e : V.str (numS i) = v := Option.some.inj hj
        subst e
        have hi := hs i (List.mem_of_getElem? hz)
        refine ⟨rfl, _, rfl, _, i, rfl, num_back hi, by rw [len_tl, tl_numS]; have := (sgnL_len hi).2.2; omega, ?_⟩
        refine ⟨_, hd2, szl (by rw [List.length_map, List.length_take]; omega), Same.mut s2 hD, ?_⟩
        rw [upd_same, List.take_add_one, hz, List.map_append]
        rfl
    rintro H2 ⟨s2, hd2⟩
    rw [List.length_map, List.length_map, List.take_length] at hd2
    have S2 := s1.trans s2
    dsimp only [gName]
    refine ⟨_, rfl, a, _, _, _, rfl, rfl, SqL.of (S2 _ _ ha), at0, _, rfl, D, _, rfl, .inr (SqL.of hd2), sz (by simp; omega), fun t ht => ?_⟩
    refine alloc ht fun H3 s3 e3 => ?_
    refine k t H3 (S2.trans s3) ?_
    rw [e3]
    simp
end
end DL
namespace DL
open PySem PySem.Spec L2 DLR TL
/-! ### a program's text -/
def linesF (p : Prog) : List (List Str) := lineF "worths" p.ws :: p.rows.map fun r => lineF r.word ((numsR r).map fun n : Nat => (n : Int))
def textF (p : Prog) : Str := Txt.join "\n" ((linesF p).map (Txt.join " "))
theorem mem_joinL {y : List Nat} {x : Nat} : ∀ {parts : List (List Nat)}, x ∈ joinL y parts → x ∈ y ∨ ∃ p ∈ parts, x ∈ p
  | [], h => by cases h
  | [p], h => .inr ⟨p, List.mem_cons_self, h⟩
  | p :: q :: r, h => by
    have h : x ∈ p ++ (y ++ joinL y (q :: r)) := h
    rcases List.mem_append.mp h with h | h
    · exact .inr ⟨p, List.mem_cons_self, h⟩
    · rcases List.mem_append.mp h with h | h
      · exact .inl h
      · exact (mem_joinL h).imp id fun ⟨z, hz, e⟩ => ⟨z, List.mem_cons_of_mem _ hz, e⟩
theorem joinL_len {y : List Nat} : ∀ parts : List (List Nat), (joinL y parts).length ≤ (parts.map List.length).sum + parts.length * y.length
  | [] => by show 0 ≤ _; omega
  | [p] => by show p.length ≤ (p.length + 0) + 1 * y.length; omega
  | p :: q :: r => by
    have h := joinL_len (y := y) (q :: r)
    show (p ++ (y ++ joinL y (q :: r))).length ≤ _
    rw [List.length_append, List.length_append, List.map_cons, List.sum_cons, List.length_cons, Nat.succ_mul]
    omega
theorem join_len (y : Str) (parts : List Str) : (Txt.join y parts).length ≤ (parts.map (·.length)).sum + parts.length * y.length := by
  have h := joinL_len (y := tl y) (parts.map tl)
  rw [len_tl, join_eq, tl_join]
  rw [List.map_map, List.length_map] at h
  have e : parts.map (List.length ∘ tl) = parts.map (·.length) := List.map_congr_left fun x _ => (len_tl x).symm
  rw [e, ← len_tl] at h
  exact h
theorem sum_le {B : Nat} : ∀ {parts : List Str}, (∀ x ∈ parts, x.length ≤ B) → (parts.map (·.length)).sum ≤ parts.length * B
  | [], _ => Nat.zero_le _
  | x :: r, h => by
    have a := h x List.mem_cons_self
    have b := sum_le (parts := r) fun z hz => h z (List.mem_cons_of_mem _ hz)
    rw [List.map_cons, List.sum_cons, List.length_cons, Nat.succ_mul]
    omega
structure LnOk (ws : List Str) : Prop where
  ne : ws ≠ []
  len : ws.length ≤ 10
  w8 : ∀ x ∈ ws, x.length ≤ 8
  f32 : ∀ x ∈ ws, 32 ∉ tl x
  f10 : ∀ x ∈ ws, 10 ∉ tl x
theorem lnOk {x : Str} {is : List Int} (h : smallI is) (hl : is.length ≤ 9) (hx : x.length ≤ 8) (x32 : 32 ∉ tl x) (x10 : 10 ∉ tl x) : LnOk (lineF x is) := by
  have each : ∀ y ∈ lineF x is, y = x ∨ ∃ i ∈ is, y = numS i := fun y hy => by
    rcases List.mem_cons.mp hy with e | e
    · exact .inl e
    · obtain ⟨i, hi, rfl⟩ := List.mem_map.mp e
      exact .inr ⟨i, hi, rfl⟩
  refine ⟨by unfold lineF; simp, by unfold lineF; rw [List.length_cons, List.length_map]; omega, fun y hy => ?_, fun y hy => ?_, fun y hy => ?_⟩
  · rcases each y hy with rfl | ⟨i, hi, rfl⟩
    · exact hx
    · rw [len_tl, tl_numS]; exact (sgnL_len (h i hi)).2.2
  · rcases each y hy with rfl | ⟨i, hi, rfl⟩
    · exact x32
    · rw [tl_numS]; exact sgnL_free (by omega)
  · rcases each y hy with rfl | ⟨i, hi, rfl⟩
    · exact x10
    · rw [tl_numS]; exact sgnL_free (by omega)
theorem word_ok (r : Row) : r.word.length ≤ 8 ∧ 32 ∉ tl r.word ∧ 10 ∉ tl r.word := by
  have h : ∀ x ∈ (["load", "add", "take", "store", "say", "test", "stop"] : List Str), x.length ≤ 8 ∧ 32 ∉ tl x ∧ 10 ∉ tl x := by decide +kernel
  refine h _ ?_
  cases r <;> simp [Row.word]
theorem lines_ok {p : Prog} (g : Good p) : (∀ l ∈ linesF p, LnOk l) ∧ (linesF p).length ≤ 41 := by
  have r40 := g.r40
  refine ⟨fun l hl => ?_, by unfold linesF; rw [List.length_cons, List.length_map]; omega⟩
  rcases List.mem_cons.mp hl with rfl | hl
  · refine lnOk (fun i hi => ?_) (by have := g.w8; omega) (by decide) (by decide) (by decide)
    have := g.num i hi
    omega
  · obtain ⟨r, hr, rfl⟩ := List.mem_map.mp hl
    obtain ⟨a, b, c⟩ := word_ok r
    refine lnOk (fun i hi => ?_) (by rw [List.length_map]; have := numsR_le r; omega) a b c
    obtain ⟨n, hn, rfl⟩ := List.mem_map.mp hi
    have := numsR_lt (g.ok r hr) n hn
    have := g.w8
    omega
theorem LnOk.join {ws : List Str} (h : LnOk ws) : (Txt.join " " ws).length ≤ 100 ∧ 10 ∉ tl (Txt.join " " ws) ∧ Txt.split (Txt.join " " ws) " " = ws := by
  refine ⟨?_, fun z => ?_, split_join (s := 32) (S := []) rfl (by decide +kernel) h.ne h.f32⟩
  · have a := join_len " " ws
    have b := sum_le h.w8
    have c := h.len
    have d : (" " : Str).length = 1 := rfl
    rw [d] at a
    omega
  · rw [join_eq, tl_join] at z
    rcases mem_joinL z with z | ⟨p, hp, z⟩
    · revert z; decide
    · obtain ⟨x, hx, rfl⟩ := List.mem_map.mp hp
      exact h.f10 x hx z
theorem text_ok {p : Prog} (g : Good p) : (textF p).length ≤ 5000 ∧ Txt.split (textF p) "\n" = (linesF p).map (Txt.join " ") := by
  obtain ⟨h1, h2⟩ := lines_ok g
  refine ⟨?_, split_join (s := 10) (S := []) rfl (by decide +kernel) (by unfold linesF; simp) fun x hx => ?_⟩
  · have a := join_len "\n" ((linesF p).map (Txt.join " "))
    have b := sum_le (parts := (linesF p).map (Txt.join " ")) (B := 100) fun x hx => by
      obtain ⟨l, hl, rfl⟩ := List.mem_map.mp hx
      exact (h1 l hl).join.1
    have d : ("\n" : Str).length = 1 := rfl
    rw [d] at a
    rw [List.length_map] at a b
    unfold textF
    omega
  · obtain ⟨l, hl, rfl⟩ := List.mem_map.mp hx
    exact (h1 l hl).join.2.1
end DL
namespace DLR
open PySem PySem.Spec PyProof.Rows L2
theorem lookup_rel {f : Str × NameKind → Str × NameKind} (hf : ∀ p, (f p).1 = p.1 ∧ ((p.2 = .cell ∨ p.2 = .free) → ((f p).2 = .cell ∨ (f p).2 = .free))) : ∀ {names : List (Str × NameKind)} {x : Str}, names.lookup x = some .cell ∨ names.lookup x = some .free →
    (names.map f).lookup x = some .cell ∨ (names.map f).lookup x = some .free
  | [], x, h => by simp at h
  | (n, k) :: r, x, h => by
    obtain ⟨h1, h2⟩ := hf (n, k)
    obtain ⟨n', k', e⟩ : ∃ n' k', f (n, k) = (n', k') := ⟨_, _, rfl⟩
    rw [e] at h1 h2
    have h1 : n' = n := h1
    subst h1
    rw [List.map_cons, e]
    rw [List.lookup_cons] at h ⊢
    cases c : x == n' with
    | true =>
      rw [c] at h
      have h : k = .cell ∨ k = .free := h.imp (fun z => Option.some.inj z) fun z => Option.some.inj z
      exact (h2 h).imp (congrArg some) (congrArg some)
    | false =>
      rw [c] at h
      exact lookup_rel hf h
theorem blkRel {N : List Str} {sc scope : Scope} {own : List (Str × Nat)} {env : Env} (h : BlkOk N sc scope own) : BlkOk N (relabel sc env) scope own := by
  refine ⟨h.kind, h.uniq, h.ix, fun y hy e => ?_, h.own⟩
  unfold relabel
  refine lookup_rel (fun p => ?_) (h.free y hy e)
  obtain ⟨n, k⟩ := p
  dsimp only
  split
  · exact ⟨rfl, fun _ => .inl rfl⟩
  · exact ⟨rfl, fun z => z⟩
theorem pi_tupK {X : Cx} {tg e : Expr} {te : TE} (K0 : PySem.W.Frag) (hK : X.K = K0) (h : PE X e te) : PI X tg e (iTup K0 te) := by
  subst hK
  exact pi_tup h
theorem pe_joinK {X : Cx} {o e : Expr} {to te : TE} {apos pos : Pos} (K0 : PySem.W.Frag) (hK : X.K = K0) (ho : PE X o to) (he : PE X e te) (hs : starEach [e] X.env = [(false, eval e X.env)] := by rfl) (hbase : attributeBase o "join" X.env (eval o X.env) = eval o X.env := by rfl) (hline : (apos.endLine == pos.line) = true := by rfl) :
    PE X (.Call (.Attribute o "join" apos) [e] [] pos) (tM1 (fun x xs H Q => ∃ a p, ∃ ys : List Str, x = .str a ∧ xs = [.ref p] ∧ (SqL K0 H p (ys.map V.str) ∨ SqT K0 H p (ys.map V.str)) ∧
      (ys.map (·.length)).sum + ys.length * a.length ≤ 16777216 ∧ Q (.str (Txt.join a ys)) H) to te) := by
  subst hK
  exact pe_join ho he hs hbase hline
theorem strIS {X : Cx} : CallR X (.type "str") (fun xs H Q => (∃ i : Int, xs = [.int i] ∧ i.natAbs.log2 < 1920 ∧ Q (.str (toString i)) H) ∨ ∃ a, xs = [.str a] ∧ Q (.str a) H) := by
  intro pins s σ H xs us Q I r h
  rcases h with h | h
  · exact call_str_int pins s σ H xs us Q I r h
  · exact SkE.call_str_str pins s σ H xs us Q I r h
end DLR
namespace DL
open PySem PySem.Spec L2 DLR TL
def retV : Stmt → Expr
  | .Return (some e) _ => e
  | _ => .Name "x" ⟨0, 0, 0, 0⟩
def callA : Expr → Expr
  | .Call _ (a :: _) _ _ => a
  | e => e
def lcS (d : Scope) : Expr → Scope
  | .ListComp _ _ sc _ => sc
  | _ => d
def qsF (p : Prog) : List (Str × List Int) := ("worths", p.ws) :: p.rows.map fun r => (r.word, (numsR r).map fun n : Nat => (n : Int))
theorem linesF_qs (p : Prog) : linesF p = (qsF p).map fun q => lineF q.1 q.2 := by
  unfold linesF qsF
  rw [List.map_cons, List.map_map]
  rfl
abbrev LinesAt (H : Hp) (ts : List Addr) (qs : List (Str × List Int)) : Prop := Paired (fun t (q : Str × List Int) => H t = some (.tup (V.str q.1 :: q.2.map V.int))) ts qs
theorem rowVs_ints (r : Row) : rowVs r = V.str r.word :: ((numsR r).map fun n : Nat => (n : Int)).map V.int := by
  rw [rowVs_nums, List.map_map]
  rfl
theorem linesAt_rows {H : Hp} : ∀ {bs : List Addr} {rs : List Row}, RowsAt H bs rs → LinesAt H bs (rs.map fun r => (r.word, (numsR r).map fun n : Nat => (n : Int)))
  | [], [], .nil => .nil
  | _ :: _, r :: _, .cons h t => .cons (by rw [← rowVs_ints r]; exact h) (linesAt_rows t)
theorem rows_linesAt {H : Hp} : ∀ {bs : List Addr} {rs : List Row}, LinesAt H bs (rs.map fun r => (r.word, (numsR r).map fun n : Nat => (n : Int))) → RowsAt H bs rs
  | [], [], .nil => .nil
  | _ :: _, r :: _, .cons h t => .cons (by have h := h; rw [← rowVs_ints r] at h; exact h) (rows_linesAt t)
theorem qs_small {p : Prog} (g : Good p) : ∀ q ∈ qsF p, smallI q.2 := by
  intro q hq i hi
  rcases List.mem_cons.mp hq with rfl | hq
  · have := g.num i hi
    omega
  · obtain ⟨r, hr, rfl⟩ := List.mem_map.mp hq
    obtain ⟨n, hn, rfl⟩ := List.mem_map.mp hi
    have := numsR_lt (g.ok r hr) n hn
    have := g.w8
    have := g.r40
    omega
theorem log_small {i : Int} (h : i.natAbs ≤ 1000000) : i.natAbs.log2 < 1920 := by
  by_cases z : i.natAbs = 0
  · rw [z]; decide
  · have : i.natAbs.log2 < 20 := (Nat.log2_lt z).mpr (by omega)
    omega
abbrev sWr : Stmt := top 25
abbrev nWr : List Str := ["program","worths","rows","lines","line","thing"]
abbrev scLines : Scope := lcS (defScope sWr) (callA (retV ((defBody sWr).getD 3 (.Pass ⟨0, 0, 0, 0⟩))))
abbrev FWr (K : Frg) (mg : Str → Option Value) := Fd K mg "written" sWr ["program"]
abbrev sRd : Stmt := top 26
abbrev nRd : List Str := ["text","lines","number","words","worths","program","line","word"]
abbrev FRd (K : Frg) (mg : Str → Option Value) := Fd K mg "read" sRd ["text"]
def spWr : Sp := fun vs H Q _ => ∃ (a : Addr) (p : Prog), vs = [.ref a] ∧ ProgAt H a p ∧ Good p ∧ ∀ H', Same1 H H' → Q (.str (textF p)) H'
def spRd : Sp := fun vs H Q _ => ∃ (p : Prog), vs = [.str (textF p)] ∧ Good p ∧ ∀ b H', Same1 H H' → ProgAt H' b p → Q (.ref b) H'
section
variable {P : Program} {w : World} {K : PySem.W.Frag} {mg : Str → Option Value} {base : Heap}
theorem scWr : FnScope nWr ["program"] (defScope sWr) := ⟨rfl, rfl, rfl, by decide +kernel, rfl, by decide +kernel, by decide +kernel⟩
theorem scRd : FnScope nRd ["text"] (defScope sRd) := ⟨rfl, rfl, rfl, by decide +kernel, rfl, by decide +kernel, by decide +kernel⟩
theorem ok_written (c : FWr K mg) (cCheckProgram : FCheckProgram K mg) (T : Bt mg) (GCheckProgram : FnOk P w K mg base CX0 4 cCheckProgram.f cCheckProgram.fd ["program"] spCheckProgram) : FnOk P w K mg base CX0 5 c.f c.fd ["program"] spWr := by
  refine c.F.ok scWr (fun vs H Q E h => ?_) (fun cdv A outer s H vs Q E hr h => ?_)
  · obtain ⟨a, p, rfl, _⟩ := h
    rfl
  · obtain ⟨a, p, rfl, hP, g, k⟩ := h
    refine ⟨_, (pss_cons (ps_expr (pe_call GCheckProgram (hr.mono (by first | omega | decide)) (by rfl) cCheckProgram.m cCheckProgram.F.kp cCheckProgram.b .nil pass0 (pa_cons (pv 0) pa_nil)))
      (pss_cons (ps_asg (pv 0) (pg_tup rfl (pgs_cons (pg_name (i := 1) scWr.nd rfl (Or.inl rfl)) (pgs_cons (pg_name (i := 2) scWr.nd rfl (Or.inl rfl)) pgs_nil))))
      (pss_cons (ps_set (i := 3) scWr.nd rfl (Or.inl rfl) (pe_lst (pa_cons (pe_tup (pa_cons pe_str (StX.pa_star (pv 1) pa_nil))) (StX.pa_star (pv 2) pa_nil))))
      (pss_one (ps_ret (pe_join pe_str (pe_lc (own := [("line", 4)]) (g := gName 4) (tt := tYes) rfl scWr.nd (pi_list (pv 3)) (blkOk_by (N := nWr) (sc := defScope sWr) (by decide +kernel)) (fun _ _ _ _ _ => (pg_name (i := 4) scWr.nd rfl (Or.inl rfl))) (fun _ _ _ _ _ => pts_nil) (fun _ _ _ _ _ => (pe_joinK K rfl pe_str (pe_lc (own := [("thing", 5)]) (g := gName 5) (tt := tYes) rfl scWr.nd (pi_tupK K rfl (pv 4)) (blkRel (blkOk_by (N := nWr) (sc := scLines) (by decide +kernel))) (fun _ _ _ _ _ => (pg_name (i := 5) scWr.nd rfl (Or.inl rfl))) (fun _ _ _ _ _ => pts_nil) (fun _ _ _ _ _ => (pe_callTy strIS (by rfl) T.str (by decide +kernel) (pa_cons (pv 5) pa_nil))))))))))))), ?_⟩
    refine ⟨_, rfl, a, p, rfl, hP, g, fun H1 s1 => ?_⟩
    obtain ⟨wa, ra, bs, hpa, hwa, hra, hR⟩ := hP.kp (Kp.same s1)
    refine ⟨_, rfl, a, _, rfl, SqT.of hpa, rfl, _, _, rfl, _, _, rfl, rfl, ?_⟩
    dsimp only
    have hwl : p.ws.length ≤ 8 := g.w8
    have hbl := Paired.length hR
    have r40 := g.r40
    refine ⟨_, rfl, wa, _, rfl, .inl (SqT.of hwa), sz (by simp; omega), fun tw htw => ?_⟩
    refine alloc htw fun H2 s2 e2 => ?_
    refine ⟨_, rfl, ra, _, rfl, .inl (SqT.of (s2 _ _ hra)), sz (by simp; omega), fun ll hll => ?_⟩
    refine alloc hll fun H3 s3 e3 => ?_
    have e3 : H3 ll = some (.lst ((tw :: bs).map V.ref)) := by rw [e3]; simp
    have hL : LinesAt H3 (tw :: bs) (qsF p) := by
      refine .cons ?_ (linesAt_rows (RowsAt.kp hR (Kp.same (s2.trans s3))))
      rw [s3 _ _ e2]
      simp
    obtain ⟨lk, l41⟩ := lines_ok g
    rw [linesF_qs] at lk l41
    rw [List.length_map] at l41
    have hLl := Paired.length hL
    refine ⟨⟨_, rfl⟩, _, rfl, ll, rfl, ⟨_, SqL.of e3⟩, fun D hD => ?_⟩
    refine lc_list (K := K) (a := ll) (xs := (tw :: bs).map V.ref) (fun j H' => Same1 H3 H' ∧ H' D = some (.lst ((((qsF p).take j).map fun q => Txt.join " " (lineF q.1 q.2)).map V.str))) ⟨Same.new hD, upd_same⟩ (fun j H' _ ⟨q, _⟩ => SqL.of (q _ _ e3)) ?_ ?_
    · rintro j x H4 hj ⟨s4, hd4⟩
      have hjc : j < (tw :: bs).length := by
        have q := (List.getElem?_eq_some_iff.mp hj).1
        rwa [List.length_map] at q
      have ex : x = .ref (tw :: bs)[j] := by
        rw [List.getElem?_map, List.getElem?_eq_getElem hjc] at hj
        exact (Option.some.inj hj).symm
      subst ex
      obtain ⟨⟨y, is⟩, hq1, hq2⟩ := Paired.get hL (List.getElem?_eq_getElem hjc)
      have hln : LnOk (lineF y is) := lk _ (List.mem_map.mpr ⟨(y, is), List.mem_of_getElem? hq1, rfl⟩)
      have hsm := qs_small g _ (List.mem_of_getElem? hq1)
      have hq2 : H3 (tw :: bs)[j] = some (.tup (V.str y :: is.map V.int)) := hq2
      have c4 := s4 _ _ hq2
      have hlen := hln.len
      refine ⟨rfl, ⟨_, rfl⟩, _, rfl, (tw :: bs)[j], rfl, ⟨_, SqT.of c4⟩, fun D2 hD2 => ?_⟩
      refine lc_tup (K := K) (a := (tw :: bs)[j]) (xs := V.str y :: is.map V.int) (fun i H' => Same1 H4 H' ∧ H' D2 = some (.lst (((lineF y is).take i).map V.str))) ⟨Same.new hD2, upd_same⟩ (fun i H' _ ⟨q, _⟩ => SqT.of (q _ _ c4)) ?_ ?_
      · rintro i x H5 hi ⟨s5, hd5⟩
        have go : ∀ z : Str, (lineF y is)[i]? = some z → ∃ acc, H5 D2 = some (HO.lst acc) ∧ acc.length < sizeLine ∧ Same1 H4 (upd H5 D2 (.lst (acc ++ [V.str z]))) ∧ (upd H5 D2 (.lst (acc ++ [V.str z]))) D2 = some (.lst (((lineF y is).take (i + 1)).map V.str)) := by
          intro z hz
          refine ⟨_, hd5, szl (by rw [List.length_map, List.length_take]; omega), Same.mut s5 hD2, ?_⟩
          rw [upd_same, List.take_add_one, hz, List.map_append]
          rfl
        cases i with
        | zero =>
          have e : V.str y = x := Option.some.inj hi
          subst e
          exact ⟨rfl, _, rfl, .inr ⟨_, rfl, go y rfl⟩⟩
        | succ i =>
          have hi : (is.map V.int)[i]? = some x := hi
          rw [List.getElem?_map] at hi
          cases hz : is[i]? with
          | none => rw [hz] at hi; cases hi
          | some n =>
            rw [hz] at hi
            have e : V.int n = x := Option.some.inj hi
            subst e
            refine ⟨rfl, _, rfl, .inl ⟨n, rfl, log_small (hsm n (List.mem_of_getElem? hz)), go (numS n) ?_⟩⟩
            show ((is.map numS)[i]?) = _
            rw [List.getElem?_map, hz]
            rfl
      rintro H5 ⟨s5, hd5⟩
      rw [show (V.str y :: is.map V.int).length = (lineF y is).length by unfold lineF; simp, List.take_length] at hd5
      have hs := sum_le hln.w8
      refine ⟨_, D2, lineF y is, rfl, rfl, .inl (SqL.of hd5), by show _ + _ * 1 ≤ _; omega, ?_⟩
      have hd6 := s5 _ _ hd4
      refine ⟨_, hd6, szl (by rw [List.length_map, List.length_map, List.length_take]; omega), Same.mut (s4.trans s5) hD, ?_⟩
      rw [upd_same, List.take_add_one, hq1, List.map_append, List.map_append]
      rfl
    rintro H4 ⟨s4, hd4⟩
    rw [List.length_map, hLl, List.take_length] at hd4
    have et : textF p = Txt.join "\n" ((qsF p).map fun q => Txt.join " " (lineF q.1 q.2)) := by
      unfold textF
      rw [linesF_qs, List.map_map]
      rfl
    have hs := sum_le (parts := (qsF p).map fun q => Txt.join " " (lineF q.1 q.2)) (B := 100) fun x hx => by
      obtain ⟨q, hq, rfl⟩ := List.mem_map.mp hx
      exact (lk _ (List.mem_map.mpr ⟨q, hq, rfl⟩)).join.1
    rw [List.length_map] at hs
    refine ⟨_, D, (qsF p).map fun q => Txt.join " " (lineF q.1 q.2), rfl, rfl, .inl (SqL.of hd4), by rw [List.length_map]; show _ + _ * 1 ≤ _; omega, ?_⟩
    rw [← et]
    exact k H4 (((s1.trans s2).trans s3).trans s4)
end
end DL
namespace DLR
open PySem PySem.Spec L2
theorem for_enumL {K : PySem.W.Frag} {a : Addr} {xs : List V} {g : TG} {tb : TS} {D : Ends} {σ : L2.St} {H : Hp} (Pv : Nat → L2.St → Hp → Prop) (h0 : Pv 0 σ H) (hq : ∀ i σ H, Pv i σ H → SqL K H a xs)
    (hs : ∀ i x T σ H, xs[i]? = some x → Pv i σ H → H T = none → g (.ref T) σ (upd H T (.tup [.int (i : Nat), x])) fun σ2 H2 => tb { D with nx := Pv (i + 1), ct := Pv (i + 1), bk := D.nx } σ2 H2)
    (hd : ∀ σ H, Pv xs.length σ H → D.nx σ H) :
    ∃ W : Nat → Nat → L2.St → Hp → Prop, (∃ m, W 0 m σ H) ∧ ∀ i m σ H, W i m σ H →
      ((Ite K a).stop i H ∧ D.nx σ H) ∨ ((Ite K a).go i H ∧ ∃ N : L2.St → Hp → Prop, (∀ σ' H', N σ' H' → ∃ m', m' < m ∧ W (i + 1) m' σ' H') ∧ ∀ x H', (Ite K a).yld i H x H' → g x σ H' fun σ2 H2 => tb { D with nx := N, ct := N, bk := D.nx } σ2 H2) := by
  refine ⟨fun i m σ H => m = xs.length - i ∧ i ≤ xs.length ∧ Pv i σ H, ⟨xs.length, rfl, Nat.zero_le _, h0⟩, ?_⟩
  rintro i m σ H ⟨rfl, hi, p⟩
  have qx := hq i σ H p
  by_cases hlt : i < xs.length
  · refine .inr ⟨⟨xs, _, qx, List.getElem?_eq_getElem hlt⟩, Pv (i + 1), fun σ' H' p' => ⟨_, by omega, rfl, hlt, p'⟩, fun v H' y => ?_⟩
    obtain ⟨T, x', rfl, hT, rfl, f1⟩ := y
    exact hs i x' T σ H (f1 xs qx) p hT
  · have e : i = xs.length := by omega
    subst e
    exact .inl ⟨⟨xs, qx, Nat.le_refl _⟩, hd σ H p⟩
end DLR
namespace DL
open PySem PySem.Spec L2 DLR TL
abbrev SplAt (D : Addr) (H : Hp) (ls : List Addr) (qs : List (Str × List Int)) : Prop := Paired (fun l (q : Str × List Int) => l ≠ D ∧ H l = some (.lst ((lineF q.1 q.2).map V.str))) ls qs
theorem SplAt.same {D : Addr} {H H' : Hp} {ls : List Addr} {qs : List (Str × List Int)} (h : SplAt D H ls qs) (s : Same1 H H') : SplAt D H' ls qs := Paired.mapP h fun l q ⟨a, b⟩ => ⟨a, s _ _ b⟩
theorem SplAt.upd {D : Addr} {H : Hp} {o : HO} {ls : List Addr} {qs : List (Str × List Int)} (h : SplAt D H ls qs) : SplAt D (upd H D o) ls qs := Paired.mapP h fun l q ⟨a, b⟩ => ⟨a, (upd_ne a).trans b⟩
theorem qs_line {p : Prog} (g : Good p) {i : Nat} {q : Str × List Int} (h : (qsF p)[i]? = some q) : smallI q.2 ∧ q.2.length ≤ 9 ∧ (i = 0 ∧ q.1 = "worths" ∨ i ≠ 0 ∧ ∃ r : Row, q.1 = r.word ∧ q.2.length = r.parts.length) := by
  refine ⟨qs_small g q (List.mem_of_getElem? h), ?_⟩
  cases i with
  | zero =>
    have e : (("worths" : Str), p.ws) = q := Option.some.inj h
    subst e
    exact ⟨by have := g.w8; show p.ws.length ≤ 9; omega, .inl ⟨rfl, rfl⟩⟩
  | succ i =>
    have h : (p.rows.map fun r => (r.word, (numsR r).map fun n : Nat => (n : Int)))[i]? = some q := h
    rw [List.getElem?_map] at h
    cases hr : p.rows[i]? with
    | none => rw [hr] at h; cases h
    | some r =>
      rw [hr] at h
      have e : (r.word, (numsR r).map fun n : Nat => (n : Int)) = q := Option.some.inj h
      subst e
      have := numsR_le r
      exact ⟨by show ((numsR r).map _).length ≤ 9; rw [List.length_map]; omega, .inr ⟨Nat.succ_ne_zero i, r, rfl, by show ((numsR r).map _).length = _; rw [List.length_map, numsR_len]⟩⟩
section
variable {P : Program} {w : World} {K : PySem.W.Frag} {mg : Str → Option Value} {base : Heap}
theorem ok_read (c : FRd K mg) (cCheckProgram : FCheckProgram K mg) (cIl : FIl K mg) (cRo : FRo K mg) (cWn : FWn K mg) (T : Bt mg) (Z : Pt K w mg) (CX : Cx7 mg) (CI : Ci mg) (GCheckProgram : FnOk P w K mg base CX0 4 cCheckProgram.f cCheckProgram.fd ["program"] spCheckProgram) : FnOk P w K mg base CX0 5 c.f c.fd ["text"] spRd := by
  have GIl : FnOk P w K mg base CX0 2 cIl.f cIl.fd ["words", "number"] spIl := ok_isline cIl cWn T Z CX CI
  have GRo : FnOk P w K mg base CX0 1 cRo.f cRo.fd ["words"] spRo := ok_rowof cRo T
  refine c.F.ok scRd (fun vs H Q E h => ?_) (fun cdv A outer s H vs Q E hr h => ?_)
  · obtain ⟨p, rfl, _⟩ := h
    rfl
  · obtain ⟨p, rfl, g, k⟩ := h
    refine ⟨_, (pss_cons (ps_setLc (i := 1) (own := [("line", 6)]) (g := gName 6) (tt := tYes) rfl scRd.nd rfl rfl (sw_true rfl rfl rfl (by decide +kernel)) (pi_list (pe_split (pv 0) pe_str)) (blkOk_by (N := nRd) (sc := defScope sRd) (by decide +kernel)) (fun _ _ _ _ _ => (pg_name (i := 6) scRd.nd rfl (Or.inl rfl))) (fun _ _ _ _ _ => pts_nil) (fun _ _ _ _ _ => (pe_split (pv 6) pe_str)))
      (pss_cons (ps_for PassesOwn.never rfl (pi_enum (by rfl) T.enumerate (pa_cons (pv 1) pa_nil)) (pg_tup rfl (pgs_cons (pg_name (i := 2) scRd.nd rfl (Or.inl rfl)) (pgs_cons (pg_name (i := 3) scRd.nd rfl (Or.inl rfl)) pgs_nil)))
          (pss_one (ps_if (pt_not (pt_val (pe_call GIl (hr.mono (by first | omega | decide)) (by rfl) cIl.m cIl.F.kp cIl.b .nil pass0 (pa_cons (pv 3) (pa_cons (pv 2) pa_nil)))))
              (pss_one ps_never)
              pss_nil)))
      (pss_cons (ps_set (i := 4) scRd.nd rfl (Or.inl rfl) (pe_callTy call_tuple_of (by rfl) T.tuple (by decide +kernel) (pa_cons (pe_lc (own := [("word", 7)]) (g := gName 7) (tt := tYes) rfl scRd.nd (pi_list (pe_slice sl_list (pe_ix ix_list (pv 1) pe_int (fun _ _ => rfl)) (po_some pe_int) po_none)) (blkOk_by (N := nRd) (sc := defScope sRd) (by decide +kernel)) (fun _ _ _ _ _ => (pg_name (i := 7) scRd.nd rfl (Or.inl rfl))) (fun _ _ _ _ _ => pts_nil) (fun _ _ _ _ _ => (pe_callTy call_int_str (by rfl) T.int (by decide +kernel) (pa_cons (pv 7) pa_nil)))) pa_nil)))
      (pss_cons (ps_set (i := 5) scRd.nd rfl (Or.inl rfl) (pe_tup (pa_cons (pv 4) (pa_cons (pe_callTy call_tuple_of (by rfl) T.tuple (by decide +kernel) (pa_cons (pe_lc (own := [("words", 3)]) (g := gName 3) (tt := tYes) rfl scRd.nd (pi_list (pe_slice sl_list (pv 1) (po_some pe_int) po_none)) (blkOk_by (N := nRd) (sc := defScope sRd) (by decide +kernel)) (fun _ _ _ _ _ => (pg_name (i := 3) scRd.nd rfl (Or.inl rfl))) (fun _ _ _ _ _ => pts_nil) (fun _ _ _ _ _ => (pe_call GRo (hr.mono (by first | omega | decide)) (by rfl) cRo.m cRo.F.kp cRo.b .nil pass0 (pa_cons (pv 3) pa_nil)))) pa_nil)) pa_nil))))
      (pss_cons (ps_expr (pe_call GCheckProgram (hr.mono (by first | omega | decide)) (by rfl) cCheckProgram.m cCheckProgram.F.kp cCheckProgram.b .nil pass0 (pa_cons (pv 5) pa_nil)))
      (pss_one (ps_ret (pv 5)))))))), ?_⟩
    obtain ⟨t5, tsp⟩ := text_ok g
    obtain ⟨lk, l41⟩ := lines_ok g
    rw [linesF_qs] at lk l41
    rw [List.length_map] at l41
    have tsp : Txt.split (textF p) "\n" = (qsF p).map fun q => Txt.join " " (lineF q.1 q.2) := by
      rw [tsp, linesF_qs, List.map_map]
      rfl
    refine ⟨_, rfl, ⟨_, rfl⟩, _, _, rfl, rfl, rfl, by rw [sizeLine_eq]; omega, fun l0 hl0 => ?_⟩
    rw [tsp]
    refine alloc hl0 fun H1 s1 e1 => ?_
    refine ⟨l0, rfl, ⟨_, SqL.of e1⟩, fun D hD => ?_⟩
    refine lc_list (K := K) (a := l0) (xs := ((qsF p).map fun q => Txt.join " " (lineF q.1 q.2)).map V.str) (fun j H' => ∃ ls : List Addr, Same1 H1 H' ∧ H' D = some (.lst (ls.map V.ref)) ∧ SplAt D H' ls ((qsF p).take j)) ⟨[], Same.new hD, upd_same, .nil⟩ (fun j H' _ ⟨_, q, _⟩ => SqL.of (q _ _ e1)) ?_ ?_
    · rintro j v H2 hj ⟨ls, s2, hd2, hs2⟩
      rw [List.getElem?_map, List.getElem?_map] at hj
      cases hq : (qsF p)[j]? with
      | none => rw [hq] at hj; cases hj
      | some q =>
        rw [hq] at hj
        have e : V.str (Txt.join " " (lineF q.1 q.2)) = v := Option.some.inj hj
        subst e
        have hln : LnOk (lineF q.1 q.2) := lk _ (List.mem_map.mpr ⟨q, List.mem_of_getElem? hq, rfl⟩)
        obtain ⟨j1, _, j3⟩ := hln.join
        have hll := Paired.length hs2
        rw [List.length_take] at hll
        refine ⟨rfl, _, rfl, ⟨_, rfl⟩, _, _, rfl, rfl, rfl, by rw [sizeLine_eq]; omega, fun l hl => ?_⟩
        rw [j3]
        refine alloc hl fun H3 s3 e3 => ?_
        have hd3 := s3 _ _ hd2
        have nlD : l ≠ D := fun z => by rw [z, hd2] at hl; cases hl
        refine ⟨_, hd3, szl (by rw [List.length_map]; omega), ls ++ [l], Same.mut (s2.trans s3) hD, by rw [upd_same, List.map_append]; rfl, ?_⟩
        rw [List.take_add_one, hq]
        exact SplAt.upd (Paired.app (SplAt.same hs2 s3) (Paired.one ⟨nlD, e3⟩))
    rintro H2 ⟨ls, s2, hd2, hs2⟩
    rw [List.length_map, List.length_map, List.take_length] at hs2
    have S2 := s1.trans s2
    have hll := Paired.length hs2
    dsimp only [gName]
    refine ⟨_, rfl, D, _, rfl, SqL.of hd2, DLR.for_enumL (K := K) (a := D) (xs := ls.map V.ref) (fun i σ H' => ∃ (x2 x3 : Option V), σ = [some (.str (textF p)), some (.ref D), x2, x3, none, none, none, none] ∧ Same1 H2 H') ⟨none, none, rfl, Same.refl _⟩ (fun i σ H' ⟨_, _, _, q⟩ => SqL.of (q _ _ hd2)) ?_ ?_⟩
    · rintro i x T' σ H3 hi ⟨x2, x3, rfl, s3⟩ hT'
      have hic : i < ls.length := by
        have q := (List.getElem?_eq_some_iff.mp hi).1
        rwa [List.length_map] at q
      have ex : x = .ref ls[i] := by
        rw [List.getElem?_map, List.getElem?_eq_getElem hic] at hi
        exact (Option.some.inj hi).symm
      subst ex
      obtain ⟨q, hq1, _, hq2⟩ := Paired.get hs2 (List.getElem?_eq_getElem hic)
      obtain ⟨c1, c2, c3⟩ := qs_line g hq1
      refine alloc hT' fun H4 s4 e4 => ?_
      refine ⟨T', _, rfl, SqT.of e4, rfl, _, _, rfl, _, _, rfl, rfl, ?_⟩
      refine ⟨_, rfl, _, rfl, ls[i], q.1, q.2, i, rfl, (s3.trans s4) _ _ hq2, c1, by omega, c3, fun H5 s5 => ?_⟩
      exact ⟨_, rfl, iteF ⟨_, _, rfl, (s3.trans s4).trans s5⟩⟩
    rintro σ H3 ⟨x2, x3, rfl, s3⟩
    dsimp only
    obtain ⟨l1, lr, rfl, ⟨n1, h1⟩, hr⟩ : ∃ l1 lr, ls = l1 :: lr ∧ (l1 ≠ D ∧ H2 l1 = some (.lst ((lineF "worths" p.ws).map V.str))) ∧ SplAt D H2 lr (p.rows.map fun r => (r.word, (numsR r).map fun n : Nat => (n : Int))) := by
      unfold qsF at hs2
      cases hs2 with
      | cons a b => exact ⟨_, _, rfl, a, b⟩
    have hsw : smallI p.ws := qs_small g _ List.mem_cons_self
    have hw8 := g.w8
    have r40 := g.r40
    refine ⟨_, rfl, D, _, _, _, rfl, rfl, SqL.of (s3 _ _ hd2), at0, _, rfl, l1, _, rfl, SqL.of (s3 _ _ h1), fun la hla => ?_⟩
    refine alloc hla fun H4 s4 e4 => ?_
    have e4 : H4 la = some (.lst ((p.ws.map numS).map V.str)) := e4.trans (congrArg (fun z => some (HO.lst z)) (dropU 1 (xs := V.str "worths" :: (p.ws.map numS).map V.str)))
    refine ⟨la, rfl, ⟨_, SqL.of e4⟩, fun D2 hD2 => ?_⟩
    refine lc_list (K := K) (a := la) (xs := (p.ws.map numS).map V.str) (fun j H' => Same1 H4 H' ∧ H' D2 = some (.lst ((p.ws.take j).map V.int))) ⟨Same.new hD2, upd_same⟩ (fun j H' _ ⟨q, _⟩ => SqL.of (q _ _ e4)) ?_ ?_
    · rintro j v H5 hj ⟨s5, hd5⟩
      rw [List.getElem?_map, List.getElem?_map] at hj
      cases hz : p.ws[j]? with
      | none => rw [hz] at hj; cases hj
      | some i =>
        rw [hz] at hj
        have e : V.str (numS i) = v := Option.some.inj hj
        subst e
        have hi := hsw i (List.mem_of_getElem? hz)
        refine ⟨rfl, _, rfl, _, i, rfl, num_back hi, by rw [len_tl, tl_numS]; have := (sgnL_len hi).2.2; omega, ?_⟩
        refine ⟨_, hd5, szl (by rw [List.length_map, List.length_take]; omega), Same.mut s5 hD2, ?_⟩
        rw [upd_same, List.take_add_one, hz, List.map_append]
        rfl
    rintro H5 ⟨s5, hd5⟩
    rw [List.length_map, List.length_map, List.take_length] at hd5
    refine ⟨D2, _, rfl, .inl ⟨SqL.of hd5, fun wt hwt => ?_⟩⟩
    refine alloc hwt fun H6 s6 e6 => ?_
    dsimp only [gName]
    have s26 : Same1 H2 H6 := ((s3.trans s4).trans s5).trans s6
    refine ⟨_, rfl, _, rfl, _, rfl, D, _, rfl, SqL.of (s26 _ _ hd2), fun lb hlb => ?_⟩
    refine alloc hlb fun H7 s7 e7 => ?_
    have e7 : H7 lb = some (.lst (lr.map V.ref)) := e7.trans (congrArg (fun z => some (HO.lst z)) (dropU 1 (xs := (l1 :: lr).map V.ref)))
    have hr7 := SplAt.same hr (s26.trans s7)
    have hlr := Paired.length hr
    rw [List.length_map] at hlr
    refine ⟨lb, rfl, ⟨_, SqL.of e7⟩, fun D3 hD3 => ?_⟩
    refine lc_list (K := K) (a := lb) (xs := lr.map V.ref) (fun j H' => ∃ ts : List Addr, Same1 H7 H' ∧ H' D3 = some (.lst (ts.map V.ref)) ∧ LinesAt H' ts ((p.rows.map fun r => (r.word, (numsR r).map fun n : Nat => (n : Int))).take j)) ⟨[], Same.new hD3, upd_same, .nil⟩ (fun j H' _ ⟨_, q, _⟩ => SqL.of (q _ _ e7)) ?_ ?_
    · rintro j x H8 hj ⟨ts, s8, hd8, ht8⟩
      have hic : j < lr.length := by
        have q := (List.getElem?_eq_some_iff.mp hj).1
        rwa [List.length_map] at q
      have ex : x = .ref lr[j] := by
        rw [List.getElem?_map, List.getElem?_eq_getElem hic] at hj
        exact (Option.some.inj hj).symm
      subst ex
      obtain ⟨q, hq1, _, hq2⟩ := Paired.get hr7 (List.getElem?_eq_getElem hic)
      obtain ⟨c1, c2, _⟩ := qs_line g (i := j + 1) (q := q) hq1
      have htl := Paired.length ht8
      rw [List.length_take] at htl
      refine ⟨rfl, _, rfl, lr[j], q.1, q.2, rfl, s8 _ _ hq2, c1, by omega, fun t H9 s9 e9 => ?_⟩
      have hd9 := s9 _ _ hd8
      refine ⟨_, hd9, szl (by rw [List.length_map]; omega), ts ++ [t], Same.mut (s8.trans s9) hD3, by rw [upd_same, List.map_append]; rfl, ?_⟩
      rw [List.take_add_one, hq1]
      exact Paired.mapP (Paired.app (Paired.mapP ht8 fun b z h => s9 _ _ h) (Paired.one e9)) fun b z h => Kp.lst hd9 _ _ h
    rintro H8 ⟨ts, s8, hd8, ht8⟩
    rw [List.length_map, hlr, ← List.length_map (as := p.rows) (f := fun r : Row => (r.word, (numsR r).map fun n : Nat => (n : Int))), List.take_length] at ht8
    refine ⟨D3, _, rfl, .inl ⟨SqL.of hd8, fun rt hrt => ?_⟩⟩
    refine alloc hrt fun H9 s9 e9 => ?_
    refine ⟨(by show 2 ≤ sizeLine; decide), fun pt hpt => ?_⟩
    refine alloc hpt fun H10 s10 e10 => ?_
    dsimp only [gName]
    have s610 : Same1 H6 H10 := ((s7.trans s8).trans s9).trans s10
    have hP : ProgAt H10 pt p := ⟨wt, rt, ts, e10, s610 _ _ e6, s10 _ _ e9, rows_linesAt (Paired.mapP ht8 fun b z h => (s9.trans s10) _ _ h)⟩
    refine ⟨_, rfl, pt, p, rfl, hP, g, fun H11 s11 => ?_⟩
    exact ⟨_, rfl, k pt H11 (((S2.trans s26).trans s610).trans s11) (hP.kp (Kp.same s11))⟩
end
end DL
namespace DLR
open PySem PySem.Spec PyProof.Rows L2 LamX
/-! ### a lambda as a value: with or without one default, kept in lists, called later by a def that gets it -/
abbrev lamFd (q : Str) (ps : Arguments) (b : Expr) (sc : Scope) (cl : List (Str × Addr)) (dV doc pm cdv ct : Value) : FuncData := PySem.W.kdv_fn "<lambda>" q ps (.expr b) sc cl dV doc pm cdv ct
abbrev lamOb (q : Str) (ps : Arguments) (b : Expr) (sc : Scope) (cl : List (Str × Addr)) (dV doc pm : Value) (c' : Addr) (ct : Value) : Obj := PySem.W.kdv_obj "<lambda>" q ps (.expr b) sc cl dV doc pm c' ct
def LamO (f : Addr) (o : Obj) : HO := .ext fun h => h.get? f = some o
theorem lamO_ne {f : Addr} {o : Obj} (ps : Array Value) : LamO f o ≠ .tbl ps := fun z => by
  unfold LamO at z
  cases z
section
variable {X : Cx} {pins : List (Addr × Obj)} {σ : L2.St} {H : Hp} {s : Shared}
theorem tabs_more {T : List (Addr × Str)} {P c' : Addr} {q : Str} {pos : Pos} {ps : Array Value} (hT : Tabs T H) (hP : H P = some (.tbl ps)) (ht : TriplesOk ps.toList) (hu : ∀ p ∈ T, p.1 = P → p.2 = q)
    (ha : ∀ (pos : Pos) (cv : Value), codeAmong pos ps.toList = some cv → ∃ c, cv = .ref c ∧ H c = some (CodeO c q)) (nC : H c' = none) :
    ExtN H (upd (upd H P (.tbl (ps ++ #[rawInt pos.line, rawInt pos.col, .ref c']))) c' (CodeO c' q)) ∧ Tabs T (upd (upd H P (.tbl (ps ++ #[rawInt pos.line, rawInt pos.col, .ref c']))) c' (CodeO c' q)) := by
  have nPc : P ≠ c' := ne_of_none hP nC
  have ext : ExtN H (upd (upd H P (.tbl (ps ++ #[rawInt pos.line, rawInt pos.col, .ref c']))) c' (CodeO c' q)) := fun b o e n => by
    have n1 : b ≠ c' := ne_of_none e nC
    have n2 : b ≠ P := fun z => by
      subst z
      exact n ps (Option.some.inj (e.symm.trans hP))
    rw [upd_ne n1, upd_ne n2, e]
  refine ⟨ext, fun p hp => ?_⟩
  have eL : (ps ++ #[rawInt pos.line, rawInt pos.col, .ref c']).toList = ps.toList ++ [rawInt pos.line, rawInt pos.col, .ref c'] := by simp
  by_cases hb : p.1 = P
  · refine ⟨ps ++ #[rawInt pos.line, rawInt pos.col, .ref c'], ?_, ?_, fun p' cv hcv => ?_⟩
    · rw [hb, upd_ne nPc, upd_same]
    · rw [eL]
      exact PySem.TriplesOk_snoc _ _ _ _ ht
    · rw [eL] at hcv
      rw [hu p hp hb]
      rcases among_app _ ht hcv with z | rfl
      · obtain ⟨c0, rfl, e2⟩ := ha p' cv z
        exact ⟨c0, rfl, ext _ _ e2 codeO_ne⟩
      · exact ⟨c', rfl, upd_same⟩
  · obtain ⟨ps', a1, a2, a3⟩ := hT p hp
    refine ⟨ps', ?_, a2, fun p' cv hcv => ?_⟩
    · rw [upd_ne (ne_of_none a1 nC), upd_ne hb, a1]
    · obtain ⟨c0, rfl, e2⟩ := a3 p' cv hcv
      exact ⟨c0, rfl, ext _ _ e2 codeO_ne⟩
theorem lam_tail {T : List (Addr × Str)} {c P : Addr} {params : Arguments} {body : Expr} {scope : Scope} {pos : Pos} {E : Value → Shared → Prop} {Q : Value → Shared → Prop} {dV : Value} (I : Inv X pins σ H s) (TB : TabB X.base X.mg c P) (hcode : X.env.code = .ref c)
    (hm : (P, X.env.qual ++ "<lambda>") ∈ T) (hu : ∀ p ∈ T, p.1 = P → p.2 = X.env.qual ++ "<lambda>") (hT : Tabs T H) (hfree : ∀ y ∈ scope.names, y.2 = .free → ∃ c, X.env.cells.lookup y.1 = some c)
    (h : ∀ (f c' : Addr) (doc pm ctv : Value) (H1 : Hp) (s' : Shared), Inv X pins σ H1 s' → ExtN H H1 → Tabs T H1 → H f = none →
      H1 f = some (LamO f (lamOb (X.env.qual ++ "<lambda>") params body scope (cloFrom X.env.cells scope.names []) dV doc pm c' ctv)) → H1 c' = some (CodeO c' (X.env.qual ++ "<lambda>")) → Q (.ref f) s') :
    wpAny (model X.prog X.w) X.A (makeTail "<lambda>" (X.env.qual ++ "<lambda>") params (.expr body) scope X.env dV .none none pos pos.line) Q E s := by
  obtain ⟨ps, hP, ht, ha⟩ := hT _ hm
  have bP : s.heap.BuiltinsAt X.mg P := TB.bm.keeps I.bk
  have hP' : s.heap.get? P = some { cls := .none, data := .fields ps } := I.hok P _ hP
  have fin : ∀ (h' : Heap) (tk tk2 : Nat) (H' : Hp) (c' : Addr) (doc pm ctv : Value), s.heap.objs.size ≤ h'.objs.size → Inv X pins σ H' { s with heap := h', toks := tk } → ExtN H H' → Tabs T H' → H' c' = some (CodeO c' (X.env.qual ++ "<lambda>")) →
      Q (.ref h'.objs.size) { s with heap := h'.push (lamOb (X.env.qual ++ "<lambda>") params body scope (cloFrom X.env.cells scope.names []) dV doc pm c' ctv), toks := tk2 } := by
    intro h' tk tk2 H' c' doc pm ctv hsz J e1 t1 hc
    have nF : H' h'.objs.size = none := J.hok.fresh (Nat.le_refl _)
    have J2 := J.laid (a := h'.objs.size) (o := LamO h'.objs.size (lamOb (X.env.qual ++ "<lambda>") params body scope (cloFrom X.env.cells scope.names []) dV doc pm c' ctv))
      (h' := h'.push (lamOb (X.env.qual ++ "<lambda>") params body scope (cloFrom X.env.cells scope.names []) dV doc pm c' ctv)) (t' := tk2)
      (fun b u e => Heap.get?_push_of_some _ e) (Nat.le_refl _) ⟨Heap.get?_push_size _ rfl, ⟨_, Heap.get?_push_size _ rfl⟩, fun h1 h2 p st => st _ p⟩
    have st : ∀ b o, H' b = some o → upd H' h'.objs.size (LamO h'.objs.size (lamOb (X.env.qual ++ "<lambda>") params body scope (cloFrom X.env.cells scope.names []) dV doc pm c' ctv)) b = some o := fun b o e => by
      rw [upd_ne (ne_of_none e nF), e]
    exact h _ c' doc pm ctv _ _ J2 (e1.trans (ExtN.of st)) (t1.ext st) (I.hok.fresh hsz) upd_same (st _ _ hc)
  cases hc : codeAmong pos ps.toList with
  | none =>
    refine PySem.W.kdv_makeTail (mg := X.mg) (c := c) (P := P) (ps := ps) (closure_ok hfree) I.ok.glob (I.mod.glob.keeps I.bk) hcode (TB.code.keeps I.bk) hP' ht hc TB.gP bP fun c' ctv doc h' tk hx hge hlt hrec htb => ?_
    obtain ⟨c2, oc, vs, t, e2, hoc, hd, hv⟩ := hrec
    cases e2
    have nC : H c' = none := I.hok.fresh hge
    obtain ⟨x1, x2⟩ := tabs_more (pos := pos) hT hP ht hu ha nC
    exact fin h' tk tk _ c' doc _ ctv (Nat.le_trans hge (Nat.le_of_lt hlt)) (inv_table (t' := tk) (more := #[rawInt pos.line, rawInt pos.col, .ref c']) I hP hx htb hge ⟨oc, vs, t, hoc, hd, hv⟩) x1 x2 upd_same
  | some cv =>
    obtain ⟨c', rfl, hco⟩ := ha pos cv hc
    refine PySem.W.kdv_makeTailHit (mg := X.mg) (c := c) (P := P) (ps := ps) (closure_ok hfree) I.ok.glob (I.mod.glob.keeps I.bk) hcode (TB.code.keeps I.bk) hP' ht hc bP fun ctv doc h' tk hx hsz => ?_
    exact fin h' s.toks tk H c' doc _ ctv hsz (I.kept (t' := s.toks) hx) (ExtN.refl H) hT hco
end
structure LamN (N : List Str) (sc scope : Scope) : Prop where
  kind : scope.kind = .function
  co : scope.isCoroutine = false
  gen : scope.isGenerator = false
  own : ∀ y ∈ scope.names, y.2 ≠ .cell ∧ (y.2 = .local → y.1 ∉ N)
  free : ∀ y ∈ scope.names, y.2 = .free → sc.names.lookup y.1 = some .cell ∨ sc.names.lookup y.1 = some .free
def lamNB (N : List Str) (sc scope : Scope) : Bool :=
  decide (scope.kind = .function) && !scope.isCoroutine && !scope.isGenerator && scope.names.all fun y => !decide (y.2 = .cell) && (!decide (y.2 = .local) || !decide (y.1 ∈ N)) && (!decide (y.2 = .free) || decide (sc.names.lookup y.1 = some .cell) || decide (sc.names.lookup y.1 = some .free))
theorem lamN_by {N : List Str} {sc scope : Scope} (h : lamNB N sc scope = true) : LamN N sc scope := by
  unfold lamNB at h
  simp only [Bool.and_eq_true, Bool.or_eq_true, Bool.not_eq_true', decide_eq_true_eq, decide_eq_false_iff_not, List.all_eq_true] at h
  obtain ⟨⟨⟨h1, h2⟩, h3⟩, h4⟩ := h
  refine ⟨h1, h2, h3, fun y hy => ⟨(h4 y hy).1.1, fun e => ?_⟩, fun y hy e => ?_⟩
  · rcases (h4 y hy).1.2 with z | z
    · exact absurd e z
    · exact z
  · rcases (h4 y hy).2 with (z | z) | z
    · exact absurd e z
    · exact .inl z
    · exact .inr z
theorem LamN.has {X : Cx} {N : List Str} {scope : Scope} (L : LamN N X.env.scope scope) (ok : X.Ok) : ∀ y ∈ scope.names, y.2 = .free → ∃ c, X.env.cells.lookup y.1 = some c := fun y hy e => by
  rcases L.free y hy e with k | k
  · exact ok.has _ (.inl k)
  · exact ok.has _ (.inr k)
def dvOf : Option Addr → Value
  | none => .none
  | some T => .ref T
def DvAt (H : Hp) : Option Addr → Prop
  | none => True
  | some T => H T = some (.tup [.int 0])
def LamB (q : Str) (ps : Arguments) (b : Expr) (sc : Scope) : Option Addr → Prop
  | none => ∀ (cl : List (Str × Addr)) (doc pm cdv ct : Value), bindArgs (lamFd q ps b sc cl .none doc pm cdv ct) ⟨[], []⟩ = pure []
  | some T => ∃ a, sc.names.lookup a = some .local ∧ ∀ (cl : List (Str × Addr)) (doc pm cdv ct u : Value), ∃ k, bindArgs (lamFd q ps b sc cl (.ref T) doc pm cdv ct) ⟨[], []⟩ = seqItems? (.ref T) >>= k ∧ k (some #[u]) = pure [(a, u)]
abbrev lamEn (q : Str) (scope : Scope) (cl : List (Str × Addr)) (L f c' : Addr) : Env := PySem.W.envX q scope L f (.ref c') cl
def lamC (P : Program) (w : World) (K : PySem.W.Frag) (mg : Str → Option Value) (base : Heap) (N : List Str) (q : Str) (cl : List (Str × Addr)) (A : Around) (outer : List Env) (s : Shared) (H : Hp) (E : XK) (scope : Scope) (f c' : Addr) : Cx where
  prog := P
  w := w
  K := K
  mg := mg
  base := base
  A := A.deeper (lamEn q scope cl s.heap.objs.size f c')
  N := N
  s_0 := s
  H_0 := H
  env := lamEn q scope cl s.heap.objs.size f c'
  outer := outer
  stack := lamEn q scope cl s.heap.objs.size f c' :: outer
  ex := []
  fn := fun _ => false
  calm := true
  pn := []
  xe := fun e s' => wpAny (model P w) (A.deeper (lamEn q scope cl s.heap.objs.size f c')) (leaving (lamEn q scope cl s.heap.objs.size f c') e) (fun _ s'' => L2.CX P w outer H s E e s'') (fun e' s'' => L2.CX P w outer H s E e' s'') s'
structure CloAt (N : List Str) (cl : List (Str × Addr)) (scope : Scope) (σ : L2.St) (H : Hp) (h : Heap) : Prop where
  len : σ.length = N.length
  own : ∀ y ∈ scope.names, y.2 ≠ .cell ∧ (y.2 = .local → y.1 ∉ N)
  kind : scope.kind = .function
  inj : ∀ x y c, cl.lookup x = some c → cl.lookup y = some c → x = y
  has : ∀ y, scope.names.lookup y = some .free → ∃ c, cl.lookup y = some c
  cell : ∀ y c, cl.lookup y = some c → H c = none ∧ ∃ v, h.IsCell c v
  val : ∀ (i : Nat) (y : Str) (v : V), N[i]? = some y → σ[i]? = some (some v) → scope.names.lookup y = some .free → ∃ c u, cl.lookup y = some c ∧ h.IsCell c (some u) ∧ RelV v u
section
variable {P : Program} {w : World} {K : PySem.W.Frag} {mg : Str → Option Value} {base : Heap}
theorem lam_enter {N : List Str} {q : Str} {cl : List (Str × Addr)} {A : Around} {outer : List Env} {E : XK} {scope : Scope} {f c' : Addr} {h₁ : Heap} {tk : Nat} {σ : L2.St} {H : Hp} {s : Shared} {m : Str → Option Value}
    (C : CloAt N cl scope σ H s.heap) (e0 : Env0 P w K mg base A outer s H) (hd : A.handled = none) (hns : h₁.Ns s.heap.objs.size m) (kp : ∀ b o, s.heap.get? b = some o → h₁.get? b = some o) :
    Inv (lamC P w K mg base N q cl A outer s H E scope f c') [] σ H { s with heap := h₁, toks := tk } := by
  have noA : ∀ b : Addr, b ∉ (lamC P w K mg base N q cl A outer s H E scope f c').ex := fun b z => absurd (show b ∈ ([] : List Addr) from z) (by simp)
  have up : ∀ {c : Addr} {v : Option Value}, s.heap.IsCell c v → h₁.IsCell c v := fun {c v} ⟨o, ho, hc⟩ => ⟨o, kp _ _ ho, hc⟩
  have nocell : ∀ {y}, scope.names.lookup y = some .cell → False := fun {y} k => (C.own _ (PySem.mem_of_lookup k)).1 rfl
  have okk : (lamC P w K mg base N q cl A outer s H E scope f c').Ok := by
    refine ⟨e0.mod, C.kind, rfl, rfl, Nat.le_refl _, C.inj, fun y hy => ?_, fun y c z _ => ?_, fun _ => hd, Around.frames_deeper e0.frames, .inr ⟨rfl, rfl⟩, fun b z => absurd z (noA b), e0.bs, e0.bsz, fun b _ _ => noA b, fun b z => absurd z (noA b), e0.funs, e0.frf⟩
    · rcases (show scope.names.lookup y = some .cell ∨ scope.names.lookup y = some .free from hy) with k | k
      · exact (nocell k).elim
      · exact C.has y k
    · cases (show false = true from z)
  refine ⟨okk, rfl, e0.bare, Un.kept kp, ⟨_, hns, fun i y v e1 e2 e3 => ?_⟩, fun y c e => ?_, e0.hok.fresh (Nat.le_refl _), fun y c e => (C.cell y c e).1, fun p hp => absurd (show p ∈ ([] : List (Addr × Obj)) ++ [] from hp) (by simp), e0.hok.kept kp, C.len⟩
  · rcases (show Vis scope y from e3) with k | k | k
    · exact absurd (List.mem_of_getElem? e1) ((C.own _ (PySem.mem_of_lookup k)).2 rfl)
    · exact (nocell k).elim
    · obtain ⟨c, u, h1, h2, r⟩ := C.val i y v e1 e2 k
      exact ⟨u, r, .inr ⟨.inr k, c, h1, up h2⟩⟩
  · obtain ⟨_, v, z⟩ := C.cell y c e
    exact ⟨v, up z⟩
theorem CloAt.here {X : Cx} {pins : List (Addr × Obj)} {σ : L2.St} {H : Hp} {s : Shared} {scope : Scope} (I : Inv X pins σ H s) (L : LamN X.N X.env.scope scope) : CloAt X.N (cloFrom X.env.cells scope.names []) scope σ H s.heap := by
  have hfree := L.has I.ok
  have cm : ∀ {y c}, (cloFrom X.env.cells scope.names []).lookup y = some c → X.env.cells.lookup y = some c := fun {y c} e => by
    rcases cloFrom_mem (PySem.mem_of_lookup e) with hm | ⟨h1, h2⟩
    · cases hm
    · obtain ⟨c1, hc⟩ := hfree _ h1 rfl
      have hc : X.env.cells.lookup y = some c1 := hc
      have e2 : c = c1 := by
        rw [h2, hc] <;> rfl
      rw [e2, hc]
  have look : ∀ {y}, scope.names.lookup y = some .free → ∃ c, (cloFrom X.env.cells scope.names []).lookup y = some c := fun {y} hl => mem_lookup (cloFrom_has (cells := X.env.cells) (acc := []) (PySem.mem_of_lookup hl))
  refine ⟨I.len, L.own, L.kind, fun x y c a b => I.ok.inj x y c (cm a) (cm b), fun y k => look k, fun y c e => ⟨I.freeC y c (cm e), I.cell y c (cm e)⟩, fun i y v e1 e2 k => ?_⟩
  obtain ⟨m, _, hl⟩ := I.loc
  have hk := L.free _ (PySem.mem_of_lookup k) rfl
  obtain ⟨u, r, z⟩ := hl i y v e1 e2 (hk.elim (fun k => .inr (.inl k)) fun k => .inr (.inr k))
  obtain ⟨c, h2⟩ := look k
  rcases z with ⟨k1, _⟩ | ⟨_, c3, e3, z⟩
  · have k1 : X.env.scope.names.lookup y = some .local := k1
    rcases hk with k2 | k2 <;> rw [show X.env.scope.names.lookup y = _ from k2] at k1 <;> cases k1
  · rw [cm h2] at e3
    cases e3
    exact ⟨c, u, h2, z, r⟩
theorem CloAt.un {N : List Str} {cl : List (Str × Addr)} {scope : Scope} {σ : L2.St} {H H' : Hp} {h h' : Heap} {fs : List Addr} (C : CloAt N cl scope σ H h) (u : Un fs [] H H' h h') : CloAt N cl scope σ H' h' := by
  have ck : ∀ {c : Addr} {v : Option Value}, H c = none → h.IsCell c v → h'.IsCell c v := fun {c v} n ⟨o, ho, hd⟩ => by
    obtain ⟨sl, q⟩ := u.any ho n (by simp)
    exact ⟨_, q, hd⟩
  refine ⟨C.len, C.own, C.kind, C.inj, C.has, fun y c e => ?_, fun i y v e1 e2 k => ?_⟩
  · obtain ⟨n, v, o, ho, hd⟩ := C.cell y c e
    exact ⟨u.free c o ho n (by simp), v, ck n ⟨o, ho, hd⟩⟩
  · obtain ⟨c, x, h1, h2, r⟩ := C.val i y v e1 e2 k
    exact ⟨c, x, h1, ck (C.cell y c h1).1 h2, r⟩
structure LamP (P : Program) (w : World) (K : PySem.W.Frag) (mg : Str → Option Value) (base : Heap) (N : List Str) (q : Str) (cl : List (Str × Addr)) (scope : Scope) (o : Obj) (c' : Addr) (dT : Option Addr) (k : Nat) (t : XK → TE) : Prop where
  co : scope.isCoroutine = false
  gen : scope.isGenerator = false
  cells : ∀ y ∈ scope.names, y.2 ≠ .cell
  kind : scope.kind = .function
  ex : ∃ (params : Arguments) (body : Expr) (doc pm ctv : Value), o = lamOb q params body scope cl (dvOf dT) doc pm c' ctv ∧ LamB q params body scope dT ∧
    ∀ (A : Around) (outer : List Env) (s : Shared) (H : Hp) (E : XK) (f : Addr), Room k (A.deeper (lamEn q scope cl s.heap.objs.size f c')) → PE (lamC P w K mg base N q cl A outer s H E scope f c') body (t E)
theorem lam_binds {s : Shared} {H : Hp} {q : Str} {ps : Arguments} {b : Expr} {sc : Scope} {cl : List (Str × Addr)} {doc pm cdv ct : Value} {dT : Option Addr} (B : LamB q ps b sc dT) (hT : DvAt H dT) (hok : HOk P w H s.heap) :
    ∃ binds, (∀ y ∈ binds, sc.names.lookup y.1 = some .local) ∧ BindsTo s (lamFd q ps b sc cl (dvOf dT) doc pm cdv ct) ⟨[], []⟩ binds := by
  cases dT with
  | none => exact ⟨[], fun y hy => absurd hy (by simp), BindsTo.of_eq (B cl doc pm cdv ct)⟩
  | some T =>
    obtain ⟨a, ha, hB⟩ := B
    obtain ⟨_, its, r, ob, e1, e2, n, e3⟩ := hok T _ hT
    match its, r with
    | [u], _ =>
      obtain ⟨k, k1, k2⟩ := hB cl doc pm cdv ct u
      refine ⟨[(a, u)], fun y hy => by rw [List.mem_singleton.mp hy]; exact ha, ?_⟩
      exact BindsTo.of_defaults (T := T) rfl e1 e3 k1 k2
end
end DLR
namespace DLR
open PySem PySem.Spec PyProof.Rows L2 LamX
def LamV (X : Cx) (k : Nat) (H : Hp) (v : V) (t : XK → TE) : Prop :=
  ∃ (f c' : Addr) (o : Obj) (scope : Scope) (dT : Option Addr), v = .ref f ∧ H f = some (LamO f o) ∧ H c' = some (CodeO c' (X.env.qual ++ "<lambda>")) ∧ DvAt H dT ∧ LamN X.N X.env.scope scope ∧
    LamP X.prog X.w X.K X.mg X.base X.N (X.env.qual ++ "<lambda>") (cloFrom X.env.cells scope.names []) scope o c' dT k t
theorem codeO_lst {c : Addr} {q : Str} (ps : List V) : CodeO c q ≠ .lst ps := fun z => by
  unfold CodeO at z
  cases z
theorem lamO_lst {f : Addr} {o : Obj} (ps : List V) : LamO f o ≠ .lst ps := fun z => by
  unfold LamO at z
  cases z
theorem LamV.keep {X : Cx} {k : Nat} {H H' : Hp} {v : V} {t : XK → TE} (L : LamV X k H v t) (h : ∀ b o, H b = some o → (∀ ps, o ≠ .tbl ps) → (∀ xs, o ≠ .lst xs) → H' b = some o) : LamV X k H' v t := by
  obtain ⟨f, c', o, scope, dT, e1, e2, e3, e4, e5, e6⟩ := L
  refine ⟨f, c', o, scope, dT, e1, h _ _ e2 lamO_ne lamO_lst, h _ _ e3 codeO_ne codeO_lst, ?_, e5, e6⟩
  cases dT with
  | none => exact True.intro
  | some T => exact h _ _ e4 (fun ps z => by cases z) (fun xs z => by cases z)
section
variable {X : Cx}
def tMk (X : Cx) (k : Nat) (T : List (Addr × Str)) (t : XK → TE) : TE := fun _ H Q => Tabs T H ∧ ∀ v H1, ExtN H H1 → Tabs T H1 → LamV X k H1 v t → Q v H1
variable {T : List (Addr × Str)} {c P : Addr} {k : Nat} {params : Arguments} {body : Expr} {scope : Scope} {t : XK → TE} {lpos : Pos}
theorem LamN.p (L : LamN X.N X.env.scope scope) {dT : Option Addr} {dV doc pm ctv : Value} {c' : Addr} (e : dV = dvOf dT) (hbind : LamB (X.env.qual ++ "<lambda>") params body scope dT)
    (hbody : ∀ (A : Around) (outer : List Env) (s : Shared) (H : Hp) (E : XK) (f c' : Addr), Room k (A.deeper (lamEn (X.env.qual ++ "<lambda>") scope (cloFrom X.env.cells scope.names []) s.heap.objs.size f c')) →
      PE (lamC X.prog X.w X.K X.mg X.base X.N (X.env.qual ++ "<lambda>") (cloFrom X.env.cells scope.names []) A outer s H E scope f c') body (t E)) :
    LamP X.prog X.w X.K X.mg X.base X.N (X.env.qual ++ "<lambda>") (cloFrom X.env.cells scope.names []) scope (lamOb (X.env.qual ++ "<lambda>") params body scope (cloFrom X.env.cells scope.names []) dV doc pm c' ctv) c' dT k t := by
  subst e
  exact ⟨L.co, L.gen, fun y hy => (L.own y hy).1, L.kind, params, body, doc, pm, ctv, rfl, hbind, fun A outer s H E f hr => hbody A outer s H E f c' hr⟩
theorem pe_lam0 (TB : TabB X.base X.mg c P) (hcode : X.env.code = .ref c) (hmT : (P, X.env.qual ++ "<lambda>") ∈ T) (hu : ∀ p ∈ T, p.1 = P → p.2 = X.env.qual ++ "<lambda>") (L : LamN X.N X.env.scope scope) (hdef : defaultsOf params X.env = ([], []))
    (hbind : LamB (X.env.qual ++ "<lambda>") params body scope none)
    (hbody : ∀ (A : Around) (outer : List Env) (s : Shared) (H : Hp) (E : XK) (f c' : Addr), Room k (A.deeper (lamEn (X.env.qual ++ "<lambda>") scope (cloFrom X.env.cells scope.names []) s.heap.objs.size f c')) →
      PE (lamC X.prog X.w X.K X.mg X.base X.N (X.env.qual ++ "<lambda>") (cloFrom X.env.cells scope.names []) A outer s H E scope f c') body (t E)) :
    PE X (.Lambda params body scope lpos) (tMk X k T t) := by
  refine ⟨fun pins s σ H Q I h => ?_⟩
  obtain ⟨hT, h⟩ := h
  refine PySem.W.kla_eval hdef ?_
  rw [makeFunction_eq]
  simp only [List.zip_nil_right, List.filterMap_nil, List.isEmpty_nil, if_true, pure_bind]
  refine lam_tail I TB hcode hmT hu hT (L.has I.ok) fun f c' doc pm ctv H1 s' I1 eN T1 hf hfo hco => ?_
  exact ⟨.ref f, H1, I1, rfl, h _ H1 eN T1 ⟨f, c', _, scope, none, rfl, hfo, hco, True.intro, L, L.p rfl hbind hbody⟩⟩
theorem pe_lam1 {j : Nat} {p0 : Pos} (TB : TabB X.base X.mg c P) (hcode : X.env.code = .ref c) (hmT : (P, X.env.qual ++ "<lambda>") ∈ T) (hu : ∀ p ∈ T, p.1 = P → p.2 = X.env.qual ++ "<lambda>") (L : LamN X.N X.env.scope scope)
    (hps : params.defaults = [.Constant (.int 0) j p0]) (hk0 : params.kw_defaults = []) (hbind : ∀ D, LamB (X.env.qual ++ "<lambda>") params body scope (some D))
    (hbody : ∀ (A : Around) (outer : List Env) (s : Shared) (H : Hp) (E : XK) (f c' : Addr), Room k (A.deeper (lamEn (X.env.qual ++ "<lambda>") scope (cloFrom X.env.cells scope.names []) s.heap.objs.size f c')) →
      PE (lamC X.prog X.w X.K X.mg X.base X.N (X.env.qual ++ "<lambda>") (cloFrom X.env.cells scope.names []) A outer s H E scope f c') body (t E)) :
    PE X (.Lambda params body scope lpos) (tMk X k T t) := by
  refine ⟨fun pins s σ H Q I h => ?_⟩
  obtain ⟨hT, h⟩ := h
  refine PySem.W.kdv_lam (by rw [hps]; rfl) hk0 ?_
  rw [hps]
  refine PySem.W.kdv_all1 (thn ((pe_int (X := X) (i := 0) (j := j) (pos := p0)).run pins s σ H (fun v H1 => v = .int 0 ∧ H1 = H) I ⟨rfl, rfl⟩) fun u s1 ⟨v, H1, I1, r1, e1, e2⟩ => PySem.W.kdv_all0 ?_)
  subst e1 e2
  rw [makeFunction_eq]
  simp only [List.zip_nil_right, List.filterMap_nil, List.isEmpty_nil, if_true, pure_bind, List.isEmpty_cons, Bool.false_eq_true, if_false]
  refine wpAny_bind (wpAny_newTextTuple ?_)
  generalize hD : s1.heap.objs.size = D
  have nD : H1 D = none := I1.hok.fresh (Nat.le_of_eq hD)
  have hD' : (s1.heap.push { cls := .type "tuple", data := .seq [u].toArray }).get? D = some { cls := .type "tuple", data := .seq [u].toArray } := by
    rw [← hD]
    exact Heap.get?_push_size _ rfl
  have J : Inv X pins σ (upd H1 D (.tup [.int 0])) { s1 with heap := s1.heap.push { cls := .type "tuple", data := .seq [u].toArray } } :=
    I1.laid (t' := s1.toks) (fun b o e => Heap.get?_push_of_some _ e) (Nat.le_of_eq hD) ⟨by show 1 ≤ sizeLine; decide, [u], .cons r1 .nil, _, hD', rfl, _, rfl⟩
  have st : ∀ b o, H1 b = some o → upd H1 D (.tup [.int 0]) b = some o := fun b o e => by rw [upd_ne (ne_of_none e nD), e]
  refine lam_tail J TB hcode hmT hu (hT.ext st) (L.has J.ok) fun f c' doc pm ctv H2 s' I2 eN T2 hf hfo hco => ?_
  exact ⟨.ref f, H2, I2, rfl, h _ H2 ((ExtN.of st).trans eN) T2 ⟨f, c', _, scope, some D, rfl, hfo, hco, eN _ _ upd_same (fun ps z => by cases z), L, L.p rfl (hbind D) hbody⟩⟩
end
section
variable {X : Cx} {pins : List (Addr × Obj)} {σ : L2.St} {H : Hp} {s : Shared}
theorem lam_act {CXg : CXT} {Eg : XK} {Ng N : List Str} {qg q a : Str} {sg scope : Scope} {g f c' : Addr} {cdg : Value} {cl : List (Str × Addr)} {o : Obj} {dT : Option Addr} {t : XK → TE} {k i : Nat} {pn : List (Addr × Obj)} {xe : Value → Shared → Prop} {W : WX} {E : XK} {p1 p2 : Pos}
    (C : CloAt N cl scope σ H s.heap) (LP : LamP X.prog X.w X.K X.mg X.base N q cl scope o c' dT k t)
    (tk : Takes ((cxOf CXg X.prog X.w X.K X.mg X.base Ng qg sg g cdg X.A X.stack s H Eg).tr pn xe) W) (hW : ∀ cls d σ' H', E cls d H' → W cls d σ' H') (hr : Room (k + 1) (X.A.deeper (envOfC qg sg s.heap.objs.size g cdg)))
    (hN : Ng[i]? = some a) (hv : Vis sg a) (hd : (a == ("__debug__" : Str)) = false := by decide) (hcd : (a == ("__classdict__" : Str)) = false := by decide) :
    PE ((cxOf CXg X.prog X.w X.K X.mg X.base Ng qg sg g cdg X.A X.stack s H Eg).tr pn xe) (.Call (.Name a p1) [] [] p2)
      (fun σZ HZ Q => σZ[i]? = some (some (.ref f)) ∧ HZ c' = some (CodeO c' q) ∧ HZ f = some (LamO f o) ∧ DvAt HZ dT ∧ t E σ HZ Q) := by
  obtain ⟨lco, lgen, lcells, lkind, params, body, doc, pm, ctv, rfl, hB, hbody⟩ := LP
  refine ⟨fun pinsZ sZ σZ HZ Q IZ ⟨h1, h2, h3, h4, ht⟩ => ?_⟩
  refine wpAny_Call_Name_kw (thn ((pe_var (pos := p1) (i := i) hN hv hd hcd).run pinsZ sZ σZ HZ (fun v H1 => v = .ref f ∧ H1 = HZ) IZ ⟨.ref f, h1, rfl, rfl⟩) fun u s1 hu => ?_)
  obtain ⟨v, H1, I1, r1, rfl, rfl⟩ := hu
  cases r1
  obtain ⟨fo, _, _⟩ := I1.hok f _ h3
  obtain ⟨⟨oc, vs, tq, hoc, hdc, hvc⟩, _, _⟩ := I1.hok c' _ h2
  have C1 : CloAt N cl scope σ H1 s1.heap := C.un (show Un (frs X.stack) [] H H1 s.heap s1.heap from I1.base)
  obtain ⟨binds, b1, b2⟩ := lam_binds (s := s1) (cl := cl) (doc := doc) (pm := pm) (cdv := .ref c') (ct := ctv) hB h4 I1.hok
  refine PySem.W.callWith_F0 ⟨_, _, _, _, fo⟩ (wpAny_call (codeAny_mono (R := CR (L2.CX X.prog X.w) (envOfC qg sg s.heap.objs.size g cdg :: X.stack) X.prog X.w H1 s1 Q E) ?_ fun r s' hq => ?_))
  · refine PySem.W.kla_callFunE hr.depth fo rfl lco lgen rfl ⟨c', oc, vs, tq, rfl, hoc, hdc, hvc⟩ (b2 _ _ _ _ (wpAny_newFunctionEnv lcells b1 (fun h₁ hns hsb => ⟨I1.nolimit.fresh _ hsb, ?_⟩) lkind))
    have kp : ∀ b o, s1.heap.get? b = some o → h₁.get? b = some o := fun b o e => hsb.extBut b o (Nat.ne_of_lt (Heap.lt_size e)) (Heap.get?_push_of_some _ e)
    have J := lam_enter (q := q) (E := E) (f := f) (c' := c') (tk := s1.toks + binds.length) C1 I1.env0 hr.hd hns kp
    have run := (hbody _ _ s1 H1 E f (hr.deeper _)).run [] _ _ H1 Q J ht
    exact PySem.W.kla_codeExpr (wpAny_mono run (fun v s' ⟨w', H', J', rv, hq⟩ => ⟨w', H', J'.os, J'.bare, J'.base, J'.hok, rv, hq⟩) fun e s' hq => hq)
  · cases r with
    | error e => exact passes_call tk hW pinsZ σZ H1 s1 e s' I1 hq
    | ok fl =>
      cases fl with
      | ret u => exact I1.after hq
      | next => exact hq.elim
      | brk => exact hq.elim
      | cont => exact hq.elim
end
section
variable {X : Cx}
def tTold (X : Cx) (k : Nat) (TT : (XK → Hp → VK → Prop) → Hp → VK → Prop) (te : TE) : TE := fun σ H Q => te σ H fun v H1 => ∃ (f c' : Addr) (o : Obj) (scope : Scope) (dT : Option Addr) (t : XK → TE), v = .ref f ∧ H1 c' = some (CodeO c' (X.env.qual ++ "<lambda>")) ∧ LamN X.N X.env.scope scope ∧
  LamP X.prog X.w X.K X.mg X.base X.N (X.env.qual ++ "<lambda>") (cloFrom X.env.cells scope.names []) scope o c' dT k t ∧ TT (fun E H' Q' => H' f = some (LamO f o) ∧ DvAt H' dT ∧ t E σ H' Q') H1 Q
theorem pe_told {TT : (XK → Hp → VK → Prop) → Hp → VK → Prop} {x a : Str} {g : Addr} {k : Nat} {pg : Arguments} {bg : List Stmt} {sg : Scope} {dV kV doc pm cdv ct oc : Value} {an od : Option Addr} {osl : Array (Option Value)} {Ng : List Str} {e : Expr} {te : TE} {p pos : Pos}
    (hg : Gl X x) (hm : X.mg x = some (.ref g)) (hk : PySem.W.keepIn X.K (.ref g) = true) (lk : X.K.lookup g = some ⟨oc, od, .func (PySem.W.fnOf x x pg bg sg dV kV doc pm an cdv ct), osl⟩) (hcg : PySem.W.codeIn X.K cdv x = true)
    (hb : L2.Binds X.K (PySem.W.fnOf x x pg bg sg dV kV doc pm an cdv ct) [a] []) (Sg : FnScope Ng [a] sg) (hNg : Ng[0]? = some a) (hva : Vis sg a) (hG : GivesTo X Ng x sg g cdv bg a (X.env.qual ++ "<lambda>") TT) (hr : Room (k + 2) X.A) (he : PE X e te)
    (hdb : (x == ("__debug__" : Str)) = false := by decide) (hd : (a == ("__debug__" : Str)) = false := by decide) (hcd : (a == ("__classdict__" : Str)) = false := by decide)
    (hs : starEach [e] X.env = (false, eval e X.env) :: starEach [] X.env := by rfl) (hpl : (backTo pos (starEach [] X.env)).any (·.1) = false := by rfl) :
    PE X (.Call (.Name x p) [e] [] pos) (tTold X k TT te) := by
  refine ⟨fun pins s σ H Q I h => ?_⟩
  refine wpAny_Call_Name_kw (ld_glob I hg hm ?_ hdb)
  have arg := (pa_cons he pa_nil hs).run pos pins s σ H (fun vs H1 => match vs with
    | [v] => ∃ (f c' : Addr) (o : Obj) (scope : Scope) (dT : Option Addr) (t : XK → TE), v = .ref f ∧ H1 c' = some (CodeO c' (X.env.qual ++ "<lambda>")) ∧ LamN X.N X.env.scope scope ∧
      LamP X.prog X.w X.K X.mg X.base X.N (X.env.qual ++ "<lambda>") (cloFrom X.env.cells scope.names []) scope o c' dT k t ∧ TT (fun E H' Q' => H' f = some (LamO f o) ∧ DvAt H' dT ∧ t E σ H' Q') H1 Q
    | _ => False) I h
  refine PySem.W.callWith_K (h₀ := X.base) I.ok.mod.kin hk (thn arg fun us s1 ⟨vs, H1, I1, r, q0⟩ => ⟨I1.kIn, ?_⟩) hs hpl
  match vs, r, q0 with
  | [v], r, q0 =>
    obtain ⟨f, c', o, scope, dT, t, rfl, hc, L, LP, q⟩ := q0
    obtain ⟨u, rfl, ru⟩ := r.one
    cases ru
    have rc : codeAny (model X.prog X.w) X.A (.call (.ref g) ⟨[.ref f], []⟩) (CR C8.CX0 X.stack X.prog X.w H1 s1 Q C8.E0) s1 := by
      refine run_ofS (N := Ng) (ps := [a]) (us := [.ref f]) (vs := [.ref f]) lk hcg Sg hr I1.env0 (hb s1 [.ref f] I1.kIn rfl) (.cons rfl .nil) rfl fun hr' => ?_
      obtain ⟨t', ht', hq'⟩ := hG f c' s1 H1 Q (fun E H' Q' => H' f = some (LamO f o) ∧ DvAt H' dT ∧ t E σ H' Q') (fun W pn xe E p1 p2 tk hW => lam_act (i := 0) (CloAt.here I1 L) LP tk hW hr' hNg hva hd hcd) hc q
      exact ⟨t', ht'.nox, hq'⟩
    refine wpAny_call (codeAny_mono rc fun r s2 hq => ?_)
    cases r with
    | error e => exact (show False from hq).elim
    | ok fl =>
      cases fl with
      | ret u => exact I1.after hq
      | next => exact hq.elim
      | brk => exact hq.elim
      | cont => exact hq.elim
end
end DLR
namespace DLR
open PySem PySem.Spec PyProof.Rows L2
end DLR
namespace DL
open PySem L2 DLR LamX
theorem refs_ne_dice {H : Hp} {d sa la : Addr} {gs : List Addr} (dv : DiceV H d sa) (h : H la = some (.lst (gs.map V.ref))) : la ≠ d := fun e => by
  subst e
  obtain ⟨i, m, r, z, _⟩ := dv
  rw [z] at h
  have q : ([.ref sa, .int i, .int m, .int r] : List V) = gs.map V.ref := by injection (Option.some.inj h)
  match gs, q with
  | [], q => cases q
  | [_], q => cases q
  | _ :: _ :: _, q => cases (List.cons.inj (List.cons.inj q).2).1
def noTb (H : Hp) : Hp := fun a => match H a with
  | some (.tbl _) => none
  | x => x
theorem noTb_of {H : Hp} {a : Addr} {o : HO} (h : noTb H a = some o) : H a = some o ∧ ∀ ps, o ≠ .tbl ps := by
  unfold noTb at h
  split at h
  · cases h
  · rename_i n
    exact ⟨h, fun ps z => n ps (by rw [h, z])⟩
theorem noTb_at {H : Hp} {a : Addr} {o : HO} (h : H a = some o) (n : ∀ ps, o ≠ .tbl ps) : noTb H a = some o := by
  unfold noTb
  split
  · rename_i ps e
    rw [h] at e
    exact absurd (Option.some.inj e) (n ps)
  · exact h
theorem noTb_none {H : Hp} {a : Addr} (h : H a = none) : noTb H a = none := by
  unfold noTb
  rw [h]
theorem Ent.noTb {K : Frg} {H : Hp} {d sa : Addr} {ns : List Int} (h : Ent K H d sa ns) : Ent K (noTb H) d sa ns := by
  refine ⟨?_, ?_, h.len⟩
  · obtain ⟨i, m, r, z, q⟩ := h.dice
    exact ⟨i, m, r, noTb_at z (fun ps q => by cases q), q⟩
  · rcases h.scr with (g | ⟨o, g⟩) | g
    · exact .inl (.inl (noTb_at g (fun ps q => by cases q)))
    · exact .inl (.inr ⟨o, noTb_at g (fun ps q => by cases q)⟩)
    · exact .inr g
theorem Dc.ext {K : Frg} {H0 H H' : Hp} {d sa : Addr} {ns : List Int} (h : Dc K (DL.noTb H0) H d sa ns) (e : ExtN H H') : Dc K (DL.noTb H0) H' d sa ns := by
  refine ⟨h.e0, fun x o n g => e x o (h.but x o n g) (noTb_of g).2, ?_⟩
  obtain ⟨i, m, r, z, q⟩ := h.dice
  exact ⟨i, m, r, e _ _ z (fun ps q => by cases q), q⟩
theorem tabS_dice {K : Frg} {H H' : Hp} {d sa P : Addr} {ns : List Int} {q : Str} (t : TabS H P q) (c : Dc K H H' d sa ns) : TabS H' P q := by
  obtain ⟨j, m, r, z, _⟩ := c.e0.dice
  obtain ⟨ps, h1, h2, h3⟩ := t
  refine ⟨ps, c.but _ _ (ne_of h1 z (by intro q; cases q)) h1, h2, fun pos cv hc => ?_⟩
  obtain ⟨k, e1, e2⟩ := h3 pos cv hc
  exact ⟨k, e1, c.but _ _ (ne_of e2 z (by intro q; unfold CodeO at q; cases q)) e2⟩
def forB : Stmt → List Stmt
  | .For _ _ b .. => b
  | _ => []
def ifB : Stmt → List Stmt
  | .If _ b .. => b
  | _ => []
def asgV : Stmt → Expr
  | .Assign _ v _ => v
  | _ => .Name "x" ⟨0, 0, 0, 0⟩
abbrev qP : Str := (("law" : Str) ++ (".<locals>." : Str))
abbrev qL : Str := qP ++ ("<lambda>" : Str)
theorem tab_mem {Pt : Addr} {q : Str} (h : q = qP) : (Pt, q ++ "<lambda>") ∈ [(Pt, qL)] := by
  rw [h]
  exact List.mem_singleton.mpr rfl
theorem tab_one {Pt : Addr} {q : Str} (h : q = qP) : ∀ p ∈ [(Pt, qL)], p.1 = Pt → p.2 = q ++ "<lambda>" := by
  rw [h]
  intro p hp _
  rw [List.mem_singleton.mp hp]
structure Ct (K : Frg) (Hb H : Hp) (d sa Pt : Addr) (ns : List Int) : Prop where
  ent : Dc K Hb H d sa ns
  tab : TabS H Pt qL
theorem Ct.same {K : Frg} {Hb H H' : Hp} {d sa Pt : Addr} {ns : List Int} (h : Ct K Hb H d sa Pt ns) (s : Same1 H H') : Ct K Hb H' d sa Pt ns := ⟨h.ent.same s, h.tab.ext s⟩
theorem Ct.dice {K : Frg} {Hb H H' : Hp} {d sa Pt : Addr} {ns : List Int} (h : Ct K Hb H d sa Pt ns) (c : Dc K H H' d sa ns) : Ct K Hb H' d sa Pt ns := ⟨h.ent.trans c, tabS_dice h.tab c⟩
theorem Ct.ext {K : Frg} {H0 H H' : Hp} {d sa Pt : Addr} {ns : List Int} (h : Ct K (noTb H0) H d sa Pt ns) (e : ExtN H H') (t : Tabs [(Pt, qL)] H') : Ct K (noTb H0) H' d sa Pt ns := ⟨h.ent.ext e, t _ (List.mem_singleton.mpr rfl)⟩
theorem Ct.tabs {K : Frg} {Hb H : Hp} {d sa Pt : Addr} {ns : List Int} (h : Ct K Hb H d sa Pt ns) : Tabs [(Pt, qL)] H := fun q hq => by rw [List.mem_singleton.mp hq]; exact h.tab
theorem Kp.ext {H H' : Hp} (e : ExtN H H') : Kp H H' := fun a xs g => e _ _ g (fun ps z => by cases z)
end DL
/-! ### an error of an own class that has fields: made by an own __init__ that calls its base's, asked for its class and its fields -/
namespace PySem.W
open PySem PySem.Spec PySem.Calls PyProof.Rows
section
variable {prog : Program} {w : World} {A : Around} {E : Value → Shared → Prop} {s : Shared} {K : Frag} {x D : Addr} {ox od : Obj}
theorem class_of_held {Q : Option Value → Shared → Prop} (h1 : findIn K (.ref D) "__getattribute__" = some (some (.builtin "BaseException.__getattribute__"))) (h2 : findIn K (.ref D) "__getattr__" = some none) (h3 : subIn K (.ref D) (.type "BaseException") = some true) (h4 : hasDictIn K D = true)
    (h5 : findIn K (.ref D) "__class__" = some (some (.builtin "object.__class__"))) (h6 : specialIn K (.builtin "object.__class__") "__get__" = some (some (.builtin "getset_descriptor.__get__"))) (h7 : takesIn K (.builtin "object.__class__") = some true) (h8 : mroIn K D (.type "object") = some true)
    (X : K.In s.heap) (I : InstAt s.heap x ox D (some od)) (q : Q (some (.ref D)) { s with toks := s.toks + 1 }) : wpAny (model prog w) A (getAttr? (.ref x) "__class__") Q E s := by
  obtain ⟨cd, e0, _⟩ := any_some h4
  have fo : findObj K D (some od) "__class__" = some (.bind (.builtin "getset_descriptor.__get__") (.builtin "object.__class__")) := findObj_data (by rw [e0]; rfl) h5 h6 h7
  obtain ⟨hp, g, d, t, os⟩ := s
  have ty := I.type (M := model prog w)
  have is : Looks (model prog w) hp (isInstance (.ref x) (.type "BaseException")) true := ty.andThen (looks_subIn X h3)
  have no : (onTheHeap (Value.ref D) && Value.builtin "BaseException.__getattribute__" == Value.builtin "object.__getattribute__") = false := by
    rw [show (Value.builtin "BaseException.__getattribute__" == Value.builtin "object.__getattribute__") = false by decide +kernel]
    rfl
  unfold getAttr? getAttrBy? getAttrBy
  refine wpAny_bind (wpAny_mkText (wpAny_bind (wpAny_attempt (wpAny_holding (wpAny_bind (ty.at (wpAny_bind ((looks_findIn X h1).at ?_))))))))
  show wpAny _ _ (if (onTheHeap (Value.ref D) && Value.builtin "BaseException.__getattribute__" == Value.builtin "object.__getattribute__") = true then _ else _) _ _ _
  rw [no, if_neg Bool.false_ne_true]
  unfold getAttrByItsOwn hookBefore
  refine wpAny_bind ?_
  rw [if_pos (show onTheHeap (Value.ref D) = true from rfl)]
  refine (looks_findIn X h2).at (wpAny_bind (wpAny_attempt (wpAny_holding ?_)))
  unfold callGetattribute
  rw [show (false && onTheHeap (Value.builtin "BaseException.__getattribute__")) = false from rfl, if_neg Bool.false_ne_true]
  unfold boundAndCalled
  rw [PySem.F.excAttr_ValueError.ga.bind (.ref x)]
  refine wpAny_bind (wpAny_pure ?_)
  show wpAny _ _ (call (.builtin "BaseException.__getattribute__") [.ref x, .str "__class__" t]) _ _ _
  refine wpAny_call (codeAny_call_builtin PySem.F.excAttr_ValueError.ga.plain PySem.F.entry_bexc_ga (@check_slot (model prog w) _ _ ⟨hp, g, d, t + 1, os⟩ "BaseException.__getattribute__" "BaseException" "__getattribute__" (.ref x) [.str "__class__" t] [] _ (by decide +kernel) (by decide +kernel) is (PySem.F.args_bexc_ga (.ref x) (.str "__class__" t)) ?_))
  unfold Builtin.«object.__getattribute__»
  refine wpAny_bind (wpAny_of_eq (a := ((Value.ref x : Value), [Value.str "__class__" t])) (by first | rfl | (simp only [slotArgs]; rfl)) (wpAny_bind (wpAny_pure (wpAny_bind (ty.at (wpAny_bind ((looks_find (M := model prog w) X I fo).at ?_)))))))
  show wpAny _ _ (holding [Value.builtin "object.__class__"] (call (.builtin "getset_descriptor.__get__") [.builtin "object.__class__", .ref x, .ref D]) >>= ret) _ _ _
  refine wpAny_bind (wpAny_holding (wpAny_call (class_get (s := ⟨hp, g, d, t + 1, os⟩) (ox := ox) (od := some od) X I h8 (wpAny_pure ?_))))
  show wpAny _ _ (handedOut (.ref D)) _ _ _
  rw [handedOut_of (v := .ref D) rfl]
  first
    | exact wpAny_pure (wpAny_pure q)
    | exact wpAny_pure q
    | exact wpAny_pure (wpAny_bind (wpAny_pure (wpAny_pure q)))
theorem kit_held (h1 : findIn K (.ref D) "__getattribute__" = some (some (.builtin "BaseException.__getattribute__"))) (h2 : findIn K (.ref D) "__getattr__" = some none) (h3 : subIn K (.ref D) (.type "BaseException") = some true) (h4 : hasDictIn K D = true)
    (h5 : findIn K (.ref D) "__class__" = some (some (.builtin "object.__class__"))) (h6 : specialIn K (.builtin "object.__class__") "__get__" = some (some (.builtin "getset_descriptor.__get__"))) (h7 : takesIn K (.builtin "object.__class__") = some true) (h8 : mroIn K D (.type "object") = some true) :
    KitX K (.ref x) (.ref D) (fun h => ∃ od, InstAt h x ox D (some od)) :=
  have old := handS_kitx_exc (x := x) (ox := ox) h1 h2 h3 h4 h5 h6 h7 h8
  { ty := fun _ _ _ ⟨_, I⟩ => I.type
    it := fun M h X ⟨_, I⟩ => by
      obtain ⟨cd, hc, _⟩ := any_some h4
      unfold clsIn at hc
      split at hc
      · rename_i c1 d1 cd1 sl1 ho
        intro A' Q' E' s' k q
        unfold isType loadHead
        exact wpAny_bind (wpAny_loadPart (k _ _ (X _ _ ho)) (wpAny_pure q))
      · cases hc
    ne := old.ne
    ca := fun X ⟨_, I⟩ k => class_of_held h1 h2 h3 h4 h5 h6 h7 h8 X I k }
end
end PySem.W
namespace DLR
open PySem PySem.Spec PyProof.Rows L2 LamX
def rIsD (K : PySem.W.Frag) (D a : Addr) (dd : Addr) : List V → Hp → VK → Prop := fun xs H Q => ∃ (fs : List (Str × V)) (c : V) (cv : Value) (b : Bool), H dd = some (.xd fs) ∧ xs = [.ref a, c] ∧ (∀ u, RelV c u → u = cv) ∧ PySem.W.kitOne K (.ref D) cv = some b ∧ Q (.bl b) H
theorem call_isD {X : Cx} {a D dd : Addr} {oe : Obj} {pn : List (Addr × Obj)} (C : ExcC X.K D) (hz : Zc (.ref D) (some dd) oe) (hf : ∃ vs, oe.data = .fields vs) : CallR (X.suite a ((a, oe) :: pn)) (.builtin "isinstance") (rIsD X.K D a dd) := by
  intro pins s σ H xs us Q I r h
  obtain ⟨fs, c, cv, b, hdd, rfl, hcv, e, q⟩ := h
  match us, r with
  | [u1, u2], .cons rx (.cons rt .nil) =>
    cases rx
    obtain rfl := hcv _ rt
    obtain ⟨hget, _⟩ := I.pin (a, oe) (List.mem_append.mpr (.inl List.mem_cons_self))
    obtain ⟨vs, hv⟩ := hf
    have hx : ObjOk X.prog X.w H s.heap dd (.xd fs) := I.hok dd _ hdd
    obtain ⟨mA, hns, _⟩ := hx
    obtain ⟨od, ho, _⟩ := lookIn_ns hns
    have J : PySem.W.InstAt s.heap a oe D (some od) := ⟨hget, hz.1, by unfold PySem.W.notCls; rw [hv] <;> rfl, by rw [hz.2]; exact ho⟩
    exact PySem.W.kia_one (PySem.W.kit_held C.hg C.hk C.hs C.hd C.ha C.hn C.ht C.hm) I.kIn ⟨_, J⟩ e (fun z => nomatch z) fun tk => ⟨.bl b, H, I.kept (t' := tk) fun _ _ z => z, rfl, q⟩
structure DeK (K : PySem.W.Frag) (mg : Str → Option Value) (DE : Addr) : Prop where
  m : mg "DrumError" = some (.ref DE)
  sp : PySem.W.specialIn K (.ref DE) "__getattribute__" = some (some (.builtin "type.__getattribute__"))
  ty : PySem.W.typeIn K (.ref DE) = some (.type "type")
  rd : PySem.W.readsIn K DE (.type "type") = true
  fi : PySem.W.findCls K (.ref DE) (.type "type") "__init__" = some (.val (.builtin "ValueError.__init__"))
section
variable {X : Cx} {e : Expr} {es : List Expr} {ta : TA} {p1 p2 pos : Pos} {DE : Addr}
theorem pe_deinit {pl : Sem Bool} (B : DeK X.K X.mg DE) (hg : Gl X "DrumError") (ha : PA X (e :: es) ta)
    (hc : eval (.Call (.Attribute (.Name "DrumError" p1) "__init__" p2) (e :: es) [] pos) X.env = (do
      let ov ← eval (.Name "DrumError" p1) X.env
      standAt p2.atName
      let (f, first) ← holding [ov] (getMethod ov "__init__" pl)
      callWith pos f first (backTo pos (starEach (e :: es) X.env)) (backToKw pos (keywordEach [] X.env))) := by rfl)
    (he : starEach (e :: es) X.env = (false, eval e X.env) :: starEach es X.env := by rfl) (hpl : (backTo pos (starEach es X.env)).any (·.1) = false := by rfl) :
    PE X (.Call (.Attribute (.Name "DrumError" p1) "__init__" p2) (e :: es) [] pos) (tVeI X.K ta) := by
  refine ⟨fun pins s σ H Q I h => PySem.W.methodCall_KW (ld_glob I hg B.m ?_ (by decide)) hc⟩
  obtain ⟨m, fr⟩ := I.fr
  refine PySem.W.method_of_cls fr I.ok.mod.kin B.sp (PySem.W.cls_val fr I.ok.mod.kin B.ty B.rd B.fi (by decide +kernel) ?_)
  show wpAny _ _ (callWith pos (Value.builtin "ValueError.__init__") [] (backTo pos (starEach (e :: es) X.env)) []) _ _ _
  refine PyProof.Rows.callWith_method1 (thn (ha.run pos pins _ σ H _ (I.tok _) h) fun us s1 ⟨vs, H1, I1, r1, a, C, ws, ev, hl, T, ea, q⟩ => ?_) he hpl
  subst ev
  match us, r1 with
  | u0 :: ur, .cons ra rr =>
    cases ra
    exact oinit_ok T I1 ea (by rw [← Paired.length rr, sizeLine_eq]; omega) fun s' J => ⟨.non, H1, J, rfl, q⟩
end
end DLR
namespace DL
open PySem PySem.Spec L2 DLR
/-! ### the errors that have fields: made and raised -/
structure ErI (K : Frg) (mg : Str → Option Value) (x : Str) (qual : Str) (C : Addr) (st : Stmt) (ps : List Str) where
  f : Addr
  fd : FuncData
  F : Fun K "__init__" qual st f fd
  b : Binds K fd ps []
  iC : PySem.W.findIn K (.ref C) "__init__" = some (some (.ref f))
  tI : PySem.W.typeIn K (.ref f) = some (.type "function")
  T : OexC K C
  m : mg x = some (.ref C)
theorem raised_eq {H : Hp} {a d : Addr} {o o1 o2 x : HO} (ha : H a = none) (hd : d ≠ a) : upd (L2.del (upd (upd (upd H a o) d o1) a o2) a) d x = upd H d x := by
  funext b
  by_cases h1 : b = d
  · rw [h1, upd_same, upd_same]
  · rw [upd_ne h1, upd_ne h1]
    by_cases h2 : b = a
    · rw [h2, L2.del_same, ha]
    · rw [L2.del_ne h2, upd_ne h2, upd_ne h1, upd_ne h2]
theorem raised_eq2 {H : Hp} {a d : Addr} {o o1 o2 o3 x : HO} (ha : H a = none) (hd : d ≠ a) : upd (L2.del (upd (upd (upd (upd H a o) d o1) a o2) d o3) a) d x = upd H d x := by
  funext b
  by_cases h1 : b = d
  · rw [h1, upd_same, upd_same]
  · rw [upd_ne h1, upd_ne h1]
    by_cases h2 : b = a
    · rw [h2, L2.del_same, ha]
    · rw [L2.del_ne h2, upd_ne h1, upd_ne h2, upd_ne h1, upd_ne h2]
def Sm (n : Int) : Prop := n.natAbs.log2 < 1920
theorem Sm.len {n : Int} (h : Sm n) : (Str.ofString (toString n)).length ≤ 1921 := by
  rw [ofString_length]
  exact int_text_length_le (by decide) h
theorem app_le {x y : Str} {m n : Nat} (h : x.length ≤ m) (g : y.length ≤ n) : (x ++ y).length ≤ m + n := by
  rw [Str.length_append]
  omega
theorem len_str (n : Nat) (x : Str) (h : x.length ≤ n) : x.length ≤ n := h
abbrev sBTInit : Stmt := inClass (top 9) 0
abbrev fsBT (line : Int) : List (Str × V) := [("line", .int line)]
def spBT (C : Addr) : Sp := fun vs H Q _ => ∃ (a : Addr) (line : Int), vs = [.ref a, .int line] ∧ H a = some (exo a C none) ∧ Sm line ∧ ∀ d, H d = none → d ≠ a → Q .non (upd (upd H d (exd d (fsBT line))) a (exo a C (some d)))
theorem toldBT {C : Addr} {line : Int} {H : Hp} {Q : XK} (hc : Sm line) (k : ∀ d H', H d = none → Same1 H H' → H' d = some (.xd (fsBT line)) → Q (.ref C) (some d) H') :
    ([.int line] : List V).length ≤ 1000 ∧ ∀ a, H a = none → spBT C (.ref a :: ([.int line] ++ [])) (upd H a (exo a C none)) (fun v H2 => v = .non ∧ ∃ (d : Addr) (fs : List (Str × V)), H2 a = some (exo a C (some d)) ∧ H2 d = some (exd d fs) ∧ H d = none ∧ Q (.ref C) (some d) (upd (L2.del H2 a) d (.xd fs))) (fun _ _ _ => False) := by
  refine ⟨by show 1 ≤ 1000; decide, fun a ha => ⟨a, line, rfl, upd_same, hc, fun d hd hne => ?_⟩⟩
  have hd0 : H d = none := by rwa [upd_ne hne] at hd
  refine ⟨rfl, d, fsBT line, upd_same, ?_, hd0, ?_⟩
  · rw [upd_ne hne, upd_same]
  · rw [raised_eq ha hne]
    exact k d _ hd0 (Same.new hd0) upd_same
section
variable {P : Program} {w : World} {K : PySem.W.Frag} {mg : Str → Option Value} {base : Heap} {C DE : Addr}
theorem scBTInit : FnScope ["self", "line"] ["self", "line"] (defScope sBTInit) := ⟨rfl, rfl, rfl, by decide +kernel, rfl, by decide +kernel, by decide +kernel⟩
theorem ok_BTInit (c : ErI K mg "BadText" "BadText.__init__" C sBTInit ["self", "line"]) (B : DeK K mg DE) (nline : PySem.W.findIn K (.ref C) "line" = some none) : FnOk P w K mg base CX0 1 c.f c.fd ["self", "line"] (spBT C) := by
  refine c.F.ok scBTInit (fun vs H Q E h => ?_) (fun cdv A outer s H vs Q E hr h => ?_)
  · obtain ⟨a, line, rfl, _⟩ := h
    rfl
  · obtain ⟨a, line, rfl, ha, hline, k⟩ := h
    refine ⟨_, (pss_cons (ps_expr (pe_deinit B (by rfl) (pa_cons (pv 0) (pa_cons (L2.pe_joined (L2.PJ.cons pe_str (L2.PJ.cons (L2.pe_fmt (pv 1)) L2.PJ.nil))) pa_nil)))) (pss_one (L2.ps_ost (pv 0) (pv 1)))), ?_⟩
    have lline := Sm.len hline
    refine ⟨_, rfl, ?_⟩
    refine ⟨_, rfl, (sz (Nat.le_trans (app_le (show (Str.empty : Str).length ≤ 0 by decide) (show (_ : Str).length ≤ 100 by decide +kernel)) (by decide))), ?_⟩
    refine ⟨_, rfl, .inr ⟨line, rfl, hline, _, rfl, (sz (Nat.le_trans (app_le (app_le (show (Str.empty : Str).length ≤ 0 by decide) (show (_ : Str).length ≤ 100 by decide +kernel)) lline) (by decide))), ?_⟩⟩
    refine ⟨a, C, _, rfl, (by show 1 ≤ 1000; decide), c.T, ha, ?_⟩
    exact ⟨_, rfl, _, rfl, a, C, rfl, c.T, nline, .inl ⟨ha, fun d hd hne => k d hd hne⟩⟩
end
abbrev sBPInit : Stmt := inClass (top 2) 0
abbrev fsBP (row : Int) (why : Str) : List (Str × V) := [("why", .str why), ("row", .int row)]
def spBP (C : Addr) : Sp := fun vs H Q _ => ∃ (a : Addr) (row : Int) (why : Str), vs = [.ref a, .int row, .str why] ∧ H a = some (exo a C none) ∧ Sm row ∧ why.length ≤ 1000 ∧ ∀ d, H d = none → d ≠ a → Q .non (upd (upd (upd H d (exd d [("row", .int row)])) a (exo a C (some d))) d (exd d (fsBP row why)))
theorem toldBP {C : Addr} {row : Int} {why : Str} {H : Hp} {Q : XK} (hc : Sm row ∧ why.length ≤ 1000) (k : ∀ d H', H d = none → Same1 H H' → H' d = some (.xd (fsBP row why)) → Q (.ref C) (some d) H') :
    ([.int row, .str why] : List V).length ≤ 1000 ∧ ∀ a, H a = none → spBP C (.ref a :: ([.int row, .str why] ++ [])) (upd H a (exo a C none)) (fun v H2 => v = .non ∧ ∃ (d : Addr) (fs : List (Str × V)), H2 a = some (exo a C (some d)) ∧ H2 d = some (exd d fs) ∧ H d = none ∧ Q (.ref C) (some d) (upd (L2.del H2 a) d (.xd fs))) (fun _ _ _ => False) := by
  refine ⟨by show 2 ≤ 1000; decide, fun a ha => ⟨a, row, why, rfl, upd_same, hc.1, hc.2, fun d hd hne => ?_⟩⟩
  have hd0 : H d = none := by rwa [upd_ne hne] at hd
  refine ⟨rfl, d, fsBP row why, ?_, upd_same, hd0, ?_⟩
  · rw [upd_ne hne.symm, upd_same]
  · rw [raised_eq2 ha hne]
    exact k d _ hd0 (Same.new hd0) upd_same
section
variable {P : Program} {w : World} {K : PySem.W.Frag} {mg : Str → Option Value} {base : Heap} {C DE : Addr}
theorem scBPInit : FnScope ["self", "row", "why"] ["self", "row", "why"] (defScope sBPInit) := ⟨rfl, rfl, rfl, by decide +kernel, rfl, by decide +kernel, by decide +kernel⟩
theorem ok_BPInit (c : ErI K mg "BadProgram" "BadProgram.__init__" C sBPInit ["self", "row", "why"]) (B : DeK K mg DE) (nrow : PySem.W.findIn K (.ref C) "row" = some none) (nwhy : PySem.W.findIn K (.ref C) "why" = some none) : FnOk P w K mg base CX0 1 c.f c.fd ["self", "row", "why"] (spBP C) := by
  refine c.F.ok scBPInit (fun vs H Q E h => ?_) (fun cdv A outer s H vs Q E hr h => ?_)
  · obtain ⟨a, row, why, rfl, _⟩ := h
    rfl
  · obtain ⟨a, row, why, rfl, ha, hrow, hwhy, k⟩ := h
    refine ⟨_, (pss_cons (ps_expr (pe_deinit B (by rfl) (pa_cons (pv 0) (pa_cons (L2.pe_joined (L2.PJ.cons pe_str (L2.PJ.cons (L2.pe_fmt (pv 1)) (L2.PJ.cons pe_str (L2.PJ.cons (L2.pe_fmt (pv 2)) L2.PJ.nil))))) pa_nil)))) (pss_cons (L2.ps_ost (pv 0) (pv 1)) (pss_one (L2.ps_ost (pv 0) (pv 2))))), ?_⟩
    have lrow := Sm.len hrow
    refine ⟨_, rfl, ?_⟩
    refine ⟨_, rfl, (sz (Nat.le_trans (app_le (show (Str.empty : Str).length ≤ 0 by decide) (show (_ : Str).length ≤ 100 by decide +kernel)) (by decide))), ?_⟩
    refine ⟨_, rfl, .inr ⟨row, rfl, hrow, _, rfl, (sz (Nat.le_trans (app_le (app_le (show (Str.empty : Str).length ≤ 0 by decide) (show (_ : Str).length ≤ 100 by decide +kernel)) lrow) (by decide))), ?_⟩⟩
    refine ⟨_, rfl, (sz (Nat.le_trans (app_le (app_le (app_le (show (Str.empty : Str).length ≤ 0 by decide) (show (_ : Str).length ≤ 100 by decide +kernel)) lrow) (show (_ : Str).length ≤ 100 by decide +kernel)) (by decide))), ?_⟩
    refine ⟨_, rfl, .inl ⟨why, rfl, sz (Nat.le_trans hwhy (by decide)), _, rfl, (sz (Nat.le_trans (app_le (app_le (app_le (app_le (show (Str.empty : Str).length ≤ 0 by decide) (show (_ : Str).length ≤ 100 by decide +kernel)) lrow) (show (_ : Str).length ≤ 100 by decide +kernel)) hwhy) (by decide))), ?_⟩⟩
    refine ⟨a, C, _, rfl, (by show 1 ≤ 1000; decide), c.T, ha, ?_⟩
    refine ⟨_, rfl, _, rfl, a, C, rfl, c.T, nrow, .inl ⟨ha, fun d hd hne => ?_⟩⟩
    refine ⟨_, rfl, _, rfl, a, C, rfl, c.T, nwhy, .inr ⟨d, _, upd_same, ?_, by show 1 ≤ 900; decide, k d hd hne⟩⟩
    rw [upd_ne hne, upd_same]
end
abbrev sBLInit : Stmt := inClass (top 3) 0
abbrev fsBL (why : Str) (at_ : Int) : List (Str × V) := [("at", .int at_), ("why", .str why)]
def spBL (C : Addr) : Sp := fun vs H Q _ => ∃ (a : Addr) (why : Str) (at_ : Int), vs = [.ref a, .str why, .int at_] ∧ H a = some (exo a C none) ∧ why.length ≤ 1000 ∧ Sm at_ ∧ ∀ d, H d = none → d ≠ a → Q .non (upd (upd (upd H d (exd d [("why", .str why)])) a (exo a C (some d))) d (exd d (fsBL why at_)))
theorem toldBL {C : Addr} {why : Str} {at_ : Int} {H : Hp} {Q : XK} (hc : why.length ≤ 1000 ∧ Sm at_) (k : ∀ d H', H d = none → Same1 H H' → H' d = some (.xd (fsBL why at_)) → Q (.ref C) (some d) H') :
    ([.str why, .int at_] : List V).length ≤ 1000 ∧ ∀ a, H a = none → spBL C (.ref a :: ([.str why, .int at_] ++ [])) (upd H a (exo a C none)) (fun v H2 => v = .non ∧ ∃ (d : Addr) (fs : List (Str × V)), H2 a = some (exo a C (some d)) ∧ H2 d = some (exd d fs) ∧ H d = none ∧ Q (.ref C) (some d) (upd (L2.del H2 a) d (.xd fs))) (fun _ _ _ => False) := by
  refine ⟨by show 2 ≤ 1000; decide, fun a ha => ⟨a, why, at_, rfl, upd_same, hc.1, hc.2, fun d hd hne => ?_⟩⟩
  have hd0 : H d = none := by rwa [upd_ne hne] at hd
  refine ⟨rfl, d, fsBL why at_, ?_, upd_same, hd0, ?_⟩
  · rw [upd_ne hne.symm, upd_same]
  · rw [raised_eq2 ha hne]
    exact k d _ hd0 (Same.new hd0) upd_same
section
variable {P : Program} {w : World} {K : PySem.W.Frag} {mg : Str → Option Value} {base : Heap} {C DE : Addr}
theorem scBLInit : FnScope ["self", "why", "at"] ["self", "why", "at"] (defScope sBLInit) := ⟨rfl, rfl, rfl, by decide +kernel, rfl, by decide +kernel, by decide +kernel⟩
theorem ok_BLInit (c : ErI K mg "BadLaying" "BadLaying.__init__" C sBLInit ["self", "why", "at"]) (B : DeK K mg DE) (nwhy : PySem.W.findIn K (.ref C) "why" = some none) (nat : PySem.W.findIn K (.ref C) "at" = some none) : FnOk P w K mg base CX0 1 c.f c.fd ["self", "why", "at"] (spBL C) := by
  refine c.F.ok scBLInit (fun vs H Q E h => ?_) (fun cdv A outer s H vs Q E hr h => ?_)
  · obtain ⟨a, why, at_, rfl, _⟩ := h
    rfl
  · obtain ⟨a, why, at_, rfl, ha, hwhy, hat, k⟩ := h
    refine ⟨_, (pss_cons (ps_expr (pe_deinit B (by rfl) (pa_cons (pv 0) (pa_cons (L2.pe_joined (L2.PJ.cons pe_str (L2.PJ.cons (L2.pe_fmt (pv 1)) (L2.PJ.cons pe_str (L2.PJ.cons (L2.pe_fmt (pv 2)) L2.PJ.nil))))) pa_nil)))) (pss_cons (L2.ps_ost (pv 0) (pv 1)) (pss_one (L2.ps_ost (pv 0) (pv 2))))), ?_⟩
    have lat := Sm.len hat
    refine ⟨_, rfl, ?_⟩
    refine ⟨_, rfl, (sz (Nat.le_trans (app_le (show (Str.empty : Str).length ≤ 0 by decide) (show (_ : Str).length ≤ 100 by decide +kernel)) (by decide))), ?_⟩
    refine ⟨_, rfl, .inl ⟨why, rfl, sz (Nat.le_trans hwhy (by decide)), _, rfl, (sz (Nat.le_trans (app_le (app_le (show (Str.empty : Str).length ≤ 0 by decide) (show (_ : Str).length ≤ 100 by decide +kernel)) hwhy) (by decide))), ?_⟩⟩
    refine ⟨_, rfl, (sz (Nat.le_trans (app_le (app_le (app_le (show (Str.empty : Str).length ≤ 0 by decide) (show (_ : Str).length ≤ 100 by decide +kernel)) hwhy) (show (_ : Str).length ≤ 100 by decide +kernel)) (by decide))), ?_⟩
    refine ⟨_, rfl, .inr ⟨at_, rfl, hat, _, rfl, (sz (Nat.le_trans (app_le (app_le (app_le (app_le (show (Str.empty : Str).length ≤ 0 by decide) (show (_ : Str).length ≤ 100 by decide +kernel)) hwhy) (show (_ : Str).length ≤ 100 by decide +kernel)) lat) (by decide))), ?_⟩⟩
    refine ⟨a, C, _, rfl, (by show 1 ≤ 1000; decide), c.T, ha, ?_⟩
    refine ⟨_, rfl, _, rfl, a, C, rfl, c.T, nwhy, .inl ⟨ha, fun d hd hne => ?_⟩⟩
    refine ⟨_, rfl, _, rfl, a, C, rfl, c.T, nat, .inr ⟨d, _, upd_same, ?_, by show 1 ≤ 900; decide, k d hd hne⟩⟩
    rw [upd_ne hne, upd_same]
end
abbrev sBEInit : Stmt := inClass (top 6) 0
abbrev fsBE (at_ : Int) : List (Str × V) := [("at", .int at_)]
def spBE (C : Addr) : Sp := fun vs H Q _ => ∃ (a : Addr) (at_ : Int), vs = [.ref a, .int at_] ∧ H a = some (exo a C none) ∧ Sm at_ ∧ ∀ d, H d = none → d ≠ a → Q .non (upd (upd H d (exd d (fsBE at_))) a (exo a C (some d)))
theorem toldBE {C : Addr} {at_ : Int} {H : Hp} {Q : XK} (hc : Sm at_) (k : ∀ d H', H d = none → Same1 H H' → H' d = some (.xd (fsBE at_)) → Q (.ref C) (some d) H') :
    ([.int at_] : List V).length ≤ 1000 ∧ ∀ a, H a = none → spBE C (.ref a :: ([.int at_] ++ [])) (upd H a (exo a C none)) (fun v H2 => v = .non ∧ ∃ (d : Addr) (fs : List (Str × V)), H2 a = some (exo a C (some d)) ∧ H2 d = some (exd d fs) ∧ H d = none ∧ Q (.ref C) (some d) (upd (L2.del H2 a) d (.xd fs))) (fun _ _ _ => False) := by
  refine ⟨by show 1 ≤ 1000; decide, fun a ha => ⟨a, at_, rfl, upd_same, hc, fun d hd hne => ?_⟩⟩
  have hd0 : H d = none := by rwa [upd_ne hne] at hd
  refine ⟨rfl, d, fsBE at_, upd_same, ?_, hd0, ?_⟩
  · rw [upd_ne hne, upd_same]
  · rw [raised_eq ha hne]
    exact k d _ hd0 (Same.new hd0) upd_same
section
variable {P : Program} {w : World} {K : PySem.W.Frag} {mg : Str → Option Value} {base : Heap} {C DE : Addr}
theorem scBEInit : FnScope ["self", "at"] ["self", "at"] (defScope sBEInit) := ⟨rfl, rfl, rfl, by decide +kernel, rfl, by decide +kernel, by decide +kernel⟩
theorem ok_BEInit (c : ErI K mg "BadPaper" "BadPaper.__init__" C sBEInit ["self", "at"]) (B : DeK K mg DE) (nat : PySem.W.findIn K (.ref C) "at" = some none) : FnOk P w K mg base CX0 1 c.f c.fd ["self", "at"] (spBE C) := by
  refine c.F.ok scBEInit (fun vs H Q E h => ?_) (fun cdv A outer s H vs Q E hr h => ?_)
  · obtain ⟨a, at_, rfl, _⟩ := h
    rfl
  · obtain ⟨a, at_, rfl, ha, hat, k⟩ := h
    refine ⟨_, (pss_cons (ps_expr (pe_deinit B (by rfl) (pa_cons (pv 0) (pa_cons (L2.pe_joined (L2.PJ.cons pe_str (L2.PJ.cons (L2.pe_fmt (pv 1)) L2.PJ.nil))) pa_nil)))) (pss_one (L2.ps_ost (pv 0) (pv 1)))), ?_⟩
    have lat := Sm.len hat
    refine ⟨_, rfl, ?_⟩
    refine ⟨_, rfl, (sz (Nat.le_trans (app_le (show (Str.empty : Str).length ≤ 0 by decide) (show (_ : Str).length ≤ 100 by decide +kernel)) (by decide))), ?_⟩
    refine ⟨_, rfl, .inr ⟨at_, rfl, hat, _, rfl, (sz (Nat.le_trans (app_le (app_le (show (Str.empty : Str).length ≤ 0 by decide) (show (_ : Str).length ≤ 100 by decide +kernel)) lat) (by decide))), ?_⟩⟩
    refine ⟨a, C, _, rfl, (by show 1 ≤ 1000; decide), c.T, ha, ?_⟩
    exact ⟨_, rfl, _, rfl, a, C, rfl, c.T, nat, .inl ⟨ha, fun d hd hne => k d hd hne⟩⟩
end
end DL
namespace DL
open PySem PySem.Spec L2 DLR
/-! ### what is no program: by data of any shape -/
def D.num : D → Bool
  | .int _ => true
  | _ => false
def D.betw (lo hi : Int) : D → Bool
  | .int i => decide (lo ≤ i) && decide (i ≤ hi)
  | _ => false
def partD : D → Nat → D
  | .tup ds, j => ds.getD j .non
  | _, _ => .non
def worthsF : D → Option Str
  | .tup ds => if ds.length ≤ 8 then (if ds.all (D.betw (-1000000) 1000000) = true then none else some "number") else some "worths"
  | _ => some "worths"
def words7 : List (Str × List Str) := [("load", ["worth", "next"]), ("add", ["worth", "next"]), ("take", ["worth", "next"]), ("store", ["worth", "next"]), ("say", ["next"]), ("test", ["next", "next"]), ("stop", [])]
def partsOf (x : Str) : Option (List Str) := words7.lookup x
def shapeF : D → Bool
  | .tup (.str x :: r) => match partsOf x with
    | some ps => decide (r.length = ps.length) && r.all D.num
    | none => false
  | _ => false
def argsF (W N : Nat) : List Str → List D → Option Str
  | n :: ns, .int i :: ds => if 0 ≤ i ∧ i < (if n = "worth" then (W : Int) else (N : Int)) then argsF W N ns ds else some n
  | _, _ => none
def rowF (W N : Nat) (d : D) : Option Str := if shapeF d = true then (match d with
  | .tup (.str x :: r) => argsF W N ((partsOf x).getD []) r
  | _ => none) else some "shape"
def rowsF (W N : Nat) : Nat → List D → Option (Nat × Str)
  | _, [] => none
  | i, d :: ds => match rowF W N d with
    | some y => some (i, y)
    | none => rowsF W N (i + 1) ds
def lenD : D → Nat
  | .tup ds => ds.length
  | .lst ds => ds.length
  | _ => 0
def progF (d : D) : Option (Int × Str) := match worthsF (partD d 0) with
  | some y => some (-1, y)
  | none => match partD d 1 with
    | .tup rs => if lenD d = 2 ∧ 1 ≤ rs.length ∧ rs.length ≤ 40 then (rowsF (lenD (partD d 0)) rs.length 0 rs).map fun q => ((q.1 : Int), q.2) else some (-1, "rows")
    | _ => some (-1, "rows")
structure PtO (K : Frg) {w : World} {mg : Str → Option Value} (Z : Pt K w mg) : Prop where
  no : ∀ x : Str, partsOf x = none → PySem.W.nsIn K Z.d x = some none
theorem parts_row {x : Str} {ps : List Str} (h : partsOf x = some ps) : ∃ r : Row, r.word = x ∧ r.parts = ps := by
  unfold partsOf words7 at h
  simp only [List.lookup_cons, List.lookup_nil] at h
  split at h
  · rename_i e
    exact ⟨.load 0 0, by rw [eq_of_beq e]; rfl, Option.some.inj h⟩
  split at h
  · rename_i e
    exact ⟨.add 0 0, by rw [eq_of_beq e]; rfl, Option.some.inj h⟩
  split at h
  · rename_i e
    exact ⟨.take 0 0, by rw [eq_of_beq e]; rfl, Option.some.inj h⟩
  split at h
  · rename_i e
    exact ⟨.store 0 0, by rw [eq_of_beq e]; rfl, Option.some.inj h⟩
  split at h
  · rename_i e
    exact ⟨.say 0, by rw [eq_of_beq e]; rfl, Option.some.inj h⟩
  split at h
  · rename_i e
    exact ⟨.test 0 0, by rw [eq_of_beq e]; rfl, Option.some.inj h⟩
  split at h
  · rename_i e
    exact ⟨.stop, by rw [eq_of_beq e]; rfl, Option.some.inj h⟩
  · cases h
def spNumD : Sp := fun vs H Q _ => ∃ (v : V) (d : D), vs = [v] ∧ At H v d ∧ Q (.bl d.num) H
def spBetweenD : Sp := fun vs H Q _ => ∃ (v : V) (d : D) (lo hi : Int), vs = [v, .int lo, .int hi] ∧ At H v d ∧ Q (.bl (d.betw lo hi)) H
def spPartD : Sp := fun vs H Q _ => ∃ (v : V) (d : D) (j : Nat), vs = [v, .int (j : Int)] ∧ At H v d ∧ ∀ u, At H u (partD d j) → Q u H
def spHasShapeD : Sp := fun vs H Q _ => ∃ (v : V) (d : D), vs = [v] ∧ At H v d ∧ d.fit ∧ ∀ H', Same1 H H' → Q (.bl (shapeF d)) H'
abbrev BadP (BP : Addr) (H : Hp) (E : XK) (r : Int) (y : Str) : Prop := ∀ d H', H d = none → Same1 H H' → H' d = some (.xd (fsBP r y)) → E (.ref BP) (some d) H'
def spCheckWorthsD (BP : Addr) : Sp := fun vs H Q E => ∃ (v : V) (d : D), vs = [v] ∧ At H v d ∧ d.fit ∧ (∀ y, worthsF d = some y → BadP BP H E (-1) y) ∧ (worthsF d = none → Q .non H)
mutual
theorem At.sm0 {H H' : Hp} (s : Same1 H H') : ∀ (d : D) (v : V), At H v d → At H' v d
  | .non, v, h => by simpa [At] using h
  | .bl b, v, h => by simpa [At] using h
  | .int i, v, h => by simpa [At] using h
  | .str x, v, h => by simpa [At] using h
  | .lst ds, v, h => by
    obtain ⟨a, vs, rfl, h1, h2⟩ : ∃ a vs, v = .ref a ∧ H a = some (.lst vs) ∧ Ats H vs ds := by simpa [At] using h
    have q := Ats.sm0 s ds vs h2
    simp only [At]
    exact ⟨a, vs, rfl, s _ _ h1, q⟩
  | .tup ds, v, h => by
    obtain ⟨a, vs, rfl, h1, h2⟩ : ∃ a vs, v = .ref a ∧ H a = some (.tup vs) ∧ Ats H vs ds := by simpa [At] using h
    have q := Ats.sm0 s ds vs h2
    simp only [At]
    exact ⟨a, vs, rfl, s _ _ h1, q⟩
theorem Ats.sm0 {H H' : Hp} (s : Same1 H H') : ∀ (ds : List D) (vs : List V), Ats H vs ds → Ats H' vs ds
  | [], [], _ => by simp [Ats]
  | d :: ds, v :: vs, h => by
    have h : At H v d ∧ Ats H vs ds := by simpa [Ats] using h
    simp only [Ats]
    exact ⟨At.sm0 s d v h.1, Ats.sm0 s ds vs h.2⟩
  | [], _ :: _, h => by simp [Ats] at h
  | _ :: _, [], h => by simp [Ats] at h
end
theorem At.numI {H : Hp} {v : V} {d : D} (h : At H v d) (n : d.num = true) : ∃ i, d = .int i ∧ v = .int i := by
  cases d with
  | int i => exact ⟨i, rfl, by simpa [At] using h⟩
  | non => cases n
  | bl b => cases n
  | str s => cases n
  | lst l => cases n
  | tup l => cases n
section
variable {P : Program} {w : World} {K : PySem.W.Frag} {mg : Str → Option Value} {base : Heap}
theorem ok_isNumberD (c : FIsNumber K mg) (T : Bt mg) : FnOk P w K mg base CX0 1 c.f c.fd ["thing"] spNumD := by
  refine c.F.ok scIsNumber (fun vs H Q E h => ?_) (fun cdv A outer s H vs Q E hr h => ?_)
  · obtain ⟨v, d, rfl, _⟩ := h
    rfl
  · obtain ⟨v, d, rfl, hv, k⟩ := h
    refine ⟨_, (pss_one (ps_ret (pe_and (pe_callB call_isi (by rfl) T.isinstance (by decide +kernel) (pa_cons (pv 0) (pa_cons (pe_bltn (v := .ty "int") (by rfl) T.int (by decide +kernel) rfl) pa_nil))) (pe_one (pe_not (pe_callB call_isi (by rfl) T.isinstance (by decide +kernel) (pa_cons (pv 0) (pa_cons (pe_bltn (v := .ty "bool") (by rfl) T.bool (by decide +kernel) rfl) pa_nil)))))))), ?_⟩
    cases d with
    | int i =>
      refine ⟨_, rfl, _, _, _, _, true, rfl, .ty _, hv.ty, kit_ty (by dsimp only [DL.D.ty]; decide +kernel), _, rfl, ?_⟩
      exact ⟨_, rfl, _, _, _, _, false, rfl, .ty _, hv.ty, kit_ty (by dsimp only [DL.D.ty]; decide +kernel), _, rfl, k⟩
    | bl b =>
      refine ⟨_, rfl, _, _, _, _, true, rfl, .ty _, hv.ty, kit_ty (by dsimp only [DL.D.ty]; decide +kernel), _, rfl, ?_⟩
      exact ⟨_, rfl, _, _, _, _, true, rfl, .ty _, hv.ty, kit_ty (by dsimp only [DL.D.ty]; decide +kernel), _, rfl, k⟩
    | non => exact ⟨_, rfl, _, _, _, _, false, rfl, .ty _, hv.ty, kit_ty (by dsimp only [DL.D.ty]; decide +kernel), _, rfl, k⟩
    | str x => exact ⟨_, rfl, _, _, _, _, false, rfl, .ty _, hv.ty, kit_ty (by dsimp only [DL.D.ty]; decide +kernel), _, rfl, k⟩
    | lst l => exact ⟨_, rfl, _, _, _, _, false, rfl, .ty _, hv.ty, kit_ty (by dsimp only [DL.D.ty]; decide +kernel), _, rfl, k⟩
    | tup l => exact ⟨_, rfl, _, _, _, _, false, rfl, .ty _, hv.ty, kit_ty (by dsimp only [DL.D.ty]; decide +kernel), _, rfl, k⟩
theorem ok_isBetweenD (c : FIsBetween K mg) (cIsNumber : FIsNumber K mg) (T : Bt mg) : FnOk P w K mg base CX0 2 c.f c.fd ["thing", "low", "high"] spBetweenD := by
  have GIsNumber : FnOk P w K mg base CX0 1 cIsNumber.f cIsNumber.fd ["thing"] spNumD := ok_isNumberD cIsNumber T
  refine c.F.ok scIsBetween (fun vs H Q E h => ?_) (fun cdv A outer s H vs Q E hr h => ?_)
  · obtain ⟨v, d, lo, hi, rfl, _⟩ := h
    rfl
  · obtain ⟨v, d, lo, hi, rfl, hv, k⟩ := h
    refine ⟨_, (pss_one (ps_ret (pe_and (pe_call GIsNumber (hr.mono (by first | omega | decide)) (by rfl) cIsNumber.m cIsNumber.F.kp cIsNumber.b .nil pass0 (pa_cons (pv 0) pa_nil)) (pe_one (pe_chain op_le op_le (pv 1) (pv 0) (pv 2)))))), ?_⟩
    refine ⟨_, rfl, v, d, rfl, hv, _, rfl, ?_⟩
    cases hn : d.num with
    | true =>
      obtain ⟨i, rfl, rfl⟩ := hv.numI hn
      refine ⟨_, rfl, _, rfl, _, _, rfl, rfl, _, rfl, ?_⟩
      have k : Q (.bl (decide (lo ≤ i) && decide (i ≤ hi))) H := k
      cases h1 : decide (lo ≤ i) with
      | true =>
        rw [h1] at k
        exact iteT ⟨_, rfl, _, _, rfl, rfl, k⟩
      | false =>
        rw [h1] at k
        exact iteF k
    | false =>
      have e : d.betw lo hi = false := by cases d <;> first | rfl | cases hn
      rw [e] at k
      exact k
theorem ok_partD (c : FPart K mg) (T : Bt mg) : FnOk P w K mg base CX0 1 c.f c.fd ["whole", "at"] spPartD := by
  refine c.F.ok scPart (fun vs H Q E h => ?_) (fun cdv A outer s H vs Q E hr h => ?_)
  · obtain ⟨v, d, j, rfl, _⟩ := h
    rfl
  · obtain ⟨v, d, j, rfl, hv, k⟩ := h
    refine ⟨_, (pss_cons (ps_if (PW.pt (pw_and (pt_val (pe_callB call_isi (by rfl) T.isinstance (by decide +kernel) (pa_cons (pv 0) (pa_cons (pe_bltn (v := .ty "tuple") (by rfl) T.tuple (by decide +kernel) rfl) pa_nil)))) (pw_and1 (pt_cmpR op_lt (pv 1) (pe_callB call_len_seq (by rfl) T.len PySem.boot_len (pa_cons (pv 0) pa_nil)) (nomark _)))))
          (pss_one (ps_ret (pe_ix ix_tup (pv 0) (pv 1) (fun _ _ => rfl))))
          pss_nil)
      (pss_one (ps_ret pe_non))), ?_⟩
    have hnon : partD d j = .non → Q .non H := fun e => k .non (by rw [e]; simp [At])
    cases d with
    | tup ds =>
      obtain ⟨a, xs, rfl, h1, h2⟩ : ∃ a vs, v = .ref a ∧ H a = some (.tup vs) ∧ Ats H vs ds := by simpa [At] using hv
      have hl := h2.len
      refine ⟨_, rfl, _, _, _, _, true, rfl, .ty _, .base (.tup h1), kit_ty (by decide +kernel), _, rfl, ?_⟩
      refine ⟨_, rfl, _, rfl, a, _, rfl, .inr (SqT.of h1), _, _, rfl, rfl, _, rfl, ?_⟩
      by_cases hj : j < xs.length
      · obtain ⟨u, x, g1, g2, g3⟩ := h2.get j (by omega)
        rw [decide_eq_true (show (j : Int) < (xs.length : Int) by omega)]
        refine iteT ⟨_, rfl, _, rfl, a, _, _, _, rfl, rfl, SqT.of h1, atI_nat g1, k u ?_⟩
        show At H u (ds.getD j .non)
        rw [List.getD_eq_getElem?_getD, g2]
        exact g3
      · rw [decide_eq_false (show ¬ (j : Int) < (xs.length : Int) by omega)]
        refine iteF (hnon ?_)
        show ds.getD j .non = .non
        rw [List.getD_eq_getElem?_getD, List.getElem?_eq_none (by omega)]
        rfl
    | int i => exact ⟨_, rfl, _, _, _, _, false, rfl, .ty _, hv.ty, kit_ty (by dsimp only [DL.D.ty]; decide +kernel), _, rfl, iteF (hnon rfl)⟩
    | bl b => exact ⟨_, rfl, _, _, _, _, false, rfl, .ty _, hv.ty, kit_ty (by dsimp only [DL.D.ty]; decide +kernel), _, rfl, iteF (hnon rfl)⟩
    | non => exact ⟨_, rfl, _, _, _, _, false, rfl, .ty _, hv.ty, kit_ty (by dsimp only [DL.D.ty]; decide +kernel), _, rfl, iteF (hnon rfl)⟩
    | str x => exact ⟨_, rfl, _, _, _, _, false, rfl, .ty _, hv.ty, kit_ty (by dsimp only [DL.D.ty]; decide +kernel), _, rfl, iteF (hnon rfl)⟩
    | lst l => exact ⟨_, rfl, _, _, _, _, false, rfl, .ty _, hv.ty, kit_ty (by dsimp only [DL.D.ty]; decide +kernel), _, rfl, iteF (hnon rfl)⟩
theorem ok_hasShapeD (c : FHasShape K mg) (cPart : FPart K mg) (cIsNumber : FIsNumber K mg) (T : Bt mg) (Z : Pt K w mg) (O : PtO K Z) : FnOk P w K mg base CX0 2 c.f c.fd ["row"] spHasShapeD := by
  have GPart : FnOk P w K mg base CX0 1 cPart.f cPart.fd ["whole", "at"] spPartD := ok_partD cPart T
  have GIsNumber : FnOk P w K mg base CX0 1 cIsNumber.f cIsNumber.fd ["thing"] spNumD := ok_isNumberD cIsNumber T
  refine c.F.ok scHasShape (fun vs H Q E h => ?_) (fun cdv A outer s H vs Q E hr h => ?_)
  · obtain ⟨v, d, rfl, _⟩ := h
    rfl
  · obtain ⟨v, d, rfl, hv, hfit, k⟩ := h
    refine ⟨_, (pss_cons (ps_set (i := 1) scHasShape.nd rfl (Or.inl rfl) (pe_call GPart (hr.mono (by first | omega | decide)) (by rfl) cPart.m cPart.F.kp cPart.b .nil pass0 (pa_cons (pv 0) (pa_cons pe_int pa_nil))))
      (pss_cons (ps_if (PW.pt (pw_or (pt_not (pt_val (pe_callB call_isi (by rfl) T.isinstance (by decide +kernel) (pa_cons (pv 1) (pa_cons (pe_bltn (v := .ty "str") (by rfl) T.str (by decide +kernel) rfl) pa_nil))))) (pw_or1 (pt_cmpR (op_notIn_kd Z.kd) (pv 1) (pe_glob (v := .ref Z.d) rfl Z.m rfl) rfl))))
          (pss_one (ps_ret pe_bl))
          pss_nil)
      (pss_one (ps_ret (pe_and (pe_cmpR op_eq (pe_callB call_len_seq (by rfl) T.len PySem.boot_len (pa_cons (pv 0) pa_nil)) (pe_op op_add (pe_callB call_len_seq (by rfl) T.len PySem.boot_len (pa_cons (pe_ix ix_kdict (pe_glob (v := .ref Z.d) rfl Z.m rfl) (pv 1) (fun _ _ => rfl)) pa_nil)) pe_int) (nomark _)) (pe_one (pe_callB (cr_all rfl) (by rfl) T.all (by decide +kernel) (pa_cons (pe_lc (own := [("thing", 2)]) (g := gName 2) (tt := tYes) rfl scHasShape.nd (pi_tup (pe_slice sl_tupS (pv 0) (po_some pe_int) po_none)) (blkOk_by (N := nHasShape) (sc := defScope sHasShape) (by decide +kernel)) (fun _ _ _ _ _ => (pg_name (i := 2) scHasShape.nd rfl (Or.inl rfl))) (fun _ _ _ _ _ => pts_nil) (fun _ _ _ _ _ => (pe_call GIsNumber (hr.mono (by first | omega | decide)) (by rfl) cIsNumber.m cIsNumber.F.kp cIsNumber.b .nil pass0 (pa_cons (pv 2) pa_nil)))) pa_nil)))))))), ?_⟩
    refine ⟨_, rfl, v, d, 0, rfl, hv, fun u hu => ?_⟩
    have no : (∀ x, partD d 0 ≠ .str x) → shapeF d = false := fun n => by
      cases d with
      | tup ds =>
        cases ds with
        | nil => rfl
        | cons y r =>
          cases y with
          | str x => exact absurd rfl (n x)
          | _ => rfl
      | _ => rfl
    have no2 : ∀ b, kitB (partD d 0).ty "str" = some b → b = false → shapeF d = false := fun b hb hf => no fun x e => by
      rw [e] at hb
      have z : kitB (D.str x).ty "str" = some true := by dsimp only [DL.D.ty]; decide +kernel
      rw [z] at hb
      cases hb
      cases hf
    cases hy : partD d 0 with
    | str x =>
      rw [hy] at hu
      obtain ⟨r, rfl⟩ : ∃ r, d = .tup (.str x :: r) := by
        cases d with
        | tup ds =>
          cases ds with
          | nil => cases hy
          | cons y r =>
            have e : y = .str x := hy
            exact ⟨r, by rw [e]⟩
        | _ => cases hy
      obtain ⟨a, vs, rfl, ha, hds⟩ : ∃ a vs, v = .ref a ∧ H a = some (.tup vs) ∧ Ats H vs (.str x :: r) := by simpa [At] using hv
      have hvl := hds.len
      obtain ⟨v0, ws, rfl⟩ : ∃ v0 ws, vs = v0 :: ws := by
        cases vs with
        | nil => simp at hvl
        | cons v0 ws => exact ⟨v0, ws, rfl⟩
      have hds : At H v0 (.str x) ∧ Ats H ws r := by simpa [Ats] using hds
      have eu : u = .str x := by simpa [At] using hu
      subst eu
      refine ⟨_, rfl, _, _, _, _, true, rfl, .ty _, hu.ty, kit_ty (by dsimp only [DL.D.ty]; decide +kernel), _, rfl, ?_⟩
      cases hp : partsOf x with
      | none =>
        have es : shapeF (.tup (.str x :: r)) = false := by
          show (match partsOf x with | some ps => decide (r.length = ps.length) && r.all D.num | none => false) = false
          rw [hp]
        rw [es] at k
        exact ⟨_, rfl, _, _, rfl, rfl, O.no x hp, _, rfl, k H (Same.refl _)⟩
      | some ps =>
        have es : shapeF (.tup (.str x :: r)) = (decide (r.length = ps.length) && r.all D.num) := by
          show (match partsOf x with | some ps => decide (r.length = ps.length) && r.all D.num | none => false) = _
          rw [hp]
        rw [es] at k
        obtain ⟨r0, rw0, rp0⟩ := parts_row hp
        obtain ⟨t, z1, z2, z3⟩ := Z.get r0
        rw [rw0] at z1 z2
        rw [rp0] at z3
        refine ⟨_, rfl, _, _, rfl, rfl, z1, _, rfl, ?_⟩
        refine ⟨_, rfl, a, _, rfl, .inr (SqT.of ha), _, rfl, Z.d, _, _, rfl, rfl, z2, t, _, rfl, .inr (z3 H), _, _, rfl, rfl, rfl, _, rfl, ?_⟩
        have hwl := hds.2.len
        have hll := (D.fit_of (.inr rfl) hfit).1
        have hll : r.length + 1 ≤ 100000 := hll
        by_cases hlen : r.length = ps.length
        · rw [decide_eq_true (show V.int (((v0 :: ws).length : Nat) : Int) = V.int (((ps.map V.str).length : Int) + 1) by rw [List.length_cons, List.length_map, hwl, hlen]; rfl)]
          rw [decide_eq_true hlen, Bool.true_and] at k
          refine iteT ⟨_, rfl, _, rfl, a, _, rfl, ha, fun t2 H2 s2 e2 => ?_⟩
          rw [drop1] at e2
          have e2 : H2 t2 = some (.tup ws) := e2
          refine ⟨t2, rfl, ⟨_, SqT.of e2⟩, fun D hD => ?_⟩
          refine lc_tup (K := K) (a := t2) (xs := ws) (fun i H' => H' D = some (.lst (((r.take i).map DL.D.num).map V.bl)) ∧ Same1 H2 H') ⟨upd_same, Same.new hD⟩ (fun i H' _ ⟨_, q⟩ => SqT.of (q _ _ e2)) ?_ ?_
          · rintro i x' H3 hi ⟨hd, s3⟩
            have hil := (List.getElem?_eq_some_iff.mp hi).1
            obtain ⟨u, y, g1, g2, g3⟩ := hds.2.get i (by omega)
            rw [hi] at g1
            have e := Option.some.inj g1
            subst e
            refine ⟨rfl, _, rfl, x', y, rfl, At.sm0 (s2.trans s3) y x' g3, _, hd, szl (by rw [List.length_map, List.length_map, List.length_take]; omega), ?_, Same.mut s3 hD⟩
            rw [upd_same, List.take_add_one, g2, List.map_append, List.map_append]
            rfl
          · rintro H3 ⟨hd, s3⟩
            rw [hwl, List.take_length] at hd
            refine ⟨D, _, rfl, SqL.of hd, ?_⟩
            have ea : (r.map DL.D.num).all id = r.all DL.D.num := by
              rw [List.all_map]
              rfl
            rw [ea]
            exact k _ (s2.trans s3)
        · rw [decide_eq_false (show ¬ V.int (((v0 :: ws).length : Nat) : Int) = V.int (((ps.map V.str).length : Int) + 1) by
            intro z
            injection z with z
            rw [List.length_cons, List.length_map, hwl] at z
            omega)]
          rw [decide_eq_false hlen, Bool.false_and] at k
          exact iteF (k H (Same.refl _))
    | non =>
      rw [hy] at hu
      rw [no fun x e => by rw [hy] at e; cases e] at k
      exact ⟨_, rfl, _, _, _, _, false, rfl, .ty _, hu.ty, kit_ty (by dsimp only [DL.D.ty]; decide +kernel), _, rfl, k H (Same.refl _)⟩
    | bl b =>
      rw [hy] at hu
      rw [no fun x e => by rw [hy] at e; cases e] at k
      exact ⟨_, rfl, _, _, _, _, false, rfl, .ty _, hu.ty, kit_ty (by dsimp only [DL.D.ty]; decide +kernel), _, rfl, k H (Same.refl _)⟩
    | int i =>
      rw [hy] at hu
      rw [no fun x e => by rw [hy] at e; cases e] at k
      exact ⟨_, rfl, _, _, _, _, false, rfl, .ty _, hu.ty, kit_ty (by dsimp only [DL.D.ty]; decide +kernel), _, rfl, k H (Same.refl _)⟩
    | lst l =>
      rw [hy] at hu
      rw [no fun x e => by rw [hy] at e; cases e] at k
      exact ⟨_, rfl, _, _, _, _, false, rfl, .ty _, hu.ty, kit_ty (by dsimp only [DL.D.ty]; decide +kernel), _, rfl, k H (Same.refl _)⟩
    | tup l =>
      rw [hy] at hu
      rw [no fun x e => by rw [hy] at e; cases e] at k
      exact ⟨_, rfl, _, _, _, _, false, rfl, .ty _, hu.ty, kit_ty (by dsimp only [DL.D.ty]; decide +kernel), _, rfl, k H (Same.refl _)⟩
end
end DL
namespace DL
open PySem PySem.Spec L2 DLR
abbrev IBP (K : Frg) (mg : Str → Option Value) (C : Addr) := ErI K mg "BadProgram" "BadProgram.__init__" C sBPInit ["self", "row", "why"]
theorem small_m1 : Sm (-1) := by unfold Sm; decide
theorem small_nat {n : Nat} (h : n < 1000000) : Sm (n : Int) := by
  unfold Sm
  show n.log2 < 1920
  by_cases e : n = 0
  · subst e
    decide
  · exact Nat.lt_of_lt_of_le ((Nat.log2_lt e).mpr (Nat.lt_of_lt_of_le h (by decide : 1000000 ≤ 2 ^ 20))) (by decide)
def spCheckRowD (BP : Addr) : Sp := fun vs H Q E => ∃ (v : V) (d : D) (c : Addr) (n W N : Nat) (kvs : List (Key × V)), vs = [v, .int (n : Int), .ref c] ∧ At H v d ∧ d.fit ∧ n < 1000000 ∧
  H c = some (.dK kvs) ∧ valV kvs kWo = some (.int (W : Int)) ∧ valV kvs kNx = some (.int (N : Int)) ∧ (∀ y, rowF W N d = some y → BadP BP H E (n : Int) y) ∧ (rowF W N d = none → ∀ H', Same1 H H' → Q .non H')
def spCheckProgramD (BP : Addr) : Sp := fun vs H Q E => ∃ (v : V) (d : D), vs = [v] ∧ At H v d ∧ d.fit ∧ (∀ r y, progF d = some (r, y) → BadP BP H E r y) ∧ (progF d = none → ∀ H', Same1 H H' → Q .non H')
theorem parts_two {x : Str} {ps : List Str} (h : partsOf x = some ps) {n : Str} (hn : n ∈ ps) : n = "worth" ∨ n = "next" := by
  obtain ⟨r, _, rfl⟩ := parts_row h
  cases r <;> simp [Row.parts] at hn <;> first | exact hn | exact .inr hn
theorem parts_short {x : Str} {ps : List Str} (h : partsOf x = some ps) {n : Str} (hn : n ∈ ps) : n.length ≤ 1000 := by
  rcases parts_two h hn with rfl | rfl <;> decide +kernel
theorem part_fit {d : D} (h : d.fit) (j : Nat) : (partD d j).fit := by
  cases d with
  | tup ds =>
    show (ds.getD j .non).fit
    rw [List.getD_eq_getElem?_getD]
    cases q : ds[j]? with
    | none => simp [D.fit]
    | some z => exact fitL_iff.mp (D.fit_of (.inr rfl) h).2 z (List.mem_of_getElem? q)
  | _ => simp [partD, D.fit]
theorem BadP.to {BP : Addr} {H H1 : Hp} {E : XK} {r : Int} {y : Str} (h : BadP BP H E r y) (s : Same1 H H1) : BadP BP H1 E r y := fun d H' hd s' e => h d H' (s.free hd) (s.trans s') e
section
variable {P : Program} {w : World} {K : PySem.W.Frag} {mg : Str → Option Value} {base : Heap} {CB : Addr}
theorem ok_checkWorthsD (BP : IBP K mg CB) (GBP : FnOk P w K mg base CX0 1 BP.f BP.fd ["self", "row", "why"] (spBP CB)) (c : FCheckWorths K mg) (cIsBetween : FIsBetween K mg) (cIsNumber : FIsNumber K mg) (T : Bt mg) (C : Cn mg) : FnOk P w K mg base (L2.CX P w) 3 c.f c.fd ["worths"] (spCheckWorthsD CB) := by
  have GIsBetween : FnOk P w K mg base CX0 2 cIsBetween.f cIsBetween.fd ["thing", "low", "high"] spBetweenD := ok_isBetweenD cIsBetween cIsNumber T
  refine c.F.okX scCheckWorths (fun vs H Q E h => ?_) (fun cdv A outer s H vs Q E hr h => ?_)
  · obtain ⟨v, d, rfl, _⟩ := h
    rfl
  · obtain ⟨v, d, rfl, hv, hfit, ke, k⟩ := h
    refine ⟨_, (pss_cons (ps_if (PW.pt (pw_or (pt_not (pt_val (pe_callB call_isi (by rfl) T.isinstance (by decide +kernel) (pa_cons (pv 0) (pa_cons (pe_bltn (v := .ty "tuple") (by rfl) T.tuple (by decide +kernel) rfl) pa_nil))))) (pw_or1 (pt_cmpR op_gt (pe_callB call_len_seq (by rfl) T.len PySem.boot_len (pa_cons (pv 0) pa_nil)) (pe_glob rfl C.mW relI) (nomark _)))))
          (pss_one (ps_raise rfl (takes_of rfl rfl rfl rfl) (L2.pmk_oex BP.T BP.iC BP.tI GBP (hr.mono (by first | omega | decide)) BP.b .nil pass0 (by rfl) BP.m (pa_cons (pe_un un_neg pe_int) (pa_cons pe_str pa_nil)))))
          pss_nil)
      (pss_one (ps_for (L2.passes_of rfl) rfl (pi_tup (pv 0)) (pg_name (i := 1) scCheckWorths.nd rfl (Or.inl rfl))
          (pss_one (ps_if (pt_not (pt_val (pe_call GIsBetween (hr.mono (by first | omega | decide)) (by rfl) cIsBetween.m cIsBetween.F.kp cIsBetween.b .nil pass0 (pa_cons (pv 1) (pa_cons (pe_un un_neg (pe_glob rfl C.mN relI)) (pa_cons (pe_glob rfl C.mN relI) pa_nil))))))
              (pss_one (ps_raise rfl (takes_of rfl rfl rfl rfl) (L2.pmk_oex BP.T BP.iC BP.tI GBP (hr.mono (by first | omega | decide)) BP.b .nil pass0 (by rfl) BP.m (pa_cons (pe_un un_neg pe_int) (pa_cons pe_str pa_nil)))))
              pss_nil))))), ?_⟩
    cases d with
    | tup ds =>
      obtain ⟨a, xs, rfl, h1, h2⟩ : ∃ a vs, v = .ref a ∧ H a = some (.tup vs) ∧ Ats H vs ds := by simpa [At] using hv
      have hl := h2.len
      refine ⟨_, rfl, _, _, _, _, true, rfl, .ty _, .base (.tup h1), kit_ty (by decide +kernel), _, rfl, ?_⟩
      refine ⟨_, rfl, a, _, rfl, .inr (SqT.of h1), _, _, rfl, rfl, _, rfl, ?_⟩
      by_cases h8 : ds.length ≤ 8
      · rw [decide_eq_false (show ¬ (8 : Int) < (xs.length : Int) by omega)]
        refine iteF ⟨_, rfl, a, rfl, ⟨_, SqT.of h1⟩, for_tup (K := K) (a := a) (xs := xs) (fun i σ H' => ∃ x : Option V, σ = [some (.ref a), x] ∧ H' = H ∧ (ds.take i).all (D.betw (-1000000) 1000000) = true) ⟨_, rfl, rfl, rfl⟩ (fun i σ H' _ ⟨_, _, e, _⟩ => by rw [e]; exact SqT.of h1) ?_ ?_⟩
        · rintro i x σ H' hi ⟨y, rfl, rfl, hall⟩
          have hil := (List.getElem?_eq_some_iff.mp hi).1
          obtain ⟨u, z, g1, g2, g3⟩ := h2.get i (by omega)
          rw [hi] at g1
          have e := Option.some.inj g1
          subst e
          refine ⟨_, rfl, _, rfl, x, z, _, _, rfl, g3, _, rfl, ?_⟩
          cases hb : z.betw (-1000000) 1000000 with
          | true =>
            refine iteF ⟨_, rfl, rfl, ?_⟩
            rw [List.take_add_one, g2, List.all_append, hall]
            show (true && (z.betw (-1000000) 1000000 && true)) = true
            rw [hb]
            rfl
          | false =>
            refine iteT ⟨_, rfl, toldBP ⟨small_m1, by decide +kernel⟩ (ke _ ?_)⟩
            show (if ds.length ≤ 8 then _ else _) = _
            rw [if_pos h8, if_neg fun q => ?_]
            have q2 := List.all_eq_true.mp q z (List.mem_of_getElem? g2)
            rw [hb] at q2
            cases q2
        · rintro σ H' ⟨y, rfl, rfl, hall⟩
          rw [hl, List.take_length] at hall
          exact k (by show (if ds.length ≤ 8 then _ else _) = _; rw [if_pos h8, if_pos hall])
      · rw [decide_eq_true (show (8 : Int) < (xs.length : Int) by omega)]
        refine iteT ⟨_, rfl, toldBP ⟨small_m1, by decide +kernel⟩ (ke _ ?_)⟩
        show (if ds.length ≤ 8 then _ else _) = _
        rw [if_neg h8]
    | non => exact ⟨_, rfl, _, _, _, _, false, rfl, .ty _, hv.ty, kit_ty (by dsimp only [DL.D.ty]; decide +kernel), _, rfl, iteT ⟨_, rfl, toldBP ⟨small_m1, by decide +kernel⟩ (ke _ rfl)⟩⟩
    | bl b => exact ⟨_, rfl, _, _, _, _, false, rfl, .ty _, hv.ty, kit_ty (by dsimp only [DL.D.ty]; decide +kernel), _, rfl, iteT ⟨_, rfl, toldBP ⟨small_m1, by decide +kernel⟩ (ke _ rfl)⟩⟩
    | int i => exact ⟨_, rfl, _, _, _, _, false, rfl, .ty _, hv.ty, kit_ty (by dsimp only [DL.D.ty]; decide +kernel), _, rfl, iteT ⟨_, rfl, toldBP ⟨small_m1, by decide +kernel⟩ (ke _ rfl)⟩⟩
    | str x => exact ⟨_, rfl, _, _, _, _, false, rfl, .ty _, hv.ty, kit_ty (by dsimp only [DL.D.ty]; decide +kernel), _, rfl, iteT ⟨_, rfl, toldBP ⟨small_m1, by decide +kernel⟩ (ke _ rfl)⟩⟩
    | lst l => exact ⟨_, rfl, _, _, _, _, false, rfl, .ty _, hv.ty, kit_ty (by dsimp only [DL.D.ty]; decide +kernel), _, rfl, iteT ⟨_, rfl, toldBP ⟨small_m1, by decide +kernel⟩ (ke _ rfl)⟩⟩
theorem ok_checkRowD (BP : IBP K mg CB) (GBP : FnOk P w K mg base CX0 1 BP.f BP.fd ["self", "row", "why"] (spBP CB)) (c : FCheckRow K mg) (cHasShape : FHasShape K mg) (cPart : FPart K mg) (cIsNumber : FIsNumber K mg) (T : Bt mg) (Z : Pt K w mg) (O : PtO K Z) : FnOk P w K mg base (L2.CX P w) 3 c.f c.fd ["row", "number", "counts"] (spCheckRowD CB) := by
  have GHasShape : FnOk P w K mg base CX0 2 cHasShape.f cHasShape.fd ["row"] spHasShapeD := ok_hasShapeD cHasShape cPart cIsNumber T Z O
  refine c.F.okX scCheckRow (fun vs H Q E h => ?_) (fun cdv A outer s H vs Q E hr h => ?_)
  · obtain ⟨v, d, c, n, W, N, kvs, rfl, _⟩ := h
    rfl
  · obtain ⟨v, d, cc, n, W, N, kvs, rfl, hv, hfit, hn6, hc, hW, hN, ke, k⟩ := h
    refine ⟨_, (pss_cons (ps_if (pt_not (pt_val (pe_call GHasShape (hr.mono (by first | omega | decide)) (by rfl) cHasShape.m cHasShape.F.kp cHasShape.b .nil pass0 (pa_cons (pv 0) pa_nil))))
          (pss_one (ps_raise rfl (takes_of rfl rfl rfl rfl) (L2.pmk_oex BP.T BP.iC BP.tI GBP (hr.mono (by first | omega | decide)) BP.b .nil pass0 (by rfl) BP.m (pa_cons (pv 1) (pa_cons pe_str pa_nil)))))
          pss_nil)
      (pss_one (ps_for (L2.passes_of rfl) rfl (RZ.pi_zipA (by rfl) T.zip (pa_cons (pe_ix ix_kdict (pe_glob (v := .ref Z.d) rfl Z.m rfl) (pe_ix ix_tup (pv 0) pe_int (fun _ _ => rfl)) (fun _ _ => rfl)) (pa_cons (pe_slice sl_tupS (pv 0) (po_some pe_int) po_none) pa_nil))) (pg_tup rfl (pgs_cons (pg_name (i := 3) scCheckRow.nd rfl (Or.inl rfl)) (pgs_cons (pg_name (i := 4) scCheckRow.nd rfl (Or.inl rfl)) pgs_nil)))
          (pss_one (ps_if (pt_not (pt_chain op_le op_lt pe_int (pv 4) (pe_dget (hu_of hr) (pv 2) (pv 3) (fun _ _ => rfl))))
              (pss_one (ps_raise rfl (takes_of rfl rfl rfl rfl) (L2.pmk_oex BP.T BP.iC BP.tI GBP (hr.mono (by first | omega | decide)) BP.b .nil pass0 (by rfl) BP.m (pa_cons (pv 1) (pa_cons (pv 3) pa_nil)))))
              pss_nil))))), ?_⟩
    refine ⟨_, rfl, v, d, rfl, hv, hfit, fun H1 s1 => ⟨_, rfl, ?_⟩⟩
    cases hs : shapeF d with
    | false =>
      have er : rowF W N d = some "shape" := by
        unfold rowF
        rw [hs]
        rfl
      exact iteT ⟨_, rfl, toldBP ⟨small_nat hn6, by decide +kernel⟩ ((ke _ er).to s1)⟩
    | true =>
      refine iteF ?_
      obtain ⟨x, r, rfl⟩ : ∃ x r, d = .tup (.str x :: r) := by
        cases d with
        | tup ds =>
          cases ds with
          | nil => cases hs
          | cons y r =>
            cases y with
            | str x => exact ⟨x, r, rfl⟩
            | _ => cases hs
        | _ => cases hs
      obtain ⟨a, vs, rfl, ha, hds⟩ : ∃ a vs, v = .ref a ∧ H a = some (.tup vs) ∧ Ats H vs (.str x :: r) := by simpa [At] using hv
      have hvl := hds.len
      obtain ⟨v0, ws, rfl⟩ : ∃ v0 ws, vs = v0 :: ws := by
        cases vs with
        | nil => simp at hvl
        | cons v0 ws => exact ⟨v0, ws, rfl⟩
      have hds : At H v0 (.str x) ∧ Ats H ws r := by simpa [Ats] using hds
      have ev0 : v0 = .str x := by simpa [At] using hds.1
      subst ev0
      have hwl := hds.2.len
      obtain ⟨ps, hp, hlen, hnum⟩ : ∃ ps, partsOf x = some ps ∧ r.length = ps.length ∧ r.all D.num = true := by
        have hs : (match partsOf x with | some ps => decide (r.length = ps.length) && r.all D.num | none => false) = true := hs
        cases hp : partsOf x with
        | none => rw [hp] at hs; cases hs
        | some ps =>
          rw [hp] at hs
          have hs : (decide (r.length = ps.length) && r.all D.num) = true := hs
          obtain ⟨q1, q2⟩ := Bool.and_eq_true_iff.mp hs
          exact ⟨ps, rfl, of_decide_eq_true q1, q2⟩
      obtain ⟨r0, rw0, rp0⟩ := parts_row hp
      obtain ⟨t, z1, z2, z3⟩ := Z.get r0
      rw [rw0] at z1 z2
      rw [rp0] at z3
      have erow : rowF W N (.tup (.str x :: r)) = argsF W N ps r := by
        show (if shapeF (.tup (.str x :: r)) = true then argsF W N ((partsOf x).getD []) r else some "shape") = _
        rw [if_pos hs, hp]
        rfl
      rw [erow] at ke k
      have ha1 := s1 _ _ ha
      refine ⟨_, rfl, a, _, _, _, rfl, rfl, SqT.of ha1, at0, Z.d, _, _, rfl, rfl, z2, _, rfl, _, rfl, a, _, rfl, ha1, fun t2 H2 s2 e2 => ?_⟩
      rw [drop1] at e2
      have e2 : H2 t2 = some (.tup ws) := e2
      have S2 := s1.trans s2
      refine ⟨t, t2, _, _, rfl, .inr ⟨z3 H2, SqT.of e2, RZ.for_zipT (by rw [List.length_map]; omega) (fun i σ H' => ∃ x3 x4 : Option V, σ = [some (.ref a), some (.int (n : Int)), some (.ref cc), x3, x4] ∧ Same1 H2 H' ∧ argsF W N ps r = argsF W N (ps.drop i) (r.drop i)) ⟨none, none, rfl, Same.refl _, rfl⟩
        (fun i σ H' ⟨_, _, _, q, _⟩ => ⟨z3 H', SqT.of (q _ _ e2)⟩) ?_ ?_⟩⟩
      · rintro i xv y T' σ H3 hx hy ⟨x3, x4, rfl, s3, eA⟩ hT'
        rw [List.getElem?_map] at hx
        cases hpi : ps[i]? with
        | none => rw [hpi] at hx; cases hx
        | some nm =>
        rw [hpi] at hx
        have ex : V.str nm = xv := Option.some.inj hx
        subst ex
        have hil := (List.getElem?_eq_some_iff.mp hy).1
        obtain ⟨u, z, g1, g2, g3⟩ := hds.2.get i (by omega)
        rw [hy] at g1
        have e := Option.some.inj g1
        subst e
        obtain ⟨m, rfl, rfl⟩ := g3.numI (List.all_eq_true.mp hnum z (List.mem_of_getElem? g2))
        have hdp : ps.drop i = nm :: ps.drop (i + 1) := by
          obtain ⟨hi, e⟩ := List.getElem?_eq_some_iff.mp hpi
          rw [← e]
          exact List.drop_eq_getElem_cons hi
        have hdr : r.drop i = .int m :: r.drop (i + 1) := by
          obtain ⟨hi, e⟩ := List.getElem?_eq_some_iff.mp g2
          rw [← e]
          exact List.drop_eq_getElem_cons hi
        rw [hdp, hdr] at eA
        have eA : argsF W N ps r = if 0 ≤ m ∧ m < (if nm = "worth" then (W : Int) else (N : Int)) then argsF W N (ps.drop (i + 1)) (r.drop (i + 1)) else some nm := eA
        refine alloc hT' fun H4 s4 e4 => ?_
        have S4 : Same1 H H4 := (S2.trans s3).trans s4
        have hc4 := S4 _ _ hc
        have nml : nm.length ≤ 1000 := parts_short hp (List.mem_of_getElem? hpi)
        refine ⟨T', _, rfl, SqT.of e4, rfl, _, _, rfl, _, _, rfl, rfl, ?_⟩
        refine ⟨_, rfl, _, _, rfl, rfl, _, rfl, ?_⟩
        by_cases m0 : 0 ≤ m
        · rw [decide_eq_true m0]
          have hkey : ∃ cnt : Int, valV kvs (.inr nm) = some (.int cnt) ∧ cnt = (if nm = "worth" then (W : Int) else (N : Int)) := by
            rcases parts_two hp (List.mem_of_getElem? hpi) with rfl | rfl
            · exact ⟨_, hW, by rw [if_pos rfl]⟩
            · exact ⟨_, hN, by rw [if_neg (by decide +kernel)]⟩
          obtain ⟨cnt, hv1, hv2⟩ := hkey
          rw [← hv2] at eA
          refine iteT ⟨_, rfl, _, rfl, cc, _, rfl, dget (k := .inr nm) hc4 hv1, _, _, rfl, rfl, _, rfl, ?_⟩
          by_cases m1 : m < cnt
          · rw [decide_eq_true m1]
            rw [if_pos ⟨m0, m1⟩] at eA
            exact iteF ⟨_, _, rfl, s3.trans s4, eA⟩
          · rw [decide_eq_false m1]
            rw [if_neg fun q => m1 q.2] at eA
            exact iteT ⟨_, rfl, _, rfl, toldBP ⟨small_nat hn6, nml⟩ ((ke _ eA).to S4)⟩
        · rw [decide_eq_false m0]
          rw [if_neg fun q => m0 q.1] at eA
          refine iteF ?_
          exact ⟨_, rfl, iteT ⟨_, rfl, _, rfl, toldBP ⟨small_nat hn6, nml⟩ ((ke _ eA).to S4)⟩⟩
      · rintro σ H3 ⟨x3, x4, rfl, s3, eA⟩
        refine k ?_ _ (S2.trans s3)
        rw [eA, List.drop_eq_nil_of_le (by rw [List.length_map]; exact Nat.le_refl _)]
        rfl
theorem ok_checkProgramD (BP : IBP K mg CB) (GBP : FnOk P w K mg base CX0 1 BP.f BP.fd ["self", "row", "why"] (spBP CB)) (c : FCheckProgram K mg) (cCheckRow : FCheckRow K mg) (cCheckWorths : FCheckWorths K mg) (cHasShape : FHasShape K mg) (cPart : FPart K mg) (cIsBetween : FIsBetween K mg) (cIsNumber : FIsNumber K mg) (T : Bt mg) (C : Cn mg) (Z : Pt K w mg) (O : PtO K Z) : FnOk P w K mg base (L2.CX P w) 4 c.f c.fd ["program"] (spCheckProgramD CB) := by
  have GCheckRow : FnOk P w K mg base (L2.CX P w) 3 cCheckRow.f cCheckRow.fd ["row", "number", "counts"] (spCheckRowD CB) := ok_checkRowD BP GBP cCheckRow cHasShape cPart cIsNumber T Z O
  have GCheckWorths : FnOk P w K mg base (L2.CX P w) 3 cCheckWorths.f cCheckWorths.fd ["worths"] (spCheckWorthsD CB) := ok_checkWorthsD BP GBP cCheckWorths cIsBetween cIsNumber T C
  have GPart : FnOk P w K mg base CX0 1 cPart.f cPart.fd ["whole", "at"] spPartD := ok_partD cPart T
  refine c.F.okX scCheckProgram (fun vs H Q E h => ?_) (fun cdv A outer s H vs Q E hr h => ?_)
  · obtain ⟨v, d, rfl, _⟩ := h
    rfl
  · obtain ⟨v, d, rfl, hv, hfit, ke, k⟩ := h
    refine ⟨_, (pss_cons (ps_expr (pe_call GCheckWorths (hr.mono (by first | omega | decide)) (by rfl) cCheckWorths.m cCheckWorths.F.kp cCheckWorths.b .nil (L2.passes_call (takes_of rfl rfl rfl rfl) (fun _ _ _ _ h => h)) (pa_cons (pe_call GPart (hr.mono (by first | omega | decide)) (by rfl) cPart.m cPart.F.kp cPart.b .nil pass0 (pa_cons (pv 0) (pa_cons pe_int pa_nil))) pa_nil)))
      (pss_cons (ps_set (i := 1) scCheckProgram.nd rfl (Or.inl rfl) (pe_call GPart (hr.mono (by first | omega | decide)) (by rfl) cPart.m cPart.F.kp cPart.b .nil pass0 (pa_cons (pv 0) (pa_cons pe_int pa_nil))))
      (pss_cons (ps_if (PW.pt (pw_or (pt_not (pt_val (pe_callB call_isi (by rfl) T.isinstance (by decide +kernel) (pa_cons (pv 1) (pa_cons (pe_bltn (v := .ty "tuple") (by rfl) T.tuple (by decide +kernel) rfl) pa_nil))))) (pw_or (pt_cmpR op_ne (pe_callB call_len_seq (by rfl) T.len PySem.boot_len (pa_cons (pv 0) pa_nil)) pe_int (nomark _)) (pw_or1 (pt_not (pt_chain op_le op_le pe_int (pe_callB call_len_seq (by rfl) T.len PySem.boot_len (pa_cons (pv 1) pa_nil)) (pe_glob rfl C.mR relI)))))))
          (pss_one (ps_raise rfl (takes_of rfl rfl rfl rfl) (L2.pmk_oex BP.T BP.iC BP.tI GBP (hr.mono (by first | omega | decide)) BP.b .nil pass0 (by rfl) BP.m (pa_cons (pe_un un_neg pe_int) (pa_cons pe_str pa_nil)))))
          pss_nil)
      (pss_one (ps_for (L2.passes_of rfl) rfl (pi_enumT (by rfl) T.enumerate (pa_cons (pv 1) pa_nil)) (pg_tup rfl (pgs_cons (pg_name (i := 2) scCheckProgram.nd rfl (Or.inl rfl)) (pgs_cons (pg_name (i := 3) scCheckProgram.nd rfl (Or.inl rfl)) pgs_nil)))
          (pss_one (ps_expr (pe_call GCheckRow (hr.mono (by first | omega | decide)) (by rfl) cCheckRow.m cCheckRow.F.kp cCheckRow.b .nil (L2.passes_call (takes_of rfl rfl rfl rfl) (fun _ _ _ _ h => h)) (pa_cons (pv 3) (pa_cons (pv 2) (pa_cons (pe_disp (pps_cons pe_str (pe_callB call_len_seq (by rfl) T.len PySem.boot_len (pa_cons (pe_ix ix_tup (pv 0) pe_int (fun _ _ => rfl)) pa_nil)) (pps_cons pe_str (pe_callB call_len_seq (by rfl) T.len PySem.boot_len (pa_cons (pv 1) pa_nil)) pps_nil)) (by rfl) (by rfl) (fun z => by cases z) (by decide)) pa_nil))))))))))), ?_⟩
    refine ⟨_, rfl, v, d, 0, rfl, hv, fun u0 hu0 => ?_⟩
    have ewp : ∀ y, worthsF (partD d 0) = some y → progF d = some (-1, y) := fun y hy => by
      unfold progF
      rw [hy]
    refine ⟨u0, partD d 0, rfl, hu0, part_fit hfit 0, fun y hy => ke _ _ (ewp y hy), fun hw => ?_⟩
    refine ⟨_, rfl, v, d, 1, rfl, hv, fun u1 hu1 => ?_⟩
    obtain ⟨wd, hwd⟩ : ∃ wd, partD d 0 = .tup wd := by
      cases hp : partD d 0 with
      | tup wd => exact ⟨wd, rfl⟩
      | _ => rw [hp] at hw; cases hw
    obtain ⟨ds, rfl⟩ : ∃ ds, d = .tup ds := by
      cases d with
      | tup ds => exact ⟨ds, rfl⟩
      | _ => cases hwd
    obtain ⟨a, vs, rfl, ha, hds⟩ : ∃ a vs, v = .ref a ∧ H a = some (.tup vs) ∧ Ats H vs ds := by simpa [At] using hv
    have hvl := hds.len
    have d0 : ds[0]? = some (.tup wd) := by
      have e : ds.getD 0 .non = .tup wd := hwd
      rw [List.getD_eq_getElem?_getD] at e
      cases q : ds[0]? with
      | none => rw [q] at e; cases e
      | some z => rw [q] at e; exact congrArg some e
    obtain ⟨v0, z0, q0, q1, q2⟩ := hds.get 0 (List.getElem?_eq_some_iff.mp d0).1
    obtain rfl : z0 = .tup wd := Option.some.inj (q1.symm.trans d0)
    obtain ⟨wa, wvs, rfl, hwa, hws⟩ : ∃ a vs, v0 = .ref a ∧ H a = some (.tup vs) ∧ Ats H vs wd := by simpa [At] using q2
    have hwl := hws.len
    have rows_ : ∀ {rs : List D}, partD (.tup ds) 1 = .tup rs → progF (.tup ds) = if ds.length = 2 ∧ 1 ≤ rs.length ∧ rs.length ≤ 40 then (rowsF wd.length rs.length 0 rs).map fun q => ((q.1 : Int), q.2) else some ((-1 : Int), ("rows" : Str)) := fun {rs} e => by
      unfold progF
      rw [hw]
      dsimp only
      rw [e, hwd]
      rfl
    have nrows : (∀ rs, partD (.tup ds) 1 ≠ .tup rs) → progF (.tup ds) = some ((-1 : Int), ("rows" : Str)) := fun n => by
      unfold progF
      rw [hw]
      dsimp only
      cases e : partD (.tup ds) 1 with
      | tup rs => exact absurd e (n rs)
      | _ => rfl
    cases e1 : partD (.tup ds) 1 with
    | tup rs =>
      rw [e1] at hu1
      have er := rows_ e1
      obtain ⟨ra, rvs, rfl, hra, hrs⟩ : ∃ a vs, u1 = .ref a ∧ H a = some (.tup vs) ∧ Ats H vs rs := by simpa [At] using hu1
      have hrl := hrs.len
      have rfit : (D.tup rs).fit := e1 ▸ part_fit hfit 1
      have rbig := (D.fit_of (.inr rfl) rfit).1
      refine ⟨_, rfl, _, _, _, _, true, rfl, .ty _, .base (.tup hra), kit_ty (by decide +kernel), _, rfl, ?_⟩
      refine ⟨_, rfl, a, _, rfl, .inr (SqT.of ha), rfl, _, rfl, ?_⟩
      by_cases h2 : ds.length = 2
      · rw [decide_eq_true (show V.int ((vs.length : Nat) : Int) = V.int 2 by rw [hvl, h2]; rfl)]
        refine iteF ⟨_, rfl, ra, _, rfl, .inr (SqT.of hra), _, _, rfl, rfl, _, rfl, ?_⟩
        by_cases h1 : 1 ≤ rs.length
        · rw [hrl, decide_eq_true (show (1 : Int) ≤ (rs.length : Int) by omega)]
          refine iteT ⟨_, _, rfl, rfl, _, rfl, ?_⟩
          by_cases h40 : rs.length ≤ 40
          · rw [decide_eq_true (show (rs.length : Int) ≤ 40 by omega)]
            rw [if_pos ⟨h2, h1, h40⟩] at er
            refine iteF ?_
            refine ⟨_, rfl, ra, _, rfl, SqT.of hra, for_enumT (K := K) (a := ra) (xs := rvs) (fun i σ H' => ∃ x2 x3 : Option V, σ = [some (.ref a), some (.ref ra), x2, x3] ∧ Same1 H H' ∧ rowsF wd.length rs.length 0 rs = rowsF wd.length rs.length i (rs.drop i)) ⟨none, none, rfl, Same.refl _, rfl⟩
              (fun i σ H' ⟨_, _, _, q, _⟩ => SqT.of (q _ _ hra)) ?_ ?_⟩
            · rintro i x T' σ H1 hi ⟨x2, x3, rfl, s1, eR⟩ hT'
              have hil := (List.getElem?_eq_some_iff.mp hi).1
              obtain ⟨u, z, g1, g2, g3⟩ := hrs.get i (by omega)
              rw [hi] at g1
              have e := Option.some.inj g1
              subst e
              have hdr : rs.drop i = z :: rs.drop (i + 1) := by
                obtain ⟨hi, e⟩ := List.getElem?_eq_some_iff.mp g2
                rw [← e]
                exact List.drop_eq_getElem_cons hi
              rw [hdr] at eR
              refine alloc hT' fun H2 s2 e2 => ?_
              have S2 := s1.trans s2
              refine ⟨T', _, rfl, SqT.of e2, rfl, _, _, rfl, _, _, rfl, rfl, ?_⟩
              refine ⟨_, rfl, _, rfl, fun c1 hc1 => ?_⟩
              refine alloc hc1 fun H3 s3 e3 => ?_
              have S3 := S2.trans s3
              refine ⟨_, rfl, a, _, _, _, rfl, rfl, SqT.of (S3 _ _ ha), atI_nat (j := 0) q0, wa, _, rfl, .inr (SqT.of (S3 _ _ hwa)), _, rfl, ra, _, rfl, .inr (SqT.of (S3 _ _ hra)), e3,
                [(kWo, .int ((wvs.length : Nat) : Int)), (kNx, .int ((rvs.length : Nat) : Int))], rfl, (by show 2 ≤ 15; decide), ?_⟩
              have em : mergeK [] [(kWo, .int ((wvs.length : Nat) : Int)), (kNx, .int ((rvs.length : Nat) : Int))] = putK (putK [] kWo (.int (wd.length : Int))) kNx (.int (rs.length : Int)) := by
                rw [hwl, hrl]
                rfl
              rw [em]
              have S4 : Same1 H (upd H3 c1 (.dK (putK (putK [] kWo (.int (wd.length : Int))) kNx (.int (rs.length : Int))))) := Same.mut S3 (S2.free hc1)
              refine ⟨x, z, c1, i, wd.length, rs.length, putK (putK [] kWo (.int (wd.length : Int))) kNx (.int (rs.length : Int)), rfl, At.sm0 S4 z x g3, fitL_iff.mp (D.fit_of (.inr rfl) rfit).2 _ (List.mem_of_getElem? g2), by omega, upd_same, ?_, ?_, fun y hy => ?_, fun hn H5 s5 => ⟨_, _, rfl, S4.trans s5, ?_⟩⟩
              · rw [valV_put, if_neg k_WN, valV_put, if_pos rfl]
              · rw [valV_put, if_pos rfl]
              · refine (ke _ _ ?_).to S4
                rw [er, eR]
                show (match rowF wd.length rs.length z with | some y => some (i, y) | none => _).map _ = _
                rw [hy]
                rfl
              · rw [eR]
                show (match rowF wd.length rs.length z with | some y => some (i, y) | none => _) = _
                rw [hn]
            · rintro σ H1 ⟨x2, x3, rfl, s1, eR⟩
              refine k ?_ _ s1
              rw [er, eR, List.drop_eq_nil_of_le (by omega)]
              rfl
          · rw [decide_eq_false (show ¬ (rs.length : Int) ≤ 40 by omega)]
            rw [if_neg fun q => h40 q.2.2] at er
            exact iteT ⟨_, rfl, toldBP ⟨small_m1, by decide +kernel⟩ (ke _ _ er)⟩
        · rw [hrl, decide_eq_false (show ¬ (1 : Int) ≤ (rs.length : Int) by omega)]
          rw [if_neg fun q => h1 q.2.1] at er
          refine iteF ?_
          exact ⟨_, rfl, iteT ⟨_, rfl, toldBP ⟨small_m1, by decide +kernel⟩ (ke _ _ er)⟩⟩
      · rw [decide_eq_false (show ¬ V.int ((vs.length : Nat) : Int) = V.int 2 from fun z => by injection z with z; omega)]
        rw [if_neg fun q => h2 q.1] at er
        exact iteT ⟨_, rfl, toldBP ⟨small_m1, by decide +kernel⟩ (ke _ _ er)⟩
    | non =>
      rw [e1] at hu1
      exact ⟨_, rfl, _, _, _, _, false, rfl, .ty _, hu1.ty, kit_ty (by dsimp only [DL.D.ty]; decide +kernel), _, rfl, iteT ⟨_, rfl, toldBP ⟨small_m1, by decide +kernel⟩ (ke _ _ (nrows fun rs e => by rw [e1] at e; cases e))⟩⟩
    | bl b =>
      rw [e1] at hu1
      exact ⟨_, rfl, _, _, _, _, false, rfl, .ty _, hu1.ty, kit_ty (by dsimp only [DL.D.ty]; decide +kernel), _, rfl, iteT ⟨_, rfl, toldBP ⟨small_m1, by decide +kernel⟩ (ke _ _ (nrows fun rs e => by rw [e1] at e; cases e))⟩⟩
    | int i =>
      rw [e1] at hu1
      exact ⟨_, rfl, _, _, _, _, false, rfl, .ty _, hu1.ty, kit_ty (by dsimp only [DL.D.ty]; decide +kernel), _, rfl, iteT ⟨_, rfl, toldBP ⟨small_m1, by decide +kernel⟩ (ke _ _ (nrows fun rs e => by rw [e1] at e; cases e))⟩⟩
    | str x =>
      rw [e1] at hu1
      exact ⟨_, rfl, _, _, _, _, false, rfl, .ty _, hu1.ty, kit_ty (by dsimp only [DL.D.ty]; decide +kernel), _, rfl, iteT ⟨_, rfl, toldBP ⟨small_m1, by decide +kernel⟩ (ke _ _ (nrows fun rs e => by rw [e1] at e; cases e))⟩⟩
    | lst l =>
      rw [e1] at hu1
      exact ⟨_, rfl, _, _, _, _, false, rfl, .ty _, hu1.ty, kit_ty (by dsimp only [DL.D.ty]; decide +kernel), _, rfl, iteT ⟨_, rfl, toldBP ⟨small_m1, by decide +kernel⟩ (ke _ _ (nrows fun rs e => by rw [e1] at e; cases e))⟩⟩
end
end DL
namespace DL
open PySem PySem.Spec PyProof.Rows L2 DLR LamX
/-! ### _law_told of refusals that have fields -/
structure KnF (K : Frg) {mg : Str → Option Value} (E : Er mg) (D : Addr) (j : Nat) : Prop where
  ex : ExcC K D
  one : PySem.W.exmOne K (.ref D) (.ref E.DE) = some true
  ve : PySem.W.kitOne K (.ref D) (.type "ValueError") = some true
  k0 : PySem.W.kitOne K (.ref D) (.ref E.BP) = some (decide (0 = j))
  k1 : PySem.W.kitOne K (.ref D) (.ref E.BL) = some (decide (1 = j))
  k2 : PySem.W.kitOne K (.ref D) (.ref E.BF) = some (decide (2 = j))
  k3 : PySem.W.kitOne K (.ref D) (.ref E.BG) = some (decide (3 = j))
  k4 : PySem.W.kitOne K (.ref D) (.ref E.BE) = some (decide (4 = j))
  k5 : PySem.W.kitOne K (.ref D) (.ref E.TM) = some (decide (5 = j))
  k6 : PySem.W.kitOne K (.ref D) (.ref E.OV) = some (decide (6 = j))
  k7 : PySem.W.kitOne K (.ref D) (.ref E.BT) = some (decide (7 = j))
  j : j = 0 ∨ j = 1 ∨ j = 4 ∨ j = 7
  xf : XfC K D
  nrow : PySem.W.findIn K (.ref D) "row" = some none
  nwhy : PySem.W.findIn K (.ref D) "why" = some none
  nat : PySem.W.findIn K (.ref D) "at" = some none
  nline : PySem.W.findIn K (.ref D) "line" = some none
def FieldsJ (j : Nat) (fs : List (Str × V)) (vs : List V) : Prop :=
  (j = 0 ∧ ∃ x y, fs.lookup ("row" : Str) = some x ∧ fs.lookup ("why" : Str) = some y ∧ vs = [x, y]) ∨ (j = 1 ∧ ∃ x y, fs.lookup ("why" : Str) = some x ∧ fs.lookup ("at" : Str) = some y ∧ vs = [x, y]) ∨
  (j = 4 ∧ ∃ x, fs.lookup ("at" : Str) = some x ∧ vs = [x]) ∨ (j = 7 ∧ ∃ x, fs.lookup ("line" : Str) = some x ∧ vs = [x])
theorem low_of {l : List V} {j : Nat} (h : ∀ i, i < j → ∃ z, l[i]? = some z ∧ eqV z (.bl true) = false) : ∀ (m : Nat) (z' : V), m < j → l[m]? = some z' → eqV z' (.bl true) = false := by
  intro m z' hm e
  obtain ⟨z, h1, h2⟩ := h m hm
  rw [h1] at e
  rw [← Option.some.inj e]
  exact h2
theorem at_kindsF {j : Nat} (h : j = 0 ∨ j = 1 ∨ j = 4 ∨ j = 7) : ([decide (0 = j), decide (1 = j), decide (2 = j), decide (3 = j)] ++ [decide (4 = j), decide (5 = j), decide (6 = j), decide (7 = j)]).count true = 1 ∧
    atI [V.str "program", V.str "laying", V.str "fuel", V.str "goes", V.str "paper", V.str "many", V.str "over", V.str "text"] (j : Int) = some (.str (wordJ j)) ∧
    ((([decide (0 = j), decide (1 = j), decide (2 = j), decide (3 = j)] ++ [decide (4 = j), decide (5 = j), decide (6 = j), decide (7 = j)] : List Bool).map V.bl)[j]? = some (.bl true)) ∧
    (∀ (m : Nat) (z' : V), m < j → (([decide (0 = j), decide (1 = j), decide (2 = j), decide (3 = j)] ++ [decide (4 = j), decide (5 = j), decide (6 = j), decide (7 = j)] : List Bool).map V.bl)[m]? = some z' → eqV z' (.bl true) = false) ∧
    decide (V.str (wordJ j) = V.str "program") = decide (j = 0) ∧ decide (V.str (wordJ j) = V.str "laying") = decide (j = 1) ∧ decide (V.str (wordJ j) = V.str "paper") = decide (j = 4) ∧ decide (V.str (wordJ j) = V.str "text") = decide (j = 7) := by
  rcases h with rfl | rfl | rfl | rfl
  · exact ⟨by decide +kernel, rfl, rfl, low_of fun i hi => absurd hi (Nat.not_lt_zero i), by decide +kernel, by decide +kernel, by decide +kernel, by decide +kernel⟩
  · refine ⟨by decide +kernel, rfl, rfl, low_of fun i hi => ?_, by decide +kernel, by decide +kernel, by decide +kernel, by decide +kernel⟩
    match i, hi with
    | 0, _ => exact ⟨_, rfl, rfl⟩
  · refine ⟨by decide +kernel, rfl, rfl, low_of fun i hi => ?_, by decide +kernel, by decide +kernel, by decide +kernel, by decide +kernel⟩
    match i, hi with
    | 0, _ => exact ⟨_, rfl, rfl⟩
    | 1, _ => exact ⟨_, rfl, rfl⟩
    | 2, _ => exact ⟨_, rfl, rfl⟩
    | 3, _ => exact ⟨_, rfl, rfl⟩
  · refine ⟨by decide +kernel, rfl, rfl, low_of fun i hi => ?_, by decide +kernel, by decide +kernel, by decide +kernel, by decide +kernel⟩
    match i, hi with
    | 0, _ => exact ⟨_, rfl, rfl⟩
    | 1, _ => exact ⟨_, rfl, rfl⟩
    | 2, _ => exact ⟨_, rfl, rfl⟩
    | 3, _ => exact ⟨_, rfl, rfl⟩
    | 4, _ => exact ⟨_, rfl, rfl⟩
    | 5, _ => exact ⟨_, rfl, rfl⟩
    | 6, _ => exact ⟨_, rfl, rfl⟩
section
variable {X : Cx}
theorem told_suiteF (E : Er X.mg) (T : Bt X.mg) {g : Addr} {cdg : Value} {s : Shared} {H0 : Hp} {CX : CXT} {E0 : XK} {j : Nat} {D a dd : Addr} {oe : Obj} {pn : List (Addr × Obj)} (kn : KnF X.K E D j) (hz : Zc (.ref D) (some dd) oe) (hf : ∃ vs, oe.data = .fields vs) :
    ∃ t, PSs ((cxOf CX X.prog X.w X.K X.mg X.base nTold "_law_told" (defScope sTold) g cdg X.A X.stack s H0 E0).nox.suite a ((a, oe) :: pn)) toldSuite t ∧
      ∀ (D : Ends) (σ : L2.St) (H : Hp) (fs : List (Str × V)) (vs : List V), σ.length = 4 → σ[1]? = some (some (.ref a)) → H dd = some (.xd fs) → FieldsJ j fs vs → (∀ t' H', Same1 H H' → H' t' = some (.tup (.str (wordJ j) :: vs)) → D.rt (.ref t') H') → t D σ H := by
  refine ⟨_, (pss_cons (ps_set (i := 2) scTold.nd rfl (Or.inl rfl) (pe_lst (pa_cons (pe_callB (DLR.call_isD kn.ex hz hf) (by rfl) T.isinstance (by decide +kernel) (pa_cons (pv 1) (pa_cons (pe_glob (v := .ref E.BP) rfl E.mBP rfl) pa_nil))) (pa_cons (pe_callB (DLR.call_isD kn.ex hz hf) (by rfl) T.isinstance (by decide +kernel) (pa_cons (pv 1) (pa_cons (pe_glob (v := .ref E.BL) rfl E.mBL rfl) pa_nil))) (pa_cons (pe_callB (DLR.call_isD kn.ex hz hf) (by rfl) T.isinstance (by decide +kernel) (pa_cons (pv 1) (pa_cons (pe_glob (v := .ref E.BF) rfl E.mBF rfl) pa_nil))) (pa_cons (pe_callB (DLR.call_isD kn.ex hz hf) (by rfl) T.isinstance (by decide +kernel) (pa_cons (pv 1) (pa_cons (pe_glob (v := .ref E.BG) rfl E.mBG rfl) pa_nil))) pa_nil))))))
      (pss_cons (ps_set (i := 2) scTold.nd rfl (Or.inl rfl) (pe_op op_cat (pv 2) (pe_lst (pa_cons (pe_callB (DLR.call_isD kn.ex hz hf) (by rfl) T.isinstance (by decide +kernel) (pa_cons (pv 1) (pa_cons (pe_glob (v := .ref E.BE) rfl E.mBE rfl) pa_nil))) (pa_cons (pe_callB (DLR.call_isD kn.ex hz hf) (by rfl) T.isinstance (by decide +kernel) (pa_cons (pv 1) (pa_cons (pe_glob (v := .ref E.TM) rfl E.mTM rfl) pa_nil))) (pa_cons (pe_callB (DLR.call_isD kn.ex hz hf) (by rfl) T.isinstance (by decide +kernel) (pa_cons (pv 1) (pa_cons (pe_glob (v := .ref E.OV) rfl E.mOV rfl) pa_nil))) (pa_cons (pe_callB (DLR.call_isD kn.ex hz hf) (by rfl) T.isinstance (by decide +kernel) (pa_cons (pv 1) (pa_cons (pe_glob (v := .ref E.BT) rfl E.mBT rfl) pa_nil))) pa_nil)))))))
      (pss_cons (ps_if (PW.pt (pw_or (pt_cmpR op_ne (pe_bm PySem.F.plainAttrs_list PySem.F.slot_list_count PySem.F.type_list_count mt_countB (pv 2) (pa_cons pe_bl pa_nil)) pe_int (nomark _)) (pw_or1 (pt_not (pt_val (pe_callB (DLR.call_isD kn.ex hz hf) (by rfl) T.isinstance (by decide +kernel) (pa_cons (pv 1) (pa_cons (pe_bltn (v := .ty "ValueError") (by rfl) E.VE (by decide +kernel) rfl) pa_nil))))))))
          (pss_one ps_never)
          pss_nil)
      (pss_cons (ps_set (i := 3) scTold.nd rfl (Or.inl rfl) (pe_ix ix_list (pe_lst (pa_cons pe_str (pa_cons pe_str (pa_cons pe_str (pa_cons pe_str (pa_cons pe_str (pa_cons pe_str (pa_cons pe_str (pa_cons pe_str pa_nil))))))))) (pe_bm PySem.F.plainAttrs_list PySem.F.slot_list_index PySem.F.type_list_index mt_index (pv 2) (pa_cons pe_bl pa_nil)) (fun _ _ => rfl)))
      (pss_cons (ps_if (pt_cmpR op_eq (pv 3) pe_str (nomark _))
          (pss_one (ps_ret (pe_tup (pa_cons (pv 3) (pa_cons (L2.pe_xf kn.xf kn.nrow hz hf (pv 1)) (pa_cons (L2.pe_xf kn.xf kn.nwhy hz hf (pv 1)) pa_nil))))))
          pss_nil)
      (pss_cons (ps_if (pt_cmpR op_eq (pv 3) pe_str (nomark _))
          (pss_one (ps_ret (pe_tup (pa_cons (pv 3) (pa_cons (L2.pe_xf kn.xf kn.nwhy hz hf (pv 1)) (pa_cons (L2.pe_xf kn.xf kn.nat hz hf (pv 1)) pa_nil))))))
          pss_nil)
      (pss_cons (ps_if (pt_cmpR op_eq (pv 3) pe_str (nomark _))
          (pss_one (ps_ret (pe_tup (pa_cons (pv 3) (pa_cons (L2.pe_xf kn.xf kn.nat hz hf (pv 1)) pa_nil)))))
          pss_nil)
      (pss_one (ps_ret (pe_ifExp (pt_cmpR op_eq (pv 3) pe_str (nomark _)) (pe_tup (pa_cons (pv 3) (pa_cons (L2.pe_xf kn.xf kn.nline hz hf (pv 1)) pa_nil))) (pe_tup (pa_cons (pv 3) pa_nil)))))))))))), ?_⟩
  intro D' σ H fs vs hl h1 hdd hfs hq
  obtain ⟨x0, x1, x2, x3, rfl⟩ : ∃ x0 x1 x2 x3, σ = [x0, x1, x2, x3] := by
    match σ, hl with
    | [x0, x1, x2, x3], _ => exact ⟨x0, x1, x2, x3, rfl⟩
  have h1 : x1 = some (.ref a) := Option.some.inj h1
  subst h1
  obtain ⟨q1, q2, q3, q4, q5, q6, q7, q8⟩ := at_kindsF kn.j
  refine ⟨_, rfl, fs, .ref E.BP, .ref E.BP, _, hdd, rfl, relRef, kn.k0, _, rfl, fs, .ref E.BL, .ref E.BL, _, hdd, rfl, relRef, kn.k1, _, rfl, fs, .ref E.BF, .ref E.BF, _, hdd, rfl, relRef, kn.k2, _, rfl, fs, .ref E.BG, .ref E.BG, _, hdd, rfl, relRef, kn.k3, (by show 4 ≤ sizeLine; decide), fun l1 hl1 => ?_⟩
  refine alloc hl1 fun H1 s1 e1 => ?_
  have d1 := s1 _ _ hdd
  refine ⟨_, rfl, _, rfl, fs, .ref E.BE, .ref E.BE, _, d1, rfl, relRef, kn.k4, _, rfl, fs, .ref E.TM, .ref E.TM, _, d1, rfl, relRef, kn.k5, _, rfl, fs, .ref E.OV, .ref E.OV, _, d1, rfl, relRef, kn.k6, _, rfl, fs, .ref E.BT, .ref E.BT, _, d1, rfl, relRef, kn.k7, (by show 4 ≤ sizeLine; decide), fun l2 hl2 => ?_⟩
  refine alloc hl2 fun H2 s2 e2 => ?_
  refine ⟨l1, l2, _, _, rfl, rfl, s2 _ _ e1, e2, (by show 8 ≤ sizeLine; decide), fun l3 hl3 => ?_⟩
  refine alloc hl3 fun H3 s3 e3 => ?_
  have d3 := s3 _ _ (s2 _ _ d1)
  have e3 : H3 l3 = some (.lst (([decide (0 = j), decide (1 = j), decide (2 = j), decide (3 = j)] ++ [decide (4 = j), decide (5 = j), decide (6 = j), decide (7 = j)] : List Bool).map V.bl)) := e3
  generalize hk : ([decide (0 = j), decide (1 = j), decide (2 = j), decide (3 = j)] ++ [decide (4 = j), decide (5 = j), decide (6 = j), decide (7 = j)] : List Bool) = ks at q1 q3 q4 e3
  refine ⟨_, rfl, .inl ⟨rfl, _, SqL.of e3⟩, l3, ks, true, rfl, rfl, SqL.of e3, ?_⟩
  rw [q1]
  refine ⟨rfl, _, rfl, ?_⟩
  rw [show (!decide (V.int ((1 : Nat) : Int) = V.int 1)) = false by decide +kernel]
  refine iteF ⟨_, rfl, fs, .ty "ValueError", .type "ValueError", true, d3, rfl, relTy, kn.ve, _, rfl, ?_⟩
  refine iteF ?_
  refine ⟨(by show 8 ≤ sizeLine; decide), fun l4 hl4 => ?_⟩
  refine alloc hl4 fun H4 s4 e4 => ?_
  have d4 := s4 _ _ d3
  have S4 := ((s1.trans s2).trans s3).trans s4
  refine ⟨_, rfl, .inl ⟨rfl, _, SqL.of (s4 _ _ e3)⟩, l3, _, _, j, _, rfl, rfl, SqL.of (s4 _ _ e3), rfl, flat_bl ks, q3, rfl, q4, ?_⟩
  refine ⟨l4, _, _, _, rfl, rfl, SqL.of e4, q2, ?_⟩
  refine ⟨_, rfl, rfl, _, rfl, ?_⟩
  rw [q5]
  rcases hfs with ⟨rfl, x, y, f1, f2, rfl⟩ | ⟨rfl, x, y, f1, f2, rfl⟩ | ⟨rfl, x, f1, rfl⟩ | ⟨rfl, x, f1, rfl⟩
  · refine iteT ⟨_, rfl, _, rfl, rfl, rfl, dd, fs, x, rfl, d4, f1, _, rfl, rfl, rfl, dd, fs, y, rfl, d4, f2, (by show 3 ≤ sizeLine; decide), fun t ht => ?_⟩
    refine alloc ht fun H5 s5 e5 => ?_
    exact hq t H5 (S4.trans s5) e5
  · refine iteF ⟨_, rfl, rfl, _, rfl, ?_⟩
    rw [q6]
    refine iteT ⟨_, rfl, _, rfl, rfl, rfl, dd, fs, x, rfl, d4, f1, _, rfl, rfl, rfl, dd, fs, y, rfl, d4, f2, (by show 3 ≤ sizeLine; decide), fun t ht => ?_⟩
    refine alloc ht fun H5 s5 e5 => ?_
    exact hq t H5 (S4.trans s5) e5
  · refine iteF ⟨_, rfl, rfl, _, rfl, ?_⟩
    rw [q6]
    refine iteF ⟨_, rfl, rfl, _, rfl, ?_⟩
    rw [q7]
    refine iteT ⟨_, rfl, _, rfl, rfl, rfl, dd, fs, x, rfl, d4, f1, (by show 2 ≤ sizeLine; decide), fun t ht => ?_⟩
    refine alloc ht fun H5 s5 e5 => ?_
    exact hq t H5 (S4.trans s5) e5
  · refine iteF ⟨_, rfl, rfl, _, rfl, ?_⟩
    rw [q6]
    refine iteF ⟨_, rfl, rfl, _, rfl, ?_⟩
    rw [q7]
    refine iteF ⟨_, rfl, rfl, _, rfl, ?_⟩
    rw [q8]
    refine iteT ⟨_, rfl, _, rfl, rfl, rfl, dd, fs, x, rfl, d4, f1, (by show 2 ≤ sizeLine; decide), fun t ht => ?_⟩
    refine alloc ht fun H5 s5 e5 => ?_
    exact hq t H5 (S4.trans s5) e5
def ToldX (K : Frg) {mg : Str → Option Value} (E : Er mg) (cls : Value) (d : Option Addr) (H : Hp) (R : V → Hp → Prop) : Prop :=
  (∃ (D : Addr) (j : Nat), Knd K E D j ∧ cls = .ref D ∧ d = none ∧ ∀ t H'', Same1 H H'' → H'' t = some (.tup [.str (wordJ j)]) → R (.ref t) H'') ∨
  (∃ (D dd : Addr) (j : Nat) (fs : List (Str × V)) (vs : List V), KnF K E D j ∧ cls = .ref D ∧ d = some dd ∧ H dd = some (.xd fs) ∧ FieldsJ j fs vs ∧ ∀ t H'', Same1 H H'' → H'' t = some (.tup (.str (wordJ j) :: vs)) → R (.ref t) H'')
def TTe (K : Frg) {mg : Str → Option Value} (E : Er mg) : (XK → Hp → VK → Prop) → Hp → VK → Prop := fun tl H Q => tl (fun cls d H' => ToldX K E cls d H' Q) H Q
def tsToldE (K : Frg) {mg : Str → Option Value} (E : Er mg) : Addr → Value → Option Addr → TS := fun a cls d D σ H => σ.length = 4 → σ[1]? = some (some (.ref a)) ∧ ToldX K E cls d H D.rt
theorem told_okE (E : Er X.mg) (T : Bt X.mg) {g : Addr} {cdg : Value} {q : Str} : GivesTo X nTold "_law_told" (defScope sTold) g cdg (defBody sTold) "_law_work" q (TTe X.K E) := by
  intro f c' s H Q tl act hc h
  refine ⟨_, pss_one (ps_try_as (X := (cxOf C8.CX0 X.prog X.w X.K X.mg X.base nTold "_law_told" (defScope sTold) g cdg X.A X.stack s H C8.E0).nox) (c := .ref E.DE) (i := 1)
      (tb := fun W D σ H => ∃ Ech : XK, (∀ cls d σ' H', Ech cls d H' → W cls d σ' H') ∧ σ[0]? = some (some (.ref f)) ∧ H c' = some (CodeO c' q) ∧ tl Ech H D.rt)
      (ts := tsToldE X.K E) rfl rfl scTold.nd rfl rfl ⟨by rfl, by decide, .inl E.mDE⟩ LamX.takes0 (fun W pn xe tk _ => ?_) (fun a oe cls d pn hz hf => ?_)), ?_⟩
  · refine ⟨fun pins s' σ H' D I h' => ?_⟩
    obtain ⟨Ech, hW, h1, h2, h3⟩ := h'
    exact (pss_one (ps_ret (act W pn xe Ech _ _ tk hW))).run pins s' σ H' D I ⟨h1, h2, h3⟩
  · refine ⟨fun pins s' σ H' D I h' => ?_⟩
    have hl : σ.length = 4 := I.len
    obtain ⟨h1, ⟨D0, j, kn, rfl, rfl, hq⟩ | ⟨D0, dd, j, fs, vs, kn, rfl, rfl, hdd, hfs, hq⟩⟩ := h' hl
    · obtain ⟨t, ht, hr⟩ := told_suite (X := X) (g := g) (cdg := cdg) (s := s) (H0 := H) (CX := C8.CX0) (E0 := C8.E0) (a := a) (pn := pn) E T kn hz hf
      exact ht.run pins s' σ H' D I (hr D σ H' hl h1 hq)
    · obtain ⟨t, ht, hr⟩ := told_suiteF (X := X) (g := g) (cdg := cdg) (s := s) (H0 := H) (CX := C8.CX0) (E0 := C8.E0) (a := a) (pn := pn) E T kn hz hf
      exact ht.run pins s' σ H' D I (hr D σ H' fs vs hl h1 hdd hfs hq)
  · refine ⟨fun cls d H' => ToldX X.K E cls d H' Q, ?_, rfl, hc, h⟩
    rintro cls d σ' H' hx
    have one : ∃ D0, cls = .ref D0 ∧ PySem.W.exmOne X.K (.ref D0) (.ref E.DE) = some true := by
      rcases hx with ⟨D0, j, kn, e, _⟩ | ⟨D0, dd, j, fs, vs, kn, e, _⟩
      · exact ⟨D0, e, kn.one⟩
      · exact ⟨D0, e, kn.one⟩
    obtain ⟨D0, rfl, ho⟩ := one
    refine ⟨true, ho, fun _ a ha => ?_, fun z => by cases z⟩
    intro hl
    rw [List.length_set] at hl
    refine ⟨?_, hx⟩
    rw [List.getElem?_set_self (by omega)]
end
end DL
namespace DL
open PySem L2 DLR
/-! ### data that is let by is a program -/
def argsD : Row → List D
  | .load w n => [.int (w : Nat), .int (n : Nat)]
  | .add w n => [.int (w : Nat), .int (n : Nat)]
  | .take w n => [.int (w : Nat), .int (n : Nat)]
  | .store w n => [.int (w : Nat), .int (n : Nat)]
  | .say n => [.int (n : Nat)]
  | .test a b => [.int (a : Nat), .int (b : Nat)]
  | .stop => []
def rowDD (r : Row) : D := .tup (.str r.word :: argsD r)
def progDD (p : Prog) : D := .tup [.tup (p.ws.map .int), .tup (p.rows.map rowDD)]
theorem partsOf_row (r : Row) : partsOf r.word = some r.parts := by cases r <;> (dsimp only [Row.word, Row.parts]; decide +kernel)
theorem args_in {n : Str} {ns : List Str} {d : D} {ds : List D} {W N : Nat} (hd : d.num = true) (h : argsF W N (n :: ns) (d :: ds) = none) : ∃ i : Nat, d = .int (i : Nat) ∧ (n = "worth" → i < W) ∧ (n ≠ "worth" → i < N) ∧ argsF W N ns ds = none := by
  cases d with
  | int i =>
    have h : (if 0 ≤ i ∧ i < (if n = "worth" then (W : Int) else (N : Int)) then argsF W N ns ds else some n) = none := h
    by_cases c : 0 ≤ i ∧ i < (if n = "worth" then (W : Int) else (N : Int))
    · rw [if_pos c] at h
      obtain ⟨c1, c2⟩ := c
      refine ⟨i.toNat, by rw [Int.toNat_of_nonneg c1], fun e => ?_, fun e => ?_, h⟩
      · rw [if_pos e] at c2
        omega
      · rw [if_neg e] at c2
        omega
    · rw [if_neg c] at h
      cases h
  | _ => cases hd
theorem row_of_none {W N : Nat} {d : D} (h : rowF W N d = none) : ∃ r : Row, d = rowDD r ∧ r.ok W N := by
  unfold rowF at h
  by_cases hs : shapeF d = true
  · rw [if_pos hs] at h
    obtain ⟨x, r, rfl⟩ : ∃ x r, d = .tup (.str x :: r) := by
      cases d with
      | tup ds =>
        cases ds with
        | nil => cases hs
        | cons y r =>
          cases y with
          | str x => exact ⟨x, r, rfl⟩
          | _ => cases hs
      | _ => cases hs
    have hs : (match partsOf x with | some ps => decide (r.length = ps.length) && r.all D.num | none => false) = true := hs
    cases hp : partsOf x with
    | none => rw [hp] at hs; cases hs
    | some ps =>
      rw [hp] at hs
      have hs : (decide (r.length = ps.length) && r.all D.num) = true := hs
      obtain ⟨q1, q2⟩ := Bool.and_eq_true_iff.mp hs
      have q1 := of_decide_eq_true q1
      have h : argsF W N ((partsOf x).getD []) r = none := h
      rw [hp] at h
      have h : argsF W N ps r = none := h
      have wn : ("next" : Str) ≠ "worth" := by decide +kernel
      obtain ⟨r0, rfl, rfl⟩ := parts_row hp
      have two : ∀ {n m : Str}, r0.parts = [n, m] → ∃ i j : Nat, r = [.int (i : Nat), .int (j : Nat)] ∧ (n = "worth" → i < W) ∧ (n ≠ "worth" → i < N) ∧ (m ≠ "worth" → j < N) := by
        intro n m e
        rw [e] at q1 h
        match r, q1, q2, h with
        | [d1, d2], _, q2, h =>
          have q2 : (d1.num && (d2.num && true)) = true := q2
          obtain ⟨n1, n2⟩ := Bool.and_eq_true_iff.mp q2
          obtain ⟨n2, _⟩ := Bool.and_eq_true_iff.mp n2
          obtain ⟨i, rfl, i1, i2, h⟩ := args_in n1 h
          obtain ⟨j, rfl, j1, j2, h⟩ := args_in n2 h
          exact ⟨i, j, rfl, i1, i2, j2⟩
      cases r0 with
      | load _ _ => obtain ⟨i, j, rfl, i1, _, j2⟩ := two rfl; exact ⟨.load i j, rfl, i1 rfl, j2 wn⟩
      | add _ _ => obtain ⟨i, j, rfl, i1, _, j2⟩ := two rfl; exact ⟨.add i j, rfl, i1 rfl, j2 wn⟩
      | take _ _ => obtain ⟨i, j, rfl, i1, _, j2⟩ := two rfl; exact ⟨.take i j, rfl, i1 rfl, j2 wn⟩
      | store _ _ => obtain ⟨i, j, rfl, i1, _, j2⟩ := two rfl; exact ⟨.store i j, rfl, i1 rfl, j2 wn⟩
      | test _ _ => obtain ⟨i, j, rfl, _, i2, j2⟩ := two rfl; exact ⟨.test i j, rfl, i2 wn, j2 wn⟩
      | say _ =>
        match r, q1, q2, h with
        | [d1], _, q2, h =>
          have q2 : (d1.num && true) = true := q2
          obtain ⟨n1, _⟩ := Bool.and_eq_true_iff.mp q2
          obtain ⟨i, rfl, _, i2, _⟩ := args_in n1 h
          exact ⟨.say i, rfl, i2 wn⟩
      | stop =>
        match r, q1 with
        | [], _ => exact ⟨.stop, rfl, trivial⟩
  · rw [if_neg hs] at h
    cases h
theorem rows_of_none {W N : Nat} : ∀ {rs : List D} {i : Nat}, rowsF W N i rs = none → ∃ rows : List Row, rs = rows.map rowDD ∧ ∀ r ∈ rows, r.ok W N
  | [], _, _ => ⟨[], rfl, fun _ h => by cases h⟩
  | d :: ds, i, h => by
    have h' : (match rowF W N d with | some y => some (i, y) | none => rowsF W N (i + 1) ds) = none := h
    cases hr : rowF W N d with
    | some y => rw [hr] at h'; cases h'
    | none =>
      rw [hr] at h'
      obtain ⟨rows, rfl, oks⟩ := rows_of_none (rs := ds) (i := i + 1) h'
      obtain ⟨r, rfl, ok⟩ := row_of_none hr
      exact ⟨r :: rows, rfl, fun x hx => by
        rcases List.mem_cons.mp hx with rfl | hx
        · exact ok
        · exact oks x hx⟩
theorem ints_of : ∀ {ds : List D}, ds.all (D.betw (-1000000) 1000000) = true → ∃ ws : List Int, ds = ws.map .int ∧ ∀ x ∈ ws, -1000000 ≤ x ∧ x ≤ 1000000
  | [], _ => ⟨[], rfl, fun _ h => by cases h⟩
  | d :: ds, h => by
    have h : (d.betw (-1000000) 1000000 && ds.all (D.betw (-1000000) 1000000)) = true := h
    obtain ⟨h1, h2⟩ := Bool.and_eq_true_iff.mp h
    obtain ⟨ws, rfl, hw⟩ := ints_of h2
    cases d with
    | int i =>
      have h1 : (decide (-1000000 ≤ i) && decide (i ≤ 1000000)) = true := h1
      obtain ⟨a, b⟩ := Bool.and_eq_true_iff.mp h1
      exact ⟨i :: ws, rfl, fun x hx => by
        rcases List.mem_cons.mp hx with rfl | hx
        · exact ⟨of_decide_eq_true a, of_decide_eq_true b⟩
        · exact hw x hx⟩
    | _ => cases h1
theorem prog_of_none {d : D} (h : progF d = none) : ∃ p : Prog, d = progDD p ∧ Good p := by
  unfold progF at h
  cases hw : worthsF (partD d 0) with
  | some y => rw [hw] at h; cases h
  | none =>
    rw [hw] at h
    dsimp only at h
    obtain ⟨wd, hwd⟩ : ∃ wd, partD d 0 = .tup wd := by
      cases hp : partD d 0 with
      | tup wd => exact ⟨wd, rfl⟩
      | _ => rw [hp] at hw; cases hw
    rw [hwd] at hw
    have hw : (if wd.length ≤ 8 then (if wd.all (D.betw (-1000000) 1000000) = true then none else some ("number" : Str)) else some "worths") = none := hw
    by_cases h8 : wd.length ≤ 8
    · rw [if_pos h8] at hw
      by_cases ha : wd.all (D.betw (-1000000) 1000000) = true
      · obtain ⟨ws, rfl, hws⟩ := ints_of ha
        cases e1 : partD d 1 with
        | tup rs =>
          rw [e1, hwd] at h
          dsimp only at h
          by_cases c : lenD d = 2 ∧ 1 ≤ rs.length ∧ rs.length ≤ 40
          · rw [if_pos c] at h
            obtain ⟨c1, c2, c3⟩ := c
            have h : rowsF (lenD (.tup (ws.map D.int))) rs.length 0 rs = none := by
              cases q : rowsF (lenD (.tup (ws.map D.int))) rs.length 0 rs with
              | none => rfl
              | some z => rw [q] at h; cases h
            have h : rowsF (ws.map D.int).length rs.length 0 rs = none := h
            rw [List.length_map] at h
            obtain ⟨rows, rfl, hr⟩ := rows_of_none h
            rw [List.length_map] at c2 c3 hr h8
            refine ⟨⟨ws, rows⟩, ?_, c2, c3, h8, hws, hr⟩
            cases d with
            | tup ds =>
              match ds, c1, hwd, e1 with
              | [a, b], _, hwd, e1 =>
                have ea : a = .tup (ws.map .int) := hwd
                have eb : b = .tup (rows.map rowDD) := e1
                rw [ea, eb]
                rfl
            | _ => cases hwd
          · rw [if_neg c] at h
            cases h
        | _ => rw [e1] at h; cases h
      · rw [if_neg ha] at hw
        cases hw
    · rw [if_neg h8] at hw
      cases hw
theorem ats_ints {H : Hp} : ∀ {ws : List Int} {vs : List V}, Ats H vs (ws.map D.int) → vs = ws.map V.int
  | [], [], _ => rfl
  | [], _ :: _, h => by simp [Ats] at h
  | _ :: _, [], h => by simp [Ats] at h
  | x :: ws, v :: vs, h => by
    have h : At H v (.int x) ∧ Ats H vs (ws.map D.int) := by simpa [Ats] using h
    have e : v = .int x := by simpa [At] using h.1
    rw [e, ats_ints h.2]
    rfl
theorem args_at {H : Hp} {r : Row} {vs : List V} (h : Ats H vs (.str r.word :: argsD r)) : vs = rowVs r := by
  cases vs with
  | nil => simp [Ats] at h
  | cons v vs =>
    have h : At H v (.str r.word) ∧ Ats H vs (argsD r) := by simpa [Ats] using h
    have e : v = .str r.word := by simpa [At] using h.1
    have ei : ∃ ws : List Int, argsD r = ws.map D.int ∧ rowVs r = .str r.word :: ws.map V.int := by
      cases r with
      | load a b => exact ⟨[(a : Int), (b : Int)], rfl, rfl⟩
      | add a b => exact ⟨[(a : Int), (b : Int)], rfl, rfl⟩
      | take a b => exact ⟨[(a : Int), (b : Int)], rfl, rfl⟩
      | store a b => exact ⟨[(a : Int), (b : Int)], rfl, rfl⟩
      | say b => exact ⟨[(b : Int)], rfl, rfl⟩
      | test a b => exact ⟨[(a : Int), (b : Int)], rfl, rfl⟩
      | stop => exact ⟨[], rfl, rfl⟩
    obtain ⟨ws, e1, e2⟩ := ei
    rw [e1] at h
    rw [e, ats_ints h.2, e2]
theorem rows_at {H : Hp} : ∀ {rows : List Row} {vs : List V}, Ats H vs (rows.map rowDD) → ∃ bs : List Addr, vs = bs.map V.ref ∧ RowsAt H bs rows
  | [], [], _ => ⟨[], rfl, .nil⟩
  | [], _ :: _, h => by simp [Ats] at h
  | _ :: _, [], h => by simp [Ats] at h
  | r :: rows, v :: vs, h => by
    have h : At H v (rowDD r) ∧ Ats H vs (rows.map rowDD) := by simpa [Ats] using h
    obtain ⟨b, us, rfl, hb, hu⟩ : ∃ a us, v = .ref a ∧ H a = some (.tup us) ∧ Ats H us (.str r.word :: argsD r) := by
      have z := h.1
      unfold rowDD at z
      simpa [At] using z
    obtain ⟨bs, rfl, hR⟩ := rows_at h.2
    rw [args_at hu] at hb
    exact ⟨b :: bs, rfl, .cons hb hR⟩
theorem prog_at {H : Hp} {v : V} {p : Prog} (h : At H v (progDD p)) : ∃ a, v = .ref a ∧ ProgAt H a p := by
  obtain ⟨a, vs, rfl, ha, hs⟩ : ∃ a vs, v = .ref a ∧ H a = some (.tup vs) ∧ Ats H vs [.tup (p.ws.map .int), .tup (p.rows.map rowDD)] := by
    unfold progDD at h
    simpa [At] using h
  match vs, hs with
  | [v0, v1], hs =>
    have hs : At H v0 (.tup (p.ws.map .int)) ∧ At H v1 (.tup (p.rows.map rowDD)) := by simpa [Ats] using hs
    obtain ⟨wa, us, rfl, hwa, hus⟩ : ∃ a us, v0 = .ref a ∧ H a = some (.tup us) ∧ Ats H us (p.ws.map .int) := by simpa [At] using hs.1
    obtain ⟨ra, rs, rfl, hra, hrs⟩ : ∃ a us, v1 = .ref a ∧ H a = some (.tup us) ∧ Ats H us (p.rows.map rowDD) := by simpa [At] using hs.2
    rw [ats_ints hus] at hwa
    obtain ⟨bs, rfl, hR⟩ := rows_at hrs
    exact ⟨a, rfl, wa, ra, bs, ha, hwa, hra, hR⟩
end DL
namespace DL
open PySem PySem.Spec L2 DLR TL
/-! ### is_written_number of any word -/
def figL (z : Str) : List Nat := if (tl z).head? = some 45 then (tl z).drop 1 else tl z
def digB (c : Nat) : Bool := decide (48 ≤ c) && decide (c ≤ 57)
def wnF (z : Str) : Bool := decide (1 ≤ (figL z).length) && decide ((figL z).length ≤ 7) && (figL z).all digB && (decide (V.str z = V.str "0") || !decide ((figL z).headD 0 = 48))
theorem starts_minusG (z : Str) : Txt.startswith z "-" = decide ((tl z).head? = some 45) := by
  have e1 : ("-" : Str).length = 1 := rfl
  have e2 : ("-" : Str).cps.toList = [45] := rfl
  have e4 : z.length = (tl z).length := len_tl z
  unfold Txt.startswith
  rw [StrLaws.subAt_eq, e1, e2, e4]
  show _ = decide ((z.cps.toList).head? = some 45)
  cases e : z.cps.toList with
  | nil =>
    have e5 : (tl z).length = 0 := by show z.cps.toList.length = 0; rw [e]; rfl
    rw [e5]
    simp
  | cons c r =>
    have e5 : (tl z).length = r.length + 1 := by show z.cps.toList.length = _; rw [e]; rfl
    rw [e5]
    by_cases h : c = 45
    · subst h
      simp
    · simp [h]
theorem figB (c : Nat) : decide (c ∈ ("0123456789" : Str).cps.toList) = digB c := by
  have e : ("0123456789" : Str).cps.toList = [48, 49, 50, 51, 52, 53, 54, 55, 56, 57] := rfl
  rw [e]
  unfold digB
  rw [Bool.eq_iff_iff, decide_eq_true_iff, Bool.and_eq_true_iff, decide_eq_true_iff, decide_eq_true_iff]
  simp only [List.mem_cons, List.not_mem_nil, or_false]
  omega
def spWnD : Sp := fun vs H Q _ => ∃ z : Str, vs = [.str z] ∧ z.length ≤ 1000000 ∧ ∀ H', Same1 H H' → Q (.bl (wnF z)) H'
section
variable {P : Program} {w : World} {K : PySem.W.Frag} {mg : Str → Option Value} {base : Heap}
theorem ok_wnD (c : FWn K mg) (T : Bt mg) (CX : Cx7 mg) (CI : Ci mg) : FnOk P w K mg base CX0 1 c.f c.fd ["word"] spWnD := by
  refine c.F.ok scWn (fun vs H Q E h => ?_) (fun cdv A outer s H vs Q E hr h => ?_)
  · obtain ⟨z, rfl, _⟩ := h
    rfl
  · obtain ⟨z, rfl, hz, k⟩ := h
    refine ⟨_, (pss_cons (ps_set (i := 1) scWn.nd rfl (Or.inl rfl) (pe_ifExp (pt_val (pe_m1 PySem.F.slot_str_startswith PySem.F.type_str_startswith mt_startswith (pv 0) pe_str)) (pe_slice sl_str (pv 0) (po_some pe_int) po_none) (pv 0)))
      (pss_cons (ps_if (PW.pt (pw_or (pt_not (pt_chain op_le op_le pe_int (pe_callB call_len_str (by rfl) T.len PySem.boot_len (pa_cons (pv 1) pa_nil)) (pe_glob rfl CX.m7 relI))) (pw_or1 (pt_not (pt_val (pe_callB (cr_all rfl) (by rfl) T.all (by decide +kernel) (pa_cons (pe_lc (own := [("figure", 2)]) (g := gName 2) (tt := tYes) rfl scWn.nd (pi_str (pv 1)) (blkOk_by (N := nWn) (sc := defScope sWn) (by decide +kernel)) (fun _ _ _ _ _ => (pg_name (i := 2) scWn.nd rfl (Or.inl rfl))) (fun _ _ _ _ _ => pts_nil) (fun _ _ _ _ _ => (pe_cmpR op_in_sign (pv 2) (pe_glob (v := .str "0123456789") rfl CI.mI ⟨_, rfl⟩) rfl))) pa_nil)))))))
          (pss_one (ps_ret pe_bl))
          pss_nil)
      (pss_one (ps_ret (pe_or (pe_cmpR op_eq (pv 0) pe_str (nomark _)) (pe_one (pe_cmpR op_ne (pe_ix ix_str (pv 1) pe_int (fun _ _ => rfl)) pe_str (nomark _)))))))), ?_⟩
    refine asg_elim (fun v H' => ∃ f : Str, v = .str f ∧ tl f = figL z ∧ H' = H) ?_ ?_
    · rintro v H' ⟨f, rfl, hf, rfl⟩
      have hfl : f.length = (figL z).length := by rw [len_tl, hf]
      have hfz : (figL z).length ≤ 1000000 := by
        rw [len_tl] at hz
        unfold figL
        split
        · rw [List.length_drop]; omega
        · exact hz
      dsimp only [gName]
      have fs : f.length ≤ sizeLine := by rw [sizeLine_eq]; omega
      unfold wnF at k
      refine ⟨_, rfl, f, rfl, fs, _, _, rfl, rfl, _, rfl, ?_⟩
      by_cases l1 : 1 ≤ (figL z).length
      · rw [show decide ((1 : Int) ≤ (f.length : Int)) = true from decide_eq_true (by omega)]
        refine ⟨_, _, rfl, rfl, _, rfl, ?_⟩
        rw [decide_eq_true l1, Bool.true_and] at k
        by_cases l7 : (figL z).length ≤ 7
        · rw [show decide ((f.length : Int) ≤ 7) = true from decide_eq_true (by omega)]
          rw [decide_eq_true l7, Bool.true_and] at k
          refine iteF ?_
          refine ⟨_, rfl, f, rfl, fun D hD => ?_⟩
          refine DLR.lc_genU (J := Its f) f.cps.size (fun j H1 => Same1 H' H1 ∧ H1 D = some (.lst ((((figL z).take j).map digB).map V.bl))) ⟨Same.new hD, upd_same⟩ (fun j H1 hj _ => hj) (fun H1 _ => Nat.le_refl _) ?_ ?_
          · rintro j x H1 H2 hj ⟨s1, hd1⟩ ⟨rfl, c, hc, rfl⟩
            refine ⟨rfl, _, rfl, c, _, rfl, rfl, ?_⟩
            rw [figB]
            have hjl : j < f.length := hj
            have hcz : (figL z)[j]? = some c := by
              rw [← hf]
              show (f.cps.toList)[j]? = some c
              rw [Array.getElem?_toList]
              exact hc
            refine ⟨_, hd1, szl (by rw [List.length_map, List.length_map, List.length_take]; omega), Same.mut s1 hD, ?_⟩
            rw [upd_same, List.take_add_one, hcz, List.map_append, List.map_append]
            rfl
          rintro H1 ⟨s1, hd1⟩
          have hsz : f.cps.size = (figL z).length := hfl
          rw [hsz, List.take_length] at hd1
          refine ⟨D, _, rfl, SqL.of hd1, _, rfl, ?_⟩
          have ea : ((figL z).map digB).all id = (figL z).all digB := by
            rw [List.all_map]
            rfl
          rw [ea]
          cases hall : (figL z).all digB with
          | false =>
            rw [hall] at k
            exact iteT (k H1 s1)
          | true =>
            rw [hall, Bool.true_and] at k
            refine iteF ?_
            refine ⟨_, rfl, rfl, _, rfl, ?_⟩
            cases hd : decide (V.str z = V.str "0") with
            | true =>
              rw [hd, Bool.true_or] at k
              exact iteT (k H1 s1)
            | false =>
              rw [hd, Bool.false_or] at k
              cases e : figL z with
              | nil => rw [e] at l1; exact absurd l1 (by decide)
              | cons c r =>
                refine iteF ⟨_, rfl, f, _, c, rfl, rfl, fs, by rw [show f.cps.toList = c :: r from hf.trans e]; exact atI_nat (xs := c :: r) (j := 0) rfl, rfl, ?_⟩
                rw [e] at k
                have ne : (!decide (V.str ⟨#[c]⟩ = V.str "0")) = (!decide ((c :: r).headD 0 = 48)) := by
                  congr 1
                  rw [Bool.eq_iff_iff, decide_eq_true_iff, decide_eq_true_iff]
                  constructor
                  · intro y
                    have z2 : (⟨#[c]⟩ : Str) = ⟨#[48]⟩ := V.str.inj y
                    have z3 := congrArg (fun y : Str => y.cps.toList) z2
                    simpa using z3
                  · intro y
                    have y : c = 48 := y
                    rw [y]
                    rfl
                rw [ne]
                exact k H1 s1
        · rw [show decide ((f.length : Int) ≤ 7) = false from decide_eq_false (by omega)]
          rw [decide_eq_false l7, Bool.false_and, Bool.false_and] at k
          exact iteT (k H' (Same.refl _))
      · rw [show decide ((1 : Int) ≤ (f.length : Int)) = false from decide_eq_false (by omega)]
        rw [decide_eq_false l1, Bool.false_and, Bool.false_and, Bool.false_and] at k
        refine iteF ⟨_, rfl, iteT (k H' (Same.refl _))⟩
    · intro Q' hQ
      refine ⟨_, rfl, ⟨_, rfl⟩, _, _, rfl, rfl, _, rfl, ?_⟩
      rw [starts_minusG]
      by_cases lt : (tl z).head? = some 45
      · rw [decide_eq_true lt]
        refine ⟨_, rfl, _, rfl, _, rfl, by rw [sizeLine_eq]; omega, hQ _ _ ⟨_, rfl, ?_, rfl⟩⟩
        rw [tl_cut1]
        unfold figL
        rw [if_pos lt]
      · rw [decide_eq_false lt]
        refine ⟨_, rfl, hQ _ _ ⟨_, rfl, ?_, rfl⟩⟩
        unfold figL
        rw [if_neg lt]
end
end DL
namespace DL
open PySem L2 DLR TL NumText
/-! ### the words that are numbers are just those that numbers are written as -/
def valL (l : List Nat) : Nat := l.foldl (fun a c => 10 * a + (c - 48)) 0
theorem valL_app (l : List Nat) (c : Nat) : valL (l ++ [c]) = 10 * valL l + (c - 48) := by
  unfold valL
  rw [List.foldl_append]
  rfl
theorem digit_of {c : Nat} (h : digB c = true) : 48 ≤ c ∧ c ≤ 57 := by
  obtain ⟨a, b⟩ := Bool.and_eq_true_iff.mp h
  exact ⟨of_decide_eq_true a, of_decide_eq_true b⟩
theorem numL_zero : numL 0 = [48] := numL_lt (by decide)
theorem canon : ∀ (n : Nat) (l : List Nat), l.length = n → (∀ c ∈ l, 48 ≤ c ∧ c ≤ 57) → l ≠ [] → (l.headD 0 ≠ 48 ∨ l.length = 1) → numL (valL l) = l
  | 0, l, hn, _, hl, _ => absurd (List.length_eq_zero_iff.mp hn) hl
  | n + 1, l, hn, hd, hl, hh => by
    rcases List.eq_nil_or_concat l with e | ⟨l', c, e⟩
    · exact absurd e hl
    · rw [List.concat_eq_append] at e
      subst e
      have hc := hd c (List.mem_append_right _ List.mem_cons_self)
      rw [valL_app]
      by_cases h0 : l' = []
      · subst h0
        show numL (10 * 0 + (c - 48)) = [c]
        rw [numL_lt (by omega)]
        congr 1
        omega
      · have hn' : l'.length = n := by
          rw [List.length_append] at hn
          exact Nat.succ.inj hn
        have hh' : l'.headD 0 ≠ 48 := by
          rcases hh with h | h
          · cases l' with
            | nil => exact absurd rfl h0
            | cons x r => exact h
          · rw [List.length_append] at h
            have q : 0 < l'.length := List.length_pos_iff.mpr h0
            have h : l'.length + 1 = 1 := h
            omega
        have ih := canon n l' hn' (fun x hx => hd x (List.mem_append_left _ hx)) h0 (.inl hh')
        have pos : valL l' ≠ 0 := fun z => by
          rw [z, numL_zero] at ih
          rw [← ih] at hh'
          exact hh' rfl
        rw [numL_step (by omega), show (10 * valL l' + (c - 48)) / 10 = valL l' by omega, show (10 * valL l' + (c - 48)) % 10 = c - 48 by omega, ih, show 48 + (c - 48) = c by omega]
theorem valL_lt : ∀ (n : Nat) (l : List Nat), l.length = n → (∀ c ∈ l, 48 ≤ c ∧ c ≤ 57) → valL l < 10 ^ n
  | 0, l, hn, _ => by
    rw [List.length_eq_zero_iff.mp hn]
    decide
  | n + 1, l, hn, hd => by
    rcases List.eq_nil_or_concat l with e | ⟨l', c, e⟩
    · rw [e] at hn
      cases hn
    · rw [List.concat_eq_append] at e
      subst e
      have hc := hd c (List.mem_append_right _ List.mem_cons_self)
      have hn' : l'.length = n := by
        rw [List.length_append] at hn
        exact Nat.succ.inj hn
      have ih := valL_lt n l' hn' fun x hx => hd x (List.mem_append_left _ hx)
      rw [valL_app, Nat.pow_succ]
      omega
theorem tl_inj {x y : Str} (h : tl x = tl y) : x = y := by
  obtain ⟨a⟩ := x
  obtain ⟨b⟩ := y
  have h : a.toList = b.toList := h
  have : a = b := by
    have z := congrArg List.toArray h
    simpa using z
  rw [this]
theorem wn_num {z : Str} (h : wnF z = true) : ∃ i : Int, i.natAbs ≤ 9999999 ∧ z = numS i := by
  unfold wnF at h
  obtain ⟨h, h4⟩ := Bool.and_eq_true_iff.mp h
  obtain ⟨h, h3⟩ := Bool.and_eq_true_iff.mp h
  obtain ⟨h1, h2⟩ := Bool.and_eq_true_iff.mp h
  have h1 := of_decide_eq_true h1
  have h2 := of_decide_eq_true h2
  have hd : ∀ c ∈ figL z, 48 ≤ c ∧ c ≤ 57 := fun c hc => digit_of (List.all_eq_true.mp h3 c hc)
  have lt := valL_lt _ (figL z) rfl hd
  have lt7 : valL (figL z) < 10 ^ 7 := Nat.lt_of_lt_of_le lt (Nat.pow_le_pow_right (by decide) h2)
  have ne : figL z ≠ [] := List.length_pos_iff.mp h1
  rcases Bool.or_eq_true_iff.mp h4 with h0 | hh
  · have e0 : z = ("0" : Str) := V.str.inj (of_decide_eq_true h0)
    exact ⟨0, by decide, e0⟩
  · have hh : (figL z).headD 0 ≠ 48 := by
      intro q
      rw [decide_eq_true q] at hh
      cases hh
    have cn := canon _ (figL z) rfl hd ne (.inl hh)
    have pos : valL (figL z) ≠ 0 := fun q => by
      rw [q, numL_zero] at cn
      rw [← cn] at hh
      exact hh rfl
    by_cases m : (tl z).head? = some 45
    · refine ⟨-((valL (figL z) : Nat) : Int), by omega, tl_inj ?_⟩
      rw [tl_numS]
      unfold sgnL
      rw [if_pos (by omega), show (-((valL (figL z) : Nat) : Int)).natAbs = valL (figL z) by omega, cn]
      unfold figL
      rw [if_pos m]
      cases e : tl z with
      | nil => rw [e] at m; cases m
      | cons c r =>
        rw [e] at m
        rw [show c = 45 from Option.some.inj m]
        rfl
    · refine ⟨((valL (figL z) : Nat) : Int), by omega, tl_inj ?_⟩
      rw [tl_numS]
      unfold sgnL
      rw [if_neg (by omega), show (((valL (figL z) : Nat) : Int)).natAbs = valL (figL z) by omega, cn]
      unfold figL
      rw [if_neg m]
theorem num_wn {i : Int} (h : i.natAbs ≤ 9999999) : wnF (numS i) = true := by
  have ef : figL (numS i) = numL i.natAbs := by
    unfold figL
    rw [tl_numS]
    unfold sgnL
    by_cases lt : i < 0
    · rw [if_pos lt]
      rfl
    · rw [if_neg lt]
      have hne : (numL i.natAbs).head? ≠ some 45 := fun q => numL_free (n := i.natAbs) (s := 45) (.inl (by omega)) (List.mem_of_head? q)
      rw [if_neg hne]
  have l7 := numL_len (n := i.natAbs) (k := 7) (by decide) (by omega)
  have l0 := List.length_pos_iff.mpr (numL_ne i.natAbs)
  unfold wnF
  rw [ef, decide_eq_true (show 1 ≤ (numL i.natAbs).length from l0), decide_eq_true l7, Bool.true_and, Bool.true_and, Bool.and_eq_true_iff]
  refine ⟨List.all_eq_true.mpr fun c hc => ?_, ?_⟩
  · obtain ⟨a, b⟩ := numL_digits i.natAbs c hc
    unfold digB
    rw [decide_eq_true a, decide_eq_true b]
    rfl
  · by_cases i0 : i = 0
    · rw [i0]
      rw [show decide (V.str (numS 0) = V.str "0") = true from decide_eq_true rfl]
      rfl
    · cases e : numL i.natAbs with
      | nil => exact absurd e (numL_ne _)
      | cons c r =>
        have c48 := numL_head (by omega) c r e
        rw [Bool.or_eq_true_iff]
        refine .inr ?_
        show (!decide (c = 48)) = true
        rw [decide_eq_false c48]
        rfl
end DL
namespace DL
open PySem PySem.Spec L2 DLR TL NumText
/-! ### texts cut anywhere; lines and rows of any words -/
theorem spl1 (s : Nat) : ∀ (L acc : List Nat), spl [s] 0 acc L ≠ [] ∧ (spl [s] 0 acc L).length ≤ L.length + 1 ∧ ∀ p ∈ spl [s] 0 acc L, p.length ≤ acc.length + L.length
  | [], acc => by
    rw [spl_nil]
    exact ⟨by simp, Nat.le_refl _, fun p hp => by rw [List.mem_singleton.mp hp]; exact Nat.le_refl _⟩
  | c :: r, acc => by
    cases h : pre [s] (c :: r) with
    | true =>
      obtain ⟨a1, a2, a3⟩ := spl1 s r []
      rw [spl_hit h]
      show acc :: spl [s] 0 [] r ≠ [] ∧ (acc :: spl [s] 0 [] r).length ≤ _ ∧ _
      refine ⟨by simp, by rw [List.length_cons, List.length_cons]; omega, fun p hp => ?_⟩
      rcases List.mem_cons.mp hp with rfl | hp
      · exact Nat.le_add_right _ _
      · have := a3 p hp
        rw [List.length_cons]
        have e : ([] : List Nat).length = 0 := rfl
        omega
    | false =>
      obtain ⟨a1, a2, a3⟩ := spl1 s r (acc ++ [c])
      rw [spl_miss h]
      refine ⟨a1, by rw [List.length_cons]; omega, fun p hp => ?_⟩
      have := a3 p hp
      rw [List.length_append] at this
      rw [List.length_cons]
      have e : [c].length = 1 := rfl
      omega
theorem split1 {y : Str} {s : Nat} (ey : tl y = [s]) (hk : y.cps.all (· < 256) = true) (x : Str) : Txt.split x y ≠ [] ∧ (Txt.split x y).length ≤ x.length + 1 ∧ ∀ p ∈ Txt.split x y, p.length ≤ x.length := by
  have e := split_spl x y (by rw [ey]; simp) (kind_ok hk)
  rw [ey] at e
  obtain ⟨a1, a2, a3⟩ := spl1 s (tl x) []
  rw [← e] at a1 a2 a3
  refine ⟨fun z => a1 (by rw [z]; rfl), by rw [List.length_map] at a2; rw [len_tl]; exact a2, fun p hp => ?_⟩
  have q := a3 (tl p) (List.mem_map_of_mem hp)
  rw [len_tl, len_tl]
  have e0 : ([] : List Nat).length = 0 := rfl
  omega
theorem split_nl (x : Str) : Txt.split x "\n" ≠ [] ∧ (Txt.split x "\n").length ≤ x.length + 1 ∧ ∀ p ∈ Txt.split x "\n", p.length ≤ x.length := split1 (s := 10) rfl (by decide +kernel) x
theorem split_sp (x : Str) : Txt.split x " " ≠ [] ∧ (Txt.split x " ").length ≤ x.length + 1 ∧ ∀ p ∈ Txt.split x " ", p.length ≤ x.length := split1 (s := 32) rfl (by decide +kernel) x
def lineB (n : Nat) : List Str → Bool
  | x :: r => r.all wnF && (if n = 0 then decide (V.str x = V.str "worths") else match partsOf x with
    | some ps => decide (r.length = ps.length)
    | none => false)
  | [] => false
def small7 (is : List Int) : Prop := ∀ i ∈ is, i.natAbs ≤ 9999999
theorem sgnL_len7 {i : Int} (h : i.natAbs ≤ 9999999) : (numL i.natAbs).length ≤ 7 ∧ 0 < (numL i.natAbs).length ∧ (sgnL i).length ≤ 8 := by
  have a := numL_len (n := i.natAbs) (k := 7) (by decide) (by omega)
  have b := List.length_pos_iff.mpr (numL_ne i.natAbs)
  unfold sgnL
  refine ⟨a, b, ?_⟩
  split
  · rw [List.length_cons]; omega
  · omega
theorem num_back7 {i : Int} (h : i.natAbs ≤ 9999999) : intText? (numS i) = some i := by
  have len : (numS i).length ≤ 8 := by
    rw [len_tl, tl_numS]
    exact (sgnL_len7 h).2.2
  by_cases lt : i < 0
  · have e : (numS i).cps.toList = 45 :: numL i.natAbs := by
      have q := tl_numS i
      unfold sgnL at q
      rw [if_pos lt] at q
      exact q
    rw [intText_neg e (numL_digits _) (numL_ne _) (by omega), numL_val]
    exact congrArg some (by omega)
  · have e : (numS i).cps.toList = numL i.natAbs := by
      have q := tl_numS i
      unfold sgnL at q
      rw [if_neg (by omega)] at q
      exact q
    rw [intText_digits (by rw [e]; exact numL_digits _) (by rw [e]; exact numL_ne _) (by omega), e, numL_val]
    exact congrArg some (by omega)
theorem nums_of : ∀ {r : List Str}, r.all wnF = true → ∃ is : List Int, r = is.map numS ∧ small7 is
  | [], _ => ⟨[], rfl, fun _ h => by cases h⟩
  | z :: r, h => by
    have h : (wnF z && r.all wnF) = true := h
    obtain ⟨h1, h2⟩ := Bool.and_eq_true_iff.mp h
    obtain ⟨i, hi, rfl⟩ := wn_num h1
    obtain ⟨is, rfl, hs⟩ := nums_of h2
    exact ⟨i :: is, rfl, fun x hx => by
      rcases List.mem_cons.mp hx with rfl | hx
      · exact hi
      · exact hs x hx⟩
def spIlD : Sp := fun vs H Q _ => ∃ (a : Addr) (x : Str) (r : List Str) (n : Nat), vs = [.ref a, nI n] ∧ H a = some (.lst ((x :: r).map V.str)) ∧ (∀ z ∈ r, z.length ≤ 1000000) ∧ r.length ≤ 50000 ∧ ∀ H', Same1 H H' → Q (.bl (lineB n (x :: r))) H'
def spRoD : Sp := fun vs H Q _ => ∃ (a : Addr) (x : Str) (is : List Int), vs = [.ref a] ∧ H a = some (.lst ((lineF x is).map V.str)) ∧ small7 is ∧ is.length ≤ 50000 ∧ ∀ t H', Same1 H H' → H' t = some (.tup (V.str x :: is.map V.int)) → Q (.ref t) H'
section
variable {P : Program} {w : World} {K : PySem.W.Frag} {mg : Str → Option Value} {base : Heap}
theorem ok_islineD (c : FIl K mg) (cWn : FWn K mg) (T : Bt mg) (Z : Pt K w mg) (O : PtO K Z) (CX : Cx7 mg) (CI : Ci mg) : FnOk P w K mg base CX0 2 c.f c.fd ["words", "number"] spIlD := by
  have GWn : FnOk P w K mg base CX0 1 cWn.f cWn.fd ["word"] spWnD := ok_wnD cWn T CX CI
  refine c.F.ok scIl (fun vs H Q E h => ?_) (fun cdv A outer s H vs Q E hr h => ?_)
  · obtain ⟨a, x, r, n, rfl, _⟩ := h
    rfl
  · obtain ⟨a, x, r, n, rfl, ha, hz, hr5, k⟩ := h
    refine ⟨_, (pss_cons (ps_asg (pv 0) (DLR.pg_star rfl (pg_name (i := 2) scIl.nd rfl (Or.inl rfl)) (pg_name (i := 3) scIl.nd rfl (Or.inl rfl))))
      (pss_cons (ps_if (pt_not (pt_val (pe_callB (cr_all rfl) (by rfl) T.all (by decide +kernel) (pa_cons (pe_lc (own := [("figures", 4)]) (g := gName 4) (tt := tYes) rfl scIl.nd (pi_list (pv 3)) (blkOk_by (N := nIl) (sc := defScope sIl) (by decide +kernel)) (fun _ _ _ _ _ => (pg_name (i := 4) scIl.nd rfl (Or.inl rfl))) (fun _ _ _ _ _ => pts_nil) (fun _ _ _ _ _ => (pe_call GWn (hr.mono (by first | omega | decide)) (by rfl) cWn.m cWn.F.kp cWn.b .nil pass0 (pa_cons (pv 4) pa_nil)))) pa_nil))))
          (pss_one (ps_ret pe_bl))
          pss_nil)
      (pss_cons (ps_if (pt_cmpR op_eq (pv 1) pe_int (nomark _))
          (pss_one (ps_ret (pe_cmpR op_eq (pv 2) pe_str (nomark _))))
          pss_nil)
      (pss_one (ps_ret (pe_and (pe_cmpR (op_in_kd Z.kd) (pv 2) (pe_glob (v := .ref Z.d) rfl Z.m rfl) rfl) (pe_one (pe_cmpR op_eq (pe_callB call_len_seq (by rfl) T.len PySem.boot_len (pa_cons (pv 3) pa_nil)) (pe_callB call_len_seq (by rfl) T.len PySem.boot_len (pa_cons (pe_ix ix_kdict (pe_glob (v := .ref Z.d) rfl Z.m rfl) (pv 2) (fun _ _ => rfl)) pa_nil)) (nomark _))))))))), ?_⟩
    have ha : H a = some (.lst (V.str x :: r.map V.str)) := ha
    refine ⟨_, rfl, a, V.str x, r.map V.str, rfl, SqL.of ha, fun l hl => ?_⟩
    refine alloc hl fun H1 s1 e1 => ?_
    dsimp only [gName]
    refine ⟨_, rfl, l, rfl, ⟨_, SqL.of e1⟩, fun D hD => ?_⟩
    refine lc_list (K := K) (a := l) (xs := r.map V.str) (fun j H' => Same1 H1 H' ∧ H' D = some (.lst (((r.take j).map wnF).map V.bl))) ⟨Same.new hD, upd_same⟩ (fun j H' _ ⟨q, _⟩ => SqL.of (q _ _ e1)) ?_ ?_
    · rintro j v H2 hj ⟨s2, hd2⟩
      rw [List.getElem?_map] at hj
      cases hz0 : r[j]? with
      | none => rw [hz0] at hj; cases hj
      | some z =>
        rw [hz0] at hj
        have e : V.str z = v := Option.some.inj hj
        subst e
        have hjl := (List.getElem?_eq_some_iff.mp hz0).1
        refine ⟨rfl, _, rfl, z, rfl, hz z (List.mem_of_getElem? hz0), fun H3 s3 => ?_⟩
        refine ⟨_, s3 _ _ hd2, szl (by rw [List.length_map, List.length_map, List.length_take]; omega), Same.mut (s2.trans s3) hD, ?_⟩
        rw [upd_same, List.take_add_one, hz0, List.map_append, List.map_append]
        rfl
    rintro H2 ⟨s2, hd2⟩
    rw [List.length_map, List.take_length] at hd2
    refine ⟨D, _, rfl, SqL.of hd2, _, rfl, ?_⟩
    have ea : (r.map wnF).all id = r.all wnF := by
      rw [List.all_map]
      rfl
    rw [ea]
    have S2 := s1.trans s2
    have k : ∀ H', Same1 H H' → Q (.bl (r.all wnF && (if n = 0 then decide (V.str x = V.str "worths") else match partsOf x with
      | some ps => decide (r.length = ps.length)
      | none => false))) H' := k
    cases hall : r.all wnF with
    | false =>
      rw [hall] at k
      exact iteT (k H2 S2)
    | true =>
      rw [hall, Bool.true_and] at k
      refine iteF ?_
      refine ⟨_, rfl, rfl, _, rfl, ?_⟩
      by_cases hn : n = 0
      · subst hn
        rw [if_pos rfl] at k
        rw [show decide (nI 0 = V.int 0) = true from by decide]
        exact iteT ⟨_, rfl, rfl, k H2 S2⟩
      · rw [if_neg hn] at k
        rw [show decide (nI n = V.int 0) = false from decide_eq_false (fun z => hn (by have := V.int.inj z; omega))]
        cases hp : partsOf x with
        | none =>
          rw [hp] at k
          exact iteF ⟨_, rfl, _, _, rfl, rfl, O.no x hp, _, rfl, k H2 S2⟩
        | some ps =>
          rw [hp] at k
          have k : ∀ H', Same1 H H' → Q (.bl (decide (r.length = ps.length))) H' := k
          obtain ⟨r0, rw0, rp0⟩ := parts_row hp
          obtain ⟨t, z1, z2, z3⟩ := Z.get r0
          rw [rw0] at z1 z2
          rw [rp0] at z3
          refine iteF ⟨_, rfl, _, _, rfl, rfl, z1, _, rfl, ?_⟩
          refine ⟨_, rfl, l, _, rfl, .inl (SqL.of (s2 _ _ e1)), _, rfl, Z.d, _, _, rfl, rfl, z2, t, _, rfl, .inr (z3 H2), rfl, ?_⟩
          rw [List.length_map, List.length_map]
          have ed : decide (V.int ((r.length : Nat) : Int) = V.int ((ps.length : Nat) : Int)) = decide (r.length = ps.length) := by
            rw [Bool.eq_iff_iff, decide_eq_true_iff, decide_eq_true_iff]
            exact ⟨fun z => by have := V.int.inj z; omega, fun z => by rw [z]⟩
          rw [ed]
          exact k H2 S2
theorem ok_rowofD (c : FRo K mg) (T : Bt mg) : FnOk P w K mg base CX0 1 c.f c.fd ["words"] spRoD := by
  refine c.F.ok scRo (fun vs H Q E h => ?_) (fun cdv A outer s H vs Q E hr h => ?_)
  · obtain ⟨a, x, is, rfl, _⟩ := h
    rfl
  · obtain ⟨a, x, is, rfl, ha, hs, h10, k⟩ := h
    refine ⟨_, (pss_cons (ps_setLc (i := 1) (own := [("word", 2)]) (g := gName 2) (tt := tYes) rfl scRo.nd rfl rfl (sw_true rfl rfl rfl (by decide +kernel)) (pi_list (pe_slice sl_list (pv 0) (po_some pe_int) po_none)) (blkOk_by (N := nRo) (sc := defScope sRo) (by decide +kernel)) (fun _ _ _ _ _ => (pg_name (i := 2) scRo.nd rfl (Or.inl rfl))) (fun _ _ _ _ _ => pts_nil) (fun _ _ _ _ _ => (pe_callTy call_int_str (by rfl) T.int (by decide +kernel) (pa_cons (pv 2) pa_nil))))
      (pss_one (ps_ret (pe_tup (pa_cons (pe_ix ix_list (pv 0) pe_int (fun _ _ => rfl)) (StX.pa_star (pv 1) pa_nil)))))), ?_⟩
    have ha : H a = some (.lst (V.str x :: (is.map numS).map V.str)) := ha
    refine ⟨_, rfl, _, rfl, a, _, rfl, SqL.of ha, fun l hl => ?_⟩
    refine alloc hl fun H1 s1 e1 => ?_
    have e1 : H1 l = some (.lst ((is.map numS).map V.str)) := e1.trans (congrArg (fun z => some (HO.lst z)) (dropU 1 (xs := V.str x :: (is.map numS).map V.str)))
    refine ⟨l, rfl, ⟨_, SqL.of e1⟩, fun D hD => ?_⟩
    refine lc_list (K := K) (a := l) (xs := (is.map numS).map V.str) (fun j H' => Same1 H1 H' ∧ H' D = some (.lst ((is.take j).map V.int))) ⟨Same.new hD, upd_same⟩ (fun j H' _ ⟨q, _⟩ => SqL.of (q _ _ e1)) ?_ ?_
    · rintro j v H2 hj ⟨s2, hd2⟩
      rw [List.getElem?_map, List.getElem?_map] at hj
      cases hz : is[j]? with
      | none => rw [hz] at hj; cases hj
      | some i =>
        rw [hz] at hj
        have e : V.str (numS i) = v := Option.some.inj hj
        subst e
        have hi := hs i (List.mem_of_getElem? hz)
        have hjl := (List.getElem?_eq_some_iff.mp hz).1
        refine ⟨rfl, _, rfl, _, i, rfl, num_back7 hi, by rw [len_tl, tl_numS]; have := (sgnL_len7 hi).2.2; omega, ?_⟩
        refine ⟨_, hd2, szl (by rw [List.length_map, List.length_take]; omega), Same.mut s2 hD, ?_⟩
        rw [upd_same, List.take_add_one, hz, List.map_append]
        rfl
    rintro H2 ⟨s2, hd2⟩
    rw [List.length_map, List.length_map, List.take_length] at hd2
    have S2 := s1.trans s2
    dsimp only [gName]
    refine ⟨_, rfl, a, _, _, _, rfl, rfl, SqL.of (S2 _ _ ha), at0, _, rfl, D, _, rfl, .inr (SqL.of hd2), sz (by simp; omega), fun t ht => ?_⟩
    refine alloc ht fun H3 s3 e3 => ?_
    refine k t H3 (S2.trans s3) ?_
    rw [e3]
    simp
end
end DL
namespace DL
open PySem PySem.Spec L2 DLR TL NumText
/-! ### read of any text -/
abbrev IBT (K : Frg) (mg : Str → Option Value) (C : Addr) := ErI K mg "BadText" "BadText.__init__" C sBTInit ["self", "line"]
abbrev BadT (BT : Addr) (H : Hp) (E : XK) (r : Int) : Prop := ∀ d H', H d = none → Same1 H H' → H' d = some (.xd (fsBT r)) → E (.ref BT) (some d) H'
theorem BadT.to {BT : Addr} {H H1 : Hp} {E : XK} {r : Int} (h : BadT BT H E r) (s : Same1 H H1) : BadT BT H1 E r := fun d H' hd s' e => h d H' (s.free hd) (s.trans s') e
def wordsT (z : Str) : List (List Str) := (Txt.split z "\n").map fun l => Txt.split l " "
def badL : Nat → List (List Str) → Option Nat
  | _, [] => none
  | i, ws :: r => if lineB i ws = true then badL (i + 1) r else some i
def numOf (z : Str) : Int := (intText? z).getD 0
abbrev Ln := Str × List Int
def qOf (ws : List Str) : Ln := (ws.headD "", (ws.drop 1).map numOf)
def qsT (z : Str) : List Ln := (wordsT z).map qOf
def progQ (qs : List Ln) : D := .tup [.tup (((qs.headD ("", [])).2).map .int), .tup ((qs.drop 1).map fun q => .tup (.str q.1 :: q.2.map .int))]
theorem line_q {i : Nat} {ws : List Str} (h : lineB i ws = true) : ws = lineF (qOf ws).1 (qOf ws).2 ∧ small7 (qOf ws).2 := by
  cases ws with
  | nil => cases h
  | cons x r =>
    have h : (r.all wnF && _) = true := h
    obtain ⟨is, rfl, hs⟩ := nums_of (Bool.and_eq_true_iff.mp h).1
    have e : (is.map numS).map numOf = is := by
      rw [List.map_map]
      conv => rhs; rw [← List.map_id is]
      refine List.map_congr_left fun i hi => ?_
      show (intText? (numS i)).getD 0 = i
      rw [num_back7 (hs i hi)]
      rfl
    have eq2 : (qOf (x :: is.map numS)).2 = is := e
    rw [eq2]
    exact ⟨rfl, hs⟩
theorem bad_none : ∀ {ls : List (List Str)} {i : Nat}, badL i ls = none → ∀ ws ∈ ls, ws = lineF (qOf ws).1 (qOf ws).2 ∧ small7 (qOf ws).2
  | [], _, _ => fun _ h => by cases h
  | w :: r, i, h => by
    have h' : (if lineB i w = true then badL (i + 1) r else some i) = none := h
    by_cases c : lineB i w = true
    · rw [if_pos c] at h'
      intro ws hw
      rcases List.mem_cons.mp hw with rfl | hw
      · exact line_q c
      · exact bad_none h' ws hw
    · rw [if_neg c] at h'
      cases h'
abbrev SpW (D : Addr) (H : Hp) (ls : List Addr) (wss : List (List Str)) : Prop := Paired (fun l (ws : List Str) => l ≠ D ∧ H l = some (.lst (ws.map V.str))) ls wss
theorem SpW.same {D : Addr} {H H' : Hp} {ls : List Addr} {qs : List (List Str)} (h : SpW D H ls qs) (s : Same1 H H') : SpW D H' ls qs := Paired.mapP h fun l q ⟨a, b⟩ => ⟨a, s _ _ b⟩
theorem SpW.upd {D : Addr} {H : Hp} {o : HO} {ls : List Addr} {qs : List (List Str)} (h : SpW D H ls qs) : SpW D (upd H D o) ls qs := Paired.mapP h fun l q ⟨a, b⟩ => ⟨a, (upd_ne a).trans b⟩
theorem words_len (z : Str) : wordsT z ≠ [] ∧ (wordsT z).length ≤ z.length + 1 ∧ ∀ ws ∈ wordsT z, ws ≠ [] ∧ ws.length ≤ z.length + 1 ∧ ∀ x ∈ ws, x.length ≤ z.length := by
  obtain ⟨a, b, c⟩ := split_nl z
  unfold wordsT
  refine ⟨fun h => a (List.map_eq_nil_iff.mp h), by rw [List.length_map]; exact b, fun ws hw => ?_⟩
  obtain ⟨l, hl, rfl⟩ := List.mem_map.mp hw
  obtain ⟨a1, b1, c1⟩ := split_sp l
  have := c l hl
  exact ⟨a1, by omega, fun x hx => Nat.le_trans (c1 x hx) this⟩
theorem rowsQ_at {H : Hp} : ∀ {ts : List Addr} {qs : List Ln}, LinesAt H ts qs → Ats H (ts.map V.ref) (qs.map fun q => D.tup (.str q.1 :: q.2.map .int))
  | _, _, .nil => by simp only [List.map_nil, Ats]
  | _, _, .cons (a := t) (b := q) h r => by
    have ei : ∀ l : List Int, Ats H (l.map V.int) (l.map D.int) := fun l => by
      induction l with
      | nil => simp only [List.map_nil, Ats]
      | cons x l ih =>
        simp only [List.map_cons, Ats]
        exact ⟨by simp only [At], ih⟩
    simp only [List.map_cons, Ats]
    refine ⟨?_, rowsQ_at r⟩
    simp only [At]
    refine ⟨_, _, rfl, h, ?_⟩
    simp only [Ats]
    exact ⟨by simp only [At], ei _⟩
theorem ints_ats {H : Hp} : ∀ l : List Int, Ats H (l.map V.int) (l.map D.int)
  | [] => by simp only [List.map_nil, Ats]
  | x :: l => by
    simp only [List.map_cons, Ats]
    exact ⟨by simp only [At], ints_ats l⟩
theorem spl_of {D : Addr} {H : Hp} : ∀ {ls : List Addr} {wss : List (List Str)}, SpW D H ls wss → (∀ ws ∈ wss, ws = lineF (qOf ws).1 (qOf ws).2 ∧ small7 (qOf ws).2) → SplAt D H ls (wss.map qOf)
  | _, _, .nil, _ => .nil
  | _, ws :: _, .cons ⟨a, b⟩ t, h => .cons ⟨a, by
      have e := (h ws List.mem_cons_self).1
      rw [e] at b
      exact b⟩ (spl_of t fun x hx => h x (List.mem_cons_of_mem _ hx))
def spRdD (BP BT : Addr) : Sp := fun vs H Q E => ∃ z : Str, vs = [.str z] ∧ z.length ≤ 44000 ∧ (∀ i, badL 0 (wordsT z) = some i → BadT BT H E ((i : Nat) : Int)) ∧
  (badL 0 (wordsT z) = none → (∀ r y, progF (progQ (qsT z)) = some (r, y) → BadP BP H E r y) ∧ (progF (progQ (qsT z)) = none → ∀ b H', Same1 H H' → At H' (.ref b) (progQ (qsT z)) → Q (.ref b) H'))
section
variable {P : Program} {w : World} {K : PySem.W.Frag} {mg : Str → Option Value} {base : Heap} {CB CT : Addr}
theorem ok_readD (BT : IBT K mg CT) (GBT : FnOk P w K mg base CX0 1 BT.f BT.fd ["self", "line"] (spBT CT)) (c : FRd K mg) (cCheckProgram : FCheckProgram K mg) (cIl : FIl K mg) (cRo : FRo K mg) (cWn : FWn K mg) (T : Bt mg) (Z : Pt K w mg) (O : PtO K Z) (CX : Cx7 mg) (CI : Ci mg) (GCheckProgram : FnOk P w K mg base (L2.CX P w) 4 cCheckProgram.f cCheckProgram.fd ["program"] (spCheckProgramD CB)) : FnOk P w K mg base (L2.CX P w) 5 c.f c.fd ["text"] (spRdD CB CT) := by
  have GIl : FnOk P w K mg base CX0 2 cIl.f cIl.fd ["words", "number"] spIlD := ok_islineD cIl cWn T Z O CX CI
  have GRo : FnOk P w K mg base CX0 1 cRo.f cRo.fd ["words"] spRoD := ok_rowofD cRo T
  refine c.F.okX scRd (fun vs H Q E h => ?_) (fun cdv A outer s H vs Q E hr h => ?_)
  · obtain ⟨z, rfl, _⟩ := h
    rfl
  · obtain ⟨z, rfl, hz, ke, kq⟩ := h
    refine ⟨_, (pss_cons (ps_setLc (i := 1) (own := [("line", 6)]) (g := gName 6) (tt := tYes) rfl scRd.nd rfl rfl (sw_true rfl rfl rfl (by decide +kernel)) (pi_list (pe_split (pv 0) pe_str)) (blkOk_by (N := nRd) (sc := defScope sRd) (by decide +kernel)) (fun _ _ _ _ _ => (pg_name (i := 6) scRd.nd rfl (Or.inl rfl))) (fun _ _ _ _ _ => pts_nil) (fun _ _ _ _ _ => (pe_split (pv 6) pe_str)))
      (pss_cons (ps_for (L2.passes_of rfl) rfl (pi_enum (by rfl) T.enumerate (pa_cons (pv 1) pa_nil)) (pg_tup rfl (pgs_cons (pg_name (i := 2) scRd.nd rfl (Or.inl rfl)) (pgs_cons (pg_name (i := 3) scRd.nd rfl (Or.inl rfl)) pgs_nil)))
          (pss_one (ps_if (pt_not (pt_val (pe_call GIl (hr.mono (by first | omega | decide)) (by rfl) cIl.m cIl.F.kp cIl.b .nil pass0 (pa_cons (pv 3) (pa_cons (pv 2) pa_nil)))))
              (pss_one (ps_raise rfl (takes_of rfl rfl rfl rfl) (L2.pmk_oex BT.T BT.iC BT.tI GBT (hr.mono (by first | omega | decide)) BT.b .nil pass0 (by rfl) BT.m (pa_cons (pv 2) pa_nil))))
              pss_nil)))
      (pss_cons (ps_set (i := 4) scRd.nd rfl (Or.inl rfl) (pe_callTy call_tuple_of (by rfl) T.tuple (by decide +kernel) (pa_cons (pe_lc (own := [("word", 7)]) (g := gName 7) (tt := tYes) rfl scRd.nd (pi_list (pe_slice sl_list (pe_ix ix_list (pv 1) pe_int (fun _ _ => rfl)) (po_some pe_int) po_none)) (blkOk_by (N := nRd) (sc := defScope sRd) (by decide +kernel)) (fun _ _ _ _ _ => (pg_name (i := 7) scRd.nd rfl (Or.inl rfl))) (fun _ _ _ _ _ => pts_nil) (fun _ _ _ _ _ => (pe_callTy call_int_str (by rfl) T.int (by decide +kernel) (pa_cons (pv 7) pa_nil)))) pa_nil)))
      (pss_cons (ps_set (i := 5) scRd.nd rfl (Or.inl rfl) (pe_tup (pa_cons (pv 4) (pa_cons (pe_callTy call_tuple_of (by rfl) T.tuple (by decide +kernel) (pa_cons (pe_lc (own := [("words", 3)]) (g := gName 3) (tt := tYes) rfl scRd.nd (pi_list (pe_slice sl_list (pv 1) (po_some pe_int) po_none)) (blkOk_by (N := nRd) (sc := defScope sRd) (by decide +kernel)) (fun _ _ _ _ _ => (pg_name (i := 3) scRd.nd rfl (Or.inl rfl))) (fun _ _ _ _ _ => pts_nil) (fun _ _ _ _ _ => (pe_call GRo (hr.mono (by first | omega | decide)) (by rfl) cRo.m cRo.F.kp cRo.b .nil pass0 (pa_cons (pv 3) pa_nil)))) pa_nil)) pa_nil))))
      (pss_cons (ps_expr (pe_call GCheckProgram (hr.mono (by first | omega | decide)) (by rfl) cCheckProgram.m cCheckProgram.F.kp cCheckProgram.b .nil (L2.passes_call (takes_of rfl rfl rfl rfl) (fun _ _ _ _ h => h)) (pa_cons (pv 5) pa_nil)))
      (pss_one (ps_ret (pv 5)))))))), ?_⟩
    obtain ⟨w0, w1, w2⟩ := words_len z
    obtain ⟨n0, n1, n2⟩ := split_nl z
    refine ⟨_, rfl, ⟨_, rfl⟩, _, _, rfl, rfl, rfl, by rw [sizeLine_eq]; omega, fun l0 hl0 => ?_⟩
    refine alloc hl0 fun H1 s1 e1 => ?_
    refine ⟨l0, rfl, ⟨_, SqL.of e1⟩, fun D hD => ?_⟩
    refine lc_list (K := K) (a := l0) (xs := (Txt.split z "\n").map V.str) (fun j H' => ∃ ls : List Addr, Same1 H1 H' ∧ H' D = some (.lst (ls.map V.ref)) ∧ SpW D H' ls ((wordsT z).take j)) ⟨[], Same.new hD, upd_same, .nil⟩ (fun j H' _ ⟨_, q, _⟩ => SqL.of (q _ _ e1)) ?_ ?_
    · rintro j v H2 hj ⟨ls, s2, hd2, hs2⟩
      rw [List.getElem?_map] at hj
      cases hq : (Txt.split z "\n")[j]? with
      | none => rw [hq] at hj; cases hj
      | some q =>
        rw [hq] at hj
        have e : V.str q = v := Option.some.inj hj
        subst e
        have hql := n2 q (List.mem_of_getElem? hq)
        have hll := Paired.length hs2
        rw [List.length_take] at hll
        have hjl := (List.getElem?_eq_some_iff.mp hq).1
        refine ⟨rfl, _, rfl, ⟨_, rfl⟩, _, _, rfl, rfl, rfl, by rw [sizeLine_eq]; omega, fun l hl => ?_⟩
        refine alloc hl fun H3 s3 e3 => ?_
        have hd3 := s3 _ _ hd2
        have nlD : l ≠ D := fun z => by rw [z, hd2] at hl; cases hl
        refine ⟨_, hd3, szl (by rw [List.length_map]; omega), ls ++ [l], Same.mut (s2.trans s3) hD, by rw [upd_same, List.map_append]; rfl, ?_⟩
        have hwj : (wordsT z)[j]? = some (Txt.split q " ") := by
          unfold wordsT
          rw [List.getElem?_map, hq]
          rfl
        rw [List.take_add_one, hwj]
        exact SpW.upd (Paired.app (SpW.same hs2 s3) (Paired.one ⟨nlD, e3⟩))
    rintro H2 ⟨ls, s2, hd2, hs2⟩
    have ewl : ((Txt.split z "\n").map V.str).length = (wordsT z).length := by
      unfold wordsT
      rw [List.length_map, List.length_map]
    rw [ewl, List.take_length] at hs2
    have S2 := s1.trans s2
    have hll := Paired.length hs2
    dsimp only [gName]
    refine ⟨_, rfl, D, _, rfl, SqL.of hd2, DLR.for_enumL (K := K) (a := D) (xs := ls.map V.ref) (fun i σ H' => ∃ (x2 x3 : Option V), σ = [some (.str z), some (.ref D), x2, x3, none, none, none, none] ∧ Same1 H2 H' ∧ badL 0 (wordsT z) = badL i ((wordsT z).drop i)) ⟨none, none, rfl, Same.refl _, rfl⟩ (fun i σ H' ⟨_, _, _, q, _⟩ => SqL.of (q _ _ hd2)) ?_ ?_⟩
    · rintro i x T' σ H3 hi ⟨x2, x3, rfl, s3, eB⟩ hT'
      have hic : i < ls.length := by
        have q := (List.getElem?_eq_some_iff.mp hi).1
        rwa [List.length_map] at q
      have ex : x = .ref ls[i] := by
        rw [List.getElem?_map, List.getElem?_eq_getElem hic] at hi
        exact (Option.some.inj hi).symm
      subst ex
      obtain ⟨ws, hq1, _, hq2⟩ := Paired.get hs2 (List.getElem?_eq_getElem hic)
      obtain ⟨c1, c2, c3⟩ := w2 ws (List.mem_of_getElem? hq1)
      obtain ⟨x0, r0, rfl⟩ : ∃ x0 r0, ws = x0 :: r0 := by
        cases ws with
        | nil => exact absurd rfl c1
        | cons x0 r0 => exact ⟨x0, r0, rfl⟩
      have hdr : (wordsT z).drop i = (x0 :: r0) :: (wordsT z).drop (i + 1) := by
        obtain ⟨hi, e⟩ := List.getElem?_eq_some_iff.mp hq1
        rw [← e]
        exact List.drop_eq_getElem_cons hi
      rw [hdr] at eB
      have eB : badL 0 (wordsT z) = if lineB i (x0 :: r0) = true then badL (i + 1) ((wordsT z).drop (i + 1)) else some i := eB
      rw [List.length_cons] at c2
      refine alloc hT' fun H4 s4 e4 => ?_
      refine ⟨T', _, rfl, SqT.of e4, rfl, _, _, rfl, _, _, rfl, rfl, ?_⟩
      refine ⟨_, rfl, _, rfl, ls[i], x0, r0, i, rfl, (s3.trans s4) _ _ hq2, fun x hx => Nat.le_trans (c3 x (List.mem_cons_of_mem _ hx)) (by omega), by omega, fun H5 s5 => ?_⟩
      refine ⟨_, rfl, ?_⟩
      have S5 : Same1 H2 H5 := (s3.trans s4).trans s5
      cases hb : lineB i (x0 :: r0) with
      | true =>
        rw [hb, if_pos rfl] at eB
        exact iteF ⟨_, _, rfl, S5, eB⟩
      | false =>
        rw [hb, if_neg (by decide)] at eB
        exact iteT ⟨_, rfl, toldBT (small_nat (by omega)) ((ke i eB).to (S2.trans S5))⟩
    rintro σ H3 ⟨x2, x3, rfl, s3, eB⟩
    dsimp only
    rw [List.length_map, hll, List.drop_length] at eB
    have hbad : badL 0 (wordsT z) = none := eB
    obtain ⟨kp, kn⟩ := kq hbad
    have hln := bad_none hbad
    have hs2' := spl_of hs2 hln
    have qok : ∀ q ∈ (wordsT z).map qOf, small7 q.2 ∧ q.2.length ≤ 45000 := fun q hq => by
      obtain ⟨ws, hw, rfl⟩ := List.mem_map.mp hq
      obtain ⟨e1, e2⟩ := hln ws hw
      refine ⟨e2, ?_⟩
      have l1 := (w2 ws hw).2.1
      have l2 : (lineF (qOf ws).1 (qOf ws).2).length = (qOf ws).2.length + 1 := by
        unfold lineF
        rw [List.length_cons, List.length_map]
      rw [← e1] at l2
      omega
    have hqt : progQ (qsT z) = progQ ((wordsT z).map qOf) := rfl
    rw [hqt] at kp kn
    have qlen : ((wordsT z).map qOf).length ≤ 45000 := by rw [List.length_map]; omega
    generalize (wordsT z).map qOf = qs at hs2' qok kp kn qlen
    obtain ⟨l1, lr, q0, qr, rfl, rfl, ⟨n1, h1⟩, hr⟩ : ∃ l1 lr q0 qr, ls = l1 :: lr ∧ qs = q0 :: qr ∧ (l1 ≠ D ∧ H2 l1 = some (.lst ((lineF q0.1 q0.2).map V.str))) ∧ SplAt D H2 lr qr := by
      cases hs2' with
      | nil =>
        rw [show ([] : List Addr).length = 0 from rfl] at hll
        exact absurd (List.length_eq_zero_iff.mp hll.symm) w0
      | cons a b => exact ⟨_, _, _, _, rfl, rfl, a, b⟩
    obtain ⟨q0s, q0l⟩ := qok q0 List.mem_cons_self
    rw [List.length_cons] at qlen
    refine ⟨_, rfl, D, _, _, _, rfl, rfl, SqL.of (s3 _ _ hd2), at0, _, rfl, l1, _, rfl, SqL.of (s3 _ _ h1), fun la hla => ?_⟩
    refine alloc hla fun H4 s4 e4 => ?_
    have e4 : H4 la = some (.lst ((q0.2.map numS).map V.str)) := e4.trans (congrArg (fun z => some (HO.lst z)) (dropU 1 (xs := V.str q0.1 :: (q0.2.map numS).map V.str)))
    refine ⟨la, rfl, ⟨_, SqL.of e4⟩, fun D2 hD2 => ?_⟩
    refine lc_list (K := K) (a := la) (xs := (q0.2.map numS).map V.str) (fun j H' => Same1 H4 H' ∧ H' D2 = some (.lst ((q0.2.take j).map V.int))) ⟨Same.new hD2, upd_same⟩ (fun j H' _ ⟨q, _⟩ => SqL.of (q _ _ e4)) ?_ ?_
    · rintro j v H5 hj ⟨s5, hd5⟩
      rw [List.getElem?_map, List.getElem?_map] at hj
      cases hz0 : q0.2[j]? with
      | none => rw [hz0] at hj; cases hj
      | some i =>
        rw [hz0] at hj
        have e : V.str (numS i) = v := Option.some.inj hj
        subst e
        have hi := q0s i (List.mem_of_getElem? hz0)
        have hjl := (List.getElem?_eq_some_iff.mp hz0).1
        refine ⟨rfl, _, rfl, _, i, rfl, num_back7 hi, by rw [len_tl, tl_numS]; have := (sgnL_len7 hi).2.2; omega, ?_⟩
        refine ⟨_, hd5, szl (by rw [List.length_map, List.length_take]; omega), Same.mut s5 hD2, ?_⟩
        rw [upd_same, List.take_add_one, hz0, List.map_append]
        rfl
    rintro H5 ⟨s5, hd5⟩
    rw [List.length_map, List.length_map, List.take_length] at hd5
    refine ⟨D2, _, rfl, .inl ⟨SqL.of hd5, fun wt hwt => ?_⟩⟩
    refine alloc hwt fun H6 s6 e6 => ?_
    dsimp only [gName]
    have s26 : Same1 H2 H6 := ((s3.trans s4).trans s5).trans s6
    refine ⟨_, rfl, _, rfl, _, rfl, D, _, rfl, SqL.of (s26 _ _ hd2), fun lb hlb => ?_⟩
    refine alloc hlb fun H7 s7 e7 => ?_
    have e7 : H7 lb = some (.lst (lr.map V.ref)) := e7.trans (congrArg (fun z => some (HO.lst z)) (dropU 1 (xs := (l1 :: lr).map V.ref)))
    have hr7 := SplAt.same hr (s26.trans s7)
    have hlr := Paired.length hr
    refine ⟨lb, rfl, ⟨_, SqL.of e7⟩, fun D3 hD3 => ?_⟩
    refine lc_list (K := K) (a := lb) (xs := lr.map V.ref) (fun j H' => ∃ ts : List Addr, Same1 H7 H' ∧ H' D3 = some (.lst (ts.map V.ref)) ∧ LinesAt H' ts (qr.take j)) ⟨[], Same.new hD3, upd_same, .nil⟩ (fun j H' _ ⟨_, q, _⟩ => SqL.of (q _ _ e7)) ?_ ?_
    · rintro j x H8 hj ⟨ts, s8, hd8, ht8⟩
      have hic : j < lr.length := by
        have q := (List.getElem?_eq_some_iff.mp hj).1
        rwa [List.length_map] at q
      have ex : x = .ref lr[j] := by
        rw [List.getElem?_map, List.getElem?_eq_getElem hic] at hj
        exact (Option.some.inj hj).symm
      subst ex
      obtain ⟨q, hq1, _, hq2⟩ := Paired.get hr7 (List.getElem?_eq_getElem hic)
      obtain ⟨c1, c2⟩ := qok q (List.mem_cons_of_mem _ (List.mem_of_getElem? hq1))
      have htl := Paired.length ht8
      rw [List.length_take] at htl
      refine ⟨rfl, _, rfl, lr[j], q.1, q.2, rfl, s8 _ _ hq2, c1, by omega, fun t H9 s9 e9 => ?_⟩
      have hd9 := s9 _ _ hd8
      refine ⟨_, hd9, szl (by rw [List.length_map]; omega), ts ++ [t], Same.mut (s8.trans s9) hD3, by rw [upd_same, List.map_append]; rfl, ?_⟩
      rw [List.take_add_one, hq1]
      exact Paired.mapP (Paired.app (Paired.mapP ht8 fun b z h => s9 _ _ h) (Paired.one e9)) fun b z h => Kp.lst hd9 _ _ h
    rintro H8 ⟨ts, s8, hd8, ht8⟩
    rw [List.length_map, hlr, List.take_length] at ht8
    have htl := Paired.length ht8
    refine ⟨D3, _, rfl, .inl ⟨SqL.of hd8, fun rt hrt => ?_⟩⟩
    refine alloc hrt fun H9 s9 e9 => ?_
    refine ⟨(by show 2 ≤ sizeLine; decide), fun pt hpt => ?_⟩
    refine alloc hpt fun H10 s10 e10 => ?_
    dsimp only [gName]
    have s610 : Same1 H6 H10 := ((s7.trans s8).trans s9).trans s10
    have S10 : Same1 H H10 := (S2.trans s26).trans s610
    have hA : ∀ H', Same1 H10 H' → At H' (.ref pt) (progQ (q0 :: qr)) := fun H' s' => by
      have ht' : LinesAt H' ts qr := Paired.mapP ht8 fun b z h => ((s9.trans s10).trans s') _ _ h
      have a1 : H' wt = some (.tup (q0.2.map V.int)) := (s610.trans s') _ _ e6
      have a2 : H' rt = some (.tup (ts.map V.ref)) := (s10.trans s') _ _ e9
      have a3 : H' pt = some (.tup [.ref wt, .ref rt]) := s' _ _ e10
      unfold progQ
      simp only [At, Ats]
      exact ⟨pt, _, rfl, a3, ⟨wt, _, rfl, a1, ints_ats _⟩, ⟨rt, _, rfl, a2, rowsQ_at ht'⟩, trivial⟩
    have hfit : (progQ (q0 :: qr)).fit := by
      have hrow : ∀ q ∈ qr, (DL.D.tup (.str q.1 :: q.2.map .int)).fit := fun q hq => by
        have l := (qok q (List.mem_cons_of_mem _ hq)).2
        simp only [DL.D.fit]
        refine ⟨by rw [List.length_cons, List.length_map]; omega, fitL_iff.mpr fun x hx => ?_⟩
        rcases List.mem_cons.mp hx with rfl | hx
        · simp [DL.D.fit]
        · obtain ⟨i, _, rfl⟩ := List.mem_map.mp hx
          simp [DL.D.fit]
      unfold progQ
      simp only [DL.D.fit]
      refine ⟨by show 2 ≤ 100000; decide, fitL_iff.mpr fun x hx => ?_⟩
      rcases List.mem_cons.mp hx with rfl | hx
      · simp only [DL.D.fit]
        refine ⟨by rw [List.length_map]; show q0.2.length ≤ _; omega, fitL_iff.mpr fun x hx => ?_⟩
        obtain ⟨i, _, rfl⟩ := List.mem_map.mp hx
        simp [DL.D.fit]
      · rw [List.mem_singleton.mp hx]
        simp only [DL.D.fit]
        refine ⟨by rw [List.length_map]; show qr.length ≤ _; omega, fitL_iff.mpr fun x hx => ?_⟩
        obtain ⟨q, hq, rfl⟩ := List.mem_map.mp hx
        exact hrow q hq
    refine ⟨_, rfl, .ref pt, progQ (q0 :: qr), rfl, hA H10 (Same.refl _), hfit, fun r y hp => (kp r y hp).to S10, fun hn H11 s11 => ?_⟩
    exact ⟨_, rfl, kn hn pt H11 (S10.trans s11) (hA H11 s11)⟩
end
end DL
namespace DL
open PySem PySem.Spec L2 DLR TL NumText
def spWrD (BP : Addr) : Sp := fun vs H Q E => ∃ (v : V) (d : D), vs = [v] ∧ At H v d ∧ d.fit ∧ (∀ r y, progF d = some (r, y) → BadP BP H E r y) ∧ (progF d = none → ∀ p, d = progDD p → Good p → ∀ H', Same1 H H' → Q (.str (textF p)) H')
section
variable {P : Program} {w : World} {K : PySem.W.Frag} {mg : Str → Option Value} {base : Heap} {CB : Addr}
theorem ok_writtenD (c : FWr K mg) (cCheckProgram : FCheckProgram K mg) (T : Bt mg) (GCheckProgram : FnOk P w K mg base (L2.CX P w) 4 cCheckProgram.f cCheckProgram.fd ["program"] (spCheckProgramD CB)) : FnOk P w K mg base (L2.CX P w) 5 c.f c.fd ["program"] (spWrD CB) := by
  refine c.F.okX scWr (fun vs H Q E h => ?_) (fun cdv A outer s H vs Q E hr h => ?_)
  · obtain ⟨v, d, rfl, _⟩ := h
    rfl
  · obtain ⟨v, d, rfl, hv, hfit, ke, kn⟩ := h
    refine ⟨_, (pss_cons (ps_expr (pe_call GCheckProgram (hr.mono (by first | omega | decide)) (by rfl) cCheckProgram.m cCheckProgram.F.kp cCheckProgram.b .nil (L2.passes_call (takes_of rfl rfl rfl rfl) (fun _ _ _ _ h => h)) (pa_cons (pv 0) pa_nil)))
      (pss_cons (ps_asg (pv 0) (pg_tup rfl (pgs_cons (pg_name (i := 1) scWr.nd rfl (Or.inl rfl)) (pgs_cons (pg_name (i := 2) scWr.nd rfl (Or.inl rfl)) pgs_nil))))
      (pss_cons (ps_set (i := 3) scWr.nd rfl (Or.inl rfl) (pe_lst (pa_cons (pe_tup (pa_cons pe_str (StX.pa_star (pv 1) pa_nil))) (StX.pa_star (pv 2) pa_nil))))
      (pss_one (ps_ret (pe_join pe_str (pe_lc (own := [("line", 4)]) (g := gName 4) (tt := tYes) rfl scWr.nd (pi_list (pv 3)) (blkOk_by (N := nWr) (sc := defScope sWr) (by decide +kernel)) (fun _ _ _ _ _ => (pg_name (i := 4) scWr.nd rfl (Or.inl rfl))) (fun _ _ _ _ _ => pts_nil) (fun _ _ _ _ _ => (pe_joinK K rfl pe_str (pe_lc (own := [("thing", 5)]) (g := gName 5) (tt := tYes) rfl scWr.nd (pi_tupK K rfl (pv 4)) (blkRel (blkOk_by (N := nWr) (sc := scLines) (by decide +kernel))) (fun _ _ _ _ _ => (pg_name (i := 5) scWr.nd rfl (Or.inl rfl))) (fun _ _ _ _ _ => pts_nil) (fun _ _ _ _ _ => (pe_callTy strIS (by rfl) T.str (by decide +kernel) (pa_cons (pv 5) pa_nil))))))))))))), ?_⟩
    refine ⟨_, rfl, v, d, rfl, hv, hfit, fun r y hp => ke r y hp, fun hn H1 s1 => ?_⟩
    obtain ⟨p, rfl, g⟩ := prog_of_none hn
    obtain ⟨a, rfl, hP⟩ := prog_at hv
    have k : ∀ H', Same1 H H' → Q (.str (textF p)) H' := fun H' s' => kn hn p rfl g H' s'
    obtain ⟨wa, ra, bs, hpa, hwa, hra, hR⟩ := hP.kp (Kp.same s1)
    refine ⟨_, rfl, a, _, rfl, SqT.of hpa, rfl, _, _, rfl, _, _, rfl, rfl, ?_⟩
    dsimp only
    have hwl : p.ws.length ≤ 8 := g.w8
    have hbl := Paired.length hR
    have r40 := g.r40
    refine ⟨_, rfl, wa, _, rfl, .inl (SqT.of hwa), sz (by simp; omega), fun tw htw => ?_⟩
    refine alloc htw fun H2 s2 e2 => ?_
    refine ⟨_, rfl, ra, _, rfl, .inl (SqT.of (s2 _ _ hra)), sz (by simp; omega), fun ll hll => ?_⟩
    refine alloc hll fun H3 s3 e3 => ?_
    have e3 : H3 ll = some (.lst ((tw :: bs).map V.ref)) := by rw [e3]; simp
    have hL : LinesAt H3 (tw :: bs) (qsF p) := by
      refine .cons ?_ (linesAt_rows (RowsAt.kp hR (Kp.same (s2.trans s3))))
      rw [s3 _ _ e2]
      simp
    obtain ⟨lk, l41⟩ := lines_ok g
    rw [linesF_qs] at lk l41
    rw [List.length_map] at l41
    have hLl := Paired.length hL
    refine ⟨⟨_, rfl⟩, _, rfl, ll, rfl, ⟨_, SqL.of e3⟩, fun D hD => ?_⟩
    refine lc_list (K := K) (a := ll) (xs := (tw :: bs).map V.ref) (fun j H' => Same1 H3 H' ∧ H' D = some (.lst ((((qsF p).take j).map fun q => Txt.join " " (lineF q.1 q.2)).map V.str))) ⟨Same.new hD, upd_same⟩ (fun j H' _ ⟨q, _⟩ => SqL.of (q _ _ e3)) ?_ ?_
    · rintro j x H4 hj ⟨s4, hd4⟩
      have hjc : j < (tw :: bs).length := by
        have q := (List.getElem?_eq_some_iff.mp hj).1
        rwa [List.length_map] at q
      have ex : x = .ref (tw :: bs)[j] := by
        rw [List.getElem?_map, List.getElem?_eq_getElem hjc] at hj
        exact (Option.some.inj hj).symm
      subst ex
      obtain ⟨⟨y, is⟩, hq1, hq2⟩ := Paired.get hL (List.getElem?_eq_getElem hjc)
      have hln : LnOk (lineF y is) := lk _ (List.mem_map.mpr ⟨(y, is), List.mem_of_getElem? hq1, rfl⟩)
      have hsm := qs_small g _ (List.mem_of_getElem? hq1)
      have hq2 : H3 (tw :: bs)[j] = some (.tup (V.str y :: is.map V.int)) := hq2
      have c4 := s4 _ _ hq2
      have hlen := hln.len
      refine ⟨rfl, ⟨_, rfl⟩, _, rfl, (tw :: bs)[j], rfl, ⟨_, SqT.of c4⟩, fun D2 hD2 => ?_⟩
      refine lc_tup (K := K) (a := (tw :: bs)[j]) (xs := V.str y :: is.map V.int) (fun i H' => Same1 H4 H' ∧ H' D2 = some (.lst (((lineF y is).take i).map V.str))) ⟨Same.new hD2, upd_same⟩ (fun i H' _ ⟨q, _⟩ => SqT.of (q _ _ c4)) ?_ ?_
      · rintro i x H5 hi ⟨s5, hd5⟩
        have go : ∀ z : Str, (lineF y is)[i]? = some z → ∃ acc, H5 D2 = some (HO.lst acc) ∧ acc.length < sizeLine ∧ Same1 H4 (upd H5 D2 (.lst (acc ++ [V.str z]))) ∧ (upd H5 D2 (.lst (acc ++ [V.str z]))) D2 = some (.lst (((lineF y is).take (i + 1)).map V.str)) := by
          intro z hz
          refine ⟨_, hd5, szl (by rw [List.length_map, List.length_take]; omega), Same.mut s5 hD2, ?_⟩
          rw [upd_same, List.take_add_one, hz, List.map_append]
          rfl
        cases i with
        | zero =>
          have e : V.str y = x := Option.some.inj hi
          subst e
          exact ⟨rfl, _, rfl, .inr ⟨_, rfl, go y rfl⟩⟩
        | succ i =>
          have hi : (is.map V.int)[i]? = some x := hi
          rw [List.getElem?_map] at hi
          cases hz : is[i]? with
          | none => rw [hz] at hi; cases hi
          | some n =>
            rw [hz] at hi
            have e : V.int n = x := Option.some.inj hi
            subst e
            refine ⟨rfl, _, rfl, .inl ⟨n, rfl, log_small (hsm n (List.mem_of_getElem? hz)), go (numS n) ?_⟩⟩
            show ((is.map numS)[i]?) = _
            rw [List.getElem?_map, hz]
            rfl
      rintro H5 ⟨s5, hd5⟩
      rw [show (V.str y :: is.map V.int).length = (lineF y is).length by unfold lineF; simp, List.take_length] at hd5
      have hs := sum_le hln.w8
      refine ⟨_, D2, lineF y is, rfl, rfl, .inl (SqL.of hd5), by show _ + _ * 1 ≤ _; omega, ?_⟩
      have hd6 := s5 _ _ hd4
      refine ⟨_, hd6, szl (by rw [List.length_map, List.length_map, List.length_take]; omega), Same.mut (s4.trans s5) hD, ?_⟩
      rw [upd_same, List.take_add_one, hq1, List.map_append, List.map_append]
      rfl
    rintro H4 ⟨s4, hd4⟩
    rw [List.length_map, hLl, List.take_length] at hd4
    have et : textF p = Txt.join "\n" ((qsF p).map fun q => Txt.join " " (lineF q.1 q.2)) := by
      unfold textF
      rw [linesF_qs, List.map_map]
      rfl
    have hs := sum_le (parts := (qsF p).map fun q => Txt.join " " (lineF q.1 q.2)) (B := 100) fun x hx => by
      obtain ⟨q, hq, rfl⟩ := List.mem_map.mp hx
      exact (lk _ (List.mem_map.mpr ⟨q, hq, rfl⟩)).join.1
    rw [List.length_map] at hs
    refine ⟨_, D, (qsF p).map fun q => Txt.join " " (lineF q.1 q.2), rfl, rfl, .inl (SqL.of hd4), by rw [List.length_map]; show _ + _ * 1 ≤ _; omega, ?_⟩
    rw [← et]
    exact k H4 (((s1.trans s2).trans s3).trans s4)
end
end DL
namespace DL
open PySem PySem.Spec L2 DLR TL NumText
/-! ### the law's own reading of a number -/
abbrev sLNum : Stmt := top 41
abbrev nLNum : List Str := ["_law_word","_law_size","_law_sign"]
abbrev FLNum (K : Frg) (mg : Str → Option Value) := Fd K mg "_law_number" sLNum ["_law_word"]
def spLNum : Sp := fun vs H Q _ => ∃ z : Str, vs = [.str z] ∧ z.length ≤ 1000000 ∧ (∀ c ∈ tl z, c < 128) ∧ ∀ H', Same1 H H' → Q (if wnF z = true then .int (numOf z) else .non) H'
theorem head_minus (z : Str) : decide (V.str (cutS z none (some 1)) = V.str "-") = decide ((tl z).head? = some 45) := by
  have e : tl (cutS z none (some 1)) = (tl z).take 1 := by
    unfold cutS
    have e : HT.sIx z.length z.length (some 1) = min 1 z.length := HT.sIx_nat _ _ 1
    rw [e, HT.sIx_none]
    show ((z.cps.toList.drop 0).take (min 1 z.length - 0)).toArray.toList = z.cps.toList.take 1
    have hz : z.length = z.cps.toList.length := len_tl z
    rw [hz, List.drop_zero, Nat.sub_zero]
    rcases Nat.le_total 1 z.cps.toList.length with q | q
    · rw [Nat.min_eq_left q]
    · rw [Nat.min_eq_right q, List.take_length, List.take_of_length_le q]
  rw [Bool.eq_iff_iff, decide_eq_true_iff, decide_eq_true_iff]
  constructor
  · intro h
    have h2 : cutS z none (some 1) = ("-" : Str) := V.str.inj h
    rw [h2] at e
    have e : [45] = (tl z).take 1 := e
    cases ez : tl z with
    | nil => rw [ez] at e; cases e
    | cons c r =>
      rw [ez] at e
      have : [45] = [c] := e
      injection this with q _
      rw [← q]
      rfl
  · intro h
    refine congrArg V.str (tl_inj ?_)
    rw [e]
    cases ez : tl z with
    | nil => rw [ez] at h; cases h
    | cons c r =>
      rw [ez] at h
      rw [show c = 45 from Option.some.inj h]
      rfl
theorem tl_cut0 (z : Str) : tl (cutS z (some 0) none) = tl z := by
  unfold cutS
  have e : HT.sIx z.length 0 (some 0) = min 0 z.length := HT.sIx_nat _ _ 0
  rw [e, HT.sIx_none]
  show ((z.cps.toList.drop (min 0 z.length)).take (z.length - min 0 z.length)).toArray.toList = z.cps.toList
  have hz : z.length = z.cps.toList.length := len_tl z
  rw [hz, Nat.zero_min, List.drop_zero, Nat.sub_zero, List.take_length]
theorem int_some {z : Str} (hd : ∀ c ∈ figL z, 48 ≤ c ∧ c ≤ 57) (ne : figL z ≠ []) (l7 : (figL z).length ≤ 7) : ∃ n : Int, intText? z = some n ∧ n.natAbs = digitsVal (figL z) ∧ z.length ≤ 8 := by
  unfold figL at hd ne l7 ⊢
  by_cases m : (tl z).head? = some 45
  · rw [if_pos m] at hd ne l7 ⊢
    cases e : tl z with
    | nil => rw [e] at m; cases m
    | cons c r =>
      rw [e] at m hd ne l7
      have ec : c = 45 := Option.some.inj m
      subst ec
      have l8 : z.length ≤ 8 := by
        rw [len_tl, e, List.length_cons]
        have : r.length ≤ 7 := l7
        omega
      exact ⟨_, intText_neg e hd ne (by omega), by show _ = digitsVal r; omega, l8⟩
  · rw [if_neg m] at hd ne l7 ⊢
    have l8 : z.length ≤ 8 := by rw [len_tl]; omega
    exact ⟨_, intText_digits hd ne (by omega), by show _ = digitsVal z.cps.toList; omega, l8⟩
theorem digits_valL (l : List Nat) : digitsVal l = valL l := by
  unfold digitsVal valL
  congr 1
  funext a c
  omega
def Asc (z : Str) : Prop := ∀ c ∈ tl z, c < 128
theorem strOk1 {c : Nat} (h : c < 128) : PyData.canLay0 (.str ⟨#[c]⟩) = true := by
  show PyData.strOk ⟨#[c]⟩ = true
  unfold PyData.strOk
  simp
  omega
theorem strsD_lay : ∀ l : List Nat, (∀ c ∈ l, c < 128) → PyData.canLayAll0 (l.map fun c => PyData.str ⟨#[c]⟩) = true
  | [], _ => by decide +kernel
  | x :: l, h => by
    show (PyData.canLay0 (.str ⟨#[x]⟩) && PyData.canLayAll0 (l.map fun c => PyData.str ⟨#[c]⟩)) = true
    rw [strsD_lay l fun c hc => h c (List.mem_cons_of_mem _ hc), strOk1 (h x List.mem_cons_self)]
    rfl
theorem strsD_dep : ∀ l : List Nat, PyData.depthAll (l.map fun c => PyData.str ⟨#[c]⟩) ≤ 1
  | [] => by decide
  | x :: l => by
    have h := strsD_dep l
    show max (PyData.str ⟨#[x]⟩).depth (PyData.depthAll (l.map fun c => PyData.str ⟨#[c]⟩)) ≤ 1
    have : (PyData.str ⟨#[x]⟩).depth ≤ 1 := by simp [PyData.depth]
    omega
theorem strsD_shaped (l : List Nat) (h : ∀ c ∈ l, c < 128) : SeqAt.shaped (.list (l.map fun c => PyData.str ⟨#[c]⟩)) = true := by
  show (PyData.canLayAll0 (l.map fun c => PyData.str ⟨#[c]⟩) && decide (PyData.depth (.list (l.map fun c => PyData.str ⟨#[c]⟩)) ≤ 64)) = true
  rw [strsD_lay l h]
  refine decide_eq_true ?_
  have := strsD_dep l
  show _ + _ ≤ 64
  omega
theorem strsD_at {K : Frg} {H : Hp} : ∀ l : List Nat, DpAll K H (l.map fun c => V.str ⟨#[c]⟩) (l.map fun c => PyData.str ⟨#[c]⟩)
  | [] => .nil
  | x :: l => .cons (.str _) (strsD_at l)
section
variable {P : Program} {w : World} {K : PySem.W.Frag} {mg : Str → Option Value} {base : Heap}
theorem scLNum : FnScope nLNum ["_law_word"] (defScope sLNum) := ⟨rfl, rfl, rfl, by decide +kernel, rfl, by decide +kernel, by decide +kernel⟩
theorem ok_lnum (c : FLNum K mg) (T : Bt mg) : FnOk P w K mg base CX0 1 c.f c.fd ["_law_word"] spLNum := by
  refine c.F.ok scLNum (fun vs H Q E h => ?_) (fun cdv A outer s H vs Q E hr h => ?_)
  · obtain ⟨z, rfl, _⟩ := h
    rfl
  · obtain ⟨z, rfl, hz, hasc, k⟩ := h
    refine ⟨_, (pss_cons (ps_set (i := 1) scLNum.nd rfl (Or.inl rfl) (pe_slice sl_str (pv 0) (po_some (pe_callTy call_int1 (by rfl) T.int (by decide +kernel) (pa_cons (pe_cmpR op_eq (pe_slice sl_str (pv 0) po_none (po_some pe_int)) pe_str (nomark _)) pa_nil))) po_none))
      (pss_cons (ps_if (PW.pt (pw_or (pt_not (pt_chain op_le op_le pe_int (pe_callB call_len_str (by rfl) T.len PySem.boot_len (pa_cons (pv 1) pa_nil)) pe_int)) (pw_or1 (pt_cmpR (op_neD hr.units) (pe_lc (own := [("_law_sign", 2)]) (g := gName 2) rfl scLNum.nd (pi_str (pv 1)) (blkOk_by (N := nLNum) (sc := defScope sLNum) (by decide +kernel)) (fun _ _ _ _ _ => (pg_name (i := 2) scLNum.nd rfl (Or.inl rfl))) (fun _ _ _ _ _ => (pts_one (pt_cmpR op_notIn_sign (pv 2) pe_str rfl))) (fun _ _ _ _ _ => (pv 2))) (pe_lst pa_nil) (nomark _)))))
          (pss_one (ps_ret pe_non))
          pss_nil)
      (pss_one (ps_ret (pe_ifExp (pt_cmpR op_eq (pe_callTy strIS (by rfl) T.str (by decide +kernel) (pa_cons (pe_callTy call_int_str (by rfl) T.int (by decide +kernel) (pa_cons (pv 0) pa_nil)) pa_nil)) (pv 0) (nomark _)) (pe_callTy call_int_str (by rfl) T.int (by decide +kernel) (pa_cons (pv 0) pa_nil)) pe_non))))), ?_⟩
    have hzs : z.length ≤ sizeLine := by rw [sizeLine_eq]; omega
    refine asg_elim (fun v H' => ∃ f : Str, v = .str f ∧ tl f = figL z ∧ H' = H) ?_ ?_
    · rintro v H' ⟨f, rfl, hf, rfl⟩
      have hfl : f.length = (figL z).length := by rw [len_tl, hf]
      have hfz : (figL z).length ≤ 1000000 := by
        rw [len_tl] at hz
        unfold figL
        split
        · rw [List.length_drop]; omega
        · exact hz
      have hfa : ∀ c ∈ figL z, c < 128 := fun c hc => by
        unfold figL at hc
        split at hc
        · exact hasc c (List.mem_of_mem_drop hc)
        · exact hasc c hc
      dsimp only [gName]
      have fs : f.length ≤ sizeLine := by rw [sizeLine_eq]; omega
      have no1 : ¬ (1 ≤ (figL z).length) → wnF z = false := fun h => by
        unfold wnF
        rw [decide_eq_false h]
        simp
      have no7 : ¬ ((figL z).length ≤ 7) → wnF z = false := fun h => by
        unfold wnF
        rw [decide_eq_false h]
        simp
      have noD : (figL z).all digB = false → wnF z = false := fun h => by
        unfold wnF
        rw [h]
        simp
      refine ⟨_, rfl, f, rfl, fs, _, _, rfl, rfl, _, rfl, ?_⟩
      by_cases l1 : 1 ≤ (figL z).length
      · rw [show decide ((1 : Int) ≤ (f.length : Int)) = true from decide_eq_true (by omega)]
        refine ⟨_, _, rfl, rfl, _, rfl, ?_⟩
        by_cases l7 : (figL z).length ≤ 7
        · rw [show decide ((f.length : Int) ≤ 7) = true from decide_eq_true (by omega)]
          refine iteF ?_
          refine ⟨_, rfl, f, rfl, fun D hD => ?_⟩
          refine DLR.lc_genU (J := Its f) f.cps.size (fun j H1 => Same1 H' H1 ∧ H1 D = some (.lst ((((figL z).take j).filter fun c => !digB c).map fun c => V.str ⟨#[c]⟩))) ⟨Same.new hD, upd_same⟩ (fun j H1 hj _ => hj) (fun H1 _ => Nat.le_refl _) ?_ ?_
          · rintro j x H1 H2 hj ⟨s1, hd1⟩ ⟨rfl, c, hc, rfl⟩
            have hcz : (figL z)[j]? = some c := by
              rw [← hf]
              show (f.cps.toList)[j]? = some c
              rw [Array.getElem?_toList]
              exact hc
            refine ⟨rfl, _, rfl, c, _, rfl, rfl, _, rfl, ?_⟩
            rw [figB]
            have htk : (figL z).take (j + 1) = (figL z).take j ++ [c] := by rw [List.take_add_one, hcz]; rfl
            cases hb : digB c with
            | true =>
              refine iteF ⟨s1, ?_⟩
              rw [hd1, htk, List.filter_append]
              simp [hb]
            | false =>
              have hlf := List.length_filter_le (fun c => !digB c) ((figL z).take j)
              rw [List.length_take] at hlf
              refine iteT ⟨_, rfl, _, hd1, szl (by rw [List.length_map]; omega), Same.mut s1 hD, ?_⟩
              rw [upd_same, htk, List.filter_append, List.map_append]
              simp [hb]
          rintro H1 ⟨s1, hd1⟩
          have hsz : f.cps.size = (figL z).length := hfl
          rw [hsz, List.take_length] at hd1
          refine ⟨Nat.zero_le _, fun em hem => ?_⟩
          refine alloc hem fun H2 s2 e2 => ?_
          have S2 : Same1 H' H2 := s1.trans s2
          have hbad : ∀ c ∈ (figL z).filter (fun c => !digB c), c < 128 := fun c hc => hfa c (List.mem_filter.mp hc).1
          refine ⟨.list (((figL z).filter fun c => !digB c).map fun c => PyData.str ⟨#[c]⟩), .list [], .lst (SqL.of (s2 _ _ hd1)) (strsD_at _), .lst (SqL.of e2) .nil, strsD_shaped _ hbad, by decide +kernel, ?_⟩
          refine ⟨_, rfl, ?_⟩
          cases hall : (figL z).all digB with
          | false =>
            have k := k H2 S2
            rw [noD hall, if_neg (by decide)] at k
            cases hfl2 : (figL z).filter (fun c => !digB c) with
            | nil =>
              exfalso
              have q : (figL z).all digB = true := List.all_eq_true.mpr fun c hc => by
                cases hb : digB c with
                | true => rfl
                | false =>
                  have m : c ∈ (figL z).filter (fun c => !digB c) := List.mem_filter.mpr ⟨hc, by rw [hb]; rfl⟩
                  rw [hfl2] at m
                  cases m
              rw [q] at hall
              cases hall
            | cons c r =>
              rw [show (!PyData.eqv (.list ((c :: r).map fun c => PyData.str ⟨#[c]⟩)) (.list [])) = true from rfl]
              exact iteT k
          | true =>
            have hfl2 : (figL z).filter (fun c => !digB c) = [] := List.filter_eq_nil_iff.mpr fun c hc => by
              rw [List.all_eq_true.mp hall c hc]
              decide
            rw [hfl2, show (!PyData.eqv (.list (([] : List Nat).map fun c => PyData.str ⟨#[c]⟩)) (.list [])) = false from rfl]
            refine iteF ?_
            have hd : ∀ c ∈ figL z, 48 ≤ c ∧ c ≤ 57 := fun c hc => digit_of (List.all_eq_true.mp hall c hc)
            have ne : figL z ≠ [] := List.length_pos_iff.mp l1
            obtain ⟨n, hn, hna, l8⟩ := int_some hd ne l7
            have lt := valL_lt _ (figL z) rfl hd
            have lt7 : valL (figL z) < 10 ^ 7 := Nat.lt_of_lt_of_le lt (Nat.pow_le_pow_right (by decide) l7)
            rw [digits_valL] at hna
            have sm : n.natAbs.log2 < 1920 := by
              by_cases e0 : n.natAbs = 0
              · rw [e0]
                decide
              · exact Nat.lt_of_lt_of_le ((Nat.log2_lt e0).mpr (Nat.lt_of_lt_of_le (by omega : n.natAbs < 10 ^ 7) (by decide : 10 ^ 7 ≤ 2 ^ 24))) (by decide)
            refine ⟨_, rfl, z, n, rfl, hn, by omega, .inl ⟨n, rfl, sm, _, rfl, rfl, _, rfl, ?_⟩⟩
            have k := k H2 S2
            cases he : decide (V.str (Str.ofString (toString n)) = V.str z) with
            | true =>
              have ez : numS n = z := V.str.inj (of_decide_eq_true he)
              have hw : wnF z = true := by
                rw [← ez]
                exact num_wn (by omega)
              rw [hw, if_pos rfl] at k
              refine iteT ⟨_, rfl, z, n, rfl, hn, by omega, ?_⟩
              have en : numOf z = n := by
                unfold numOf
                rw [hn]
                rfl
              rw [en] at k
              exact k
            | false =>
              have hw : wnF z = false := by
                cases hw : wnF z with
                | false => rfl
                | true =>
                  exfalso
                  obtain ⟨i, hi, rfl⟩ := wn_num hw
                  rw [num_back7 hi] at hn
                  have ei : i = n := Option.some.inj hn
                  subst ei
                  exact of_decide_eq_false he rfl
              rw [hw, if_neg (by decide)] at k
              exact iteF k
        · rw [show decide ((f.length : Int) ≤ 7) = false from decide_eq_false (by omega)]
          have k := k H' (Same.refl _)
          rw [no7 l7, if_neg (by decide)] at k
          exact iteT k
      · rw [show decide ((1 : Int) ≤ (f.length : Int)) = false from decide_eq_false (by omega)]
        have k := k H' (Same.refl _)
        rw [no1 l1, if_neg (by decide)] at k
        exact iteF ⟨_, rfl, iteT k⟩
    · intro Q' hQ
      refine ⟨_, rfl, _, rfl, _, rfl, z, rfl, hzs, rfl, ?_⟩
      rw [head_minus]
      refine .inr ⟨_, rfl, _, rfl, z, rfl, hzs, hQ _ _ ⟨_, rfl, ?_, rfl⟩⟩
      unfold figL
      by_cases m : (tl z).head? = some 45
      · rw [decide_eq_true m, if_pos rfl, if_pos m]
        exact tl_cut1 z
      · rw [decide_eq_false m, if_neg (by decide), if_neg m]
        exact tl_cut0 z
end
end DL
namespace DL
open PySem PySem.Spec L2 DLR TL NumText
/-! ### the law's own reading of a text -/
abbrev sLDue : Stmt := top 42
abbrev nLDue : List Str := ["_law_text","_law_sizes","_law_rows","_law_at","_law_line","_law_words","_law_numbers","_law_word"]
abbrev FLDue (K : Frg) (mg : Str → Option Value) := Fd K mg "_law_due" sLDue ["_law_text"]
def dueD (z : Str) : D := match badL 0 (wordsT z) with
  | some i => .tup [.str "text", .int (i : Nat)]
  | none => progQ (qsT z)
def spLDue : Sp := fun vs H Q _ => ∃ z : Str, vs = [.str z] ∧ z.length ≤ 44000 ∧ (∀ c ∈ tl z, c < 128) ∧ ∀ v H', Same1 H H' → At H' v (dueD z) → Q v H'
def numV (w : Str) : V := if wnF w = true then .int (numOf w) else .non
def sizesL : List (Key × V) := [(.inr "load", .int 3), (.inr "add", .int 3), (.inr "take", .int 3), (.inr "store", .int 3), (.inr "say", .int 2), (.inr "test", .int 3), (.inr "stop", .int 1)]
theorem spl_sub (s : Nat) : ∀ (L acc : List Nat) (p : List Nat), p ∈ spl [s] 0 acc L → ∀ c ∈ p, c ∈ acc ∨ c ∈ L
  | [], acc, p, hp, c, hc => by
    rw [spl_nil] at hp
    rw [List.mem_singleton.mp hp] at hc
    exact .inl hc
  | d :: r, acc, p, hp, c, hc => by
    cases h : pre [s] (d :: r) with
    | true =>
      rw [spl_hit h] at hp
      have hp : p ∈ acc :: spl [s] 0 [] r := hp
      rcases List.mem_cons.mp hp with rfl | hp
      · exact .inl hc
      · rcases spl_sub s r [] p hp c hc with q | q
        · cases q
        · exact .inr (List.mem_cons_of_mem _ q)
    | false =>
      rw [spl_miss h] at hp
      rcases spl_sub s r (acc ++ [d]) p hp c hc with q | q
      · rcases List.mem_append.mp q with q | q
        · exact .inl q
        · rw [List.mem_singleton.mp q]
          exact .inr List.mem_cons_self
      · exact .inr (List.mem_cons_of_mem _ q)
theorem split_sub {y : Str} {s : Nat} (ey : tl y = [s]) (hk : y.cps.all (· < 256) = true) {x p : Str} (hp : p ∈ Txt.split x y) : ∀ c ∈ tl p, c ∈ tl x := fun c hc => by
  have e := split_spl x y (by rw [ey]; simp) (kind_ok hk)
  rw [ey] at e
  have m : tl p ∈ spl [s] 0 [] (tl x) := by
    rw [← e]
    exact List.mem_map_of_mem hp
  rcases spl_sub s _ _ _ m c hc with q | q
  · cases q
  · exact q
theorem words_sub {z : Str} {ws : List Str} (h : ws ∈ wordsT z) {w : Str} (hw : w ∈ ws) {c : Nat} (hc : c ∈ tl w) : c ∈ tl z := by
  obtain ⟨l, hl, rfl⟩ := List.mem_map.mp h
  exact split_sub (s := 10) rfl (by decide +kernel) hl c (split_sub (s := 32) rfl (by decide +kernel) hw c hc)
theorem at_tup2 {H : Hp} {t : Addr} {x : Str} {i : Int} (h : H t = some (.tup [.str x, .int i])) : At H (.ref t) (.tup [.str x, .int i]) := by
  simp only [At, Ats]
  exact ⟨t, _, rfl, h, rfl, rfl, trivial⟩
theorem tt_elim {T : TT} {σ : L2.St} {H : Hp} {K : Bool → Hp → Prop} (b : Bool) (h1 : ∀ K' : Bool → Hp → Prop, K' b H → T σ H K') (h2 : K b H) : T σ H K := h1 K h2
theorem sizes_at (x : Str) : (valV (mergeK [] sizesL) (.inr x)).getD (.int 0) = .int (match partsOf x with | some ps => (ps.length : Int) + 1 | none => 0) := by
  cases hp : partsOf x with
  | some ps =>
    obtain ⟨r, rfl, rfl⟩ := parts_row hp
    cases r <;> rfl
  | none =>
    have ne : ∀ r : Row, ¬ (Sum.inr x : Key) = Sum.inr r.word := fun r e => by
      injection e with e
      rw [e, partsOf_row] at hp
      cases hp
    show (valV (putK (putK (putK (putK (putK (putK (putK ([] : List (Key × V)) (Sum.inr ("load" : Str)) (.int 3)) (Sum.inr ("add" : Str)) (.int 3)) (Sum.inr ("take" : Str)) (.int 3)) (Sum.inr ("store" : Str)) (.int 3)) (Sum.inr ("say" : Str)) (.int 2)) (Sum.inr ("test" : Str)) (.int 3)) (Sum.inr ("stop" : Str)) (.int 1)) (Sum.inr x)).getD (.int 0) = .int 0
    have nstop : ¬ (Sum.inr x : Key) = Sum.inr ("stop" : Str) := ne .stop
    have ntest : ¬ (Sum.inr x : Key) = Sum.inr ("test" : Str) := ne (.test 0 0)
    have nsay : ¬ (Sum.inr x : Key) = Sum.inr ("say" : Str) := ne (.say 0)
    have nstore : ¬ (Sum.inr x : Key) = Sum.inr ("store" : Str) := ne (.store 0 0)
    have ntake : ¬ (Sum.inr x : Key) = Sum.inr ("take" : Str) := ne (.take 0 0)
    have nadd : ¬ (Sum.inr x : Key) = Sum.inr ("add" : Str) := ne (.add 0 0)
    have nload : ¬ (Sum.inr x : Key) = Sum.inr ("load" : Str) := ne (.load 0 0)
    rw [valV_put, if_neg nstop, valV_put, if_neg ntest, valV_put, if_neg nsay, valV_put, if_neg nstore, valV_put, if_neg ntake, valV_put, if_neg nadd, valV_put, if_neg nload]
    rfl
theorem none_in : ∀ r : List Str, inV .non (r.map numV) = !(r.all wnF)
  | [] => rfl
  | w :: r => by
    show (eqV (numV w) .non || inV .non (r.map numV)) = !(wnF w && r.all wnF)
    rw [none_in r]
    unfold numV
    cases wnF w with
    | true => rfl
    | false => rfl
theorem flat_num : ∀ r : List Str, (r.map numV).all flatV = true
  | [] => rfl
  | w :: r => by
    show (flatV (numV w) && (r.map numV).all flatV) = true
    rw [flat_num r]
    unfold numV
    cases wnF w with
    | true => rfl
    | false => rfl
section
variable {P : Program} {w : World} {K : PySem.W.Frag} {mg : Str → Option Value} {base : Heap}
theorem scLDue : FnScope nLDue ["_law_text"] (defScope sLDue) := ⟨rfl, rfl, rfl, by decide +kernel, rfl, by decide +kernel, by decide +kernel⟩
theorem ok_ldue (c : FLDue K mg) (cLNum : FLNum K mg) (T : Bt mg) : FnOk P w K mg base CX0 2 c.f c.fd ["_law_text"] spLDue := by
  have GLNum : FnOk P w K mg base CX0 1 cLNum.f cLNum.fd ["_law_word"] spLNum := ok_lnum cLNum T
  refine c.F.ok scLDue (fun vs H Q E h => ?_) (fun cdv A outer s H vs Q E hr h => ?_)
  · obtain ⟨z, rfl, _⟩ := h
    rfl
  · obtain ⟨z, rfl, hz, hasc, k⟩ := h
    refine ⟨_, (pss_cons (ps_set (i := 1) scLDue.nd rfl (Or.inl rfl) (pe_disp (pps_cons pe_str pe_int (pps_cons pe_str pe_int (pps_cons pe_str pe_int (pps_cons pe_str pe_int (pps_cons pe_str pe_int (pps_cons pe_str pe_int (pps_cons pe_str pe_int pps_nil))))))) (by rfl) (by rfl) (fun z => by cases z) (by decide)))
      (pss_cons (ps_set (i := 2) scLDue.nd rfl (Or.inl rfl) (pe_lst pa_nil))
      (pss_cons (ps_for PassesOwn.never rfl (pi_enum (by rfl) T.enumerate (pa_cons (pe_split (pv 0) pe_str) pa_nil)) (pg_tup rfl (pgs_cons (pg_name (i := 3) scLDue.nd rfl (Or.inl rfl)) (pgs_cons (pg_name (i := 4) scLDue.nd rfl (Or.inl rfl)) pgs_nil)))
          (pss_cons (ps_set (i := 5) scLDue.nd rfl (Or.inl rfl) (pe_split (pv 4) pe_str))
          (pss_cons (ps_setLc (i := 6) (own := [("_law_word", 7)]) (g := gName 7) (tt := tYes) rfl scLDue.nd rfl rfl (sw_true rfl rfl rfl (by decide +kernel)) (pi_list (pe_slice sl_list (pv 5) (po_some pe_int) po_none)) (blkOk_by (N := nLDue) (sc := defScope sLDue) (by decide +kernel)) (fun _ _ _ _ _ => (pg_name (i := 7) scLDue.nd rfl (Or.inl rfl))) (fun _ _ _ _ _ => pts_nil) (fun _ _ _ _ _ => (pe_call GLNum (hr.mono (by first | omega | decide)) (by rfl) cLNum.m cLNum.F.kp cLNum.b .nil pass0 (pa_cons (pv 7) pa_nil))))
          (pss_cons (ps_if (PW.pt (pw_or (pt_cmpR op_in_seq pe_non (pv 6) rfl) (pw_or (PW.pt (pw_and (pt_cmpR op_eq (pv 3) pe_int (nomark _)) (pw_and1 (pt_cmpR op_ne (pe_ix ix_list (pv 5) pe_int (fun _ _ => rfl)) pe_str (nomark _))))) (pw_or1 (PW.pt (pw_and (pt_cmpR op_gt (pv 3) pe_int (nomark _)) (pw_and1 (pt_cmpR op_ne (pe_dget2 (hu_of hr) (pv 1) (pe_ix ix_list (pv 5) pe_int (fun _ _ => rfl)) pe_int ⟨rfl, rfl, rfl, rfl⟩) (pe_callB call_len_seq (by rfl) T.len PySem.boot_len (pa_cons (pv 5) pa_nil)) (nomark _)))))))))
              (pss_one (ps_ret (pe_tup (pa_cons pe_str (pa_cons (pv 3) pa_nil)))))
              pss_nil)
          (pss_one (ps_expr (pe_bm PySem.F.plainAttrs_list PySem.F.slot_list_append PySem.F.type_list_append mt_append (pv 2) (pa_cons (pe_op op_catS (pe_tup (pa_cons (pe_ix ix_list (pv 5) pe_int (fun _ _ => rfl)) pa_nil)) (pe_callTy call_tuple_of (by rfl) T.tuple (by decide +kernel) (pa_cons (pv 6) pa_nil))) pa_nil))))))))
      (pss_one (ps_ret (pe_tup (pa_cons (pe_slice sl_tupS (pe_ix ix_list (pv 2) pe_int (fun _ _ => rfl)) (po_some pe_int) po_none) (pa_cons (pe_callTy call_tuple_of (by rfl) T.tuple (by decide +kernel) (pa_cons (pe_slice sl_list (pv 2) (po_some pe_int) po_none) pa_nil)) pa_nil)))))))), ?_⟩
    obtain ⟨w0, w1, w2⟩ := words_len z
    obtain ⟨n0, n1, n2⟩ := split_nl z
    refine fun c1 hc1 => ?_
    refine ⟨upd_same, sizesL, rfl, (by show 7 ≤ 15; decide), ?_⟩
    have M1 : Same1 H (upd (upd H c1 (.dK [])) c1 (.dK (mergeK [] sizesL))) := Same.mut (Same.new hc1) hc1
    have E1 : (upd (upd H c1 (.dK [])) c1 (.dK (mergeK [] sizesL))) c1 = some (.dK (mergeK [] sizesL)) := upd_same
    generalize upd (upd H c1 (.dK [])) c1 (.dK (mergeK [] sizesL)) = H1 at *
    dsimp only [gName]
    refine ⟨Nat.zero_le _, fun rl hrl => ?_⟩
    refine alloc hrl fun H2 s2 e2 => ?_
    refine ⟨_, rfl, ⟨_, rfl⟩, _, _, rfl, rfl, rfl, by rw [sizeLine_eq]; omega, fun l0 hl0 => ?_⟩
    refine alloc hl0 fun H3 s3 e3 => ?_
    have S3 : Same1 H1 H3 := s2.trans s3
    have rl3 := s3 _ _ e2
    have l0rl : l0 ≠ rl := fun z => by rw [z, e2] at hl0; cases hl0
    refine ⟨l0, _, rfl, SqL.of e3, DLR.for_enumL (K := K) (a := l0) (xs := (Txt.split z "\n").map V.str) (fun i σ H' => ∃ (x3 x4 x5 x6 : Option V) (ts : List Addr), σ = [some (.str z), some (.ref c1), some (.ref rl), x3, x4, x5, x6, none] ∧ Same1 H1 H' ∧ H' rl = some (.lst (ts.map V.ref)) ∧ H' l0 = some (.lst ((Txt.split z "\n").map V.str)) ∧ LinesAt H' ts (((wordsT z).take i).map qOf) ∧ badL 0 (wordsT z) = badL i ((wordsT z).drop i))
      ⟨none, none, none, none, [], rfl, S3, rl3, e3, .nil, rfl⟩ (fun i σ H' ⟨_, _, _, _, _, _, _, _, q, _⟩ => SqL.of q) ?_ ?_⟩
    · rintro i x T' σ H4 hi ⟨x3, x4, x5, x6, ts, rfl, s4, rl4, l04, T4, eB⟩ hT'
      rw [List.getElem?_map] at hi
      cases hq : (Txt.split z "\n")[i]? with
      | none => rw [hq] at hi; cases hi
      | some ln =>
      rw [hq] at hi
      have ex : V.str ln = x := Option.some.inj hi
      subst ex
      have hql := n2 ln (List.mem_of_getElem? hq)
      have hwi : (wordsT z)[i]? = some (Txt.split ln " ") := by
        unfold wordsT
        rw [List.getElem?_map, hq]
        rfl
      obtain ⟨c1', c2, c3⟩ := w2 _ (List.mem_of_getElem? hwi)
      obtain ⟨x0, r0, hws⟩ : ∃ x0 r0, Txt.split ln " " = x0 :: r0 := by
        cases e : Txt.split ln " " with
        | nil => exact absurd e c1'
        | cons x0 r0 => exact ⟨x0, r0, rfl⟩
      have hasw : ∀ w ∈ x0 :: r0, ∀ c ∈ tl w, c < 128 := fun w hw c hc => hasc c (words_sub (List.mem_of_getElem? hwi) (by rw [hws]; exact hw) hc)
      rw [hws] at hwi c2 c3
      have hdr : (wordsT z).drop i = (x0 :: r0) :: (wordsT z).drop (i + 1) := by
        obtain ⟨hi, e⟩ := List.getElem?_eq_some_iff.mp hwi
        rw [← e]
        exact List.drop_eq_getElem_cons hi
      rw [hdr] at eB
      have eB : badL 0 (wordsT z) = if lineB i (x0 :: r0) = true then badL (i + 1) ((wordsT z).drop (i + 1)) else some i := eB
      rw [List.length_cons] at c2
      refine alloc hT' fun H5 s5 e5 => ?_
      refine ⟨T', _, rfl, SqT.of e5, rfl, _, _, rfl, _, _, rfl, rfl, ?_⟩
      refine ⟨_, rfl, ⟨_, rfl⟩, _, _, rfl, rfl, rfl, by rw [sizeLine_eq]; omega, fun wl hwl => ?_⟩
      rw [hws]
      refine alloc hwl fun H6 s6 e6 => ?_
      dsimp only [gName]
      refine ⟨_, rfl, _, rfl, wl, _, rfl, SqL.of e6, fun nl hnl => ?_⟩
      refine alloc hnl fun H7 s7 e7 => ?_
      have e7 : H7 nl = some (.lst (r0.map V.str)) := e7.trans (congrArg (fun z => some (HO.lst z)) (dropU 1 (xs := (x0 :: r0).map V.str)))
      refine ⟨nl, rfl, ⟨_, SqL.of e7⟩, fun D hD => ?_⟩
      refine lc_list (K := K) (a := nl) (xs := r0.map V.str) (fun j H' => Same1 H7 H' ∧ H' D = some (.lst ((r0.take j).map numV))) ⟨Same.new hD, upd_same⟩ (fun j H' _ ⟨q, _⟩ => SqL.of (q _ _ e7)) ?_ ?_
      · rintro j v H8 hj ⟨s8, d8⟩
        rw [List.getElem?_map] at hj
        cases hz0 : r0[j]? with
        | none => rw [hz0] at hj; cases hj
        | some w0' =>
          rw [hz0] at hj
          have e : V.str w0' = v := Option.some.inj hj
          subst e
          have hm := List.mem_of_getElem? hz0
          have hjl := (List.getElem?_eq_some_iff.mp hz0).1
          refine ⟨rfl, _, rfl, w0', rfl, Nat.le_trans (c3 w0' (List.mem_cons_of_mem _ hm)) (by omega), hasw w0' (List.mem_cons_of_mem _ hm), fun H9 s9 => ?_⟩
          refine ⟨_, s9 _ _ d8, szl (by rw [List.length_map, List.length_take]; omega), Same.mut (s8.trans s9) hD, ?_⟩
          rw [upd_same, List.take_add_one, hz0, List.map_append]
          rfl
      rintro H8 ⟨s8, d8⟩
      rw [List.length_map, List.take_length] at d8
      dsimp only [gName]
      have S8 : Same1 H4 H8 := ((s5.trans s6).trans s7).trans s8
      have wl8 := (s7.trans s8) _ _ e6
      refine ⟨_, rfl, D, _, rfl, .inl (SqL.of d8), rfl, flat_num r0, _, rfl, ?_⟩
      have SH : Same1 H H8 := (M1.trans s4).trans S8
      have fin : lineB i (x0 :: r0) = false → ∀ t H9, Same1 H8 H9 → H9 t = some (.tup [.str "text", .int ((i : Nat) : Int)]) → Q (.ref t) H9 := fun hb t H9 s9 e9 => by
        rw [hb, if_neg (by decide)] at eB
        refine k _ _ (SH.trans s9) ?_
        unfold dueD
        rw [eB]
        exact at_tup2 e9
      have lb : lineB i (x0 :: r0) = (r0.all wnF && (if i = 0 then decide (V.str x0 = V.str "worths") else match partsOf x0 with
        | some ps => decide (r0.length = ps.length)
        | none => false)) := rfl
      show (if inV .non (r0.map numV) = true then _ else _)
      rw [none_in]
      cases hall : r0.all wnF with
      | false =>
        refine iteT ⟨_, rfl, (by show 2 ≤ sizeLine; decide), fun t ht => ?_⟩
        refine alloc ht fun H9 s9 e9 => ?_
        exact fin (by rw [lb, hall]; rfl) t H9 s9 e9
      | true =>
        rw [hall, Bool.true_and] at lb
        refine iteF ?_
        refine tt_elim (!lineB i (x0 :: r0)) (fun K' hK => ?_) ?_
        · rw [lb] at hK
          by_cases i0 : i = 0
          · subst i0
            rw [if_pos rfl] at hK
            refine ⟨_, rfl, rfl, _, rfl, ?_⟩
            rw [show decide (V.int ((0 : Nat) : Int) = V.int 0) = true from by decide]
            refine iteT ⟨_, rfl, wl, _, _, _, rfl, rfl, SqL.of wl8, at0, rfl, _, rfl, ?_⟩
            cases hx : decide (V.str x0 = V.str "worths") with
            | false =>
              rw [hx] at hK
              exact iteT hK
            | true =>
              rw [hx] at hK
              refine iteF ⟨_, rfl, _, _, rfl, rfl, _, rfl, ?_⟩
              rw [show decide ((0 : Int) < ((0 : Nat) : Int)) = false from by decide]
              exact iteF hK
          · rw [if_neg i0] at hK
            refine ⟨_, rfl, rfl, _, rfl, ?_⟩
            rw [show decide (V.int ((i : Nat) : Int) = V.int 0) = false from decide_eq_false (fun z => i0 (by have := V.int.inj z; omega))]
            refine iteF (iteF ⟨_, rfl, _, _, rfl, rfl, _, rfl, ?_⟩)
            rw [show decide ((0 : Int) < ((i : Nat) : Int)) = true from decide_eq_true (by omega)]
            have c18 : H8 c1 = some (.dK (mergeK [] sizesL)) := (s4.trans S8) _ _ E1
            refine iteT ⟨_, rfl, c1, rfl, .inl ⟨_, .inl c18⟩, _, rfl, wl, _, _, _, rfl, rfl, SqL.of wl8, at0, _, DGet.k (k := .inr x0) c18, ?_⟩
            rw [sizes_at]
            refine ⟨_, rfl, wl, _, rfl, .inl (SqL.of wl8), rfl, _, rfl, ?_⟩
            cases hp : partsOf x0 with
            | none =>
              rw [hp] at hK
              rw [decide_eq_false (show ¬ V.int (match (none : Option (List Str)) with | some ps => (ps.length : Int) + 1 | none => 0) = V.int (((x0 :: r0).map V.str).length : Nat) from fun q => by
                have q := V.int.inj q
                rw [List.length_map, List.length_cons] at q
                have q : (0 : Int) = ((r0.length + 1 : Nat) : Int) := q
                omega)]
              exact hK
            | some ps =>
              rw [hp] at hK
              have hK : K' (!decide (r0.length = ps.length)) H8 := hK
              have e : decide (V.int (match some ps with | some ps => (ps.length : Int) + 1 | none => 0) = V.int (((x0 :: r0).map V.str).length : Nat)) = decide (r0.length = ps.length) := by
                rw [Bool.eq_iff_iff, decide_eq_true_iff, decide_eq_true_iff]
                rw [List.length_map, List.length_cons]
                constructor
                · intro q
                  have q : (ps.length : Int) + 1 = ((r0.length + 1 : Nat) : Int) := V.int.inj q
                  omega
                · intro q
                  show V.int ((ps.length : Int) + 1) = V.int ((r0.length + 1 : Nat) : Int)
                  congr 1
                  omega
              rw [e]
              exact hK
        · cases hb : lineB i (x0 :: r0) with
          | false =>
            refine iteT ⟨_, rfl, (by show 2 ≤ sizeLine; decide), fun t ht => ?_⟩
            refine alloc ht fun H9 s9 e9 => ?_
            exact fin hb t H9 s9 e9
          | true =>
            rw [hb, if_pos rfl] at eB
            refine iteF ?_
            have rl8 := S8 _ _ rl4
            have l08 := S8 _ _ l04
            have htl := Paired.length T4
            rw [List.length_map, List.length_take] at htl
            refine ⟨_, rfl, .inl ⟨rfl, _, SqL.of rl8⟩, _, rfl, wl, _, _, _, rfl, rfl, SqL.of wl8, at0, (by show 1 ≤ sizeLine; decide), fun t1 ht1 => ?_⟩
            refine alloc ht1 fun H9 s9 e9 => ?_
            refine ⟨_, rfl, D, _, rfl, .inl ⟨SqL.of (s9 _ _ d8), fun t2 ht2 => ?_⟩⟩
            refine alloc ht2 fun H10 s10 e10 => ?_
            refine ⟨t1, t2, _, _, rfl, rfl, s10 _ _ e9, e10, sz (by rw [List.length_map]; show 1 + r0.length ≤ _; omega), fun t3 H11 s11 e11 => ?_⟩
            have s811 : Same1 H8 H11 := (s9.trans s10).trans s11
            have rl11 := s811 _ _ rl8
            have en : r0.map numV = (r0.map numOf).map V.int := by
              rw [List.map_map]
              refine List.map_congr_left fun w hw => ?_
              unfold numV
              rw [List.all_eq_true.mp hall w hw, if_pos rfl]
              rfl
            have kf : Kp H4 (upd H11 rl (.lst (ts.map V.ref ++ [.ref t3]))) := (Kp.same (S8.trans s811)).trans (Kp.lst rl11)
            refine ⟨rl, _, _, rfl, rfl, rl11, szl (by rw [List.length_map]; omega), _, _, _, _, ts ++ [t3], rfl, Same.mut (s4.trans (S8.trans s811)) hrl, by rw [upd_same, List.map_append]; rfl, (upd_ne l0rl).trans (s811 _ _ l08), ?_, eB⟩
            rw [show (wordsT z).take (i + 1) = (wordsT z).take i ++ [x0 :: r0] by rw [List.take_add_one, hwi]; rfl, List.map_append]
            refine Paired.app (Paired.mapP T4 fun b q h => kf _ _ h) (Paired.one ?_)
            refine Kp.lst rl11 _ _ ?_
            rw [e11, en]
            rfl
    · rintro σ H4 ⟨x3, x4, x5, x6, ts, rfl, s4, rl4, l04, T4, eB⟩
      have ewl : ((Txt.split z "\n").map V.str).length = (wordsT z).length := by
        unfold wordsT
        rw [List.length_map, List.length_map]
      rw [ewl, List.take_length] at T4
      rw [ewl, List.drop_length] at eB
      have eB : badL 0 (wordsT z) = none := eB
      have ed : dueD z = progQ ((wordsT z).map qOf) := by
        unfold dueD
        rw [eB]
        rfl
      have htl := Paired.length T4
      rw [List.length_map] at htl
      have hq2 : ∀ q ∈ (wordsT z).map qOf, q.2.length ≤ 45000 := fun q hq => by
        obtain ⟨ws, hw, rfl⟩ := List.mem_map.mp hq
        have l1 := (w2 ws hw).2.1
        show ((ws.drop 1).map numOf).length ≤ _
        rw [List.length_map, List.length_drop]
        omega
      generalize (wordsT z).map qOf = qs at T4 ed hq2
      obtain ⟨t0, tr, q0, qr, rfl, rfl, h0, hr⟩ : ∃ t0 tr q0 qr, ts = t0 :: tr ∧ qs = q0 :: qr ∧ H4 t0 = some (.tup (V.str q0.1 :: q0.2.map V.int)) ∧ LinesAt H4 tr qr := by
        cases T4 with
        | nil =>
          rw [show ([] : List Addr).length = 0 from rfl] at htl
          exact absurd (List.length_eq_zero_iff.mp htl.symm) w0
        | cons a b => exact ⟨_, _, _, _, rfl, rfl, a, b⟩
      rw [List.length_cons] at htl
      refine ⟨_, rfl, rl, _, _, _, rfl, rfl, SqL.of rl4, at0, _, rfl, t0, _, rfl, h0, fun ta H5 s5 e5 => ?_⟩
      have e5 : H5 ta = some (.tup (q0.2.map V.int)) := by rw [e5]; exact congrArg (fun z => some (HO.tup z)) (dropU 1 (xs := V.str q0.1 :: q0.2.map V.int))
      refine ⟨_, rfl, _, rfl, rl, _, rfl, SqL.of (s5 _ _ rl4), fun lb hlb => ?_⟩
      refine alloc hlb fun H6 s6 e6 => ?_
      have e6 : H6 lb = some (.lst (tr.map V.ref)) := e6.trans (congrArg (fun z => some (HO.lst z)) (dropU 1 (xs := (t0 :: tr).map V.ref)))
      refine ⟨lb, _, rfl, .inl ⟨SqL.of e6, fun tb htb => ?_⟩⟩
      refine alloc htb fun H7 s7 e7 => ?_
      refine ⟨(by show 2 ≤ sizeLine; decide), fun tt htt => ?_⟩
      refine alloc htt fun H8 s8 e8 => ?_
      have s58 : Same1 H5 H8 := (s6.trans s7).trans s8
      refine k (.ref tt) H8 (((M1.trans s4).trans s5).trans s58) ?_
      rw [ed]
      have ht' : LinesAt H8 tr qr := Paired.mapP hr fun b z h => (s5.trans s58) _ _ h
      have a1 := s58 _ _ e5
      have a2 := s8 _ _ e7
      unfold progQ
      simp only [At, Ats]
      exact ⟨tt, _, rfl, e8, ⟨ta, _, rfl, a1, ints_ats _⟩, ⟨tb, _, rfl, a2, rowsQ_at ht'⟩, trivial⟩
end
end DL
namespace DLR
open PySem PySem.Spec PyProof.Rows L2
theorem op_mul01 {X : Cx} : OpR X (binaryOp .Mult) (fun x y H Q => ∃ (z : Str) (n : Int), x = .str z ∧ y = .int n ∧ 0 ≤ n ∧ n ≤ 1 ∧ Q (.str (if n = 1 then z else Str.empty)) H) := by
  intro pins s σ H x y v u Q I rx ry h
  obtain ⟨z, n, rfl, rfl, h0, h1, q⟩ := h
  obtain ⟨t, rfl⟩ := rx
  obtain ⟨t', rfl⟩ := ry
  rcases (show n = 0 ∨ n = 1 by omega) with rfl | rfl
  · exact P.mul_str_none (by decide) (by decide) ⟨.str Str.empty, H, I.tok _, ⟨_, rfl⟩, q⟩
  · refine P.mul_str (by decide) (fun _ e => ?_) (fun _ e => ?_) ?_
    · exact absurd e (by simp)
    · exact absurd e (by simp)
    · rw [if_neg (by decide), if_pos (by simp)]
      exact ⟨.str z, H, I, ⟨_, rfl⟩, q⟩
end DLR
namespace DL
open PySem PySem.Spec L2 DLR TL NumText
/-! ### how long a changed text can be -/
def wt (ys : List Str) : Nat := (ys.map fun y => y.length + 1).sum
theorem wt_nil : wt [] = 0 := rfl
theorem wt_cons (y : Str) (ys : List Str) : wt (y :: ys) = y.length + 1 + wt ys := rfl
theorem wt_app : ∀ a b : List Str, wt (a ++ b) = wt a + wt b
  | [], b => by rw [List.nil_append, wt_nil, Nat.zero_add]
  | x :: a, b => by rw [List.cons_append, wt_cons, wt_cons, wt_app a b]; omega
theorem wt_cut (ys : List Str) (k : Nat) : wt (ys.take k) + wt (ys.drop k) = wt ys := by rw [← wt_app, List.take_append_drop]
theorem wt_drop_le (ys : List Str) (k : Nat) : wt (ys.drop k) ≤ wt ys := by
  have := wt_cut ys k
  omega
theorem wt_take_le (ys : List Str) (k : Nat) : wt (ys.take k) ≤ wt ys := by
  have := wt_cut ys k
  omega
theorem spl_wt (s : Nat) : ∀ (L acc : List Nat), ((spl [s] 0 acc L).map fun p => p.length + 1).sum = acc.length + L.length + 1
  | [], acc => by
    rw [spl_nil]
    rfl
  | c :: r, acc => by
    cases h : pre [s] (c :: r) with
    | true =>
      rw [spl_hit h]
      show ((acc :: spl [s] 0 [] r).map fun p => p.length + 1).sum = _
      rw [List.map_cons, List.sum_cons, spl_wt s r []]
      simp only [List.length_nil, List.length_cons]
      omega
    | false =>
      rw [spl_miss h, spl_wt s r (acc ++ [c])]
      simp only [List.length_append, List.length_nil, List.length_cons]
      omega
theorem split_wt {y : Str} {s : Nat} (ey : tl y = [s]) (hk : y.cps.all (· < 256) = true) (x : Str) : wt (Txt.split x y) = x.length + 1 := by
  have e := split_spl x y (by rw [ey]; simp) (kind_ok hk)
  rw [ey] at e
  have q := spl_wt s (tl x) []
  rw [← e, List.map_map] at q
  have e2 : (Txt.split x y).map ((fun p : List Nat => p.length + 1) ∘ tl) = (Txt.split x y).map fun p => p.length + 1 := List.map_congr_left fun p _ => by
    show (tl p).length + 1 = p.length + 1
    rw [len_tl]
  rw [e2] at q
  unfold wt
  rw [q, len_tl]
  have e0 : ([] : List Nat).length = 0 := rfl
  omega
theorem split_wtN (x : Str) : wt (Txt.split x "\n") = x.length + 1 := split_wt (s := 10) rfl (by decide +kernel) x
theorem split_wtS (x : Str) : wt (Txt.split x " ") = x.length + 1 := split_wt (s := 32) rfl (by decide +kernel) x
theorem wt_sum : ∀ ys : List Str, (ys.map (·.length)).sum + ys.length = wt ys
  | [] => rfl
  | y :: ys => by
    have := wt_sum ys
    rw [wt_cons, List.map_cons, List.sum_cons, List.length_cons]
    omega
theorem join_wt {y : Str} (hy : y.length = 1) (ys : List Str) : (Txt.join y ys).length ≤ wt ys := by
  have a := join_len y ys
  have b := wt_sum ys
  rw [hy] at a
  omega
def AscL (ys : List Str) : Prop := ∀ y ∈ ys, Asc y
theorem AscL.app {a b : List Str} (h : AscL a) (g : AscL b) : AscL (a ++ b) := fun y hy => (List.mem_append.mp hy).elim (h y) (g y)
theorem AscL.take {a : List Str} (h : AscL a) (k : Nat) : AscL (a.take k) := fun y hy => h y (List.mem_of_mem_take hy)
theorem AscL.drop {a : List Str} (h : AscL a) (k : Nat) : AscL (a.drop k) := fun y hy => h y (List.mem_of_mem_drop hy)
theorem AscL.one {y : Str} (h : Asc y) : AscL [y] := fun x hx => by rw [List.mem_singleton.mp hx]; exact h
theorem asc_join {y : Str} (hy : Asc y) {ys : List Str} (h : AscL ys) : Asc (Txt.join y ys) := fun c hc => by
  rw [join_eq, tl_join] at hc
  rcases mem_joinL hc with q | ⟨p, hp, q⟩
  · exact hy c q
  · obtain ⟨w, hw, rfl⟩ := List.mem_map.mp hp
    exact h w hw c q
theorem asc_splitN {z : Str} (h : Asc z) : AscL (Txt.split z "\n") := fun p hp c hc => h c (split_sub (s := 10) rfl (by decide +kernel) hp c hc)
theorem asc_splitS {z : Str} (h : Asc z) : AscL (Txt.split z " ") := fun p hp c hc => h c (split_sub (s := 32) rfl (by decide +kernel) hp c hc)
theorem tl_app (a b : Str) : tl (a ++ b) = tl a ++ tl b := by
  show (a.cps ++ b.cps).toList = _
  rw [Array.toList_append]
theorem asc_app {a b : Str} (h : Asc a) (g : Asc b) : Asc (a ++ b) := fun c hc => by
  rw [tl_app] at hc
  exact (List.mem_append.mp hc).elim (h c) (g c)
theorem tl_cutS (z : Str) (lo hi : Option Int) : ∃ a b : Nat, tl (cutS z lo hi) = ((tl z).drop a).take b := ⟨_, _, rfl⟩
theorem asc_cut {z : Str} (h : Asc z) (lo hi : Option Int) : Asc (cutS z lo hi) := fun c hc => by
  obtain ⟨a, b, e⟩ := tl_cutS z lo hi
  rw [e] at hc
  exact h c (List.mem_of_mem_drop (List.mem_of_mem_take hc))
end DL
namespace DL
open PySem PySem.Spec L2 DLR TL NumText
abbrev sChanged : Stmt := top 43
abbrev nChanged : List Str := ["_law_d","_law_text","_law_lines","_law_at","_law_words","_law_k","_law_odd","_law_way","_law_middle","_law_place","_law_every","_law_sign"]
abbrev FChanged (K : Frg) (mg : Str → Option Value) := Fd K mg "_law_changed" sChanged ["_law_d", "_law_text"]
def spChanged (K : Frg) : Sp := fun vs H Q _ => ∃ (d sa : Addr) (ns : List Int) (z : Str), vs = [.ref d, .str z] ∧ Ent K H d sa ns ∧ z.length ≤ 22000 ∧ Asc z ∧ ∀ y H', Dc K H H' d sa ns → y.length ≤ 2 * z.length + 20 → Asc y → Q (.str y) H'
theorem sIxN (n k : Nat) (d : Nat) : HT.sIx n d (some (k : Int)) = min k n := HT.sIx_nat _ _ k
theorem cut_to' (n : Nat) (xs : List Str) : cutV (xs.map V.str) none (some (n : Int)) = (xs.take n).map V.str := by
  unfold cutV
  rw [sIxN, HT.sIx_none, List.drop_zero, Nat.sub_zero, List.map_take]
  rcases Nat.le_total n (xs.map V.str).length with q | q
  · rw [Nat.min_eq_left q]
  · rw [Nat.min_eq_right q, List.take_length, List.take_of_length_le q]
theorem cut_from' (n : Nat) (xs : List Str) : cutV (xs.map V.str) (some (n : Int)) none = (xs.drop n).map V.str := by
  unfold cutV
  rw [sIxN, HT.sIx_none, List.map_drop]
  rcases Nat.le_total n (xs.map V.str).length with q | q
  · rw [Nat.min_eq_left q]
    exact List.take_of_length_le (by rw [List.length_drop]; omega)
  · rw [Nat.min_eq_right q, List.drop_eq_nil_of_le q, List.drop_eq_nil_of_le (Nat.le_refl _)]
    exact List.take_nil
theorem cut_mid' (n : Nat) (xs : List Str) : cutV (xs.map V.str) (some (n : Int)) (some ((n : Int) + 1)) = ((xs.drop n).take 1).map V.str := by
  unfold cutV
  rw [show ((n : Int) + 1) = ((n + 1 : Nat) : Int) by omega, sIxN, sIxN, List.map_take, List.map_drop]
  rcases Nat.lt_or_ge n (xs.map V.str).length with q | q
  · rw [Nat.min_eq_left (Nat.le_of_lt q), Nat.min_eq_left (show n + 1 ≤ _ from q), show n + 1 - n = 1 by omega]
  · rw [Nat.min_eq_right q, List.drop_eq_nil_of_le (Nat.le_refl _), List.drop_eq_nil_of_le q, List.take_nil, List.take_nil]
def odd1 : List Str := ["", "0", "00", "-0", "7", "-7", "1000001", "9999999", "10000000", "worths", "say", "stop", "test", "Say"]
def odd2 : List Str := ["load", "x", "+1", "0 1"]
def oddL : List Str := odd1 ++ odd2
theorem odd_ok : ∀ y ∈ oddL, Asc y ∧ y.length ≤ 8 := by
  intro y hy
  have h : oddL.all (fun y => (tl y).all (fun c => decide (c < 128)) && decide (y.length ≤ 8)) = true := rfl
  obtain ⟨a, b⟩ := Bool.and_eq_true_iff.mp (List.all_eq_true.mp h y hy)
  exact ⟨fun c hc => of_decide_eq_true (List.all_eq_true.mp a c hc), of_decide_eq_true b⟩
theorem sign_ok {z : Str} (h : (tl z).all (fun c => decide (c < 128)) = true) (n : Nat) (hn : n < (tl z).length) : ∃ c, atI z.cps.toList (n : Int) = some c ∧ Asc (⟨#[c]⟩ : Str) ∧ (⟨#[c]⟩ : Str).length = 1 := by
  refine ⟨(tl z)[n], atI_nat (List.getElem?_eq_getElem hn), fun c hc => ?_, rfl⟩
  have hc : c ∈ [(tl z)[n]] := hc
  rw [List.mem_singleton.mp hc]
  exact of_decide_eq_true (List.all_eq_true.mp h _ (List.getElem_mem hn))
theorem cut_len (z : Str) (lo hi : Option Int) : (cutS z lo hi).length ≤ z.length := by
  obtain ⟨a, b, e⟩ := tl_cutS z lo hi
  rw [len_tl (cutS z lo hi), len_tl z, e, List.length_take, List.length_drop]
  omega
def every_ : Str := " !#$&'()*+,-./0123456789:;<=>?@ABCDEFGHIJKLMNOPQRSTUVWXYZ[]^_`abcdefghijklmnopqrstuvwxyz{|}~"
section
variable {P : Program} {w : World} {K : PySem.W.Frag} {mg : Str → Option Value} {base : Heap}
theorem scChanged : FnScope nChanged ["_law_d", "_law_text"] (defScope sChanged) := ⟨rfl, rfl, rfl, by decide +kernel, rfl, by decide +kernel, by decide +kernel⟩
theorem ok_changed (c : FChanged K mg) (cNext : FNext K mg) (T : Bt mg) : FnOk P w K mg base CX0 2 c.f c.fd ["_law_d", "_law_text"] (spChanged K) := by
  have GNext : FnOk P w K mg base CX0 1 cNext.f cNext.fd ["_law_dice_here", "_law_many"] (spNext K) := ok_next cNext.F T
  refine c.F.ok scChanged (fun vs H Q E h => ?_) (fun cdv A outer s H vs Q E hr h => ?_)
  · obtain ⟨d, sa, ns, z, rfl, _⟩ := h
    rfl
  · obtain ⟨d, sa, ns, z, rfl, hE, hz, hasc, k⟩ := h
    refine ⟨_, (pss_cons (ps_set (i := 2) scChanged.nd rfl (Or.inl rfl) (pe_split (pv 1) pe_str))
      (pss_cons (ps_set (i := 3) scChanged.nd rfl (Or.inl rfl) (pe_call GNext (hr.mono (by first | omega | decide)) (by rfl) cNext.m cNext.F.kp cNext.b .nil pass0 (pa_cons (pv 0) (pa_cons (pe_callB call_len_seq (by rfl) T.len PySem.boot_len (pa_cons (pv 2) pa_nil)) pa_nil))))
      (pss_cons (ps_set (i := 4) scChanged.nd rfl (Or.inl rfl) (pe_split (pe_ix ix_list (pv 2) (pv 3) (fun _ _ => rfl)) pe_str))
      (pss_cons (ps_set (i := 5) scChanged.nd rfl (Or.inl rfl) (pe_call GNext (hr.mono (by first | omega | decide)) (by rfl) cNext.m cNext.F.kp cNext.b .nil pass0 (pa_cons (pv 0) (pa_cons (pe_op op_add (pe_callB call_len_seq (by rfl) T.len PySem.boot_len (pa_cons (pv 4) pa_nil)) pe_int) pa_nil))))
      (pss_cons (ps_set (i := 6) scChanged.nd rfl (Or.inl rfl) (pe_lst (pa_cons pe_str (pa_cons pe_str (pa_cons pe_str (pa_cons pe_str (pa_cons pe_str (pa_cons pe_str (pa_cons pe_str (pa_cons pe_str (pa_cons pe_str (pa_cons pe_str (pa_cons pe_str (pa_cons pe_str (pa_cons pe_str (pa_cons pe_str pa_nil))))))))))))))))
      (pss_cons (ps_set (i := 6) scChanged.nd rfl (Or.inl rfl) (pe_op op_cat (pv 6) (pe_lst (pa_cons pe_str (pa_cons pe_str (pa_cons pe_str (pa_cons pe_str pa_nil)))))))
      (pss_cons (ps_set (i := 7) scChanged.nd rfl (Or.inl rfl) (pe_call GNext (hr.mono (by first | omega | decide)) (by rfl) cNext.m cNext.F.kp cNext.b .nil pass0 (pa_cons (pv 0) (pa_cons pe_int pa_nil))))
      (pss_cons (ps_if (pt_cmpR op_eq (pv 7) pe_int (nomark _))
          (pss_one (ps_ret (pe_join pe_str (pe_op op_cat (pe_slice sl_list (pv 2) po_none (po_some (pv 3))) (pe_slice sl_list (pv 2) (po_some (pe_op op_add (pv 3) pe_int)) po_none)))))
          pss_nil)
      (pss_cons (ps_if (pt_cmpR op_eq (pv 7) pe_int (nomark _))
          (pss_one (ps_ret (pe_join pe_str (pe_op op_cat (pe_op op_cat (pe_slice sl_list (pv 2) po_none (po_some (pv 3))) (pe_slice sl_list (pv 2) (po_some (pv 3)) (po_some (pe_op op_add (pv 3) pe_int)))) (pe_slice sl_list (pv 2) (po_some (pv 3)) po_none)))))
          pss_nil)
      (pss_cons (ps_if (pt_cmpR op_lt (pv 7) pe_int (nomark _))
          (pss_cons (ps_set (i := 8) scChanged.nd rfl (Or.inl rfl) (pe_ix ix_list (pe_lst (pa_cons (pe_lst pa_nil) (pa_cons (pe_op op_rep (pe_slice sl_list (pv 4) (po_some (pv 5)) (po_some (pe_op op_add (pv 5) pe_int))) pe_int) (pa_cons (pe_lst (pa_cons (pe_ix ix_list (pv 6) (pe_call GNext (hr.mono (by first | omega | decide)) (by rfl) cNext.m cNext.F.kp cNext.b .nil pass0 (pa_cons (pv 0) (pa_cons pe_int pa_nil))) (fun _ _ => rfl)) pa_nil)) pa_nil)))) (pe_op op_sub (pv 7) pe_int) (fun _ _ => rfl)))
          (pss_cons (ps_set (i := 4) scChanged.nd rfl (Or.inl rfl) (pe_op op_cat (pe_op op_cat (pe_slice sl_list (pv 4) po_none (po_some (pv 5))) (pv 8)) (pe_slice sl_list (pv 4) (po_some (pe_op op_add (pv 5) pe_int)) po_none)))
          (pss_one (ps_ret (pe_join pe_str (pe_op op_cat (pe_op op_cat (pe_slice sl_list (pv 2) po_none (po_some (pv 3))) (pe_lst (pa_cons (pe_join pe_str (pv 4)) pa_nil))) (pe_slice sl_list (pv 2) (po_some (pe_op op_add (pv 3) pe_int)) po_none)))))))
          pss_nil)
      (pss_cons (ps_set (i := 9) scChanged.nd rfl (Or.inl rfl) (pe_call GNext (hr.mono (by first | omega | decide)) (by rfl) cNext.m cNext.F.kp cNext.b .nil pass0 (pa_cons (pv 0) (pa_cons (pe_op op_add (pe_callB call_len_str (by rfl) T.len PySem.boot_len (pa_cons (pv 1) pa_nil)) pe_int) pa_nil))))
      (pss_cons (ps_set (i := 10) scChanged.nd rfl (Or.inl rfl) pe_str)
      (pss_cons (ps_set (i := 11) scChanged.nd rfl (Or.inl rfl) (pe_ix ix_list (pe_lst (pa_cons (pe_ix ix_str pe_str (pe_call GNext (hr.mono (by first | omega | decide)) (by rfl) cNext.m cNext.F.kp cNext.b .nil pass0 (pa_cons (pv 0) (pa_cons pe_int pa_nil))) (fun _ _ => rfl)) (pa_cons (pe_ix ix_str (pv 10) (pe_call GNext (hr.mono (by first | omega | decide)) (by rfl) cNext.m cNext.F.kp cNext.b .nil pass0 (pa_cons (pv 0) (pa_cons pe_int pa_nil))) (fun _ _ => rfl)) pa_nil))) (pe_call GNext (hr.mono (by first | omega | decide)) (by rfl) cNext.m cNext.F.kp cNext.b .nil pass0 (pa_cons (pv 0) (pa_cons pe_int pa_nil))) (fun _ _ => rfl)))
      (pss_one (ps_ret (pe_op op_add_str (pe_op op_add_str (pe_slice sl_str (pv 1) po_none (po_some (pv 9))) (pe_op DLR.op_mul01 (pv 11) (pe_call GNext (hr.mono (by first | omega | decide)) (by rfl) cNext.m cNext.F.kp cNext.b .nil pass0 (pa_cons (pv 0) (pa_cons pe_int pa_nil))))) (pe_slice sl_str (pv 1) (po_some (pe_op op_add (pv 9) (pe_call GNext (hr.mono (by first | omega | decide)) (by rfl) cNext.m cNext.F.kp cNext.b .nil pass0 (pa_cons (pv 0) (pa_cons pe_int pa_nil))))) po_none))))))))))))))))), ?_⟩
    have zs : z.length ≤ sizeLine := by rw [sizeLine_eq]; omega
    have C0 := Dc.refl hE
    obtain ⟨n0, n1, n2⟩ := split_nl z
    have nw := split_wtN z
    have na := asc_splitN hasc
    refine ⟨_, rfl, ⟨_, rfl⟩, _, _, rfl, rfl, rfl, by rw [sizeLine_eq]; omega, fun ll hll => ?_⟩
    generalize Txt.split z "\n" = ls at *
    refine alloc hll fun H1 s1 e1 => ?_
    have C1 := C0.same s1
    dsimp only [gName]
    have lsl : 0 < ls.length := List.length_pos_iff.mpr n0
    refine ⟨_, rfl, _, rfl, ll, _, rfl, .inl (SqL.of e1), d, sa, ns, _, rfl, C1.ent, by rw [List.length_map]; omega, by rw [List.length_map]; omega, fun a0 H2 a1 a2 C2 => ?_⟩
    obtain ⟨at_, rfl⟩ : ∃ at_ : Nat, a0 = (at_ : Int) := ⟨a0.toNat, by omega⟩
    rw [List.length_map] at a2
    have hat : at_ < ls.length := by omega
    have D2 := C1.trans C2
    have e2 := C2.but _ _ (C1.ned hll) e1
    have hl1 : (ls.map V.str)[at_]? = some (.str ls[at_]) := by rw [List.getElem?_map, List.getElem?_eq_getElem hat]; rfl
    have hlz := n2 ls[at_] (List.getElem_mem hat)
    have hla := na ls[at_] (List.getElem_mem hat)
    have hcut : wt (ls.take at_) + (ls[at_].length + 1) + wt (ls.drop (at_ + 1)) = z.length + 1 := by
      have q := wt_cut ls at_
      rw [List.drop_eq_getElem_cons hat, wt_cons] at q
      omega
    obtain ⟨m0, m1, m2⟩ := split_sp ls[at_]
    have mw := split_wtS ls[at_]
    have ma := asc_splitS hla
    refine ⟨_, rfl, _, rfl, ll, _, _, _, rfl, rfl, SqL.of e2, atI_nat hl1, ⟨_, rfl⟩, _, _, rfl, rfl, rfl, by rw [sizeLine_eq]; omega, fun wl hwl => ?_⟩
    generalize hwd : Txt.split ls[at_] " " = wd at m0 m1 m2 mw ma
    refine alloc hwl fun H3 s3 e3 => ?_
    have D3 := D2.same s3
    have nll : H ll = none := hll
    have nwl : H wl = none := D2.here hwl
    dsimp only [gName]
    refine ⟨_, rfl, _, rfl, wl, _, rfl, .inl (SqL.of e3), _, _, rfl, rfl, d, sa, ns, _, rfl, D3.ent, by omega, by rw [List.length_map]; omega, fun k0 H4 b1 b2 C4 => ?_⟩
    obtain ⟨kk, rfl⟩ : ∃ kk : Nat, k0 = (kk : Int) := ⟨k0.toNat, by omega⟩
    have D4 := D3.trans C4
    have wl4 := C4.but _ _ (D3.ned nwl) e3
    have ll4 := C4.but _ _ (D3.ned nll) (s3 _ _ e2)
    refine ⟨(by show 14 ≤ sizeLine; decide), fun o1 ho1 => ?_⟩
    refine alloc ho1 fun H5 s5 e5 => ?_
    dsimp only [gName]
    refine ⟨_, rfl, (by show 4 ≤ sizeLine; decide), fun o2 ho2 => ?_⟩
    refine alloc ho2 fun H6 s6 e6 => ?_
    refine ⟨o1, o2, _, _, rfl, rfl, s6 _ _ e5, e6, (by show 18 ≤ sizeLine; decide), fun ol hol => ?_⟩
    refine alloc hol fun H7 s7 e7 => ?_
    have e7 : H7 ol = some (.lst (oddL.map V.str)) := e7
    dsimp only [gName]
    have s47 : Same1 H4 H7 := (s5.trans s6).trans s7
    have D7 := D4.same s47
    have nol : H ol = none := D4.here (s5.free (s6.free hol))
    refine ⟨_, rfl, d, sa, ns, _, rfl, D7.ent, by decide, by decide, fun way H8 c1 c2 C8 => ?_⟩
    have D8 := D7.trans C8
    have wl8 := C8.but _ _ (D7.ned nwl) (s47 _ _ wl4)
    have ll8 := C8.but _ _ (D7.ned nll) (s47 _ _ ll4)
    have ol8 := C8.but _ _ (D7.ned nol) e7
    clear e7 e6 e5 s47 ll4 wl4 e3 e2 e1 hl1
    have nl1 : ("\n" : Str).length = 1 := rfl
    have sp1 : (" " : Str).length = 1 := rfl
    have nla : Asc "\n" := fun c hc => by
      have hc : c ∈ [10] := hc
      rw [List.mem_singleton.mp hc]
      decide
    have spa : Asc " " := fun c hc => by
      have hc : c ∈ [32] := hc
      rw [List.mem_singleton.mp hc]
      decide
    have fin : ∀ (ys : List Str) (H' : Hp) (Q' : VK), Q' = Q → Same1 H8 H' → AscL ys → wt ys ≤ 2 * z.length + 20 → ∀ cc, H' cc = some (.lst (ys.map V.str)) → ∃ a p, ∃ zs : List Str, V.str "\n" = V.str a ∧ [V.ref cc] = [V.ref p] ∧ (SqL K H' p (zs.map V.str) ∨ SqT K H' p (zs.map V.str)) ∧ (zs.map (·.length)).sum + zs.length * a.length ≤ 16777216 ∧ Q' (.str (Txt.join a zs)) H' := by
      rintro ys H' Q' rfl s' ha hw cc ec
      have q := wt_sum ys
      refine ⟨_, cc, ys, rfl, rfl, .inl (SqL.of ec), by rw [nl1]; omega, k _ H' (D8.same s') (Nat.le_trans (join_wt nl1 ys) hw) (asc_join nla ha)⟩
    refine ⟨_, rfl, rfl, _, rfl, ite2 (fun c => ?_) (fun c => ?_)⟩
    · refine ⟨⟨_, rfl⟩, _, rfl, _, rfl, _, rfl, ll, _, rfl, SqL.of ll8, fun ca hca => ?_⟩
      rw [cut_to']
      refine alloc hca fun H9 s9 e9 => ?_
      refine ⟨_, rfl, _, rfl, _, _, rfl, rfl, _, rfl, ll, _, rfl, SqL.of (s9 _ _ ll8), fun cb hcb => ?_⟩
      rw [show ((at_ : Int) + 1) = ((at_ + 1 : Nat) : Int) by omega, cut_from']
      refine alloc hcb fun H10 s10 e10 => ?_
      have lA : ((ls.take at_).map V.str).length + ((ls.drop (at_ + 1)).map V.str).length ≤ 100000 := by
        rw [List.length_map, List.length_map, List.length_take, List.length_drop]
        omega
      refine ⟨ca, cb, _, _, rfl, rfl, s10 _ _ e9, e10, sz lA, fun cc hcc => ?_⟩
      refine alloc hcc fun H11 s11 e11 => ?_
      rw [← List.map_append] at e11
      exact fin _ H11 _ rfl ((s9.trans s10).trans s11) ((na.take _).app (na.drop _)) (by rw [wt_app]; omega) cc e11
    refine ⟨_, rfl, rfl, _, rfl, ite2 (fun c' => ?_) (fun c' => ?_)⟩
    · refine ⟨⟨_, rfl⟩, _, rfl, _, rfl, _, rfl, ll, _, rfl, SqL.of ll8, fun ca hca => ?_⟩
      rw [cut_to']
      refine alloc hca fun H9 s9 e9 => ?_
      refine ⟨_, rfl, _, rfl, _, rfl, _, rfl, _, _, rfl, rfl, _, rfl, ll, _, rfl, SqL.of (s9 _ _ ll8), fun cb hcb => ?_⟩
      rw [cut_mid']
      refine alloc hcb fun H10 s10 e10 => ?_
      have lA : ((ls.take at_).map V.str).length + (((ls.drop at_).take 1).map V.str).length ≤ 100000 := by
        rw [List.length_map, List.length_map, List.length_take, List.length_take]
        omega
      refine ⟨ca, cb, _, _, rfl, rfl, s10 _ _ e9, e10, sz lA, fun cc hcc => ?_⟩
      refine alloc hcc fun H11 s11 e11 => ?_
      have s811 : Same1 H8 H11 := (s9.trans s10).trans s11
      refine ⟨_, rfl, _, rfl, _, rfl, ll, _, rfl, SqL.of (s811 _ _ ll8), fun cd hcd => ?_⟩
      rw [cut_from']
      refine alloc hcd fun H12 s12 e12 => ?_
      have lB : ((ls.take at_).map V.str ++ ((ls.drop at_).take 1).map V.str).length + ((ls.drop at_).map V.str).length ≤ 100000 := by
        rw [List.length_append, List.length_map, List.length_map, List.length_map, List.length_take, List.length_take, List.length_drop]
        omega
      refine ⟨cc, cd, _, _, rfl, rfl, s12 _ _ e11, e12, sz lB, fun ce hce => ?_⟩
      refine alloc hce fun H13 s13 e13 => ?_
      rw [← List.map_append, ← List.map_append] at e13
      have w1 := wt_cut ls at_
      have w2' := wt_take_le (ls.drop at_) 1
      have w3 := wt_drop_le ls at_
      exact fin _ H13 _ rfl ((s811.trans s12).trans s13) (((na.take _).app ((na.drop _).take _)).app (na.drop _)) (by rw [wt_app, wt_app]; omega) ce e13
    refine ⟨_, rfl, _, _, rfl, rfl, _, rfl, ite2 (fun c5 => ?_) (fun c5 => ?_)⟩
    · have c5 := of_decide_eq_true c5
      refine ⟨Nat.zero_le _, fun m0' hm0 => ?_⟩
      refine alloc hm0 fun H9 s9 e9 => ?_
      refine ⟨_, rfl, _, rfl, _, rfl, _, rfl, _, _, rfl, rfl, _, rfl, wl, _, rfl, SqL.of (s9 _ _ wl8), fun m1' hm1 => ?_⟩
      rw [cut_mid']
      refine alloc hm1 fun H10 s10 e10 => ?_
      have mdl : ((wd.drop kk).take 1).length ≤ 1 := by rw [List.length_take]; omega
      refine ⟨m1', 2, _, rfl, rfl, e10, by decide, by decide, sz (by rw [List.length_map]; show _ * 2 ≤ _; omega), fun m2' hm2 => ?_⟩
      refine alloc hm2 fun H11 s11 e11 => ?_
      have e11 : H11 m2' = some (.lst (((wd.drop kk).take 1 ++ (wd.drop kk).take 1).map V.str)) := by
        rw [e11, List.map_append]
        show some (HO.lst (List.replicate 2 _).flatten) = _
        simp [List.replicate]
      have s811 : Same1 H8 H11 := (s9.trans s10).trans s11
      have D11 := D8.same s811
      refine ⟨_, rfl, _, rfl, d, sa, ns, _, rfl, D11.ent, by decide, by decide, fun oi H12 i0 i1 C12 => ?_⟩
      obtain ⟨oj, rfl⟩ : ∃ oj : Nat, oi = (oj : Int) := ⟨oi.toNat, by omega⟩
      have D12 := D11.trans C12
      have nH : ∀ a, H8 a = none → H a = none := fun a h => D8.here h
      have nm0 : H m0' = none := nH _ hm0
      have nm2 : H m2' = none := nH _ (s9.free (s10.free hm2))
      have ol12 := C12.but _ _ (D11.ned nol) (s811 _ _ ol8)
      have wl12 := C12.but _ _ (D11.ned nwl) (s811 _ _ wl8)
      have ll12 := C12.but _ _ (D11.ned nll) (s811 _ _ ll8)
      have z12 := C12.but _ _ (D11.ned nm0) (s11 _ _ (s10 _ _ e9))
      have t12 := C12.but _ _ (D11.ned nm2) e11
      have oj18 : oj < 18 := by omega
      have hoj : oj < oddL.length := oj18
      have hol1 : (oddL.map V.str)[oj]? = some (.str oddL[oj]) := by rw [List.getElem?_map, List.getElem?_eq_getElem hoj]; rfl
      obtain ⟨oa, o8⟩ := odd_ok oddL[oj] (List.getElem_mem hoj)
      refine ⟨ol, _, _, _, rfl, rfl, SqL.of ol12, atI_nat hol1, (by show 1 ≤ sizeLine; decide), fun m3' hm3 => ?_⟩
      refine alloc hm3 fun H13 s13 e13 => ?_
      refine ⟨(by show 3 ≤ sizeLine; decide), fun mm hmm => ?_⟩
      refine alloc hmm fun H14 s14 e14 => ?_
      have s1214 : Same1 H12 H14 := s13.trans s14
      have hmid : ∃ (mx : Addr) (mid : List Str), atI [V.ref m0', V.ref m2', V.ref m3'] (way - 2) = some (.ref mx) ∧ H14 mx = some (.lst (mid.map V.str)) ∧ AscL mid ∧ mid.length ≤ 2 ∧ wt (wd.take kk) + wt mid + wt (wd.drop (kk + 1)) ≤ 2 * wt wd + 10 := by
        have w1 := wt_cut wd kk
        have w2' := wt_drop_le wd (kk + 1)
        have w4 : wt ((wd.drop kk).take 1) + wt (wd.drop (kk + 1)) = wt (wd.drop kk) := by
          have q := wt_cut (wd.drop kk) 1
          rw [List.drop_drop] at q
          exact q
        have hw : way = 2 ∨ way = 3 ∨ way = 4 := by
          have c0 : way ≠ 0 := fun e => c (by rw [e]; decide)
          have c1 : way ≠ 1 := fun e => c' (by rw [e]; decide)
          omega
        rcases hw with rfl | rfl | rfl
        · exact ⟨m0', [], at0, s1214 _ _ z12, fun _ h => (by cases h), Nat.zero_le _, by rw [wt_nil]; omega⟩
        · exact ⟨m2', _, at1, s1214 _ _ t12, ((ma.drop _).take _).app ((ma.drop _).take _), by rw [List.length_append]; omega, by rw [wt_app]; omega⟩
        · exact ⟨m3', [oddL[oj]], at2, s14 _ _ e13, AscL.one oa, by show 1 ≤ 2; decide, by rw [wt_cons, wt_nil]; omega⟩
      obtain ⟨mx, mid, hx1, hx2, hx3, hx4, hx5⟩ := hmid
      refine ⟨_, rfl, _, _, rfl, rfl, mm, _, _, _, rfl, rfl, SqL.of e14, hx1, ?_⟩
      dsimp only [gName]
      have wl14 := s1214 _ _ wl12
      have ll14 := s1214 _ _ ll12
      refine ⟨_, rfl, _, rfl, _, rfl, wl, _, rfl, SqL.of wl14, fun p1 hp1 => ?_⟩
      rw [cut_to']
      refine alloc hp1 fun H15 s15 e15 => ?_
      have lA : ((wd.take kk).map V.str).length + (mid.map V.str).length ≤ 100000 := by
        rw [List.length_map, List.length_map, List.length_take]
        omega
      refine ⟨_, rfl, p1, mx, _, _, rfl, rfl, e15, s15 _ _ hx2, sz lA, fun p2 hp2 => ?_⟩
      refine alloc hp2 fun H16 s16 e16 => ?_
      have s1416 := s15.trans s16
      refine ⟨_, rfl, _, rfl, _, _, rfl, rfl, _, rfl, wl, _, rfl, SqL.of (s1416 _ _ wl14), fun p3 hp3 => ?_⟩
      rw [show ((kk : Int) + 1) = ((kk + 1 : Nat) : Int) by omega, cut_from']
      refine alloc hp3 fun H17 s17 e17 => ?_
      have lB : ((wd.take kk).map V.str ++ mid.map V.str).length + ((wd.drop (kk + 1)).map V.str).length ≤ 100000 := by
        rw [List.length_append, List.length_map, List.length_map, List.length_map, List.length_take, List.length_drop]
        omega
      refine ⟨p2, p3, _, _, rfl, rfl, s17 _ _ e16, e17, sz lB, fun p4 hp4 => ?_⟩
      refine alloc hp4 fun H18 s18 e18 => ?_
      rw [← List.map_append, ← List.map_append] at e18
      generalize hnw : wd.take kk ++ mid ++ wd.drop (kk + 1) = nw' at e18
      have anw : AscL nw' := by
        rw [← hnw]
        exact ((ma.take _).app hx3).app (ma.drop _)
      have wnw : wt nw' ≤ 2 * wt wd + 10 := by
        rw [← hnw, wt_app, wt_app]
        exact hx5
      have s1418 := (s1416.trans s17).trans s18
      dsimp only [gName]
      refine ⟨⟨_, rfl⟩, _, rfl, _, rfl, _, rfl, ll, _, rfl, SqL.of (s1418 _ _ ll14), fun p5 hp5 => ?_⟩
      rw [cut_to']
      refine alloc hp5 fun H19 s19 e19 => ?_
      have qnw := wt_sum nw'
      have e18' := s19 _ _ e18
      refine ⟨⟨_, rfl⟩, _, rfl, _, p4, nw', rfl, rfl, .inl (SqL.of e18'), by rw [sp1]; omega, ?_⟩
      refine ⟨(by show 1 ≤ sizeLine; decide), fun p6 hp6 => ?_⟩
      refine alloc hp6 fun H20 s20 e20 => ?_
      have lC : ((ls.take at_).map V.str).length + [V.str (Txt.join " " nw')].length ≤ 100000 := by
        rw [List.length_map, List.length_take]
        show _ + 1 ≤ _
        omega
      refine ⟨p5, p6, _, _, rfl, rfl, s20 _ _ e19, e20, sz lC, fun p7 hp7 => ?_⟩
      refine alloc hp7 fun H21 s21 e21 => ?_
      have s1821 := (s19.trans s20).trans s21
      refine ⟨_, rfl, _, rfl, _, _, rfl, rfl, _, rfl, ll, _, rfl, SqL.of (s1821 _ _ (s1418 _ _ ll14)), fun p8 hp8 => ?_⟩
      rw [show ((at_ : Int) + 1) = ((at_ + 1 : Nat) : Int) by omega, cut_from']
      refine alloc hp8 fun H22 s22 e22 => ?_
      have lD : ((ls.take at_).map V.str ++ [V.str (Txt.join " " nw')]).length + ((ls.drop (at_ + 1)).map V.str).length ≤ 100000 := by
        rw [List.length_append, List.length_map, List.length_map, List.length_take, List.length_drop]
        show _ + 1 + _ ≤ _
        omega
      refine ⟨p7, p8, _, _, rfl, rfl, s22 _ _ e21, e22, sz lD, fun p9 hp9 => ?_⟩
      refine alloc hp9 fun H23 s23 e23 => ?_
      have e23 : H23 p9 = some (.lst ((ls.take at_ ++ [Txt.join " " nw'] ++ ls.drop (at_ + 1)).map V.str)) := by
        rw [e23, List.map_append, List.map_append]
        rfl
      have jl := join_wt sp1 nw'
      have D23 := D12.same ((s1214.trans s1418).trans ((s1821.trans s22).trans s23))
      have wall : wt (ls.take at_ ++ [Txt.join " " nw'] ++ ls.drop (at_ + 1)) ≤ 2 * z.length + 20 := by
        rw [wt_app, wt_app, wt_cons, wt_nil]
        omega
      have q := wt_sum (ls.take at_ ++ [Txt.join " " nw'] ++ ls.drop (at_ + 1))
      refine ⟨_, p9, _, rfl, rfl, .inl (SqL.of e23), by rw [nl1]; omega, k _ _ D23 (Nat.le_trans (join_wt nl1 _) wall) (asc_join nla (((na.take _).app (AscL.one (asc_join spa anw))).app (na.drop _)))⟩
    · refine ⟨_, rfl, _, rfl, z, rfl, zs, _, _, rfl, rfl, d, sa, ns, _, rfl, D8.ent, by omega, by omega, fun pl0 H9 p1 p2 C9 => ?_⟩
      obtain ⟨pl, rfl⟩ : ∃ pl : Nat, pl0 = (pl : Int) := ⟨pl0.toNat, by omega⟩
      have D9 := D8.trans C9
      dsimp only [gName]
      refine ⟨_, rfl, d, sa, ns, _, rfl, D9.ent, by decide, by decide, fun g0 H10 q1 q2 C10 => ?_⟩
      obtain ⟨g, rfl⟩ : ∃ g : Nat, g0 = (g : Int) := ⟨g0.toNat, by omega⟩
      have D10 := D9.trans C10
      obtain ⟨ch1, x1, x2, x3⟩ := sign_ok (z := ("019- sto\n" : Str)) rfl g (show g < 9 by omega)
      refine ⟨_, _, ch1, rfl, rfl, (by show 9 ≤ sizeLine; decide), x1, ?_⟩
      refine ⟨_, rfl, _, rfl, d, sa, ns, _, rfl, D10.ent, by decide, by decide, fun g0' H11 q3 q4 C11 => ?_⟩
      obtain ⟨g', rfl⟩ : ∃ g : Nat, g0' = (g : Int) := ⟨g0'.toNat, by omega⟩
      have D11 := D10.trans C11
      obtain ⟨ch2, y1, y2, y3⟩ := sign_ok (z := every_) rfl g' (show g' < 92 by omega)
      refine ⟨_, _, ch2, rfl, rfl, (by show 92 ≤ sizeLine; decide), y1, ?_⟩
      refine ⟨(by show 2 ≤ sizeLine; decide), fun sl hsl => ?_⟩
      refine alloc hsl fun H12 s12 e12 => ?_
      have D12 := D11.same s12
      have nsl := D11.here hsl
      refine ⟨_, rfl, d, sa, ns, _, rfl, D12.ent, by decide, by decide, fun u0 H13 u1 u2 C13 => ?_⟩
      have D13 := D12.trans C13
      have e13 := C13.but _ _ (D12.ned nsl) e12
      obtain ⟨sg, w1, w2, w3⟩ : ∃ sg : Str, atI [V.str ⟨#[ch1]⟩, V.str ⟨#[ch2]⟩] u0 = some (.str sg) ∧ Asc sg ∧ sg.length = 1 := by
        rcases (show u0 = 0 ∨ u0 = 1 by omega) with rfl | rfl
        · exact ⟨_, at0, x2, x3⟩
        · exact ⟨_, at1, y2, y3⟩
      refine ⟨sl, _, _, _, rfl, rfl, SqL.of e13, w1, ?_⟩
      dsimp only [gName]
      refine ⟨_, rfl, _, rfl, _, rfl, z, rfl, zs, ?_⟩
      refine ⟨_, rfl, _, rfl, d, sa, ns, _, rfl, D13.ent, by decide, by decide, fun v0 H14 v1 v2 C14 => ?_⟩
      have D14 := D13.trans C14
      refine ⟨_, _, rfl, rfl, v1, by omega, ?_⟩
      have hsl' : (if v0 = 1 then sg else Str.empty).length ≤ 1 ∧ Asc (if v0 = 1 then sg else Str.empty) := by
        by_cases c1 : v0 = 1
        · rw [if_pos c1]
          exact ⟨by omega, w2⟩
        · rw [if_neg c1]
          exact ⟨Nat.zero_le _, fun c hc => nomatch hc⟩
      generalize (if v0 = 1 then sg else Str.empty) = mid at hsl' ⊢
      have lc1 := cut_len z none (some (pl : Int))
      refine ⟨_, mid, rfl, rfl, by rw [sizeLine_eq]; omega, ?_⟩
      refine ⟨_, rfl, _, rfl, _, rfl, d, sa, ns, _, rfl, D14.ent, by decide, by decide, fun t0 H15 t1 t2 C15 => ?_⟩
      have D15 := D14.trans C15
      obtain ⟨tt, rfl⟩ : ∃ tt : Nat, t0 = (tt : Int) := ⟨t0.toNat, by omega⟩
      refine ⟨_, _, rfl, rfl, _, rfl, z, rfl, zs, ?_⟩
      have lc2 := cut_len z (some ((pl : Int) + (tt : Int))) none
      have lap : ∀ a b : Str, (a ++ b).length = a.length + b.length := fun a b => by rw [len_tl (a ++ b), tl_app, List.length_append, ← len_tl, ← len_tl]
      refine ⟨_, _, rfl, rfl, by rw [lap, sizeLine_eq]; omega, k _ _ D15 (by rw [lap, lap]; omega) (asc_app (asc_app (asc_cut hasc _ _) hsl'.2) (asc_cut hasc _ _))⟩
end
end DL
namespace DL
open PySem PySem.Spec L2 DLR TL LamX NumText
abbrev sLaw : Stmt := top 44
abbrev nLaw : List Str := ["_law_script","_law_d","_law_odd","_law_turn","_law_good","_law_text","_law_change","_law_due_here","_law_told_here","_law_again"]
def spLaw (K : Frg) (Pt : Addr) : Sp := fun vs H Q _ => ∃ (sa : Addr) (ns : List Int), vs = [.ref sa] ∧ SqL K H sa (ns.map V.int) ∧ ns.length ≤ 63 ∧ H Pt = some (.tbl #[]) ∧ ∀ H', Q (.bl true) H'
abbrev FDice (K : Frg) (mg : Str → Option Value) := Fd K mg "_law_dice" sDice ["_law_script"]
abbrev FLike (K : Frg) (mg : Str → Option Value) := Fd K mg "_law_like" sLike ["_law_found", "_law_due_here"]
abbrev FTold (K : Frg) (mg : Str → Option Value) := Fd K mg "_law_told" sTold ["_law_work"]
theorem asc_num (i : Int) : Asc (numS i) := fun c hc => by
  rw [tl_numS] at hc
  rcases Nat.lt_or_ge c 128 with q | q
  · exact q
  · refine absurd hc ?_
    unfold sgnL
    split
    · intro z
      rcases List.mem_cons.mp z with e | e
      · omega
      · exact numL_free (.inr (by omega)) e
    · exact numL_free (.inr (by omega))
theorem asc_row (r : Row) : Asc r.word := by
  have h : ∀ x ∈ (["load", "add", "take", "store", "say", "test", "stop"] : List Str), Asc x := fun x hx c hc => by
    have e : (["load", "add", "take", "store", "say", "test", "stop"] : List Str).all (fun x => (tl x).all fun c => decide (c < 128)) = true := rfl
    exact of_decide_eq_true (List.all_eq_true.mp (List.all_eq_true.mp e x hx) c hc)
  cases r <;> exact h _ (by simp [Row.word])
theorem asc_line {x : Str} (h : Asc x) (is : List Int) : AscL (lineF x is) := fun y hy => by
  rcases List.mem_cons.mp hy with rfl | hy
  · exact h
  · obtain ⟨i, _, rfl⟩ := List.mem_map.mp hy
    exact asc_num i
def ascB (z : Str) : Bool := (tl z).all fun c => decide (c < 128)
theorem asc_of {z : Str} (h : ascB z = true) : Asc z := fun c hc => of_decide_eq_true (List.all_eq_true.mp h c hc)
theorem asc_text (p : Prog) : Asc (textF p) := by
  unfold textF
  refine asc_join (asc_of rfl) fun y hy => ?_
  obtain ⟨l, hl, rfl⟩ := List.mem_map.mp hy
  refine asc_join (asc_of rfl) ?_
  rcases List.mem_cons.mp hl with rfl | hl
  · exact asc_line (asc_of rfl) _
  · obtain ⟨r, _, rfl⟩ := List.mem_map.mp hl
    exact asc_line (asc_row r) _
def oddT1 : List Str := ["", " ", "worths", "worths ", "worths\n", "worths\nstop", "stop", "worths 1\nload 0 0", "worths 1\n\nstop"]
def oddT2 : List Str := ["worths 1\nstop\n", "worths  1\nstop", "worths x\nstop", "Worths\nstop", "worths\nsay 1"]
def oddT : List Str := oddT1 ++ oddT2
theorem oddT_ok : ∀ y ∈ oddT, Asc y ∧ y.length ≤ 5000 := by
  intro y hy
  have h : oddT.all (fun y => ascB y && decide (y.length ≤ 5000)) = true := rfl
  obtain ⟨a, b⟩ := Bool.and_eq_true_iff.mp (List.all_eq_true.mp h y hy)
  exact ⟨asc_of a, of_decide_eq_true b⟩
def resD (z : Str) : D := match badL 0 (wordsT z) with
  | some i => .tup [.str "text", .int (i : Nat)]
  | none => match progF (progQ (qsT z)) with
    | some (r, y) => .tup [.str "program", .int r, .str y]
    | none => progQ (qsT z)
mutual
theorem At.exN {H H' : Hp} (s : ExtN H H') : ∀ (d : D) (v : V), At H v d → At H' v d
  | .non, v, h => by simpa [At] using h
  | .bl b, v, h => by simpa [At] using h
  | .int i, v, h => by simpa [At] using h
  | .str x, v, h => by simpa [At] using h
  | .lst ds, v, h => by
    obtain ⟨a, vs, rfl, h1, h2⟩ : ∃ a vs, v = .ref a ∧ H a = some (.lst vs) ∧ Ats H vs ds := by simpa [At] using h
    have q := Ats.exN s ds vs h2
    simp only [At]
    exact ⟨a, vs, rfl, s _ _ h1 (fun ps z => by cases z), q⟩
  | .tup ds, v, h => by
    obtain ⟨a, vs, rfl, h1, h2⟩ : ∃ a vs, v = .ref a ∧ H a = some (.tup vs) ∧ Ats H vs ds := by simpa [At] using h
    have q := Ats.exN s ds vs h2
    simp only [At]
    exact ⟨a, vs, rfl, s _ _ h1 (fun ps z => by cases z), q⟩
theorem Ats.exN {H H' : Hp} (s : ExtN H H') : ∀ (ds : List D) (vs : List V), Ats H vs ds → Ats H' vs ds
  | [], [], _ => by simp [Ats]
  | d :: ds, v :: vs, h => by
    have h : At H v d ∧ Ats H vs ds := by simpa [Ats] using h
    simp only [Ats]
    exact ⟨At.exN s d v h.1, Ats.exN s ds vs h.2⟩
  | [], _ :: _, h => by simp [Ats] at h
  | _ :: _, [], h => by simp [Ats] at h
end
def intsT (l : List Int) : PyData := .tuple (l.map .int)
theorem intsT_at {K : Frg} {H : Hp} : ∀ l : List Int, DpAll K H (l.map V.int) (l.map PyData.int)
  | [] => .nil
  | x :: l => .cons (.int x) (intsT_at l)
theorem intsT_lay : ∀ l : List Int, PyData.canLayAll0 (l.map PyData.int) = true
  | [] => by decide +kernel
  | x :: l => by
    show (PyData.canLay0 (.int x) && PyData.canLayAll0 (l.map PyData.int)) = true
    rw [intsT_lay l]
    rfl
theorem intsT_dep : ∀ l : List Int, PyData.depthAll (l.map PyData.int) ≤ 1
  | [] => by decide
  | x :: l => by
    have h := intsT_dep l
    show max (PyData.int x).depth (PyData.depthAll (l.map PyData.int)) ≤ 1
    have : (PyData.int x).depth ≤ 1 := by simp [PyData.depth]
    omega
theorem intsT_shaped (l : List Int) : SeqAt.shaped (intsT l) = true := by
  have d := intsT_dep l
  refine Bool.and_eq_true_iff.mpr ⟨intsT_lay l, decide_eq_true ?_⟩
  unfold intsT
  simp only [PyData.depth]
  omega
theorem depIn : ∀ l : List Int, depL (l.map D.int) = 0
  | [] => rfl
  | x :: l => by
    show max 0 (depL (l.map D.int)) = 0
    rw [depIn l]
    rfl
theorem depQ : ∀ l : List Ln, depL (l.map fun q => D.tup (.str q.1 :: q.2.map .int)) ≤ 1
  | [] => by show 0 ≤ 1; decide
  | q :: l => by
    have a := depQ l
    have b : (D.tup (.str q.1 :: q.2.map .int)).dep = 1 := by
      show max 0 (depL _) + 1 = 1
      rw [depIn]
      rfl
    show max (D.tup (.str q.1 :: q.2.map .int)).dep (depL (l.map fun q => D.tup (.str q.1 :: q.2.map .int))) ≤ 1
    omega
theorem progQ_dep (qs : List Ln) : (progQ qs).dep ≤ 4 := by
  have a := depIn ((qs.headD ("", [])).2)
  have b := depQ (qs.drop 1)
  show max (depL _ + 1) (max (depL _ + 1) 0) + 1 ≤ 4
  omega
theorem progQ_fit {z : Str} (hz : z.length ≤ 44000) : (progQ (qsT z)).fit := by
  obtain ⟨n0, n1, n2⟩ := split_nl z
  have hq : ∀ q ∈ qsT z, q.2.length ≤ 50000 := fun q hq => by
    obtain ⟨ws, hw, rfl⟩ := List.mem_map.mp hq
    obtain ⟨l, hl, rfl⟩ := List.mem_map.mp hw
    have a := n2 l hl
    have b := (split_sp l).2.1
    show ((List.drop 1 _).map numOf).length ≤ _
    rw [List.length_map, List.length_drop]
    omega
  have hl : (qsT z).length ≤ 44001 := by
    show ((wordsT z).map qOf).length ≤ _
    rw [List.length_map]
    show ((Txt.split z "\n").map _).length ≤ _
    rw [List.length_map]
    omega
  have hh : ((qsT z).headD ("", [])).2.length ≤ 50000 := by
    cases e : qsT z with
    | nil => exact Nat.zero_le _
    | cons q r => exact hq q (by rw [e]; exact List.mem_cons_self)
  unfold progQ
  simp only [DL.D.fit]
  refine ⟨by show 2 ≤ 100000; decide, fitL_iff.mpr fun x hx => ?_⟩
  rcases List.mem_cons.mp hx with rfl | hx
  · simp only [DL.D.fit]
    refine ⟨by rw [List.length_map]; omega, fitL_iff.mpr fun x hx => ?_⟩
    obtain ⟨i, _, rfl⟩ := List.mem_map.mp hx
    simp [DL.D.fit]
  · rw [List.mem_singleton.mp hx]
    simp only [DL.D.fit]
    refine ⟨by rw [List.length_map, List.length_drop]; omega, fitL_iff.mpr fun x hx => ?_⟩
    obtain ⟨q, hq', rfl⟩ := List.mem_map.mp hx
    have l := hq q (List.mem_of_mem_drop hq')
    simp only [DL.D.fit]
    refine ⟨by rw [List.length_cons, List.length_map]; omega, fitL_iff.mpr fun x hx => ?_⟩
    rcases List.mem_cons.mp hx with rfl | hx
    · simp [DL.D.fit]
    · obtain ⟨i, _, rfl⟩ := List.mem_map.mp hx
      simp [DL.D.fit]
theorem at_tup {H : Hp} {a : Addr} {vs : List V} {ds : List D} (h : H a = some (.tup vs)) (q : Ats H vs ds) : At H (.ref a) (.tup ds) := by
  simp only [At]
  exact ⟨a, vs, rfl, h, q⟩
theorem resD_dep (z : Str) : (resD z).dep ≤ 4 := by
  unfold resD
  cases badL 0 (wordsT z) with
  | some i => show max 0 (max 0 0) + 1 ≤ 4; decide
  | none =>
    cases progF (progQ (qsT z)) with
    | some q => show max 0 (max 0 (max 0 0)) + 1 ≤ 4; decide
    | none => exact progQ_dep _
theorem resD_fit {z : Str} (hz : z.length ≤ 44000) : (resD z).fit := by
  unfold resD
  cases badL 0 (wordsT z) with
  | some i => simp [DL.D.fit, fitL]
  | none =>
    cases progF (progQ (qsT z)) with
    | some q => simp [DL.D.fit, fitL]
    | none => exact progQ_fit hz
section
variable {P : Program} {w : World} {K : PySem.W.Frag} {mg : Str → Option Value} {base : Heap}
theorem scLaw : FnScope nLaw ["_law_script"] (defScope sLaw) := ⟨rfl, rfl, rfl, by decide +kernel, rfl, by decide +kernel, by decide +kernel⟩
theorem ok_law {fa cc Pt : Addr} {oc kV doc pm ct : Value} {an od : Option Addr} {osl : Array (Option Value)}
    (lk : K.lookup fa = some ⟨oc, od, .func (PySem.W.fnOf "law" "law" (defArgs sLaw) (defBody sLaw) (defScope sLaw) .none kV doc pm an (.ref cc) ct), osl⟩) (hcd : PySem.W.codeIn K (.ref cc) "law" = true) (TB : TabB base mg cc Pt)
    (cDice : FDice K mg) (cNext : FNext K mg) (cAny : FAny K mg) (cLike : FLike K mg) (cChanged : FChanged K mg) (cLDue : FLDue K mg) (cTold : FTold K mg) (cWr : FWr K mg) (cRd : FRd K mg) (T : Bt mg) (E : Er mg) {CB CT : Addr} (kBP : KnF K E CB 0) (kBT : KnF K E CT 7)
    (GAny : FnOk P w K mg base CX0 8 cAny.f cAny.fd ["_law_d"] (spAny K)) (GWr : FnOk P w K mg base CX0 5 cWr.f cWr.fd ["program"] spWr) (GRd : FnOk P w K mg base CX0 5 cRd.f cRd.fd ["text"] spRd)
    (GWrD : FnOk P w K mg base (L2.CX P w) 5 cWr.f cWr.fd ["program"] (spWrD CB)) (GRdD : FnOk P w K mg base (L2.CX P w) 5 cRd.f cRd.fd ["text"] (spRdD CB CT))
    (GChanged : FnOk P w K mg base CX0 2 cChanged.f cChanged.fd ["_law_d", "_law_text"] (spChanged K)) (GLDue : FnOk P w K mg base CX0 2 cLDue.f cLDue.fd ["_law_text"] spLDue) :
    FnOk P w K mg base CX0 9 fa (PySem.W.fnOf "law" "law" (defArgs sLaw) (defBody sLaw) (defScope sLaw) .none kV doc pm an (.ref cc) ct) ["_law_script"] (spLaw K Pt) := by
  have GDice : FnOk P w K mg base CX0 1 cDice.f cDice.fd ["_law_script"] (spDice K) := ok_dice cDice.F T
  have GNext : FnOk P w K mg base CX0 1 cNext.f cNext.fd ["_law_dice_here", "_law_many"] (spNext K) := ok_next cNext.F T
  have GLike : FnOk P w K mg base CX0 5 cLike.f cLike.fd ["_law_found", "_law_due_here"] (spLike K 4) := ok_like cLike.F cLike.b cLike.m T 4
  obtain ⟨ft, fdt, FT, bTo, mTo⟩ := cTold
  have kpTo := FT.kp
  obtain ⟨ocT, odT, kVT, docT, pmT, anT, cdvT, ctT, oslT, rfl, lkTo, hcdTo⟩ := FT.ex
  refine fn_of lk hcd scLaw (fun vs H Q E h => ?_) (fun A outer s H vs Q E' hr h => ?_)
  · obtain ⟨sa, ns, rfl, _⟩ := h
    rfl
  · obtain ⟨sa, ns, rfl, hS, hlen, hPt, kq⟩ := h
    refine ⟨_, PSs.nox (pss_cons (ps_set (i := 1) scLaw.nd rfl (Or.inl rfl) (pe_call GDice (hr.mono (by first | omega | decide)) (by rfl) cDice.m cDice.F.kp cDice.b .nil pass0 (pa_cons (pv 0) pa_nil)))
      (pss_cons (ps_set (i := 2) scLaw.nd rfl (Or.inl rfl) (pe_lst (pa_cons pe_str (pa_cons pe_str (pa_cons pe_str (pa_cons pe_str (pa_cons pe_str (pa_cons pe_str (pa_cons pe_str (pa_cons pe_str (pa_cons pe_str pa_nil)))))))))))
      (pss_cons (ps_set (i := 2) scLaw.nd rfl (Or.inl rfl) (pe_op op_cat (pv 2) (pe_lst (pa_cons pe_str (pa_cons pe_str (pa_cons pe_str (pa_cons pe_str (pa_cons pe_str pa_nil))))))))
      (pss_cons (ps_for PassesOwn.never rfl (pi_range1 rfl T.range (pa_cons pe_int pa_nil)) (pg_name (i := 3) scLaw.nd rfl (Or.inl rfl))
          (pss_cons (ps_set (i := 4) scLaw.nd rfl (Or.inl rfl) (pe_call GWr (hr.mono (by first | omega | decide)) (by rfl) cWr.m cWr.F.kp cWr.b .nil pass0 (pa_cons (pe_call GAny (hr.mono (by first | omega | decide)) (by rfl) cAny.m cAny.F.kp cAny.b .nil pass0 (pa_cons (pv 1) pa_nil)) pa_nil)))
          (pss_cons (ps_set (i := 5) scLaw.nd rfl (Or.inr rfl) (pe_ifExp (pt_cmpR op_gt (pe_call GNext (hr.mono (by first | omega | decide)) (by rfl) cNext.m cNext.F.kp cNext.b .nil pass0 (pa_cons (pv 1) (pa_cons pe_int pa_nil))) pe_int (nomark _)) (pv 4) (pe_ix ix_list (pv 2) (pe_call GNext (hr.mono (by first | omega | decide)) (by rfl) cNext.m cNext.F.kp cNext.b .nil pass0 (pa_cons (pv 1) (pa_cons pe_int pa_nil))) (fun _ _ => rfl))))
          (pss_cons (ps_for PassesOwn.never rfl (pi_range1 rfl T.range (pa_cons (pe_call GNext (hr.mono (by first | omega | decide)) (by rfl) cNext.m cNext.F.kp cNext.b .nil pass0 (pa_cons (pv 1) (pa_cons pe_int pa_nil))) pa_nil)) (pg_name (i := 6) scLaw.nd rfl (Or.inl rfl))
              (pss_one (ps_set (i := 5) scLaw.nd rfl (Or.inr rfl) (pe_call GChanged (hr.mono (by first | omega | decide)) (by rfl) cChanged.m cChanged.F.kp cChanged.b .nil pass0 (pa_cons (pv 1) (pa_cons (pv 5) pa_nil))))))
          (pss_cons (ps_set (i := 7) scLaw.nd rfl (Or.inr rfl) (pe_call GLDue (hr.mono (by first | omega | decide)) (by rfl) cLDue.m cLDue.F.kp cLDue.b .nil pass0 (pa_cons (pv 5) pa_nil)))
          (pss_cons (ps_if (pt_cmpR (op_neD hr.units) (pe_ix (ix_tupK K rfl) (pv 7) pe_int (fun _ _ => rfl)) pe_str (nomark _))
              (pss_cons (ps_set (i := 8) scLaw.nd rfl (Or.inl rfl) (pe_told (k := 6) (by rfl) mTo kpTo lkTo hcdTo bTo scTold rfl (Or.inl rfl) (told_okE E T) (hr.mono (by first | omega | decide)) (pe_lam0 (k := 6) (T := [(Pt, qL)]) TB rfl (tab_mem (by rfl)) (tab_one (by rfl)) (lamN_by (N := nLaw) (sc := defScope sLaw) (by decide +kernel)) rfl (fun _ _ _ _ _ => rfl) (fun A2 outer2 s2 H2 E2 f2 c2 hr2 => (pe_call GWrD (hr2.mono (by first | omega | decide)) (by rfl) cWr.m cWr.F.kp cWr.b .nil (L2.passes_call (takes_of rfl rfl rfl rfl) (fun _ _ _ _ h => h)) (pa_cons (pv 7) pa_nil))))))
              (pss_one (ps_set (i := 7) scLaw.nd rfl (Or.inr rfl) (pe_ifExp (pt_val (pe_callB (call_isiK2 K rfl) (by rfl) T.isinstance (by decide +kernel) (pa_cons (pv 8) (pa_cons (pe_bltn (v := .ty "tuple") (by rfl) T.tuple (by decide +kernel) rfl) pa_nil)))) (pv 8) (pv 7)))))
              pss_nil)
          (pss_cons (ps_for PassesOwn.never rfl (pi_range1 rfl T.range (pa_cons pe_int pa_nil)) (pg_name (i := 9) scLaw.nd rfl (Or.inl rfl))
              (pss_one (ps_if (pt_not (pt_val (pe_call GLike (hr.mono (by first | omega | decide)) (by rfl) cLike.m cLike.F.kp cLike.b .nil pass0 (pa_cons (pe_told (k := 6) (by rfl) mTo kpTo lkTo hcdTo bTo scTold rfl (Or.inl rfl) (told_okE E T) (hr.mono (by first | omega | decide)) (pe_lam1 (k := 6) (T := [(Pt, qL)]) TB rfl (tab_mem (by rfl)) (tab_one (by rfl)) (lamN_by (N := nLaw) (sc := defScope sLaw) (by decide +kernel)) rfl rfl (fun D => ⟨_, (by decide +kernel), fun cl doc pm cdv ct u => ⟨_, rfl, rfl⟩⟩) (fun A2 outer2 s2 H2 E2 f2 c2 hr2 => (pe_call GRdD (hr2.mono (by first | omega | decide)) (by rfl) cRd.m cRd.F.kp cRd.b .nil (L2.passes_call (takes_of rfl rfl rfl rfl) (fun _ _ _ _ h => h)) (pa_cons (pv 5) pa_nil))))) (pa_cons (pv 7) pa_nil)))))
                  (pss_one (ps_ret pe_bl))
                  pss_nil)))
          (pss_one (ps_if (pt_not (pt_val (pe_call GLike (hr.mono (by first | omega | decide)) (by rfl) cLike.m cLike.F.kp cLike.b .nil pass0 (pa_cons (pe_call GWr (hr.mono (by first | omega | decide)) (by rfl) cWr.m cWr.F.kp cWr.b .nil pass0 (pa_cons (pe_call GRd (hr.mono (by first | omega | decide)) (by rfl) cRd.m cRd.F.kp cRd.b .nil pass0 (pa_cons (pv 4) pa_nil)) pa_nil)) (pa_cons (pv 4) pa_nil)))))
              (pss_one (ps_ret pe_bl))
              pss_nil)))))))))
      (pss_one (ps_ret pe_bl)))))), ?_⟩
    refine ⟨_, rfl, sa, ns, rfl, hS, hlen, fun d H1 s1 hd hE => ?_⟩
    refine ⟨(by show 9 ≤ sizeLine; decide), fun o1 ho1 => ?_⟩
    refine alloc ho1 fun H2 s2 e2 => ?_
    dsimp only [gName]
    refine ⟨_, rfl, (by show 5 ≤ sizeLine; decide), fun o2 ho2 => ?_⟩
    refine alloc ho2 fun H3 s3 e3 => ?_
    refine ⟨o1, o2, _, _, rfl, rfl, s3 _ _ e2, e3, (by show 14 ≤ sizeLine; decide), fun ol hol => ?_⟩
    refine alloc hol fun H4 s4 e4 => ?_
    have e4 : H4 ol = some (.lst (oddT.map V.str)) := e4
    dsimp only [gName]
    have L1 : Ct K (noTb H1) H1 d sa Pt ns := ⟨⟨hE.noTb, fun x o _ g => (noTb_of g).1, hE.dice⟩, TabS.nil (s1 _ _ hPt)⟩
    have L3 := L1.same (s2.trans s3)
    have L4 := L3.same s4
    have hod : ol ≠ d := L4.ent.ned (L3.ent.here hol)
    refine ⟨6, rfl, by decide, by decide, ?_⟩
    refine for_range (lo := 0) (n := (6 : Int).toNat) (fun i σ H' => ∃ (x3 x4 x5 x6 x7 x8 x9 : Option V), σ = [some (.ref sa), some (.ref d), some (.ref ol), x3, x4, x5, x6, x7, x8, x9] ∧ Ct K (noTb H1) H' d sa Pt ns ∧ H' ol = some (.lst (oddT.map V.str)))
      ⟨none, none, none, none, none, none, none, rfl, L4, e4⟩ ?_ ?_
    · rintro i σ H5 hi ⟨x3, x4, x5, x6, x7, x8, x9, rfl, L5, e5⟩
      refine ⟨_, rfl, d, sa, ns, rfl, L5.ent.ent, fun pa p H6 C6 hP g => ?_⟩
      have L6 := L5.dice C6
      have e6 := C6.but _ _ hod e5
      refine ⟨pa, p, rfl, hP, g, fun H7 s7 => ?_⟩
      have L7 := L6.same s7
      have e7 := s7 _ _ e6
      obtain ⟨tx5, txs⟩ := text_ok g
      have tasc := asc_text p
      dsimp only [gName]
      refine seq_elim (fun σ' H' => ∃ z : Str, σ' = [some (.ref sa), some (.ref d), some (.ref ol), some (.int (0 + (i : Int))), some (.str (textF p)), some (.str z), x6, x7, x8, x9] ∧ Ct K (noTb H1) H' d sa Pt ns ∧ H' ol = some (.lst (oddT.map V.str)) ∧ z.length ≤ 5000 ∧ Asc z) ?_ ?_
      · rintro σ' H8 ⟨z0, rfl, L8, e8, z5, za⟩
        refine ⟨_, rfl, d, sa, ns, _, rfl, L8.ent.ent, by decide, by decide, fun n2 H9 b0 b1 C9 => ?_⟩
        have L9 := L8.dice C9
        have e9 := C9.but _ _ hod e8
        refine ⟨n2, rfl, by omega, by omega, ?_⟩
        refine for_range (lo := 0) (n := n2.toNat) (fun j σ' H' => ∃ (z : Str) (y6 : Option V), σ' = [some (.ref sa), some (.ref d), some (.ref ol), some (.int (0 + (i : Int))), some (.str (textF p)), some (.str z), y6, x7, x8, x9] ∧ Ct K (noTb H1) H' d sa Pt ns ∧ H' ol = some (.lst (oddT.map V.str)) ∧ z.length + 20 ≤ 5020 * 2 ^ j ∧ Asc z)
          ⟨z0, x6, rfl, L9, e9, by omega, za⟩ ?_ ?_
        · rintro j σ' H10 hj ⟨z, y6, rfl, L10, e10, zl, zasc⟩
          have zz : z.length ≤ 20060 := by
            have : j = 0 ∨ j = 1 ∨ j = 2 := by omega
            rcases this with rfl | rfl | rfl <;> omega
          refine ⟨_, rfl, _, rfl, d, sa, ns, z, rfl, L10.ent.ent, by omega, zasc, fun y H11 C11 yl ya => ?_⟩
          exact ⟨y, _, rfl, L10.dice C11, C11.but _ _ hod e10, by rw [Nat.pow_succ]; omega, ya⟩
        · rintro σ' H10 ⟨z, y6, rfl, L10, e10, zl, zasc⟩
          have zz : z.length ≤ 44000 := by
            have : n2.toNat = 0 ∨ n2.toNat = 1 ∨ n2.toNat = 2 ∨ n2.toNat = 3 := by omega
            rcases this with q | q | q | q <;> rw [q] at zl <;> omega
          clear zl
          refine ⟨_, rfl, z, rfl, zz, zasc, fun v H11 s11 hv => ?_⟩
          have L11 := L10.same s11
          have e11 := s11 _ _ e10
          dsimp only [gName]
          refine seq_elim (fun σ'' H' => ∃ (u : V) (y8 : Option V), σ'' = [some (.ref sa), some (.ref d), some (.ref ol), some (.int (0 + (i : Int))), some (.str (textF p)), some (.str z), y6, some u, y8, x9] ∧ Ct K (noTb H1) H' d sa Pt ns ∧ H' ol = some (.lst (oddT.map V.str)) ∧ At H' u (resD z)) ?_ ?_
          · rintro σ'' H12 ⟨u, y8, rfl, L12, e12, hu⟩
            refine ⟨2, rfl, by decide, by decide, ?_⟩
            refine for_range (lo := 0) (n := (2 : Int).toNat) (fun j σ'' H' => ∃ y9 : Option V, σ'' = [some (.ref sa), some (.ref d), some (.ref ol), some (.int (0 + (i : Int))), some (.str (textF p)), some (.str z), y6, some u, y8, y9] ∧ Ct K (noTb H1) H' d sa Pt ns ∧ H' ol = some (.lst (oddT.map V.str)) ∧ At H' u (resD z))
              ⟨x9, rfl, L12, e12, hu⟩ ?_ ?_
            · rintro j σ'' H13 hj ⟨y9, rfl, L13, e13, hu13⟩
              refine ⟨L13.tabs, fun v H14 x14 T14 LV => ?_⟩
              obtain ⟨f1, c1, q1, sc1, dT1, rfl, l1, l2, l3, l4, l5⟩ := LV
              have L14 := L13.ext x14 T14
              have hu14 := At.exN x14 _ _ hu13
              have e14 := x14 _ _ e13 (fun ps z => by cases z)
              refine ⟨f1, c1, q1, sc1, dT1, _, rfl, l2, l4, l5, l1, l3, ?_⟩
              refine ⟨_, rfl, z, rfl, zz, fun i0 hb dd H15 hdd s15 e15 => ?_, fun hb => ⟨fun r y hp dd H15 hdd s15 e15 => ?_, fun hpn b H15 s15 hb15 => ?_⟩⟩
              · have er : resD z = .tup [.str "text", .int (i0 : Nat)] := by unfold resD; rw [hb]
                refine .inr ⟨CT, dd, 7, fsBT (i0 : Nat), [.int (i0 : Nat)], kBT, rfl, rfl, e15, .inr (.inr (.inr ⟨rfl, _, rfl, rfl⟩)), fun t1 H16 s16 e16 => ?_⟩
                have s1416 := s15.trans s16
                have hx : At H16 (.ref t1) (resD z) := by
                  rw [er]
                  exact at_tup e16 (by simp [Ats, At, wordJ])
                have hu16 := At.sm0 s1416 _ _ hu14
                exact ⟨_, rfl, _, u, resD z, rfl, hx, hu16, resD_dep z, resD_fit zz, _, rfl, iteF ⟨_, rfl, L14.same s1416, s1416 _ _ e14, hu16⟩⟩
              · have er : resD z = .tup [.str "program", .int r, .str y] := by unfold resD; rw [hb]; dsimp only; rw [hp]
                refine .inr ⟨CB, dd, 0, fsBP r y, [.int r, .str y], kBP, rfl, rfl, e15, .inl ⟨rfl, _, _, rfl, rfl, rfl⟩, fun t1 H16 s16 e16 => ?_⟩
                have s1416 := s15.trans s16
                have hx : At H16 (.ref t1) (resD z) := by
                  rw [er]
                  exact at_tup e16 (by simp [Ats, At, wordJ])
                have hu16 := At.sm0 s1416 _ _ hu14
                exact ⟨_, rfl, _, u, resD z, rfl, hx, hu16, resD_dep z, resD_fit zz, _, rfl, iteF ⟨_, rfl, L14.same s1416, s1416 _ _ e14, hu16⟩⟩
              · have er : resD z = progQ (qsT z) := by unfold resD; rw [hb]; dsimp only; rw [hpn]
                have hx : At H15 (.ref b) (resD z) := by
                  rw [er]
                  exact hb15
                have hu15 := At.sm0 s15 _ _ hu14
                exact ⟨_, rfl, _, u, resD z, rfl, hx, hu15, resD_dep z, resD_fit zz, _, rfl, iteF ⟨_, rfl, L14.same s15, s15 _ _ e14, hu15⟩⟩
            · rintro σ'' H13 ⟨y9, rfl, L13, e13, hu13⟩
              refine ⟨_, rfl, p, rfl, g, fun rb H14 s14 hPb => ?_⟩
              refine ⟨rb, p, rfl, hPb, g, fun H15 s15 => ?_⟩
              refine ⟨_, rfl, _, _, .str (textF p), rfl, by simp only [At], by simp only [At], Nat.zero_le _, trivial, _, rfl, ?_⟩
              exact iteF ⟨_, _, _, _, _, _, _, rfl, L13.same (s14.trans s15), (s14.trans s15) _ _ e13⟩
          · rintro N hN
            cases hb : badL 0 (wordsT z) with
            | some i0 =>
              have ed : dueD z = .tup [.str "text", .int (i0 : Nat)] := by unfold dueD; rw [hb]
              have er : resD z = .tup [.str "text", .int (i0 : Nat)] := by unfold resD; rw [hb]
              rw [ed] at hv
              have hv' := hv
              simp only [At] at hv
              obtain ⟨t, vs, rfl, ht, hts⟩ := hv
              match vs, hts with
              | [a0, b0], hts =>
              simp only [Ats, At] at hts
              obtain ⟨rfl, rfl, _⟩ := hts
              refine ⟨_, rfl, t, _, _, _, rfl, rfl, SqT.of ht, at0, ?_⟩
              refine ⟨.str "text", .str "text", .str _, .str _, by decide +kernel, by decide +kernel, ?_⟩
              refine ⟨_, rfl, ?_⟩
              rw [show PyData.eqv (.str "text") (.str "text") = true from by decide +kernel]
              refine iteF (hN _ _ ⟨.ref t, _, rfl, L11, e11, by rw [er]; exact hv'⟩)
            | none =>
              have ed : dueD z = progQ (qsT z) := by unfold dueD; rw [hb]
              rw [ed] at hv
              have hv' := hv
              unfold progQ at hv
              simp only [At] at hv
              obtain ⟨t, vs, rfl, ht, hts⟩ := hv
              match vs, hts with
              | [a0, b0], hts =>
              simp only [Ats, At] at hts
              obtain ⟨⟨wa, ws, rfl, hwa, hws⟩, _, _⟩ := hts
              rw [ats_ints hws] at hwa
              refine ⟨_, rfl, t, _, _, _, rfl, rfl, SqT.of ht, at0, ?_⟩
              refine ⟨intsT _, .str "text", .tup (SqT.of hwa) (intsT_at _), .str _, intsT_shaped _, by decide +kernel, ?_⟩
              refine ⟨_, rfl, ?_⟩
              rw [show PyData.eqv (intsT ((qsT z).headD ("", [])).2) (.str "text") = false from rfl]
              refine iteT ?_
              refine ⟨L11.tabs, fun v H12 x12 T12 LV => ?_⟩
              obtain ⟨f1, c1, q1, sc1, dT1, rfl, l1, l2, l3, l4, l5⟩ := LV
              have L12 := L11.ext x12 T12
              have hv12 := At.exN x12 _ _ hv'
              have e12 := x12 _ _ e11 (fun ps z => by cases z)
              refine ⟨f1, c1, q1, sc1, dT1, _, rfl, l2, l4, l5, l1, l3, ?_⟩
              refine ⟨_, rfl, .ref t, progQ (qsT z), rfl, hv12, progQ_fit zz, fun r y hp dd H13 hdd s13 e13 => ?_, fun hpn pp hpp gpp H13 s13 => ?_⟩
              · have er : resD z = .tup [.str "program", .int r, .str y] := by unfold resD; rw [hb]; dsimp only; rw [hp]
                refine .inr ⟨CB, dd, 0, fsBP r y, [.int r, .str y], kBP, rfl, rfl, e13, .inl ⟨rfl, _, _, rfl, rfl, rfl⟩, fun t1 H14 s14 e14 => ?_⟩
                have s1214 := s13.trans s14
                dsimp only [gName]
                have at14 : At H14 (.ref t1) (.tup [.str "program", .int r, .str y]) := at_tup e14 (by simp [Ats, At]; rfl)
                refine ⟨_, rfl, .ref t1, .ty "tuple", .type "tuple", .type "tuple", true, rfl, .ty _, At.ty at14, by rfl, ?_⟩
                refine ⟨_, rfl, iteT ⟨_, rfl, hN _ _ ⟨.ref t1, _, rfl, L12.same s1214, s1214 _ _ e12, ?_⟩⟩⟩
                rw [er]
                exact at14
              · have er : resD z = progQ (qsT z) := by unfold resD; rw [hb]; dsimp only; rw [hpn]
                dsimp only [gName]
                refine ⟨_, rfl, .str (textF pp), .ty "tuple", .type "str", .type "tuple", false, rfl, .ty _, At.ty (x := .str (textF pp)) (by simp only [At]), by rfl, ?_⟩
                refine ⟨_, rfl, iteF ⟨_, rfl, hN _ _ ⟨.ref t, _, rfl, L12.same s13, s13 _ _ e12, ?_⟩⟩⟩
                rw [er]
                exact At.sm0 s13 _ _ hv12
      · rintro N hN
        refine ⟨_, rfl, d, sa, ns, _, rfl, L7.ent.ent, by decide, by decide, fun n1 H8 a0 a1 C8 => ?_⟩
        have L8 := L7.dice C8
        have e8 := C8.but _ _ hod e7
        refine ⟨_, _, rfl, rfl, _, rfl, ite2 (fun c => ?_) (fun c => ?_)⟩
        · exact ⟨_, rfl, hN _ _ ⟨textF p, rfl, L8, e8, tx5, tasc⟩⟩
        · refine ⟨_, rfl, _, rfl, d, sa, ns, _, rfl, L8.ent.ent, by decide, by decide, fun n3 H9 c0 c1 C9 => ?_⟩
          obtain ⟨m, rfl⟩ : ∃ m : Nat, n3 = (m : Int) := ⟨n3.toNat, by omega⟩
          have hm : m < oddT.length := show m < 14 by omega
          have hm1 : (oddT.map V.str)[m]? = some (.str oddT[m]) := by rw [List.getElem?_map, List.getElem?_eq_getElem hm]; rfl
          obtain ⟨oa, ob⟩ := oddT_ok oddT[m] (List.getElem_mem hm)
          have e9 := C9.but _ _ hod e8
          exact ⟨ol, _, _, _, rfl, rfl, SqL.of e9, atI_nat hm1, hN _ _ ⟨oddT[m], rfl, L8.dice C9, e9, ob, oa⟩⟩
    · exact fun σ H' _ => kq H'
end
end DL
namespace DL
open PySem PySem.Spec L2 DLR TL LamX
theorem ns_none {K : Frg} {d : Addr} {es : Array DictEntry} {n : Nat} {z1 z2 z3 z4 z5 z6 z7 : Tok} (pL : K.lookup d = some ⟨.type "dict", none, .dict es n, #[]⟩)
    (pE : es.toList.map (·.key) = [.str "load" z1, .str "add" z2, .str "take" z3, .str "store" z4, .str "say" z5, .str "test" z6, .str "stop" z7]) {x : Str} (hx : partsOf x = none) : PySem.W.nsIn K d x = some none := by
  have hn : ∀ p ∈ words7, (x == p.1) = false := fun p hp => by
    cases h : x == p.1 with
    | false => rfl
    | true =>
      exfalso
      have q := List.lookup_eq_none_iff.mp hx p hp
      rw [bne, h] at q
      cases q
  have hk : ∀ e ∈ es.toList, ∃ (p : Str × List Str) (t : Tok), p ∈ words7 ∧ e.key = .str p.1 t := fun e he => by
    have m : e.key ∈ es.toList.map (·.key) := List.mem_map_of_mem he
    rw [pE] at m
    simp only [List.mem_cons, List.not_mem_nil, or_false] at m
    have c : ∀ (k : Nat) (wd : Str) (z : Tok), (words7.map (·.1))[k]? = some wd → e.key = .str wd z → ∃ (p : Str × List Str) (t : Tok), p ∈ words7 ∧ e.key = .str p.1 t := fun k wd z h q => by
      obtain ⟨p, hp, rfl⟩ := List.mem_map.mp (List.mem_of_getElem? h)
      exact ⟨p, z, hp, q⟩
    rcases m with q | q | q | q | q | q | q
    · exact c 0 _ _ rfl q
    · exact c 1 _ _ rfl q
    · exact c 2 _ _ rfl q
    · exact c 3 _ _ rfl q
    · exact c 4 _ _ rfl q
    · exact c 5 _ _ rfl q
    · exact c 6 _ _ rfl q
  have h1 : es.toList.find? (·.key.isStr x) = none := List.find?_eq_none.mpr fun e he => by
    obtain ⟨p, t, hp, hk'⟩ := hk e he
    have q := hn p hp
    rw [hk']
    show ¬ (p.1 == x) = true
    intro z
    rw [beq_iff_eq] at z
    rw [← z] at q
    simp at q
  have h2 : es.toList.any (·.refKey) = false := by
    rw [List.any_eq_false]
    intro e he
    obtain ⟨p, t, hp, hk'⟩ := hk e he
    unfold DictEntry.refKey
    rw [hk']
    simp
  unfold PySem.W.nsIn
  rw [pL]
  dsimp only
  rw [h1, h2]
  rfl
end DL
namespace DL
open PySem L2 DLR
theorem tup_lit {K : Frg} {H : Hp} {t : Addr} {dd : Option Addr} {its : Array Value} {n : Nat} {sl : Array (Option Value)} {l : List Str} (h : K.lookup t = some ⟨.type "tuple", dd, .seq its n, sl⟩) (e : Vals (l.map V.str) its.toList) (hl : l.length ≤ 1000) : SqT K H t (l.map V.str) := by
  refine .inr ⟨_, its, n, h, rfl, rfl, ?_, e⟩
  have q : its.size = l.length := by
    have z := e.length
    rw [List.length_map] at z
    exact z.symm
  rw [q]
  exact sz (by omega)
theorem kit_cls' {K : Frg} {t : Value} {C : Addr} {b : Bool} (i : PySem.W.isClsIn K C = true) (ty : PySem.W.typeIn K (.ref C) = some (.type "type")) (s : PySem.W.subIn K t (.ref C) = some b) : PySem.W.kitCls K t (.ref C) = some b := by
  unfold PySem.W.kitCls
  have h : ((PySem.W.clsIn K C).isSome && PySem.W.typeIn K (.ref C) == some (.type "type")) = true := by
    rw [ty, show (PySem.W.clsIn K C).isSome = true from i]
    rfl
  dsimp only
  rw [if_pos h]
  exact s
theorem kit_no {K : Frg} {D C : Addr} {b : Bool} (n : (D == C) = false) (i : PySem.W.isClsIn K C = true) (ty : PySem.W.typeIn K (.ref C) = some (.type "type")) (s : PySem.W.subIn K (.ref D) (.ref C) = some b) : PySem.W.kitOne K (.ref D) (.ref C) = some b := by
  unfold PySem.W.kitOne
  have ne : ¬ (Value.ref D == Value.ref C) = true := fun z => by
    have e : Value.ref D = Value.ref C := by simpa using z
    injection e with e
    exact ne_of_beq_false n e
  rw [if_neg ne]
  exact kit_cls' i ty s
theorem kit_self {K : Frg} {D : Addr} : PySem.W.kitOne K (.ref D) (.ref D) = some true := by
  unfold PySem.W.kitOne
  rw [if_pos (by simp)]
theorem kit_type {K : Frg} {D : Addr} {T : String} {b : Bool} (m : PySem.W.kitMeta T = true) (s : PySem.W.subIn K (.ref D) (.type T) = some b) : PySem.W.kitOne K (.ref D) (.type T) = some b := by
  unfold PySem.W.kitOne
  have ne : ¬ (Value.ref D == Value.type T) = true := fun z => by
    have e : Value.ref D = Value.type T := by simpa using z
    cases e
  rw [if_neg ne]
  unfold PySem.W.kitCls
  dsimp only
  rw [if_pos m]
  exact s
theorem exm_sub {K : Frg} {D C : Addr} {b : Bool} (bb : PySem.W.subIn K (.ref C) (.type "BaseException") = some true) (i : PySem.W.isClsIn K C = true) (ty : PySem.W.typeIn K (.ref C) = some (.type "type")) (s : PySem.W.subIn K (.ref D) (.ref C) = some b) : PySem.W.exmOne K (.ref D) (.ref C) = some b := by
  unfold PySem.W.exmOne
  rw [bb, if_pos (by rfl)]
  exact kit_cls' i ty s
theorem all_mk {P : Program} {w : World} {K : PySem.W.Frag} {h : Heap} {mg : Str → Option Value} {fa : Addr} (X : K.In h) (G : h.Ns mainGlobals mg) (hfa : mg "law" = some (.ref fa))
    {af0 af1 af2 af3 af4 af5 af6 af7 af8 af9 af10 af11 af12 af13 af14 af15 af16 af17 af18 af19 af20 af21 af22 af23 af24 af25 eBP eBL eBF eBG eBE eTM_ eOV eBT eDE axBP axBT cc tP d p_load p_add p_take p_store p_say p_test p_stop : Addr} {odf0 anf0 odf1 anf1 odf2 anf2 odf3 anf3 odf4 anf4 odf5 anf5 odf6 anf6 odf7 anf7 odf8 anf8 odf9 anf9 odf10 anf10 odf11 anf11 odf12 anf12 odf13 anf13 odf14 anf14 odf15 anf15 odf16 anf16 odf17 anf17 odf18 anf18 odf19 anf19 odf20 anf20 odf21 anf21 odf22 anf22 odf23 anf23 odf24 anf24 odf25 anf25 odxBP anxBP odxBT anxBT ddc pd_load pd_add pd_take pd_store pd_say pd_test pd_stop : Option Addr} {slf0 slf1 slf2 slf3 slf4 slf5 slf6 slf7 slf8 slf9 slf10 slf11 slf12 slf13 slf14 slf15 slf16 slf17 slf18 slf19 slf20 slf21 slf22 slf23 slf24 slf25 slxBP slxBT slc ps_load ps_add ps_take ps_store ps_say ps_test ps_stop : Array (Option Value)} {its_load its_add its_take its_store its_say its_test its_stop : Array Value} {ocf0 kVf0 dcf0 pmf0 cdf0 ctf0 ocf1 kVf1 dcf1 pmf1 cdf1 ctf1 ocf2 kVf2 dcf2 pmf2 cdf2 ctf2 ocf3 kVf3 dcf3 pmf3 cdf3 ctf3 ocf4 kVf4 dcf4 pmf4 cdf4 ctf4 ocf5 kVf5 dcf5 pmf5 cdf5 ctf5 ocf6 kVf6 dcf6 pmf6 cdf6 ctf6 ocf7 kVf7 dcf7 pmf7 cdf7 ctf7 ocf8 kVf8 dcf8 pmf8 cdf8 ctf8 ocf9 kVf9 dcf9 pmf9 cdf9 ctf9 ocf10 kVf10 dcf10 pmf10 cdf10 ctf10 ocf11 kVf11 dcf11 pmf11 cdf11 ctf11 ocf12 kVf12 dcf12 pmf12 cdf12 ctf12 ocf13 kVf13 dcf13 pmf13 cdf13 ctf13 ocf14 kVf14 dcf14 pmf14 cdf14 ctf14 ocf15 kVf15 dcf15 pmf15 cdf15 ctf15 ocf16 kVf16 dcf16 pmf16 cdf16 ctf16 ocf17 kVf17 dcf17 pmf17 cdf17 ctf17 ocf18 kVf18 dcf18 pmf18 cdf18 ctf18 ocf19 kVf19 dcf19 pmf19 cdf19 ctf19 ocf20 kVf20 dcf20 pmf20 cdf20 ctf20 ocf21 kVf21 dcf21 pmf21 cdf21 ctf21 ocf22 kVf22 dcf22 pmf22 cdf22 ctf22 ocf23 kVf23 dcf23 pmf23 cdf23 ctf23 ocf24 kVf24 dcf24 pmf24 cdf24 ctf24 ocf25 kVf25 dcf25 pmf25 ctf25 ocxBP kVxBP dcxBP pmxBP cdxBP ctxBP ocxBT kVxBT dcxBT pmxBT cdxBT ctxBT : Value} {es : Array DictEntry} {n pn_load pn_add pn_take pn_store pn_say pn_test pn_stop : Nat} {tW tR tN t7 tI zz1 zz2 zz3 zz4 zz5 zz6 zz7 : Tok} {vsc : Array Value} {file18 : Str} {tf18 tg7 tt10 : Tok} {fl7 tx10 : Int} {in9 : Bool}
    (nf0 : PySem.W.nsIn K mainGlobals "_law_next" = some (some (.ref af0)))
    (lf0 : K.lookup af0 = some ⟨ocf0, odf0, .func (PySem.W.fnOf "_law_next" "_law_next" (defArgs sNext) (defBody sNext) (defScope sNext) .none kVf0 dcf0 pmf0 anf0 cdf0 ctf0), slf0⟩)
    (cf0 : PySem.W.codeIn K cdf0 "_law_next" = true)
    (kf0 : PySem.W.keepIn K (.ref af0) = true)
    (nf1 : PySem.W.nsIn K mainGlobals "_law_straight" = some (some (.ref af1)))
    (lf1 : K.lookup af1 = some ⟨ocf1, odf1, .func (PySem.W.fnOf "_law_straight" "_law_straight" (defArgs sStraight) (defBody sStraight) (defScope sStraight) .none kVf1 dcf1 pmf1 anf1 cdf1 ctf1), slf1⟩)
    (cf1 : PySem.W.codeIn K cdf1 "_law_straight" = true)
    (kf1 : PySem.W.keepIn K (.ref af1) = true)
    (nf2 : PySem.W.nsIn K mainGlobals "_law_fork" = some (some (.ref af2)))
    (lf2 : K.lookup af2 = some ⟨ocf2, odf2, .func (PySem.W.fnOf "_law_fork" "_law_fork" (defArgs sFork) (defBody sFork) (defScope sFork) .none kVf2 dcf2 pmf2 anf2 cdf2 ctf2), slf2⟩)
    (cf2 : PySem.W.codeIn K cdf2 "_law_fork" = true)
    (kf2 : PySem.W.keepIn K (.ref af2) = true)
    (nf3 : PySem.W.nsIn K mainGlobals "_law_body" = some (some (.ref af3)))
    (lf3 : K.lookup af3 = some ⟨ocf3, odf3, .func (PySem.W.fnOf "_law_body" "_law_body" (defArgs sBody) (defBody sBody) (defScope sBody) .none kVf3 dcf3 pmf3 anf3 cdf3 ctf3), slf3⟩)
    (cf3 : PySem.W.codeIn K cdf3 "_law_body" = true)
    (kf3 : PySem.W.keepIn K (.ref af3) = true)
    (nf4 : PySem.W.nsIn K mainGlobals "_law_mixed" = some (some (.ref af4)))
    (lf4 : K.lookup af4 = some ⟨ocf4, odf4, .func (PySem.W.fnOf "_law_mixed" "_law_mixed" (defArgs sMixed) (defBody sMixed) (defScope sMixed) .none kVf4 dcf4 pmf4 anf4 cdf4 ctf4), slf4⟩)
    (cf4 : PySem.W.codeIn K cdf4 "_law_mixed" = true)
    (kf4 : PySem.W.keepIn K (.ref af4) = true)
    (nf5 : PySem.W.nsIn K mainGlobals "_law_stopping" = some (some (.ref af5)))
    (lf5 : K.lookup af5 = some ⟨ocf5, odf5, .func (PySem.W.fnOf "_law_stopping" "_law_stopping" (defArgs sStopping) (defBody sStopping) (defScope sStopping) .none kVf5 dcf5 pmf5 anf5 cdf5 ctf5), slf5⟩)
    (cf5 : PySem.W.codeIn K cdf5 "_law_stopping" = true)
    (kf5 : PySem.W.keepIn K (.ref af5) = true)
    (nf6 : PySem.W.nsIn K mainGlobals "_law_any" = some (some (.ref af6)))
    (lf6 : K.lookup af6 = some ⟨ocf6, odf6, .func (PySem.W.fnOf "_law_any" "_law_any" (defArgs sAny) (defBody sAny) (defScope sAny) .none kVf6 dcf6 pmf6 anf6 cdf6 ctf6), slf6⟩)
    (cf6 : PySem.W.codeIn K cdf6 "_law_any" = true)
    (kf6 : PySem.W.keepIn K (.ref af6) = true)
    (nf7 : PySem.W.nsIn K mainGlobals "is_number" = some (some (.ref af7)))
    (lf7 : K.lookup af7 = some ⟨ocf7, odf7, .func (PySem.W.fnOf "is_number" "is_number" (defArgs sIsNumber) (defBody sIsNumber) (defScope sIsNumber) .none kVf7 dcf7 pmf7 anf7 cdf7 ctf7), slf7⟩)
    (cf7 : PySem.W.codeIn K cdf7 "is_number" = true)
    (kf7 : PySem.W.keepIn K (.ref af7) = true)
    (nf8 : PySem.W.nsIn K mainGlobals "is_between" = some (some (.ref af8)))
    (lf8 : K.lookup af8 = some ⟨ocf8, odf8, .func (PySem.W.fnOf "is_between" "is_between" (defArgs sIsBetween) (defBody sIsBetween) (defScope sIsBetween) .none kVf8 dcf8 pmf8 anf8 cdf8 ctf8), slf8⟩)
    (cf8 : PySem.W.codeIn K cdf8 "is_between" = true)
    (kf8 : PySem.W.keepIn K (.ref af8) = true)
    (nf9 : PySem.W.nsIn K mainGlobals "part" = some (some (.ref af9)))
    (lf9 : K.lookup af9 = some ⟨ocf9, odf9, .func (PySem.W.fnOf "part" "part" (defArgs sPart) (defBody sPart) (defScope sPart) .none kVf9 dcf9 pmf9 anf9 cdf9 ctf9), slf9⟩)
    (cf9 : PySem.W.codeIn K cdf9 "part" = true)
    (kf9 : PySem.W.keepIn K (.ref af9) = true)
    (nf10 : PySem.W.nsIn K mainGlobals "check_worths" = some (some (.ref af10)))
    (lf10 : K.lookup af10 = some ⟨ocf10, odf10, .func (PySem.W.fnOf "check_worths" "check_worths" (defArgs sCheckWorths) (defBody sCheckWorths) (defScope sCheckWorths) .none kVf10 dcf10 pmf10 anf10 cdf10 ctf10), slf10⟩)
    (cf10 : PySem.W.codeIn K cdf10 "check_worths" = true)
    (kf10 : PySem.W.keepIn K (.ref af10) = true)
    (nf11 : PySem.W.nsIn K mainGlobals "has_shape" = some (some (.ref af11)))
    (lf11 : K.lookup af11 = some ⟨ocf11, odf11, .func (PySem.W.fnOf "has_shape" "has_shape" (defArgs sHasShape) (defBody sHasShape) (defScope sHasShape) .none kVf11 dcf11 pmf11 anf11 cdf11 ctf11), slf11⟩)
    (cf11 : PySem.W.codeIn K cdf11 "has_shape" = true)
    (kf11 : PySem.W.keepIn K (.ref af11) = true)
    (nf12 : PySem.W.nsIn K mainGlobals "check_row" = some (some (.ref af12)))
    (lf12 : K.lookup af12 = some ⟨ocf12, odf12, .func (PySem.W.fnOf "check_row" "check_row" (defArgs sCheckRow) (defBody sCheckRow) (defScope sCheckRow) .none kVf12 dcf12 pmf12 anf12 cdf12 ctf12), slf12⟩)
    (cf12 : PySem.W.codeIn K cdf12 "check_row" = true)
    (kf12 : PySem.W.keepIn K (.ref af12) = true)
    (nf13 : PySem.W.nsIn K mainGlobals "check_program" = some (some (.ref af13)))
    (lf13 : K.lookup af13 = some ⟨ocf13, odf13, .func (PySem.W.fnOf "check_program" "check_program" (defArgs sCheckProgram) (defBody sCheckProgram) (defScope sCheckProgram) .none kVf13 dcf13 pmf13 anf13 cdf13 ctf13), slf13⟩)
    (cf13 : PySem.W.codeIn K cdf13 "check_program" = true)
    (kf13 : PySem.W.keepIn K (.ref af13) = true)
    (nf14 : PySem.W.nsIn K mainGlobals "is_written_number" = some (some (.ref af14)))
    (lf14 : K.lookup af14 = some ⟨ocf14, odf14, .func (PySem.W.fnOf "is_written_number" "is_written_number" (defArgs sWn) (defBody sWn) (defScope sWn) .none kVf14 dcf14 pmf14 anf14 cdf14 ctf14), slf14⟩)
    (cf14 : PySem.W.codeIn K cdf14 "is_written_number" = true)
    (kf14 : PySem.W.keepIn K (.ref af14) = true)
    (nf15 : PySem.W.nsIn K mainGlobals "is_line" = some (some (.ref af15)))
    (lf15 : K.lookup af15 = some ⟨ocf15, odf15, .func (PySem.W.fnOf "is_line" "is_line" (defArgs sIl) (defBody sIl) (defScope sIl) .none kVf15 dcf15 pmf15 anf15 cdf15 ctf15), slf15⟩)
    (cf15 : PySem.W.codeIn K cdf15 "is_line" = true)
    (kf15 : PySem.W.keepIn K (.ref af15) = true)
    (nf16 : PySem.W.nsIn K mainGlobals "row_of" = some (some (.ref af16)))
    (lf16 : K.lookup af16 = some ⟨ocf16, odf16, .func (PySem.W.fnOf "row_of" "row_of" (defArgs sRo) (defBody sRo) (defScope sRo) .none kVf16 dcf16 pmf16 anf16 cdf16 ctf16), slf16⟩)
    (cf16 : PySem.W.codeIn K cdf16 "row_of" = true)
    (kf16 : PySem.W.keepIn K (.ref af16) = true)
    (nf17 : PySem.W.nsIn K mainGlobals "written" = some (some (.ref af17)))
    (lf17 : K.lookup af17 = some ⟨ocf17, odf17, .func (PySem.W.fnOf "written" "written" (defArgs sWr) (defBody sWr) (defScope sWr) .none kVf17 dcf17 pmf17 anf17 cdf17 ctf17), slf17⟩)
    (cf17 : PySem.W.codeIn K cdf17 "written" = true)
    (kf17 : PySem.W.keepIn K (.ref af17) = true)
    (nf18 : PySem.W.nsIn K mainGlobals "read" = some (some (.ref af18)))
    (lf18 : K.lookup af18 = some ⟨ocf18, odf18, .func (PySem.W.fnOf "read" "read" (defArgs sRd) (defBody sRd) (defScope sRd) .none kVf18 dcf18 pmf18 anf18 cdf18 ctf18), slf18⟩)
    (cf18 : PySem.W.codeIn K cdf18 "read" = true)
    (kf18 : PySem.W.keepIn K (.ref af18) = true)
    (nf19 : PySem.W.nsIn K mainGlobals "_law_number" = some (some (.ref af19)))
    (lf19 : K.lookup af19 = some ⟨ocf19, odf19, .func (PySem.W.fnOf "_law_number" "_law_number" (defArgs sLNum) (defBody sLNum) (defScope sLNum) .none kVf19 dcf19 pmf19 anf19 cdf19 ctf19), slf19⟩)
    (cf19 : PySem.W.codeIn K cdf19 "_law_number" = true)
    (kf19 : PySem.W.keepIn K (.ref af19) = true)
    (nf20 : PySem.W.nsIn K mainGlobals "_law_due" = some (some (.ref af20)))
    (lf20 : K.lookup af20 = some ⟨ocf20, odf20, .func (PySem.W.fnOf "_law_due" "_law_due" (defArgs sLDue) (defBody sLDue) (defScope sLDue) .none kVf20 dcf20 pmf20 anf20 cdf20 ctf20), slf20⟩)
    (cf20 : PySem.W.codeIn K cdf20 "_law_due" = true)
    (kf20 : PySem.W.keepIn K (.ref af20) = true)
    (nf21 : PySem.W.nsIn K mainGlobals "_law_changed" = some (some (.ref af21)))
    (lf21 : K.lookup af21 = some ⟨ocf21, odf21, .func (PySem.W.fnOf "_law_changed" "_law_changed" (defArgs sChanged) (defBody sChanged) (defScope sChanged) .none kVf21 dcf21 pmf21 anf21 cdf21 ctf21), slf21⟩)
    (cf21 : PySem.W.codeIn K cdf21 "_law_changed" = true)
    (kf21 : PySem.W.keepIn K (.ref af21) = true)
    (nf22 : PySem.W.nsIn K mainGlobals "_law_dice" = some (some (.ref af22)))
    (lf22 : K.lookup af22 = some ⟨ocf22, odf22, .func (PySem.W.fnOf "_law_dice" "_law_dice" (defArgs sDice) (defBody sDice) (defScope sDice) .none kVf22 dcf22 pmf22 anf22 cdf22 ctf22), slf22⟩)
    (cf22 : PySem.W.codeIn K cdf22 "_law_dice" = true)
    (kf22 : PySem.W.keepIn K (.ref af22) = true)
    (nf23 : PySem.W.nsIn K mainGlobals "_law_like" = some (some (.ref af23)))
    (lf23 : K.lookup af23 = some ⟨ocf23, odf23, .func (PySem.W.fnOf "_law_like" "_law_like" (defArgs sLike) (defBody sLike) (defScope sLike) .none kVf23 dcf23 pmf23 anf23 cdf23 ctf23), slf23⟩)
    (cf23 : PySem.W.codeIn K cdf23 "_law_like" = true)
    (kf23 : PySem.W.keepIn K (.ref af23) = true)
    (nf24 : PySem.W.nsIn K mainGlobals "_law_told" = some (some (.ref af24)))
    (lf24 : K.lookup af24 = some ⟨ocf24, odf24, .func (PySem.W.fnOf "_law_told" "_law_told" (defArgs sTold) (defBody sTold) (defScope sTold) .none kVf24 dcf24 pmf24 anf24 cdf24 ctf24), slf24⟩)
    (cf24 : PySem.W.codeIn K cdf24 "_law_told" = true)
    (kf24 : PySem.W.keepIn K (.ref af24) = true)
    (nf25 : PySem.W.nsIn K mainGlobals "law" = some (some (.ref af25)))
    (lf25 : K.lookup af25 = some ⟨ocf25, odf25, .func (PySem.W.fnOf "law" "law" (defArgs sLaw) (defBody sLaw) (defScope sLaw) .none kVf25 dcf25 pmf25 anf25 (.ref cc) ctf25), slf25⟩)
    (cf25 : PySem.W.codeIn K (.ref cc) "law" = true)
    (kf25 : PySem.W.keepIn K (.ref af25) = true)
    (mBP : PySem.W.nsIn K mainGlobals "BadProgram" = some (some (.ref eBP)))
    (mBL : PySem.W.nsIn K mainGlobals "BadLaying" = some (some (.ref eBL)))
    (mBF : PySem.W.nsIn K mainGlobals "BadFuel" = some (some (.ref eBF)))
    (mBG : PySem.W.nsIn K mainGlobals "BadGoes" = some (some (.ref eBG)))
    (mBE : PySem.W.nsIn K mainGlobals "BadPaper" = some (some (.ref eBE)))
    (mTM_ : PySem.W.nsIn K mainGlobals "TooMany" = some (some (.ref eTM_)))
    (mOV : PySem.W.nsIn K mainGlobals "Over" = some (some (.ref eOV)))
    (mBT : PySem.W.nsIn K mainGlobals "BadText" = some (some (.ref eBT)))
    (mDE : PySem.W.nsIn K mainGlobals "DrumError" = some (some (.ref eDE)))
    (b_ValueError : PySem.W.nsIn K mainGlobals "ValueError" = some none)
    (iBP : PySem.W.isClsIn K eBP = true)
    (tBP : PySem.W.typeIn K (.ref eBP) = some (.type "type"))
    (iBL : PySem.W.isClsIn K eBL = true)
    (tBL : PySem.W.typeIn K (.ref eBL) = some (.type "type"))
    (iBF : PySem.W.isClsIn K eBF = true)
    (tBF : PySem.W.typeIn K (.ref eBF) = some (.type "type"))
    (iBG : PySem.W.isClsIn K eBG = true)
    (tBG : PySem.W.typeIn K (.ref eBG) = some (.type "type"))
    (iBE : PySem.W.isClsIn K eBE = true)
    (tBE : PySem.W.typeIn K (.ref eBE) = some (.type "type"))
    (iTM_ : PySem.W.isClsIn K eTM_ = true)
    (tTM_ : PySem.W.typeIn K (.ref eTM_) = some (.type "type"))
    (iOV : PySem.W.isClsIn K eOV = true)
    (tOV : PySem.W.typeIn K (.ref eOV) = some (.type "type"))
    (iBT : PySem.W.isClsIn K eBT = true)
    (tBT : PySem.W.typeIn K (.ref eBT) = some (.type "type"))
    (iDE : PySem.W.isClsIn K eDE = true)
    (tDE : PySem.W.typeIn K (.ref eDE) = some (.type "type"))
    (bDE : PySem.W.subIn K (.ref eDE) (.type "BaseException") = some true)
    (de_sp : PySem.W.specialIn K (.ref eDE) "__getattribute__" = some (some (.builtin "type.__getattribute__")))
    (de_rd : PySem.W.readsIn K eDE (.type "type") = true)
    (de_fi : PySem.W.findCls K (.ref eDE) (.type "type") "__init__" = some (.val (.builtin "ValueError.__init__")))
    (BP_hg : PySem.W.findIn K (.ref eBP) "__getattribute__" = some (some (.builtin "BaseException.__getattribute__")))
    (BP_hk : PySem.W.findIn K (.ref eBP) "__getattr__" = some none)
    (BP_hs : PySem.W.subIn K (.ref eBP) (.type "BaseException") = some true)
    (BP_hd : PySem.W.hasDictIn K eBP = true)
    (BP_ha : PySem.W.findIn K (.ref eBP) "__class__" = some (some (.builtin "object.__class__")))
    (BP_hn : PySem.W.specialIn K (.builtin "object.__class__") "__get__" = some (some (.builtin "getset_descriptor.__get__")))
    (BP_ht : PySem.W.takesIn K (.builtin "object.__class__") = some true)
    (BP_hm : PySem.W.mroIn K eBP (.type "object") = some true)
    (BP_sDE : PySem.W.subIn K (.ref eBP) (.ref eDE) = some true)
    (BP_sVE : PySem.W.subIn K (.ref eBP) (.type "ValueError") = some true)
    (BP_s1 : PySem.W.subIn K (.ref eBP) (.ref eBL) = some false)
    (BP_s2 : PySem.W.subIn K (.ref eBP) (.ref eBF) = some false)
    (BP_s3 : PySem.W.subIn K (.ref eBP) (.ref eBG) = some false)
    (BP_s4 : PySem.W.subIn K (.ref eBP) (.ref eBE) = some false)
    (BP_s5 : PySem.W.subIn K (.ref eBP) (.ref eTM_) = some false)
    (BP_s6 : PySem.W.subIn K (.ref eBP) (.ref eOV) = some false)
    (BP_s7 : PySem.W.subIn K (.ref eBP) (.ref eBT) = some false)
    (BP_n1 : (eBP == eBL) = false)
    (BP_n2 : (eBP == eBF) = false)
    (BP_n3 : (eBP == eBG) = false)
    (BP_n4 : (eBP == eBE) = false)
    (BP_n5 : (eBP == eTM_) = false)
    (BP_n6 : (eBP == eOV) = false)
    (BP_n7 : (eBP == eBT) = false)
    (BP_sa : PySem.W.findIn K (.ref eBP) "__setattr__" = some (some (.builtin "object.__setattr__")))
    (BP_rk : PySem.W.keepIn K (.ref eBP) = true)
    (BP_rt : PySem.W.typeIn K (.ref eBP) = some (.type "type"))
    (BP_wrow : PySem.W.findIn K (.ref eBP) "row" = some none)
    (BP_wwhy : PySem.W.findIn K (.ref eBP) "why" = some none)
    (BP_wat : PySem.W.findIn K (.ref eBP) "at" = some none)
    (BP_wline : PySem.W.findIn K (.ref eBP) "line" = some none)
    (BP_cl : ∃ nm q N bs bm sn sub ab col dd k0 k1 k2 k3 k5, K.lookup eBP = some (excClassObj nm q eBP N bs bm true sn sub ab col dd k0 k1 k2 k3 k5 "ValueError.__new__") ∧ PySem.HandSPX.refsVE bm = true)
    (nxBP : PySem.W.findIn K (.ref eBP) "__init__" = some (some (.ref axBP)))
    (tyxBP : PySem.W.typeIn K (.ref axBP) = some (.type "function"))
    (lxBP : K.lookup axBP = some ⟨ocxBP, odxBP, .func (PySem.W.fnOf "__init__" "BadProgram.__init__" (defArgs sBPInit) (defBody sBPInit) (defScope sBPInit) .none kVxBP dcxBP pmxBP anxBP cdxBP ctxBP), slxBP⟩)
    (cxBP : PySem.W.codeIn K cdxBP "BadProgram.__init__" = true)
    (kxBP : PySem.W.keepIn K (.ref axBP) = true)
    (BT_hg : PySem.W.findIn K (.ref eBT) "__getattribute__" = some (some (.builtin "BaseException.__getattribute__")))
    (BT_hk : PySem.W.findIn K (.ref eBT) "__getattr__" = some none)
    (BT_hs : PySem.W.subIn K (.ref eBT) (.type "BaseException") = some true)
    (BT_hd : PySem.W.hasDictIn K eBT = true)
    (BT_ha : PySem.W.findIn K (.ref eBT) "__class__" = some (some (.builtin "object.__class__")))
    (BT_hn : PySem.W.specialIn K (.builtin "object.__class__") "__get__" = some (some (.builtin "getset_descriptor.__get__")))
    (BT_ht : PySem.W.takesIn K (.builtin "object.__class__") = some true)
    (BT_hm : PySem.W.mroIn K eBT (.type "object") = some true)
    (BT_sDE : PySem.W.subIn K (.ref eBT) (.ref eDE) = some true)
    (BT_sVE : PySem.W.subIn K (.ref eBT) (.type "ValueError") = some true)
    (BT_s0 : PySem.W.subIn K (.ref eBT) (.ref eBP) = some false)
    (BT_s1 : PySem.W.subIn K (.ref eBT) (.ref eBL) = some false)
    (BT_s2 : PySem.W.subIn K (.ref eBT) (.ref eBF) = some false)
    (BT_s3 : PySem.W.subIn K (.ref eBT) (.ref eBG) = some false)
    (BT_s4 : PySem.W.subIn K (.ref eBT) (.ref eBE) = some false)
    (BT_s5 : PySem.W.subIn K (.ref eBT) (.ref eTM_) = some false)
    (BT_s6 : PySem.W.subIn K (.ref eBT) (.ref eOV) = some false)
    (BT_n0 : (eBT == eBP) = false)
    (BT_n1 : (eBT == eBL) = false)
    (BT_n2 : (eBT == eBF) = false)
    (BT_n3 : (eBT == eBG) = false)
    (BT_n4 : (eBT == eBE) = false)
    (BT_n5 : (eBT == eTM_) = false)
    (BT_n6 : (eBT == eOV) = false)
    (BT_sa : PySem.W.findIn K (.ref eBT) "__setattr__" = some (some (.builtin "object.__setattr__")))
    (BT_rk : PySem.W.keepIn K (.ref eBT) = true)
    (BT_rt : PySem.W.typeIn K (.ref eBT) = some (.type "type"))
    (BT_wrow : PySem.W.findIn K (.ref eBT) "row" = some none)
    (BT_wwhy : PySem.W.findIn K (.ref eBT) "why" = some none)
    (BT_wat : PySem.W.findIn K (.ref eBT) "at" = some none)
    (BT_wline : PySem.W.findIn K (.ref eBT) "line" = some none)
    (BT_cl : ∃ nm q N bs bm sn sub ab col dd k0 k1 k2 k3 k5, K.lookup eBT = some (excClassObj nm q eBT N bs bm true sn sub ab col dd k0 k1 k2 k3 k5 "ValueError.__new__") ∧ PySem.HandSPX.refsVE bm = true)
    (nxBT : PySem.W.findIn K (.ref eBT) "__init__" = some (some (.ref axBT)))
    (tyxBT : PySem.W.typeIn K (.ref axBT) = some (.type "function"))
    (lxBT : K.lookup axBT = some ⟨ocxBT, odxBT, .func (PySem.W.fnOf "__init__" "BadText.__init__" (defArgs sBTInit) (defBody sBTInit) (defScope sBTInit) .none kVxBT dcxBT pmxBT anxBT cdxBT ctxBT), slxBT⟩)
    (cxBT : PySem.W.codeIn K cdxBT "BadText.__init__" = true)
    (kxBT : PySem.W.keepIn K (.ref axBT) = true)
    (cK : K.lookup cc = some ⟨.type "code", ddc, .fields vsc, slc⟩)
    (c11 : vsc[11]? = some (.ref tP))
    (g11 : vsc.getD 11 .none = .ref tP)
    (g18 : vsc.getD 18 .none = .str file18 tf18)
    (g7 : vsc.getD 7 .none = .int fl7 tg7)
    (g9 : vsc.getD 9 .none = .bool in9)
    (g10 : vsc.getD 10 .none = .int tx10 tt10)
    (cP : (cc == tP) = false)
    (nP : K.lookup tP = none)
    (b_len : PySem.W.nsIn K mainGlobals "len" = some none)
    (b_int : PySem.W.nsIn K mainGlobals "int" = some none)
    (b_range : PySem.W.nsIn K mainGlobals "range" = some none)
    (b_isinstance : PySem.W.nsIn K mainGlobals "isinstance" = some none)
    (b_tuple : PySem.W.nsIn K mainGlobals "tuple" = some none)
    (b_list : PySem.W.nsIn K mainGlobals "list" = some none)
    (b_sorted : PySem.W.nsIn K mainGlobals "sorted" = some none)
    (b_sum : PySem.W.nsIn K mainGlobals "sum" = some none)
    (b_max : PySem.W.nsIn K mainGlobals "max" = some none)
    (b_enumerate : PySem.W.nsIn K mainGlobals "enumerate" = some none)
    (b_zip : PySem.W.nsIn K mainGlobals "zip" = some none)
    (b_all : PySem.W.nsIn K mainGlobals "all" = some none)
    (b_bool : PySem.W.nsIn K mainGlobals "bool" = some none)
    (b_str : PySem.W.nsIn K mainGlobals "str" = some none)
    (qW : PySem.W.nsIn K mainGlobals "MOST_WORTHS" = some (some (.int 8 tW)))
    (qR : PySem.W.nsIn K mainGlobals "MOST_ROWS" = some (some (.int 40 tR)))
    (qN : PySem.W.nsIn K mainGlobals "MOST_NUMBER" = some (some (.int 1000000 tN)))
    (q7 : PySem.W.nsIn K mainGlobals "MOST_FIGURES" = some (some (.int 7 t7)))
    (qI : PySem.W.nsIn K mainGlobals "FIGURES" = some (some (.str "0123456789" tI)))
    (pD : PySem.W.nsIn K mainGlobals "PARTS" = some (some (.ref d)))
    (pL : K.lookup d = some ⟨.type "dict", none, .dict es n, #[]⟩)
    (pK : PySem.W.KeysLit w.params es.toList)
    (pE : es.toList.map (·.key) = [.str "load" zz1, .str "add" zz2, .str "take" zz3, .str "store" zz4, .str "say" zz5, .str "test" zz6, .str "stop" zz7])
    (w_load : PySem.W.nsIn K d "load" = some (some (.ref p_load)))
    (u_load : K.lookup p_load = some ⟨.type "tuple", pd_load, .seq its_load pn_load, ps_load⟩)
    (v_load : Vals ((["worth", "next"] : List Str).map V.str) its_load.toList)
    (w_add : PySem.W.nsIn K d "add" = some (some (.ref p_add)))
    (u_add : K.lookup p_add = some ⟨.type "tuple", pd_add, .seq its_add pn_add, ps_add⟩)
    (v_add : Vals ((["worth", "next"] : List Str).map V.str) its_add.toList)
    (w_take : PySem.W.nsIn K d "take" = some (some (.ref p_take)))
    (u_take : K.lookup p_take = some ⟨.type "tuple", pd_take, .seq its_take pn_take, ps_take⟩)
    (v_take : Vals ((["worth", "next"] : List Str).map V.str) its_take.toList)
    (w_store : PySem.W.nsIn K d "store" = some (some (.ref p_store)))
    (u_store : K.lookup p_store = some ⟨.type "tuple", pd_store, .seq its_store pn_store, ps_store⟩)
    (v_store : Vals ((["worth", "next"] : List Str).map V.str) its_store.toList)
    (w_say : PySem.W.nsIn K d "say" = some (some (.ref p_say)))
    (u_say : K.lookup p_say = some ⟨.type "tuple", pd_say, .seq its_say pn_say, ps_say⟩)
    (v_say : Vals ((["next"] : List Str).map V.str) its_say.toList)
    (w_test : PySem.W.nsIn K d "test" = some (some (.ref p_test)))
    (u_test : K.lookup p_test = some ⟨.type "tuple", pd_test, .seq its_test pn_test, ps_test⟩)
    (v_test : Vals ((["next", "next"] : List Str).map V.str) its_test.toList)
    (w_stop : PySem.W.nsIn K d "stop" = some (some (.ref p_stop)))
    (u_stop : K.lookup p_stop = some ⟨.type "tuple", pd_stop, .seq its_stop pn_stop, ps_stop⟩)
    (v_stop : Vals (([] : List Str).map V.str) its_stop.toList)
    (lo : (d == sysModules) = false)
    (own : LamX.OwnTab K fa h) :
    ∃ (fd : FuncData) (cs : List (Addr × Addr)) (sp : Sp), (∀ p ∈ cs, h.get? p.2 = some { cls := .none, data := .fields #[] }) ∧ (∀ p ∈ cs, K.lookup p.2 = none) ∧ (∀ p ∈ cs, PySem.W.CodeHd h p.1 p.2) ∧ (∀ (s : Shared) (u : Value), BindsTo s fd ⟨[u], []⟩ [("_law_script", u)]) ∧
    (∀ (H : Hp) (a : Addr) (ns : List Int), ns.length ≤ 63 → (∀ z ∈ ns, Builtin.Int.intBits z ≤ 1048576) → (∀ p ∈ cs, H p.2 = some (.tbl #[])) → SqL K H a (ns.map V.int) → sp [.ref a] H (fun v _ => v = .bl true) fun _ _ _ => False) ∧
    ∀ base : Heap, K.In base → base.Ns mainGlobals mg → (∀ p ∈ cs, LamX.TabB base mg p.1 p.2) → FnOk P w K mg base CX0 9 fa fd ["_law_script"] sp := by
  have e := hfa.symm.trans (PySem.W.mg_of X G nf25)
  cases e
  have Ff0 := fun_mk (st := sNext) lf0 cf0 kf0
  have bf0 := Ff0.binds (ps := ["_law_dice_here", "_law_many"]) fun _ _ _ _ _ _ us hl => match us, hl with | [_, _], _ => rfl
  let cNext : Fd K mg "_law_next" sNext ["_law_dice_here", "_law_many"] := ⟨_, _, Ff0, bf0, PySem.W.mg_of X G nf0⟩
  have Ff1 := fun_mk (st := sStraight) lf1 cf1 kf1
  have bf1 := Ff1.binds (ps := ["_law_d", "_law_at"]) fun _ _ _ _ _ _ us hl => match us, hl with | [_, _], _ => rfl
  let cStraight : Fd K mg "_law_straight" sStraight ["_law_d", "_law_at"] := ⟨_, _, Ff1, bf1, PySem.W.mg_of X G nf1⟩
  have Ff2 := fun_mk (st := sFork) lf2 cf2 kf2
  have bf2 := Ff2.binds (ps := ["_law_d", "_law_at"]) fun _ _ _ _ _ _ us hl => match us, hl with | [_, _], _ => rfl
  let cFork : Fd K mg "_law_fork" sFork ["_law_d", "_law_at"] := ⟨_, _, Ff2, bf2, PySem.W.mg_of X G nf2⟩
  have Ff3 := fun_mk (st := sBody) lf3 cf3 kf3
  have bf3 := Ff3.binds (ps := ["_law_d", "_law_at", "_law_deep"]) fun _ _ _ _ _ _ us hl => match us, hl with | [_, _, _], _ => rfl
  let cBody : Fd K mg "_law_body" sBody ["_law_d", "_law_at", "_law_deep"] := ⟨_, _, Ff3, bf3, PySem.W.mg_of X G nf3⟩
  have Ff4 := fun_mk (st := sMixed) lf4 cf4 kf4
  have bf4 := Ff4.binds (ps := ["_law_d", "_law_program"]) fun _ _ _ _ _ _ us hl => match us, hl with | [_, _], _ => rfl
  let cMixed : Fd K mg "_law_mixed" sMixed ["_law_d", "_law_program"] := ⟨_, _, Ff4, bf4, PySem.W.mg_of X G nf4⟩
  have Ff5 := fun_mk (st := sStopping) lf5 cf5 kf5
  have bf5 := Ff5.binds (ps := ["_law_d", "_law_deep"]) fun _ _ _ _ _ _ us hl => match us, hl with | [_, _], _ => rfl
  let cStopping : Fd K mg "_law_stopping" sStopping ["_law_d", "_law_deep"] := ⟨_, _, Ff5, bf5, PySem.W.mg_of X G nf5⟩
  have Ff6 := fun_mk (st := sAny) lf6 cf6 kf6
  have bf6 := Ff6.binds (ps := ["_law_d"]) fun _ _ _ _ _ _ us hl => match us, hl with | [_], _ => rfl
  let cAny : Fd K mg "_law_any" sAny ["_law_d"] := ⟨_, _, Ff6, bf6, PySem.W.mg_of X G nf6⟩
  have Ff7 := fun_mk (st := sIsNumber) lf7 cf7 kf7
  have bf7 := Ff7.binds (ps := ["thing"]) fun _ _ _ _ _ _ us hl => match us, hl with | [_], _ => rfl
  let cIsNumber : Fd K mg "is_number" sIsNumber ["thing"] := ⟨_, _, Ff7, bf7, PySem.W.mg_of X G nf7⟩
  have Ff8 := fun_mk (st := sIsBetween) lf8 cf8 kf8
  have bf8 := Ff8.binds (ps := ["thing", "low", "high"]) fun _ _ _ _ _ _ us hl => match us, hl with | [_, _, _], _ => rfl
  let cIsBetween : Fd K mg "is_between" sIsBetween ["thing", "low", "high"] := ⟨_, _, Ff8, bf8, PySem.W.mg_of X G nf8⟩
  have Ff9 := fun_mk (st := sPart) lf9 cf9 kf9
  have bf9 := Ff9.binds (ps := ["whole", "at"]) fun _ _ _ _ _ _ us hl => match us, hl with | [_, _], _ => rfl
  let cPart : Fd K mg "part" sPart ["whole", "at"] := ⟨_, _, Ff9, bf9, PySem.W.mg_of X G nf9⟩
  have Ff10 := fun_mk (st := sCheckWorths) lf10 cf10 kf10
  have bf10 := Ff10.binds (ps := ["worths"]) fun _ _ _ _ _ _ us hl => match us, hl with | [_], _ => rfl
  let cCheckWorths : Fd K mg "check_worths" sCheckWorths ["worths"] := ⟨_, _, Ff10, bf10, PySem.W.mg_of X G nf10⟩
  have Ff11 := fun_mk (st := sHasShape) lf11 cf11 kf11
  have bf11 := Ff11.binds (ps := ["row"]) fun _ _ _ _ _ _ us hl => match us, hl with | [_], _ => rfl
  let cHasShape : Fd K mg "has_shape" sHasShape ["row"] := ⟨_, _, Ff11, bf11, PySem.W.mg_of X G nf11⟩
  have Ff12 := fun_mk (st := sCheckRow) lf12 cf12 kf12
  have bf12 := Ff12.binds (ps := ["row", "number", "counts"]) fun _ _ _ _ _ _ us hl => match us, hl with | [_, _, _], _ => rfl
  let cCheckRow : Fd K mg "check_row" sCheckRow ["row", "number", "counts"] := ⟨_, _, Ff12, bf12, PySem.W.mg_of X G nf12⟩
  have Ff13 := fun_mk (st := sCheckProgram) lf13 cf13 kf13
  have bf13 := Ff13.binds (ps := ["program"]) fun _ _ _ _ _ _ us hl => match us, hl with | [_], _ => rfl
  let cCheckProgram : Fd K mg "check_program" sCheckProgram ["program"] := ⟨_, _, Ff13, bf13, PySem.W.mg_of X G nf13⟩
  have Ff14 := fun_mk (st := sWn) lf14 cf14 kf14
  have bf14 := Ff14.binds (ps := ["word"]) fun _ _ _ _ _ _ us hl => match us, hl with | [_], _ => rfl
  let cWn : Fd K mg "is_written_number" sWn ["word"] := ⟨_, _, Ff14, bf14, PySem.W.mg_of X G nf14⟩
  have Ff15 := fun_mk (st := sIl) lf15 cf15 kf15
  have bf15 := Ff15.binds (ps := ["words", "number"]) fun _ _ _ _ _ _ us hl => match us, hl with | [_, _], _ => rfl
  let cIl : Fd K mg "is_line" sIl ["words", "number"] := ⟨_, _, Ff15, bf15, PySem.W.mg_of X G nf15⟩
  have Ff16 := fun_mk (st := sRo) lf16 cf16 kf16
  have bf16 := Ff16.binds (ps := ["words"]) fun _ _ _ _ _ _ us hl => match us, hl with | [_], _ => rfl
  let cRo : Fd K mg "row_of" sRo ["words"] := ⟨_, _, Ff16, bf16, PySem.W.mg_of X G nf16⟩
  have Ff17 := fun_mk (st := sWr) lf17 cf17 kf17
  have bf17 := Ff17.binds (ps := ["program"]) fun _ _ _ _ _ _ us hl => match us, hl with | [_], _ => rfl
  let cWr : Fd K mg "written" sWr ["program"] := ⟨_, _, Ff17, bf17, PySem.W.mg_of X G nf17⟩
  have Ff18 := fun_mk (st := sRd) lf18 cf18 kf18
  have bf18 := Ff18.binds (ps := ["text"]) fun _ _ _ _ _ _ us hl => match us, hl with | [_], _ => rfl
  let cRd : Fd K mg "read" sRd ["text"] := ⟨_, _, Ff18, bf18, PySem.W.mg_of X G nf18⟩
  have Ff19 := fun_mk (st := sLNum) lf19 cf19 kf19
  have bf19 := Ff19.binds (ps := ["_law_word"]) fun _ _ _ _ _ _ us hl => match us, hl with | [_], _ => rfl
  let cLNum : Fd K mg "_law_number" sLNum ["_law_word"] := ⟨_, _, Ff19, bf19, PySem.W.mg_of X G nf19⟩
  have Ff20 := fun_mk (st := sLDue) lf20 cf20 kf20
  have bf20 := Ff20.binds (ps := ["_law_text"]) fun _ _ _ _ _ _ us hl => match us, hl with | [_], _ => rfl
  let cLDue : Fd K mg "_law_due" sLDue ["_law_text"] := ⟨_, _, Ff20, bf20, PySem.W.mg_of X G nf20⟩
  have Ff21 := fun_mk (st := sChanged) lf21 cf21 kf21
  have bf21 := Ff21.binds (ps := ["_law_d", "_law_text"]) fun _ _ _ _ _ _ us hl => match us, hl with | [_, _], _ => rfl
  let cChanged : Fd K mg "_law_changed" sChanged ["_law_d", "_law_text"] := ⟨_, _, Ff21, bf21, PySem.W.mg_of X G nf21⟩
  have Ff22 := fun_mk (st := sDice) lf22 cf22 kf22
  have bf22 := Ff22.binds (ps := ["_law_script"]) fun _ _ _ _ _ _ us hl => match us, hl with | [_], _ => rfl
  let cDice : Fd K mg "_law_dice" sDice ["_law_script"] := ⟨_, _, Ff22, bf22, PySem.W.mg_of X G nf22⟩
  have Ff23 := fun_mk (st := sLike) lf23 cf23 kf23
  have bf23 := Ff23.binds (ps := ["_law_found", "_law_due_here"]) fun _ _ _ _ _ _ us hl => match us, hl with | [_, _], _ => rfl
  let cLike : Fd K mg "_law_like" sLike ["_law_found", "_law_due_here"] := ⟨_, _, Ff23, bf23, PySem.W.mg_of X G nf23⟩
  have Ff24 := fun_mk (st := sTold) lf24 cf24 kf24
  have bf24 := Ff24.binds (ps := ["_law_work"]) fun _ _ _ _ _ _ us hl => match us, hl with | [_], _ => rfl
  let cTold : Fd K mg "_law_told" sTold ["_law_work"] := ⟨_, _, Ff24, bf24, PySem.W.mg_of X G nf24⟩
  have Ff25 := fun_mk (st := sLaw) lf25 cf25 kf25
  have bf25 := Ff25.binds (ps := ["_law_script"]) fun _ _ _ _ _ _ us hl => match us, hl with | [_], _ => rfl
  have T : Bt mg := ⟨PySem.W.mg_none_of X G b_len, PySem.W.mg_none_of X G b_int, PySem.W.mg_none_of X G b_range, PySem.W.mg_none_of X G b_isinstance, PySem.W.mg_none_of X G b_tuple, PySem.W.mg_none_of X G b_list, PySem.W.mg_none_of X G b_sorted, PySem.W.mg_none_of X G b_sum, PySem.W.mg_none_of X G b_max, PySem.W.mg_none_of X G b_enumerate, PySem.W.mg_none_of X G b_zip, PySem.W.mg_none_of X G b_all, PySem.W.mg_none_of X G b_bool, PySem.W.mg_none_of X G b_str⟩
  let Cc : Cn mg := ⟨_, _, _, PySem.W.mg_of X G qW, PySem.W.mg_of X G qR, PySem.W.mg_of X G qN⟩
  let CX : Cx7 mg := ⟨_, PySem.W.mg_of X G q7⟩
  let CI : Ci mg := ⟨_, PySem.W.mg_of X G qI⟩
  let E : Er mg := ⟨_, _, _, _, _, _, _, _, _, PySem.W.mg_of X G mBP, PySem.W.mg_of X G mBL, PySem.W.mg_of X G mBF, PySem.W.mg_of X G mBG, PySem.W.mg_of X G mBE, PySem.W.mg_of X G mTM_, PySem.W.mg_of X G mOV, PySem.W.mg_of X G mBT, PySem.W.mg_of X G mDE, PySem.W.mg_none_of X G b_ValueError⟩
  have DEK : DeK K mg E.DE := ⟨E.mDE, de_sp, tDE, de_rd, de_fi⟩
  have FxBP := fun_mk (st := sBPInit) lxBP cxBP kxBP
  have bxBP := FxBP.binds (ps := ["self", "row", "why"]) fun _ _ _ _ _ _ us hl => match us, hl with | [_, _, _], _ => rfl
  have JBP : ErI K mg "BadProgram" "BadProgram.__init__" eBP sBPInit ["self", "row", "why"] := ⟨_, _, FxBP, bxBP, nxBP, tyxBP, ⟨BP_cl, BP_sa, BP_hs, BP_rt, BP_rk⟩, PySem.W.mg_of X G mBP⟩
  have KFBP : KnF K E eBP 0 := ⟨⟨BP_hg, BP_hk, BP_hs, BP_hd, BP_ha, BP_hn, BP_ht, BP_hm⟩, exm_sub bDE iDE tDE BP_sDE, kit_type (by decide +kernel) BP_sVE, kit_self, kit_no BP_n1 iBL tBL BP_s1, kit_no BP_n2 iBF tBF BP_s2, kit_no BP_n3 iBG tBG BP_s3, kit_no BP_n4 iBE tBE BP_s4, kit_no BP_n5 iTM_ tTM_ BP_s5, kit_no BP_n6 iOV tOV BP_s6, kit_no BP_n7 iBT tBT BP_s7, by decide, ⟨BP_hg, BP_hk, BP_hs, BP_hd⟩, BP_wrow, BP_wwhy, BP_wat, BP_wline⟩
  have FxBT := fun_mk (st := sBTInit) lxBT cxBT kxBT
  have bxBT := FxBT.binds (ps := ["self", "line"]) fun _ _ _ _ _ _ us hl => match us, hl with | [_, _], _ => rfl
  have JBT : ErI K mg "BadText" "BadText.__init__" eBT sBTInit ["self", "line"] := ⟨_, _, FxBT, bxBT, nxBT, tyxBT, ⟨BT_cl, BT_sa, BT_hs, BT_rt, BT_rk⟩, PySem.W.mg_of X G mBT⟩
  have KFBT : KnF K E eBT 7 := ⟨⟨BT_hg, BT_hk, BT_hs, BT_hd, BT_ha, BT_hn, BT_ht, BT_hm⟩, exm_sub bDE iDE tDE BT_sDE, kit_type (by decide +kernel) BT_sVE, kit_no BT_n0 iBP tBP BT_s0, kit_no BT_n1 iBL tBL BT_s1, kit_no BT_n2 iBF tBF BT_s2, kit_no BT_n3 iBG tBG BT_s3, kit_no BT_n4 iBE tBE BT_s4, kit_no BT_n5 iTM_ tTM_ BT_s5, kit_no BT_n6 iOV tOV BT_s6, kit_self, by decide, ⟨BT_hg, BT_hk, BT_hs, BT_hd⟩, BT_wrow, BT_wwhy, BT_wat, BT_wline⟩
  let Z : Pt K w mg := ⟨d, es, n, PySem.W.mg_of X G pD, ⟨pL, pK, lo⟩, fun r => by
    cases r with
    | load _ _ => exact ⟨p_load, w_load, fun H => tup_lit u_load v_load (by show 2 ≤ 1000; decide)⟩
    | add _ _ => exact ⟨p_add, w_add, fun H => tup_lit u_add v_add (by show 2 ≤ 1000; decide)⟩
    | take _ _ => exact ⟨p_take, w_take, fun H => tup_lit u_take v_take (by show 2 ≤ 1000; decide)⟩
    | store _ _ => exact ⟨p_store, w_store, fun H => tup_lit u_store v_store (by show 2 ≤ 1000; decide)⟩
    | say _ => exact ⟨p_say, w_say, fun H => tup_lit u_say v_say (by show 1 ≤ 1000; decide)⟩
    | test _ _ => exact ⟨p_test, w_test, fun H => tup_lit u_test v_test (by show 2 ≤ 1000; decide)⟩
    | stop  => exact ⟨p_stop, w_stop, fun H => tup_lit u_stop v_stop (by show 0 ≤ 1000; decide)⟩⟩
  have O : PtO K Z := ⟨fun x hx => ns_none pL pE hx⟩
  have hA := fun base : Heap => ok_any (P := P) (w := w) (base := base) cAny cStopping cMixed cBody cFork cStraight cNext T
  have hCP := fun base : Heap => ok_checkProgram (P := P) (w := w) (base := base) cCheckProgram cCheckRow cCheckWorths cHasShape cPart cIsBetween cIsNumber T Cc Z
  have hWr := fun base : Heap => ok_written (P := P) (w := w) (base := base) cWr cCheckProgram T (hCP base)
  have hRd := fun base : Heap => ok_read (P := P) (w := w) (base := base) cRd cCheckProgram cIl cRo cWn T Z CX CI (hCP base)
  have hBPi := fun base : Heap => ok_BPInit (P := P) (w := w) (base := base) JBP DEK BP_wrow BP_wwhy
  have hBTi := fun base : Heap => ok_BTInit (P := P) (w := w) (base := base) JBT DEK BT_wline
  have hCPD := fun base : Heap => ok_checkProgramD (P := P) (w := w) (base := base) JBP (hBPi base) cCheckProgram cCheckRow cCheckWorths cHasShape cPart cIsBetween cIsNumber T Cc Z O
  have hWrD := fun base : Heap => ok_writtenD (P := P) (w := w) (base := base) cWr cCheckProgram T (hCPD base)
  have hRdD := fun base : Heap => ok_readD (P := P) (w := w) (base := base) JBT (hBTi base) cRd cCheckProgram cIl cRo cWn T Z O CX CI (hCPD base)
  have hLD := fun base : Heap => ok_ldue (P := P) (w := w) (base := base) cLDue cLNum T
  have hChg := fun base : Heap => ok_changed (P := P) (w := w) (base := base) cChanged cNext T
  refine ⟨_, [(cc, tP)], spLaw K tP, fun p hp => ?_, fun p hp => ?_, fun p hp => ?_, ?_, fun H a ns hl _ hT hS => ⟨a, ns, rfl, hS, hl, hT _ (List.mem_singleton.mpr rfl), fun _ => rfl⟩, fun base _ _ hT => ok_law lf25 cf25 (hT _ (List.mem_singleton.mpr rfl)) cDice cNext cAny cLike cChanged cLDue cTold cWr cRd T E KFBP KFBT (hA base) (hWr base) (hRd base) (hWrD base) (hRdD base) (hChg base) (hLD base)⟩
  · rw [List.mem_singleton.mp hp]
    exact own cc tP _ _ _ _ _ _ lf25 rfl rfl cK c11
  · rw [List.mem_singleton.mp hp]
    exact nP
  · rw [List.mem_singleton.mp hp]
    exact ⟨_, vsc, _, _, _, _, _, _, _, X _ _ cK, rfl, rfl, c11, g11, g18, g7, g9, g10, ne_of_beq_false cP⟩
  · exact fun s v => .of_eq rfl
end DL
open PySem PySem.W PyProof.Rows in
set_option maxRecDepth 100000 in
set_option maxHeartbeats 0 in
theorem PySem.Challenge.cw_drumlay_k21_texts_that_are_none_holds : PySem.Challenge.rw_drumlay_k21_texts_that_are_none.Holds := by
  w_on; o_law; k_head; (case hw => w_witness2)
  k_fill
  refine LamX.walk_ofOwn (l := PySem.Challenge.rw_drumlay_k21_texts_that_are_none) (n := 63) (k := 9) (x := "_law_script") (CX := fun _ => L2.CX0) rfl (by decide) rfl ⟨rfl, by decide, by decide⟩ ?hrec (fun w h Y => PySem.W.km_in_of Y) ?F fun _ _ _ _ _ z => z
  case hrec => exact (by decide +kernel)
  case F =>
    intro w mg fa h Y KX G hmg own
    refine' DL.all_mk KX G hmg ?nf0 ?lf0 ?cf0 ?kf0 ?nf1 ?lf1 ?cf1 ?kf1 ?nf2 ?lf2 ?cf2 ?kf2 ?nf3 ?lf3 ?cf3 ?kf3 ?nf4 ?lf4 ?cf4 ?kf4 ?nf5 ?lf5 ?cf5 ?kf5 ?nf6 ?lf6 ?cf6 ?kf6 ?nf7 ?lf7 ?cf7 ?kf7 ?nf8 ?lf8 ?cf8 ?kf8 ?nf9 ?lf9 ?cf9 ?kf9 ?nf10 ?lf10 ?cf10 ?kf10 ?nf11 ?lf11 ?cf11 ?kf11 ?nf12 ?lf12 ?cf12 ?kf12 ?nf13 ?lf13 ?cf13 ?kf13 ?nf14 ?lf14 ?cf14 ?kf14 ?nf15 ?lf15 ?cf15 ?kf15 ?nf16 ?lf16 ?cf16 ?kf16 ?nf17 ?lf17 ?cf17 ?kf17 ?nf18 ?lf18 ?cf18 ?kf18 ?nf19 ?lf19 ?cf19 ?kf19 ?nf20 ?lf20 ?cf20 ?kf20 ?nf21 ?lf21 ?cf21 ?kf21 ?nf22 ?lf22 ?cf22 ?kf22 ?nf23 ?lf23 ?cf23 ?kf23 ?nf24 ?lf24 ?cf24 ?kf24 ?nf25 ?lf25 ?cf25 ?kf25 ?mBP ?mBL ?mBF ?mBG ?mBE ?mTM_ ?mOV ?mBT ?mDE ?b_ValueError ?iBP ?tBP ?iBL ?tBL ?iBF ?tBF ?iBG ?tBG ?iBE ?tBE ?iTM_ ?tTM_ ?iOV ?tOV ?iBT ?tBT ?iDE ?tDE ?bDE ?de_sp ?de_rd ?de_fi ?BP_hg ?BP_hk ?BP_hs ?BP_hd ?BP_ha ?BP_hn ?BP_ht ?BP_hm ?BP_sDE ?BP_sVE ?BP_s1 ?BP_s2 ?BP_s3 ?BP_s4 ?BP_s5 ?BP_s6 ?BP_s7 ?BP_n1 ?BP_n2 ?BP_n3 ?BP_n4 ?BP_n5 ?BP_n6 ?BP_n7 ?BP_sa ?BP_rk ?BP_rt ?BP_wrow ?BP_wwhy ?BP_wat ?BP_wline ?BP_cl ?nxBP ?tyxBP ?lxBP ?cxBP ?kxBP ?BT_hg ?BT_hk ?BT_hs ?BT_hd ?BT_ha ?BT_hn ?BT_ht ?BT_hm ?BT_sDE ?BT_sVE ?BT_s0 ?BT_s1 ?BT_s2 ?BT_s3 ?BT_s4 ?BT_s5 ?BT_s6 ?BT_n0 ?BT_n1 ?BT_n2 ?BT_n3 ?BT_n4 ?BT_n5 ?BT_n6 ?BT_sa ?BT_rk ?BT_rt ?BT_wrow ?BT_wwhy ?BT_wat ?BT_wline ?BT_cl ?nxBT ?tyxBT ?lxBT ?cxBT ?kxBT ?cK ?c11 ?g11 ?g18 ?g7 ?g9 ?g10 ?cP ?nP ?b_len ?b_int ?b_range ?b_isinstance ?b_tuple ?b_list ?b_sorted ?b_sum ?b_max ?b_enumerate ?b_zip ?b_all ?b_bool ?b_str ?qW ?qR ?qN ?q7 ?qI ?pD ?pL ?pK ?pE ?w_load ?u_load ?v_load ?w_add ?u_add ?v_add ?w_take ?u_take ?v_take ?w_store ?u_store ?v_store ?w_say ?u_say ?v_say ?w_test ?u_test ?v_test ?w_stop ?u_stop ?v_stop ?lo own
    (case nf0 => k_is)
    (case lf0 => k_is)
    (case cf0 => k_is)
    (case kf0 => k_is)
    (case nf1 => k_is)
    (case lf1 => k_is)
    (case cf1 => k_is)
    (case kf1 => k_is)
    (case nf2 => k_is)
    (case lf2 => k_is)
    (case cf2 => k_is)
    (case kf2 => k_is)
    (case nf3 => k_is)
    (case lf3 => k_is)
    (case cf3 => k_is)
    (case kf3 => k_is)
    (case nf4 => k_is)
    (case lf4 => k_is)
    (case cf4 => k_is)
    (case kf4 => k_is)
    (case nf5 => k_is)
    (case lf5 => k_is)
    (case cf5 => k_is)
    (case kf5 => k_is)
    (case nf6 => k_is)
    (case lf6 => k_is)
    (case cf6 => k_is)
    (case kf6 => k_is)
    (case nf7 => k_is)
    (case lf7 => k_is)
    (case cf7 => k_is)
    (case kf7 => k_is)
    (case nf8 => k_is)
    (case lf8 => k_is)
    (case cf8 => k_is)
    (case kf8 => k_is)
    (case nf9 => k_is)
    (case lf9 => k_is)
    (case cf9 => k_is)
    (case kf9 => k_is)
    (case nf10 => k_is)
    (case lf10 => k_is)
    (case cf10 => k_is)
    (case kf10 => k_is)
    (case nf11 => k_is)
    (case lf11 => k_is)
    (case cf11 => k_is)
    (case kf11 => k_is)
    (case nf12 => k_is)
    (case lf12 => k_is)
    (case cf12 => k_is)
    (case kf12 => k_is)
    (case nf13 => k_is)
    (case lf13 => k_is)
    (case cf13 => k_is)
    (case kf13 => k_is)
    (case nf14 => k_is)
    (case lf14 => k_is)
    (case cf14 => k_is)
    (case kf14 => k_is)
    (case nf15 => k_is)
    (case lf15 => k_is)
    (case cf15 => k_is)
    (case kf15 => k_is)
    (case nf16 => k_is)
    (case lf16 => k_is)
    (case cf16 => k_is)
    (case kf16 => k_is)
    (case nf17 => k_is)
    (case lf17 => k_is)
    (case cf17 => k_is)
    (case kf17 => k_is)
    (case nf18 => k_is)
    (case lf18 => k_is)
    (case cf18 => k_is)
    (case kf18 => k_is)
    (case nf19 => k_is)
    (case lf19 => k_is)
    (case cf19 => k_is)
    (case kf19 => k_is)
    (case nf20 => k_is)
    (case lf20 => k_is)
    (case cf20 => k_is)
    (case kf20 => k_is)
    (case nf21 => k_is)
    (case lf21 => k_is)
    (case cf21 => k_is)
    (case kf21 => k_is)
    (case nf22 => k_is)
    (case lf22 => k_is)
    (case cf22 => k_is)
    (case kf22 => k_is)
    (case nf23 => k_is)
    (case lf23 => k_is)
    (case cf23 => k_is)
    (case kf23 => k_is)
    (case nf24 => k_is)
    (case lf24 => k_is)
    (case cf24 => k_is)
    (case kf24 => k_is)
    (case nf25 => k_is)
    (case lf25 => k_is)
    (case cf25 => k_is)
    (case kf25 => k_is)
    (case mBP => k_is)
    (case mBL => k_is)
    (case mBF => k_is)
    (case mBG => k_is)
    (case mBE => k_is)
    (case mTM_ => k_is)
    (case mOV => k_is)
    (case mBT => k_is)
    (case mDE => k_is)
    (case b_ValueError => k_is)
    (case iBP => k_is)
    (case tBP => k_is)
    (case iBL => k_is)
    (case tBL => k_is)
    (case iBF => k_is)
    (case tBF => k_is)
    (case iBG => k_is)
    (case tBG => k_is)
    (case iBE => k_is)
    (case tBE => k_is)
    (case iTM_ => k_is)
    (case tTM_ => k_is)
    (case iOV => k_is)
    (case tOV => k_is)
    (case iBT => k_is)
    (case tBT => k_is)
    (case iDE => k_is)
    (case tDE => k_is)
    (case bDE => k_is)
    (case de_sp => k_is)
    (case de_rd => k_is)
    (case de_fi => k_is)
    (case BP_hg => k_is)
    (case BP_hk => k_is)
    (case BP_hs => k_is)
    (case BP_hd => k_is)
    (case BP_ha => k_is)
    (case BP_hn => k_is)
    (case BP_ht => k_is)
    (case BP_hm => k_is)
    (case BP_sDE => k_is)
    (case BP_sVE => k_is)
    (case BP_s1 => k_is)
    (case BP_s2 => k_is)
    (case BP_s3 => k_is)
    (case BP_s4 => k_is)
    (case BP_s5 => k_is)
    (case BP_s6 => k_is)
    (case BP_s7 => k_is)
    (case BP_n1 => decide)
    (case BP_n2 => decide)
    (case BP_n3 => decide)
    (case BP_n4 => decide)
    (case BP_n5 => decide)
    (case BP_n6 => decide)
    (case BP_n7 => decide)
    (case BP_sa => k_is)
    (case BP_rk => k_is)
    (case BP_rt => k_is)
    (case BP_wrow => k_is)
    (case BP_wwhy => k_is)
    (case BP_wat => k_is)
    (case BP_wline => k_is)
    (case BP_cl => exact ⟨_, _, _, _, _, _, _, _, _, _, _, _, _, _, _, rfl, rfl⟩)
    (case nxBP => k_is)
    (case tyxBP => k_is)
    (case lxBP => k_is)
    (case cxBP => k_is)
    (case kxBP => k_is)
    (case BT_hg => k_is)
    (case BT_hk => k_is)
    (case BT_hs => k_is)
    (case BT_hd => k_is)
    (case BT_ha => k_is)
    (case BT_hn => k_is)
    (case BT_ht => k_is)
    (case BT_hm => k_is)
    (case BT_sDE => k_is)
    (case BT_sVE => k_is)
    (case BT_s0 => k_is)
    (case BT_s1 => k_is)
    (case BT_s2 => k_is)
    (case BT_s3 => k_is)
    (case BT_s4 => k_is)
    (case BT_s5 => k_is)
    (case BT_s6 => k_is)
    (case BT_n0 => decide)
    (case BT_n1 => decide)
    (case BT_n2 => decide)
    (case BT_n3 => decide)
    (case BT_n4 => decide)
    (case BT_n5 => decide)
    (case BT_n6 => decide)
    (case BT_sa => k_is)
    (case BT_rk => k_is)
    (case BT_rt => k_is)
    (case BT_wrow => k_is)
    (case BT_wwhy => k_is)
    (case BT_wat => k_is)
    (case BT_wline => k_is)
    (case BT_cl => exact ⟨_, _, _, _, _, _, _, _, _, _, _, _, _, _, _, rfl, rfl⟩)
    (case nxBT => k_is)
    (case tyxBT => k_is)
    (case lxBT => k_is)
    (case cxBT => k_is)
    (case kxBT => k_is)
    (case cK => k_is)
    (case c11 => exact rfl)
    (case g11 => exact rfl)
    (case g18 => exact rfl)
    (case g7 => exact rfl)
    (case g9 => exact rfl)
    (case g10 => exact rfl)
    (case cP => decide)
    (case nP => first | k_is | rfl | decide +kernel)
    (case b_len => k_is)
    (case b_int => k_is)
    (case b_range => k_is)
    (case b_isinstance => k_is)
    (case b_tuple => k_is)
    (case b_list => k_is)
    (case b_sorted => k_is)
    (case b_sum => k_is)
    (case b_max => k_is)
    (case b_enumerate => k_is)
    (case b_zip => k_is)
    (case b_all => k_is)
    (case b_bool => k_is)
    (case b_str => k_is)
    (case qW => k_is)
    (case qR => k_is)
    (case qN => k_is)
    (case q7 => k_is)
    (case qI => k_is)
    (case pD => k_is)
    (case pL => k_is)
    (case pK => k_keys)
    (case pE => exact rfl)
    (case w_load => k_is)
    (case u_load => k_is)
    (case v_load => exact (.cons ⟨_, rfl⟩ (.cons ⟨_, rfl⟩ .nil)))
    (case w_add => k_is)
    (case u_add => k_is)
    (case v_add => exact (.cons ⟨_, rfl⟩ (.cons ⟨_, rfl⟩ .nil)))
    (case w_take => k_is)
    (case u_take => k_is)
    (case v_take => exact (.cons ⟨_, rfl⟩ (.cons ⟨_, rfl⟩ .nil)))
    (case w_store => k_is)
    (case u_store => k_is)
    (case v_store => exact (.cons ⟨_, rfl⟩ (.cons ⟨_, rfl⟩ .nil)))
    (case w_say => k_is)
    (case u_say => k_is)
    (case v_say => exact (.cons ⟨_, rfl⟩ .nil))
    (case w_test => k_is)
    (case u_test => k_is)
    (case v_test => exact (.cons ⟨_, rfl⟩ (.cons ⟨_, rfl⟩ .nil)))
    (case w_stop => k_is)
    (case u_stop => k_is)
    (case v_stop => exact .nil)
    (case lo => decide)
