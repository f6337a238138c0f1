import PyProof.Rows.All
import Wide.All
import OpenK.AllK
import Wide.FinOn
import HandS.ForMost
import HandS.Conv
import HandS.Zip
import HandS.TupAny
import HandS.IsInst
import HandS.SortRule
import HandS.DictTup
import HandS.WrittenGet
import PySem.Challenge.RW_drumlay_k13_loops
import KE.GoesEnum
import KE.GoesMore
import HandS.Strs
import HandS.SetFor
import HandS.SortInts
import HandS.ExcIs
import HandS.Lambda
import HandS.Defaults
import KE.KDflt
import HandS.ExcInit
import HandS.ExcField
import HandS.FStr
import PyProof.FitsInt
import PyProof.StrLaws
import HandS.WordsExc
import HandS.ExcOwn
import KE.SortData
import HandS.Deep
import HandS.Star
import KE.KDictZip
import PyProof.ListNew
import HandS.EndOwn
import KE.KStateDown
import HandS.Head0
import HandS.Head1
import HandS.Head2
import HandS.Head3
set_option Elab.async false
set_option linter.all false
set_option maxRecDepth 100000
set_option maxHeartbeats 4000000
namespace DL
open PySem L2
abbrev Frg := PySem.W.Frag
/-! ### heaps -/
theorem sz {n : Nat} (h : n ≤ 100000) : n ≤ sizeLine := Nat.le_trans h (by decide)
theorem szl {n : Nat} (h : n < 100000) : n < sizeLine := Nat.lt_of_lt_of_le h (by decide)
def But (d : Addr) (H H' : Hp) : Prop := ∀ a o, a ≠ d → H a = some o → H' a = some o
theorem But.refl (d : Addr) (H : Hp) : But d H H := fun _ _ _ h => h
theorem But.trans {d : Addr} {H H1 H2 : Hp} (a : But d H H1) (b : But d H1 H2) : But d H H2 := fun x o n h => b x o n (a x o n h)
theorem But.of {d : Addr} {H H' : Hp} (a : Same H H') : But d H H' := fun x o _ h => a x o h
abbrev Same1 := @L2.Same
theorem Same.new {H : Hp} {p : Addr} {o : HO} (h : H p = none) : Same H (upd H p o) := fun a u e => by
  rw [upd_ne (ne_of_none e h)]; exact e
theorem Same.mut {H H' : Hp} {p : Addr} {o : HO} (e : Same H H') (h : H p = none) : Same H (upd H' p o) := fun a u ha => by
  rw [upd_ne (ne_of_none ha h)]; exact e a u ha
theorem Same.get {H H' : Hp} (s : Same H H') {a : Addr} {o : HO} (h : H a = some o) : H' a = some o := s a o h
def DiceV (H : Hp) (d sa : Addr) : Prop := ∃ (i m r : Int), H d = some (.lst [.ref sa, .int i, .int m, .int r]) ∧ 0 ≤ i ∧ 0 ≤ m ∧ m < 2147483647
structure Ent (K : Frg) (H : Hp) (d sa : Addr) (ns : List Int) : Prop where
  dice : DiceV H d sa
  scr : SqL K H sa (ns.map V.int)
  len : ns.length ≤ 63
structure Dc (K : Frg) (H0 H : Hp) (d sa : Addr) (ns : List Int) : Prop where
  e0 : Ent K H0 d sa ns
  but : But d H0 H
  dice : DiceV H d sa
variable {K : Frg} {H0 H H' : Hp} {d sa : Addr} {ns : List Int}
theorem But.seq (b : But d H0 H) (dv : DiceV H0 d sa) (h : SqL K H0 sa (ns.map V.int)) : SqL K H sa (ns.map V.int) := by
  obtain ⟨i, m, r, z, _⟩ := dv
  rcases h with (h | ⟨o, h⟩) | h
  · refine .inl (.inl (b _ _ (fun e => ?_) h))
    subst e
    rw [z] at h
    have q : ([.ref sa, .int i, .int m, .int r] : List V) = ns.map V.int := by injection (Option.some.inj h)
    cases ns with
    | nil => cases q
    | cons x xs => have q2 := (List.cons.inj q).1; cases q2
  · refine .inl (.inr ⟨o, b _ _ (fun e => ?_) h⟩)
    subst e
    rw [z] at h; cases h
  · exact .inr h
theorem Dc.refl (e : Ent K H d sa ns) : Dc K H H d sa ns := ⟨e, But.refl _ _, e.dice⟩
theorem Dc.ent (c : Dc K H0 H d sa ns) : Ent K H d sa ns := ⟨c.dice, c.but.seq c.e0.dice c.e0.scr, c.e0.len⟩
theorem Dc.here (c : Dc K H0 H d sa ns) {p : Addr} (h : H p = none) : H0 p = none := by
  cases q : H0 p with
  | none => rfl
  | some o =>
    by_cases e : p = d
    · subst e
      obtain ⟨i, m, r, z, _⟩ := c.dice
      rw [z] at h; cases h
    · rw [c.but p o e q] at h; cases h
theorem Dc.ned (c : Dc K H0 H d sa ns) {p : Addr} (h : H0 p = none) : p ≠ d := fun e => by
  subst e
  obtain ⟨i, m, r, z, _⟩ := c.e0.dice
  rw [z] at h; cases h
theorem Dc.mut (c : Dc K H0 H d sa ns) {p : Addr} {o : HO} (h : H0 p = none) : Dc K H0 (upd H p o) d sa ns := by
  refine ⟨c.e0, fun a u n e => ?_, ?_⟩
  · rw [upd_ne (ne_of_none e h)]; exact c.but a u n e
  · obtain ⟨i, m, r, z, q⟩ := c.dice
    exact ⟨i, m, r, by rw [upd_ne (c.ned h).symm]; exact z, q⟩
theorem Dc.new (c : Dc K H0 H d sa ns) {p : Addr} {o : HO} (h : H p = none) : Dc K H0 (upd H p o) d sa ns := c.mut (c.here h)
theorem Dc.trans (c : Dc K H0 H d sa ns) (c2 : Dc K H H' d sa ns) : Dc K H0 H' d sa ns := ⟨c.e0, c.but.trans c2.but, c2.dice⟩
theorem Dc.same (c : Dc K H0 H d sa ns) (s : Same H H') : Dc K H0 H' d sa ns := by
  obtain ⟨i, m, r, z, q⟩ := c.dice
  exact ⟨c.e0, c.but.trans (But.of s), i, m, r, s _ _ z, q⟩
theorem Dc.roll (c : Dc K H0 H d sa ns) {i m r : Int} (h0 : 0 ≤ i) (h1 : 0 ≤ m) (h2 : m < 2147483647) : Dc K H0 (upd H d (.lst [.ref sa, .int i, .int m, .int r])) d sa ns :=
  ⟨c.e0, fun a u n e => by rw [upd_ne n]; exact c.but a u n e, ⟨i, m, r, upd_same, h0, h1, h2⟩⟩
def Kp (H H' : Hp) : Prop := ∀ a xs, H a = some (.tup xs) → H' a = some (.tup xs)
theorem Kp.refl (H : Hp) : Kp H H := fun _ _ h => h
theorem Kp.trans {H H1 H2 : Hp} (a : Kp H H1) (b : Kp H1 H2) : Kp H H2 := fun x o h => b x o (a x o h)
theorem Kp.same (s : Same H H') : Kp H H' := fun a xs h => s a _ h
theorem Kp.new {p : Addr} {o : HO} (h : H p = none) : Kp H (upd H p o) := Kp.same (Same.new h)
theorem Kp.lst {p : Addr} {o : HO} {ys : List V} (h : H p = some (.lst ys)) : Kp H (upd H p o) := fun a xs e => by
  rw [upd_ne (ne_of e h (by intro z; cases z))]; exact e
theorem Dc.kp (c : Dc K H0 H d sa ns) : Kp H0 H := fun a xs h => c.but a _ (by
  intro e; subst e
  obtain ⟨i, m, r, z, _⟩ := c.e0.dice
  rw [z] at h; cases h) h
@[elab_as_elim] theorem alloc {R : Hp → Prop} {H : Hp} {p : Addr} {o : HO} (hp : H p = none) (k : ∀ H', Same H H' → H' p = some o → R H') : R (upd H p o) := k _ (Same.new hp) upd_same
@[elab_as_elim] theorem change {R : Hp → Prop} {H : Hp} {p : Addr} {o : HO} (k : ∀ H', But p H H' → H' p = some o → R H') : R (upd H p o) := k _ (fun a u n e => by rw [upd_ne n]; exact e) upd_same
/-! ### one list read or written by place -/
theorem at0 {x : V} {xs : List V} : atI (x :: xs) 0 = some x := atI_nat (j := 0) rfl
theorem at1 {x y : V} {xs : List V} : atI (x :: y :: xs) 1 = some y := atI_nat (j := 1) rfl
theorem at2 {x y z : V} {xs : List V} : atI (x :: y :: z :: xs) 2 = some z := atI_nat (j := 2) rfl
theorem at3 {x y z u : V} {xs : List V} : atI (x :: y :: z :: u :: xs) 3 = some u := atI_nat (j := 3) rfl
theorem pg_tupK {X : Cx} {pos : Pos} (K : PySem.W.Frag) (hK : X.K = K) {es : List Expr} {k : Nat} {t : TGs} {n : Nat} (hc : X.calm = true) (h : PGs X es t)
    (hn : (assignEach es X.env).length = n := by rfl) (hst : (assignEach es X.env).findIdx? (·.1) = none := by rfl) : PG X (.Tuple es k pos) (gTup K n t) := hK ▸ pg_tup hc h hn hst
theorem upd_none {H : Hp} {p a : Addr} {o : HO} (h : upd H p o a = none) : H a = none := by
  by_cases e : a = p
  · subst e; rw [upd_same] at h; cases h
  · rwa [upd_ne e] at h
theorem range_elim {lo : Int} {n : Nat} {g : TG} {tb : TS} {D : Ends} {σ : L2.St} {H : Hp} (Pv : Nat → L2.St → Hp → Prop) (R : L2.St → Hp → Prop) (h0 : Pv 0 σ H) (key : ∀ σ H, R σ H → D.nx σ H)
    (hs : ∀ Nx : L2.St → Hp → Prop, (∀ σ H, R σ H → Nx σ H) → ∀ i σ H, i < n → Pv i σ H →
      g (.int (lo + i)) σ H fun σ2 H2 => tb { D with nx := Pv (i + 1), ct := Pv (i + 1), bk := Nx } σ2 H2) (hd : ∀ σ H, Pv n σ H → R σ H) :
    ∃ W : Nat → Nat → L2.St → Hp → Prop, (∃ m, W 0 m σ H) ∧ ∀ i m σ H, W i m σ H →
      ((Itr lo n).stop i H ∧ D.nx σ H) ∨ ((Itr lo n).go i H ∧ ∃ N : L2.St → Hp → Prop, (∀ σ' H', N σ' H' → ∃ m', m' < m ∧ W (i + 1) m' σ' H') ∧
        ∀ x H', (Itr lo n).yld i H x H' → g x σ H' fun σ2 H2 => tb { D with nx := N, ct := N, bk := D.nx } σ2 H2) := for_range Pv h0 (hs D.nx key) fun σ H h => key _ _ (hd _ _ h)
end DL
namespace DLR
open PySem PySem.Spec PyProof.Rows L2
/-! ### enumerate(a tuple) -/
def itO (a : Addr) : Obj := { cls := .type "tuple_iterator", data := .fields #[.ref a, .int 0 0] }
def enO (i : Addr) : Obj := { cls := .type "enumerate", data := .fields #[.none, .bool false, .ref i, rawInt 0, .none, .none] }
theorem made_enumT (a : Addr) (items : Array Value) :
    Meets (Builtin.«enumerate.__new__» ⟨[.type "enumerate", .ref a], []⟩) (fun _ R s => s.heap.IsTuple a items ∧
      R (.ok (.ret (.ref (s.heap.push (itO a)).objs.size))) { s with heap := (s.heap.push (itO a)).push (enO s.heap.objs.size) }) := by
  refine .of_wp fun prog w A R s h => ?_
  obtain ⟨hp, g, d, tk, os⟩ := s
  obtain ⟨h1, h⟩ := h
  have hs2 := sub_enumerate
  have it1 : ∀ {A' : Around} {E : Value → Shared → Prop} {Q : Value → Shared → Prop}, Q (.ref hp.objs.size) ⟨hp.push (itO a), g, d, tk, os⟩ →
      wpAny (model prog w) A' (pyIter (.ref a)) Q E ⟨hp, g, d, tk, os⟩ := fun q => (begins_tuple a items).iter prog w _ _ ⟨hp, g, d, tk, os⟩ _ h1 q
  wp_walk using it1
  refine wpAny_stack_any fun st => wpAny_pure ?_
  split
  · rename_i c _ _ _ _ _
    cases (c == Value.type "enumerate") <;> (wp_walk using it1; exact ⟨_, rfl, h⟩)
  · wp_walk using it1
    exact ⟨_, rfl, h⟩
section
variable {prog : Program} {w : World} {A : Around} {E : Value → Shared → Prop} {s : Shared}
theorem call_enumT {a : Addr} {items : Array Value} {Q : Value → Shared → Prop} (hT : s.heap.IsTuple a items)
    (h : ∀ h', IsEnum h' (s.heap.objs.size + 1) s.heap.objs.size 0 .none → h'.IsTupleIter s.heap.objs.size a 0 → (∀ b o, s.heap.get? b = some o → h'.get? b = some o) →
      Q (.ref (s.heap.objs.size + 1)) { s with heap := h' }) : wpAny (model prog w) A (call (.type "enumerate") [.ref a]) Q E s := by
  refine callType_new F.called_enumerate (by decide) (F.typeCall_enumerate_1 _) (F.newCall_enumerate_1 _)
    (fun obj => F.args_object_init_2 obj _) F.entry_enumerate_new (made_enumT a items) ⟨hT, ?_⟩
  have hz : (s.heap.push (itO a)).objs.size = s.heap.objs.size + 1 := Heap.size_push ..
  show _ ∧ _
  rw [hz]
  have he : IsEnum ((s.heap.push (itO a)).push (enO s.heap.objs.size)) (s.heap.objs.size + 1) s.heap.objs.size 0 .none := by
    have q := Heap.get?_push_size (s.heap.push (itO a)) (o := enO s.heap.objs.size) rfl
    rw [hz] at q
    exact q
  exact ⟨⟨_, he, rfl⟩, h _ he ⟨_, Heap.get?_push_of_some _ (Heap.get?_push_size _ rfl), rfl, rfl⟩
    fun b o x => Heap.get?_push_of_some _ (Heap.get?_push_of_some _ x)⟩
end
def IteT (K : PySem.W.Frag) (a : Addr) : It :=
  ⟨fun i H => ∃ (xs : List V) (x : V), SqT K H a xs ∧ xs[i]? = some x,
   fun i H v H' => ∃ T x, v = .ref T ∧ H T = none ∧ H' = upd H T (.tup [.int (i : Nat), x]) ∧ ∀ xs, SqT K H a xs → xs[i]? = some x,
   fun i H => ∃ xs : List V, SqT K H a xs ∧ xs.length ≤ i⟩
theorem turn_enumT {P : Program} {w : World} {K : PySem.W.Frag} {elts : List Expr} {kk : Nat} {tpos : Pos} (a e it : Addr) :
    Turn P w K (.Tuple elts kk tpos) (IteT K a) [e, it] e (fun i h => (∃ old, IsEnum h e it ((i : Nat) : Int) old) ∧ h.IsTupleIter it a i ∧ e ≠ it ∧ a ≠ e ∧ a ≠ it) where
  mem := by simp
  obj := fun i h st b hb => by
    obtain ⟨⟨old, he⟩, ⟨o, ho, hc, hd⟩, _⟩ := st
    rcases (show b = e ∨ b = it by simpa using hb) with z | z
    · rw [z]; exact ⟨_, he, fun v q => nomatch q⟩
    · rw [z]; exact ⟨o, ho, fun v q => by rw [hd] at q; cases q⟩
  keep := fun i h h' st k => let ⟨⟨old, he⟩, hi, z⟩ := st; ⟨⟨old, k e (by simp) _ he⟩, hi.at fun o q => k it (by simp) o q, z⟩
  item := by
    intro X hP hw hK hc i pins s σ H E I hf st hg
    subst hP hw hK
    obtain ⟨⟨old, he⟩, hit, hne, hae, hai⟩ := st
    obtain ⟨xs, x, hq, hx⟩ := hg
    obtain ⟨its, rv, p, hz⟩ := I.tuple hq
    obtain ⟨u, hu, ru⟩ := rv.get hx
    have hel : e < s.heap.objs.size := Heap.lt_size he
    have hil : it < s.heap.objs.size := by obtain ⟨_, q, _⟩ := hit; exact Heap.lt_size q
    have hlt : i < its.toArray.size := by
      have q := (List.getElem?_eq_some_iff.mp hu).1
      simpa using q
    refine wpAny_pyNext_enum_itemD (Draws.tuple (A := X.A.in1) (I.ok.hd hc) it a hai its.toArray) he ⟨hit, p⟩ hlt hne
      (by simp [hne, Ne.symm hae]) fun v h' tk hv ho hst' hT hsz hk => ?_
    have ev : v = u := by
      have q : its[i]? = some v := by simpa using hv
      rw [hu] at q
      exact (Option.some.inj q).symm
    subst ev
    refine ⟨_, rfl, wpAny_letOwnedTupleGo_enum (s := { s with heap := h', toks := tk + 1 }) ho fun h'' he' sb => ?_⟩
    have hT2 := (sb.2 _ (Nat.ne_of_gt hel)).trans hT
    have new : ObjOk X.prog X.w (upd H s.heap.objs.size (.tup [.int (i : Nat), x])) h'' s.heap.objs.size (.tup [.int (i : Nat), x]) :=
      ⟨by show 2 ≤ sizeLine; decide, [.int i tk, v], .cons ⟨_, rfl⟩ (.cons ru .nil), ⟨_, hT2, rfl, _, rfl⟩⟩
    have I1 : Inv X pins σ (upd H s.heap.objs.size (.tup [.int (i : Nat), x])) { s with heap := h'', toks := tk + 1 } :=
      I.turnedNew (ch := [e, it]) (fun b ob hb q =>
        (sb.2 b (fun z => hb (by simp [z]))).trans (hk b ob (fun z => hb (by simp [z])) (fun z => hb (by simp [z])) q)) hf (Nat.le_refl _) new
    refine ⟨.ref s.heap.objs.size, _, I1, rfl, ⟨_, x, rfl, I.hok.fresh (Nat.le_refl _), rfl, fun ys hy => by rw [I.tuple_inj hy hq]; exact hx⟩,
      ⟨⟨v, ?_⟩, hst'.1.at fun o q => (sb.2 it (Ne.symm hne)).trans q, hne, hae, hai⟩, fun b hb => ?_⟩
    · rw [show ((i + 1 : Nat) : Int) = (i : Int) + 1 by omega]
      exact he'
    · have hb' : b < s.heap.objs.size := by
        rcases (show b = e ∨ b = it by simpa using hb) with z | z
        · rw [z]; exact hel
        · rw [z]; exact hil
      rw [upd_ne (Nat.ne_of_lt hb')]
      exact (hf b hb).1
  done := by
    intro X hP hw hK hc i pins s σ H E I hf st hg
    subst hP hw hK
    obtain ⟨⟨old, he⟩, hit, hne, hae, hai⟩ := st
    obtain ⟨xs, hq, hx⟩ := hg
    obtain ⟨its, rv, p, hz⟩ := I.tuple hq
    obtain ⟨f0, f1, f2, f3, f4, f5⟩ := hf it (by simp)
    have hl := rv.length
    have hnone : its.toArray[i]? = none := by simp; omega
    have D : Draws X.prog X.w X.A.in1 it [it, a] 0 (fun _ _ => False) (fun _ h => h.IsTupleIter it a i ∧ h.IsTuple a its.toArray) :=
      { live := fun _ _ st => let ⟨o, ho, _⟩ := st.1; ⟨o, ho⟩
        frame := fun _ _ _ st hk => ⟨st.1.at fun o e => hk it (by simp) o e, st.2.at fun o e => hk a (by simp) o e⟩
        item := fun i s Q E hi => absurd hi (Nat.not_lt_zero _)
        done := fun s Q E st hE => wpAny_nextOf_tuple_end (I.ok.hd hc) st.1 st.2 hnone hE }
    exact wpAny_pyNext_enum_endD D he ⟨hit, p⟩ fun h' eb => ⟨rfl, I.turned (t' := s.toks) (fun b o hb q => eb b o hb q) f0 f1 f3 f4 f5⟩
  self := fun A i s Q E st h => let ⟨⟨_, he⟩, _⟩ := st; wpAny_pyIter_enum he h
def iEnumT (K : PySem.W.Frag) (ta : TA) : TI := fun σ H R => ta σ H fun vs H1 => ∃ a xs, vs = [.ref a] ∧ SqT K H1 a xs ∧ R (IteT K a) H1
theorem pi_enumT {X : Cx} {e : Expr} {ta : TA} {p pos tpos : Pos} {elts : List Expr} {kk : Nat} (hg : Gl X "enumerate") (hm : X.mg "enumerate" = none) (ha : PA X [e] ta)
    (hs : starEach [e] X.env = [(false, eval e X.env)] := by rfl) : PI X (.Tuple elts kk tpos) (.Call (.Name "enumerate" p) [e] [] pos) (iEnumT X.K ta) := by
  refine ⟨fun pins s σ H R I h => ?_⟩
  refine Call_ (ld_blt I hg hm boot_enumerate (PyProof.Rows.callWith_type1 (thn (ha.run pos pins s σ H _ I h) fun us s1 ⟨vs, H1, I1, r1, q1⟩ => ?_) hs rfl))
  obtain ⟨a, xs, ex, hq, q⟩ := q1
  subst ex
  cases r1 with
  | cons r rr =>
    cases rr
    cases r
    obtain ⟨its, rv, p', hz⟩ := I1.tuple hq
    have hal : a < s1.heap.objs.size := by obtain ⟨o, q, _⟩ := p'; exact Heap.lt_size q
    refine call_enumT p' fun h' he hit hk => wpAny_pyIter_enum he ?_
    have I2 : Inv X pins σ H1 { s1 with heap := h' } := I1.kept (t' := s1.toks) hk
    refine ⟨s1.heap.objs.size + 1, [s1.heap.objs.size + 1, s1.heap.objs.size], _, _, H1, rfl, I2, turn_enumT a (s1.heap.objs.size + 1) s1.heap.objs.size,
      ⟨⟨.none, he⟩, hit, Nat.succ_ne_self _, Nat.ne_of_lt (Nat.lt_succ_of_lt hal), Nat.ne_of_lt hal⟩, fun b hb => ?_, q⟩
    have hle : s1.heap.objs.size ≤ b := by
      rcases (show b = s1.heap.objs.size + 1 ∨ b = s1.heap.objs.size by simpa using hb) with z | z
      · rw [z]; exact Nat.le_succ _
      · rw [z]; exact Nat.le_refl _
    exact I1.fpOk hle (I1.hok.fresh hle)
theorem for_enumT {K : PySem.W.Frag} {a : Addr} {xs : List V} {g : TG} {tb : TS} {D : Ends} {σ : L2.St} {H : Hp} (Pv : Nat → L2.St → Hp → Prop) (h0 : Pv 0 σ H) (hq : ∀ i σ H, Pv i σ H → SqT K H a xs)
    (hs : ∀ i x T σ H, xs[i]? = some x → Pv i σ H → H T = none → g (.ref T) σ (upd H T (.tup [.int (i : Nat), x])) fun σ2 H2 => tb { D with nx := Pv (i + 1), ct := Pv (i + 1), bk := D.nx } σ2 H2)
    (hd : ∀ σ H, Pv xs.length σ H → D.nx σ H) :
    ∃ W : Nat → Nat → L2.St → Hp → Prop, (∃ m, W 0 m σ H) ∧ ∀ i m σ H, W i m σ H →
      ((IteT K a).stop i H ∧ D.nx σ H) ∨ ((IteT K a).go i H ∧ ∃ N : L2.St → Hp → Prop, (∀ σ' H', N σ' H' → ∃ m', m' < m ∧ W (i + 1) m' σ' H') ∧ ∀ x H', (IteT K a).yld i H x H' → g x σ H' fun σ2 H2 => tb { D with nx := N, ct := N, bk := D.nx } σ2 H2) := by
  refine ⟨fun i m σ H => m = xs.length - i ∧ i ≤ xs.length ∧ Pv i σ H, ⟨xs.length, rfl, Nat.zero_le _, h0⟩, ?_⟩
  rintro i m σ H ⟨rfl, hi, p⟩
  have qx := hq i σ H p
  by_cases hlt : i < xs.length
  · refine .inr ⟨⟨xs, _, qx, List.getElem?_eq_getElem hlt⟩, Pv (i + 1), fun σ' H' p' => ⟨_, by omega, rfl, hlt, p'⟩, fun v H' y => ?_⟩
    obtain ⟨T, x', rfl, hT, rfl, f1⟩ := y
    exact hs i x' T σ H (f1 xs qx) p hT
  · have e : i = xs.length := by omega
    subst e
    exact .inl ⟨⟨xs, qx, Nat.le_refl _⟩, hd σ H p⟩
/-! ### slices and sums of tuples, told by what holds behind -/
theorem cut_whole {xs : List V} {lo hi : Option Int} (h : HT.sIx xs.length 0 lo = 0 ∧ HT.sIx xs.length xs.length hi = xs.length) : cutV xs lo hi = xs := by
  unfold cutV
  rw [h.1, h.2, List.drop_zero, Nat.sub_zero, List.take_length]
def rSlS : V → Option Int → Option Int → Hp → VK → Prop := fun x lo hi H Q => ∃ a xs, x = .ref a ∧ H a = some (.tup xs) ∧
  ∀ t H', DL.Same1 H H' → H' t = some (.tup (cutV xs lo hi)) → Q (.ref t) H'
theorem sl_tupS {X : Cx} : SlR X rSlS := by
  intro pins s σ H x v vl vu lo hi sl Q I rx hs pl pu h
  obtain ⟨a, xs, rfl, ha, q⟩ := h
  exact sl_tupA pins s σ H _ v vl vu lo hi sl Q I rx hs pl pu ⟨a, xs, rfl, SqT.of ha, fun w => q a H (Same.refl _) (by rw [cut_whole w]; exact ha),
    fun _ p hp => q p _ (DL.Same.new hp) upd_same⟩
def rCatS : R2 := fun x y H Q => ∃ a b xs ys, x = .ref a ∧ y = .ref b ∧ H a = some (.tup xs) ∧ H b = some (.tup ys) ∧ xs.length + ys.length ≤ sizeLine ∧
  ∀ t H', DL.Same1 H H' → H' t = some (.tup (xs ++ ys)) → Q (.ref t) H'
theorem op_catS {X : Cx} : OpR X (binaryOp .Add) rCatS := by
  intro pins s σ H x y v u Q I rx ry h
  obtain ⟨a, b, xs, ys, rfl, rfl, ha, hb, hz, q⟩ := h
  refine op_catA pins s σ H _ _ v u Q I rx ry ⟨a, b, xs, ys, rfl, rfl, SqT.of ha, SqT.of hb, hz, fun e => q b H (Same.refl _) ?_, fun _ e => q a H (Same.refl _) ?_, fun _ _ p hp => q p _ (DL.Same.new hp) upd_same⟩
  · rw [e]; exact hb
  · rw [e, List.append_nil]; exact ha
/-! ### a method's call within a comprehension's block -/
theorem pe_bmK {X : Cx} {o e : Expr} {es : List Expr} {to : TE} {t : TA} {name : Str} {apos cpos : Pos} {T id : String} {r : V → List V → Hp → VK → Prop} (K0 : PySem.W.Frag) (hK : X.K = K0)
    (pa : PlainAttrs T) (slot : Slot T name id) (hty : typeOf (.builtin id) = pure (.type "method_descriptor")) (hm : MtR X id r) (ho : PE X o to) (ha : PA X (e :: es) t)
    (hbase : attributeBase o name X.env (eval o X.env) = eval o X.env := by rfl)
    (hfew : ((backTo cpos (starEach (e :: es) X.env)).all (fun x => !x.1) && (backToKw cpos (keywordEach [] X.env)).all (fun x => x.1.isSome)
      && decide ((e :: es).length + ([] : List Keyword).length + (if ([] : List Keyword).isEmpty then 0 else 1) < 30)) = true := by rfl)
    (hline : (apos.endLine == cpos.line) = true := by rfl)
    (hs : starEach (e :: es) X.env = (false, eval e X.env) :: starEach es X.env := by rfl) (hplain : (backTo cpos (starEach es X.env)).any (·.1) = false := by rfl) :
    PE X (.Call (.Attribute o name apos) (e :: es) [] cpos) (tBM K0 T r to t) := hK ▸ pe_bm pa slot hty hm ho ha hbase hfew hline hs hplain
theorem mt_indexK {X : Cx} (K0 : PySem.W.Frag) (hK : X.K = K0) : MtR X "list.index" (rIndex K0) := hK ▸ mt_index
def rLenK (K : PySem.W.Frag) : List V → Hp → VK → Prop := fun xs H Q => ∃ p ys, xs = [V.ref p] ∧ (SqL K H p ys ∨ SqT K H p ys) ∧ Q (.int ys.length) H
theorem call_lenK {X : Cx} (K0 : PySem.W.Frag) (hK : X.K = K0) : CallR X (.builtin "len") (rLenK K0) := hK ▸ call_len_seq
theorem ix_tupK {X : Cx} (K0 : PySem.W.Frag) (hK : X.K = K0) : IxR X (rIxT K0) := hK ▸ ix_tup
theorem ix_listK {X : Cx} (K0 : PySem.W.Frag) (hK : X.K = K0) : IxR X (rIxL K0) := hK ▸ ix_list
theorem ix_seqK {X : Cx} (K0 : PySem.W.Frag) (hK : X.K = K0) : IxR X (rIx K0) := hK ▸ ix_seq
theorem op_catTK {X : Cx} (K0 : PySem.W.Frag) (hK : X.K = K0) : OpR X (binaryOp .Add) (rCatT K0) := hK ▸ op_catT
theorem call_isiK2 {X : Cx} (K0 : PySem.W.Frag) (hK : X.K = K0) : CallR X (.builtin "isinstance") (rIsi K0) := hK ▸ call_isi
/-! ### xs[i] op= e of a list -/
def rGetL (K : PySem.W.Frag) : V → V → Hp → VK → Prop := fun x y H Q => ∃ (p : Addr) (xs : List V) (j : Nat) (v : V), x = .ref p ∧ y = .int (j : Int) ∧ SqL K H p xs ∧ xs[j]? = some v ∧ Q v H
theorem get_list {X : Cx} : PGet X (rGetL X.K) := by
  intro pins s σ H o i ov iv Q I ro ri h
  obtain ⟨p, xs, j, v, rfl, rfl, hq, he, q⟩ := h
  cases ro
  obtain ⟨t, rfl⟩ := ri
  obtain ⟨its, r, pl, hz⟩ := I.list hq
  obtain ⟨u, hu, ru⟩ := r.get he
  have hj := (List.getElem?_eq_some_iff.mp he).1
  have hn := line63
  exact wpAny_getItem_list pl.isList (by omega) (by omega) (x := u) (by simpa using hu) ⟨v, H, I, ru, q⟩
end DLR
namespace DL
open PySem L2
def top (i : Nat) : Stmt := PySem.Challenge.pw_drumlay_k13_loops.main.body.getD i (.Pass ⟨0, 0, 0, 0⟩)
structure Bt (mg : Str → Option Value) : Prop where
  len : mg "len" = none
  int : mg "int" = none
  range : mg "range" = none
  isinstance : mg "isinstance" = none
  tuple : mg "tuple" = none
  list : mg "list" = none
  sorted : mg "sorted" = none
  sum : mg "sum" = none
  max : mg "max" = none
  enumerate : mg "enumerate" = none
  zip : mg "zip" = none
  all : mg "all" = none
  bool : mg "bool" = none
  str : mg "str" = none
abbrev sDice : Stmt := top 51
abbrev sNext : Stmt := top 52
def spDice (K : Frg) : Sp := fun vs H Q _ => ∃ (sa : Addr) (ns : List Int), vs = [.ref sa] ∧ SqL K H sa (ns.map V.int) ∧ ns.length ≤ 63 ∧
  ∀ p H', Same H H' → H p = none → Ent K H' p sa ns → Q (.ref p) H'
def spNext (K : Frg) : Sp := fun vs H Q _ => ∃ (d sa : Addr) (ns : List Int) (many : Int), vs = [.ref d, .int many] ∧ Ent K H d sa ns ∧ 0 < many ∧ many < 1073741824 ∧
  ∀ n H', 0 ≤ n → n < many → Dc K H H' d sa ns → Q (.int n) H'
section
variable {P : Program} {w : World} {K : PySem.W.Frag} {mg : Str → Option Value} {base : Heap}
theorem scDice : FnScope ["_law_script", "_law_mixed_here", "_law_cell"] ["_law_script"] (defScope sDice) := ⟨rfl, rfl, rfl, by decide +kernel, rfl, by decide +kernel, by decide +kernel⟩
theorem ok_dice {f : Addr} {fd : FuncData} (F : Fun K "_law_dice" "_law_dice" sDice f fd) (T : Bt mg) : FnOk P w K mg base CX0 1 f fd ["_law_script"] (spDice K) := by
  refine F.ok scDice (fun vs H Q E h => ?_) (fun cdv A outer s H vs Q E hr h => ?_)
  · obtain ⟨sa, ns, rfl, _⟩ := h
    rfl
  · obtain ⟨sa, ns, rfl, hS, hlen, k⟩ := h
    refine ⟨_, pss_cons (ps_set (i := 1) scDice.nd rfl (Or.inl rfl) pe_int)
      (pss_cons (ps_for PassesOwn.never rfl (pi_list (pv 0)) (pg_name (i := 2) scDice.nd rfl (Or.inl rfl))
        (pss_one (ps_set (i := 1) scDice.nd rfl (Or.inl rfl) (pe_op op_mod (pe_op op_add (pe_op op_add (pe_op op_mul (pv 1) pe_int) (pe_op op_mul (pe_op op_mod (pv 2) pe_int) pe_int)) pe_int) pe_int))))
      (pss_one (ps_ret (pe_lst (pa_cons (pv 0) (pa_cons pe_int (pa_cons (pe_op op_mul (pv 1) (pe_callTy call_int1 (by rfl) T.int (by decide +kernel)
        (pa_cons (pe_cmpR op_gt (pe_callB call_len_seq (by rfl) T.len PySem.boot_len (pa_cons (pv 0) pa_nil)) pe_int (nomark _)) pa_nil))) (pa_cons pe_int pa_nil)))))))), ?_⟩
    refine ⟨_, rfl, sa, rfl, ⟨_, hS⟩, for_list (K := K) (a := sa) (xs := ns.map V.int) (fun i σ H' => ∃ (m : Int) (v : Option V), σ = [some (.ref sa), some (.int m), v] ∧ H' = H ∧ 0 ≤ m ∧ m < 2147483647)
      ⟨0, none, rfl, rfl, by decide, by decide⟩ (fun i σ H' _ ⟨_, _, _, e, _⟩ => by rw [e]; exact hS) ?_ ?_⟩
    · rintro i y σ H' hi ⟨m, v, rfl, rfl, h0, h1⟩
      obtain ⟨u, rfl⟩ : ∃ u, y = V.int u := by
        rw [List.getElem?_map] at hi
        cases e : ns[i]? with
        | none => rw [e] at hi; cases hi
        | some u => rw [e] at hi; exact ⟨u, (Option.some.inj hi).symm⟩
      refine ⟨_, rfl, _, _, rfl, rfl, .inl ⟨by omega, by omega⟩, _, rfl, _, _, rfl, rfl, (by show (0 : Int) < 2147483647; decide), _, _, rfl, rfl, .inl ⟨by omega, by omega⟩, _, _, rfl, rfl, _, _, rfl, rfl, _, _, rfl, rfl, (by show (0 : Int) < 2147483647; decide), ?_⟩
      exact ⟨_, _, rfl, rfl, Int.emod_nonneg _ (by decide), Int.emod_lt_of_pos _ (by decide)⟩
    · rintro σ H' ⟨m, v, rfl, rfl, h0, h1⟩
      refine ⟨_, rfl, _, rfl, _, rfl, sa, _, rfl, .inl hS, _, _, rfl, rfl, .inr ⟨_, rfl, ?_⟩⟩
      refine ⟨_, _, rfl, rfl, .inl ⟨by omega, by omega⟩, (by show 4 ≤ sizeLine; decide), fun p hp => ?_⟩
      have hns : (List.map V.int ns).length = ns.length := List.length_map _
      exact k p _ (Same.new hp) hp ⟨⟨_, _, _, upd_same, by decide, by split <;> omega, by split <;> omega⟩, (Same.new hp).seq hS, hlen⟩
theorem scNext : FnScope ["_law_dice_here", "_law_many", "_law_found", "_law_cell"] ["_law_dice_here", "_law_many"] (defScope sNext) := ⟨rfl, rfl, rfl, by decide +kernel, rfl, by decide +kernel, by decide +kernel⟩
theorem ok_next {f : Addr} {fd : FuncData} (F : Fun K "_law_next" "_law_next" sNext f fd) (T : Bt mg) : FnOk P w K mg base CX0 1 f fd ["_law_dice_here", "_law_many"] (spNext K) := by
  refine F.ok scNext (fun vs H Q E h => ?_) (fun cdv A outer s H vs Q E hr h => ?_)
  · obtain ⟨d, sa, ns, many, rfl, _⟩ := h
    rfl
  · obtain ⟨d, sa, ns, many, rfl, hE, hm0, hm1, k⟩ := h
    obtain ⟨⟨i, m, r, hd, hi0, hmx, hmy⟩, hS, hlen⟩ := id hE
    have C0 := Dc.refl hE
    refine ⟨_, pss_cons (ps_if (pt_cmpR op_gt (pe_ix ix_list (pv 0) pe_int (fun _ _ => rfl)) pe_int (nomark _))
        (pss_cons (ps_set (i := 2) scNext.nd rfl (Or.inl rfl) (pe_op op_mod (pe_ix ix_list (pv 0) pe_int (fun _ _ => rfl)) (pv 1)))
        (pss_cons (ps_asg (pe_op op_fdiv (pe_ix ix_list (pv 0) pe_int (fun _ _ => rfl)) (pv 1)) (pg_sub (pv 0) pe_int set_list))
        (pss_one (ps_ret (pv 2))))) pss_nil)
      (pss_cons (ps_asg (pe_op op_add (pe_ix ix_list (pv 0) pe_int (fun _ _ => rfl)) pe_int) (pg_sub (pv 0) pe_int set_list))
      (pss_cons (ps_if (pt_cmpR op_le (pe_ix ix_list (pv 0) pe_int (fun _ _ => rfl)) (pe_callB call_len_seq (by rfl) T.len PySem.boot_len (pa_cons (pe_ix ix_list (pv 0) pe_int (fun _ _ => rfl)) pa_nil)) (nomark _))
        (pss_cons (ps_set (i := 3) scNext.nd rfl (Or.inl rfl) (pe_ix ix_list (pe_ix ix_list (pv 0) pe_int (fun _ _ => rfl)) (pe_op op_sub (pe_ix ix_list (pv 0) pe_int (fun _ _ => rfl)) pe_int) (fun _ _ => rfl)))
        (pss_cons (ps_asg (pe_ifExp (pt_cmpR op_ge (pv 3) (pe_op op_pow pe_int pe_int) (nomark _)) (pe_op op_fdiv (pv 3) (pv 1)) pe_int) (pg_sub (pv 0) pe_int set_list))
        (pss_one (ps_ret (pe_op op_mod (pv 3) (pv 1)))))) pss_nil)
      (pss_cons (ps_asg (pe_op op_mod (pe_op op_mul (pe_ix ix_list (pv 0) pe_int (fun _ _ => rfl)) pe_int) pe_int) (pg_sub (pv 0) pe_int set_list))
      (pss_one (ps_ret (pe_op op_mod (pe_op op_fdiv (pe_ix ix_list (pv 0) pe_int (fun _ _ => rfl)) pe_int) (pv 1))))))), ?_⟩
    refine ⟨_, rfl, d, _, _, _, rfl, rfl, SqL.of hd, at3, _, _, rfl, rfl, _, rfl, ite2 (fun c => ?_) (fun c => ?_)⟩
    · refine ⟨_, rfl, d, _, _, _, rfl, rfl, SqL.of hd, at3, _, rfl, _, _, rfl, rfl, hm0, ?_⟩
      refine ⟨_, rfl, d, _, _, _, rfl, rfl, SqL.of hd, at3, _, rfl, _, _, rfl, rfl, ⟨hm0, hm1⟩, _, rfl, d, _, _, 3, rfl, rfl, hd, rfl, ?_⟩
      exact ⟨_, rfl, k _ _ (Int.emod_nonneg _ (by omega)) (Int.emod_lt_of_pos _ hm0) (C0.roll hi0 hmx hmy)⟩
    · refine ⟨_, rfl, d, _, _, _, rfl, rfl, SqL.of hd, at1, _, _, rfl, rfl, _, rfl, d, _, _, 1, rfl, rfl, hd, rfl, ?_⟩
      have C1 : Dc K H (upd H d (.lst [.ref sa, .int (i + 1), .int m, .int r])) d sa ns := C0.roll (by omega) hmx hmy
      have h1 : (upd H d (.lst [.ref sa, .int (i + 1), .int m, .int r])) d = some (.lst [.ref sa, .int (i + 1), .int m, .int r]) := upd_same
      have hS1 := C1.ent.scr
      revert C1 h1 hS1
      show _ → _ → _ → _
      generalize hH1 : (upd H d (.lst [.ref sa, .int (i + 1), .int m, .int r])) = H1
      intro C1 h1 hS1
      have hH1' : upd H d (.lst (List.set [V.ref sa, .int i, .int m, .int r] 1 (.int (i + 1)))) = H1 := hH1
      rw [hH1']
      refine ⟨_, rfl, d, _, _, _, rfl, rfl, SqL.of h1, at1, _, rfl, d, _, _, _, rfl, rfl, SqL.of h1, at0, sa, _, rfl, .inl hS1, _, _, rfl, rfl, _, rfl, ite2 (fun c => ?_) (fun c => ?_)⟩
      · have c : i + 1 ≤ ((ns.map V.int).length : Int) := of_decide_eq_true c
        rw [List.length_map] at c
        obtain ⟨j, hj⟩ : ∃ j : Nat, i = (j : Int) := ⟨i.toNat, by omega⟩
        have hjl : j < ns.length := by omega
        have hat : atI (ns.map V.int) (i + 1 - 1) = some (.int ns[j]) := by
          have e : i + 1 - 1 = (j : Int) := by omega
          rw [e]
          refine atI_nat ?_
          rw [List.getElem?_map, List.getElem?_eq_getElem hjl]
          rfl
        refine ⟨_, rfl, d, _, _, _, rfl, rfl, SqL.of h1, at0, _, rfl, d, _, _, _, rfl, rfl, SqL.of h1, at1, _, _, rfl, rfl, sa, _, _, _, rfl, rfl, hS1, hat, ?_⟩
        refine ⟨_, rfl, _, _, rfl, rfl, ⟨by decide, by decide, by decide⟩, _, _, rfl, rfl, _, rfl, ite2 (fun c2 => ?_) (fun c2 => ?_)⟩
        · refine ⟨_, rfl, _, rfl, _, _, rfl, rfl, ⟨hm0, hm1⟩, _, rfl, d, _, _, 3, rfl, rfl, h1, rfl, ?_⟩
          exact ⟨_, rfl, _, rfl, _, _, rfl, rfl, hm0, k _ _ (Int.emod_nonneg _ (by omega)) (Int.emod_lt_of_pos _ hm0) (C1.roll (by omega) hmx hmy)⟩
        · refine ⟨_, rfl, d, _, _, 3, rfl, rfl, h1, rfl, ?_⟩
          exact ⟨_, rfl, _, rfl, _, _, rfl, rfl, hm0, k _ _ (Int.emod_nonneg _ (by omega)) (Int.emod_lt_of_pos _ hm0) (C1.roll (by omega) hmx hmy)⟩
      · refine ⟨_, rfl, d, _, _, _, rfl, rfl, SqL.of h1, at2, _, _, rfl, rfl, .inl ⟨by omega, by omega⟩, _, _, rfl, rfl, (by show (0 : Int) < 2147483647; decide), _, rfl, d, _, _, 2, rfl, rfl, h1, rfl, ?_⟩
        refine ⟨_, rfl, d, _, _, _, rfl, rfl, SqL.of upd_same, at2, _, _, rfl, rfl, ⟨by decide, by decide⟩, _, rfl, _, _, rfl, rfl, hm0, ?_⟩
        exact k _ _ (Int.emod_nonneg _ (by omega)) (Int.emod_lt_of_pos _ hm0) (C1.roll (by omega) (Int.emod_nonneg _ (by decide)) (Int.emod_lt_of_pos _ (by decide)))
end
end DL
namespace DL
open PySem L2
/-! ### data: what like compares -/
inductive D where
  | non | bl (b : Bool) | int (i : Int) | str (s : Str) | lst (l : List D) | tup (l : List D)
mutual
def At (H : Hp) : V → D → Prop
  | v, .non => v = .non
  | v, .bl b => v = .bl b
  | v, .int i => v = .int i
  | v, .str s => v = .str s
  | v, .lst ds => ∃ a vs, v = .ref a ∧ H a = some (.lst vs) ∧ Ats H vs ds
  | v, .tup ds => ∃ a vs, v = .ref a ∧ H a = some (.tup vs) ∧ Ats H vs ds
def Ats (H : Hp) : List V → List D → Prop
  | [], [] => True
  | v :: vs, d :: ds => At H v d ∧ Ats H vs ds
  | _, _ => False
end
mutual
def D.dep : D → Nat
  | .lst ds => depL ds + 1
  | .tup ds => depL ds + 1
  | _ => 0
def depL : List D → Nat
  | [] => 0
  | d :: ds => max d.dep (depL ds)
end
mutual
def D.fit : D → Prop
  | .lst ds => ds.length ≤ 100000 ∧ fitL ds
  | .tup ds => ds.length ≤ 100000 ∧ fitL ds
  | _ => True
def fitL : List D → Prop
  | [] => True
  | d :: ds => d.fit ∧ fitL ds
end
theorem fitL_iff : ∀ {ds : List D}, fitL ds ↔ ∀ x ∈ ds, x.fit
  | [] => by simp [fitL]
  | d :: ds => by simp [fitL, fitL_iff (ds := ds)]
theorem D.fit_of {x : D} {ds : List D} (hx : x = .lst ds ∨ x = .tup ds) (h : x.fit) : ds.length ≤ 100000 ∧ fitL ds := by
  rcases hx with rfl | rfl <;> simpa [D.fit] using h
theorem Ats.len {H : Hp} : ∀ {vs : List V} {ds : List D}, Ats H vs ds → vs.length = ds.length
  | [], [], _ => rfl
  | v :: vs, d :: ds, h => by
    have h : At H v d ∧ Ats H vs ds := by simpa [Ats] using h
    show vs.length + 1 = ds.length + 1
    rw [Ats.len h.2]
  | [], _ :: _, h => by simp [Ats] at h
  | _ :: _, [], h => by simp [Ats] at h
theorem Ats.get {H : Hp} : ∀ {vs : List V} {ds : List D} (i : Nat), Ats H vs ds → i < ds.length → ∃ v x, vs[i]? = some v ∧ ds[i]? = some x ∧ At H v x
  | [], [], i, _, hi => by simp at hi
  | v :: vs, d :: ds, 0, h, _ => by
    have h : At H v d ∧ Ats H vs ds := by simpa [Ats] using h
    exact ⟨v, d, rfl, rfl, h.1⟩
  | v :: vs, d :: ds, i + 1, h, hi => by
    have h : At H v d ∧ Ats H vs ds := by simpa [Ats] using h
    obtain ⟨u, x, h1, h2, h3⟩ := Ats.get i h.2 (by simpa using hi)
    exact ⟨u, x, by simpa using h1, by simpa using h2, h3⟩
  | [], _ :: _, i, h, _ => by simp [Ats] at h
  | _ :: _, [], i, h, _ => by simp [Ats] at h
theorem depL_get : ∀ {ds : List D} {i : Nat} {x : D}, ds[i]? = some x → x.dep ≤ depL ds
  | [], i, x, h => by simp at h
  | d :: ds, 0, x, h => by
    have e : d = x := by simpa using h
    subst e
    show d.dep ≤ max d.dep (depL ds)
    omega
  | d :: ds, i + 1, x, h => by
    have := depL_get (ds := ds) (i := i) (x := x) (by simpa using h)
    show x.dep ≤ max d.dep (depL ds)
    omega
def D.ty : D → String
  | .non => "NoneType" | .bl _ => "bool" | .int _ => "int" | .str _ => "str" | .lst _ => "list" | .tup _ => "tuple"
theorem At.ty {K : Frg} {H : Hp} {v : V} : ∀ {x : D}, At H v x → TyX K H v (.type x.ty)
  | .non, h => by
    have h : v = .non := by simpa [At] using h
    subst h; exact .base .non
  | .bl b, h => by
    have h : v = .bl b := by simpa [At] using h
    subst h; exact .base (.bl _)
  | .int i, h => by
    have h : v = .int i := by simpa [At] using h
    subst h; exact .base (.int _)
  | .str s, h => by
    have h : v = .str s := by simpa [At] using h
    subst h; exact .base (.str _)
  | .lst ds, h => by
    obtain ⟨a, vs, rfl, h, _⟩ : ∃ a vs, v = .ref a ∧ H a = some (.lst vs) ∧ Ats H vs ds := by simpa [At] using h
    exact .base (.lst h)
  | .tup ds, h => by
    obtain ⟨a, vs, rfl, h, _⟩ : ∃ a vs, v = .ref a ∧ H a = some (.tup vs) ∧ Ats H vs ds := by simpa [At] using h
    exact .base (.tup h)
theorem isi_go {K : Frg} {H : Hp} {v : V} {x : D} {c : String} {b : Bool} {Q : VK} (h : At H v x) (r : kitB x.ty c = some b) (q : Q (.bl b) H) : rIsi K [v, .ty c] H Q :=
  ⟨_, _, _, _, _, rfl, .ty _, h.ty, kit_ty r, q⟩
def spLike (K : Frg) (n : Nat) : Sp := fun vs H Q _ => ∃ (v u : V) (x : D), vs = [v, u] ∧ At H v x ∧ At H u x ∧ x.dep ≤ n ∧ x.fit ∧ Q (.bl true) H
abbrev sLike : Stmt := top 53
section
variable {P : Program} {w : World} {K : PySem.W.Frag} {mg : Str → Option Value} {base : Heap}
theorem scLike : FnScope ["_law_found", "_law_due", "_law_k"] ["_law_found", "_law_due"] (defScope sLike) := ⟨rfl, rfl, rfl, by decide +kernel, rfl, by decide +kernel, by decide +kernel⟩
theorem At.sq {K : Frg} {H : Hp} {v : V} {x : D} {ds : List D} (hx : x = .lst ds ∨ x = .tup ds) (h : At H v x) : ∃ a vs, v = .ref a ∧ (SqL K H a vs ∨ SqT K H a vs) ∧ Ats H vs ds := by
  rcases hx with rfl | rfl
  · obtain ⟨a, vs, rfl, h, z⟩ : ∃ a vs, v = .ref a ∧ H a = some (.lst vs) ∧ Ats H vs ds := by simpa [At] using h
    exact ⟨a, vs, rfl, .inl (SqL.of h), z⟩
  · obtain ⟨a, vs, rfl, h, z⟩ : ∃ a vs, v = .ref a ∧ H a = some (.tup vs) ∧ Ats H vs ds := by simpa [At] using h
    exact ⟨a, vs, rfl, .inr (SqT.of h), z⟩
theorem sq_ix {K : Frg} {H : Hp} {a : Addr} {vs : List V} {i : Nat} {v : V} {Q : VK} (h : SqL K H a vs ∨ SqT K H a vs) (e : vs[i]? = some v) (q : Q v H) : rIx K (.ref a) (.int (i : Int)) H Q := by
  rcases h with h | h
  · exact .inl ⟨a, vs, _, v, rfl, rfl, h, atI_nat e, q⟩
  · exact .inr (.inl ⟨a, vs, _, v, rfl, rfl, h, atI_nat e, q⟩)
theorem D.dep_of {x : D} {ds : List D} (hx : x = .lst ds ∨ x = .tup ds) : x.dep = depL ds + 1 := by
  rcases hx with rfl | rfl <;> rfl
abbrev spNo : Sp := fun _ _ _ _ => False
theorem ok_no {CX : CXT} {k : Nat} {f : Addr} {fd : FuncData} {ps : List Str} : FnOk P w K mg base CX k f fd ps spNo := ⟨fun _ _ _ _ h => h.elim, fun _ _ _ _ _ _ _ _ _ _ _ _ _ h => h.elim⟩
theorem like_one {f : Addr} {fd : FuncData} {k n : Nat} {sp : Sp} (F : Fun K "_law_like" "_law_like" sLike f fd) (b : Binds K fd ["_law_found", "_law_due"] []) (m : mg "_law_like" = some (.ref f)) (T : Bt mg)
    (G : FnOk P w K mg base CX0 k f fd ["_law_found", "_law_due"] sp) (hk : ∀ v u x H Q E, At H v x → At H u x → x.dep + 1 ≤ n → x.fit → Q (.bl true) H → sp [v, u] H Q E) :
    FnOk P w K mg base CX0 (k + 1) f fd ["_law_found", "_law_due"] (spLike K n) := by
  refine F.ok scLike (fun vs H Q E h => ?_) (fun cdv A outer s H vs Q E hr h => ?_)
  · obtain ⟨v, u, x, rfl, _⟩ := h
    rfl
  · obtain ⟨v, u, x, rfl, hv, hu, hn, hfit, q⟩ := h
    refine ⟨_, pss_cons (ps_if (pt_val (pe_callB call_isi (by rfl) T.isinstance (by decide +kernel) (pa_cons (pv 1) (pa_cons (pe_bltn (v := .ty "bool") (by rfl) T.bool (by decide +kernel) rfl) pa_nil))))
        (pss_one (ps_ret (pe_and (pe_callB call_isi (by rfl) T.isinstance (by decide +kernel) (pa_cons (pv 0) (pa_cons (pe_bltn (v := .ty "bool") (by rfl) T.bool (by decide +kernel) rfl) pa_nil))) (pe_one (pe_cmpR op_eq (pv 0) (pv 1) (nomark _)))))) pss_nil)
      (pss_cons (ps_if (pt_val (pe_callB call_isi (by rfl) T.isinstance (by decide +kernel) (pa_cons (pv 1) (pa_cons (pe_bltn (v := .ty "str") (by rfl) T.str (by decide +kernel) rfl) pa_nil))))
        (pss_one (ps_ret (pe_and (pe_callB call_isi (by rfl) T.isinstance (by decide +kernel) (pa_cons (pv 0) (pa_cons (pe_bltn (v := .ty "str") (by rfl) T.str (by decide +kernel) rfl) pa_nil))) (pe_one (pe_cmpR op_eq (pv 0) (pv 1) (nomark _)))))) pss_nil)
      (pss_cons (ps_if (pt_val (pe_callB call_isi (by rfl) T.isinstance (by decide +kernel) (pa_cons (pv 1) (pa_cons (pe_bltn (v := .ty "int") (by rfl) T.int (by decide +kernel) rfl) pa_nil))))
        (pss_one (ps_ret (pe_and (pe_callB call_isi (by rfl) T.isinstance (by decide +kernel) (pa_cons (pv 0) (pa_cons (pe_bltn (v := .ty "int") (by rfl) T.int (by decide +kernel) rfl) pa_nil)))
          (pe_and (pe_not (pe_callB call_isi (by rfl) T.isinstance (by decide +kernel) (pa_cons (pv 0) (pa_cons (pe_bltn (v := .ty "bool") (by rfl) T.bool (by decide +kernel) rfl) pa_nil))))
          (pe_one (pe_cmpR op_eq (pv 0) (pv 1) (nomark _))))))) pss_nil)
      (pss_cons (ps_if (pt_cmpR op_isN (pv 1) pe_non (nomark _)) (pss_one (ps_ret (pe_cmpR op_isN (pv 0) pe_non (nomark _)))) pss_nil)
      (pss_cons (ps_if (PW.pt (pw_or
          (pt_cmpR op_ne (pe_callB call_isi (by rfl) T.isinstance (by decide +kernel) (pa_cons (pv 1) (pa_cons (pe_bltn (v := .ty "tuple") (by rfl) T.tuple (by decide +kernel) rfl) pa_nil))) (pe_callB call_isi (by rfl) T.isinstance (by decide +kernel) (pa_cons (pv 0) (pa_cons (pe_bltn (v := .ty "tuple") (by rfl) T.tuple (by decide +kernel) rfl) pa_nil))) (nomark _))
          (pw_or1 (pt_cmpR op_ne (pe_callB call_isi (by rfl) T.isinstance (by decide +kernel) (pa_cons (pv 1) (pa_cons (pe_bltn (v := .ty "list") (by rfl) T.list (by decide +kernel) rfl) pa_nil))) (pe_callB call_isi (by rfl) T.isinstance (by decide +kernel) (pa_cons (pv 0) (pa_cons (pe_bltn (v := .ty "list") (by rfl) T.list (by decide +kernel) rfl) pa_nil))) (nomark _)))))
        (pss_one (ps_ret pe_bl)) pss_nil)
      (pss_cons (ps_if (pt_cmpR op_ne (pe_callB call_len_seq (by rfl) T.len PySem.boot_len (pa_cons (pv 0) pa_nil)) (pe_callB call_len_seq (by rfl) T.len PySem.boot_len (pa_cons (pv 1) pa_nil)) (nomark _)) (pss_one (ps_ret pe_bl)) pss_nil)
      (pss_cons (ps_for PassesOwn.never rfl (pi_range1 rfl T.range (pa_cons (pe_callB call_len_seq (by rfl) T.len PySem.boot_len (pa_cons (pv 1) pa_nil)) pa_nil)) (pg_name (i := 2) scLike.nd rfl (Or.inl rfl))
        (pss_one (ps_if (pt_not (pt_val (pe_call G hr (by rfl) m F.kp b .nil pass0 (pa_cons (pe_ix ix_seq (pv 0) (pv 2) (fun _ _ => rfl)) (pa_cons (pe_ix ix_seq (pv 1) (pv 2) (fun _ _ => rfl)) pa_nil)))))
          (pss_one (ps_ret pe_bl)) pss_nil)))
      (pss_one (ps_ret pe_bl)))))))), ?_⟩
    have sc : (v = u ∧ (x = .non ∧ u = .non ∨ (∃ b, x = .bl b ∧ u = .bl b) ∨ (∃ i, x = .int i ∧ u = .int i) ∨ ∃ s, x = .str s ∧ u = .str s)) ∨ ∃ ds, x = .lst ds ∨ x = .tup ds := by
      cases x with
      | non =>
        have h1 : v = .non := by simpa [At] using hv
        have h2 : u = .non := by simpa [At] using hu
        exact .inl ⟨h1.trans h2.symm, .inl ⟨rfl, h2⟩⟩
      | bl b =>
        have h1 : v = .bl b := by simpa [At] using hv
        have h2 : u = .bl b := by simpa [At] using hu
        exact .inl ⟨h1.trans h2.symm, .inr (.inl ⟨b, rfl, h2⟩)⟩
      | int i =>
        have h1 : v = .int i := by simpa [At] using hv
        have h2 : u = .int i := by simpa [At] using hu
        exact .inl ⟨h1.trans h2.symm, .inr (.inr (.inl ⟨i, rfl, h2⟩))⟩
      | str s =>
        have h1 : v = .str s := by simpa [At] using hv
        have h2 : u = .str s := by simpa [At] using hu
        exact .inl ⟨h1.trans h2.symm, .inr (.inr (.inr ⟨s, rfl, h2⟩))⟩
      | lst ds => exact .inr ⟨ds, .inl rfl⟩
      | tup ds => exact .inr ⟨ds, .inr rfl⟩
    rcases sc with ⟨rfl, ⟨rfl, rfl⟩ | ⟨bb, rfl, rfl⟩ | ⟨i, rfl, rfl⟩ | ⟨z, rfl, rfl⟩⟩ | ⟨ds, hx⟩
    · refine ⟨_, rfl, _, _, _, _, false, rfl, .ty _, hu.ty, kit_ty (by dsimp only [D.ty]; decide +kernel), _, rfl, iteF ?_⟩
      refine ⟨_, rfl, _, _, _, _, false, rfl, .ty _, hu.ty, kit_ty (by dsimp only [D.ty]; decide +kernel), _, rfl, iteF ?_⟩
      refine ⟨_, rfl, _, _, _, _, false, rfl, .ty _, hu.ty, kit_ty (by dsimp only [D.ty]; decide +kernel), _, rfl, iteF ?_⟩
      exact ⟨_, rfl, rfl, _, rfl, iteT ⟨_, rfl, rfl, q⟩⟩
    · refine ⟨_, rfl, _, _, _, _, true, rfl, .ty _, hu.ty, kit_ty (by dsimp only [D.ty]; decide +kernel), _, rfl, iteT ?_⟩
      refine ⟨_, rfl, _, _, _, _, true, rfl, .ty _, hu.ty, kit_ty (by dsimp only [D.ty]; decide +kernel), _, rfl, iteT ⟨_, rfl, _, rfl, rfl, ?_⟩⟩
      rw [decide_eq_true rfl]; exact q
    · refine ⟨_, rfl, _, _, _, _, false, rfl, .ty _, hu.ty, kit_ty (by dsimp only [D.ty]; decide +kernel), _, rfl, iteF ?_⟩
      refine ⟨_, rfl, _, _, _, _, false, rfl, .ty _, hu.ty, kit_ty (by dsimp only [D.ty]; decide +kernel), _, rfl, iteF ?_⟩
      refine ⟨_, rfl, _, _, _, _, true, rfl, .ty _, hu.ty, kit_ty (by dsimp only [D.ty]; decide +kernel), _, rfl, iteT ?_⟩
      refine ⟨_, rfl, _, _, _, _, true, rfl, .ty _, hu.ty, kit_ty (by dsimp only [D.ty]; decide +kernel), _, rfl, iteT ⟨_, rfl, _, _, _, _, false, rfl, .ty _, hu.ty, kit_ty (by dsimp only [D.ty]; decide +kernel), _, rfl, _, rfl, iteT ⟨_, rfl, _, rfl, rfl, ?_⟩⟩⟩
      rw [decide_eq_true rfl]; exact q
    · refine ⟨_, rfl, _, _, _, _, false, rfl, .ty _, hu.ty, kit_ty (by dsimp only [D.ty]; decide +kernel), _, rfl, iteF ?_⟩
      refine ⟨_, rfl, _, _, _, _, true, rfl, .ty _, hu.ty, kit_ty (by dsimp only [D.ty]; decide +kernel), _, rfl, iteT ?_⟩
      refine ⟨_, rfl, _, _, _, _, true, rfl, .ty _, hu.ty, kit_ty (by dsimp only [D.ty]; decide +kernel), _, rfl, iteT ⟨_, rfl, _, rfl, rfl, ?_⟩⟩
      rw [decide_eq_true rfl]; exact q
    · obtain ⟨a, vs, rfl, ha, hvs⟩ := At.sq (K := K) hx hv
      obtain ⟨c, us, rfl, hc, hus⟩ := At.sq (K := K) hx hu
      have hnn : x.dep = depL ds + 1 := D.dep_of hx
      have hb : kitB x.ty "bool" = some false := by rcases hx with rfl | rfl <;> dsimp only [D.ty] <;> decide +kernel
      have hs : kitB x.ty "str" = some false := by rcases hx with rfl | rfl <;> dsimp only [D.ty] <;> decide +kernel
      have hi : kitB x.ty "int" = some false := by rcases hx with rfl | rfl <;> dsimp only [D.ty] <;> decide +kernel
      obtain ⟨bt, ht⟩ : ∃ bt, kitB x.ty "tuple" = some bt := by
        rcases hx with rfl | rfl
        · exact ⟨false, by dsimp only [D.ty]; decide +kernel⟩
        · exact ⟨true, by dsimp only [D.ty]; decide +kernel⟩
      obtain ⟨bl, hl⟩ : ∃ bl, kitB x.ty "list" = some bl := by
        rcases hx with rfl | rfl
        · exact ⟨true, by dsimp only [D.ty]; decide +kernel⟩
        · exact ⟨false, by dsimp only [D.ty]; decide +kernel⟩
      refine ⟨_, rfl, _, _, _, _, _, rfl, .ty _, hu.ty, kit_ty hb, _, rfl, iteF ?_⟩
      refine ⟨_, rfl, _, _, _, _, _, rfl, .ty _, hu.ty, kit_ty hs, _, rfl, iteF ?_⟩
      refine ⟨_, rfl, _, _, _, _, _, rfl, .ty _, hu.ty, kit_ty hi, _, rfl, iteF ?_⟩
      refine ⟨_, rfl, rfl, _, rfl, iteF ?_⟩
      refine ⟨_, rfl, _, _, _, _, _, rfl, .ty _, hu.ty, kit_ty ht, _, rfl, _, _, _, _, _, rfl, .ty _, hv.ty, kit_ty ht, rfl, _, rfl, ?_⟩
      rw [decide_eq_true rfl]
      refine iteF ⟨_, rfl, _, _, _, _, _, rfl, .ty _, hu.ty, kit_ty hl, _, rfl, _, _, _, _, _, rfl, .ty _, hv.ty, kit_ty hl, rfl, _, rfl, ?_⟩
      rw [decide_eq_true rfl]
      refine iteF ⟨_, rfl, a, _, rfl, ha, _, rfl, c, _, rfl, hc, rfl, _, rfl, ?_⟩
      have hlen : vs.length = us.length := hvs.len.trans hus.len.symm
      rw [hlen, decide_eq_true rfl]
      have hul : us.length < 2 ^ 62 := by
        have z1 := (D.fit_of hx hfit).1
        have z2 := hus.len
        omega
      refine iteF ⟨_, rfl, c, _, rfl, hc, _, rfl, by omega, by omega, ?_⟩
      refine for_range (lo := 0) (n := us.length) (fun i σ H' => H' = H ∧ ∃ z, σ = [some (.ref a), some (.ref c), z]) ⟨rfl, _, rfl⟩ ?_ ?_
      · rintro i σ H' hi ⟨rfl, z, rfl⟩
        have e0 : (0 : Int) + (i : Int) = (i : Int) := Int.zero_add _
        rw [e0]
        obtain ⟨v1, y1, g1, g2, g3⟩ := hvs.get i (by rw [← hus.len]; exact hi)
        obtain ⟨u1, y2, g4, g5, g6⟩ := hus.get i (by rw [← hus.len]; exact hi)
        have ey : y2 = y1 := by rw [g2] at g5; exact (Option.some.inj g5).symm
        subst ey
        refine ⟨_, rfl, _, rfl, sq_ix ha g1 ?_⟩
        refine ⟨_, rfl, _, rfl, sq_ix hc g4 ?_⟩
        refine hk _ _ _ _ _ _ g3 g6 (by have := depL_get g2; omega) (fitL_iff.mp (D.fit_of hx hfit).2 _ (List.mem_of_getElem? g2)) ⟨_, rfl, iteF ⟨rfl, _, rfl⟩⟩
      · rintro σ H' ⟨rfl, z, rfl⟩
        exact q
theorem ok_like {f : Addr} {fd : FuncData} (F : Fun K "_law_like" "_law_like" sLike f fd) (b : Binds K fd ["_law_found", "_law_due"] []) (m : mg "_law_like" = some (.ref f)) (T : Bt mg) :
    ∀ n : Nat, FnOk P w K mg base CX0 (n + 1) f fd ["_law_found", "_law_due"] (spLike K n)
  | 0 => like_one F b m T (ok_no (k := 0)) (fun _ _ _ _ _ _ _ _ h _ _ => by omega)
  | n + 1 => like_one F b m T (ok_like F b m T n) (fun v u x H Q E h1 h2 h3 h4 q => ⟨v, u, x, rfl, h1, h2, by omega, h4, q⟩)
end
end DL
namespace DL
open PySem L2
/-! ### rows -/
inductive Row where
  | load (w n : Nat) | add (w n : Nat) | take (w n : Nat) | store (w n : Nat) | say (n : Nat) | test (a b : Nat) | stop
def rowVs : Row → List V
  | .load w n => [.str "load", .int (w : Int), .int (n : Int)]
  | .add w n => [.str "add", .int (w : Int), .int (n : Int)]
  | .take w n => [.str "take", .int (w : Int), .int (n : Int)]
  | .store w n => [.str "store", .int (w : Int), .int (n : Int)]
  | .say n => [.str "say", .int (n : Int)]
  | .test a b => [.str "test", .int (a : Int), .int (b : Int)]
  | .stop => [.str "stop"]
def Row.ok (W N : Nat) : Row → Prop
  | .load w n => w < W ∧ n < N
  | .add w n => w < W ∧ n < N
  | .take w n => w < W ∧ n < N
  | .store w n => w < W ∧ n < N
  | .say n => n < N
  | .test a b => a < N ∧ b < N
  | .stop => True
def Row.plain : Row → Prop
  | .test _ _ => False
  | .stop => False
  | _ => True
def Row.to (m : Nat) : Row → Row
  | .load w _ => .load w m
  | .add w _ => .add w m
  | .take w _ => .take w m
  | .store w _ => .store w m
  | .say _ => .say m
  | r => r
def isT (r : Row) : Nat := if decide ((rowVs r)[0]? = some (V.str "test")) = true then 1 else 0
def tests (rs : List Row) : Nat := (rs.map isT).sum
theorem isT_le (r : Row) : isT r ≤ 1 := by
  unfold isT
  split <;> decide
theorem isT_plain : ∀ {r : Row}, r.plain → isT r = 0
  | .load _ _, _ => (by decide +kernel : (if decide (some (V.str "load") = some (V.str "test")) = true then 1 else 0) = 0)
  | .add _ _, _ => (by decide +kernel : (if decide (some (V.str "add") = some (V.str "test")) = true then 1 else 0) = 0)
  | .take _ _, _ => (by decide +kernel : (if decide (some (V.str "take") = some (V.str "test")) = true then 1 else 0) = 0)
  | .store _ _, _ => (by decide +kernel : (if decide (some (V.str "store") = some (V.str "test")) = true then 1 else 0) = 0)
  | .say _, _ => (by decide +kernel : (if decide (some (V.str "say") = some (V.str "test")) = true then 1 else 0) = 0)
theorem isT_stop : isT .stop = 0 := (by decide +kernel : (if decide (some (V.str "stop") = some (V.str "test")) = true then 1 else 0) = 0)
theorem isT_to {r : Row} {m : Nat} (p : r.plain) : isT (r.to m) = 0 := by
  cases r <;> first | exact p.elim | exact isT_plain trivial
theorem tests_app : ∀ (a b : List Row), tests (a ++ b) = tests a + tests b
  | [], b => by unfold tests; simp
  | x :: a, b => by
    show isT x + tests (a ++ b) = isT x + tests a + tests b
    rw [tests_app a b]
    omega
theorem tests_cons (x : Row) (a : List Row) : tests (x :: a) = isT x + tests a := rfl
theorem tests_one {r : Row} : tests [r] = isT r := Nat.add_zero _
theorem tests_plain : ∀ {rs : List Row}, (∀ r ∈ rs, r.plain) → tests rs = 0
  | [], _ => rfl
  | x :: rs, h => by
    rw [tests_cons, isT_plain (h x List.mem_cons_self), tests_plain fun r hr => h r (List.mem_cons_of_mem _ hr)]
theorem Row.ok.mono {W N M : Nat} (h : N ≤ M) : ∀ {r : Row}, r.ok W N → r.ok W M := fun {r} k => by
  cases r <;> simp only [Row.ok] at * <;> omega
theorem Row.ok.to {W N m M : Nat} (hm : m < M) : ∀ {r : Row}, r.plain → r.ok W N → (r.to m).ok W M := fun {r} p k => by
  cases r <;> simp only [Row.ok, Row.to, Row.plain] at * <;> omega
theorem Row.vs_to {m : Nat} : ∀ {r : Row}, r.plain → rowVs (r.to m) = (rowVs r).dropLast ++ [V.int (m : Int)] := fun {r} p => by
  cases r <;> first | rfl | exact p.elim
theorem Row.vs_len (r : Row) : 1 ≤ (rowVs r).length ∧ (rowVs r).length ≤ 3 := by cases r <;> simp [rowVs]
def RowsAt (H : Hp) (bs : List Addr) (rs : List Row) : Prop := Paired (fun b r => H b = some (.tup (rowVs r))) bs rs
theorem RowsAt.kp {H H' : Hp} {bs : List Addr} {rs : List Row} (h : RowsAt H bs rs) (k : Kp H H') : RowsAt H' bs rs := Paired.mapP h fun _ _ q => k _ _ q
theorem Paired.app {α β : Type} {F : α → β → Prop} : ∀ {a : List α} {b : List β} {c : List α} {d : List β}, Paired F a b → Paired F c d → Paired F (a ++ c) (b ++ d)
  | _, _, _, _, .nil, h => h
  | _, _, _, _, .cons x t, h => .cons x (Paired.app t h)
theorem Paired.get {α β : Type} {F : α → β → Prop} : ∀ {a : List α} {b : List β} {i : Nat} {x : α}, Paired F a b → a[i]? = some x → ∃ y, b[i]? = some y ∧ F x y
  | _, _, _, _, .nil, e => by simp at e
  | _, _, 0, _, .cons h _, e => by simp at e; subst e; exact ⟨_, rfl, h⟩
  | _, _, i + 1, _, .cons _ t, e => by
    obtain ⟨y, h1, h2⟩ := Paired.get (i := i) t (by simpa using e)
    exact ⟨y, by simpa using h1, h2⟩
theorem Paired.getR {α β : Type} {F : α → β → Prop} : ∀ {a : List α} {b : List β} {i : Nat} {y : β}, Paired F a b → b[i]? = some y → ∃ x, a[i]? = some x ∧ F x y
  | _, _, _, _, .nil, e => by simp at e
  | _, _, 0, _, .cons h _, e => by simp at e; subst e; exact ⟨_, rfl, h⟩
  | _, _, i + 1, _, .cons _ t, e => by
    obtain ⟨y, h1, h2⟩ := Paired.getR (i := i) t (by simpa using e)
    exact ⟨y, by simpa using h1, h2⟩
theorem Paired.one {α β : Type} {F : α → β → Prop} {x : α} {y : β} (h : F x y) : Paired F [x] [y] := .cons h .nil
structure Fd (K : Frg) (mg : Str → Option Value) (x : Str) (st : Stmt) (ps : List Str) where
  f : Addr
  fd : FuncData
  F : Fun K x x st f fd
  b : Binds K fd ps []
  m : mg x = some (.ref f)
abbrev FNext (K : Frg) (mg : Str → Option Value) := Fd K mg "_law_next" sNext ["_law_dice_here", "_law_many"]
abbrev sStraight : Stmt := top 54
abbrev FStraight (K : Frg) (mg : Str → Option Value) := Fd K mg "_law_straight" sStraight ["_law_d", "_law_at"]
def spStraight (K : Frg) : Sp := fun vs H Q _ => ∃ (d sa : Addr) (ns : List Int) (at_ : Nat), vs = [.ref d, .int (at_ : Int)] ∧ Ent K H d sa ns ∧
  ∀ t r H', Dc K H H' d sa ns → H' t = some (.tup (rowVs r)) → r.plain → r.ok 8 (at_ + 2) → Q (.ref t) H'
section
variable {P : Program} {w : World} {K : PySem.W.Frag} {mg : Str → Option Value} {base : Heap}
theorem scStraight : FnScope ["_law_d", "_law_at", "_law_way"] ["_law_d", "_law_at"] (defScope sStraight) := ⟨rfl, rfl, rfl, by decide +kernel, rfl, by decide +kernel, by decide +kernel⟩
theorem ok_straight (c : FStraight K mg) (cN : FNext K mg) (T : Bt mg) : FnOk P w K mg base CX0 2 c.f c.fd ["_law_d", "_law_at"] (spStraight K) := by
  have GN : FnOk P w K mg base CX0 1 cN.f cN.fd ["_law_dice_here", "_law_many"] (spNext K) := ok_next cN.F T
  refine c.F.ok scStraight (fun vs H Q E h => ?_) (fun cdv A outer s H vs Q E hr h => ?_)
  · obtain ⟨d, sa, ns, a, rfl, _⟩ := h
    rfl
  · obtain ⟨d, sa, ns, a, rfl, hE, k⟩ := h
    refine ⟨_, pss_cons (ps_set (i := 2) scStraight.nd rfl (Or.inl rfl) (pe_call GN hr (by rfl) cN.m cN.F.kp cN.b .nil pass0 (pa_cons (pv 0) (pa_cons pe_int pa_nil))))
      (pss_cons (ps_if (pt_cmpR op_eq (pv 2) pe_int (nomark _)) (pss_one (ps_ret (pe_tup (pa_cons pe_str (pa_cons (pe_op op_add (pv 1) pe_int) pa_nil))))) pss_nil)
      (pss_one (ps_ret (pe_tup (pa_cons (pe_ix ix_list (pe_lst (pa_cons pe_str (pa_cons pe_str (pa_cons pe_str (pa_cons pe_str (pa_cons pe_str pa_nil)))))) (pv 2) (fun _ _ => rfl))
        (pa_cons (pe_op op_add pe_int (pe_call GN hr (by rfl) cN.m cN.F.kp cN.b .nil pass0 (pa_cons (pv 0) (pa_cons pe_int pa_nil)))) (pa_cons (pe_op op_add (pv 1) pe_int) pa_nil))))))), ?_⟩
    refine ⟨_, rfl, d, sa, ns, _, rfl, hE, by decide, by decide, fun n H1 n0 n1 C1 => ?_⟩
    refine ⟨_, rfl, rfl, _, rfl, ?_⟩
    refine ite2 (fun e => ?_) (fun e => ?_)
    · refine ⟨_, rfl, _, _, rfl, rfl, (by show 2 ≤ sizeLine; decide), fun t ht => ?_⟩
      refine k t (.say (a + 1)) _ (C1.new ht) (by rw [upd_same]; rfl) trivial (by show a + 1 < a + 2; omega)
    · have n5 : n ≠ 5 := fun q => e (by rw [q]; exact decide_eq_true rfl)
      refine ⟨(by show 5 ≤ sizeLine; decide), fun l hl => ?_⟩
      obtain ⟨j, hj⟩ : ∃ j : Nat, n = (j : Int) := ⟨n.toNat, by omega⟩
      subst hj
      have hj5 : j < 5 := by omega
      obtain ⟨wd, hw⟩ : ∃ wd : Str, ([V.str "load", V.str "add", V.str "take", V.str "store", V.str "add"] : List V)[j]? = some (.str wd) ∧ ∀ x y : Nat, ∃ r : Row, rowVs r = [.str wd, .int (x : Int), .int (y : Int)] ∧ r.plain ∧ (x < 8 → y < a + 2 → r.ok 8 (a + 2)) := by
        match j, hj5 with
        | 0, _ => exact ⟨_, rfl, fun x y => ⟨.load x y, rfl, trivial, fun p q => ⟨p, q⟩⟩⟩
        | 1, _ => exact ⟨_, rfl, fun x y => ⟨.add x y, rfl, trivial, fun p q => ⟨p, q⟩⟩⟩
        | 2, _ => exact ⟨_, rfl, fun x y => ⟨.take x y, rfl, trivial, fun p q => ⟨p, q⟩⟩⟩
        | 3, _ => exact ⟨_, rfl, fun x y => ⟨.store x y, rfl, trivial, fun p q => ⟨p, q⟩⟩⟩
        | 4, _ => exact ⟨_, rfl, fun x y => ⟨.add x y, rfl, trivial, fun p q => ⟨p, q⟩⟩⟩
      have C2 := C1.new (o := .lst [V.str "load", V.str "add", V.str "take", V.str "store", V.str "add"]) hl
      refine ⟨_, rfl, l, _, _, _, rfl, rfl, SqL.of upd_same, atI_nat hw.1, ?_⟩
      refine ⟨_, rfl, d, sa, ns, _, rfl, C2.ent, by decide, by decide, fun m H2 m0 m1 C3 => ?_⟩
      refine ⟨_, _, rfl, rfl, _, rfl, _, _, rfl, rfl, (by show 3 ≤ sizeLine; decide), fun t ht => ?_⟩
      obtain ⟨x, hx⟩ : ∃ x : Nat, (5 : Int) + m = (x : Int) := ⟨(5 + m).toNat, by omega⟩
      obtain ⟨r, r1, r2, r3⟩ := hw.2 x (a + 1)
      refine k t r _ ((C2.trans C3).new ht) ?_ r2 (r3 (by omega) (by omega))
      rw [upd_same, r1, ← hx]
      rfl
end
end DL
namespace DL
open PySem L2
theorem Paired.last {α β : Type} {F : α → β → Prop} {x : α} : ∀ {a : List α} {b : List β}, Paired F (a ++ [x]) b → ∃ b0 y, b = b0 ++ [y] ∧ Paired F a b0 ∧ F x y
  | [], _, .cons h t => by
    cases t
    exact ⟨[], _, rfl, .nil, h⟩
  | c :: a, _, .cons h t => by
    obtain ⟨b0, y, e, h1, h2⟩ := Paired.last (a := a) t
    subst e
    exact ⟨_ :: b0, y, rfl, .cons h h1, h2⟩
theorem snoc_of {α : Type} : ∀ {l : List α}, 1 ≤ l.length → ∃ a x, l = a ++ [x]
  | [], h => by simp at h
  | [x], _ => ⟨[], x, rfl⟩
  | x :: y :: l, _ => by
    obtain ⟨a, z, e⟩ := snoc_of (l := y :: l) (by simp)
    exact ⟨x :: a, z, by rw [e]; rfl⟩
theorem ix_last (n : Nat) : ixN (n + 1) (-1) = some n := by
  unfold ixN
  rw [if_neg (by decide), if_pos (by omega)]
  congr 1
  omega
theorem all_snoc {α : Type} {p : α → Prop} {l : List α} {x : α} (h : ∀ y ∈ l, p y) (hx : p x) : ∀ y ∈ l ++ [x], p y := fun y m => by
  rcases List.mem_append.mp m with q | q
  · exact h y q
  · rw [List.mem_singleton.mp q]; exact hx
theorem all_app {α : Type} {p : α → Prop} {l m : List α} (h : ∀ y ∈ l, p y) (hx : ∀ y ∈ m, p y) : ∀ y ∈ l ++ m, p y := fun y q => by
  rcases List.mem_append.mp q with q | q
  · exact h y q
  · exact hx y q
abbrev sFork : Stmt := top 55
abbrev FFork (K : Frg) (mg : Str → Option Value) := Fd K mg "_law_fork" sFork ["_law_d", "_law_at"]
def spFork (K : Frg) : Sp := fun vs H Q _ => ∃ (d sa : Addr) (ns : List Int) (at_ : Nat), vs = [.ref d, .int (at_ : Int)] ∧ Ent K H d sa ns ∧
  ∀ l bs rs H', Dc K H H' d sa ns → H l = none → H' l = some (.lst (bs.map V.ref)) → RowsAt H' bs rs → 1 ≤ rs.length → rs.length ≤ 6 → 4 * tests rs ≤ rs.length → (∀ r ∈ rs, r.ok 8 (at_ + rs.length + 1)) → Q (.ref l) H'
theorem sIx_neg (n d : Nat) : HT.sIx n d (some (-1)) = ((-1 : Int) + n).toNat := by
  show (if (-1 : Int) < 0 then ((-1 : Int) + (n : Int)).toNat else min (-1 : Int).toNat n) = _
  exact if_pos (by decide)
theorem set_last {α : Type} {l : List α} {x y : α} {n : Nat} (h : l.length = n) : (l ++ [x]).set n y = l ++ [y] := by
  subst h
  rw [List.set_append_right _ _ (Nat.le_refl _), Nat.sub_self]
  rfl
theorem cut_last {xs : List V} (h : 1 ≤ xs.length) : cutV xs none (some (-1)) = xs.dropLast := by
  unfold cutV
  rw [sIx_neg, HT.sIx_none, List.drop_zero, List.dropLast_eq_take, Nat.sub_zero]
  congr 1
  omega
theorem cut_not {xs : List V} (h : 1 ≤ xs.length) : ¬ (HT.sIx xs.length 0 none = 0 ∧ HT.sIx xs.length xs.length (some (-1)) = xs.length) := by
  rintro ⟨_, q⟩
  rw [sIx_neg] at q
  omega
theorem row_ne {r : Row} (p : r.plain) : (rowVs r).dropLast ≠ [] := by
  cases r <;> first | exact p.elim | (intro e; cases e)
def StrAt (K : Frg) (H0 : Hp) (d sa : Addr) (ns : List Int) (D : Addr) (at_ : Nat) (i : Nat) (H : Hp) : Prop :=
  ∃ bs rs, Dc K H0 H d sa ns ∧ H0 D = none ∧ H D = some (.lst (bs.map V.ref)) ∧ RowsAt H bs rs ∧ rs.length = i ∧ ∀ r ∈ rs, r.plain ∧ r.ok 8 (at_ + i + 1)
theorem StrAt.zero {K : Frg} {H0 H : Hp} {d sa : Addr} {ns : List Int} {D : Addr} {a : Nat} (C : Dc K H0 H d sa ns) (hD : H D = none) : StrAt K H0 d sa ns D a 0 (upd H D (.lst [])) :=
  ⟨[], [], C.new hD, C.here hD, upd_same, .nil, rfl, fun _ h => absurd h (by simp)⟩
theorem StrAt.step {K : Frg} {H0 H H' : Hp} {d sa : Addr} {ns : List Int} {D t : Addr} {a i : Nat} {bs : List Addr} {rs : List Row} {r : Row} (C : Dc K H0 H d sa ns) (n0 : H0 D = none) (hD : H D = some (.lst (bs.map V.ref))) (ha : RowsAt H bs rs) (hl : rs.length = i) (hr : ∀ r ∈ rs, r.plain ∧ r.ok 8 (a + i + 1))
    (C2 : Dc K H H' d sa ns) (ht : H' t = some (.tup (rowVs r))) (hp : r.plain) (ho : r.ok 8 (a + i + 2)) :
    H' D = some (.lst (bs.map V.ref)) ∧ StrAt K H0 d sa ns D a (i + 1) (upd H' D (.lst (bs.map V.ref ++ [.ref t]))) := by
  have C3 := C.trans C2
  have hD' : H' D = some (.lst (bs.map V.ref)) := C2.but _ _ (C.ned n0) hD
  refine ⟨hD', bs ++ [t], rs ++ [r], C3.mut n0, n0, by rw [upd_same, List.map_append]; rfl, ?_, by rw [List.length_append, hl]; rfl, ?_⟩
  · exact RowsAt.kp (Paired.app (ha.kp C2.kp) (Paired.one ht)) (Kp.lst hD')
  · refine all_snoc (fun y m => ?_) ⟨hp, by rw [show a + (i + 1) + 1 = a + i + 2 by omega]; exact ho⟩
    exact ⟨(hr y m).1, (hr y m).2.mono (by omega)⟩
section
variable {P : Program} {w : World} {K : PySem.W.Frag} {mg : Str → Option Value} {base : Heap}
abbrev nFork : List Str := ["_law_d", "_law_at", "_law_yes", "_law_begin", "_law_no", "_law_k"]
theorem scFork : FnScope nFork ["_law_d", "_law_at"] (defScope sFork) := ⟨rfl, rfl, rfl, by decide +kernel, rfl, by decide +kernel, by decide +kernel⟩
theorem ok_fork (c : FFork K mg) (cS : FStraight K mg) (cN : FNext K mg) (T : Bt mg) : FnOk P w K mg base CX0 3 c.f c.fd ["_law_d", "_law_at"] (spFork K) := by
  have GN : FnOk P w K mg base CX0 1 cN.f cN.fd ["_law_dice_here", "_law_many"] (spNext K) := ok_next cN.F T
  have GS : FnOk P w K mg base CX0 2 cS.f cS.fd ["_law_d", "_law_at"] (spStraight K) := ok_straight cS cN T
  refine c.F.ok scFork (fun vs H Q E h => ?_) (fun cdv A outer s H vs Q E hr h => ?_)
  · obtain ⟨d, sa, ns, a, rfl, _⟩ := h
    rfl
  · obtain ⟨d, sa, ns, a, rfl, hE, k⟩ := h
    have hr1 : Room 1 _ := hr.mono (by decide)
    refine ⟨_, pss_cons (ps_setLc (i := 2) (own := [("_law_k", 5)]) (g := gName 5) (tt := tYes) rfl scFork.nd rfl rfl (sw_true rfl rfl rfl (by decide +kernel))
        (pi_range1 rfl T.range (pa_cons (pe_op op_add pe_int (pe_call GN hr1 (by rfl) cN.m cN.F.kp cN.b .nil pass0 (pa_cons (pv 0) (pa_cons pe_int pa_nil)))) pa_nil))
        (blkOk_by (N := nFork) (sc := defScope sFork) (by decide +kernel)) (fun _ _ _ _ _ => pg_name (i := 5) scFork.nd rfl (Or.inl rfl)) (fun _ _ _ _ _ => pts_nil)
        (fun _ _ _ _ _ => (pe_call GS hr (by rfl) cS.m cS.F.kp cS.b .nil pass0 (pa_cons (pv 0) (pa_cons (pe_op op_add (pe_op op_add (pv 1) pe_int) (pv 5)) pa_nil)))))
      (pss_cons (ps_set (i := 3) scFork.nd rfl (Or.inr rfl) (pe_op op_add (pe_op op_add (pv 1) pe_int) (pe_callB call_len_seq (by rfl) T.len PySem.boot_len (pa_cons (pv 2) pa_nil))))
      (pss_cons (ps_setLc (i := 4) (own := [("_law_k", 5)]) (g := gName 5) (tt := tYes) rfl scFork.nd rfl rfl (sw_true rfl rfl rfl (by decide +kernel))
        (pi_range1 rfl T.range (pa_cons (pe_op op_add pe_int (pe_call GN hr1 (by rfl) cN.m cN.F.kp cN.b .nil pass0 (pa_cons (pv 0) (pa_cons pe_int pa_nil)))) pa_nil))
        (blkOk_by (N := nFork) (sc := defScope sFork) (by decide +kernel)) (fun _ _ _ _ _ => pg_name (i := 5) scFork.nd rfl (Or.inl rfl)) (fun _ _ _ _ _ => pts_nil)
        (fun _ _ _ _ _ => (pe_call GS hr (by rfl) cS.m cS.F.kp cS.b .nil pass0 (pa_cons (pv 0) (pa_cons (pe_op op_add (pv 3) (pv 5)) pa_nil)))))
      (pss_cons (ps_asg (pe_op op_catT (pe_slice sl_tup (pe_ix ix_list (pv 2) (pe_un un_neg pe_int) (fun _ _ => rfl)) po_none (po_some (pe_un un_neg pe_int)))
          (pe_tup (pa_cons (pe_op op_add (pv 3) (pe_callB call_len_seq (by rfl) T.len PySem.boot_len (pa_cons (pv 4) pa_nil))) pa_nil))) (pg_sub (pv 2) (pe_un un_neg pe_int) set_list))
      (pss_one (ps_ret (pe_op op_cat (pe_op op_cat (pe_lst (pa_cons (pe_tup (pa_cons pe_str (pa_cons (pe_op op_add pe_int (pe_call GN hr1 (by rfl) cN.m cN.F.kp cN.b .nil pass0 (pa_cons (pv 0) (pa_cons pe_int pa_nil)))) (pa_cons (pe_op op_add (pv 1) pe_int) pa_nil))))
        (pa_cons (pe_tup (pa_cons pe_str (pa_cons (pe_op op_add (pv 1) pe_int) (pa_cons (pv 3) pa_nil)))) pa_nil))) (pv 2)) (pv 4))))))), ?_⟩
    refine ⟨_, rfl, d, sa, ns, _, rfl, hE, by decide, by decide, fun n H1 n0 n1 C1 => ?_⟩
    refine ⟨_, _, rfl, rfl, _, rfl, by omega, by omega, fun D1 hD1 => ?_⟩
    refine lc_range (lo := 0) (n := (1 + n).toNat) (StrAt K H d sa ns D1 (a + 2)) (StrAt.zero C1 hD1) ?_ ?_
    · rintro i H2 hi ⟨bs, rs, C2, nD, hD, hR, hl, hr⟩
      refine ⟨rfl, _, rfl, _, rfl, _, _, rfl, rfl, _, rfl, _, _, rfl, rfl, d, sa, ns, a + 2 + i, ?_, C2.ent, fun t r H3 C3 ht hp ho => ?_⟩
      · show [V.ref d, V.int ((a : Int) + 2 + (0 + (i : Int)))] = [V.ref d, V.int ((a + 2 + i : Nat) : Int)]
        rw [show ((a + 2 + i : Nat) : Int) = (a : Int) + 2 + (0 + (i : Int)) by omega]
      · obtain ⟨z1, z2⟩ := StrAt.step C2 nD hD hR hl hr C3 ht hp ho
        exact ⟨_, z1, szl (by have := Paired.length hR; rw [List.length_map]; omega), z2⟩
    · rintro H2 ⟨bs1, rs1, C2, nD1, hD1', hR1, hl1, hr1'⟩
      have lb1 := Paired.length hR1
      refine ⟨_, rfl, _, _, rfl, rfl, _, rfl, D1, _, rfl, .inl (SqL.of hD1'), _, _, rfl, rfl, ?_⟩
      refine ⟨_, rfl, d, sa, ns, _, rfl, C2.ent, by decide, by decide, fun n2 H3 n20 n21 C3 => ?_⟩
      refine ⟨_, _, rfl, rfl, _, rfl, by omega, by omega, fun D2 hD2 => ?_⟩
      have C13 := C2.trans C3
      refine lc_range (lo := 0) (n := (1 + n2).toNat) (fun i H4 => StrAt K H d sa ns D2 (a + 2 + rs1.length) i H4 ∧ D2 ≠ D1 ∧ H4 D1 = some (.lst (bs1.map V.ref)) ∧ RowsAt H4 bs1 rs1) ?_ ?_ ?_
      · have nD12 : D2 ≠ D1 := (ne_of_none (C3.but _ _ (C2.ned nD1) hD1') hD2).symm
        exact ⟨StrAt.zero C13 hD2, nD12, by rw [upd_ne nD12.symm]; exact C3.but _ _ (C2.ned nD1) hD1', (hR1.kp C3.kp).kp (Kp.new hD2)⟩
      · rintro i H4 hi ⟨⟨bs, rs, C4, nD, hD, hR, hl, hr⟩, nD12, h1, hR1⟩
        refine ⟨rfl, _, rfl, _, rfl, _, rfl, _, _, rfl, rfl, d, sa, ns, a + 2 + rs1.length + i, ?_, C4.ent, fun t r H5 C5 ht hp ho => ?_⟩
        · show [V.ref d, V.int ((a : Int) + 2 + (((bs1.map V.ref).length : Nat) : Int) + (0 + (i : Int)))] = [V.ref d, V.int ((a + 2 + rs1.length + i : Nat) : Int)]
          rw [List.length_map, lb1, show ((a + 2 + rs1.length + i : Nat) : Int) = (a : Int) + 2 + (rs1.length : Int) + (0 + (i : Int)) by omega]
        · obtain ⟨z1, z2⟩ := StrAt.step C4 nD hD hR hl hr C5 ht hp ho
          refine ⟨_, z1, szl (by have := Paired.length hR; rw [List.length_map]; omega), z2, nD12, ?_, ?_⟩
          · rw [upd_ne nD12.symm]
            exact C5.but _ _ (C4.ned nD1) h1
          · exact (hR1.kp C5.kp).kp (Kp.lst z1)
      · rintro H4 ⟨⟨bs2, rs2, C4, nD2, hD2', hR2, hl2, hr2⟩, nD12, h1, hR1⟩
        have lb2 := Paired.length hR2
        obtain ⟨bs0, b, e⟩ := snoc_of (l := bs1) (by omega)
        subst e
        obtain ⟨rs0, r, e, hR0, hb⟩ := Paired.last hR1
        subst e
        have hr0 := hr1' r (List.mem_append_right _ List.mem_cons_self)
        have h1 : H4 D1 = some (.lst (bs0.map V.ref ++ [.ref b])) := by rw [List.map_append] at h1; exact h1
        have rl := Row.vs_len r
        refine ⟨_, rfl, _, rfl, D1, _, _, _, rfl, rfl, SqL.of h1, atI_last _ _, _, rfl, _, rfl, b, _, rfl, SqT.of hb, cut_not rl.1, fun p1 hp1 => ?_⟩
        rw [cut_last rl.1]
        refine alloc hp1 fun H5 s5 e5 => ?_
        refine ⟨_, rfl, _, rfl, D2, _, rfl, .inl (SqL.of (s5 _ _ hD2')), _, _, rfl, rfl, (by show 1 ≤ sizeLine; decide), fun p2 hp2 => ?_⟩
        refine alloc hp2 fun H6 s6 e6 => ?_
        have hsz : (rowVs r).dropLast.length + 1 ≤ sizeLine := sz (by rw [List.length_dropLast]; omega)
        refine ⟨p1, p2, _, _, rfl, rfl, SqT.of (s6 _ _ e5), SqT.of e6, row_ne hr0.1, hsz, (fun e => nomatch e), fun _ p3 hp3 => ?_⟩
        refine alloc hp3 fun H7 s7 e7 => ?_
        have S47 := (s5.trans s6).trans s7
        have h17 := S47 _ _ h1
        refine ⟨_, rfl, _, rfl, D1, _, _, bs0.length, rfl, rfl, h17, ?_, ?_⟩
        · rw [List.length_append, List.length_map]
          exact ix_last _
        rw [set_last (by rw [List.length_map])]
        have nD1' : D1 ≠ D2 := nD12.symm
        have C7 := (C4.same S47).mut (o := .lst (bs0.map V.ref ++ [.ref p3])) nD1
        have hp3 : p3 ≠ D1 := ne_of e7 h17 (by intro z; cases z)
        have R7 : RowsAt H7 (bs0 ++ [p3]) (rs0 ++ [r.to (a + 2 + rs0.length + 1 + rs2.length)]) := by
          refine Paired.app (RowsAt.kp hR0 (Kp.same S47)) (Paired.one ?_)
          rw [e7, Row.vs_to hr0.1]
          congr 3
          show [V.int ((a : Int) + 2 + (((bs0 ++ [b]).map V.ref).length : Int) + ((bs2.map V.ref).length : Int))] = _
          rw [List.length_map, List.length_map, lb1, lb2, List.length_append]
          congr 2
        have R72 : RowsAt H7 bs2 rs2 := RowsAt.kp hR2 (Kp.same S47)
        have K7 : Kp H7 (upd H7 D1 (.lst (bs0.map V.ref ++ [.ref p3]))) := Kp.lst h17
        have hD28 : (upd H7 D1 (.lst (bs0.map V.ref ++ [.ref p3]))) D2 = some (.lst (bs2.map V.ref)) := by rw [upd_ne nD12]; exact S47 _ _ hD2'
        revert C7 K7 hD28
        refine change fun H8 b8 e8 => ?_
        intro C8 K8 hD28
        have R8 := R7.kp K8
        have R82 := R72.kp K8
        refine ⟨_, rfl, d, sa, ns, _, rfl, C8.ent, by decide, by decide, fun m H9 m0 m1 C9 => ?_⟩
        refine ⟨_, _, rfl, rfl, _, rfl, _, _, rfl, rfl, (by show 3 ≤ sizeLine; decide), fun t1 ht1 => ?_⟩
        refine alloc ht1 fun H10 s10 e10 => ?_
        refine ⟨_, rfl, _, _, rfl, rfl, _, rfl, (by show 3 ≤ sizeLine; decide), fun t2 ht2 => ?_⟩
        refine alloc ht2 fun H11 s11 e11 => ?_
        refine ⟨(by show 2 ≤ sizeLine; decide), fun l1 hl1n => ?_⟩
        refine alloc hl1n fun H12 s12 e12 => ?_
        have S9 := (s10.trans s11).trans s12
        have g1 : H12 D1 = some (.lst (bs0.map V.ref ++ [.ref p3])) := S9 _ _ (C9.but _ _ (C8.ned nD1) e8)
        have g2 : H12 D2 = some (.lst (bs2.map V.ref)) := S9 _ _ (C9.but _ _ (C8.ned nD2) hD28)
        have C12 := (C8.trans C9).same S9
        refine ⟨_, rfl, l1, D1, _, _, rfl, rfl, e12, g1, ?_, fun l2 hl2n => ?_⟩
        · refine sz ?_
          rw [List.length_append, List.length_map]
          have z1 := Paired.length hR0
          rw [List.length_append] at hl1
          show 2 + (bs0.length + 1) ≤ 100000
          simp only [List.length_singleton] at hl1
          omega
        refine alloc hl2n fun H13 s13 e13 => ?_
        refine ⟨_, rfl, l2, D2, _, _, rfl, rfl, e13, s13 _ _ g2, ?_, fun l3 hl3n => ?_⟩
        · refine sz ?_
          rw [List.length_append, List.length_append, List.length_map, List.length_map]
          have z1 := Paired.length hR0
          rw [List.length_append] at hl1
          show 2 + (bs0.length + 1) + bs2.length ≤ 100000
          simp only [List.length_singleton] at hl1
          omega
        have C13' := C12.same s13
        have K13 : Kp H8 H13 := (C9.kp.trans (Kp.same S9)).trans (Kp.same s13)
        have rl0 := Paired.length hR0
        have hlen1 : rs0.length + 1 = (1 + n).toNat := by rw [← hl1, List.length_append]; rfl
        obtain ⟨x, hx⟩ : ∃ x : Nat, (5 : Int) + m = (x : Int) := ⟨(5 + m).toNat, by omega⟩
        have hm8 : x < 8 := by omega
        refine k l3 (t1 :: t2 :: (bs0 ++ [p3]) ++ bs2) (.load x (a + 1) :: .test (a + 2) (a + 2 + rs0.length + 1) :: (rs0 ++ [r.to (a + 2 + rs0.length + 1 + rs2.length)]) ++ rs2) _ (C13'.new hl3n) (C13'.here hl3n) ?_ ?_ ?_ ?_ ?_ ?_
        · rw [upd_same]
          simp only [List.map_append, List.map_cons, List.map_nil]
          rfl
        · refine RowsAt.kp ?_ (Kp.new hl3n)
          refine Paired.app (.cons ?_ (.cons ?_ (R8.kp K13))) (R82.kp K13)
          · refine (s11.trans (s12.trans s13)) _ _ (e10.trans ?_)
            show some (HO.tup [V.str "load", V.int (5 + m), V.int ((a : Int) + 1)]) = some (.tup [V.str "load", V.int (x : Int), V.int ((a + 1 : Nat) : Int)])
            rw [hx]
            rfl
          · refine (s12.trans s13) _ _ (e11.trans ?_)
            show some (HO.tup [V.str "test", V.int ((a : Int) + 2), V.int ((a : Int) + 2 + (((bs0 ++ [b]).map V.ref).length : Int))]) = some (.tup [V.str "test", V.int ((a + 2 : Nat) : Int), V.int ((a + 2 + rs0.length + 1 : Nat) : Int)])
            rw [List.length_map, List.length_append, rl0]
            rfl
        · simp
        · simp only [List.length_append, List.length_cons, List.length_nil]
          omega
        · have t2 : tests rs2 = 0 := tests_plain fun y hy => (hr2 y hy).1
          have t0 : tests rs0 = 0 := tests_plain fun y hy => (hr1' y (List.mem_append_left _ hy)).1
          have t1 := isT_le (.test (a + 2) (a + 2 + rs0.length + 1))
          have tl : isT (.load x (a + 1)) = 0 := isT_plain trivial
          have tr := isT_to (m := a + 2 + rs0.length + 1 + rs2.length) hr0.1
          rw [List.cons_append, List.cons_append, tests_cons, tests_cons, tests_app, tests_app, tests_one, t2, t0, tl, tr]
          simp only [List.length_append, List.length_cons, List.length_nil]
          omega
        · have hL : (Row.load x (a + 1) :: .test (a + 2) (a + 2 + rs0.length + 1) :: (rs0 ++ [r.to (a + 2 + rs0.length + 1 + rs2.length)]) ++ rs2).length = rs0.length + rs2.length + 3 := by
            simp only [List.length_append, List.length_cons, List.length_nil]
            omega
          rw [hL]
          intro y hy
          rcases List.mem_append.mp hy with hy | hy
          · rcases List.mem_cons.mp hy with rfl | hy
            · exact ⟨hm8, by omega⟩
            · rcases List.mem_cons.mp hy with rfl | hy
              · exact ⟨by omega, by omega⟩
              · rcases List.mem_append.mp hy with hy | hy
                · exact (hr1' y (List.mem_append_left _ hy)).2.mono (by omega)
                · rw [List.mem_singleton.mp hy]
                  exact hr0.2.to (by omega) hr0.1
          · refine (hr2 y hy).2.mono ?_
            rw [List.length_append, List.length_singleton]
            omega
end
end DL
namespace DL
open PySem L2
theorem if_elim {c : TT} {t u : TS} {D : Ends} {σ : St} {H : Hp} (R : Bool → Hp → Prop) (key : ∀ b H', R b H' → if b = true then t D σ H' else u D σ H') (test : ∀ F' : Bool → Hp → Prop, (∀ b H', R b H' → F' b H') → c σ H F') : tIfS c t u D σ H := test _ key
def PB : Nat → Nat
  | 0 => 6
  | n + 1 => 6 + 3 * PB n
abbrev sBody : Stmt := top 56
abbrev pBody : List Str := ["_law_d", "_law_at", "_law_deep"]
abbrev FBody (K : Frg) (mg : Str → Option Value) := Fd K mg "_law_body" sBody pBody
def spBody (K : Frg) (n : Nat) : Sp := fun vs H Q _ => ∃ (d sa : Addr) (ns : List Int) (at_ : Nat), vs = [.ref d, .int (at_ : Int), .int (n : Int)] ∧ n ≤ 2 ∧ Ent K H d sa ns ∧
  ∀ l bs rs H', Dc K H H' d sa ns → H l = none → H' l = some (.lst (bs.map V.ref)) → RowsAt H' bs rs → rs.length ≤ 3 * PB n → 4 * tests rs ≤ rs.length → (∀ r ∈ rs, r.ok 8 (at_ + rs.length + 1)) → Q (.ref l) H'
def BodyAt (K : Frg) (H0 : Hp) (d sa : Addr) (ns : List Int) (l : Addr) (at_ : Nat) (z : Nat) (H : Hp) : Prop :=
  ∃ bs rs, Dc K H0 H d sa ns ∧ H0 l = none ∧ H l = some (.lst (bs.map V.ref)) ∧ RowsAt H bs rs ∧ rs.length ≤ z ∧ 4 * tests rs ≤ rs.length ∧ ∀ r ∈ rs, r.ok 8 (at_ + rs.length + 1)
theorem BodyAt.after {K : Frg} {H0 H H' : Hp} {d sa : Addr} {ns : List Int} {l : Addr} {a z : Nat} (h : BodyAt K H0 d sa ns l a z H) (C : Dc K H H' d sa ns) : BodyAt K H0 d sa ns l a z H' := by
  obtain ⟨bs, rs, C0, n0, hl, hR, hz, hT, ho⟩ := h
  exact ⟨bs, rs, C0.trans C, n0, C.but _ _ (C0.ned n0) hl, hR.kp C.kp, hz, hT, ho⟩
theorem PB_le : ∀ {n : Nat}, n ≤ 2 → PB n ≤ 78
  | 0, _ => by decide
  | 1, _ => by decide
  | 2, _ => by decide
section
variable {P : Program} {w : World} {K : PySem.W.Frag} {mg : Str → Option Value} {base : Heap}
abbrev nBody : List Str := ["_law_d", "_law_at", "_law_deep", "_law_found", "_law_turn", "_law_here", "_law_way", "_law_inner", "_law_behind"]
theorem scBody : FnScope nBody pBody (defScope sBody) := ⟨rfl, rfl, rfl, by decide +kernel, rfl, by decide +kernel, by decide +kernel⟩
theorem body_one {k n : Nat} {sp : Sp} (cBody : FBody K mg) (cFork : FFork K mg) (cStraight : FStraight K mg) (cNext : FNext K mg) (T : Bt mg) (h3 : 3 ≤ k) (GBody : FnOk P w K mg base CX0 k cBody.f cBody.fd pBody sp) (hk : 0 < n → ∀ vs H Q E, spBody K (n - 1) vs H Q E → sp vs H Q E) :
    FnOk P w K mg base CX0 (k + 1) cBody.f cBody.fd pBody (spBody K n) := by
  have GNext : FnOk P w K mg base CX0 1 cNext.f cNext.fd ["_law_dice_here", "_law_many"] (spNext K) := ok_next cNext.F T
  have GStraight : FnOk P w K mg base CX0 2 cStraight.f cStraight.fd ["_law_d", "_law_at"] (spStraight K) := ok_straight cStraight cNext T
  have GFork : FnOk P w K mg base CX0 3 cFork.f cFork.fd ["_law_d", "_law_at"] (spFork K) := ok_fork cFork cStraight cNext T
  refine cBody.F.ok scBody (fun vs H Q E h => ?_) (fun cdv A outer s H vs Q E hr h => ?_)
  · obtain ⟨d, sa, ns, a, rfl, _⟩ := h
    rfl
  · obtain ⟨d, sa, ns, a, rfl, n2, hE, kq⟩ := h
    refine ⟨_, (pss_cons (ps_set (i := 3) scBody.nd rfl (Or.inl rfl) (pe_lst pa_nil))
      (pss_cons (ps_for PassesOwn.never rfl (pi_range1 rfl T.range (pa_cons (pe_op op_add pe_int (pe_call GNext (hr.mono (by first | omega | decide)) (by rfl) cNext.m cNext.F.kp cNext.b .nil pass0 (pa_cons (pv 0) (pa_cons pe_int pa_nil)))) pa_nil)) (pg_name (i := 4) scBody.nd rfl (Or.inl rfl))
          (pss_cons (ps_set (i := 5) scBody.nd rfl (Or.inl rfl) (pe_op op_add (pv 1) (pe_callB call_len_seq (by rfl) T.len PySem.boot_len (pa_cons (pv 3) pa_nil))))
          (pss_cons (ps_set (i := 6) scBody.nd rfl (Or.inl rfl) (pe_call GNext (hr.mono (by first | omega | decide)) (by rfl) cNext.m cNext.F.kp cNext.b .nil pass0 (pa_cons (pv 0) (pa_cons pe_int pa_nil))))
          (pss_one (ps_if (PW.pt (pw_or (pt_cmpR op_lt (pv 6) pe_int (nomark _)) (pw_or1 (PW.pt (pw_and (pt_cmpR op_eq (pv 6) pe_int (nomark _)) (pw_and (pt_cmpR op_lt (pv 2) pe_int (nomark _)) (pw_and1 (pt_cmpR op_eq (pe_call GNext (hr.mono (by first | omega | decide)) (by rfl) cNext.m cNext.F.kp cNext.b .nil pass0 (pa_cons (pv 0) (pa_cons pe_int pa_nil))) pe_int (nomark _)))))))))
              (pss_one (ps_expr (pe_bm PySem.F.plainAttrs_list PySem.F.slot_list_append PySem.F.type_list_append mt_append (pv 3) (pa_cons (pe_call GStraight (hr.mono (by first | omega | decide)) (by rfl) cStraight.m cStraight.F.kp cStraight.b .nil pass0 (pa_cons (pv 0) (pa_cons (pv 5) pa_nil))) pa_nil))))
              (pss_one (ps_if (pt_cmpR op_eq (pv 6) pe_int (nomark _))
                  (pss_one (ps_set (i := 3) scBody.nd rfl (Or.inl rfl) (pe_op op_cat (pv 3) (pe_call GFork (hr.mono (by first | omega | decide)) (by rfl) cFork.m cFork.F.kp cFork.b .nil pass0 (pa_cons (pv 0) (pa_cons (pv 5) pa_nil))))))
                  (pss_one (ps_if (pt_cmpR op_gt (pv 2) pe_int (nomark _))
                      (pss_cons (ps_set (i := 7) scBody.nd rfl (Or.inl rfl) (pe_call GBody (hr.mono (by first | omega | decide)) (by rfl) cBody.m cBody.F.kp cBody.b .nil pass0 (pa_cons (pv 0) (pa_cons (pe_op op_add (pv 5) pe_int) (pa_cons (pe_op op_sub (pv 2) pe_int) pa_nil)))))
                      (pss_cons (ps_set (i := 8) scBody.nd rfl (Or.inl rfl) (pe_op op_add (pe_op op_add (pv 5) pe_int) (pe_callB call_len_seq (by rfl) T.len PySem.boot_len (pa_cons (pv 7) pa_nil))))
                      (pss_cons (ps_set (i := 3) scBody.nd rfl (Or.inl rfl) (pe_op op_cat (pe_op op_cat (pv 3) (pe_lst (pa_cons (pe_tup (pa_cons pe_str (pa_cons (pv 2) (pa_cons (pe_op op_add (pv 5) pe_int) pa_nil)))) (pa_cons (pe_tup (pa_cons pe_str (pa_cons (pe_op op_add pe_int (pv 2)) (pa_cons (pe_op op_add (pv 5) pe_int) pa_nil)))) pa_nil)))) (pv 7)))
                      (pss_cons (ps_set (i := 3) scBody.nd rfl (Or.inl rfl) (pe_op op_cat (pv 3) (pe_lst (pa_cons (pe_tup (pa_cons pe_str (pa_cons (pe_op op_add pe_int (pv 2)) (pa_cons (pe_op op_add (pv 8) pe_int) pa_nil)))) (pa_cons (pe_tup (pa_cons pe_str (pa_cons pe_int (pa_cons (pe_op op_add (pv 8) pe_int) pa_nil)))) (pa_cons (pe_tup (pa_cons pe_str (pa_cons (pe_op op_add pe_int (pv 2)) (pa_cons (pe_op op_add (pv 8) pe_int) pa_nil)))) pa_nil))))))
                      (pss_one (ps_expr (pe_bm PySem.F.plainAttrs_list PySem.F.slot_list_append PySem.F.type_list_append mt_append (pv 3) (pa_cons (pe_tup (pa_cons pe_str (pa_cons (pe_op op_add (pv 8) pe_int) (pa_cons (pe_op op_add (pv 5) pe_int) pa_nil)))) pa_nil))))))))
                      pss_nil)))))))))
      (pss_one (ps_ret (pv 3))))), ?_⟩
    refine ⟨Nat.zero_le _, fun l0 hl0 => ?_⟩
    have B0 : BodyAt K H d sa ns l0 a 0 (upd H l0 (.lst [])) := ⟨[], [], (Dc.refl hE).new hl0, hl0, upd_same, .nil, Nat.le_refl _, Nat.le_refl 0, fun _ h => absurd h (by simp)⟩
    have C0 : Dc K H (upd H l0 (.lst [])) d sa ns := (Dc.refl hE).new hl0
    refine ⟨_, rfl, d, sa, ns, _, rfl, C0.ent, by decide, by decide, fun n3 H1 n30 n31 C1 => ?_⟩
    refine ⟨_, _, rfl, rfl, _, rfl, by omega, by omega, ?_⟩
    refine for_range (lo := 0) (n := (1 + n3).toNat) (fun i σ H' => ∃ (l : Addr) (x4 x5 x6 x7 x8 : Option V), σ = [some (.ref d), some (.int (a : Int)), some (.int (n : Int)), some (.ref l), x4, x5, x6, x7, x8] ∧ BodyAt K H d sa ns l a (i * PB n) H')
      ⟨l0, _, _, _, _, _, rfl, by rw [Nat.zero_mul]; exact B0.after C1⟩ ?_ ?_
    · rintro i σ H2 hi ⟨l, x4, x5, x6, x7, x8, rfl, bs, rs, C2, l0, hl, hR, hz, hT, ho⟩
      have hbl := Paired.length hR
      refine ⟨_, rfl, _, rfl, l, _, rfl, .inl (SqL.of hl), _, _, rfl, rfl, ?_⟩
      refine ⟨_, rfl, d, sa, ns, _, rfl, C2.ent, by decide, by decide, fun n6 H3 n60 n61 C3 => ?_⟩
      dsimp only [gName]
      refine if_elim (fun _ H4 => Dc K H2 H4 d sa ns) ?_ ?_
      · intro bb H4 C4
        have C24 := C2.trans C4
        have hl4 := C4.but _ _ (C2.ned l0) hl
        have hR4 := hR.kp C4.kp
        have hh : (a : Int) + ((bs.map V.ref).length : Int) = ((a + rs.length : Nat) : Int) := by rw [List.length_map, hbl]; rfl
        have hm : (i + 1) * PB n = i * PB n + PB n := Nat.succ_mul _ _
        have hp6 : 6 ≤ PB n := by cases n with
          | zero => exact Nat.le_refl _
          | succ n => show 6 ≤ 6 + 3 * PB n; omega
        have hi3 : i < 3 := by omega
        have hbig : i * PB n ≤ 300 := by
          have h1 := PB_le n2
          have h2 := Nat.mul_le_mul (show i ≤ 3 by omega) h1
          omega
        cases bb with
        | true =>
          refine ⟨_, rfl, .inl ⟨rfl, _, SqL.of hl4⟩, _, rfl, _, rfl, d, sa, ns, a + rs.length, ?_, C24.ent, fun t r H5 C5 ht hp ho5 => ?_⟩
          · show [V.ref d, V.int ((a : Int) + ((bs.map V.ref).length : Int))] = _
            rw [hh]
          · have hl5 := C5.but _ _ (C24.ned l0) hl4
            refine ⟨l, _, _, rfl, rfl, hl5, szl (by rw [List.length_map]; omega), ?_⟩
            refine ⟨l, _, _, _, _, _, rfl, bs ++ [t], rs ++ [r], (C24.trans C5).mut l0, l0, by rw [upd_same, List.map_append]; rfl, ?_, by rw [List.length_append, List.length_singleton]; omega, by rw [tests_app, tests_one, isT_plain hp, List.length_append, List.length_singleton]; omega, ?_⟩
            · exact RowsAt.kp (Paired.app (hR4.kp C5.kp) (Paired.one ht)) (Kp.lst hl5)
            · rw [List.length_append, List.length_singleton]
              exact all_snoc (fun y m => (ho y m).mono (by omega)) (ho5.mono (by omega))
        | false =>
          refine ⟨_, rfl, rfl, _, rfl, ite2 (fun _ => ?_) (fun _ => ?_)⟩
          · refine ⟨_, rfl, _, rfl, _, rfl, d, sa, ns, a + rs.length, ?_, C24.ent, fun l2 bs2 rs2 H5 C5 nl2 hl2 hR2 h21 h26 hT2 ho2 => ?_⟩
            · show [V.ref d, V.int ((a : Int) + ((bs.map V.ref).length : Int))] = _
              rw [hh]
            · have hl5 := C5.but _ _ (C24.ned l0) hl4
              have hb2 := Paired.length hR2
              refine ⟨l, l2, _, _, rfl, rfl, hl5, hl2, sz (by rw [List.length_map, List.length_map]; omega), fun l3 hl3 => ?_⟩
              refine ⟨l3, _, _, _, _, _, rfl, bs ++ bs2, rs ++ rs2, (C24.trans C5).new hl3, (C24.trans C5).here hl3, by rw [upd_same, List.map_append], ?_, by rw [List.length_append]; omega, by rw [tests_app, List.length_append]; omega, ?_⟩
              · exact RowsAt.kp (Paired.app (hR4.kp C5.kp) hR2) (Kp.new hl3)
              · rw [List.length_append]
                exact all_app (fun y m => (ho y m).mono (by omega)) (fun y m => (ho2 y m).mono (by omega))
          · refine ⟨_, rfl, _, _, rfl, rfl, _, rfl, ite2 (fun c => ?_) (fun _ => ?_)⟩
            · have hn0 : 0 < n := by
                have c := of_decide_eq_true c
                omega
              have hPn : PB n = 6 + 3 * PB (n - 1) := by
                obtain ⟨n', e⟩ : ∃ n', n = n' + 1 := ⟨n - 1, by omega⟩
                subst e
                rfl
              have hP1 := PB_le (n := n - 1) (by omega)
              refine ⟨_, rfl, _, rfl, _, _, rfl, rfl, _, rfl, _, _, rfl, rfl, ?_⟩
              refine hk hn0 _ _ _ _ ⟨d, sa, ns, a + rs.length + 2, ?_, by omega, C24.ent, fun li bsi rsi H5 C5 nli hli hRi hzi hTi hoi => ?_⟩
              · show [V.ref d, V.int ((a : Int) + ((bs.map V.ref).length : Int) + 2), V.int ((n : Int) - 1)] = [V.ref d, V.int ((a + rs.length + 2 : Nat) : Int), V.int ((n - 1 : Nat) : Int)]
                rw [hh, show ((n - 1 : Nat) : Int) = (n : Int) - 1 by omega]
                rfl
              · have hl5 := C5.but _ _ (C24.ned l0) hl4
                have hR5 := hR4.kp C5.kp
                have hbi := Paired.length hRi
                have C25 := C24.trans C5
                have nlli : l ≠ li := ne_of_none hl4 nli
                refine ⟨_, rfl, _, _, rfl, rfl, _, rfl, li, _, rfl, .inl (SqL.of hli), _, _, rfl, rfl, ?_⟩
                refine ⟨_, rfl, _, rfl, _, rfl, _, _, rfl, rfl, (by show 3 ≤ sizeLine; decide), fun t1 ht1 => ?_⟩
                refine alloc ht1 fun H6 s6 e6 => ?_
                refine ⟨_, rfl, _, _, rfl, rfl, _, rfl, _, _, rfl, rfl, (by show 3 ≤ sizeLine; decide), fun t2 ht2 => ?_⟩
                refine alloc ht2 fun H7 s7 e7 => ?_
                refine ⟨(by show 2 ≤ sizeLine; decide), fun l6 hl6 => ?_⟩
                refine alloc hl6 fun H8 s8 e8 => ?_
                have S58 := (s6.trans s7).trans s8
                refine ⟨l, l6, _, _, rfl, rfl, S58 _ _ hl5, e8, sz (by rw [List.length_map]; show _ + 2 ≤ _; omega), fun l7 hl7 => ?_⟩
                refine alloc hl7 fun H9 s9 e9 => ?_
                refine ⟨_, rfl, l7, li, _, _, rfl, rfl, e9, (S58.trans s9) _ _ hli, sz (by rw [List.length_append, List.length_map, List.length_map]; show _ + 2 + _ ≤ _; omega), fun l8 hl8 => ?_⟩
                refine alloc hl8 fun H10 s10 e10 => ?_
                refine ⟨_, rfl, _, rfl, _, _, rfl, rfl, _, rfl, _, _, rfl, rfl, (by show 3 ≤ sizeLine; decide), fun t3 ht3 => ?_⟩
                refine alloc ht3 fun H11 s11 e11 => ?_
                refine ⟨_, rfl, _, _, rfl, rfl, (by show 3 ≤ sizeLine; decide), fun t4 ht4 => ?_⟩
                refine alloc ht4 fun H12 s12 e12 => ?_
                refine ⟨_, rfl, _, _, rfl, rfl, _, rfl, _, _, rfl, rfl, (by show 3 ≤ sizeLine; decide), fun t5 ht5 => ?_⟩
                refine alloc ht5 fun H13 s13 e13 => ?_
                refine ⟨(by show 3 ≤ sizeLine; decide), fun l9 hl9 => ?_⟩
                refine alloc hl9 fun H14 s14 e14 => ?_
                have S1014 := ((s11.trans s12).trans s13).trans s14
                refine ⟨l8, l9, _, _, rfl, rfl, S1014 _ _ e10, e14, sz (by rw [List.length_append, List.length_append, List.length_map, List.length_map]; show _ + 2 + _ + 3 ≤ _; omega), fun l10 hl10 => ?_⟩
                refine alloc hl10 fun H15 s15 e15 => ?_
                refine ⟨_, rfl, .inl ⟨rfl, _, SqL.of e15⟩, _, rfl, _, _, rfl, rfl, _, rfl, _, _, rfl, rfl, (by show 3 ≤ sizeLine; decide), fun t6 ht6 => ?_⟩
                refine alloc ht6 fun H16 s16 e16 => ?_
                have S516 := (((S58.trans s9).trans s10).trans S1014).trans (s15.trans s16)
                have C26 := C25.same S516
                have n10 : H l10 = none := C25.here ((((S58.trans s9).trans s10).trans S1014).free hl10)
                have f10 : H16 l10 = some (.lst (((bs.map V.ref ++ [.ref t1, .ref t2]) ++ bsi.map V.ref) ++ [.ref t3, .ref t4, .ref t5])) := s16 _ _ e15
                refine ⟨l10, _, _, rfl, rfl, f10, szl (by simp only [List.length_append, List.length_map, List.length_cons, List.length_nil]; omega), ?_⟩
                refine ⟨l10, _, _, _, _, _, rfl, ((bs ++ [t1, t2]) ++ bsi) ++ ([t3, t4, t5] ++ [t6]),
                  ((rs ++ [Row.load n (a + rs.length + 1), .store (2 + n) (a + rs.length + 2)]) ++ rsi) ++ ([Row.load (2 + n) (a + rs.length + 2 + rsi.length + 1), .take 0 (a + rs.length + 2 + rsi.length + 2), .store (2 + n) (a + rs.length + 2 + rsi.length + 3)] ++ [Row.test (a + rs.length + 2 + rsi.length + 4) (a + rs.length + 2)]),
                  C26.mut n10, n10, ?_, ?_, ?_, ?_, ?_⟩
                · rw [upd_same]
                  simp only [List.map_append, List.map_cons, List.map_nil, List.append_assoc]
                · refine RowsAt.kp ?_ (Kp.lst f10)
                  have hbe : (a : Int) + ((bs.map V.ref).length : Int) + 2 + ((bsi.map V.ref).length : Int) = ((a + rs.length + 2 + rsi.length : Nat) : Int) := by rw [hh, List.length_map, hbi]; rfl
                  refine Paired.app (Paired.app (Paired.app (hR5.kp (Kp.same S516)) (.cons ?_ (.cons ?_ .nil))) (hRi.kp (Kp.same S516))) (Paired.app (.cons ?_ (.cons ?_ (.cons ?_ .nil))) (Paired.one ?_))
                  · refine (s7.trans (s8.trans (s9.trans (s10.trans (S1014.trans (s15.trans s16)))))) _ _ (e6.trans ?_)
                    show some (HO.tup [V.str "load", V.int (n : Int), V.int ((a : Int) + ((bs.map V.ref).length : Int) + 1)]) = _
                    rw [hh]
                    rfl
                  · refine (s8.trans (s9.trans (s10.trans (S1014.trans (s15.trans s16))))) _ _ (e7.trans ?_)
                    show some (HO.tup [V.str "store", V.int (2 + (n : Int)), V.int ((a : Int) + ((bs.map V.ref).length : Int) + 2)]) = _
                    rw [hh, show (2 : Int) + (n : Int) = ((2 + n : Nat) : Int) by omega]
                    rfl
                  · refine (s12.trans (s13.trans (s14.trans (s15.trans s16)))) _ _ (e11.trans ?_)
                    show some (HO.tup [V.str "load", V.int (2 + (n : Int)), V.int ((a : Int) + ((bs.map V.ref).length : Int) + 2 + ((bsi.map V.ref).length : Int) + 1)]) = _
                    rw [hbe, show (2 : Int) + (n : Int) = ((2 + n : Nat) : Int) by omega]
                    rfl
                  · refine (s13.trans (s14.trans (s15.trans s16))) _ _ (e12.trans ?_)
                    show some (HO.tup [V.str "take", V.int 0, V.int ((a : Int) + ((bs.map V.ref).length : Int) + 2 + ((bsi.map V.ref).length : Int) + 2)]) = _
                    rw [hbe]
                    rfl
                  · refine (s14.trans (s15.trans s16)) _ _ (e13.trans ?_)
                    show some (HO.tup [V.str "store", V.int (2 + (n : Int)), V.int ((a : Int) + ((bs.map V.ref).length : Int) + 2 + ((bsi.map V.ref).length : Int) + 3)]) = _
                    rw [hbe, show (2 : Int) + (n : Int) = ((2 + n : Nat) : Int) by omega]
                    rfl
                  · refine e16.trans ?_
                    show some (HO.tup [V.str "test", V.int ((a : Int) + ((bs.map V.ref).length : Int) + 2 + ((bsi.map V.ref).length : Int) + 4), V.int ((a : Int) + ((bs.map V.ref).length : Int) + 2)]) = _
                    rw [hbe, hh]
                    rfl
                · simp only [List.length_append, List.length_cons, List.length_nil]
                  omega
                · have t1 := isT_le (.test (a + rs.length + 2 + rsi.length + 4) (a + rs.length + 2))
                  have q1 : isT (.load n (a + rs.length + 1)) = 0 := isT_plain trivial
                  have q2 : isT (.store (2 + n) (a + rs.length + 2)) = 0 := isT_plain trivial
                  have q3 : isT (.load (2 + n) (a + rs.length + 2 + rsi.length + 1)) = 0 := isT_plain trivial
                  have q4 : isT (.take 0 (a + rs.length + 2 + rsi.length + 2)) = 0 := isT_plain trivial
                  have q5 : isT (.store (2 + n) (a + rs.length + 2 + rsi.length + 3)) = 0 := isT_plain trivial
                  simp only [tests_app, tests_cons, tests_one, show tests [] = 0 from rfl, q1, q2, q3, q4, q5, List.length_append, List.length_cons, List.length_nil]
                  omega
                · have hL : (((rs ++ [Row.load n (a + rs.length + 1), .store (2 + n) (a + rs.length + 2)]) ++ rsi) ++ ([Row.load (2 + n) (a + rs.length + 2 + rsi.length + 1), .take 0 (a + rs.length + 2 + rsi.length + 2), .store (2 + n) (a + rs.length + 2 + rsi.length + 3)] ++ [Row.test (a + rs.length + 2 + rsi.length + 4) (a + rs.length + 2)])).length = rs.length + rsi.length + 6 := by
                    simp only [List.length_append, List.length_cons, List.length_nil]
                    omega
                  rw [hL]
                  refine all_app (all_app (all_app (fun y m => (ho y m).mono (by omega)) ?_) (fun y m => (hoi y m).mono (by omega))) (all_app ?_ ?_)
                  all_goals
                    intro y m
                    simp only [List.mem_cons, List.mem_singleton, List.not_mem_nil, or_false] at m
                    first
                      | (rcases m with rfl | rfl | rfl <;> (simp only [Row.ok]; omega))
                      | (rcases m with rfl | rfl <;> (simp only [Row.ok]; omega))
                      | (rcases m with rfl; simp only [Row.ok]; omega)
            · exact ⟨l, _, _, _, _, _, rfl, bs, rs, C24, l0, hl4, hR4, by omega, hT, ho⟩
      · intro F' hF
        refine ⟨_, rfl, _, _, rfl, rfl, _, rfl, ite2 (fun _ => hF _ _ C3) (fun _ => ?_)⟩
        refine ⟨_, rfl, rfl, _, rfl, ite2 (fun _ => ?_) (fun _ => hF _ _ C3)⟩
        refine ⟨_, rfl, _, _, rfl, rfl, _, rfl, ite2 (fun _ => ?_) (fun _ => hF _ _ C3)⟩
        refine ⟨_, rfl, d, sa, ns, _, rfl, (C2.trans C3).ent, by decide, by decide, fun n7 H5 n70 n71 C5 => ?_⟩
        exact ⟨rfl, _, rfl, hF _ _ (C3.trans C5)⟩
    · rintro σ H2 ⟨l, x4, x5, x6, x7, x8, rfl, bs, rs, C2, l0, hl, hR, hz, hT, ho⟩
      refine ⟨_, rfl, kq l bs rs H2 C2 l0 hl hR ?_ hT ho⟩
      refine Nat.le_trans hz (Nat.mul_le_mul_right _ ?_)
      omega
theorem ok_body (cBody : FBody K mg) (cFork : FFork K mg) (cStraight : FStraight K mg) (cNext : FNext K mg) (T : Bt mg) : ∀ n : Nat, FnOk P w K mg base CX0 (n + 4) cBody.f cBody.fd pBody (spBody K n)
  | 0 => body_one (k := 3) cBody cFork cStraight cNext T (Nat.le_refl _) ok_no (fun h => absurd h (Nat.lt_irrefl 0))
  | n + 1 => body_one (k := n + 4) cBody cFork cStraight cNext T (by omega) (ok_body cBody cFork cStraight cNext T n) (fun _ vs H Q E h => h)
def spBodyU (K : Frg) : Sp := fun vs H Q E => ∃ n, n ≤ 2 ∧ spBody K n vs H Q E
theorem ok_bodyU (cBody : FBody K mg) (cFork : FFork K mg) (cStraight : FStraight K mg) (cNext : FNext K mg) (T : Bt mg) : FnOk P w K mg base CX0 6 cBody.f cBody.fd pBody (spBodyU K) := by
  refine ⟨fun vs H Q E ⟨n, hn, h⟩ => (ok_body (P := P) (w := w) (base := base) cBody cFork cStraight cNext T n).len _ _ _ _ h, fun A outer s H args us vs Q E hr he hb hv ⟨n, hn, h⟩ => ?_⟩
  exact ((ok_body cBody cFork cStraight cNext T n).mono (by omega)).run A outer s H args us vs Q E hr he hb hv h
end
end DL
namespace DL
open PySem L2 DLR
/-! ### programs -/
structure Prog where
  ws : List Int
  rows : List Row
structure Good (p : Prog) : Prop where
  r1 : 1 ≤ p.rows.length
  r40 : p.rows.length ≤ 40
  w8 : p.ws.length ≤ 8
  num : ∀ x ∈ p.ws, -1000000 ≤ x ∧ x ≤ 1000000
  ok : ∀ r ∈ p.rows, r.ok p.ws.length p.rows.length
def ProgAt (H : Hp) (a : Addr) (p : Prog) : Prop :=
  ∃ (wa ra : Addr) (bs : List Addr), H a = some (.tup [.ref wa, .ref ra]) ∧ H wa = some (.tup (p.ws.map V.int)) ∧ H ra = some (.tup (bs.map V.ref)) ∧ RowsAt H bs p.rows
theorem ProgAt.kp {H H' : Hp} {a : Addr} {p : Prog} (h : ProgAt H a p) (k : Kp H H') : ProgAt H' a p := by
  obtain ⟨wa, ra, bs, h1, h2, h3, h4⟩ := h
  exact ⟨wa, ra, bs, k _ _ h1, k _ _ h2, k _ _ h3, h4.kp k⟩
def nI (n : Nat) : V := .int (n : Int)
def PopAt (K : Frg) (H0 : Hp) (d sa : Addr) (ns : List Int) (D l : Addr) (all : List Nat) (i : Nat) (H : Hp) : Prop :=
  ∃ ks ls : List Nat, Dc K H0 H d sa ns ∧ H0 D = none ∧ H0 l = none ∧ D ≠ l ∧ H D = some (.lst (ks.map nI)) ∧ H l = some (.lst (ls.map nI)) ∧ (ks ++ ls).Perm all ∧ ks.length = i
theorem PopAt.perm {K : Frg} {H0 H : Hp} {d sa : Addr} {ns : List Int} {D l : Addr} {all : List Nat} (h : PopAt K H0 d sa ns D l all all.length H) :
    ∃ ks : List Nat, Dc K H0 H d sa ns ∧ H0 D = none ∧ H D = some (.lst (ks.map nI)) ∧ ks.Perm all := by
  obtain ⟨ks, ls, C, nD, nl, ne, hD, hl, hp, hk⟩ := h
  have e := hp.length_eq
  rw [List.length_append, hk] at e
  have z : ls = [] := List.length_eq_zero_iff.mp (by omega)
  subst z
  rw [List.append_nil] at hp
  exact ⟨ks, C, nD, hD, hp⟩
theorem erase_pm {α : Type} : ∀ {l : List α} {j : Nat} {x : α}, l[j]? = some x → (x :: l.eraseIdx j).Perm l
  | [], j, x, h => by simp at h
  | y :: l, 0, x, h => by
    have e : y = x := by simpa using h
    subst e
    exact List.Perm.refl _
  | y :: l, j + 1, x, h => by
    have ih := erase_pm (l := l) (j := j) (x := x) (by simpa using h)
    exact (List.Perm.swap y x _).trans (List.Perm.cons y ih)
theorem sl1 {xs : List V} (h : 1 ≤ xs.length) : cutV xs none (some 1) = xs.take 1 := by
  unfold cutV
  have e : HT.sIx xs.length xs.length (some 1) = min 1 xs.length := HT.sIx_nat _ _ 1
  rw [e, HT.sIx_none, List.drop_zero, Nat.sub_zero, Nat.min_eq_left h]
theorem drop1 {xs : List V} : cutV xs (some 1) none = xs.drop 1 := by
  unfold cutV
  have e : HT.sIx xs.length 0 (some 1) = min 1 xs.length := HT.sIx_nat _ _ 1
  rw [e, HT.sIx_none]
  cases xs with
  | nil => rfl
  | cons x xs =>
    have q : min 1 (x :: xs).length = 1 := Nat.min_eq_left (by simp)
    rw [q]
    exact List.take_of_length_le (by simp)
theorem map_erase {α β : Type} (f : α → β) : ∀ (l : List α) (j : Nat), (l.eraseIdx j).map f = (l.map f).eraseIdx j
  | [], _ => rfl
  | _ :: _, 0 => rfl
  | x :: l, j + 1 => by
    show f x :: (l.eraseIdx j).map f = f x :: (l.map f).eraseIdx j
    rw [map_erase f l j]
theorem pop_perm {ks ls all : List Nat} {j : Nat} {x : Nat} (h : (ks ++ ls).Perm all) (e : ls[j]? = some x) : ((ks ++ [x]) ++ ls.eraseIdx j).Perm all := by
  refine List.Perm.trans ?_ h
  rw [List.append_assoc]
  exact List.Perm.append_left _ (erase_pm e)
theorem nI_get {l : List Nat} {j : Nat} (h : j < l.length) : (l.map nI)[j]? = some (.int ((l[j] : Nat) : Int)) := by
  rw [List.getElem?_map, List.getElem?_eq_getElem h]
  rfl
theorem nI_getD {l : List Nat} {j : Nat} (h : j < l.length) : (l.map nI)[j]? = some (.int ((l.getD j 0 : Nat) : Int)) := by
  rw [nI_get h, List.getD_eq_getElem?_getD, List.getElem?_eq_getElem h]
  rfl
theorem nI_flat (l : List Nat) : (l.map nI).all flatV = true := by
  rw [List.all_eq_true]
  intro x hx
  obtain ⟨n, _, rfl⟩ := List.mem_map.mp hx
  rfl
theorem nI_none {l : List Nat} {x m : Nat} {z : V} (h : l[m]? ≠ some x) (e : (l.map nI)[m]? = some z) : eqV z (.int (x : Int)) = false := by
  rw [List.getElem?_map] at e
  cases q : l[m]? with
  | none => rw [q] at e; cases e
  | some y =>
    rw [q] at e
    have ez : nI y = z := Option.some.inj e
    subst ez
    show ((y : Int) == (x : Int)) = false
    refine beq_eq_false_iff_ne.mpr fun z => h ?_
    rw [q, Int.ofNat_inj.mp z]
theorem rgV_nI (n : Nat) : rgV 0 (n : Int) = (List.range n).map nI := by
  unfold rgV
  have e : ((n : Int) - 0).toNat = n := by omega
  rw [e]
  refine List.map_congr_left fun i _ => ?_
  show V.int (0 + (i : Int)) = V.int (i : Int)
  rw [Int.zero_add]
theorem rgV_nI1 (n : Nat) : rgV 1 (n : Int) = ((List.range (n - 1)).map (· + 1)).map nI := by
  unfold rgV
  have e : ((n : Int) - 1).toNat = n - 1 := by omega
  rw [e, List.map_map]
  refine List.map_congr_left fun i _ => ?_
  show V.int (1 + (i : Int)) = V.int ((i + 1 : Nat) : Int)
  rw [show ((i + 1 : Nat) : Int) = 1 + (i : Int) by omega]
def Row.ren (f g : Nat → Nat) : Row → Row
  | .load w n => .load (f w) (g n)
  | .add w n => .add (f w) (g n)
  | .take w n => .take (f w) (g n)
  | .store w n => .store (f w) (g n)
  | .say n => .say (g n)
  | .test a b => .test (g a) (g b)
  | .stop => .stop
def Row.uses : Row → Bool
  | .load _ _ => true
  | .add _ _ => true
  | .take _ _ => true
  | .store _ _ => true
  | _ => false
def Row.word : Row → Str
  | .load _ _ => "load"
  | .add _ _ => "add"
  | .take _ _ => "take"
  | .store _ _ => "store"
  | .say _ => "say"
  | .test _ _ => "test"
  | .stop => "stop"
theorem Row.w0 (r : Row) : (rowVs r)[0]? = some (.str r.word) := by cases r <;> rfl
theorem Row.ren_len (f g : Nat → Nat) (r : Row) : (rowVs (r.ren f g)).length = (rowVs r).length := by cases r <;> rfl
theorem Row.ren_w (f g : Nat → Nat) (r : Row) : (rowVs r).take 1 = (rowVs (r.ren f g)).take 1 := by cases r <;> rfl
theorem Row.ren_ok {f g : Nat → Nat} {W N : Nat} (hf : ∀ x, x < W → f x < W) (hg : ∀ x, x < N → g x < N) : ∀ {r : Row}, r.ok W N → (r.ren f g).ok W N := fun {r} h => by
  cases r <;> simp only [Row.ok, Row.ren] at * <;> first | exact ⟨hf _ h.1, hg _ h.2⟩ | exact ⟨hg _ h.1, hg _ h.2⟩ | exact hg _ h
theorem Row.ren_at {f g : Nat → Nat} {W N : Nat} : ∀ {r : Row} {i : Nat}, r.ok W N → i + 1 < (rowVs r).length → ∃ x : Nat, (rowVs r)[i + 1]? = some (.int (x : Int)) ∧
    ((i == 0 && r.uses) = true → x < W ∧ (rowVs (r.ren f g))[i + 1]? = some (.int (f x : Int))) ∧ ((i == 0 && r.uses) = false → x < N ∧ (rowVs (r.ren f g))[i + 1]? = some (.int (g x : Int))) := by
  intro r i h hi
  have hi3 : i < 2 := by have := Row.vs_len r; omega
  match i, hi3 with
  | 0, _ =>
    cases r <;> first
      | exact ⟨_, rfl, fun _ => ⟨h.1, rfl⟩, fun e => Bool.noConfusion e⟩
      | exact ⟨_, rfl, fun e => Bool.noConfusion e, fun _ => ⟨h, rfl⟩⟩
      | exact ⟨_, rfl, fun e => Bool.noConfusion e, fun _ => ⟨h.1, rfl⟩⟩
      | (exfalso; simp [rowVs] at hi)
  | 1, _ =>
    cases r <;> first
      | exact ⟨_, rfl, fun e => Bool.noConfusion e, fun _ => ⟨h.2, rfl⟩⟩
      | (exfalso; simp [rowVs] at hi)
theorem Row.in4 (r : Row) : inV (.str r.word) [.str "load", .str "add", .str "take", .str "store"] = r.uses := by cases r <;> (dsimp only [Row.word, Row.uses]; decide +kernel)
theorem first_of {l : List Nat} {x : Nat} (h : x ∈ l) : ∃ j, j < l.length ∧ l[j]? = some x ∧ ∀ m, m < j → l[m]? ≠ some x := by
  induction l with
  | nil => cases h
  | cons y l ih =>
    by_cases e : y = x
    · exact ⟨0, by simp, by simp [e], fun m hm => absurd hm (Nat.not_lt_zero _)⟩
    · obtain ⟨j, h1, h2, h3⟩ := ih ((List.mem_cons.mp h).resolve_left fun z => e z.symm)
      refine ⟨j + 1, by simp; omega, by simpa using h2, fun m hm => ?_⟩
      cases m with
      | zero => simpa using e
      | succ m => simpa using h3 m (by omega)
theorem refs_of {F : Addr → Row → Prop} : ∀ {l : List V}, (∀ i, i < l.length → ∃ b r, l[i]? = some (.ref b) ∧ F b r) → ∃ bs rs, l = bs.map V.ref ∧ Paired F bs rs
  | [], _ => ⟨[], [], rfl, .nil⟩
  | x :: l, h => by
    obtain ⟨b, r, h1, h2⟩ := h 0 (by simp)
    obtain ⟨bs, rs, h3, h4⟩ := refs_of (l := l) fun i hi => by
      obtain ⟨b, r, q1, q2⟩ := h (i + 1) (by simp; omega)
      exact ⟨b, r, by simpa using q1, q2⟩
    have e : x = .ref b := by simpa using h1
    exact ⟨b :: bs, r :: rs, by rw [e, h3]; rfl, .cons h2 h4⟩
theorem asg_elim {te : TE} {g : TG} {D : Ends} {σ : L2.St} {H : Hp} (R : V → Hp → Prop) (key : ∀ v H', R v H' → g v σ H' D.nx) (test : ∀ Q' : VK, (∀ v H', R v H' → Q' v H') → te σ H Q') : tAsg te g D σ H := test _ key
theorem ixN_nat {n x : Nat} (h : x < n) : ixN n (x : Int) = some x := by
  unfold ixN
  rw [if_pos (by omega), if_pos (by omega)]
  rfl
structure MixAt (K : Frg) (H0 : Hp) (d sa : Addr) (ns : List Int) (D1 ln lf : Addr) (ks nums ts : List Nat) (W N : Nat) (i : Nat) (H : Hp) : Prop where
  dc : Dc K H0 H d sa ns
  nf : H0 lf = none
  ne1 : D1 ≠ lf
  ne2 : ln ≠ lf
  names : H D1 = some (.lst (ks.map nI))
  numbers : H ln = some (.lst (nums.map nI))
  found : ∃ fs : List V, H lf = some (.lst fs) ∧ fs.length = N ∧ ∀ x, x < N → x ∈ nums.take i → ∃ b r, fs[x]? = some (.ref b) ∧ H b = some (.tup (rowVs r)) ∧ r.ok W N ∧ ∃ j, nums[j]? = some x ∧ isT r = ts.getD j 0
theorem MixAt.same {K : Frg} {H0 H H' : Hp} {d sa : Addr} {ns : List Int} {D1 ln lf : Addr} {ks nums ts : List Nat} {W N i : Nat} (m : MixAt K H0 d sa ns D1 ln lf ks nums ts W N i H) (s : Same1 H H') : MixAt K H0 d sa ns D1 ln lf ks nums ts W N i H' := by
  obtain ⟨fs, h1, h2, h3⟩ := m.found
  refine ⟨m.dc.same s, m.nf, m.ne1, m.ne2, s _ _ m.names, s _ _ m.numbers, fs, s _ _ h1, h2, fun x hx hm => ?_⟩
  obtain ⟨b, r, q1, q2, q3⟩ := h3 x hx hm
  exact ⟨b, r, q1, s _ _ q2, q3⟩
theorem MixAt.put {K : Frg} {H0 H : Hp} {d sa : Addr} {ns : List Int} {D1 ln lf : Addr} {ks nums ts : List Nat} {W N i y : Nat} {t : Addr} {r : Row} {fs : List V} (m : MixAt K H0 d sa ns D1 ln lf ks nums ts W N i H) (hf : H lf = some (.lst fs)) (hy : nums[i]? = some y) (hyN : y < N)
    (ht : H t = some (.tup (rowVs r))) (ho : r.ok W N) (hT : isT r = ts.getD i 0) : MixAt K H0 d sa ns D1 ln lf ks nums ts W N (i + 1) (upd H lf (.lst (fs.set y (.ref t)))) := by
  obtain ⟨fs', h1, h2, h3⟩ := m.found
  rw [hf] at h1
  have e : fs = fs' := by injection (Option.some.inj h1)
  subst e
  have kp : Kp H (upd H lf (.lst (fs.set y (.ref t)))) := Kp.lst hf
  refine ⟨m.dc.mut m.nf, m.nf, m.ne1, m.ne2, by rw [upd_ne m.ne1]; exact m.names, by rw [upd_ne m.ne2]; exact m.numbers, fs.set y (.ref t), upd_same, by rw [List.length_set]; exact h2, fun x hx hm => ?_⟩
  by_cases e : y = x
  · subst e
    exact ⟨t, r, by rw [List.getElem?_set_self (by omega)], kp _ _ ht, ho, i, hy, hT⟩
  · rw [List.getElem?_set_ne e]
    rw [List.take_add_one, hy] at hm
    rcases List.mem_append.mp hm with q | q
    · obtain ⟨b, r, q1, q2, q3⟩ := h3 x hx q
      exact ⟨b, r, q1, kp _ _ q2, q3⟩
    · have q : x = y := by simpa using q
      exact absurd q.symm e
theorem isT_of {r r' : Row} (h : rowVs r = rowVs r') : isT r = isT r' := by
  unfold isT
  rw [h]
theorem isT_ren (f g : Nat → Nat) (r : Row) : isT (r.ren f g) = isT r := by
  unfold isT
  have e : (rowVs (r.ren f g))[0]? = (rowVs r)[0]? := by cases r <;> rfl
  rw [e]
theorem permN_sum {α : Type} {f : α → Nat} {l m : List α} (h : l.Perm m) : (l.map f).sum = (m.map f).sum := by
  induction h with
  | nil => rfl
  | cons x _ ih => rw [List.map_cons, List.map_cons, List.sum_cons, List.sum_cons, ih]
  | swap x y l =>
    rw [List.map_cons, List.map_cons, List.map_cons, List.map_cons, List.sum_cons, List.sum_cons, List.sum_cons, List.sum_cons]
    omega
  | trans _ _ a b => rw [a, b]
theorem tests_range (rs : List Row) : tests rs = ((List.range rs.length).map fun x => isT (rs.getD x .stop)).sum := by
  unfold tests
  congr 1
  refine List.ext_getElem (by simp) fun i h1 h2 => ?_
  rw [List.length_map] at h1
  rw [List.getElem_map, List.getElem_map, List.getElem_range, List.getD_eq_getElem?_getD, List.getElem?_eq_getElem h1]
  rfl
theorem tests_perm {rs rs' : List Row} {nums : List Nat} (hl : rs'.length = rs.length) (hp : nums.Perm (List.range rs.length)) (h : ∀ x, x < rs.length → ∃ j, nums[j]? = some x ∧ isT (rs'.getD x .stop) = (rs.map isT).getD j 0) : tests rs' = tests rs := by
  have nd : nums.Nodup := hp.nodup_iff.mpr List.nodup_range
  rw [tests_range rs', hl, ← permN_sum hp]
  unfold tests
  congr 1
  have nl : nums.length = rs.length := by rw [hp.length_eq, List.length_range]
  refine List.ext_getElem (by rw [List.length_map, List.length_map, nl]) fun i h1 h2 => ?_
  rw [List.length_map] at h1 h2
  rw [List.getElem_map, List.getElem_map]
  have hx : nums[i] < rs.length := List.mem_range.mp (hp.mem_iff.mp (List.getElem_mem h1))
  obtain ⟨j, hj, e⟩ := h nums[i] hx
  obtain ⟨hj1, hj2⟩ := List.getElem?_eq_some_iff.mp hj
  have ij : j = i := (List.getElem_inj nd).mp hj2
  subst ij
  rw [e, List.getD_eq_getElem?_getD, List.getElem?_map, List.getElem?_eq_getElem h2]
  rfl
abbrev sMixed : Stmt := top 57
abbrev pMixed : List Str := ["_law_d", "_law_program"]
abbrev FMixed (K : Frg) (mg : Str → Option Value) := Fd K mg "_law_mixed" sMixed pMixed
def spMixed (K : Frg) : Sp := fun vs H Q _ => ∃ (d sa : Addr) (ns : List Int) (a : Addr) (p : Prog), vs = [.ref d, .ref a] ∧ Ent K H d sa ns ∧ ProgAt H a p ∧ Good p ∧
  ∀ b q H', Dc K H H' d sa ns → ProgAt H' b q → Good q → tests q.rows = tests p.rows → q.rows.length = p.rows.length → Q (.ref b) H'
section
variable {P : Program} {w : World} {K : PySem.W.Frag} {mg : Str → Option Value} {base : Heap}
abbrev nMixed : List Str := ["_law_d", "_law_program", "_law_worths", "_law_rows", "_law_left", "_law_names", "_law_row", "_law_numbers", "_law_found", "_law_number", "_law_told_here", "_law_k", "_law_is_worth", "_law_order", "_law_worth"]
theorem scMixed : FnScope nMixed pMixed (defScope sMixed) := ⟨rfl, rfl, rfl, by decide +kernel, rfl, by decide +kernel, by decide +kernel⟩
theorem ok_mixed (cMixed : FMixed K mg) (cNext : FNext K mg) (T : Bt mg) : FnOk P w K mg base CX0 2 cMixed.f cMixed.fd pMixed (spMixed K) := by
  have GNext : FnOk P w K mg base CX0 1 cNext.f cNext.fd ["_law_dice_here", "_law_many"] (spNext K) := ok_next cNext.F T
  refine cMixed.F.ok scMixed (fun vs H Q E h => ?_) (fun cdv A outer s H vs Q E hr h => ?_)
  · obtain ⟨d, sa, ns, a, p, rfl, _⟩ := h
    rfl
  · obtain ⟨d, sa, ns, a, p, rfl, hE, ⟨wa, ra, bs, ha, hwa, hra, hR⟩, g, kq⟩ := h
    refine ⟨_, (pss_cons (ps_asg (pv 1) (pg_tup rfl (pgs_cons (pg_name (i := 2) scMixed.nd rfl (Or.inr rfl)) (pgs_cons (pg_name (i := 3) scMixed.nd rfl (Or.inl rfl)) pgs_nil))))
      (pss_cons (ps_set (i := 4) scMixed.nd rfl (Or.inr rfl) (pe_listRg rfl (by rfl) T.list (prg_1 (by rfl) T.range (pe_callB call_len_seq (by rfl) T.len PySem.boot_len (pa_cons (pv 2) pa_nil)))))
      (pss_cons (ps_set (i := 5) scMixed.nd rfl (Or.inr rfl) (pe_lc (own := [("_law_worth", 14)]) (g := gName 14) (tt := tYes) rfl scMixed.nd (pi_tup (pv 2)) (blkOk_by (N := nMixed) (sc := defScope sMixed) (by decide +kernel)) (fun _ _ _ _ _ => (pg_name (i := 14) scMixed.nd rfl (Or.inl rfl))) (fun _ _ _ _ _ => pts_nil) (fun _ _ _ _ _ => (pe_bmK K rfl PySem.F.plainAttrs_list PySem.F.slot_list_pop PySem.F.type_list_pop mt_popAt (pv 4) (pa_cons (pe_call GNext (hr.mono (by first | omega | decide)) (by rfl) cNext.m cNext.F.kp cNext.b .nil pass0 (pa_cons (pv 0) (pa_cons (pe_callB (call_lenK K rfl) (by rfl) T.len PySem.boot_len (pa_cons (pv 4) pa_nil)) pa_nil))) pa_nil)))))
      (pss_cons (ps_set (i := 4) scMixed.nd rfl (Or.inr rfl) (pe_listRg rfl (by rfl) T.list (prg_2 (by rfl) T.range pe_int (pe_callB call_len_seq (by rfl) T.len PySem.boot_len (pa_cons (pv 3) pa_nil)))))
      (pss_cons (ps_set (i := 7) scMixed.nd rfl (Or.inl rfl) (pe_op op_cat (pe_lst (pa_cons pe_int pa_nil)) (pe_lc (own := [("_law_row", 6)]) (g := gName 6) (tt := tYes) rfl scMixed.nd (pi_tup (pe_slice sl_tupS (pv 3) (po_some pe_int) po_none)) (blkOk_by (N := nMixed) (sc := defScope sMixed) (by decide +kernel)) (fun _ _ _ _ _ => (pg_name (i := 6) scMixed.nd rfl (Or.inl rfl))) (fun _ _ _ _ _ => pts_nil) (fun _ _ _ _ _ => (pe_bmK K rfl PySem.F.plainAttrs_list PySem.F.slot_list_pop PySem.F.type_list_pop mt_popAt (pv 4) (pa_cons (pe_call GNext (hr.mono (by first | omega | decide)) (by rfl) cNext.m cNext.F.kp cNext.b .nil pass0 (pa_cons (pv 0) (pa_cons (pe_callB (call_lenK K rfl) (by rfl) T.len PySem.boot_len (pa_cons (pv 4) pa_nil)) pa_nil))) pa_nil))))))
      (pss_cons (ps_set (i := 8) scMixed.nd rfl (Or.inl rfl) (pe_op op_rep (pe_lst (pa_cons pe_non pa_nil)) (pe_callB call_len_seq (by rfl) T.len PySem.boot_len (pa_cons (pv 3) pa_nil))))
      (pss_cons (ps_for PassesOwn.never rfl (pi_enumT (by rfl) T.enumerate (pa_cons (pv 3) pa_nil)) (pg_tup rfl (pgs_cons (pg_name (i := 9) scMixed.nd rfl (Or.inl rfl)) (pgs_cons (pg_name (i := 6) scMixed.nd rfl (Or.inl rfl)) pgs_nil)))
          (pss_cons (ps_set (i := 10) scMixed.nd rfl (Or.inl rfl) (pe_slice sl_tupS (pv 6) po_none (po_some pe_int)))
          (pss_cons (ps_for PassesOwn.never rfl (pi_range2 rfl T.range (pa_cons pe_int (pa_cons (pe_callB call_len_seq (by rfl) T.len PySem.boot_len (pa_cons (pv 6) pa_nil)) pa_nil))) (pg_name (i := 11) scMixed.nd rfl (Or.inl rfl))
              (pss_cons (ps_set (i := 12) scMixed.nd rfl (Or.inl rfl) (pe_and (pe_cmpR op_eq (pv 11) pe_int (nomark _)) (pe_one (pe_cmpR op_in_seq (pe_ix ix_tup (pv 6) pe_int (fun _ _ => rfl)) (pe_tup (pa_cons pe_str (pa_cons pe_str (pa_cons pe_str (pa_cons pe_str pa_nil))))) rfl))))
              (pss_one (ps_set (i := 10) scMixed.nd rfl (Or.inl rfl) (pe_op op_catS (pv 10) (pe_tup (pa_cons (pe_ix ix_list (pe_ifExp (pt_val (pv 12)) (pv 5) (pv 7)) (pe_ix ix_tup (pv 6) (pv 11) (fun _ _ => rfl)) (fun _ _ => rfl)) pa_nil)))))))
          (pss_one (ps_asg (pv 10) (pg_sub (pv 8) (pe_ix ix_list (pv 7) (pv 9) (fun _ _ => rfl)) set_list))))))
      (pss_cons (ps_setLc (i := 13) (own := [("_law_worth", 14)]) (g := gName 14) (tt := tYes) rfl scMixed.nd rfl rfl (sw_true rfl rfl rfl (by decide +kernel)) (pi_range1 rfl T.range (pa_cons (pe_callB call_len_seq (by rfl) T.len PySem.boot_len (pa_cons (pv 2) pa_nil)) pa_nil)) (blkOk_by (N := nMixed) (sc := defScope sMixed) (by decide +kernel)) (fun _ _ _ _ _ => (pg_name (i := 14) scMixed.nd rfl (Or.inl rfl))) (fun _ _ _ _ _ => pts_nil) (fun _ _ _ _ _ => (pe_bmK K rfl PySem.F.plainAttrs_list PySem.F.slot_list_index PySem.F.type_list_index (mt_indexK K rfl) (pv 5) (pa_cons (pv 14) pa_nil))))
      (pss_one (ps_ret (pe_tup (pa_cons (pe_callTy call_tuple_of (by rfl) T.tuple (by decide +kernel) (pa_cons (pe_lc (own := [("_law_worth", 14)]) (g := gName 14) (tt := tYes) rfl scMixed.nd (pi_list (pv 13)) (blkOk_by (N := nMixed) (sc := defScope sMixed) (by decide +kernel)) (fun _ _ _ _ _ => (pg_name (i := 14) scMixed.nd rfl (Or.inl rfl))) (fun _ _ _ _ _ => pts_nil) (fun _ _ _ _ _ => (pe_ix (ix_tupK K rfl) (pv 2) (pv 14) (fun _ _ => rfl)))) pa_nil)) (pa_cons (pe_callTy call_tuple_of (by rfl) T.tuple (by decide +kernel) (pa_cons (pv 8) pa_nil)) pa_nil))))))))))))), ?_⟩
    have hK0 := Dc.refl hE
    have hbr := Paired.length hR
    refine ⟨_, rfl, a, _, rfl, SqT.of ha, rfl, .ref wa, _, rfl, .ref ra, _, rfl, rfl, ?_⟩
    have hW8 := g.w8
    have hR40 := g.r40
    have hR1 := g.r1
    refine ⟨_, rfl, wa, _, rfl, .inr (SqT.of hwa), _, rfl, RgOk.of_le (Int.le_refl _) (by rw [List.length_map]; omega) (by omega) (by omega), fun l1 hl1 => ?_⟩
    refine alloc hl1 fun H1 s1 e1 => ?_
    rw [List.length_map, rgV_nI] at e1
    have C1 := hK0.same s1
    refine ⟨_, rfl, wa, rfl, ⟨_, SqT.of (s1 _ _ hwa)⟩, fun D1 hD1 => ?_⟩
    have nDl : D1 ≠ l1 := (ne_of_none e1 hD1).symm
    refine lc_tup (K := K) (a := wa) (xs := p.ws.map V.int) (PopAt K H d sa ns D1 l1 (List.range p.ws.length))
      ⟨[], _, C1.new hD1, C1.here hD1, hl1, nDl, upd_same, by rw [upd_ne nDl.symm]; exact e1, List.Perm.refl _, rfl⟩ (fun i H2 _ ⟨_, _, C, _⟩ => SqT.of (C.kp _ _ hwa)) ?_ ?_
    · rintro i x H2 hi ⟨ks, ls, C2, nD, nl, ne, hD, hl, hp, hk⟩
      have hiW : i < p.ws.length := by
        have q := (List.getElem?_eq_some_iff.mp hi).1
        rwa [List.length_map] at q
      have hle := hp.length_eq
      rw [List.length_append, hk, List.length_range] at hle
      refine ⟨rfl, _, rfl, .inl ⟨rfl, _, SqL.of hl⟩, _, rfl, _, rfl, l1, _, rfl, .inl (SqL.of hl), d, sa, ns, _, rfl, C2.ent, ?_, ?_, fun n H3 n0 n1 C3 => ?_⟩
      · rw [List.length_map]; omega
      · rw [List.length_map]; omega
      · rw [List.length_map] at n1
        obtain ⟨j, hj⟩ : ∃ j : Nat, n = (j : Int) := ⟨n.toNat, by omega⟩
        subst hj
        have hjl : j < ls.length := by omega
        have hl3 := C3.but _ _ (C2.ned nl) hl
        have hD3 := C3.but _ _ (C2.ned nD) hD
        refine ⟨l1, _, _, j, _, rfl, rfl, hl3, by omega, by omega, ?_, nI_get hjl, _, ?_, szl (show (ks.map nI).length < 100000 by rw [List.length_map]; omega), ?_⟩
        · rw [List.length_map, seqIndex_of (by omega) (by omega)]
          rfl
        · rw [upd_ne ne]; exact hD3
        · refine ⟨ks ++ [ls[j]], ls.eraseIdx j, ((C2.trans C3).mut nl).mut nD, nD, nl, ne, ?_, ?_, pop_perm hp (List.getElem?_eq_getElem hjl), by rw [List.length_append, hk]; rfl⟩
          · rw [upd_same, List.map_append]; rfl
          · rw [upd_ne ne.symm, upd_same, map_erase]
    · intro H2 h2
      rw [List.length_map] at h2
      obtain ⟨ks, C2, nD1, hks, hkp⟩ := PopAt.perm (all := List.range p.ws.length) (by rw [List.length_range]; exact h2)
      have hra2 := C2.kp _ _ hra
      refine ⟨_, rfl, ra, _, rfl, .inr (SqT.of hra2), _, _, rfl, rfl, RgOk.of_le (by decide) (by rw [List.length_map]; omega) (by decide) (by omega), fun l2 hl2 => ?_⟩
      refine alloc hl2 fun H3 s3 e3 => ?_
      rw [List.length_map, hbr, rgV_nI1] at e3
      have C3 := C2.same s3
      refine ⟨(by show 1 ≤ sizeLine; decide), fun l0 hl0 => ?_⟩
      refine alloc hl0 fun H4 s4 e4 => ?_
      have C4 := C3.same s4
      refine ⟨_, rfl, _, rfl, ra, _, rfl, C4.kp _ _ hra, fun p2 H5 s5 e5 => ?_⟩
      rw [drop1] at e5
      have C5 := C4.same s5
      refine ⟨p2, rfl, ⟨_, SqT.of e5⟩, fun D2 hD2 => ?_⟩
      have hxl : ((bs.map V.ref).drop 1).length = p.rows.length - 1 := by rw [List.length_drop, List.length_map, hbr]
      have el2 : H5 l2 = some (.lst (((List.range (p.rows.length - 1)).map (· + 1)).map nI)) := (s4.trans s5) _ _ e3
      have el0 : H5 l0 = some (.lst [.int 0]) := s5 _ _ e4
      have hks5 : H5 D1 = some (.lst (ks.map nI)) := ((s3.trans s4).trans s5) _ _ hks
      have nDl2 : D2 ≠ l2 := (ne_of_none el2 hD2).symm
      have nl2 : H l2 = none := C2.here hl2
      have nl0 : H l0 = none := C3.here hl0
      have nDa : D1 ≠ l2 := ne_of_none hks hl2
      have nDb : D1 ≠ D2 := ne_of_none hks5 hD2
      have nl02 : l0 ≠ l2 := (ne_of_none e3 hl0).symm
      have nl0D : l0 ≠ D2 := ne_of_none el0 hD2
      refine lc_tup (K := K) (a := p2) (xs := (bs.map V.ref).drop 1)
        (fun i H6 => PopAt K H d sa ns D2 l2 ((List.range (p.rows.length - 1)).map (· + 1)) i H6 ∧ H6 D1 = some (.lst (ks.map nI)) ∧ H6 l0 = some (.lst [.int 0]) ∧ H6 p2 = some (.tup ((bs.map V.ref).drop 1)))
        ⟨⟨[], _, C5.new hD2, C5.here hD2, nl2, nDl2, upd_same, by rw [upd_ne nDl2.symm]; exact el2, List.Perm.refl _, rfl⟩, by rw [upd_ne nDb]; exact hks5, by rw [upd_ne nl0D]; exact el0,
          by rw [upd_ne (ne_of_none e5 hD2)]; exact e5⟩ (fun i H2 _ ⟨_, _, _, q⟩ => SqT.of q) ?_ ?_
      · rintro i x H2 hi ⟨⟨ks2, ls, C2, nD, nl, ne, hD, hl, hp, hk⟩, g1, g0, g2⟩
        have hiW : i < p.rows.length - 1 := by
          have q := (List.getElem?_eq_some_iff.mp hi).1
          rwa [hxl] at q
        have hle := hp.length_eq
        rw [List.length_append, hk, List.length_map, List.length_range] at hle
        refine ⟨rfl, _, rfl, .inl ⟨rfl, _, SqL.of hl⟩, _, rfl, _, rfl, l2, _, rfl, .inl (SqL.of hl), d, sa, ns, _, rfl, C2.ent, ?_, ?_, fun n H3 n0 n1 C3 => ?_⟩
        · rw [List.length_map]; omega
        · rw [List.length_map]; omega
        · rw [List.length_map] at n1
          obtain ⟨j, hj⟩ : ∃ j : Nat, n = (j : Int) := ⟨n.toNat, by omega⟩
          subst hj
          have hjl : j < ls.length := by omega
          have hl3 := C3.but _ _ (C2.ned nl) hl
          have hD3 := C3.but _ _ (C2.ned nD) hD
          refine ⟨l2, _, _, j, _, rfl, rfl, hl3, by omega, by omega, ?_, nI_get hjl, _, ?_, szl (show (ks2.map nI).length < 100000 by rw [List.length_map]; omega), ?_⟩
          · rw [List.length_map, seqIndex_of (by omega) (by omega)]
            rfl
          · rw [upd_ne ne]; exact hD3
          · refine ⟨⟨ks2 ++ [ls[j]], ls.eraseIdx j, ((C2.trans C3).mut nl).mut nD, nD, nl, ne, ?_, ?_, pop_perm hp (List.getElem?_eq_getElem hjl), by rw [List.length_append, hk]; rfl⟩, ?_, ?_, ?_⟩
            · rw [upd_same, List.map_append]; rfl
            · rw [upd_ne ne.symm, upd_same, map_erase]
            · rw [upd_ne nDb, upd_ne nDa]; exact C3.but _ _ (C2.ned nD1) g1
            · rw [upd_ne nl0D, upd_ne nl02]; exact C3.but _ _ (C2.ned nl0) g0
            · exact ((C3.kp.trans (Kp.lst hl3)).trans (Kp.lst (by rw [upd_ne ne]; exact hD3))) _ _ g2
      · rintro H6 ⟨h6, g1, g0, g2⟩
        rw [hxl] at h6
        obtain ⟨ms, C6, nD2, hms, hmp⟩ := PopAt.perm (all := (List.range (p.rows.length - 1)).map (· + 1)) (by rw [List.length_map, List.length_range]; exact h6)
        have hml := hmp.length_eq
        rw [List.length_map, List.length_range] at hml
        refine ⟨l0, D2, _, _, rfl, rfl, g0, hms, sz (by rw [List.length_map]; show 1 + _ ≤ _; omega), fun ln hln => ?_⟩
        refine alloc hln fun H7 s7 e7 => ?_
        have e7 : H7 ln = some (.lst ((0 :: ms).map nI)) := e7
        have C7 := C6.same s7
        refine ⟨(by show 1 ≤ sizeLine; decide), fun l7 hl7 => ?_⟩
        refine alloc hl7 fun H8 s8 e8 => ?_
        have C8 := C7.same s8
        have hra8 := C8.kp _ _ hra
        refine ⟨_, rfl, ra, _, rfl, .inr (SqT.of hra8), l7, _, _, rfl, rfl, e8, ?_, ?_, ?_, fun lf hlf => ?_⟩
        · rw [List.length_map]; omega
        · rw [List.length_map]; omega
        · refine sz ?_
          show 1 * _ ≤ _
          rw [List.length_map]; omega
        refine alloc hlf fun H9 s9 e9 => ?_
        rw [List.flatten_replicate_singleton, List.length_map, hbr] at e9
        have C9 := C8.same s9
        have n1f : D1 ≠ lf := ne_of_none ((s7.trans s8) _ _ g1) hlf
        have n2f : ln ≠ lf := ne_of_none (s8 _ _ e7) hlf
        have hmem : ∀ x, x ∈ (0 :: ms) ↔ x < p.rows.length := fun x => by
          rw [List.mem_cons, hmp.mem_iff, List.mem_map]
          constructor
          · rintro (q | ⟨y, q1, q2⟩)
            · omega
            · have := List.mem_range.mp q1; omega
          · intro q
            cases x with
            | zero => exact .inl rfl
            | succ x => exact .inr ⟨x, List.mem_range.mpr (by omega), rfl⟩
        have hpm : (0 :: ms).Perm (List.range p.rows.length) := by
          have e : List.range p.rows.length = 0 :: (List.range (p.rows.length - 1)).map (· + 1) := by
            rw [show p.rows.length = (p.rows.length - 1) + 1 by omega, List.range_succ_eq_map]
            rfl
          rw [e]
          exact hmp.cons 0
        have hkm : ∀ x, x ∈ ks ↔ x < p.ws.length := fun x => by rw [hkp.mem_iff, List.mem_range]
        have hnl : (0 :: ms).length = p.rows.length := by show ms.length + 1 = _; omega
        have hkl : ks.length = p.ws.length := by rw [hkp.length_eq, List.length_range]
        have hf : ∀ x, x < p.ws.length → ks.getD x 0 < p.ws.length := fun x hx => by
          rw [List.getD_eq_getElem?_getD, List.getElem?_eq_getElem (by omega)]
          exact (hkm _).mp (List.getElem_mem _)
        have hg : ∀ x, x < p.rows.length → (0 :: ms).getD x 0 < p.rows.length := fun x hx => by
          rw [List.getD_eq_getElem?_getD, List.getElem?_eq_getElem (by omega)]
          exact (hmem _).mp (List.getElem_mem _)
        refine ⟨_, rfl, ra, _, rfl, SqT.of (C9.kp _ _ hra), for_enumT (K := K) (a := ra) (xs := bs.map V.ref)
          (fun i σ H' => ∃ x6 x9 x10 x11 x12 : Option V, σ = [some (.ref d), some (.ref a), some (.ref wa), some (.ref ra), some (.ref l2), some (.ref D1), x6, some (.ref ln), some (.ref lf), x9, x10, x11, x12, none, none] ∧
            MixAt K H d sa ns D1 ln lf ks (0 :: ms) (p.rows.map isT) p.ws.length p.rows.length i H')
          ⟨_, _, _, _, _, rfl, C9, C8.here hlf, n1f, n2f, ((s7.trans s8).trans s9) _ _ g1, (s8.trans s9) _ _ e7, _, e9, List.length_replicate, fun _ _ q => absurd q (by simp)⟩
          (fun i σ H' ⟨_, _, _, _, _, _, m⟩ => SqT.of (m.dc.kp _ _ hra)) ?_ ?_⟩
        · rintro i x T' σ H' hi ⟨x6, x9, x10, x11, x12, rfl, m⟩ hT'
          have hiR : i < p.rows.length := by
            have q := (List.getElem?_eq_some_iff.mp hi).1
            rwa [List.length_map, hbr] at q
          obtain ⟨r, hr1⟩ : ∃ r, p.rows[i]? = some r := ⟨_, List.getElem?_eq_getElem hiR⟩
          obtain ⟨b, hb1, hb2⟩ := Paired.getR hR hr1
          have hrm : r ∈ p.rows := List.mem_of_getElem? hr1
          have hro := g.ok r hrm
          have ex : x = V.ref b := by
            rw [List.getElem?_map, hb1] at hi
            exact (Option.some.inj hi).symm
          subst ex
          refine alloc hT' fun H2 s2 e2 => ?_
          have m2 := m.same s2
          have hb3 := m2.dc.kp _ _ hb2
          refine ⟨T', _, rfl, SqT.of e2, rfl, _, _, rfl, _, _, rfl, rfl, ?_⟩
          refine ⟨_, rfl, _, rfl, b, _, rfl, hb3, fun t H3 s3 e3 => ?_⟩
          have rl := Row.vs_len r
          rw [sl1 rl.1, Row.ren_w (fun x => ks.getD x 0) (fun x => (0 :: ms).getD x 0)] at e3
          have m3 := m2.same s3
          have hb4 := s3 _ _ hb3
          refine ⟨_, rfl, b, _, rfl, .inr (SqT.of hb4), _, _, rfl, ⟨by decide, by decide, by omega, by omega⟩, ?_⟩
          refine for_range (lo := 1) (n := (((rowVs r).length : Int) - 1).toNat) (fun j σ H' => ∃ (x11 x12 : Option V) (t : Addr), σ = [some (.ref d), some (.ref a), some (.ref wa), some (.ref ra), some (.ref l2), some (.ref D1), some (.ref b), some (.ref ln), some (.ref lf), some (.int (i : Int)), some (.ref t), x11, x12, none, none] ∧
            Same1 H3 H' ∧ H' t = some (.tup ((rowVs (r.ren (fun x => ks.getD x 0) (fun x => (0 :: ms).getD x 0))).take (1 + j)))) ⟨_, _, t, rfl, Same.refl _, e3⟩ ?_ ?_
          · rintro j σ H4 hj ⟨x11, x12, t, rfl, S4, ht⟩
            have hj1 : j + 1 < (rowVs r).length := by omega
            obtain ⟨x, hx, hx1, hx2⟩ := Row.ren_at (f := fun x => ks.getD x 0) (g := fun x => (0 :: ms).getD x 0) hro hj1
            have hb5 := S4 _ _ hb4
            have ej : (1 : Int) + (j : Int) = ((j + 1 : Nat) : Int) := by omega
            refine asg_elim (fun v H' => v = .bl (j == 0 && r.uses) ∧ Same1 H4 H') ?_ ?_
            · rintro v H5 ⟨rfl, s5⟩
              have S5 := S4.trans s5
              have m5 := m3.same S5
              have fin : ∀ (y : Nat) (t5 t6 : Addr) (H6 H7 : Hp) (c : Bool), (rowVs (r.ren (fun x => ks.getD x 0) (fun x => (0 :: ms).getD x 0)))[j + 1]? = some (.int (y : Int)) → Same1 H5 H6 → Same1 H6 H7 →
                  H7 t6 = some (.tup ((rowVs (r.ren (fun x => ks.getD x 0) (fun x => (0 :: ms).getD x 0))).take (1 + j) ++ [.int (y : Int)])) →
                  Same1 H3 H7 ∧ H7 t6 = some (.tup ((rowVs (r.ren (fun x => ks.getD x 0) (fun x => (0 :: ms).getD x 0))).take (1 + (j + 1)))) := by
                intro y t5 t6 H6 H7 c q1 q2 q3 q4
                refine ⟨(S5.trans q2).trans q3, q4.trans ?_⟩
                rw [show 1 + (j + 1) = (1 + j) + 1 by omega, List.take_add_one, show 1 + j = j + 1 by omega, q1]
                rfl
              cases hc : (j == 0 && r.uses) with
              | true =>
                obtain ⟨q1, q2⟩ := hx1 hc
                refine ⟨_, rfl, _, rfl, _, rfl, _, rfl, _, rfl, _, rfl, b, _, _, .int (x : Int), rfl, rfl, SqT.of (s5 _ _ hb5), by rw [ej]; exact atI_nat hx, D1, _, _, _, rfl, rfl, SqL.of m5.names, atI_nat (nI_getD (by rw [hkl]; exact q1)), (by show 1 ≤ sizeLine; decide), fun t5 ht5 => ?_⟩
                refine alloc ht5 fun H6 s6 e6 => ?_
                refine ⟨t, t5, _, _, rfl, rfl, (s5.trans s6) _ _ ht, e6, sz (by rw [List.length_take]; show _ + 1 ≤ _; omega), fun t6 H7 s7 e7 => ?_⟩
                exact ⟨_, _, t6, rfl, fin _ t5 t6 H6 H7 true q2 s6 s7 e7⟩
              | false =>
                obtain ⟨q1, q2⟩ := hx2 hc
                refine ⟨_, rfl, _, rfl, _, rfl, _, rfl, _, rfl, _, rfl, b, _, _, .int (x : Int), rfl, rfl, SqT.of (s5 _ _ hb5), by rw [ej]; exact atI_nat hx, ln, _, _, _, rfl, rfl, SqL.of m5.numbers, atI_nat (nI_getD (by rw [hnl]; exact q1)), (by show 1 ≤ sizeLine; decide), fun t5 ht5 => ?_⟩
                refine alloc ht5 fun H6 s6 e6 => ?_
                refine ⟨t, t5, _, _, rfl, rfl, (s5.trans s6) _ _ ht, e6, sz (by rw [List.length_take]; show _ + 1 ≤ _; omega), fun t6 H7 s7 e7 => ?_⟩
                exact ⟨_, _, t6, rfl, fin _ t5 t6 H6 H7 true q2 s6 s7 e7⟩
            · intro Q' hQ
              refine ⟨_, rfl, rfl, _, rfl, ite2 (fun c => ?_) (fun c => ?_)⟩
              · have c := of_decide_eq_true c
                have c : (1 : Int) + (j : Int) = 1 := by injection c
                have j0 : j = 0 := by omega
                subst j0
                refine ⟨_, rfl, b, _, _, _, rfl, rfl, SqT.of hb5, atI_nat (j := 0) (Row.w0 r), (by show 4 ≤ sizeLine; decide), fun t4 ht4 => ?_⟩
                refine alloc ht4 fun H5 s5 e5 => ?_
                refine ⟨t4, _, rfl, .inr (SqT.of e5), rfl, rfl, hQ _ _ ⟨?_, s5⟩⟩
                show V.bl (inV (.str r.word) [.str "load", .str "add", .str "take", .str "store"]) = V.bl (0 == 0 && r.uses)
                rw [Row.in4]
                rfl
              · refine hQ _ _ ⟨?_, Same.refl _⟩
                have hj0 : j ≠ 0 := fun e => by subst e; exact c (decide_eq_true rfl)
                rw [beq_false_of_ne hj0]
                rfl
          · rintro σ H4 ⟨x11, x12, t, rfl, S4, ht⟩
            have m4 := m3.same S4
            rw [List.take_of_length_le (by rw [Row.ren_len]; omega)] at ht
            obtain ⟨fs, hf1, hf2, hf3⟩ := m4.found
            have hy := nI_getD (l := 0 :: ms) (j := i) (by rw [hnl]; exact hiR)
            have hy2 : (0 :: ms)[i]? = some ((0 :: ms).getD i 0) := by
              rw [List.getD_eq_getElem?_getD, List.getElem?_eq_getElem (by rw [hnl]; exact hiR)]
              rfl
            have hyN := hg i hiR
            refine ⟨_, rfl, _, rfl, _, rfl, _, rfl, ln, _, _, _, rfl, rfl, SqL.of m4.numbers, atI_nat hy, lf, fs, _, (0 :: ms).getD i 0, rfl, rfl, hf1, ixN_nat (by rw [hf2]; exact hyN), ?_⟩
            exact ⟨_, _, _, _, _, rfl, m4.put hf1 hy2 hyN ht (Row.ren_ok hf hg hro) (by rw [isT_ren, List.getD_eq_getElem?_getD, List.getElem?_map, hr1]; rfl)⟩
        · rintro σ H' ⟨x6, x9, x10, x11, x12, rfl, m⟩
          rw [List.length_map, hbr] at m
          obtain ⟨fs, hf1, hf2, hf3⟩ := m.found
          obtain ⟨bs', rs', hfs, hF⟩ := refs_of (F := fun b r => H' b = some (.tup (rowVs r)) ∧ r.ok p.ws.length p.rows.length) (l := fs) (fun i hi => by
            obtain ⟨b, r, q1, q2, q3, _⟩ := hf3 i (by omega) (by rw [List.take_of_length_le (by omega)]; exact (hmem i).mpr (by omega))
            exact ⟨b, r, q1, q2, q3⟩)
          have hwa2 := m.dc.kp _ _ hwa
          have hfl : bs'.length = p.rows.length := by rw [← hf2, hfs, List.length_map]
          have hrl : rs'.length = p.rows.length := by rw [← Paired.length hF, hfl]
          have hTT : tests rs' = tests p.rows := by
            refine tests_perm (nums := 0 :: ms) hrl hpm fun x hx => ?_
            obtain ⟨b, r, q1, q2, q3, j, q4, q5⟩ := hf3 x (by omega) (by rw [List.take_of_length_le (by omega)]; exact (hmem x).mpr hx)
            refine ⟨j, q4, ?_⟩
            rw [← q5]
            have hx' : x < rs'.length := by omega
            obtain ⟨b', hb1, hb2⟩ := Paired.getR hF (List.getElem?_eq_getElem hx')
            have eb : b' = b := by
              rw [hfs, List.getElem?_map, hb1] at q1
              exact V.ref.inj (Option.some.inj q1)
            subst eb
            have e2 := hb2.1
            rw [q2] at e2
            rw [List.getD_eq_getElem?_getD, List.getElem?_eq_getElem hx']
            exact (isT_of (HO.tup.inj (Option.some.inj e2))).symm
          refine ⟨_, rfl, wa, _, rfl, .inr (SqT.of hwa2), _, rfl, by rw [List.length_map]; omega, by rw [List.length_map]; omega, fun D3 hD3 => ?_⟩
          have n13 : D1 ≠ D3 := ne_of_none m.names hD3
          have nf3 : lf ≠ D3 := ne_of_none hf1 hD3
          refine lc_range (lo := 0) (n := (((p.ws.map V.int).length : Nat) : Int).toNat) (fun i H2 => ∃ js : List Nat, Dc K H H2 d sa ns ∧ H D3 = none ∧ H2 D3 = some (.lst (js.map nI)) ∧ js.length = i ∧ (∀ x ∈ js, x < p.ws.length) ∧ Kp H' H2 ∧ H2 D1 = some (.lst (ks.map nI)) ∧ H2 lf = some (.lst fs))
            ⟨[], m.dc.new hD3, m.dc.here hD3, upd_same, rfl, fun _ h => absurd h (by simp), Kp.new hD3, by rw [upd_ne n13]; exact m.names, by rw [upd_ne nf3]; exact hf1⟩ ?_ ?_
          · rintro i H2 hi ⟨js, C, nD3, hj, hjl, hjm, k2, g1, g2⟩
            have hiW : i < p.ws.length := by rw [List.length_map] at hi; omega
            obtain ⟨j, j1, j2, j3⟩ := first_of ((hkm i).mpr hiW)
            have e0 : (0 : Int) + (i : Int) = (i : Int) := Int.zero_add _
            rw [e0]
            refine ⟨rfl, _, rfl, .inl ⟨rfl, _, SqL.of g1⟩, _, rfl, D1, _, _, j, .int (i : Int), rfl, rfl, SqL.of g1, rfl, nI_flat ks, ?_, ?_, fun m z hm e => nI_none (j3 m hm) e, _, hj, szl (by rw [List.length_map]; omega), ?_⟩
            · rw [List.getElem?_map, j2]; rfl
            · show ((i : Int) == (i : Int)) = true
              exact beq_self_eq_true _
            · refine ⟨js ++ [j], C.mut nD3, nD3, by rw [upd_same, List.map_append]; rfl, by rw [List.length_append, hjl]; rfl, all_snoc hjm (by omega), k2.trans (Kp.lst hj), by rw [upd_ne n13]; exact g1, by rw [upd_ne nf3]; exact g2⟩
          · rintro H2 ⟨js, C, nD3, hj, hjl, hjm, k2, g1, g2⟩
            rw [List.length_map, Int.toNat_natCast] at hjl
            have hwa3 := k2 _ _ hwa2
            refine ⟨_, rfl, D3, rfl, ⟨_, SqL.of hj⟩, fun D4 hD4 => ?_⟩
            have nf4 : lf ≠ D4 := ne_of_none g2 hD4
            have n34 : D3 ≠ D4 := ne_of_none hj hD4
            refine lc_list (K := K) (a := D3) (xs := js.map nI) (fun i H3 => ∃ us : List Int, Dc K H H3 d sa ns ∧ H D4 = none ∧ H3 D4 = some (.lst (us.map V.int)) ∧ us.length = i ∧ (∀ x ∈ us, x ∈ p.ws) ∧ Kp H2 H3 ∧ H3 D3 = some (.lst (js.map nI)) ∧ H3 lf = some (.lst fs))
              ⟨[], C.new hD4, C.here hD4, upd_same, rfl, fun _ h => absurd h (by simp), Kp.new hD4, by rw [upd_ne n34]; exact hj, by rw [upd_ne nf4]; exact g2⟩ (fun i H3 _ ⟨_, _, _, _, _, _, _, q, _⟩ => SqL.of q) ?_ ?_
            · rintro i x H3 hi ⟨us, C3, nD4, hu, hul, hum, k3, g3, g4⟩
              have hij : i < js.length := by
                have q := (List.getElem?_eq_some_iff.mp hi).1
                rwa [List.length_map] at q
              have ex : x = .int ((js[i] : Nat) : Int) := by
                rw [nI_get hij] at hi
                exact (Option.some.inj hi).symm
              subst ex
              have hjw := hjm _ (List.getElem_mem hij)
              have hat : (p.ws.map V.int)[js[i]]? = some (.int p.ws[js[i]]) := by
                rw [List.getElem?_map, List.getElem?_eq_getElem hjw]
                rfl
              refine ⟨rfl, _, rfl, _, rfl, wa, _, _, _, rfl, rfl, SqT.of (k3 _ _ hwa3), atI_nat hat, _, hu, szl (by rw [List.length_map]; omega), ?_⟩
              exact ⟨us ++ [p.ws[js[i]]], C3.mut nD4, nD4, by rw [upd_same, List.map_append]; rfl, by rw [List.length_append, hul]; rfl, all_snoc hum (List.getElem_mem _), k3.trans (Kp.lst hu), by rw [upd_ne n34]; exact g3, by rw [upd_ne nf4]; exact g4⟩
            · rintro H3 ⟨us, C3, nD4, hu, hul, hum, k3, g3, g4⟩
              rw [List.length_map, hjl] at hul
              refine ⟨D4, _, rfl, .inl ⟨SqL.of hu, fun t1 ht1 => ?_⟩⟩
              refine alloc ht1 fun H4 s4 e4 => ?_
              refine ⟨_, rfl, lf, _, rfl, .inl ⟨SqL.of (s4 _ _ g4), fun t2 ht2 => ?_⟩⟩
              refine alloc ht2 fun H5 s5 e5 => ?_
              refine ⟨(by show 2 ≤ sizeLine; decide), fun t3 ht3 => ?_⟩
              refine alloc ht3 fun H6 s6 e6 => ?_
              have S36 := (s4.trans s5).trans s6
              have kF : Kp H' H6 := (k2.trans k3).trans (Kp.same S36)
              refine kq t3 ⟨us, rs'⟩ H6 (C3.same S36) ⟨t1, t2, bs', e6, (s5.trans s6) _ _ e4, ?_, ?_⟩ ⟨?_, ?_, ?_, ?_, ?_⟩ hTT hrl
              · rw [← hfs]; exact s6 _ _ e5
              · exact Paired.mapP hF fun b r q => kF _ _ q.1
              · show 1 ≤ rs'.length
                omega
              · show rs'.length ≤ 40
                omega
              · show us.length ≤ 8
                omega
              · exact fun x hx => g.num x (hum x hx)
              · intro r hr
                show r.ok us.length rs'.length
                rw [hul, hrl]
                obtain ⟨i, hi⟩ := List.getElem?_of_mem hr
                obtain ⟨b, _, q⟩ := Paired.getR hF hi
                exact q.2
end
end DL
namespace DL
open PySem L2 DLR
def rowD : Row → PyData
  | .load w n => .tuple [.str "load", .int (w : Int), .int (n : Int)]
  | .add w n => .tuple [.str "add", .int (w : Int), .int (n : Int)]
  | .take w n => .tuple [.str "take", .int (w : Int), .int (n : Int)]
  | .store w n => .tuple [.str "store", .int (w : Int), .int (n : Int)]
  | .say n => .tuple [.str "say", .int (n : Int)]
  | .test a b => .tuple [.str "test", .int (a : Int), .int (b : Int)]
  | .stop => .tuple [.str "stop"]
theorem rowD_dp {K : Frg} {H : Hp} {b : Addr} {r : Row} (h : H b = some (.tup (rowVs r))) : Dp K H (.ref b) (rowD r) := by
  cases r <;> exact .tup (SqT.of h) (by first | exact .cons (.str _) (.cons (.int _) (.cons (.int _) .nil)) | exact .cons (.str _) (.cons (.int _) .nil) | exact .cons (.str _) .nil)
theorem rowsD_dp {K : Frg} {H : Hp} : ∀ {bs : List Addr} {rs : List Row}, RowsAt H bs rs → DpAll K H (bs.map V.ref) (rs.map rowD)
  | _, _, .nil => .nil
  | _, _, .cons h t => .cons (rowD_dp h) (rowsD_dp t)
theorem strOk4 : (["load", "add", "take", "store", "say", "test", "stop"] : List Str).all PyData.strOk = true := by decide +kernel
theorem rowD_lay (r : Row) : (rowD r).canLay0 = true := by
  have k : ∀ x ∈ (["load", "add", "take", "store", "say", "test", "stop"] : List Str), PyData.strOk x = true := List.all_eq_true.mp strOk4
  cases r <;> (simp only [rowD, PyData.canLay0, PyData.canLayAll0, Bool.and_true, Bool.and_eq_true]; apply k; simp)
theorem rowsD_lay : ∀ rs : List Row, PyData.canLayAll0 (rs.map rowD) = true
  | [] => rfl
  | r :: rs => by
    show ((rowD r).canLay0 && PyData.canLayAll0 (rs.map rowD)) = true
    rw [rowD_lay, rowsD_lay rs]
    rfl
theorem rowsD_dep : ∀ rs : List Row, PyData.depthAll (rs.map rowD) ≤ 3
  | [] => by decide
  | r :: rs => by
    have h := rowsD_dep rs
    show max (rowD r).depth (PyData.depthAll (rs.map rowD)) ≤ 3
    have : (rowD r).depth ≤ 3 := by cases r <;> simp [rowD, PyData.depth, PyData.depthAll]
    omega
theorem eq_nil {K : Frg} {H : Hp} {l e : Addr} {bs : List Addr} {rs : List Row} {Q : VK} (hl : H l = some (.lst (bs.map V.ref))) (hR : RowsAt H bs rs) (he : H e = some (.lst [])) (q : Q (.bl rs.isEmpty) H) : rEqD K (.ref l) (.ref e) H Q := by
  refine ⟨.list (rs.map rowD), .list [], .lst (SqL.of hl) (rowsD_dp hR), .lst (SqL.of he) .nil, ?_, by decide +kernel, ?_⟩
  · show (PyData.canLayAll0 (rs.map rowD) && decide (PyData.depth (.list (rs.map rowD)) ≤ 64)) = true
    rw [rowsD_lay]
    refine decide_eq_true ?_
    have := rowsD_dep rs
    show _ + _ ≤ 64
    omega
  · have e : PyData.eqv (.list (rs.map rowD)) (.list []) = rs.isEmpty := by cases rs <;> rfl
    rw [e]; exact q
theorem seq_elim {t u : TS} {D : Ends} {σ : L2.St} {H : Hp} (R : L2.St → Hp → Prop) (key : ∀ σ' H', R σ' H' → u D σ' H') (first : ∀ N : L2.St → Hp → Prop, (∀ σ' H', R σ' H' → N σ' H') → t { D with nx := N } σ H) : tSeq t u D σ H := first _ key
def RowsL (K : Frg) (H0 : Hp) (d sa : Addr) (ns : List Int) (t3 : Addr) (ws : List Int) (l : Addr) (z : Nat) (H : Hp) : Prop :=
  ∃ bs rs, Dc K H0 H d sa ns ∧ H t3 = some (.tup (ws.map V.int)) ∧ H l = some (.lst (bs.map V.ref)) ∧ RowsAt H bs rs ∧ rs.length ≤ z ∧ 4 * tests rs ≤ rs.length ∧ ∀ r ∈ rs, r.ok 8 (rs.length + 1)
abbrev sStopping : Stmt := top 58
abbrev pStopping : List Str := ["_law_d", "_law_deep"]
abbrev FStopping (K : Frg) (mg : Str → Option Value) := Fd K mg "_law_stopping" sStopping pStopping
def spStopping (K : Frg) : Sp := fun vs H Q _ => ∃ (d sa : Addr) (ns : List Int) (n : Nat), vs = [.ref d, .int (n : Int)] ∧ n ≤ 2 ∧ Ent K H d sa ns ∧
  ∀ b q H', Dc K H H' d sa ns → ProgAt H' b q → Good q → 4 * tests q.rows ≤ q.rows.length → Q (.ref b) H'
section
variable {P : Program} {w : World} {K : PySem.W.Frag} {mg : Str → Option Value} {base : Heap}
abbrev nStopping : List Str := ["_law_d", "_law_deep", "_law_worths", "_law_rows", "_law_program", "_law_k"]
theorem scStopping : FnScope nStopping pStopping (defScope sStopping) := ⟨rfl, rfl, rfl, by decide +kernel, rfl, by decide +kernel, by decide +kernel⟩
theorem ok_stopping (cStopping : FStopping K mg) (cMixed : FMixed K mg) (cBody : FBody K mg) (cFork : FFork K mg) (cStraight : FStraight K mg) (cNext : FNext K mg) (T : Bt mg) : FnOk P w K mg base CX0 7 cStopping.f cStopping.fd pStopping (spStopping K) := by
  have GNext : FnOk P w K mg base CX0 1 cNext.f cNext.fd ["_law_dice_here", "_law_many"] (spNext K) := ok_next cNext.F T
  have GStraight : FnOk P w K mg base CX0 2 cStraight.f cStraight.fd ["_law_d", "_law_at"] (spStraight K) := ok_straight cStraight cNext T
  have GBody : FnOk P w K mg base CX0 6 cBody.f cBody.fd pBody (spBodyU K) := ok_bodyU cBody cFork cStraight cNext T
  have GMixed : FnOk P w K mg base CX0 2 cMixed.f cMixed.fd pMixed (spMixed K) := ok_mixed cMixed cNext T
  refine cStopping.F.ok scStopping (fun vs H Q E h => ?_) (fun cdv A outer s H vs Q E hr h => ?_)
  · obtain ⟨d, sa, ns, n, rfl, _⟩ := h
    rfl
  · obtain ⟨d, sa, ns, n, rfl, hn, hE, kq⟩ := h
    refine ⟨_, (pss_cons (ps_set (i := 2) scStopping.nd rfl (Or.inl rfl) (pe_tup (pa_cons pe_int (pa_cons (pe_op op_add pe_int (pe_call GNext (hr.mono (by first | omega | decide)) (by rfl) cNext.m cNext.F.kp cNext.b .nil pass0 (pa_cons (pv 0) (pa_cons pe_int pa_nil)))) (pa_cons (pe_op op_add pe_int (pe_call GNext (hr.mono (by first | omega | decide)) (by rfl) cNext.m cNext.F.kp cNext.b .nil pass0 (pa_cons (pv 0) (pa_cons pe_int pa_nil)))) (pa_cons pe_int (pa_cons pe_int pa_nil)))))))
      (pss_cons (ps_set (i := 2) scStopping.nd rfl (Or.inl rfl) (pe_op op_catS (pv 2) (pe_callTy call_tuple_of (by rfl) T.tuple (by decide +kernel) (pa_cons (pe_lc (own := [("_law_k", 5)]) (g := gName 5) (tt := tYes) rfl scStopping.nd (pi_range1 rfl T.range (pa_cons pe_int pa_nil)) (blkOk_by (N := nStopping) (sc := defScope sStopping) (by decide +kernel)) (fun _ _ _ _ _ => (pg_name (i := 5) scStopping.nd rfl (Or.inl rfl))) (fun _ _ _ _ _ => pts_nil) (fun _ _ _ _ _ => (pe_op op_sub (pe_call GNext (hr.mono (by first | omega | decide)) (by rfl) cNext.m cNext.F.kp cNext.b .nil pass0 (pa_cons (pv 0) (pa_cons pe_int pa_nil))) pe_int))) pa_nil))))
      (pss_cons (ps_set (i := 3) scStopping.nd rfl (Or.inl rfl) (pe_call GBody (hr.mono (by first | omega | decide)) (by rfl) cBody.m cBody.F.kp cBody.b .nil pass0 (pa_cons (pv 0) (pa_cons pe_int (pa_cons (pv 1) pa_nil)))))
      (pss_cons (ps_while PassesOwn.never (pt_cmpR op_gt (pe_callB call_len_seq (by rfl) T.len PySem.boot_len (pa_cons (pv 3) pa_nil)) pe_int (nomark _))
          (pss_one (ps_set (i := 3) scStopping.nd rfl (Or.inl rfl) (pe_call GBody (hr.mono (by first | omega | decide)) (by rfl) cBody.m cBody.F.kp cBody.b .nil pass0 (pa_cons (pv 0) (pa_cons pe_int (pa_cons pe_int pa_nil)))))))
      (pss_cons (ps_if (pt_cmpR (op_eqD hr.units) (pv 3) (pe_lst pa_nil) (nomark _))
          (pss_one (ps_set (i := 3) scStopping.nd rfl (Or.inl rfl) (pe_lst (pa_cons (pe_call GStraight (hr.mono (by first | omega | decide)) (by rfl) cStraight.m cStraight.F.kp cStraight.b .nil pass0 (pa_cons (pv 0) (pa_cons pe_int pa_nil))) pa_nil))))
          pss_nil)
      (pss_cons (ps_set (i := 4) scStopping.nd rfl (Or.inl rfl) (pe_tup (pa_cons (pv 2) (pa_cons (pe_op op_catS (pe_callTy call_tuple_of (by rfl) T.tuple (by decide +kernel) (pa_cons (pv 3) pa_nil)) (pe_tup (pa_cons (pe_tup (pa_cons pe_str pa_nil)) pa_nil))) pa_nil))))
      (pss_one (ps_ret (pe_ifExp (pt_cmpR op_eq (pe_call GNext (hr.mono (by first | omega | decide)) (by rfl) cNext.m cNext.F.kp cNext.b .nil pass0 (pa_cons (pv 0) (pa_cons pe_int pa_nil))) pe_int (nomark _)) (pe_call GMixed (hr.mono (by first | omega | decide)) (by rfl) cMixed.m cMixed.F.kp cMixed.b .nil pass0 (pa_cons (pv 0) (pa_cons (pv 4) pa_nil))) (pv 4)))))))))), ?_⟩
    refine ⟨_, rfl, d, sa, ns, _, rfl, hE, by decide, by decide, fun n5 H1 a0 a1 C1 => ?_⟩
    refine ⟨_, _, rfl, rfl, _, rfl, d, sa, ns, _, rfl, C1.ent, by decide, by decide, fun n4 H2 b0 b1 C2 => ?_⟩
    refine ⟨_, _, rfl, rfl, (by show 5 ≤ sizeLine; decide), fun t1 ht1 => ?_⟩
    refine alloc ht1 fun H3 s3 e3 => ?_
    have C3 := (C1.trans C2).same s3
    refine ⟨_, rfl, _, rfl, by decide, by decide, fun D hD => ?_⟩
    refine lc_range (lo := 0) (n := 3) (fun i H4 => ∃ us : List Int, Dc K H H4 d sa ns ∧ H D = none ∧ H4 D = some (.lst (us.map V.int)) ∧ us.length = i ∧ (∀ x ∈ us, -3 ≤ x ∧ x ≤ 3) ∧ Kp H3 H4)
      ⟨[], C3.new hD, C3.here hD, upd_same, rfl, fun _ h => absurd h (by simp), Kp.new hD⟩ ?_ ?_
    · rintro i H4 hi ⟨us, C4, nD, hu, hul, hum, k4⟩
      refine ⟨rfl, _, rfl, d, sa, ns, _, rfl, C4.ent, by decide, by decide, fun m H5 m0 m1 C5 => ?_⟩
      have hu5 := C5.but _ _ (C4.ned nD) hu
      refine ⟨_, _, rfl, rfl, _, hu5, szl (by rw [List.length_map]; omega), us ++ [m - 3], (C4.trans C5).mut nD, nD, by rw [upd_same, List.map_append]; rfl, by rw [List.length_append, hul]; rfl, all_snoc hum (by omega), (k4.trans C5.kp).trans (Kp.lst hu5)⟩
    · rintro H4 ⟨us, C4, nD, hu, hul, hum, k4⟩
      refine ⟨D, _, rfl, .inl ⟨SqL.of hu, fun t2 ht2 => ?_⟩⟩
      refine alloc ht2 fun H5 s5 e5 => ?_
      refine ⟨t1, t2, _, _, rfl, rfl, s5 _ _ (k4 _ _ e3), e5, sz (by rw [List.length_map]; show 5 + _ ≤ _; omega), fun t3 H6 s6 e6 => ?_⟩
      have e6 : H6 t3 = some (.tup (([1, 1 + n5, 1 + n4, 0, 0] ++ us).map V.int)) := by rw [e6, List.map_append]; rfl
      have hwl : ([1, 1 + n5, 1 + n4, 0, 0] ++ us).length = 8 := by simp [hul]
      have hwm : ∀ x ∈ ([1, 1 + n5, 1 + n4, 0, 0] ++ us), -1000000 ≤ x ∧ x ≤ 1000000 := by
        intro x hx
        rcases List.mem_append.mp hx with q | q
        · simp only [List.mem_cons, List.not_mem_nil, or_false] at q
          omega
        · have := hum x q; omega
      revert e6 hwl hwm
      generalize ([1, 1 + n5, 1 + n4, 0, 0] ++ us) = ws
      intro e6 hwl hwm
      have C6 := (C4.same s5).same s6
      have hP := PB_le hn
      refine ⟨_, rfl, _, rfl, n, hn, d, sa, ns, 0, rfl, hn, C6.ent, fun l bs rs H7 C7 nl hl hR hz hT ho => ?_⟩
      have w0 : RowsL K H d sa ns t3 ws l 300 H7 := ⟨bs, rs, C6.trans C7, C7.kp _ _ e6, hl, hR, by omega, hT, fun r hr => (ho r hr).mono (by omega)⟩
      refine ⟨fun m σ H' => ∃ l, σ = [some (.ref d), some (.int (n : Int)), some (.ref t3), some (.ref l), none, none] ∧ RowsL K H d sa ns t3 ws l (39 + m * 300) H', ⟨1, l, rfl, ?_⟩, ?_⟩
      · obtain ⟨bs, rs, q1, q2, q3, q4, q5, q6⟩ := w0
        exact ⟨bs, rs, q1, q2, q3, q4, by omega, q6⟩
      rintro m σ H8 ⟨l, rfl, bs, rs, C8, ht3, hl, hR, hz, hT, ho⟩
      have hbr := Paired.length hR
      refine ⟨_, rfl, l, _, rfl, .inl (SqL.of hl), _, _, rfl, rfl, _, rfl, ite2 (fun c => ?_) (fun c => ?_)⟩
      · have c : (39 : Int) < (((bs.map V.ref).length : Nat) : Int) := of_decide_eq_true c
        rw [List.length_map, hbr] at c
        refine ⟨_, fun σ' H' q => q, _, rfl, 0, by decide, d, sa, ns, 0, rfl, by decide, C8.ent, fun l2 bs2 rs2 H9 C9 nl2 hl2 hR2 hz2 hT2 ho2 => ?_⟩
        refine ⟨0, ?_, l2, rfl, bs2, rs2, C8.trans C9, C9.kp _ _ ht3, hl2, hR2, ?_, hT2, fun r hr => (ho2 r hr).mono (by omega)⟩
        · cases m with
          | zero => omega
          | succ m => exact Nat.succ_pos m
        · have z : rs2.length ≤ 3 * 6 := hz2
          omega
      · have c : ¬ (39 : Int) < (((bs.map V.ref).length : Nat) : Int) := fun q => c (decide_eq_true q)
        rw [List.length_map, hbr] at c
        dsimp only
        refine seq_elim (fun σ' H' => ∃ l bs rs, σ' = [some (.ref d), some (.int (n : Int)), some (.ref t3), some (.ref l), none, none] ∧ Dc K H H' d sa ns ∧ H' t3 = some (.tup (ws.map V.int)) ∧ H' l = some (.lst (bs.map V.ref)) ∧ RowsAt H' bs rs ∧ 1 ≤ rs.length ∧ rs.length ≤ 39 ∧ 4 * tests rs ≤ rs.length ∧ ∀ r ∈ rs, r.ok 8 (rs.length + 1)) ?_ ?_
        · rintro σ' H9 ⟨l, bs, rs, rfl, C9, ht3, hl, hR, h1, h39, hT, ho⟩
          have hbr := Paired.length hR
          refine ⟨_, rfl, _, rfl, l, _, rfl, .inl ⟨SqL.of hl, fun t4 ht4 => ?_⟩⟩
          refine alloc ht4 fun H10 s10 e10 => ?_
          refine ⟨(by show 1 ≤ sizeLine; decide), fun t5 ht5 => ?_⟩
          refine alloc ht5 fun H11 s11 e11 => ?_
          refine ⟨(by show 1 ≤ sizeLine; decide), fun t6 ht6 => ?_⟩
          refine alloc ht6 fun H12 s12 e12 => ?_
          refine ⟨t4, t6, _, _, rfl, rfl, (s11.trans s12) _ _ e10, e12, sz (by rw [List.length_map]; show _ + 1 ≤ _; omega), fun t7 H13 s13 e13 => ?_⟩
          refine ⟨(by show 2 ≤ sizeLine; decide), fun t8 ht8 => ?_⟩
          refine alloc ht8 fun H14 s14 e14 => ?_
          have S914 := ((((s10.trans s11).trans s12).trans s13).trans s14)
          have C14 := C9.same S914
          have hP : ProgAt H14 t8 ⟨ws, rs ++ [.stop]⟩ := by
            refine ⟨t3, t7, bs ++ [t5], e14, S914 _ _ ht3, ?_, ?_⟩
            · rw [s14 _ _ e13, List.map_append]; rfl
            · exact Paired.app (hR.kp (Kp.same S914)) (Paired.one (((s12.trans s13).trans s14) _ _ e11))
          have hG : Good ⟨ws, rs ++ [.stop]⟩ := by
            refine ⟨?_, ?_, ?_, hwm, ?_⟩
            · show 1 ≤ (rs ++ [Row.stop]).length
              rw [List.length_append]; exact Nat.le_add_left 1 _
            · show (rs ++ [Row.stop]).length ≤ 40
              rw [List.length_append]; show _ + 1 ≤ 40; omega
            · show ws.length ≤ 8
              omega
            · intro r hr
              show r.ok ws.length (rs ++ [Row.stop]).length
              rw [hwl, List.length_append]
              rcases List.mem_append.mp hr with q | q
              · exact ho r q
              · rw [List.mem_singleton.mp q]; trivial
          have hTs : 4 * tests (rs ++ [Row.stop]) ≤ (rs ++ [Row.stop]).length := by
            rw [tests_app, tests_one, isT_stop, List.length_append]
            omega
          refine ⟨_, rfl, d, sa, ns, _, rfl, C14.ent, by decide, by decide, fun n2 H15 m0 m1 C15 => ?_⟩
          refine ⟨rfl, _, rfl, ite2 (fun _ => ?_) (fun _ => ?_)⟩
          · exact ⟨_, rfl, _, rfl, d, sa, ns, t8, _, rfl, C15.ent, hP.kp C15.kp, hG, fun b q H16 C16 hp hg hT1 hT2 => kq b q H16 ((C14.trans C15).trans C16) hp hg (by rw [hT1, hT2]; exact hTs)⟩
          · exact ⟨_, rfl, kq t8 _ H15 (C14.trans C15) (hP.kp C15.kp) hG hTs⟩
        · intro N hN
          refine ⟨_, rfl, Nat.zero_le _, fun e he => ?_⟩
          refine alloc he fun H9 s9 e9 => ?_
          have C9 := C8.same s9
          refine eq_nil (s9 _ _ hl) (hR.kp (Kp.same s9)) e9 ⟨_, rfl, ?_⟩
          cases rs with
          | nil =>
            refine ⟨_, rfl, d, sa, ns, 0, rfl, C9.ent, fun t r H10 C10 ht hp ho2 => ?_⟩
            refine ⟨(by show 1 ≤ sizeLine; decide), fun l9 hl9 => hN _ _ ?_⟩
            exact ⟨l9, [t], [r], rfl, (C9.trans C10).new hl9, (C10.kp.trans (Kp.new hl9)) _ _ (s9 _ _ ht3), upd_same, Paired.one (Kp.new hl9 _ _ ht), Nat.le_refl _, (by show 1 ≤ 39; decide), (by rw [tests_one, isT_plain hp]; exact Nat.zero_le _), fun y hy => by rw [List.mem_singleton.mp hy]; exact ho2⟩
          | cons r rs =>
            exact hN _ _ ⟨l, bs, r :: rs, rfl, C9, s9 _ _ ht3, s9 _ _ hl, hR.kp (Kp.same s9), by simp, by omega, hT, ho⟩
end
end DL
namespace DL
open PySem L2 DLR
theorem word5 {a : Nat} {j : Nat} (hj : j < 5) : ∃ wd : Str, ([V.str "load", V.str "add", V.str "take", V.str "store", V.str "add"] : List V)[j]? = some (.str wd) ∧ ∀ x y : Nat, ∃ r : Row, rowVs r = [.str wd, .int (x : Int), .int (y : Int)] ∧ ∀ W N, x < W → y < N → r.ok W N := by
  match j, hj with
  | 0, _ => exact ⟨_, rfl, fun x y => ⟨.load x y, rfl, fun _ _ p q => ⟨p, q⟩⟩⟩
  | 1, _ => exact ⟨_, rfl, fun x y => ⟨.add x y, rfl, fun _ _ p q => ⟨p, q⟩⟩⟩
  | 2, _ => exact ⟨_, rfl, fun x y => ⟨.take x y, rfl, fun _ _ p q => ⟨p, q⟩⟩⟩
  | 3, _ => exact ⟨_, rfl, fun x y => ⟨.store x y, rfl, fun _ _ p q => ⟨p, q⟩⟩⟩
  | 4, _ => exact ⟨_, rfl, fun x y => ⟨.add x y, rfl, fun _ _ p q => ⟨p, q⟩⟩⟩
def AnyAt (K : Frg) (H0 : Hp) (d sa : Addr) (ns : List Int) (wt : Addr) (us : List Int) (l : Addr) (N : Nat) (i : Nat) (H : Hp) : Prop :=
  ∃ bs rs, Dc K H0 H d sa ns ∧ H0 l = none ∧ H wt = some (.tup (us.map V.int)) ∧ H l = some (.lst (bs.map V.ref)) ∧ RowsAt H bs rs ∧ rs.length = i ∧ ∀ r ∈ rs, r.ok us.length N
theorem AnyAt.put {K : Frg} {H0 H : Hp} {d sa : Addr} {ns : List Int} {wt : Addr} {us : List Int} {l : Addr} {N : Nat} {i : Nat} {bs : List Addr} {rs : List Row} {t : Addr} {r : Row} (C : Dc K H0 H d sa ns) (n0 : H0 l = none) (hw : H wt = some (.tup (us.map V.int)))
    (hl : H l = some (.lst (bs.map V.ref))) (hR : RowsAt H bs rs) (hi : rs.length = i) (ho : ∀ r ∈ rs, r.ok us.length N) (ht : H t = some (.tup (rowVs r))) (hr : r.ok us.length N) : AnyAt K H0 d sa ns wt us l N (i + 1) (upd H l (.lst (bs.map V.ref ++ [.ref t]))) := by
  have k : Kp H (upd H l (.lst (bs.map V.ref ++ [.ref t]))) := Kp.lst hl
  exact ⟨bs ++ [t], rs ++ [r], C.mut n0, n0, k _ _ hw, by rw [upd_same, List.map_append]; rfl, RowsAt.kp (Paired.app hR (Paired.one ht)) k, by rw [List.length_append, hi]; rfl, all_snoc ho hr⟩
abbrev sAny : Stmt := top 59
abbrev FAny (K : Frg) (mg : Str → Option Value) := Fd K mg "_law_any" sAny ["_law_d"]
def spAny (K : Frg) : Sp := fun vs H Q _ => ∃ (d sa : Addr) (ns : List Int), vs = [.ref d] ∧ Ent K H d sa ns ∧
  ∀ b q H', Dc K H H' d sa ns → ProgAt H' b q → Good q → Q (.ref b) H'
section
variable {P : Program} {w : World} {K : PySem.W.Frag} {mg : Str → Option Value} {base : Heap}
abbrev nAny : List Str := ["_law_d", "_law_many", "_law_rows", "_law_worths", "_law_size", "_law_number", "_law_near", "_law_way", "_law_k"]
theorem scAny : FnScope nAny ["_law_d"] (defScope sAny) := ⟨rfl, rfl, rfl, by decide +kernel, rfl, by decide +kernel, by decide +kernel⟩
theorem ok_any (cAny : FAny K mg) (cStopping : FStopping K mg) (cMixed : FMixed K mg) (cBody : FBody K mg) (cFork : FFork K mg) (cStraight : FStraight K mg) (cNext : FNext K mg) (T : Bt mg) : FnOk P w K mg base CX0 8 cAny.f cAny.fd ["_law_d"] (spAny K) := by
  have GNext : FnOk P w K mg base CX0 1 cNext.f cNext.fd ["_law_dice_here", "_law_many"] (spNext K) := ok_next cNext.F T
  have GStopping : FnOk P w K mg base CX0 7 cStopping.f cStopping.fd pStopping (spStopping K) := ok_stopping cStopping cMixed cBody cFork cStraight cNext T
  refine cAny.F.ok scAny (fun vs H Q E h => ?_) (fun cdv A outer s H vs Q E hr h => ?_)
  · obtain ⟨d, sa, ns, rfl, _⟩ := h
    rfl
  · obtain ⟨d, sa, ns, rfl, hE, kq⟩ := h
    refine ⟨_, (pss_cons (ps_if (pt_cmpR op_gt (pe_call GNext (hr.mono (by first | omega | decide)) (by rfl) cNext.m cNext.F.kp cNext.b .nil pass0 (pa_cons (pv 0) (pa_cons pe_int pa_nil))) pe_int (nomark _))
          (pss_one (ps_ret (pe_call GStopping (hr.mono (by first | omega | decide)) (by rfl) cStopping.m cStopping.F.kp cStopping.b .nil pass0 (pa_cons (pv 0) (pa_cons (pe_call GNext (hr.mono (by first | omega | decide)) (by rfl) cNext.m cNext.F.kp cNext.b .nil pass0 (pa_cons (pv 0) (pa_cons pe_int pa_nil))) pa_nil)))))
          pss_nil)
      (pss_cons (ps_par (i := 1) (j := 2) (by rfl) scAny.nd rfl rfl (by decide) rfl rfl (pa_cons (pe_call GNext (hr.mono (by first | omega | decide)) (by rfl) cNext.m cNext.F.kp cNext.b .nil pass0 (pa_cons (pv 0) (pa_cons pe_int pa_nil))) (pa_cons (pe_lst pa_nil) pa_nil)) (by rfl))
      (pss_cons (ps_set (i := 3) scAny.nd rfl (Or.inl rfl) (pe_callTy call_tuple_of (by rfl) T.tuple (by decide +kernel) (pa_cons (pe_lc (own := [("_law_k", 8)]) (g := gName 8) (tt := tYes) rfl scAny.nd (pi_range1 rfl T.range (pa_cons (pv 1) pa_nil)) (blkOk_by (N := nAny) (sc := defScope sAny) (by decide +kernel)) (fun _ _ _ _ _ => (pg_name (i := 8) scAny.nd rfl (Or.inl rfl))) (fun _ _ _ _ _ => pts_nil) (fun _ _ _ _ _ => (pe_ix (ix_listK K rfl) (pe_lst (pa_cons (pe_op op_sub (pe_call GNext (hr.mono (by first | omega | decide)) (by rfl) cNext.m cNext.F.kp cNext.b .nil pass0 (pa_cons (pv 0) (pa_cons pe_int pa_nil))) pe_int) (pa_cons (pe_op op_sub (pe_call GNext (hr.mono (by first | omega | decide)) (by rfl) cNext.m cNext.F.kp cNext.b .nil pass0 (pa_cons (pv 0) (pa_cons pe_int pa_nil))) (pe_op op_pow pe_int pe_int)) pa_nil))) (pe_call GNext (hr.mono (by first | omega | decide)) (by rfl) cNext.m cNext.F.kp cNext.b .nil pass0 (pa_cons (pv 0) (pa_cons pe_int pa_nil))) (fun _ _ => rfl)))) pa_nil)))
      (pss_cons (ps_set (i := 4) scAny.nd rfl (Or.inl rfl) (pe_op op_add pe_int (pe_call GNext (hr.mono (by first | omega | decide)) (by rfl) cNext.m cNext.F.kp cNext.b .nil pass0 (pa_cons (pv 0) (pa_cons (pe_ix ix_list (pe_lst (pa_cons pe_int (pa_cons pe_int (pa_cons pe_int pa_nil)))) (pe_call GNext (hr.mono (by first | omega | decide)) (by rfl) cNext.m cNext.F.kp cNext.b .nil pass0 (pa_cons (pv 0) (pa_cons pe_int pa_nil))) (fun _ _ => rfl)) pa_nil)))))
      (pss_cons (ps_for PassesOwn.never rfl (pi_range1 rfl T.range (pa_cons (pv 4) pa_nil)) (pg_name (i := 5) scAny.nd rfl (Or.inl rfl))
          (pss_cons (ps_set (i := 6) scAny.nd rfl (Or.inl rfl) (pe_ix ix_list (pe_lst (pa_cons (pe_op op_mod (pe_op op_add (pv 5) pe_int) (pv 4)) (pa_cons (pe_call GNext (hr.mono (by first | omega | decide)) (by rfl) cNext.m cNext.F.kp cNext.b .nil pass0 (pa_cons (pv 0) (pa_cons (pv 4) pa_nil))) pa_nil))) (pe_callTy call_int1 (by rfl) T.int (by decide +kernel) (pa_cons (pe_cmpR op_eq (pe_call GNext (hr.mono (by first | omega | decide)) (by rfl) cNext.m cNext.F.kp cNext.b .nil pass0 (pa_cons (pv 0) (pa_cons pe_int pa_nil))) pe_int (nomark _)) pa_nil)) (fun _ _ => rfl)))
          (pss_cons (ps_set (i := 7) scAny.nd rfl (Or.inl rfl) (pe_call GNext (hr.mono (by first | omega | decide)) (by rfl) cNext.m cNext.F.kp cNext.b .nil pass0 (pa_cons (pv 0) (pa_cons pe_int pa_nil))))
          (pss_one (ps_if (PW.pt (pw_and (pt_cmpR op_lt (pv 7) pe_int (nomark _)) (pw_and1 (pt_cmpR op_gt (pv 1) pe_int (nomark _)))))
              (pss_one (ps_expr (pe_bm PySem.F.plainAttrs_list PySem.F.slot_list_append PySem.F.type_list_append mt_append (pv 2) (pa_cons (pe_tup (pa_cons (pe_ix ix_list (pe_lst (pa_cons pe_str (pa_cons pe_str (pa_cons pe_str (pa_cons pe_str (pa_cons pe_str pa_nil)))))) (pv 7) (fun _ _ => rfl)) (pa_cons (pe_call GNext (hr.mono (by first | omega | decide)) (by rfl) cNext.m cNext.F.kp cNext.b .nil pass0 (pa_cons (pv 0) (pa_cons (pv 1) pa_nil))) (pa_cons (pv 6) pa_nil)))) pa_nil))))
              (pss_one (ps_expr (pe_bm PySem.F.plainAttrs_list PySem.F.slot_list_append PySem.F.type_list_append mt_append (pv 2) (pa_cons (pe_ix ix_list (pe_lst (pa_cons (pe_tup (pa_cons pe_str (pa_cons (pv 6) pa_nil))) (pa_cons (pe_tup (pa_cons pe_str (pa_cons (pe_call GNext (hr.mono (by first | omega | decide)) (by rfl) cNext.m cNext.F.kp cNext.b .nil pass0 (pa_cons (pv 0) (pa_cons (pv 4) pa_nil))) (pa_cons (pv 6) pa_nil)))) (pa_cons (pe_tup (pa_cons pe_str pa_nil)) pa_nil)))) (pe_op op_mod (pv 7) pe_int) (fun _ _ => rfl)) pa_nil)))))))))
      (pss_one (ps_ret (pe_tup (pa_cons (pv 3) (pa_cons (pe_callTy call_tuple_of (by rfl) T.tuple (by decide +kernel) (pa_cons (pv 2) pa_nil)) pa_nil)))))))))), ?_⟩
    refine ⟨_, rfl, d, sa, ns, _, rfl, hE, by decide, by decide, fun n0 H1 a0 a1 C1 => ?_⟩
    refine ⟨_, _, rfl, rfl, _, rfl, ite2 (fun _ => ?_) (fun _ => ?_)⟩
    · refine ⟨_, rfl, _, rfl, d, sa, ns, _, rfl, C1.ent, by decide, by decide, fun n1 H2 b0 b1 C2 => ?_⟩
      refine ⟨d, sa, ns, n1.toNat, ?_, by omega, C2.ent, fun b q H3 C3 hp hg _ => kq b q H3 ((C1.trans C2).trans C3) hp hg⟩
      show [V.ref d, V.int n1] = _
      rw [Int.toNat_of_nonneg b0]
    refine ⟨_, rfl, d, sa, ns, _, rfl, C1.ent, by decide, by decide, fun many H2 b0 b1 C2 => ?_⟩
    obtain ⟨mn, rfl⟩ : ∃ mn : Nat, many = (mn : Int) := ⟨many.toNat, by omega⟩
    refine ⟨Nat.zero_le _, fun l hl => ?_⟩
    refine alloc hl fun H3 s3 e3 => ?_
    have C3 := (C1.trans C2).same s3
    have nl : H l = none := (C1.trans C2).here hl
    refine ⟨_, _, rfl, ?_⟩
    refine ⟨_, rfl, _, rfl, by omega, by omega, fun D hD => ?_⟩
    have nlD : l ≠ D := ne_of_none e3 hD
    refine lc_range (lo := 0) (n := (mn : Int).toNat) (fun i H4 => ∃ us : List Int, Dc K H H4 d sa ns ∧ H D = none ∧ H4 D = some (.lst (us.map V.int)) ∧ us.length = i ∧ (∀ x ∈ us, -1000000 ≤ x ∧ x ≤ 1000000) ∧ H4 l = some (.lst []))
      ⟨[], C3.new hD, C3.here hD, upd_same, rfl, fun _ h => absurd h (by simp), by rw [upd_ne nlD]; exact e3⟩ ?_ ?_
    · rintro i H4 hi ⟨us, C4, nD, hu, hul, hum, hl4⟩
      refine ⟨rfl, _, rfl, d, sa, ns, _, rfl, C4.ent, by decide, by decide, fun m1 H5 m10 m11 C5 => ?_⟩
      refine ⟨_, _, rfl, rfl, _, rfl, d, sa, ns, _, rfl, C5.ent, by decide, by decide, fun m2 H6 m20 m21 C6 => ?_⟩
      refine ⟨_, _, rfl, rfl, ⟨by decide, by decide, by decide⟩, _, _, rfl, rfl, (by show 2 ≤ sizeLine; decide), fun lx hlx => ?_⟩
      refine alloc hlx fun H7 s7 e7 => ?_
      have C7 := (C5.trans C6).same s7
      refine ⟨_, rfl, d, sa, ns, _, rfl, C7.ent, by decide, by decide, fun m3 H8 m30 m31 C8 => ?_⟩
      have C48 := C7.trans C8
      have hu8 := C48.but _ _ (C4.ned nD) hu
      have hl8 := C48.but _ _ (C4.ned nl) hl4
      have hx8 := C8.but _ _ (((C4.trans C5).trans C6).ned (((C4.trans C5).trans C6).here hlx)) e7
      have e6 : ((10 : Int) ^ (6 : Int).toNat) = 1000000 := by decide
      obtain ⟨z, hz, hz1, hz2⟩ : ∃ z : Int, atI ([V.int (m1 - 4), V.int (m2 - (10 : Int) ^ (6 : Int).toNat)] : List V) m3 = some (.int z) ∧ -1000000 ≤ z ∧ z ≤ 1000000 := by
        rcases (show m3 = 0 ∨ m3 = 1 by omega) with q | q
        · exact ⟨m1 - 4, by rw [q]; exact at0, by omega, by omega⟩
        · exact ⟨m2 - 1000000, by rw [q, e6]; exact at1, by omega, by omega⟩
      refine ⟨lx, _, _, _, rfl, rfl, SqL.of hx8, hz, _, hu8, szl (by rw [List.length_map]; omega), us ++ [z], (C4.trans C48).mut nD, nD, by rw [upd_same, List.map_append]; rfl, by rw [List.length_append, hul]; rfl, all_snoc hum ⟨hz1, hz2⟩, by rw [upd_ne nlD]; exact hl8⟩
    · rintro H4 ⟨us, C4, nD, hu, hul, hum, hl4⟩
      rw [Int.toNat_natCast] at hul
      refine ⟨D, _, rfl, .inl ⟨SqL.of hu, fun wt hwt => ?_⟩⟩
      refine alloc hwt fun H5 s5 e5 => ?_
      have C5 := C4.same s5
      refine ⟨_, rfl, (by show 3 ≤ sizeLine; decide), fun ly hly => ?_⟩
      refine alloc hly fun H6 s6 e6 => ?_
      have C6 := C5.same s6
      refine ⟨_, rfl, d, sa, ns, _, rfl, C6.ent, by decide, by decide, fun m3 H7 m30 m31 C7 => ?_⟩
      have C67 := C6.trans C7
      obtain ⟨z, hz, hz1, hz2⟩ : ∃ z : Int, atI ([V.int 6, V.int 12, V.int 40] : List V) m3 = some (.int z) ∧ 0 < z ∧ z ≤ 40 := by
        rcases (show m3 = 0 ∨ m3 = 1 ∨ m3 = 2 by omega) with q | q | q
        · exact ⟨6, by rw [q]; exact at0, by decide, by decide⟩
        · exact ⟨12, by rw [q]; exact at1, by decide, by decide⟩
        · exact ⟨40, by rw [q]; exact at2, by decide, by decide⟩
      refine ⟨ly, _, _, _, rfl, rfl, SqL.of (C7.but _ _ (C5.ned (C5.here hly)) e6), hz, d, sa, ns, _, rfl, C67.ent, hz1, by omega, fun m4 H8 m40 m41 C8 => ?_⟩
      refine ⟨_, _, rfl, rfl, ?_⟩
      have C8' := C67.trans C8
      obtain ⟨N, hN⟩ : ∃ N : Nat, 1 + m4 = (N : Int) := ⟨(1 + m4).toNat, by omega⟩
      have hN1 : 1 ≤ N := by omega
      have hN40 : N ≤ 40 := by omega
      refine ⟨_, rfl, 1 + m4, rfl, by omega, by omega, ?_⟩
      refine for_range (lo := 0) (n := (1 + m4).toNat) (fun i σ H' => ∃ x5 x6 x7 : Option V, σ = [some (.ref d), some (.int (mn : Int)), some (.ref l), some (.ref wt), some (.int (N : Int)), x5, x6, x7, none] ∧ AnyAt K H d sa ns wt us l N i H')
        ⟨none, none, none, by rw [← hN]; rfl, [], [], C8', nl, (C7.kp.trans C8.kp) _ _ (s6 _ _ e5), (C7.trans C8).but _ _ (C6.ned nl) ((s5.trans s6) _ _ hl4), .nil, rfl, fun _ h => absurd h (by simp)⟩ ?_ ?_
      · rintro i σ H9 hi ⟨x5, x6, x7, rfl, bs, rs, C9, _, hw9, hl9, hR, hil, ho⟩
        have hbr := Paired.length hR
        have hiN : i < N := by omega
        refine ⟨_, rfl, _, _, rfl, rfl, _, rfl, _, _, rfl, rfl, (by omega), _, rfl, _, rfl, d, sa, ns, _, rfl, C9.ent, (by omega), (by omega), fun m5 H10 m50 m51 C10 => ?_⟩
        refine ⟨(by show 2 ≤ sizeLine; decide), fun lz hlz => ?_⟩
        refine alloc hlz fun H11 s11 e11 => ?_
        have C11 := C10.same s11
        refine ⟨_, rfl, d, sa, ns, _, rfl, C11.ent, by decide, by decide, fun m6 H12 m60 m61 C12 => ?_⟩
        obtain ⟨z, hz, hzN⟩ : ∃ z : Nat, atI ([V.int ((0 + (i : Int) + 1) % (N : Int)), V.int m5] : List V) (if decide (V.int m6 = V.int 3) = true then 1 else 0) = some (.int (z : Int)) ∧ z < N := by
          by_cases c : decide (V.int m6 = V.int 3) = true
          · rw [if_pos c]
            obtain ⟨z, q⟩ : ∃ z : Nat, m5 = (z : Int) := ⟨m5.toNat, by omega⟩
            exact ⟨z, by rw [q]; exact at1, by omega⟩
          · rw [if_neg c]
            have q0 := Int.emod_nonneg (0 + (i : Int) + 1) (show (N : Int) ≠ 0 by omega)
            have q1 := Int.emod_lt_of_pos (0 + (i : Int) + 1) (show (0 : Int) < (N : Int) by omega)
            obtain ⟨z, q⟩ : ∃ z : Nat, (0 + (i : Int) + 1) % (N : Int) = (z : Int) := ⟨((0 + (i : Int) + 1) % (N : Int)).toNat, by omega⟩
            exact ⟨z, by rw [q]; exact at0, by omega⟩
        have C912 := C11.trans C12
        refine ⟨rfl, .inr ⟨_, rfl, lz, _, _, _, rfl, rfl, SqL.of (C12.but _ _ (C10.ned (C10.here hlz)) e11), hz, ?_⟩⟩
        refine ⟨_, rfl, d, sa, ns, _, rfl, C912.ent, by decide, by decide, fun wy H13 w0 w1 C13 => ?_⟩
        dsimp only [gName]
        have C913 := C912.trans C13
        have hl13 := C913.but _ _ (C9.ned nl) hl9
        have hw13 := C913.kp _ _ hw9
        have hR13 := hR.kp C913.kp
        refine if_elim (fun b H' => H' = H13 ∧ (b = true → wy < 5 ∧ 0 < mn)) ?_ ?_
        · rintro bb _ ⟨rfl, hbb⟩
          cases bb with
          | true =>
            obtain ⟨hw5, hm0⟩ := hbb rfl
            refine ⟨_, rfl, .inl ⟨rfl, _, SqL.of hl13⟩, (by show 5 ≤ sizeLine; decide), fun l5 hl5 => ?_⟩
            refine alloc hl5 fun H14 s14 e14 => ?_
            obtain ⟨j, rfl⟩ : ∃ j : Nat, wy = (j : Int) := ⟨wy.toNat, by omega⟩
            obtain ⟨wd, hwd, hrow⟩ := word5 (a := 0) (j := j) (by omega)
            have C14 := C913.same s14
            refine ⟨_, rfl, l5, _, _, _, rfl, rfl, SqL.of e14, atI_nat hwd, ?_⟩
            refine ⟨_, rfl, _, rfl, d, sa, ns, _, rfl, C14.ent, (by omega), (by omega), fun m7 H15 m70 m71 C15 => ?_⟩
            obtain ⟨y, rfl⟩ : ∃ y : Nat, m7 = (y : Int) := ⟨m7.toNat, by omega⟩
            obtain ⟨r, hr1, hr2⟩ := hrow y z
            refine ⟨_, rfl, (by show 3 ≤ sizeLine; decide), fun t ht => ?_⟩
            refine alloc ht fun H16 s16 e16 => ?_
            have C16 := (C14.trans C15).same s16
            have hl16 := C16.but _ _ (C9.ned nl) hl9
            refine ⟨l, _, _, rfl, rfl, hl16, szl (by rw [List.length_map]; omega), _, _, _, rfl, ?_⟩
            exact AnyAt.put (C9.trans C16) nl (C16.kp _ _ hw9) hl16 (hR.kp C16.kp) hil ho (by rw [e16, hr1]) (hr2 _ _ (by omega) hzN)
          | false =>
            refine ⟨_, rfl, .inl ⟨rfl, _, SqL.of hl13⟩, _, rfl, (by show 2 ≤ sizeLine; decide), fun t1 ht1 => ?_⟩
            refine alloc ht1 fun H14 s14 e14 => ?_
            have C14 := C913.same s14
            refine ⟨_, rfl, _, rfl, d, sa, ns, _, rfl, C14.ent, (by omega), (by omega), fun m7 H15 m70 m71 C15 => ?_⟩
            obtain ⟨y, rfl⟩ : ∃ y : Nat, m7 = (y : Int) := ⟨m7.toNat, by omega⟩
            refine ⟨_, rfl, (by show 3 ≤ sizeLine; decide), fun t2 ht2 => ?_⟩
            refine alloc ht2 fun H16 s16 e16 => ?_
            refine ⟨(by show 1 ≤ sizeLine; decide), fun t3 ht3 => ?_⟩
            refine alloc ht3 fun H17 s17 e17 => ?_
            refine ⟨(by show 3 ≤ sizeLine; decide), fun lx hlx => ?_⟩
            refine alloc hlx fun H18 s18 e18 => ?_
            have C18 := (((C14.trans C15).same s16).same s17).same s18
            obtain ⟨t, r, hat, htr, hrr⟩ : ∃ (t : Addr) (r : Row), atI ([V.ref t1, V.ref t2, V.ref t3] : List V) (wy % 3) = some (.ref t) ∧ H18 t = some (.tup (rowVs r)) ∧ r.ok us.length N := by
              have S18 := s17.trans s18
              rcases (show wy % 3 = 0 ∨ wy % 3 = 1 ∨ wy % 3 = 2 by omega) with q | q | q
              · exact ⟨t1, .say z, by rw [q]; exact at0, (C15.kp.trans (Kp.same (s16.trans S18))) _ _ e14, hzN⟩
              · exact ⟨t2, .test y z, by rw [q]; exact at1, S18 _ _ e16, by omega, hzN⟩
              · exact ⟨t3, .stop, by rw [q]; exact at2, s18 _ _ e17, trivial⟩
            have hl18 := C18.but _ _ (C9.ned nl) hl9
            refine ⟨_, rfl, _, _, rfl, rfl, (by show (0 : Int) < 3; decide), lx, _, _, _, rfl, rfl, SqL.of e18, hat, l, _, _, rfl, rfl, hl18, szl (by rw [List.length_map]; omega), _, _, _, rfl, ?_⟩
            exact AnyAt.put (C9.trans C18) nl (C18.kp _ _ hw9) hl18 (hR.kp C18.kp) hil ho htr hrr
        · intro F' hF
          refine ⟨_, rfl, _, _, rfl, rfl, _, rfl, ite2 (fun c => ?_) (fun _ => hF _ _ ⟨rfl, fun e => Bool.noConfusion e⟩)⟩
          have c := of_decide_eq_true c
          refine ⟨_, rfl, _, _, rfl, rfl, _, rfl, hF _ _ ⟨rfl, fun e => ⟨c, ?_⟩⟩⟩
          have e := of_decide_eq_true e
          omega
      · rintro σ H9 ⟨x5, x6, x7, rfl, bs, rs, C9, _, hw9, hl9, hR, hil, ho⟩
        have hbr := Paired.length hR
        refine ⟨_, rfl, _, rfl, l, _, rfl, .inl ⟨SqL.of hl9, fun t1 ht1 => ?_⟩⟩
        refine alloc ht1 fun H10 s10 e10 => ?_
        refine ⟨(by show 2 ≤ sizeLine; decide), fun t2 ht2 => ?_⟩
        refine alloc ht2 fun H11 s11 e11 => ?_
        have S := s10.trans s11
        have hNl : rs.length = N := by omega
        refine kq t2 ⟨us, rs⟩ H11 (C9.same S) ⟨wt, t1, bs, e11, S _ _ hw9, s11 _ _ e10, hR.kp (Kp.same S)⟩ ⟨?_, ?_, ?_, hum, ?_⟩
        · show 1 ≤ rs.length
          omega
        · show rs.length ≤ 40
          omega
        · show us.length ≤ 8
          omega
        · intro r hr
          show r.ok us.length rs.length
          rw [hNl]
          exact ho r hr
end
end DL
namespace DL
open PySem L2 DLR
/-! ### the machine -/
def ring (n : Int) : Int := (n + 1000000000) % 2000000000 - 1000000000
structure Mach where
  desk : Int
  ws : List Int
  said : List Int
def InR (x : Int) : Prop := -1000000000 ≤ x ∧ x < 1000000000
theorem ring_in (n : Int) : InR (ring n) := by
  have h0 := Int.emod_nonneg (n + 1000000000) (show (2000000000 : Int) ≠ 0 by decide)
  have h1 := Int.emod_lt_of_pos (n + 1000000000) (show (0 : Int) < 2000000000 by decide)
  unfold ring InR
  omega
theorem ring_id {n : Int} (h : InR n) : ring n = n := by
  unfold ring
  rw [Int.emod_eq_of_lt (by unfold InR at h; omega) (by unfold InR at h; omega)]
  omega
theorem ring_add (a b : Int) : ring (ring a + b) = ring (a + b) := by
  unfold ring
  have e : (a + 1000000000) % 2000000000 - 1000000000 + b + 1000000000 = (a + 1000000000) % 2000000000 + b := by omega
  rw [e, Int.emod_add_emod]
  have e2 : a + 1000000000 + b = a + b + 1000000000 := by omega
  rw [e2]
structure MOk (m : Mach) : Prop where
  desk : InR m.desk
  ws : ∀ x ∈ m.ws, InR x
def Mach.at (m : Mach) (w : Nat) : Int := m.ws.getD w 0
def stepM (m : Mach) : Row → Mach × Option Nat
  | .load w n => ({ m with desk := m.at w }, some n)
  | .add w n => ({ m with desk := ring (m.desk + m.at w) }, some n)
  | .take w n => ({ m with desk := ring (m.desk - m.at w) }, some n)
  | .store w n => ({ m with ws := m.ws.set w m.desk }, some n)
  | .say n => ({ m with said := m.said ++ [m.desk] }, some n)
  | .test a b => (m, some (if m.desk = 0 then a else b))
  | .stop => (m, none)
theorem at_in {m : Mach} (h : MOk m) {w : Nat} (hw : w < m.ws.length) : m.ws[w]? = some (m.at w) ∧ InR (m.at w) := by
  have e : m.ws[w]? = some (m.at w) := by
    unfold Mach.at
    rw [List.getD_eq_getElem?_getD, List.getElem?_eq_getElem hw]
    rfl
  exact ⟨e, h.ws _ (List.mem_of_getElem? e)⟩
theorem stepM_ok {m : Mach} (h : MOk m) {r : Row} {N : Nat} (ho : r.ok m.ws.length N) : MOk (stepM m r).1 ∧ (stepM m r).1.ws.length = m.ws.length ∧ (stepM m r).1.said.length ≤ m.said.length + 1 ∧ ∀ n, (stepM m r).2 = some n → n < N := by
  cases r with
  | load w n => exact ⟨⟨(at_in h ho.1).2, h.ws⟩, rfl, Nat.le_succ _, fun k e => by cases e; exact ho.2⟩
  | add w n => exact ⟨⟨ring_in _, h.ws⟩, rfl, Nat.le_succ _, fun k e => by cases e; exact ho.2⟩
  | take w n => exact ⟨⟨ring_in _, h.ws⟩, rfl, Nat.le_succ _, fun k e => by cases e; exact ho.2⟩
  | store w n =>
    refine ⟨⟨h.desk, fun x hx => ?_⟩, List.length_set .., Nat.le_succ _, fun k e => by cases e; exact ho.2⟩
    rcases List.mem_or_eq_of_mem_set hx with q | q
    · exact h.ws x q
    · rw [q]; exact h.desk
  | say n => exact ⟨⟨h.desk, h.ws⟩, rfl, by show (m.said ++ [m.desk]).length ≤ _; rw [List.length_append]; exact Nat.le_refl _, fun k e => by cases e; exact ho⟩
  | test a b =>
    refine ⟨h, rfl, Nat.le_succ _, fun k e => ?_⟩
    have e : (if m.desk = 0 then a else b) = k := Option.some.inj e
    rw [← e]
    split
    · exact ho.1
    · exact ho.2
  | stop => exact ⟨h, rfl, Nat.le_succ _, fun k e => by cases e⟩
def oV : Option Nat → V
  | none => .non
  | some n => .int (n : Int)
/-! ### the law's own machine: a dict -/
def kW : Key := .inr "worths"
def kD : Key := .inr "desk"
def kS : Key := .inr "said"
theorem k_WD : kW ≠ kD := by decide +kernel
theorem k_WS : kW ≠ kS := by decide +kernel
theorem k_DS : kD ≠ kS := by decide +kernel
structure LawM (ex : Key → Option V) (H : Hp) (ad aw as_ : Addr) (m : Mach) : Prop where
  dic : ∃ kvs : List (Key × V), H ad = some (.dK kvs) ∧ kvs.length ≤ 100 ∧ valV kvs kW = some (.ref aw) ∧ valV kvs kD = some (.int m.desk) ∧ valV kvs kS = some (.ref as_) ∧ ∀ k, k ≠ kW → k ≠ kD → k ≠ kS → valV kvs k = ex k
  ws : H aw = some (.lst (m.ws.map V.int))
  said : H as_ = some (.lst (m.said.map V.int))
  ne : aw ≠ as_
def But3 (a b c : Addr) (H H' : Hp) : Prop := ∀ x o, x ≠ a → x ≠ b → x ≠ c → H x = some o → H' x = some o
theorem But3.of {a b c : Addr} {H H' : Hp} (s : Same1 H H') : But3 a b c H H' := fun x o _ _ _ h => s x o h
theorem But3.trans {a b c : Addr} {H H1 H2 : Hp} (s : But3 a b c H H1) (t : But3 a b c H1 H2) : But3 a b c H H2 := fun x o h1 h2 h3 h => t x o h1 h2 h3 (s x o h1 h2 h3 h)
theorem But3.upd1 {a b c : Addr} {H : Hp} {o : HO} : But3 a b c H (upd H a o) := fun x u h _ _ e => by rw [upd_ne h]; exact e
theorem But3.upd2 {a b c : Addr} {H : Hp} {o : HO} : But3 a b c H (upd H b o) := fun x u _ h _ e => by rw [upd_ne h]; exact e
theorem But3.upd3 {a b c : Addr} {H : Hp} {o : HO} : But3 a b c H (upd H c o) := fun x u _ _ h e => by rw [upd_ne h]; exact e
theorem LawM.same {ex : Key → Option V} {H H' : Hp} {ad aw as_ : Addr} {m : Mach} (h : LawM ex H ad aw as_ m) (s : Same1 H H') : LawM ex H' ad aw as_ m := by
  obtain ⟨⟨kvs, h1, h2⟩, h3, h4, h5⟩ := h
  exact ⟨⟨kvs, s _ _ h1, h2⟩, s _ _ h3, s _ _ h4, h5⟩
theorem put_len {κ : Type} [DecidableEq κ] {kvs : List (κ × V)} {k : κ} {v x : V} (h : valV kvs k = some x) : (putK kvs k v).length = kvs.length := by
  unfold putK
  rw [valV_any, h, if_pos (by rfl), List.length_map]
theorem LawM.put {ex : Key → Option V} {H : Hp} {ad aw as_ : Addr} {m : Mach} {kvs : List (Key × V)} {z : Int} (h : LawM ex H ad aw as_ m) (e : H ad = some (.dK kvs)) : LawM ex (upd H ad (.dK (putK kvs kD (.int z)))) ad aw as_ { m with desk := z } := by
  obtain ⟨⟨kvs', h1, h2, h3, h4, h5, h9⟩, h6, h7, h8⟩ := h
  rw [e] at h1
  have q : kvs = kvs' := by injection (Option.some.inj h1)
  subst q
  have nw : aw ≠ ad := ne_of h6 e (by intro z; cases z)
  have ns : as_ ≠ ad := ne_of h7 e (by intro z; cases z)
  refine ⟨⟨putK kvs kD (.int z), upd_same, by rw [put_len h4]; exact h2, ?_, ?_, ?_, fun k a b c => by rw [valV_put, if_neg (fun z => b z)]; exact h9 k a b c⟩, by rw [upd_ne nw]; exact h6, by rw [upd_ne ns]; exact h7, h8⟩
  · rw [valV_put, if_neg k_WD]; exact h3
  · rw [valV_put, if_pos rfl]
  · rw [valV_put, if_neg k_DS.symm]; exact h5
theorem dget {H : Hp} {a : Addr} {kvs : List (Key × V)} {k : Key} {v : V} (e : H a = some (.dK kvs)) (h : valV kvs k = some v) : DGet H a (kV k) (some v) := by
  have q := DGet.k (k := k) e
  rw [h] at q
  exact q
def Row.ar : Row → Bool
  | .load _ _ => true
  | .add _ _ => true
  | .take _ _ => true
  | _ => false
theorem Row.in3 (r : Row) : inV (.str r.word) [.str "load", .str "add", .str "take"] = r.ar := by cases r <;> (dsimp only [Row.word, Row.ar]; decide +kernel)
def Row.isWd (s : Str) (r : Row) : Bool := decide (V.str r.word = V.str s)
def Row.fac (r : Row) : Int × Int := match r with
  | .load _ _ => (0, 1)
  | .take _ _ => (1, -1)
  | _ => (1, 1)
theorem Row.f1 (r : Row) : (if (!decide (V.str r.word = V.str "load")) = true then (1 : Int) else 0) = r.fac.1 := by
  cases r with
  | load _ _ => exact (by decide +kernel : (if (!decide (V.str "load" = V.str "load")) = true then (1 : Int) else 0) = 0)
  | add _ _ => exact (by decide +kernel : (if (!decide (V.str "add" = V.str "load")) = true then (1 : Int) else 0) = 1)
  | take _ _ => exact (by decide +kernel : (if (!decide (V.str "take" = V.str "load")) = true then (1 : Int) else 0) = 1)
  | store _ _ => exact (by decide +kernel : (if (!decide (V.str "store" = V.str "load")) = true then (1 : Int) else 0) = 1)
  | say _ => exact (by decide +kernel : (if (!decide (V.str "say" = V.str "load")) = true then (1 : Int) else 0) = 1)
  | test _ _ => exact (by decide +kernel : (if (!decide (V.str "test" = V.str "load")) = true then (1 : Int) else 0) = 1)
  | stop  => exact (by decide +kernel : (if (!decide (V.str "stop" = V.str "load")) = true then (1 : Int) else 0) = 1)
theorem Row.f2 (r : Row) : atI ([V.int 1, V.int (-1)] : List V) (if decide (V.str r.word = V.str "take") = true then (1 : Int) else 0) = some (.int r.fac.2) := by
  cases r with
  | load _ _ => exact (by decide +kernel : atI ([V.int 1, V.int (-1)] : List V) (if decide (V.str "load" = V.str "take") = true then (1 : Int) else 0) = some (.int (1)))
  | add _ _ => exact (by decide +kernel : atI ([V.int 1, V.int (-1)] : List V) (if decide (V.str "add" = V.str "take") = true then (1 : Int) else 0) = some (.int (1)))
  | take _ _ => exact (by decide +kernel : atI ([V.int 1, V.int (-1)] : List V) (if decide (V.str "take" = V.str "take") = true then (1 : Int) else 0) = some (.int (-1)))
  | store _ _ => exact (by decide +kernel : atI ([V.int 1, V.int (-1)] : List V) (if decide (V.str "store" = V.str "take") = true then (1 : Int) else 0) = some (.int (1)))
  | say _ => exact (by decide +kernel : atI ([V.int 1, V.int (-1)] : List V) (if decide (V.str "say" = V.str "take") = true then (1 : Int) else 0) = some (.int (1)))
  | test _ _ => exact (by decide +kernel : atI ([V.int 1, V.int (-1)] : List V) (if decide (V.str "test" = V.str "take") = true then (1 : Int) else 0) = some (.int (1)))
  | stop  => exact (by decide +kernel : atI ([V.int 1, V.int (-1)] : List V) (if decide (V.str "stop" = V.str "take") = true then (1 : Int) else 0) = some (.int (1)))
theorem Row.wd_eq (r : Row) : r.isWd "test" = (match r with | .test _ _ => true | _ => false) ∧ r.isWd "store" = (match r with | .store _ _ => true | _ => false) ∧ r.isWd "say" = (match r with | .say _ => true | _ => false) ∧ r.isWd "stop" = (match r with | .stop => true | _ => false) := by
  cases r with
  | load _ _ => exact (by decide +kernel : decide (V.str "load" = V.str "test") = false ∧ decide (V.str "load" = V.str "store") = false ∧ decide (V.str "load" = V.str "say") = false ∧ decide (V.str "load" = V.str "stop") = false)
  | add _ _ => exact (by decide +kernel : decide (V.str "add" = V.str "test") = false ∧ decide (V.str "add" = V.str "store") = false ∧ decide (V.str "add" = V.str "say") = false ∧ decide (V.str "add" = V.str "stop") = false)
  | take _ _ => exact (by decide +kernel : decide (V.str "take" = V.str "test") = false ∧ decide (V.str "take" = V.str "store") = false ∧ decide (V.str "take" = V.str "say") = false ∧ decide (V.str "take" = V.str "stop") = false)
  | store _ _ => exact (by decide +kernel : decide (V.str "store" = V.str "test") = false ∧ decide (V.str "store" = V.str "store") = true ∧ decide (V.str "store" = V.str "say") = false ∧ decide (V.str "store" = V.str "stop") = false)
  | say _ => exact (by decide +kernel : decide (V.str "say" = V.str "test") = false ∧ decide (V.str "say" = V.str "store") = false ∧ decide (V.str "say" = V.str "say") = true ∧ decide (V.str "say" = V.str "stop") = false)
  | test _ _ => exact (by decide +kernel : decide (V.str "test" = V.str "test") = true ∧ decide (V.str "test" = V.str "store") = false ∧ decide (V.str "test" = V.str "say") = false ∧ decide (V.str "test" = V.str "stop") = false)
  | stop  => exact (by decide +kernel : decide (V.str "stop" = V.str "test") = false ∧ decide (V.str "stop" = V.str "store") = false ∧ decide (V.str "stop" = V.str "say") = false ∧ decide (V.str "stop" = V.str "stop") = true)
theorem Row.ar_of {r : Row} (h : r.ar = true) {W N : Nat} (ho : r.ok W N) : ∃ w n : Nat, (rowVs r)[1]? = some (.int (w : Int)) ∧ w < W ∧ atI (rowVs r) (-1) = some (.int (n : Int)) ∧
    ∀ m : Mach, MOk m → w < m.ws.length → stepM m r = ({ m with desk := ring (m.desk * r.fac.1 + m.at w * r.fac.2) }, some n) := by
  cases r with
  | load w n =>
    refine ⟨w, n, rfl, ho.1, rfl, fun m hm hw => ?_⟩
    show ({ m with desk := m.at w }, some n) = ({ m with desk := ring (m.desk * 0 + m.at w * 1) }, some n)
    rw [Int.mul_zero, Int.zero_add, Int.mul_one, ring_id (at_in hm hw).2]
  | add w n =>
    refine ⟨w, n, rfl, ho.1, rfl, fun m hm hw => ?_⟩
    show ({ m with desk := ring (m.desk + m.at w) }, some n) = ({ m with desk := ring (m.desk * 1 + m.at w * 1) }, some n)
    rw [Int.mul_one, Int.mul_one]
  | take w n =>
    refine ⟨w, n, rfl, ho.1, rfl, fun m hm hw => ?_⟩
    show ({ m with desk := ring (m.desk - m.at w) }, some n) = ({ m with desk := ring (m.desk * 1 + m.at w * -1) }, some n)
    rw [Int.mul_one, Int.mul_neg_one]
    rfl
  | store w n => cases h
  | say n => cases h
  | test a b => cases h
  | stop => cases h
theorem Row.fb (r : Row) : (0 ≤ r.fac.1 ∧ r.fac.1 ≤ 1) ∧ (-1 ≤ r.fac.2 ∧ r.fac.2 ≤ 1) := by cases r <;> (dsimp only [Row.fac]; decide)
def spRing : Sp := fun vs H Q _ => ∃ n : Int, vs = [.int n] ∧ Q (.int (ring n)) H
def spStep : Sp := fun vs H Q _ => ∃ (ex : Key → Option V) (ad aw as_ ra : Addr) (m : Mach) (r : Row) (N : Nat), vs = [.ref ad, .ref ra] ∧ LawM ex H ad aw as_ m ∧ MOk m ∧ m.said.length ≤ 9000 ∧ H ra = some (.tup (rowVs r)) ∧ r.ok m.ws.length N ∧
  ∀ H', But3 ad aw as_ H H' → LawM ex H' ad aw as_ (stepM m r).1 → Q (oV (stepM m r).2) H'
section
variable {P : Program} {w : World} {K : PySem.W.Frag} {mg : Str → Option Value} {base : Heap}
abbrev nStep : List Str := ["_law_s", "_law_row", "_law_number"]
end
end DL
namespace DLR
open PySem PySem.Spec PyProof.Rows L2
/-! ### sorted(a dict whose keys are pairs of whole numbers), any number of them -/
def pairH (H : Hp) (a : Addr) : Int × Int := match H a with
  | some (.tup [.int i, .int j]) => (i, j)
  | _ => (0, 0)
theorem pairH_of {H : Hp} {a : Addr} {i j : Int} (h : H a = some (.tup [.int i, .int j])) : pairH H a = (i, j) := by
  unfold pairH
  rw [h]
def pairV (H : Hp) : Value → Int × Int
  | .ref a => pairH H a
  | _ => (0, 0)
def keyP (q : Int × Int) : List Key := [Sum.inl q.1, Sum.inl q.2]
def PairsAt (H : Hp) (bs : List Addr) (L : List (Int × Int)) : Prop := Paired (fun b q => H b = some (.tup [.int q.1, .int q.2])) bs L
theorem pairs_of_map {H : Hp} : ∀ {bs : List Addr}, (∀ b ∈ bs, H b = some (.tup [.int (pairH H b).1, .int (pairH H b).2])) → PairsAt H bs (bs.map (pairH H))
  | [], _ => .nil
  | b :: bs, h => .cons (h b List.mem_cons_self) (pairs_of_map fun c hc => h c (List.mem_cons_of_mem _ hc))
theorem keys_pairs {H : Hp} {kvs : List (List Key × V)} {ks : List (List Key × Addr × Value)} (r : KT H kvs ks) : ∀ {ps : List (Int × Int)}, kvs.map (·.1) = ps.map keyP → PairsAt H (ks.map fun x => x.2.1) ps := by
  induction r with
  | nil =>
    intro ps h
    cases ps with
    | nil => exact .nil
    | cons q ps => cases h
  | @cons p x pt xt h t ih =>
    intro ps hp
    cases ps with
    | nil => cases hp
    | cons q ps =>
      obtain ⟨e1, e2⟩ := List.cons.inj hp
      refine .cons ?_ (ih e2)
      have z := h.2.1
      have e1 : p.1 = keyP q := e1
      rw [e1] at z
      exact z
theorem pairs_map {H : Hp} : ∀ {bs : List Addr} {ps : List (Int × Int)}, PairsAt H bs ps → bs.map (pairH H) = ps
  | _, _, .nil => rfl
  | _, _, .cons h t => by
    rw [List.map_cons, pairs_map t, pairH_of h]
def rSortedDT : List V → Hp → VK → Prop := fun vs H Q => ∃ (d : Addr) (kvs : List (List Key × V)) (ps : List (Int × Int)), vs = [V.ref d] ∧ Rd H d (.dT kvs) ∧ kvs.map (·.1) = ps.map keyP ∧
  ∀ (p : Addr) (ys : List Addr) (L : List (Int × Int)), PairsAt H ys L → SrtO.Srtd SrtO.lexB L → SrtO.Stb SrtO.lexB L ps → H p = none → Q (.ref p) (upd H p (.lst (ys.map V.ref)))
theorem cr_sortedDT {X : Cx} (hc : X.calm = true) : CallR X (.builtin "sorted") rSortedDT := by
  intro pins s σ H vs us Q I r h
  obtain ⟨d, kvs, ps, rfl, hd, hps, q⟩ := h
  obtain ⟨u, rfl, rx⟩ := r.one
  cases rx
  obtain ⟨z, hs, ks, pr, o, es, ep, ho, hx, hdt, he, hn⟩ := (show ObjOk X.prog X.w H s.heap d (.dT kvs) from hd.ok I.hok)
  have l1 := size_of_entries he
  have l2 := Paired.length pr
  refine Calls.call_function_entry kind_sorted plain_sorted entry_sorted (args_sorted1 _) ?_
  unfold Builtin.«sorted»
  refine wpAny_bind (m := checkCount "sorted" 1 1 _) (wpAny_pure ?_)
  refine wpAny_bind (PySem.W.kdu_collect (A := X.A.in1) (kdl_raw hs hx hdt) (I.ok.hd hc) ho (by omega) fun h' tk acc kp it => ?_)
  have ea : acc.toList = (ks.map fun x => x.2.1).map Value.ref := by
    apply List.ext_getElem?
    intro j
    rw [List.map_map, List.getElem?_map]
    cases hj : acc.toList[j]? with
    | none =>
      have g := List.getElem?_eq_none_iff.mp hj
      rw [Array.length_toList, it.1, l1] at g
      rw [List.getElem?_eq_none g]
      rfl
    | some v =>
      obtain ⟨en, hen, hv⟩ := it.2 j v (by rw [← Array.getElem?_toList]; exact hj)
      have qe := entry_at he j
      rw [hen] at qe
      cases hb : ks[j]? with
      | none => rw [hb] at qe; cases qe
      | some b =>
        rw [hb] at qe
        have e2 := Option.some.inj qe
        rw [hv, e2]
        rfl
  have hal : acc.toList.length = ks.length := by rw [ea, List.length_map, List.length_map]
  have hz16 : acc.toList.length ≤ sizeLine := by omega
  have hP := keys_pairs pr hps
  have I1 : Inv X pins σ H { s with heap := h', toks := tk } := I.kept kp
  refine wpAny_bind (wpAny_newList ?_ hz16)
  have hoL : (h'.push (seqObj "list" acc.toList.toArray 0)).get? h'.objs.size = some (seqObj "list" acc.toList.toArray 0) := Heap.get?_push_size _ rfl
  have hpv : ∀ v ∈ acc.toList, Srt.IsPair (h'.push (seqObj "list" acc.toList.toArray 0)) v (pairV H v).1 (pairV H v).2 := by
    intro v hv
    rw [ea] at hv
    obtain ⟨b, hb, rfl⟩ := List.mem_map.mp hv
    obtain ⟨j, hj⟩ := List.getElem?_of_mem hb
    obtain ⟨y, hy, hy2⟩ := DL.Paired.get hP hj
    obtain ⟨_, its2, r2, o2, ho2, hc2, n2, hd2⟩ := I1.hok _ _ hy2
    obtain ⟨u1, u2, rfl, ri, rj⟩ := vals2 r2
    obtain ⟨t1, rfl⟩ := ri
    obtain ⟨t2, rfl⟩ := rj
    have e : pairV H (.ref b) = y := pairH_of hy2
    rw [e]
    exact ⟨b, o2, t1, t2, n2, rfl, Heap.get?_push_of_some _ ho2, hc2, hd2⟩
  show wpAny _ _ _ _ _ { s with heap := h'.push (seqObj "list" acc.toList.toArray 0), toks := tk }
  refine wpAny_bind (wpAny_holding (wpAny_call_entry slot_list_sort ⟨_, hoL, rfl⟩ entry_list_sort
    (SrtO.list_sort_ord (s := { s with heap := h'.push (seqObj "list" acc.toList.toArray 0), toks := tk }) (SrtO.swo_lex (pairV H)) hoL hz16 (fun h2 => ?_) fun out hs2 hb => ⟨_, rfl, ?_⟩) (args_list_sort _)))
  · refine SrtO.pairs_sortableO (by omega) hpv fun o3 e3 => ?_
    rw [show (({ s with heap := h'.push (seqObj "list" acc.toList.toArray 0), toks := tk } : Shared).heap.get? h'.objs.size) = _ from hoL] at e3
    cases e3
    intro c
    exact absurd (Value.type.inj c) (by decide)
  · obtain ⟨e', he'⟩ := PyProof.Rows.sortedHeap_at (vs := acc.toList) (out := out.toArray) hoL
    have href : ∀ u ∈ out, ∃ a, u = Value.ref a := fun u hu => by
      have m := hb.perm.mem_iff.mp hu
      rw [ea] at m
      obtain ⟨b, _, e⟩ := List.mem_map.mp m
      exact ⟨b, e.symm⟩
    obtain ⟨ys, hys⟩ : ∃ ys : List Addr, out = ys.map Value.ref := by
      clear hs2 hb he'
      induction out with
      | nil => exact ⟨[], rfl⟩
      | cons u t ih =>
        obtain ⟨a, ha⟩ := href u List.mem_cons_self
        obtain ⟨ys, e⟩ := ih fun v hv => href v (List.mem_cons_of_mem _ hv)
        exact ⟨a :: ys, by rw [ha, e]; rfl⟩
    have hlo : out.length ≤ sizeLine := by rw [hb.len]; exact hz16
    refine wpAny_pure ⟨_, rfl, .ref h'.objs.size, upd H h'.objs.size (.lst (ys.map V.ref)), I1.laid (t' := tk) (fun b u e => ?_) (Nat.le_refl _) ?_, rfl,
      q _ ys (ys.map (pairH H)) ?_ ?_ ?_ (I1.hok.fresh (Nat.le_refl _))⟩
    · have hlt : b < h'.objs.size := Heap.lt_size e
      rw [PyProof.Rows.sortedHeap_old (Nat.ne_of_lt hlt) (by rw [size_push']; exact Nat.lt_succ_of_lt hlt)]
      exact Heap.get?_push_of_some _ e
    · refine ⟨by rw [List.length_map, ← List.length_map (f := Value.ref), ← hys]; exact hlo, out, e', ?_, he'⟩
      rw [hys]
      exact vals_refs ys
    · refine pairs_of_map fun b hb2 => ?_
      have m : Value.ref b ∈ acc.toList := hb.perm.mem_iff.mp (by rw [hys]; exact List.mem_map.mpr ⟨b, hb2, rfl⟩)
      rw [ea] at m
      obtain ⟨c, hc2, e⟩ := List.mem_map.mp m
      cases e
      obtain ⟨j, hj⟩ := List.getElem?_of_mem hc2
      obtain ⟨y, hy, hy2⟩ := DL.Paired.get hP hj
      rw [pairH_of hy2]
      exact hy2
    · have e : ys.map (pairH H) = out.map (pairV H) := by rw [hys, List.map_map]; rfl
      rw [e]
      exact SrtO.srtd_map hs2
    · have e : ys.map (pairH H) = out.map (pairV H) := by rw [hys, List.map_map]; rfl
      have e2 : ps = acc.toList.map (pairV H) := by rw [ea, List.map_map, ← pairs_map hP]; rfl
      rw [e, e2]
      refine SrtO.Stb.map ?_ (pairV H) hb
      refine ⟨fun x y h => ?_, fun x y z h1 h2 => ?_⟩
      · have a := SrtO.lexB_iff.mp h
        exact SrtO.lexB_no.mpr (by omega)
      · have a := SrtO.lexB_no.mp h1
        have b := SrtO.lexB_no.mp h2
        exact SrtO.lexB_no.mpr (by omega)
end DLR
namespace DL
open PySem L2 DLR
/-! ### the mirror of a run -/
abbrev GL := List ((Int × Int) × V)
def gcount : Option V → Int
  | some (.int c) => c
  | _ => 0
def bump (g : GL) (q : Int × Int) : GL := putK g q (.int (gcount (valV g q) + 1))
structure RS where
  m : Mach
  cnt : List Int
  goes : GL
  here : Option Nat
def goesOf (g : GL) (r : Nat) : Option Nat → GL
  | none => g
  | some n => bump g ((r : Int), (n : Int))
def turnS (rows : List Row) (s : RS) : RS := match s.here with
  | none => s
  | some r => ⟨(stepM s.m (rows.getD r .stop)).1, s.cnt.set r (s.cnt.getD r 0 + 1),
      goesOf s.goes r (stepM s.m (rows.getD r .stop)).2,
      (stepM s.m (rows.getD r .stop)).2⟩
def startS (p : Prog) : RS := ⟨⟨0, p.ws, []⟩, List.replicate p.rows.length 0, [], some 0⟩
def runS (p : Prog) : Nat → RS
  | 0 => startS p
  | k + 1 => turnS p.rows (runS p k)
theorem runS_none {p : Prog} {j : Nat} (h : (runS p j).here = none) : ∀ k, runS p (j + k) = runS p j
  | 0 => rfl
  | k + 1 => by
    show turnS p.rows (runS p (j + k)) = _
    rw [runS_none h k]
    unfold turnS
    rw [h]
structure ROk (p : Prog) (k : Nat) (s : RS) : Prop where
  m : MOk s.m
  w : s.m.ws.length = p.ws.length
  said : s.m.said.length ≤ k
  dl : s.cnt.length = p.rows.length
  sum : s.here ≠ none → s.cnt.sum = (k : Int)
  le : s.cnt.sum ≤ (k : Int) ∧ 0 ≤ s.cnt.sum
  gok : ∀ e ∈ s.goes, ∃ c, e.2 = .int c
  gl : s.goes.length ≤ k
  here : ∀ r, s.here = some r → r < p.rows.length
theorem getD_set_sum {l : List Int} {r : Nat} (h : r < l.length) : (l.set r (l.getD r 0 + 1)).sum = l.sum + 1 := by
  have e : l[r]? = some (l.getD r 0) := by
    rw [List.getD_eq_getElem?_getD, List.getElem?_eq_getElem h]
    rfl
  rw [L2.sum_set e]
  omega
theorem sum_rep : ∀ n : Nat, (List.replicate n (0 : Int)).sum = 0
  | 0 => rfl
  | n + 1 => by
    rw [List.replicate_succ, List.sum_cons, sum_rep n]
    rfl
theorem putK_len {κ : Type} [DecidableEq κ] {kvs : List (κ × V)} {k : κ} {v : V} : (putK kvs k v).length ≤ kvs.length + 1 := by
  unfold putK
  split
  · rw [List.length_map]; omega
  · rw [List.length_append]; exact Nat.le_refl _
theorem putK_all {κ : Type} [DecidableEq κ] {kvs : List (κ × V)} {k : κ} {c : Int} (h : ∀ e ∈ kvs, ∃ c, e.2 = V.int c) : ∀ e ∈ putK kvs k (.int c), ∃ c, e.2 = V.int c := by
  intro e he
  unfold putK at he
  split at he
  · obtain ⟨x, hx, rfl⟩ := List.mem_map.mp he
    by_cases q : x.1 = k
    · rw [if_pos q]; exact ⟨c, rfl⟩
    · rw [if_neg q]; exact h x hx
  · rcases List.mem_append.mp he with q | q
    · exact h e q
    · rw [List.mem_singleton.mp q]; exact ⟨c, rfl⟩
theorem runS_ok {p : Prog} (g : Good p) : ∀ k, ROk p k (runS p k)
  | 0 => by
    refine ⟨⟨(by show -1000000000 ≤ (0 : Int) ∧ (0 : Int) < 1000000000; decide), fun x hx => ?_⟩, rfl, Nat.le_refl _, List.length_replicate, fun _ => ?_, ?_, fun _ h => absurd h (by simp [runS, startS]), Nat.le_refl _, fun r h => ?_⟩
    · have := g.num x hx
      unfold InR
      omega
    · show (List.replicate p.rows.length (0 : Int)).sum = 0
      exact sum_rep _
    · show (List.replicate p.rows.length (0 : Int)).sum ≤ 0 ∧ 0 ≤ (List.replicate p.rows.length (0 : Int)).sum
      rw [sum_rep]
      decide
    · have e : (0 : Nat) = r := Option.some.inj h
      rw [← e]
      exact g.r1
  | k + 1 => by
    have ih := runS_ok g k
    show ROk p (k + 1) (turnS p.rows (runS p k))
    generalize runS p k = s at ih ⊢
    unfold turnS
    cases hh : s.here with
    | none =>
      exact ⟨ih.m, ih.w, Nat.le_succ_of_le ih.said, ih.dl, fun q => absurd hh q, ⟨by show s.cnt.sum ≤ ((k + 1 : Nat) : Int); have := ih.le.1; omega, ih.le.2⟩, ih.gok, Nat.le_succ_of_le ih.gl, fun r h => by rw [hh] at h; cases h⟩
    | some r =>
      have hr := ih.here r hh
      have er : p.rows.getD r .stop = p.rows[r] := by rw [List.getD_eq_getElem?_getD, List.getElem?_eq_getElem hr]; rfl
      have ho : (p.rows.getD r .stop).ok s.m.ws.length p.rows.length := by
        rw [er, ih.w]
        exact g.ok _ (List.getElem_mem hr)
      obtain ⟨s1, s2, s3, s4⟩ := stepM_ok ih.m ho
      have hs := getD_set_sum (l := s.cnt) (r := r) (by rw [ih.dl]; exact hr)
      have hsum := ih.sum (by rw [hh]; simp)
      refine ⟨s1, s2.trans ih.w, ?_, by rw [List.length_set]; exact ih.dl, fun _ => by rw [hs, hsum]; rfl, ?_, ?_, ?_, fun n h => s4 n h⟩
      · show (stepM s.m (p.rows.getD r .stop)).1.said.length ≤ k + 1
        have := ih.said
        omega
      · show (s.cnt.set r (s.cnt.getD r 0 + 1)).sum ≤ _ ∧ 0 ≤ (s.cnt.set r (s.cnt.getD r 0 + 1)).sum
        rw [hs, hsum]
        omega
      · show ∀ e ∈ goesOf s.goes r (stepM s.m (p.rows.getD r .stop)).2, _
        cases (stepM s.m (p.rows.getD r .stop)).2 with
        | none => exact ih.gok
        | some n => exact putK_all ih.gok
      · show (goesOf s.goes r (stepM s.m (p.rows.getD r .stop)).2).length ≤ _
        cases (stepM s.m (p.rows.getD r .stop)).2 with
        | none => exact Nat.le_succ_of_le ih.gl
        | some n => exact Nat.le_trans putK_len (Nat.succ_le_succ ih.gl)
/-! ### the goes as they stand in a dict -/
def kmap (g : GL) : List (List Key × V) := g.map fun e => (keyP e.1, e.2)
theorem keyP_inj {a b : Int × Int} (h : keyP a = keyP b) : a = b := by
  obtain ⟨h1, h2⟩ := List.cons.inj h
  obtain ⟨h3, _⟩ := List.cons.inj h2
  exact Prod.ext (Sum.inl.inj h1) (Sum.inl.inj h3)
theorem kmap_val (g : GL) (q : Int × Int) : valV (kmap g) (keyP q) = valV g q := by
  induction g with
  | nil => rfl
  | cons e g ih =>
    by_cases h : e.1 = q
    · rw [valV_pos h]
      exact valV_pos (p := (keyP e.1, e.2)) (by rw [h])
    · rw [valV_neg h, ← ih]
      exact valV_neg (p := (keyP e.1, e.2)) (fun z => h (keyP_inj z))
theorem kmap_put (g : GL) (q : Int × Int) (v : V) : putK (kmap g) (keyP q) v = kmap (putK g q v) := by
  unfold putK
  have e : ((kmap g).any fun kv => decide (kv.1 = keyP q)) = (g.any fun kv => decide (kv.1 = q)) := by
    rw [valV_any, valV_any, kmap_val]
  rw [e]
  split
  · unfold kmap
    rw [List.map_map, List.map_map]
    refine List.map_congr_left fun x _ => ?_
    show (if keyP x.1 = keyP q then (keyP x.1, v) else (keyP x.1, x.2)) = (keyP (if x.1 = q then (x.1, v) else x).1, (if x.1 = q then (x.1, v) else x).2)
    by_cases h : x.1 = q
    · rw [if_pos h, if_pos (by rw [h])]
    · rw [if_neg h, if_neg (fun z => h (keyP_inj z))]
  · unfold kmap
    rw [List.map_append]
    rfl
theorem kmap_keys (g : GL) : (kmap g).map (·.1) = (g.map (·.1)).map keyP := by
  unfold kmap
  rw [List.map_map, List.map_map]
  rfl
theorem kmap_len (g : GL) : (kmap g).length = g.length := List.length_map _
theorem valV_mem {κ : Type} [DecidableEq κ] {g : List (κ × V)} {q : κ} {v : V} (h : valV g q = some v) : ∃ e ∈ g, e.2 = v := by
  induction g with
  | nil => cases h
  | cons e g ih =>
    by_cases z : e.1 = q
    · rw [valV_pos z] at h
      exact ⟨e, List.mem_cons_self, Option.some.inj h⟩
    · rw [valV_neg z] at h
      obtain ⟨x, hx, hy⟩ := ih h
      exact ⟨x, List.mem_cons_of_mem _ hx, hy⟩
theorem gget {g : GL} (h : ∀ e ∈ g, ∃ c, e.2 = V.int c) (q : Int × Int) : (valV g q).getD (.int 0) = .int (gcount (valV g q)) := by
  cases e : valV g q with
  | none => rfl
  | some v =>
    obtain ⟨x, hx, hy⟩ := valV_mem e
    obtain ⟨c, hc⟩ := h x hx
    rw [← hy, hc]
    rfl
theorem ggot {g : GL} (h : ∀ e ∈ g, ∃ c, e.2 = V.int c) {q : Int × Int} (m : q ∈ g.map (·.1)) : valV g q = some (.int (gcount (valV g q))) := by
  have e := gget h q
  cases z : valV g q with
  | none => exact absurd m (L2.valV_not z)
  | some v =>
    rw [z] at e
    exact congrArg some e
/-! ### what a run tells -/
structure Res (p : Prog) (fuel : Nat) (H0 H : Hp) (a ls le ld lg : Addr) (ys : List Addr) (L : List (Int × Int)) : Prop where
  same : Same1 H0 H
  top : H a = some (.tup [.ref ls, .ref le, .ref ld, .ref lg])
  fs : H0 ls = none
  fd : H0 ld = none
  fg : H0 lg = none
  said : H ls = some (.lst ((runS p fuel).m.said.map V.int))
  fin : H le = some (.tup [.str (if (runS p fuel).here = none then "stop" else "long")])
  cnt : H ld = some (.lst ((runS p fuel).cnt.map V.int))
  goes : H lg = some (.lst (ys.map V.ref))
  each : Paired (fun b q => H b = some (.tup [.int q.1, .int q.2, .int (gcount (valV (runS p fuel).goes q))])) ys L
  srt : SrtO.Srtd SrtO.lexB L
  stb : SrtO.Stb SrtO.lexB L ((runS p fuel).goes.map (·.1))
  n1 : ls ≠ ld
  n2 : ls ≠ lg
  n3 : ld ≠ lg
def spRun : Sp := fun vs H Q _ => ∃ (pa : Addr) (p : Prog) (fuel : Nat), vs = [.ref pa, .int (fuel : Int)] ∧ ProgAt H pa p ∧ Good p ∧ fuel ≤ 5000 ∧
  ∀ a ls le ld lg ys L H', Res p fuel H H' a ls le ld lg ys L → Q (.ref a) H'
end DL
namespace DL
open PySem L2 DLR
theorem relI {i : Int} {t : Tok} : RelV (.int i) (.int i t) := ⟨t, rfl⟩
structure Cn (mg : Str → Option Value) where
  tW : Tok
  tR : Tok
  tN : Tok
  mW : mg "MOST_WORTHS" = some (.int 8 tW)
  mR : mg "MOST_ROWS" = some (.int 40 tR)
  mN : mg "MOST_NUMBER" = some (.int 1000000 tN)
structure Cf (mg : Str → Option Value) where
  tF : Tok
  mF : mg "MOST_FUEL" = some (.int 5000 tF)
structure Cd (mg : Str → Option Value) where
  tL : Tok
  tC : Tok
  mL : mg "DESK_LOW" = some (.int (-1000000000) tL)
  mC : mg "DESK_COUNT" = some (.int 2000000000 tC)
abbrev sIsNumber : Stmt := top 15
abbrev sIsBetween : Stmt := top 16
abbrev sPart : Stmt := top 17
abbrev sCheckWorths : Stmt := top 22
abbrev FIsNumber (K : Frg) (mg : Str → Option Value) := Fd K mg "is_number" sIsNumber ["thing"]
abbrev FIsBetween (K : Frg) (mg : Str → Option Value) := Fd K mg "is_between" sIsBetween ["thing", "low", "high"]
abbrev FPart (K : Frg) (mg : Str → Option Value) := Fd K mg "part" sPart ["whole", "at"]
abbrev FCheckWorths (K : Frg) (mg : Str → Option Value) := Fd K mg "check_worths" sCheckWorths ["worths"]
def spNum : Sp := fun vs H Q _ => ∃ i : Int, vs = [.int i] ∧ Q (.bl true) H
def spBetween : Sp := fun vs H Q _ => ∃ i lo hi : Int, vs = [.int i, .int lo, .int hi] ∧ lo ≤ i ∧ i ≤ hi ∧ Q (.bl true) H
def spPart : Sp := fun vs H Q _ => ∃ (a : Addr) (xs : List V) (j : Nat) (v : V), vs = [.ref a, .int (j : Int)] ∧ H a = some (.tup xs) ∧ xs[j]? = some v ∧ Q v H
def spCheckWorths : Sp := fun vs H Q _ => ∃ (a : Addr) (ws : List Int), vs = [.ref a] ∧ H a = some (.tup (ws.map V.int)) ∧ ws.length ≤ 8 ∧ (∀ x ∈ ws, -1000000 ≤ x ∧ x ≤ 1000000) ∧ Q .non H
def spCheckFuel : Sp := fun vs H Q _ => ∃ n : Int, vs = [.int n] ∧ 0 ≤ n ∧ n ≤ 5000 ∧ Q .non H
section
variable {P : Program} {w : World} {K : PySem.W.Frag} {mg : Str → Option Value} {base : Heap}
theorem scIsNumber : FnScope ["thing"] ["thing"] (defScope sIsNumber) := ⟨rfl, rfl, rfl, by decide +kernel, rfl, by decide +kernel, by decide +kernel⟩
theorem ok_isNumber (c : FIsNumber K mg) (T : Bt mg) : FnOk P w K mg base CX0 1 c.f c.fd ["thing"] spNum := by
  refine c.F.ok scIsNumber (fun vs H Q E h => ?_) (fun cdv A outer s H vs Q E hr h => ?_)
  · obtain ⟨n, rfl, _⟩ := h
    rfl
  · obtain ⟨n, rfl, k⟩ := h
    refine ⟨_, (pss_one (ps_ret (pe_and (pe_callB call_isi (by rfl) T.isinstance (by decide +kernel) (pa_cons (pv 0) (pa_cons (pe_bltn (v := .ty "int") (by rfl) T.int (by decide +kernel) rfl) pa_nil))) (pe_one (pe_not (pe_callB call_isi (by rfl) T.isinstance (by decide +kernel) (pa_cons (pv 0) (pa_cons (pe_bltn (v := .ty "bool") (by rfl) T.bool (by decide +kernel) rfl) pa_nil)))))))), ?_⟩
    refine ⟨_, rfl, _, _, _, _, true, rfl, .ty _, .base (.int _), kit_ty (by decide +kernel), _, rfl, ?_⟩
    exact ⟨_, rfl, _, _, _, _, false, rfl, .ty _, .base (.int _), kit_ty (by decide +kernel), _, rfl, k⟩
theorem scIsBetween : FnScope ["thing", "low", "high"] ["thing", "low", "high"] (defScope sIsBetween) := ⟨rfl, rfl, rfl, by decide +kernel, rfl, by decide +kernel, by decide +kernel⟩
theorem ok_isBetween (c : FIsBetween K mg) (cIsNumber : FIsNumber K mg) (T : Bt mg) : FnOk P w K mg base CX0 2 c.f c.fd ["thing", "low", "high"] spBetween := by
  have GIsNumber : FnOk P w K mg base CX0 1 cIsNumber.f cIsNumber.fd ["thing"] spNum := ok_isNumber cIsNumber T
  refine c.F.ok scIsBetween (fun vs H Q E h => ?_) (fun cdv A outer s H vs Q E hr h => ?_)
  · obtain ⟨i, lo, hi, rfl, _⟩ := h
    rfl
  · obtain ⟨i, lo, hi, rfl, h1, h2, k⟩ := h
    refine ⟨_, (pss_one (ps_ret (pe_and (pe_call GIsNumber (hr.mono (by first | omega | decide)) (by rfl) cIsNumber.m cIsNumber.F.kp cIsNumber.b .nil pass0 (pa_cons (pv 0) pa_nil)) (pe_one (pe_chain op_le op_le (pv 1) (pv 0) (pv 2)))))), ?_⟩
    refine ⟨_, rfl, _, rfl, _, rfl, ?_⟩
    refine ⟨_, rfl, _, rfl, _, _, rfl, rfl, _, rfl, ?_⟩
    rw [decide_eq_true h1]
    refine iteT ⟨_, rfl, _, _, rfl, rfl, ?_⟩
    show Q (.bl (decide (i ≤ hi))) H
    rw [decide_eq_true h2]
    exact k
theorem scPart : FnScope ["whole", "at"] ["whole", "at"] (defScope sPart) := ⟨rfl, rfl, rfl, by decide +kernel, rfl, by decide +kernel, by decide +kernel⟩
theorem ok_part (c : FPart K mg) (T : Bt mg) : FnOk P w K mg base CX0 1 c.f c.fd ["whole", "at"] spPart := by
  refine c.F.ok scPart (fun vs H Q E h => ?_) (fun cdv A outer s H vs Q E hr h => ?_)
  · obtain ⟨a, xs, j, v, rfl, _⟩ := h
    rfl
  · obtain ⟨a, xs, j, v, rfl, h1, h2, k⟩ := h
    have hj := (List.getElem?_eq_some_iff.mp h2).1
    refine ⟨_, (pss_cons (ps_if (PW.pt (pw_and (pt_val (pe_callB call_isi (by rfl) T.isinstance (by decide +kernel) (pa_cons (pv 0) (pa_cons (pe_bltn (v := .ty "tuple") (by rfl) T.tuple (by decide +kernel) rfl) pa_nil)))) (pw_and1 (pt_cmpR op_lt (pv 1) (pe_callB call_len_seq (by rfl) T.len PySem.boot_len (pa_cons (pv 0) pa_nil)) (nomark _)))))
          (pss_one (ps_ret (pe_ix ix_tup (pv 0) (pv 1) (fun _ _ => rfl))))
          pss_nil)
      (pss_one (ps_ret pe_non))), ?_⟩
    refine ⟨_, rfl, _, _, _, _, true, rfl, .ty _, .base (.tup h1), kit_ty (by decide +kernel), _, rfl, ?_⟩
    refine ⟨_, rfl, _, rfl, a, _, rfl, .inr (SqT.of h1), _, _, rfl, rfl, _, rfl, ?_⟩
    rw [decide_eq_true (show (j : Int) < (xs.length : Int) by omega)]
    exact iteT ⟨_, rfl, _, rfl, a, _, _, _, rfl, rfl, SqT.of h1, atI_nat h2, k⟩
theorem scCheckWorths : FnScope ["worths", "worth"] ["worths"] (defScope sCheckWorths) := ⟨rfl, rfl, rfl, by decide +kernel, rfl, by decide +kernel, by decide +kernel⟩
theorem ok_checkWorths (c : FCheckWorths K mg) (cIsBetween : FIsBetween K mg) (cIsNumber : FIsNumber K mg) (T : Bt mg) (C : Cn mg) : FnOk P w K mg base CX0 3 c.f c.fd ["worths"] spCheckWorths := by
  have GIsBetween : FnOk P w K mg base CX0 2 cIsBetween.f cIsBetween.fd ["thing", "low", "high"] spBetween := ok_isBetween cIsBetween cIsNumber T
  refine c.F.ok scCheckWorths (fun vs H Q E h => ?_) (fun cdv A outer s H vs Q E hr h => ?_)
  · obtain ⟨a, ws, rfl, _⟩ := h
    rfl
  · obtain ⟨a, ws, rfl, h1, h8, hb, k⟩ := h
    refine ⟨_, (pss_cons (ps_if (PW.pt (pw_or (pt_not (pt_val (pe_callB call_isi (by rfl) T.isinstance (by decide +kernel) (pa_cons (pv 0) (pa_cons (pe_bltn (v := .ty "tuple") (by rfl) T.tuple (by decide +kernel) rfl) pa_nil))))) (pw_or1 (pt_cmpR op_gt (pe_callB call_len_seq (by rfl) T.len PySem.boot_len (pa_cons (pv 0) pa_nil)) (pe_glob rfl C.mW relI) (nomark _)))))
          (pss_one ps_never)
          pss_nil)
      (pss_one (ps_for PassesOwn.never rfl (pi_tup (pv 0)) (pg_name (i := 1) scCheckWorths.nd rfl (Or.inl rfl))
          (pss_one (ps_if (pt_not (pt_val (pe_call GIsBetween (hr.mono (by first | omega | decide)) (by rfl) cIsBetween.m cIsBetween.F.kp cIsBetween.b .nil pass0 (pa_cons (pv 1) (pa_cons (pe_un un_neg (pe_glob rfl C.mN relI)) (pa_cons (pe_glob rfl C.mN relI) pa_nil))))))
              (pss_one ps_never)
              pss_nil))))), ?_⟩
    refine ⟨_, rfl, _, _, _, _, true, rfl, .ty _, .base (.tup h1), kit_ty (by decide +kernel), _, rfl, ?_⟩
    refine ⟨_, rfl, a, _, rfl, .inr (SqT.of h1), _, _, rfl, rfl, _, rfl, ?_⟩
    rw [decide_eq_false (show ¬ (8 : Int) < ((ws.map V.int).length : Int) by rw [List.length_map]; omega)]
    refine iteF ⟨_, rfl, a, rfl, ⟨_, SqT.of h1⟩, for_tup (K := K) (a := a) (xs := ws.map V.int) (fun i σ H' => ∃ x : Option V, σ = [some (.ref a), x] ∧ H' = H) ⟨_, rfl, rfl⟩ (fun i σ H' _ ⟨_, _, e⟩ => by rw [e]; exact SqT.of h1) ?_ ?_⟩
    · rintro i x σ H' hi ⟨y, rfl, rfl⟩
      rw [List.getElem?_map] at hi
      cases hz : ws[i]? with
      | none => rw [hz] at hi; cases hi
      | some z =>
        rw [hz] at hi
        have e : V.int z = x := Option.some.inj hi
        subst e
        obtain ⟨b1, b2⟩ := hb z (List.mem_of_getElem? hz)
        refine ⟨_, rfl, _, rfl, z, _, _, rfl, by omega, by omega, _, rfl, ?_⟩
        exact ⟨_, rfl, rfl⟩
    · rintro σ H' ⟨y, rfl, rfl⟩
      exact k
end
end DL
namespace DL
open PySem L2 DLR
def Row.parts : Row → List Str
  | .say _ => ["next"]
  | .test _ _ => ["next", "next"]
  | .stop => []
  | _ => ["worth", "next"]
theorem Row.parts_len (r : Row) : (rowVs r).length = r.parts.length + 1 := by cases r <;> rfl
structure Pt (K : Frg) (w : World) (mg : Str → Option Value) where
  d : Addr
  es : Array DictEntry
  n : Nat
  m : mg "PARTS" = some (.ref d)
  kd : KDict K w d es n
  at_ : ∀ r : Row, ∃ t, PySem.W.nsIn K d r.word = some (some (.ref t)) ∧ ∀ H, SqT K H t (r.parts.map V.str)
theorem Pt.get {K : Frg} {w : World} {mg : Str → Option Value} (Z : Pt K w mg) (r : Row) : ∃ t, PySem.W.nsIn K Z.d r.word = some (some (.ref t)) ∧ KDct K w Z.d r.word (.ref t) ∧ ∀ H, SqT K H t (r.parts.map V.str) := by
  obtain ⟨t, h1, h2⟩ := Z.at_ r
  exact ⟨t, h1, ⟨_, _, _, Z.kd.at_, Z.kd.lit, h1, rfl⟩, h2⟩
theorem Row.args (r : Row) {i : Nat} (h : i < r.parts.length) : ∃ x : Nat, ((rowVs r).drop 1)[i]? = some (.int (x : Int)) ∧ ∀ {W N : Nat}, r.ok W N →
    (r.parts[i]? = some "worth" ∧ x < W) ∨ (r.parts[i]? = some "next" ∧ x < N) := by
  have hi : i < 2 := by cases r <;> simp [Row.parts] at h <;> omega
  match i, hi with
  | 0, _ =>
    cases r <;> first
      | exact ⟨_, rfl, fun o => .inl ⟨rfl, o.1⟩⟩
      | exact ⟨_, rfl, fun o => .inr ⟨rfl, o⟩⟩
      | exact ⟨_, rfl, fun o => .inr ⟨rfl, o.1⟩⟩
      | (exfalso; simp [Row.parts] at h)
  | 1, _ =>
    cases r <;> first
      | exact ⟨_, rfl, fun o => .inr ⟨rfl, o.2⟩⟩
      | (exfalso; simp [Row.parts] at h)
theorem Row.ints (r : Row) : ∃ ns : List Int, (rowVs r).drop 1 = ns.map V.int ∧ ns.length = r.parts.length := by
  cases r with
  | load a b => exact ⟨[(a : Int), (b : Int)], rfl, rfl⟩
  | add a b => exact ⟨[(a : Int), (b : Int)], rfl, rfl⟩
  | take a b => exact ⟨[(a : Int), (b : Int)], rfl, rfl⟩
  | store a b => exact ⟨[(a : Int), (b : Int)], rfl, rfl⟩
  | say b => exact ⟨[(b : Int)], rfl, rfl⟩
  | test a b => exact ⟨[(a : Int), (b : Int)], rfl, rfl⟩
  | stop => exact ⟨[], rfl, rfl⟩
abbrev sHasShape : Stmt := top 24
abbrev sCheckRow : Stmt := top 23
abbrev sCheckProgram : Stmt := top 21
abbrev FHasShape (K : Frg) (mg : Str → Option Value) := Fd K mg "has_shape" sHasShape ["row"]
abbrev FCheckRow (K : Frg) (mg : Str → Option Value) := Fd K mg "check_row" sCheckRow ["row", "number", "counts"]
abbrev FCheckProgram (K : Frg) (mg : Str → Option Value) := Fd K mg "check_program" sCheckProgram ["program"]
def spHasShape : Sp := fun vs H Q _ => ∃ (a : Addr) (r : Row), vs = [.ref a] ∧ H a = some (.tup (rowVs r)) ∧ ∀ H', Same1 H H' → Q (.bl true) H'
def kWo : Key := .inr "worth"
def kNx : Key := .inr "next"
def spCheckRow : Sp := fun vs H Q _ => ∃ (a c : Addr) (n : Int) (r : Row) (W N : Nat) (kvs : List (Key × V)), vs = [.ref a, .int n, .ref c] ∧ H a = some (.tup (rowVs r)) ∧ r.ok W N ∧
  H c = some (.dK kvs) ∧ valV kvs kWo = some (.int (W : Int)) ∧ valV kvs kNx = some (.int (N : Int)) ∧ ∀ H', Same1 H H' → Q .non H'
def spCheckProgram : Sp := fun vs H Q _ => ∃ (a : Addr) (p : Prog), vs = [.ref a] ∧ ProgAt H a p ∧ Good p ∧ ∀ H', Same1 H H' → Q .non H'
abbrev sUsesWorth : Stmt := top 18
abbrev FUsesWorth (K : Frg) (mg : Str → Option Value) := Fd K mg "uses_worth" sUsesWorth ["row"]
def spUses : Sp := fun vs H Q _ => ∃ (a : Addr) (r : Row), vs = [.ref a] ∧ H a = some (.tup (rowVs r)) ∧ Q (.bl r.uses) H
theorem uses_in (r : Row) : inV (.str "worth") (r.parts.map V.str) = r.uses := by
  cases r <;> (dsimp only [Row.parts, Row.uses, List.map]; decide +kernel)
section
variable {P : Program} {w : World} {K : PySem.W.Frag} {mg : Str → Option Value} {base : Heap}
abbrev nHasShape : List Str := ["row", "word", "thing"]
theorem scHasShape : FnScope nHasShape ["row"] (defScope sHasShape) := ⟨rfl, rfl, rfl, by decide +kernel, rfl, by decide +kernel, by decide +kernel⟩
theorem ok_hasShape (c : FHasShape K mg) (cPart : FPart K mg) (cIsNumber : FIsNumber K mg) (T : Bt mg) (Z : Pt K w mg) : FnOk P w K mg base CX0 2 c.f c.fd ["row"] spHasShape := by
  have GPart : FnOk P w K mg base CX0 1 cPart.f cPart.fd ["whole", "at"] spPart := ok_part cPart T
  have GIsNumber : FnOk P w K mg base CX0 1 cIsNumber.f cIsNumber.fd ["thing"] spNum := ok_isNumber cIsNumber T
  refine c.F.ok scHasShape (fun vs H Q E h => ?_) (fun cdv A outer s H vs Q E hr h => ?_)
  · obtain ⟨a, r, rfl, _⟩ := h
    rfl
  · obtain ⟨a, r, rfl, ha, k⟩ := h
    obtain ⟨t, z1, z2, z3⟩ := Z.get r
    obtain ⟨ns, n1, n2⟩ := Row.ints r
    have rl := Row.vs_len r
    refine ⟨_, (pss_cons (ps_set (i := 1) scHasShape.nd rfl (Or.inl rfl) (pe_call GPart (hr.mono (by first | omega | decide)) (by rfl) cPart.m cPart.F.kp cPart.b .nil pass0 (pa_cons (pv 0) (pa_cons pe_int pa_nil))))
      (pss_cons (ps_if (PW.pt (pw_or (pt_not (pt_val (pe_callB call_isi (by rfl) T.isinstance (by decide +kernel) (pa_cons (pv 1) (pa_cons (pe_bltn (v := .ty "str") (by rfl) T.str (by decide +kernel) rfl) pa_nil))))) (pw_or1 (pt_cmpR (op_notIn_kd Z.kd) (pv 1) (pe_glob (v := .ref Z.d) rfl Z.m rfl) rfl))))
          (pss_one (ps_ret pe_bl))
          pss_nil)
      (pss_one (ps_ret (pe_and (pe_cmpR op_eq (pe_callB call_len_seq (by rfl) T.len PySem.boot_len (pa_cons (pv 0) pa_nil)) (pe_op op_add (pe_callB call_len_seq (by rfl) T.len PySem.boot_len (pa_cons (pe_ix ix_kdict (pe_glob (v := .ref Z.d) rfl Z.m rfl) (pv 1) (fun _ _ => rfl)) pa_nil)) pe_int) (nomark _)) (pe_one (pe_callB (cr_all rfl) (by rfl) T.all (by decide +kernel) (pa_cons (pe_lc (own := [("thing", 2)]) (g := gName 2) (tt := tYes) rfl scHasShape.nd (pi_tup (pe_slice sl_tupS (pv 0) (po_some pe_int) po_none)) (blkOk_by (N := nHasShape) (sc := defScope sHasShape) (by decide +kernel)) (fun _ _ _ _ _ => (pg_name (i := 2) scHasShape.nd rfl (Or.inl rfl))) (fun _ _ _ _ _ => pts_nil) (fun _ _ _ _ _ => (pe_call GIsNumber (hr.mono (by first | omega | decide)) (by rfl) cIsNumber.m cIsNumber.F.kp cIsNumber.b .nil pass0 (pa_cons (pv 2) pa_nil)))) pa_nil)))))))), ?_⟩
    refine ⟨_, rfl, a, _, 0, _, rfl, ha, Row.w0 r, ?_⟩
    refine ⟨_, rfl, _, _, _, _, true, rfl, .ty _, .base (.str _), kit_ty (by decide +kernel), _, rfl, ?_⟩
    refine ⟨_, rfl, _, _, rfl, rfl, z1, _, rfl, ?_⟩
    refine ⟨_, rfl, a, _, rfl, .inr (SqT.of ha), _, rfl, Z.d, _, _, rfl, rfl, z2, t, _, rfl, .inr (z3 H), _, _, rfl, rfl, rfl, _, rfl, ?_⟩
    rw [List.length_map, Row.parts_len, decide_eq_true (show V.int ((r.parts.length + 1 : Nat) : Int) = V.int ((r.parts.length : Int) + 1) from rfl)]
    refine iteT ⟨_, rfl, _, rfl, a, _, rfl, ha, fun t2 H2 s2 e2 => ?_⟩
    rw [drop1, n1] at e2
    refine ⟨t2, rfl, ⟨_, SqT.of e2⟩, fun D hD => ?_⟩
    refine lc_tup (K := K) (a := t2) (xs := ns.map V.int) (fun i H' => H' D = some (.lst ((List.replicate i true).map V.bl)) ∧ Same1 H2 H') ⟨upd_same, Same.new hD⟩ (fun i H' _ ⟨_, q⟩ => SqT.of (q _ _ e2)) ?_ ?_
    · rintro i x H3 hi ⟨hd, s3⟩
      have hin : i < ns.length := by
        have q := (List.getElem?_eq_some_iff.mp hi).1
        rwa [List.length_map] at q
      obtain ⟨z, rfl⟩ : ∃ z, x = V.int z := by
        rw [List.getElem?_map, List.getElem?_eq_getElem hin] at hi
        exact ⟨_, (Option.some.inj hi).symm⟩
      refine ⟨rfl, _, rfl, z, rfl, _, hd, szl (by rw [List.length_map, List.length_replicate]; rw [n2] at hin; have := Row.parts_len r; omega), ?_, Same.mut s3 hD⟩
      rw [upd_same, List.replicate_succ', List.map_append]
      rfl
    · rintro H3 ⟨hd, s3⟩
      refine ⟨D, _, rfl, SqL.of hd, ?_⟩
      rw [show (List.replicate (ns.map V.int).length true).all id = true by rw [List.all_eq_true]; intro x hx; rw [List.eq_of_mem_replicate hx]; rfl]
      exact k _ (s2.trans s3)
abbrev nCheckRow : List Str := ["row", "number", "counts", "name", "thing"]
theorem scCheckRow : FnScope nCheckRow ["row", "number", "counts"] (defScope sCheckRow) := ⟨rfl, rfl, rfl, by decide +kernel, rfl, by decide +kernel, by decide +kernel⟩
theorem ok_checkRow (c : FCheckRow K mg) (cHasShape : FHasShape K mg) (cPart : FPart K mg) (cIsNumber : FIsNumber K mg) (T : Bt mg) (Z : Pt K w mg) : FnOk P w K mg base CX0 3 c.f c.fd ["row", "number", "counts"] spCheckRow := by
  have GHasShape : FnOk P w K mg base CX0 2 cHasShape.f cHasShape.fd ["row"] spHasShape := ok_hasShape cHasShape cPart cIsNumber T Z
  refine c.F.ok scCheckRow (fun vs H Q E h => ?_) (fun cdv A outer s H vs Q E hr h => ?_)
  · obtain ⟨a, c, n, r, W, N, kvs, rfl, _⟩ := h
    rfl
  · obtain ⟨a, c, n, r, W, N, kvs, rfl, ha, ho, hc, hW, hN, k⟩ := h
    obtain ⟨t, z1, z2, z3⟩ := Z.get r
    refine ⟨_, (pss_cons (ps_if (pt_not (pt_val (pe_call GHasShape (hr.mono (by first | omega | decide)) (by rfl) cHasShape.m cHasShape.F.kp cHasShape.b .nil pass0 (pa_cons (pv 0) pa_nil))))
          (pss_one ps_never)
          pss_nil)
      (pss_one (ps_for PassesOwn.never rfl (RZ.pi_zipA (by rfl) T.zip (pa_cons (pe_ix ix_kdict (pe_glob (v := .ref Z.d) rfl Z.m rfl) (pe_ix ix_tup (pv 0) pe_int (fun _ _ => rfl)) (fun _ _ => rfl)) (pa_cons (pe_slice sl_tupS (pv 0) (po_some pe_int) po_none) pa_nil))) (pg_tup rfl (pgs_cons (pg_name (i := 3) scCheckRow.nd rfl (Or.inl rfl)) (pgs_cons (pg_name (i := 4) scCheckRow.nd rfl (Or.inl rfl)) pgs_nil)))
          (pss_one (ps_if (pt_not (pt_chain op_le op_lt pe_int (pv 4) (pe_dget (hu_of hr) (pv 2) (pv 3) (fun _ _ => rfl))))
              (pss_one ps_never)
              pss_nil))))), ?_⟩
    refine ⟨_, rfl, a, r, rfl, ha, fun H1 s1 => ⟨_, rfl, ?_⟩⟩
    have ha1 := s1 _ _ ha
    refine ⟨_, rfl, a, _, _, _, rfl, rfl, SqT.of ha1, atI_nat (j := 0) (Row.w0 r), Z.d, _, _, rfl, rfl, z2, _, rfl, _, rfl, a, _, rfl, ha1, fun t2 H2 s2 e2 => ?_⟩
    rw [drop1] at e2
    have hl : (r.parts.map V.str).length = ((rowVs r).drop 1).length := by
      rw [List.length_map, List.length_drop, Row.parts_len]
      omega
    have S2 := s1.trans s2
    refine ⟨t, t2, _, _, rfl, .inr ⟨z3 H2, SqT.of e2, RZ.for_zipT hl (fun i σ H' => ∃ x3 x4 : Option V, σ = [some (.ref a), some (.int n), some (.ref c), x3, x4] ∧ Same1 H2 H') ⟨none, none, rfl, Same.refl _⟩
      (fun i σ H' ⟨_, _, _, q⟩ => ⟨z3 H', SqT.of (q _ _ e2)⟩) ?_ ?_⟩⟩
    · rintro i x y T' σ H3 hx hy ⟨x3, x4, rfl, s3⟩ hT'
      have hi : i < r.parts.length := by
        have q := (List.getElem?_eq_some_iff.mp hx).1
        rwa [List.length_map] at q
      obtain ⟨z, g1, g2⟩ := Row.args r hi
      have ey : y = .int (z : Int) := by
        rw [hy] at g1
        exact Option.some.inj g1
      subst ey
      have hc3 := (S2.trans s3) _ _ hc
      refine alloc hT' fun H4 s4 e4 => ?_
      have hc4 := s4 _ _ hc3
      refine ⟨T', _, rfl, SqT.of e4, rfl, _, _, rfl, _, _, rfl, rfl, ?_⟩
      refine ⟨_, rfl, _, _, rfl, rfl, _, rfl, ?_⟩
      rw [decide_eq_true (show (0 : Int) ≤ (z : Int) by omega)]
      rw [List.getElem?_map] at hx
      rcases g2 ho with ⟨q1, q2⟩ | ⟨q1, q2⟩
      · rw [q1] at hx
        have ex : V.str "worth" = x := Option.some.inj hx
        subst ex
        refine iteT ⟨_, rfl, _, rfl, c, _, rfl, dget (k := kWo) hc4 hW, _, _, rfl, rfl, _, rfl, ?_⟩
        rw [decide_eq_true (show (z : Int) < (W : Int) by omega)]
        exact ⟨_, _, rfl, s3.trans s4⟩
      · rw [q1] at hx
        have ex : V.str "next" = x := Option.some.inj hx
        subst ex
        refine iteT ⟨_, rfl, _, rfl, c, _, rfl, dget (k := kNx) hc4 hN, _, _, rfl, rfl, _, rfl, ?_⟩
        rw [decide_eq_true (show (z : Int) < (N : Int) by omega)]
        exact ⟨_, _, rfl, s3.trans s4⟩
    · rintro σ H3 ⟨x3, x4, rfl, s3⟩
      exact k _ (S2.trans s3)
theorem k_WN : kWo ≠ kNx := by decide +kernel
abbrev nCheckProgram : List Str := ["program", "rows", "number", "row"]
theorem scCheckProgram : FnScope nCheckProgram ["program"] (defScope sCheckProgram) := ⟨rfl, rfl, rfl, by decide +kernel, rfl, by decide +kernel, by decide +kernel⟩
theorem ok_checkProgram (c : FCheckProgram K mg) (cCheckRow : FCheckRow K mg) (cCheckWorths : FCheckWorths K mg) (cHasShape : FHasShape K mg) (cPart : FPart K mg) (cIsBetween : FIsBetween K mg) (cIsNumber : FIsNumber K mg) (T : Bt mg) (C : Cn mg) (Z : Pt K w mg) : FnOk P w K mg base CX0 4 c.f c.fd ["program"] spCheckProgram := by
  have GCheckRow : FnOk P w K mg base CX0 3 cCheckRow.f cCheckRow.fd ["row", "number", "counts"] spCheckRow := ok_checkRow cCheckRow cHasShape cPart cIsNumber T Z
  have GCheckWorths : FnOk P w K mg base CX0 3 cCheckWorths.f cCheckWorths.fd ["worths"] spCheckWorths := ok_checkWorths cCheckWorths cIsBetween cIsNumber T C
  have GPart : FnOk P w K mg base CX0 1 cPart.f cPart.fd ["whole", "at"] spPart := ok_part cPart T
  refine c.F.ok scCheckProgram (fun vs H Q E h => ?_) (fun cdv A outer s H vs Q E hr h => ?_)
  · obtain ⟨a, p, rfl, _⟩ := h
    rfl
  · obtain ⟨a, p, rfl, ⟨wa, ra, bs, ha, hwa, hra, hR⟩, g, k⟩ := h
    have hbr := Paired.length hR
    have hR40 := g.r40
    have hR1 := g.r1
    refine ⟨_, (pss_cons (ps_expr (pe_call GCheckWorths (hr.mono (by first | omega | decide)) (by rfl) cCheckWorths.m cCheckWorths.F.kp cCheckWorths.b .nil pass0 (pa_cons (pe_call GPart (hr.mono (by first | omega | decide)) (by rfl) cPart.m cPart.F.kp cPart.b .nil pass0 (pa_cons (pv 0) (pa_cons pe_int pa_nil))) pa_nil)))
      (pss_cons (ps_set (i := 1) scCheckProgram.nd rfl (Or.inl rfl) (pe_call GPart (hr.mono (by first | omega | decide)) (by rfl) cPart.m cPart.F.kp cPart.b .nil pass0 (pa_cons (pv 0) (pa_cons pe_int pa_nil))))
      (pss_cons (ps_if (PW.pt (pw_or (pt_not (pt_val (pe_callB call_isi (by rfl) T.isinstance (by decide +kernel) (pa_cons (pv 1) (pa_cons (pe_bltn (v := .ty "tuple") (by rfl) T.tuple (by decide +kernel) rfl) pa_nil))))) (pw_or (pt_cmpR op_ne (pe_callB call_len_seq (by rfl) T.len PySem.boot_len (pa_cons (pv 0) pa_nil)) pe_int (nomark _)) (pw_or1 (pt_not (pt_chain op_le op_le pe_int (pe_callB call_len_seq (by rfl) T.len PySem.boot_len (pa_cons (pv 1) pa_nil)) (pe_glob rfl C.mR relI)))))))
          (pss_one ps_never)
          pss_nil)
      (pss_one (ps_for PassesOwn.never rfl (pi_enumT (by rfl) T.enumerate (pa_cons (pv 1) pa_nil)) (pg_tup rfl (pgs_cons (pg_name (i := 2) scCheckProgram.nd rfl (Or.inl rfl)) (pgs_cons (pg_name (i := 3) scCheckProgram.nd rfl (Or.inl rfl)) pgs_nil)))
          (pss_one (ps_expr (pe_call GCheckRow (hr.mono (by first | omega | decide)) (by rfl) cCheckRow.m cCheckRow.F.kp cCheckRow.b .nil pass0 (pa_cons (pv 3) (pa_cons (pv 2) (pa_cons (pe_disp (pps_cons pe_str (pe_callB call_len_seq (by rfl) T.len PySem.boot_len (pa_cons (pe_ix ix_tup (pv 0) pe_int (fun _ _ => rfl)) pa_nil)) (pps_cons pe_str (pe_callB call_len_seq (by rfl) T.len PySem.boot_len (pa_cons (pv 1) pa_nil)) pps_nil)) (by rfl) (by rfl) (fun z => by cases z) (by decide)) pa_nil))))))))))), ?_⟩
    refine ⟨_, rfl, a, _, 0, _, rfl, ha, rfl, wa, p.ws, rfl, hwa, g.w8, g.num, ?_⟩
    refine ⟨_, rfl, a, _, 1, _, rfl, ha, rfl, ?_⟩
    refine ⟨_, rfl, _, _, _, _, true, rfl, .ty _, .base (.tup hra), kit_ty (by decide +kernel), _, rfl, ?_⟩
    refine ⟨_, rfl, a, _, rfl, .inr (SqT.of ha), rfl, _, rfl, ?_⟩
    rw [decide_eq_true (show V.int ((([V.ref wa, V.ref ra] : List V).length : Nat) : Int) = V.int 2 from rfl)]
    refine iteF ⟨_, rfl, ra, _, rfl, .inr (SqT.of hra), _, _, rfl, rfl, _, rfl, ?_⟩
    rw [List.length_map, hbr, decide_eq_true (show (1 : Int) ≤ (p.rows.length : Int) by omega)]
    refine iteT ⟨_, _, rfl, rfl, _, rfl, ?_⟩
    rw [decide_eq_true (show (p.rows.length : Int) ≤ 40 by omega)]
    refine iteF ?_
    refine ⟨_, rfl, ra, _, rfl, SqT.of hra, for_enumT (K := K) (a := ra) (xs := bs.map V.ref) (fun i σ H' => ∃ x2 x3 : Option V, σ = [some (.ref a), some (.ref ra), x2, x3] ∧ Same1 H H') ⟨none, none, rfl, Same.refl _⟩
      (fun i σ H' ⟨_, _, _, q⟩ => SqT.of (q _ _ hra)) ?_ ?_⟩
    · rintro i x T' σ H1 hi ⟨x2, x3, rfl, s1⟩ hT'
      have hiR : i < p.rows.length := by
        have q := (List.getElem?_eq_some_iff.mp hi).1
        rwa [List.length_map, hbr] at q
      have hr1 : p.rows[i]? = some p.rows[i] := List.getElem?_eq_getElem hiR
      obtain ⟨b, hb1, hb2⟩ := Paired.getR hR hr1
      have ex : x = V.ref b := by
        rw [List.getElem?_map, hb1] at hi
        exact (Option.some.inj hi).symm
      subst ex
      refine alloc hT' fun H2 s2 e2 => ?_
      have S2 := s1.trans s2
      refine ⟨T', _, rfl, SqT.of e2, rfl, _, _, rfl, _, _, rfl, rfl, ?_⟩
      refine ⟨_, rfl, _, rfl, fun c1 hc1 => ?_⟩
      refine alloc hc1 fun H3 s3 e3 => ?_
      have S3 := S2.trans s3
      refine ⟨_, rfl, a, _, _, _, rfl, rfl, SqT.of (S3 _ _ ha), at0, wa, _, rfl, .inr (SqT.of (S3 _ _ hwa)), _, rfl, ra, _, rfl, .inr (SqT.of (S3 _ _ hra)), e3,
        [(kWo, .int (((p.ws.map V.int).length : Nat) : Int)), (kNx, .int (((bs.map V.ref).length : Nat) : Int))], rfl, (by show 2 ≤ 15; decide), ?_⟩
      have em : mergeK [] [(kWo, .int (((p.ws.map V.int).length : Nat) : Int)), (kNx, .int (((bs.map V.ref).length : Nat) : Int))] = putK (putK [] kWo (.int (p.ws.length : Int))) kNx (.int (p.rows.length : Int)) := by
        rw [List.length_map, List.length_map, hbr]
        rfl
      rw [em]
      have S4 : Same1 H (upd H3 c1 (.dK (putK (putK [] kWo (.int (p.ws.length : Int))) kNx (.int (p.rows.length : Int))))) := Same.mut S3 (S2.free hc1)
      refine ⟨b, c1, _, p.rows[i], p.ws.length, p.rows.length, putK (putK [] kWo (.int (p.ws.length : Int))) kNx (.int (p.rows.length : Int)), rfl, S4 _ _ hb2, g.ok _ (List.getElem_mem hiR), upd_same, ?_, ?_, fun H5 s5 => ⟨_, _, rfl, S4.trans s5⟩⟩
      · rw [valV_put, if_neg k_WN, valV_put, if_pos rfl]
      · rw [valV_put, if_pos rfl]
    · rintro σ H1 ⟨x2, x3, rfl, s1⟩
      exact k _ s1
theorem scUsesWorth : FnScope ["row"] ["row"] (defScope sUsesWorth) := ⟨rfl, rfl, rfl, by decide +kernel, rfl, by decide +kernel, by decide +kernel⟩
theorem ok_usesWorth (c : FUsesWorth K mg) (Z : Pt K w mg) : FnOk P w K mg base CX0 1 c.f c.fd ["row"] spUses := by
  refine c.F.ok scUsesWorth (fun vs H Q E h => ?_) (fun cdv A outer s H vs Q E hr h => ?_)
  · obtain ⟨a, r, rfl, _⟩ := h
    rfl
  · obtain ⟨a, r, rfl, ha, k⟩ := h
    obtain ⟨t, z1, z2, z3⟩ := Z.get r
    refine ⟨_, (pss_one (ps_ret (pe_cmpR op_in_seq pe_str (pe_ix ix_kdict (pe_glob (v := .ref Z.d) rfl Z.m rfl) (pe_ix ix_tup (pv 0) pe_int (fun _ _ => rfl)) (fun _ _ => rfl)) rfl))), ?_⟩
    refine ⟨_, rfl, a, _, _, _, rfl, rfl, SqT.of ha, atI_nat (j := 0) (Row.w0 r), Z.d, _, _, rfl, rfl, z2, t, _, rfl, .inr (z3 H), rfl, ?_, ?_⟩
    · rw [List.all_eq_true]
      intro x hx
      obtain ⟨y, _, rfl⟩ := List.mem_map.mp hx
      rfl
    · show Q (.bl (inV (.str "worth") (r.parts.map V.str))) H
      rw [uses_in]
      exact k
end
end DL
namespace DL
open PySem L2 DLR
structure Dk (K : Frg) (mg : Str → Option Value) (C : Addr) : Prop where
  cl : Cls K C
  nN : NoAttr K C "number"
  nW : NoAttr K C "worths"
  nS : NoAttr K C "said"
  m : mg "Desk" = some (.ref C)
abbrev fN : Str := "number"
abbrev fW : Str := "worths"
abbrev fS : Str := "said"
theorem f_NW : fN ≠ fW := by decide +kernel
theorem f_NS : fN ≠ fS := by decide +kernel
theorem f_WS : fW ≠ fS := by decide +kernel
structure DeskM (C : Addr) (H : Hp) (p aw as_ : Addr) (m : Mach) : Prop where
  ins : ∃ (dx : Addr) (fs : List (Str × V)), H p = some (.ins C dx fs) ∧ fs.length ≤ 100 ∧ fs.lookup fN = some (.int m.desk) ∧ fs.lookup fW = some (.ref aw) ∧ fs.lookup fS = some (.ref as_) ∧ (∀ x, x ≠ fN → x ≠ fW → x ≠ fS → fs.lookup x = none)
  ws : H aw = some (.lst (m.ws.map V.int))
  said : H as_ = some (.lst (m.said.map V.int))
  ne : aw ≠ as_
theorem DeskM.same {C : Addr} {H H' : Hp} {p aw as_ : Addr} {m : Mach} (h : DeskM C H p aw as_ m) (s : Same1 H H') : DeskM C H' p aw as_ m := by
  obtain ⟨⟨dx, fs, h1, h2⟩, h3, h4, h5⟩ := h
  exact ⟨⟨dx, fs, s _ _ h1, h2⟩, s _ _ h3, s _ _ h4, h5⟩
theorem put_len2 : ∀ {fs : List (Str × V)} {f : Str} {v x : V}, fs.lookup f = some x → (putF f v fs).length = fs.length
  | [], f, v, x, h => by cases h
  | (g, y) :: fs, f, v, x, h => by
    unfold putF
    by_cases e : g = f
    · rw [if_pos e]
      rfl
    · rw [if_neg e]
      have h' : fs.lookup f = some x := by
        rw [List.lookup_cons] at h
        rw [show (f == g) = false from beq_eq_false_iff_ne.mpr (fun z => e z.symm)] at h
        exact h
      show (putF f v fs).length + 1 = fs.length + 1
      rw [put_len2 h']
theorem DeskM.put {C : Addr} {H : Hp} {p aw as_ dx : Addr} {m : Mach} {fs : List (Str × V)} {z : Int} (h : DeskM C H p aw as_ m) (e : H p = some (.ins C dx fs)) : DeskM C (upd H p (.ins C dx (putF fN (.int z) fs))) p aw as_ { m with desk := z } := by
  obtain ⟨⟨dx', fs', h1, h2, h3, h4, h5, h9⟩, h6, h7, h8⟩ := h
  rw [e] at h1
  have q := Option.some.inj h1
  injection q with q1 q2 q3
  subst q2 q3
  have nw : aw ≠ p := ne_of h6 e (by intro z; cases z)
  have ns : as_ ≠ p := ne_of h7 e (by intro z; cases z)
  refine ⟨⟨dx, putF fN (.int z) fs, upd_same, by rw [put_len2 h3]; exact h2, ?_, ?_, ?_, fun x a b c => ?_⟩, by rw [upd_ne nw]; exact h6, by rw [upd_ne ns]; exact h7, h8⟩
  · rw [lookup_putF, if_pos rfl]
  · rw [lookup_putF, if_neg f_NW.symm]; exact h4
  · rw [lookup_putF, if_neg f_NS.symm]; exact h5
  · rw [lookup_putF, if_neg a]; exact h9 x a b c
theorem But.free {H H' : Hp} {p a : Addr} {o : HO} (b : But p H H') (e : H' p = some o) (h : H' a = none) : H a = none := by
  cases q : H a with
  | none => rfl
  | some u =>
    by_cases z : a = p
    · subst z; rw [e] at h; cases h
    · rw [b _ _ z q] at h; cases h
theorem putF_le {fs : List (Str × V)} {f : Str} {v : V} : (putF f v fs).length ≤ fs.length + 1 := by
  induction fs with
  | nil => exact Nat.le_refl _
  | cons e fs ih =>
    obtain ⟨g, y⟩ := e
    unfold putF
    split
    · exact Nat.le_succ _
    · exact Nat.succ_le_succ ih
theorem Row.wd3 (r : Row) : r.isWd "load" = (match r with | .load _ _ => true | _ => false) ∧ r.isWd "add" = (match r with | .add _ _ => true | _ => false) ∧ r.isWd "take" = (match r with | .take _ _ => true | _ => false) := by
  cases r with
  | load _ _ => exact (by decide +kernel : decide (V.str "load" = V.str "load") = true ∧ decide (V.str "load" = V.str "add") = false ∧ decide (V.str "load" = V.str "take") = false)
  | add _ _ => exact (by decide +kernel : decide (V.str "add" = V.str "load") = false ∧ decide (V.str "add" = V.str "add") = true ∧ decide (V.str "add" = V.str "take") = false)
  | take _ _ => exact (by decide +kernel : decide (V.str "take" = V.str "load") = false ∧ decide (V.str "take" = V.str "add") = false ∧ decide (V.str "take" = V.str "take") = true)
  | store _ _ => exact (by decide +kernel : decide (V.str "store" = V.str "load") = false ∧ decide (V.str "store" = V.str "add") = false ∧ decide (V.str "store" = V.str "take") = false)
  | say _ => exact (by decide +kernel : decide (V.str "say" = V.str "load") = false ∧ decide (V.str "say" = V.str "add") = false ∧ decide (V.str "say" = V.str "take") = false)
  | test _ _ => exact (by decide +kernel : decide (V.str "test" = V.str "load") = false ∧ decide (V.str "test" = V.str "add") = false ∧ decide (V.str "test" = V.str "take") = false)
  | stop => exact (by decide +kernel : decide (V.str "stop" = V.str "load") = false ∧ decide (V.str "stop" = V.str "add") = false ∧ decide (V.str "stop" = V.str "take") = false)
def spDInit (C : Addr) : Sp := fun vs H Q _ => ∃ (p dx : Addr) (v : V), vs = [.ref p, v] ∧ H p = some (.ins C dx []) ∧
  ∀ as_ fs H', (∀ x o, x ≠ p → H x = some o → H' x = some o) → H as_ = none → H' p = some (.ins C dx fs) → fs.length ≤ 100 → fs.lookup fN = some (.int 0) → fs.lookup fW = some v → fs.lookup fS = some (.ref as_) → (∀ x, x ≠ fN → x ≠ fW → x ≠ fS → fs.lookup x = none) → H' as_ = some (.lst []) → Q .non H'
def spDUse (C : Addr) : Sp := fun vs H Q _ => ∃ (p aw as_ : Addr) (m : Mach) (r : Row) (x N : Nat), vs = [.ref p, .str r.word, .int (x : Int)] ∧ DeskM C H p aw as_ m ∧ MOk m ∧ r.uses = true ∧ (rowVs r)[1]? = some (.int (x : Int)) ∧ r.ok m.ws.length N ∧
  ∀ H', But3 p aw as_ H H' → DeskM C H' p aw as_ (stepM m r).1 → Q .non H'
def spDOnward (C : Addr) : Sp := fun vs H Q _ => ∃ (p aw as_ ra : Addr) (m : Mach) (r : Row) (N : Nat), vs = [.ref p, .ref ra] ∧ DeskM C H p aw as_ m ∧ MOk m ∧ m.said.length ≤ 9000 ∧ H ra = some (.tup (rowVs r)) ∧ r.uses = false ∧ r.ok m.ws.length N ∧
  ∀ H', But3 p aw as_ H H' → DeskM C H' p aw as_ (stepM m r).1 → Q (oV (stepM m r).2) H'
def spDStep (C : Addr) : Sp := fun vs H Q _ => ∃ (p aw as_ ra : Addr) (m : Mach) (r : Row) (N : Nat), vs = [.ref p, .ref ra] ∧ DeskM C H p aw as_ m ∧ MOk m ∧ m.said.length ≤ 9000 ∧ H ra = some (.tup (rowVs r)) ∧ r.ok m.ws.length N ∧
  ∀ H', But3 p aw as_ H H' → DeskM C H' p aw as_ (stepM m r).1 → Q (oV (stepM m r).2) H'
section
variable {P : Program} {w : World} {K : PySem.W.Frag} {mg : Str → Option Value} {base : Heap} {C0 : Addr}
end
end DL
namespace DL
open PySem L2 DLR
theorem DeskM.get {C : Addr} {H : Hp} {p aw as_ : Addr} {m : Mach} (h : DeskM C H p aw as_ m) : ∃ (dx : Addr) (fs : List (Str × V)), H p = some (.ins C dx fs) ∧ fs.length ≤ 100 ∧ fs.lookup fN = some (.int m.desk) ∧ fs.lookup fW = some (.ref aw) ∧ fs.lookup fS = some (.ref as_) ∧ (∀ x, x ≠ fN → x ≠ fW → x ≠ fS → fs.lookup x = none) := h.ins
theorem Row.use_at {r : Row} (h : r.uses = true) {x W N : Nat} (e : (rowVs r)[1]? = some (.int (x : Int))) (ho : r.ok W N) : x < W ∧ ∃ n : Nat, n < N ∧ (rowVs r)[2]? = some (.int (n : Int)) ∧ (r = .load x n ∨ r = .add x n ∨ r = .take x n ∨ r = .store x n) := by
  cases r with
  | load w n => have q : w = x := Int.ofNat.inj (V.int.inj (Option.some.inj e)); subst q; exact ⟨ho.1, n, ho.2, rfl, .inl rfl⟩
  | add w n => have q : w = x := Int.ofNat.inj (V.int.inj (Option.some.inj e)); subst q; exact ⟨ho.1, n, ho.2, rfl, .inr (.inl rfl)⟩
  | take w n => have q : w = x := Int.ofNat.inj (V.int.inj (Option.some.inj e)); subst q; exact ⟨ho.1, n, ho.2, rfl, .inr (.inr (.inl rfl))⟩
  | store w n => have q : w = x := Int.ofNat.inj (V.int.inj (Option.some.inj e)); subst q; exact ⟨ho.1, n, ho.2, rfl, .inr (.inr (.inr rfl))⟩
  | say n => cases h
  | test a b => cases h
  | stop => cases h
section
variable {P : Program} {w : World} {K : PySem.W.Frag} {mg : Str → Option Value} {base : Heap} {C0 : Addr}
end
end DL
namespace DLR
open PySem PySem.Spec PyProof.Rows L2
/-! ### set(xs) of a list or a tuple of whole numbers; its rules over the layer -/
def newSet (w : World) : Obj := { cls := .type "set", dict := none, data := .set #[] 0 (.fresh 0 0 (!w.params.followText "set-order")) }
def SetMade (w : World) (s : Shared) (ns : List Int) (v : Value) (s2 : Shared) : Prop := v = .none ∧ ∃ (h2 : Heap) (tk c : Nat), s2 = { s with heap := h2, toks := tk } ∧ SetR w h2 s.heap.objs.size (fun j => decide (j ∈ ns)) c ∧ c ≤ ns.length ∧ ∀ b o, s.heap.get? b = some o → h2.get? b = some o
section
variable {P : Program} {w : World} {A : Around} {E : Value → Shared → Prop} {s : Shared}
set_option maxHeartbeats 3200000 in
theorem set_of_list {l : Addr} {items : Array Value} (ns : List Int) {Q : Value → Shared → Prop} (hh : A.handled = none) (hl : s.heap.IsList l items) (hit : IntsAre items.toList ns) (room : ns.length + 1 < scanBound)
    (k : ∀ (h2 : Heap) (tk c : Nat), SetR w h2 s.heap.objs.size (fun j => decide (j ∈ ns)) c → c ≤ ns.length → (∀ b o, s.heap.get? b = some o → h2.get? b = some o) → Q (.ref s.heap.objs.size) { s with heap := h2, toks := tk }) :
    wpAny (model P w) A (call (.type "set") [.ref l]) Q E s := by
  have size_eq : items.size = ns.length := by simpa using IntsAre.length hit
  obtain ⟨_, _, mro⟩ := F.called_set.mro
  have made := F.called_set.made
  have sub := F.called_set.sub
  have nt := F.called_set.notType
  have cc := F.called_set.canCreate
  have tc := F.typeCall_set_1 (.ref l)
  refine wpAny_call (codeAny_of_tree (show wpAny _ _ (callAny (.type "set") _) _ _ _ from wpAny_pure ⟨Code.quiet_builtin _ (by decide +kernel), codeAny_builtin F.entry_type_call ?_⟩))
  rw [Around.under_plain (weight_type_call_type "set" [.ref l] []) rfl]
  repeat (any_goals (first | assumption | wp_step))

  refine codeAny_mono (code_set_led1 (.ref l) (E := E) (Q₁ := fun o s1 => o = .ref s.heap.objs.size ∧ s1 = { s with heap := s.heap.push (newSet w) }) ⟨rfl, rfl⟩) fun r s1 hr => ?_
  match r, hr with
  | .error e, hr => exact hr
  | .ok (.ret o), hr =>
    obtain ⟨rfl, rfl⟩ := hr
    have at0 : (s.heap.push (newSet w)).get? s.heap.objs.size = some (newSet w) := Heap.get?_push_size _ rfl
    have ty : Shared.TypeIs { s with heap := s.heap.push (newSet w) } (.ref s.heap.objs.size) "set" := ⟨_, at0, rfl⟩
    have il := F.called_set.init.lookup
    have ib := F.called_set.init.bind (.ref s.heap.objs.size)
    repeat (any_goals (first | assumption | wp_step))

    refine codeAny_mono (codeAny_call_builtin (R := wants (SetMade w s ns) E) F.called_set.init.plain F.entry_set_init (check_set_init_1 ty ?_)) fun r2 s2 hr2 => ?_
    · obtain ⟨ol, hol, rfl', nl, hdl⟩ := hl
      obtain ⟨cls0, dict0, data0, slots0⟩ := ol
      dsimp only at rfl' hdl
      subst rfl' hdl
      have ol2 : (s.heap.push (newSet w)).get? l = some { cls := .type "list", dict := dict0, data := .seq items nl, slots := slots0 } := Heap.get?_push_of_some _ hol
      have s_ls := F.sub_list_set
      have s_lf := F.sub_list_frozenset
      have ne_d : (Value.type "list" == Value.type "dict") = false := by decide
      have isl : (s.heap.push (newSet w)).IsList l items := ⟨_, ol2, rfl, nl, rfl⟩
      unfold Builtin.«set.__init__» noKeywords Builtin.Frozenset.updateFrom
      generalize hPI : pyIter = PI
      wp_walk
      subst hPI

      refine wpAny_pyIter_list isl (wpAny_bind (wpAny_runValue ?_))
      have low : l < s.heap.objs.size := Heap.lt_size hol
      have h_in : A.in1.in1.in1.handled = none := by simp [hh]
      have sz1 : (s.heap.push (newSet w)).objs.size = s.heap.objs.size + 1 := Heap.size_push ..
      have neI : l ≠ (s.heap.push (newSet w)).objs.size := Nat.ne_of_lt (by rw [sz1]; exact Nat.lt_succ_of_lt low)
      have out0 : s.heap.objs.size ∉ [(s.heap.push (newSet w)).objs.size, l] := fun q => by
        rcases List.mem_cons.mp q with e | e
        · exact Nat.ne_of_lt (by rw [sz1]; exact Nat.lt_succ_self _) e
        · exact Nat.ne_of_gt low (List.mem_singleton.mp e)
      have vals : ∀ (i : Nat) (v : Value), items[i]? = some v → ∃ k t, ns[i]? = some k ∧ v = .int k t := fun i v hv => by
        have lt : i < ns.length := size_eq ▸ (Array.getElem?_eq_some_iff.mp hv).1
        obtain ⟨t, e⟩ := IntsAre.int_at hit i v (by rw [Array.getElem?_toList]; exact hv)
        refine ⟨ns[i], t, List.getElem?_eq_getElem lt, e.trans ?_⟩
        rw [List.getD_eq_getElem?_getD, List.getElem?_eq_getElem lt]
        rfl
      refine set_update_ints ((Walks.list h_in _ l neI items).toS) s.heap.objs.size out0 ns size_eq room vals (items.size - 0) 0 _ (by omega) (Nat.zero_le _) ⟨⟨_, Heap.get?_push_size _ rfl, rfl, rfl⟩, isl.push _⟩ ⟨0, Nat.le_refl 0, setR_new_at (Heap.get?_push_of_some _ at0)⟩ ?_
      intro s3 c3 mv hc3 set3
      have g3 := mv.gens
      have d3 := mv.drawn
      have o3 := mv.os
      have m3 := mv.heap
      obtain ⟨hp3, gs3, dr3, tk3, os3⟩ := s3
      have g3 : gs3 = s.gens := g3
      have d3 : dr3 = s.drawn := d3
      have o3 : os3 = s.os := o3
      subst g3 d3 o3
      refine show wpAny _ _ _ _ _ _ from wpAny_pure (show wpAny _ _ (ret Value.none) _ _ _ from wpAny_pure ⟨rfl, hp3, tk3, c3, rfl, set3, size_eq ▸ hc3, fun b o e => ?_⟩)
      have b0 : b < s.heap.objs.size := Heap.lt_size e
      refine m3 b o (fun q => ?_) (Heap.get?_push_of_some _ (Heap.get?_push_of_some _ e))
      rcases List.mem_cons.mp q with e2 | e2
      · exact Nat.ne_of_lt b0 e2
      · exact Nat.ne_of_lt (by rw [sz1]; exact Nat.lt_succ_of_lt b0) (List.mem_singleton.mp e2)
    · match r2, hr2 with
      | .error e, q => exact q
      | .ok (.ret v), q =>
        obtain ⟨rfl, h2, tk, c, rfl, q1, q2, q3⟩ := q
        repeat (any_goals (first | assumption | wp_step))
        exact k _ _ _ q1 q2 q3
      | .ok .next, q => exact q.elim
      | .ok .brk, q => exact q.elim
      | .ok .cont, q => exact q.elim
  | .ok .next, hr => exact hr.elim
  | .ok .brk, hr => exact hr.elim
  | .ok .cont, hr => exact hr.elim
end
end DLR
namespace DLR
open PySem PySem.Spec PyProof.Rows L2
def rSetL (K : PySem.W.Frag) (w : World) : List V → Hp → VK → Prop := fun vs H Q => ∃ (l : Addr) (ns : List Int), vs = [V.ref l] ∧ SqL K H l (ns.map V.int) ∧ ns.length < 60 ∧
  ∀ p c, c ≤ ns.length → H p = none → Q (.ref p) (upd H p (SetO w p (fun j => decide (j ∈ ns)) c))
def rSetT (K : PySem.W.Frag) (w : World) : List V → Hp → VK → Prop := fun vs H Q => ∃ (l : Addr) (ns : List Int), vs = [V.ref l] ∧ SqT K H l (ns.map V.int) ∧ ns.length < 60 ∧
  ∀ p c, c ≤ ns.length → H p = none → Q (.ref p) (upd H p (SetO w p (fun j => decide (j ∈ ns)) c))
theorem scan60 {n : Nat} (h : n < 60) : n + 1 < scanBound := Nat.lt_of_lt_of_le (Nat.succ_lt_succ h) (by decide)
section
variable {X : Cx}
theorem cr_setL (hc : X.calm = true) : CallR X (.type "set") (rSetL X.K X.w) := by
  intro pins s σ H vs us Q I r h
  obtain ⟨l, ns, rfl, hs, hb, q⟩ := h
  rw [Vals.ref1 r]
  obtain ⟨its, rv, pl, hz⟩ := I.list hs
  refine set_of_list ns (I.ok.hd hc) pl.isList (by simpa using rv.ints) (scan60 hb) fun h2 tk c R hc2 k => ?_
  exact ⟨.ref s.heap.objs.size, _, I.laid (t' := tk) k (Nat.le_refl _) (setO_new R), rfl, q _ c hc2 (I.hok.fresh (Nat.le_refl _))⟩
theorem cr_setT (hc : X.calm = true) : CallR X (.type "set") (rSetT X.K X.w) := by
  intro pins s σ H vs us Q I r h
  obtain ⟨l, ns, rfl, hs, hb, q⟩ := h
  rw [Vals.ref1 r]
  obtain ⟨its, rv, ⟨o, ho, hcl, n, hd⟩, _⟩ := I.tuple hs
  refine call_set_tupI (items := its.toArray) ns (I.ok.hd hc) ⟨o, ho, hcl, n, hd⟩ (by simpa using rv.ints) (scan60 hb) fun h2 tk c R hc2 k => ?_
  exact ⟨.ref s.heap.objs.size, _, I.laid (t' := tk) k (Nat.le_refl _) (setO_new R), rfl, q _ c hc2 (I.hok.fresh (Nat.le_refl _))⟩
end
theorem rise_uniq : ∀ {l m : List Int}, l.Pairwise (· < ·) → m.Pairwise (· < ·) → (∀ x, x ∈ l ↔ x ∈ m) → l = m
  | [], [], _, _, _ => rfl
  | [], y :: m, _, _, h => absurd ((h y).mpr List.mem_cons_self) (by simp)
  | x :: l, [], _, _, h => absurd ((h x).mp List.mem_cons_self) (by simp)
  | x :: l, y :: m, hl, hm, h => by
    have h1 := List.pairwise_cons.mp hl
    have h2 := List.pairwise_cons.mp hm
    have e : x = y := by
      have a := (h x).mp List.mem_cons_self
      have b := (h y).mpr List.mem_cons_self
      rcases List.mem_cons.mp a with e | e
      · exact e
      · rcases List.mem_cons.mp b with e2 | e2
        · exact e2.symm
        · have := h2.1 x e
          have := h1.1 y e2
          omega
    subst e
    rw [rise_uniq h1.2 h2.2 fun z => ⟨fun hz => ?_, fun hz => ?_⟩]
    · rcases List.mem_cons.mp ((h z).mp (List.mem_cons_of_mem _ hz)) with e | e
      · have := h1.1 z hz
        omega
      · exact e
    · rcases List.mem_cons.mp ((h z).mpr (List.mem_cons_of_mem _ hz)) with e | e
      · have := h2.1 z hz
        omega
      · exact e
end DLR
namespace DL
open PySem L2 DLR
/-! ### layings -/
structure Lay where
  wide : Nat
  places : List Nat
  homes : List (List Nat)
abbrev HomesAt (H : Hp) (bs : List Addr) (hs : List (List Nat)) : Prop := Paired (fun b h => H b = some (.tup (h.map nI))) bs hs
def LayAt (H : Hp) (a : Addr) (y : Lay) : Prop :=
  ∃ (pa ha : Addr) (bs : List Addr), H a = some (.tup [nI y.wide, .ref pa, .ref ha]) ∧ H pa = some (.tup (y.places.map nI)) ∧ H ha = some (.tup (bs.map V.ref)) ∧ HomesAt H bs y.homes
theorem HomesAt.kp {H H' : Hp} {bs : List Addr} {hs : List (List Nat)} (h : HomesAt H bs hs) (k : Kp H H') : HomesAt H' bs hs := Paired.mapP h fun b x e => k _ _ e
theorem LayAt.kp {H H' : Hp} {a : Addr} {y : Lay} (h : LayAt H a y) (k : Kp H H') : LayAt H' a y := by
  obtain ⟨pa, ha, bs, h1, h2, h3, h4⟩ := h
  exact ⟨pa, ha, bs, k _ _ h1, k _ _ h2, k _ _ h3, h4.kp k⟩
structure HomeOk (wide : Nat) (h : List Nat) : Prop where
  l1 : 1 ≤ h.length
  l3 : h.length ≤ 3
  up : h.Pairwise (· < ·)
  lt : ∀ x ∈ h, x < wide
structure LayOk (p : Prog) (y : Lay) : Prop where
  w2 : 2 ≤ y.wide
  w24 : y.wide ≤ 24
  pl : y.places.length = p.rows.length
  pok : ∀ x ∈ y.places, x < y.wide
  hl : y.homes.length = p.ws.length
  hok : ∀ h ∈ y.homes, HomeOk y.wide h
structure Bs (mg : Str → Option Value) : Prop where
  set : mg "set" = none
theorem rise_nat {ns : List Int} (h0 : ∀ x ∈ ns, 0 ≤ x) (up : ns.Pairwise (· < ·)) : ∃ h : List Nat, ns.map V.int = h.map nI ∧ h.length = ns.length ∧ h.Pairwise (· < ·) ∧ (∀ x ∈ h, (x : Int) ∈ ns) := by
  refine ⟨ns.map Int.toNat, ?_, List.length_map _, ?_, fun x hx => ?_⟩
  · rw [List.map_map]
    refine List.map_congr_left fun x hx => ?_
    show V.int x = V.int ((x.toNat : Nat) : Int)
    rw [Int.toNat_of_nonneg (h0 x hx)]
  · rw [List.pairwise_map]
    refine up.imp_of_mem fun {a b} ha hb h => ?_
    have := h0 a ha
    have := h0 b hb
    omega
  · obtain ⟨z, hz, rfl⟩ := List.mem_map.mp hx
    rw [Int.toNat_of_nonneg (h0 z hz)]
    exact hz
abbrev sLaying : Stmt := top 60
abbrev pLaying : List Str := ["_law_d", "_law_program", "_law_most"]
abbrev nLaying : List Str := ["_law_d", "_law_program", "_law_most", "_law_wide", "_law_places", "_law_homes", "_law_worth", "_law_some", "_law_row", "_law_k"]
abbrev FLaying (K : Frg) (mg : Str → Option Value) := Fd K mg "_law_laying" sLaying pLaying
def spLaying (K : Frg) : Sp := fun vs H Q _ => ∃ (d sa : Addr) (ns : List Int) (pa : Addr) (p : Prog) (most : Int), vs = [.ref d, .ref pa, .int most] ∧ Ent K H d sa ns ∧ ProgAt H pa p ∧ Good p ∧ 1 ≤ most ∧ most ≤ 3 ∧
  ∀ a y H', Dc K H H' d sa ns → LayAt H' a y → LayOk p y → (∀ h ∈ y.homes, (h.length : Int) ≤ most) → Q (.ref a) H'
section
variable {P : Program} {w : World} {K : PySem.W.Frag} {mg : Str → Option Value} {base : Heap}
theorem scLaying : FnScope nLaying pLaying (defScope sLaying) := ⟨rfl, rfl, rfl, by decide +kernel, rfl, by decide +kernel, by decide +kernel⟩
theorem ok_laying (c : FLaying K mg) (cNext : FNext K mg) (T : Bt mg) (TS : Bs mg) : FnOk P w K mg base CX0 2 c.f c.fd pLaying (spLaying K) := by
  have GNext : FnOk P w K mg base CX0 1 cNext.f cNext.fd ["_law_dice_here", "_law_many"] (spNext K) := ok_next cNext.F T
  refine c.F.ok scLaying (fun vs H Q E h => ?_) (fun cdv A outer s H vs Q E hr h => ?_)
  · obtain ⟨d, sa, ns, pa, p, most, rfl, _⟩ := h
    rfl
  · obtain ⟨d, sa, ns, pa, p, most, rfl, hE, ⟨wa, ra, bs, hpa, hwa, hra, hR⟩, g, m1, m3, kq⟩ := h
    have hbr := Paired.length hR
    have hR40 := g.r40
    have hW8 := g.w8
    refine ⟨_, (pss_cons (ps_set (i := 3) scLaying.nd rfl (Or.inr rfl) (pe_op op_add pe_int (pe_call GNext (hr.mono (by first | omega | decide)) (by rfl) cNext.m cNext.F.kp cNext.b .nil pass0 (pa_cons (pv 0) (pa_cons (pe_ix ix_list (pe_lst (pa_cons pe_int (pa_cons pe_int pa_nil))) (pe_call GNext (hr.mono (by first | omega | decide)) (by rfl) cNext.m cNext.F.kp cNext.b .nil pass0 (pa_cons (pv 0) (pa_cons pe_int pa_nil))) (fun _ _ => rfl)) pa_nil)))))
      (pss_cons (ps_set (i := 4) scLaying.nd rfl (Or.inl rfl) (pe_callTy call_tuple_of (by rfl) T.tuple (by decide +kernel) (pa_cons (pe_lc (own := [("_law_row", 8)]) (g := gName 8) (tt := tYes) rfl scLaying.nd (pi_tup (pe_ix ix_tup (pv 1) pe_int (fun _ _ => rfl))) (blkOk_by (N := nLaying) (sc := defScope sLaying) (by decide +kernel)) (fun _ _ _ _ _ => (pg_name (i := 8) scLaying.nd rfl (Or.inl rfl))) (fun _ _ _ _ _ => pts_nil) (fun _ _ _ _ _ => (pe_call GNext (hr.mono (by first | omega | decide)) (by rfl) cNext.m cNext.F.kp cNext.b .nil pass0 (pa_cons (pv 0) (pa_cons (pv 3) pa_nil))))) pa_nil)))
      (pss_cons (ps_set (i := 5) scLaying.nd rfl (Or.inl rfl) (pe_lst pa_nil))
      (pss_cons (ps_for PassesOwn.never rfl (pi_tup (pe_ix ix_tup (pv 1) pe_int (fun _ _ => rfl))) (pg_name (i := 6) scLaying.nd rfl (Or.inl rfl))
          (pss_cons (ps_setLc (i := 7) (own := [("_law_k", 9)]) (g := gName 9) (tt := tYes) rfl scLaying.nd rfl rfl (sw_true rfl rfl rfl (by decide +kernel)) (pi_range1 rfl T.range (pa_cons (pe_op op_add pe_int (pe_call GNext (hr.mono (by first | omega | decide)) (by rfl) cNext.m cNext.F.kp cNext.b .nil pass0 (pa_cons (pv 0) (pa_cons (pv 2) pa_nil)))) pa_nil)) (blkOk_by (N := nLaying) (sc := defScope sLaying) (by decide +kernel)) (fun _ _ _ _ _ => (pg_name (i := 9) scLaying.nd rfl (Or.inl rfl))) (fun _ _ _ _ _ => pts_nil) (fun _ _ _ _ _ => (pe_call GNext (hr.mono (by first | omega | decide)) (by rfl) cNext.m cNext.F.kp cNext.b .nil pass0 (pa_cons (pv 0) (pa_cons (pv 3) pa_nil)))))
          (pss_one (ps_expr (pe_bm PySem.F.plainAttrs_list PySem.F.slot_list_append PySem.F.type_list_append mt_append (pv 5) (pa_cons (pe_callTy call_tuple_of (by rfl) T.tuple (by decide +kernel) (pa_cons (pe_callB (cr_sortedSet rfl) (by rfl) T.sorted (by decide +kernel) (pa_cons (pe_callTy (cr_setL rfl) (by rfl) TS.set (by decide +kernel) (pa_cons (pv 7) pa_nil)) pa_nil)) pa_nil)) pa_nil))))))
      (pss_one (ps_ret (pe_tup (pa_cons (pv 3) (pa_cons (pv 4) (pa_cons (pe_callTy call_tuple_of (by rfl) T.tuple (by decide +kernel) (pa_cons (pv 5) pa_nil)) pa_nil)))))))))), ?_⟩
    refine ⟨_, rfl, (by show 2 ≤ sizeLine; decide), fun l hl => ?_⟩
    refine alloc hl fun H1 s1 e1 => ?_
    have C1 := (Dc.refl hE).same s1
    refine ⟨_, rfl, d, sa, ns, _, rfl, C1.ent, by decide, by decide, fun n1 H2 a0 a1 C2 => ?_⟩
    obtain ⟨z, hz, z1, z2⟩ : ∃ z : Int, atI ([V.int 4, V.int 23] : List V) n1 = some (.int z) ∧ 0 < z ∧ z ≤ 23 := by
      rcases (show n1 = 0 ∨ n1 = 1 by omega) with q | q
      · exact ⟨4, by rw [q]; exact at0, by decide, by decide⟩
      · exact ⟨23, by rw [q]; exact at1, by decide, by decide⟩
    refine ⟨l, _, _, _, rfl, rfl, SqL.of (C2.but _ _ (C1.ned hl) e1), hz, d, sa, ns, _, rfl, (C1.trans C2).ent, z1, by omega, fun n2 H3 b0 b1 C3 => ?_⟩
    have C3' := (C1.trans C2).trans C3
    refine ⟨_, _, rfl, rfl, ?_⟩
    obtain ⟨W, hW⟩ : ∃ W : Nat, 2 + n2 = (W : Int) := ⟨(2 + n2).toNat, by omega⟩
    dsimp only
    rw [hW]
    refine ⟨_, rfl, pa, _, _, _, rfl, rfl, SqT.of (C3'.kp _ _ hpa), at1, ra, rfl, ⟨_, SqT.of (C3'.kp _ _ hra)⟩, fun D hD => ?_⟩
    refine lc_tup (K := K) (a := ra) (xs := bs.map V.ref) (fun i H' => ∃ us : List Nat, Dc K H H' d sa ns ∧ H D = none ∧ H' D = some (.lst (us.map nI)) ∧ us.length = i ∧ ∀ x ∈ us, x < W)
      ⟨[], C3'.new hD, C3'.here hD, upd_same, rfl, fun _ h => absurd h (by simp)⟩ (fun i H' _ ⟨_, q, _⟩ => SqT.of (q.kp _ _ hra)) ?_ ?_
    · rintro i x H4 hi ⟨us, C4, nD, hu, hul, hum⟩
      have hi2 := (List.getElem?_eq_some_iff.mp hi).1
      rw [List.length_map] at hi2
      refine ⟨rfl, _, rfl, _, rfl, d, sa, ns, _, rfl, C4.ent, by omega, by omega, fun m H5 m0 m1 C5 => ?_⟩
      refine ⟨_, C5.but _ _ (C4.ned nD) hu, szl (by rw [List.length_map]; omega), us ++ [m.toNat], (C4.trans C5).mut nD, nD, ?_, by rw [List.length_append, hul]; rfl, fun x hx => ?_⟩
      · rw [upd_same, List.map_append]
        show _ = some (HO.lst (us.map nI ++ [V.int ((m.toNat : Nat) : Int)]))
        rw [Int.toNat_of_nonneg m0]
      · rcases List.mem_append.mp hx with q | q
        · exact hum x q
        · rw [List.mem_singleton.mp q]
          omega
    · rintro H4 ⟨us, C4, nD, hu, hul, hum⟩
      rw [List.length_map, hbr] at hul
      refine ⟨D, _, rfl, .inl ⟨SqL.of hu, fun pl hpl => ?_⟩⟩
      refine alloc hpl fun H5 s5 e5 => ?_
      have C5 := C4.same s5
      refine ⟨Nat.zero_le _, fun lh hlh => ?_⟩
      refine alloc hlh fun H6 s6 e6 => ?_
      have C6 := C5.same s6
      have nlh : H lh = none := C5.here hlh
      refine ⟨_, rfl, pa, _, _, _, rfl, rfl, SqT.of (C6.kp _ _ hpa), at0, wa, rfl, ⟨_, SqT.of (C6.kp _ _ hwa)⟩, ?_⟩
      refine for_tup (K := K) (a := wa) (xs := p.ws.map V.int) (fun i σ H' => ∃ (x6 x7 : Option V) (hb : List Addr) (hs : List (List Nat)), σ = [some (.ref d), some (.ref pa), some (.int most), some (.int (W : Int)), some (.ref pl), some (.ref lh), x6, x7, none, none] ∧
          Dc K H H' d sa ns ∧ Kp H6 H' ∧ H' lh = some (.lst (hb.map V.ref)) ∧ HomesAt H' hb hs ∧ hs.length = i ∧ ∀ h ∈ hs, HomeOk W h ∧ (h.length : Int) ≤ most)
        ⟨none, none, [], [], rfl, C6, Kp.refl _, e6, .nil, rfl, fun _ h => absurd h (by simp)⟩ (fun i σ H' _ ⟨_, _, _, _, _, q, _⟩ => SqT.of (q.kp _ _ hwa)) ?_ ?_
      · rintro i x σ H7 hi ⟨x6, x7, hb, hs, rfl, C7, k7, hlh7, hH, hsl, hok⟩
        have hi2 := (List.getElem?_eq_some_iff.mp hi).1
        rw [List.length_map] at hi2
        have hhb := Paired.length hH
        refine ⟨_, rfl, _, rfl, d, sa, ns, _, rfl, C7.ent, by omega, by omega, fun m H8 m0 m1' C8 => ?_⟩
        have C8' := C7.trans C8
        refine ⟨_, _, rfl, rfl, _, rfl, by omega, by omega, fun D2 hD2 => ?_⟩
        have hlh8 := C8.but _ _ (C7.ned nlh) hlh7
        have nD2 : lh ≠ D2 := ne_of_none hlh8 hD2
        refine lc_range (lo := 0) (n := (1 + m).toNat) (fun i H9 => ∃ us : List Int, Dc K H H9 d sa ns ∧ H D2 = none ∧ H9 D2 = some (.lst (us.map V.int)) ∧ us.length = i ∧ (∀ x ∈ us, 0 ≤ x ∧ x < (W : Int)) ∧ Kp H7 H9 ∧ H9 lh = some (.lst (hb.map V.ref)))
          ⟨[], C8'.new hD2, C8'.here hD2, upd_same, rfl, fun _ h => absurd h (by simp), C8.kp.trans (Kp.new hD2), by rw [upd_ne nD2]; exact hlh8⟩ ?_ ?_
        · rintro j H9 hj ⟨us, C9, nD, hu, hul, hum, k9, hlh9⟩
          refine ⟨rfl, _, rfl, _, rfl, d, sa, ns, _, rfl, C9.ent, by omega, by omega, fun m2 H10 c0 c1 C10 => ?_⟩
          have hu10 := C10.but _ _ (C9.ned nD) hu
          refine ⟨_, hu10, szl (by rw [List.length_map]; omega), us ++ [m2], (C9.trans C10).mut nD, nD, by rw [upd_same, List.map_append]; rfl, by rw [List.length_append, hul]; rfl, all_snoc hum ⟨c0, c1⟩, (k9.trans C10.kp).trans (Kp.lst hu10), by rw [upd_ne nD2]; exact C10.but _ _ (C9.ned nlh) hlh9⟩
        · rintro H9 ⟨us2, C9, nD, hu, hul2, hum2, k9, hlh9⟩
          refine ⟨_, rfl, .inl ⟨rfl, _, SqL.of hlh9⟩, _, rfl, D2, us2, rfl, SqL.of hu, by omega, fun sp c hc hsp => ?_⟩
          refine alloc hsp fun H10 s10 e10 => ?_
          refine ⟨sp, _, c, rfl, e10, by omega, fun ms q up mem len hq => ?_⟩
          refine alloc hq fun H11 s11 e11 => ?_
          refine ⟨q, _, rfl, .inl ⟨SqL.of e11, fun t ht => ?_⟩⟩
          refine alloc ht fun H12 s12 e12 => ?_
          have S12 := (s10.trans s11).trans s12
          have mem2 : ∀ x, x ∈ ms ↔ x ∈ us2 := fun x => (mem x).trans decide_eq_true_iff
          obtain ⟨h, h1, h2, h3, h4⟩ := rise_nat (ns := ms) (fun x hx => (hum2 x ((mem2 x).mp hx)).1) up
          have hlh12 := S12 _ _ hlh9
          have kf := ((k9.trans (Kp.same S12)).trans (Kp.lst (o := .lst (hb.map V.ref ++ [.ref t])) hlh12))
          refine ⟨lh, _, _, rfl, rfl, hlh12, szl (by rw [List.length_map]; omega), ?_⟩
          refine ⟨_, _, hb ++ [t], hs ++ [h], rfl, (C9.same S12).mut nlh, k7.trans kf, by rw [upd_same, List.map_append]; rfl, ?_, by rw [List.length_append, hsl]; rfl, ?_⟩
          · refine Paired.app (HomesAt.kp hH kf) (Paired.one ?_)
            have e := Kp.lst (o := .lst (hb.map V.ref ++ [.ref t])) hlh12 _ _ e12
            rw [h1] at e
            exact e
          · refine all_snoc hok ⟨⟨?_, ?_, h3, fun x hx => ?_⟩, by rw [h2, len]; omega⟩
            · rw [h2]
              obtain ⟨u, hu2⟩ : ∃ u, u ∈ us2 := by
                cases us2 with
                | nil => simp at hul2; omega
                | cons u _ => exact ⟨u, List.mem_cons_self⟩
              exact List.length_pos_of_mem ((mem2 u).mpr hu2)
            · rw [h2, len]
              omega
            · have := (hum2 _ ((mem2 _).mp (h4 x hx))).2
              omega
      · rintro σ H7 ⟨x6, x7, hb, hs, rfl, C7, k7, hlh7, hH, hsl, hok⟩
        rw [List.length_map] at hsl
        refine ⟨_, rfl, _, rfl, _, rfl, lh, _, rfl, .inl ⟨SqL.of hlh7, fun t ht => ?_⟩⟩
        refine alloc ht fun H8 s8 e8 => ?_
        refine ⟨(by show 3 ≤ sizeLine; decide), fun a ha => ?_⟩
        refine alloc ha fun H9 s9 e9 => ?_
        have S := s8.trans s9
        exact kq a ⟨W, us, hs⟩ H9 (C7.same S) ⟨pl, t, hb, e9, S _ _ (k7 _ _ (s6 _ _ e5)), s9 _ _ e8, HomesAt.kp hH (Kp.same S)⟩ ⟨by show 2 ≤ W; omega, by show W ≤ 24; omega, hul, hum, hsl, fun h hh => (hok h hh).1⟩ fun h hh => (hok h hh).2
end
end DL
namespace DL
open PySem L2 DLR
structure Cl (mg : Str → Option Value) where
  t2 : Tok
  t24 : Tok
  m2 : mg "LEAST_WIDE" = some (.int 2 t2)
  m24 : mg "MOST_WIDE" = some (.int 24 t24)
structure Ch (mg : Str → Option Value) where
  t3 : Tok
  m3 : mg "MOST_HOMES" = some (.int 3 t3)
abbrev sCheckWide : Stmt := top 31
abbrev sCheckPlaces : Stmt := top 32
abbrev sCheckHomes : Stmt := top 33
abbrev sAreHomes : Stmt := top 34
abbrev sCheckLaying : Stmt := top 30
abbrev FCheckWide (K : Frg) (mg : Str → Option Value) := Fd K mg "check_wide" sCheckWide ["wide"]
abbrev FCheckPlaces (K : Frg) (mg : Str → Option Value) := Fd K mg "check_places" sCheckPlaces ["places", "count", "wide"]
abbrev FCheckHomes (K : Frg) (mg : Str → Option Value) := Fd K mg "check_homes" sCheckHomes ["homes", "count", "wide"]
abbrev FAreHomes (K : Frg) (mg : Str → Option Value) := Fd K mg "are_homes" sAreHomes ["places", "wide"]
abbrev FCheckLaying (K : Frg) (mg : Str → Option Value) := Fd K mg "check_laying" sCheckLaying ["program", "laying"]
def spCheckWide : Sp := fun vs H Q _ => ∃ n : Int, vs = [.int n] ∧ 2 ≤ n ∧ n ≤ 24 ∧ Q .non H
def spCheckPlaces : Sp := fun vs H Q _ => ∃ (a : Addr) (us : List Nat) (W : Nat), vs = [.ref a, .int (us.length : Int), .int (W : Int)] ∧ H a = some (.tup (us.map nI)) ∧ us.length ≤ 100 ∧ (∀ x ∈ us, x < W) ∧ ∀ H', Same1 H H' → Q .non H'
def spAreHomes : Sp := fun vs H Q _ => ∃ (a : Addr) (h : List Nat) (W : Nat), vs = [.ref a, .int (W : Int)] ∧ H a = some (.tup (h.map nI)) ∧ HomeOk W h ∧ ∀ H', Same1 H H' → Q (.bl true) H'
def spCheckHomes : Sp := fun vs H Q _ => ∃ (a : Addr) (bs : List Addr) (hs : List (List Nat)) (W : Nat), vs = [.ref a, .int (hs.length : Int), .int (W : Int)] ∧ H a = some (.tup (bs.map V.ref)) ∧ HomesAt H bs hs ∧ hs.length ≤ 100 ∧ (∀ h ∈ hs, HomeOk W h) ∧ ∀ H', Same1 H H' → Q .non H'
def spCheckLaying : Sp := fun vs H Q _ => ∃ (a b : Addr) (p : Prog) (y : Lay), vs = [.ref a, .ref b] ∧ ProgAt H a p ∧ Good p ∧ LayAt H b y ∧ LayOk p y ∧ ∀ H', Same1 H H' → Q .non H'
theorem nI_ints (h : List Nat) : h.map nI = (h.map fun x : Nat => (x : Int)).map V.int := by
  rw [List.map_map]
  rfl
def intsD (l : List Int) : PyData := .list (l.map PyData.int)
theorem intsD_at {K : Frg} {H : Hp} : ∀ l : List Int, DpAll K H (l.map V.int) (l.map PyData.int)
  | [] => .nil
  | x :: l => .cons (.int x) (intsD_at l)
theorem intsD_lay : ∀ l : List Int, PyData.canLayAll0 (l.map PyData.int) = true
  | [] => by decide +kernel
  | x :: l => by
    show (PyData.canLay0 (.int x) && PyData.canLayAll0 (l.map PyData.int)) = true
    rw [intsD_lay l]
    rfl
theorem intsD_dep : ∀ l : List Int, PyData.depthAll (l.map PyData.int) ≤ 1
  | [] => by decide
  | x :: l => by
    have h := intsD_dep l
    show max (PyData.int x).depth (PyData.depthAll (l.map PyData.int)) ≤ 1
    have : (PyData.int x).depth ≤ 1 := by simp [PyData.depth]
    omega
theorem intsD_shaped (l : List Int) : SeqAt.shaped (intsD l) = true := by
  show (PyData.canLayAll0 (l.map PyData.int) && decide (PyData.depth (.list (l.map PyData.int)) ≤ 64)) = true
  rw [intsD_lay]
  refine decide_eq_true ?_
  have := intsD_dep l
  show _ + _ ≤ 64
  omega
theorem eq_ints {K : Frg} {H : Hp} {a b : Addr} {l : List Int} {Q : VK} (h1 : H a = some (.lst (l.map V.int))) (h2 : H b = some (.lst (l.map V.int))) (q : Q (.bl true) H) : rEqD K (.ref a) (.ref b) H Q := by
  refine ⟨intsD l, intsD l, .lst (SqL.of h1) (intsD_at l), .lst (SqL.of h2) (intsD_at l), intsD_shaped l, intsD_shaped l, ?_⟩
  rw [PySem.SeqAt.eqv_refl _ (SeqAt.canLay_of_shaped (intsD_shaped l))]
  exact q
section
variable {P : Program} {w : World} {K : PySem.W.Frag} {mg : Str → Option Value} {base : Heap}
theorem scCheckWide : FnScope ["wide"] ["wide"] (defScope sCheckWide) := ⟨rfl, rfl, rfl, by decide +kernel, rfl, by decide +kernel, by decide +kernel⟩
theorem ok_checkWide (c : FCheckWide K mg) (cIsBetween : FIsBetween K mg) (cIsNumber : FIsNumber K mg) (T : Bt mg) (L : Cl mg) : FnOk P w K mg base CX0 3 c.f c.fd ["wide"] spCheckWide := by
  have GIsBetween : FnOk P w K mg base CX0 2 cIsBetween.f cIsBetween.fd ["thing", "low", "high"] spBetween := ok_isBetween cIsBetween cIsNumber T
  refine c.F.ok scCheckWide (fun vs H Q E h => ?_) (fun cdv A outer s H vs Q E hr h => ?_)
  · obtain ⟨n, rfl, _⟩ := h
    rfl
  · obtain ⟨n, rfl, h1, h2, k⟩ := h
    refine ⟨_, (pss_one (ps_if (pt_not (pt_val (pe_call GIsBetween (hr.mono (by first | omega | decide)) (by rfl) cIsBetween.m cIsBetween.F.kp cIsBetween.b .nil pass0 (pa_cons (pv 0) (pa_cons (pe_glob rfl L.m2 relI) (pa_cons (pe_glob rfl L.m24 relI) pa_nil))))))
          (pss_one ps_never)
          pss_nil)), ?_⟩
    exact ⟨_, rfl, n, _, _, rfl, h1, h2, _, rfl, k⟩
abbrev nCheckPlaces : List Str := ["places", "count", "wide", "row", "place"]
theorem scCheckPlaces : FnScope nCheckPlaces ["places", "count", "wide"] (defScope sCheckPlaces) := ⟨rfl, rfl, rfl, by decide +kernel, rfl, by decide +kernel, by decide +kernel⟩
theorem ok_checkPlaces (c : FCheckPlaces K mg) (cIsBetween : FIsBetween K mg) (cIsNumber : FIsNumber K mg) (T : Bt mg) : FnOk P w K mg base CX0 3 c.f c.fd ["places", "count", "wide"] spCheckPlaces := by
  have GIsBetween : FnOk P w K mg base CX0 2 cIsBetween.f cIsBetween.fd ["thing", "low", "high"] spBetween := ok_isBetween cIsBetween cIsNumber T
  refine c.F.ok scCheckPlaces (fun vs H Q E h => ?_) (fun cdv A outer s H vs Q E hr h => ?_)
  · obtain ⟨a, us, W, rfl, _⟩ := h
    rfl
  · obtain ⟨a, us, W, rfl, h1, h100, hb, k⟩ := h
    refine ⟨_, (pss_cons (ps_if (PW.pt (pw_or (pt_not (pt_val (pe_callB call_isi (by rfl) T.isinstance (by decide +kernel) (pa_cons (pv 0) (pa_cons (pe_bltn (v := .ty "tuple") (by rfl) T.tuple (by decide +kernel) rfl) pa_nil))))) (pw_or1 (pt_cmpR op_ne (pe_callB call_len_seq (by rfl) T.len PySem.boot_len (pa_cons (pv 0) pa_nil)) (pv 1) (nomark _)))))
          (pss_one ps_never)
          pss_nil)
      (pss_one (ps_for PassesOwn.never rfl (pi_enumT (by rfl) T.enumerate (pa_cons (pv 0) pa_nil)) (pg_tup rfl (pgs_cons (pg_name (i := 3) scCheckPlaces.nd rfl (Or.inl rfl)) (pgs_cons (pg_name (i := 4) scCheckPlaces.nd rfl (Or.inl rfl)) pgs_nil)))
          (pss_one (ps_if (pt_not (pt_val (pe_call GIsBetween (hr.mono (by first | omega | decide)) (by rfl) cIsBetween.m cIsBetween.F.kp cIsBetween.b .nil pass0 (pa_cons (pv 4) (pa_cons pe_int (pa_cons (pe_op op_sub (pv 2) pe_int) pa_nil))))))
              (pss_one ps_never)
              pss_nil))))), ?_⟩
    refine ⟨_, rfl, _, _, _, _, true, rfl, .ty _, .base (.tup h1), kit_ty (by decide +kernel), _, rfl, ?_⟩
    refine ⟨_, rfl, a, _, rfl, .inr (SqT.of h1), _, rfl, rfl, _, rfl, ?_⟩
    rw [List.length_map, decide_eq_true (show V.int (us.length : Int) = V.int (us.length : Int) from rfl)]
    refine iteF ⟨_, rfl, a, _, rfl, SqT.of h1, for_enumT (K := K) (a := a) (xs := us.map nI) (fun i σ H' => ∃ x3 x4 : Option V, σ = [some (.ref a), some (.int (us.length : Int)), some (.int (W : Int)), x3, x4] ∧ Same1 H H') ⟨none, none, rfl, Same.refl _⟩
      (fun i σ H' ⟨_, _, _, q⟩ => SqT.of (q _ _ h1)) ?_ ?_⟩
    · rintro i x T' σ H1 hi ⟨x3, x4, rfl, s1⟩ hT'
      rw [List.getElem?_map] at hi
      cases hz : us[i]? with
      | none => rw [hz] at hi; cases hi
      | some z =>
        rw [hz] at hi
        have e : nI z = x := Option.some.inj hi
        subst e
        have hlt := hb z (List.mem_of_getElem? hz)
        refine alloc hT' fun H2 s2 e2 => ?_
        refine ⟨T', _, rfl, SqT.of e2, rfl, _, _, rfl, _, _, rfl, rfl, ?_⟩
        refine ⟨_, rfl, _, rfl, _, _, rfl, rfl, (z : Int), _, _, rfl, by omega, by omega, _, rfl, ?_⟩
        exact ⟨_, _, rfl, s1.trans s2⟩
    · rintro σ H1 ⟨x3, x4, rfl, s1⟩
      exact k _ s1
abbrev nAreHomes : List Str := ["places", "wide", "place"]
theorem scAreHomes : FnScope nAreHomes ["places", "wide"] (defScope sAreHomes) := ⟨rfl, rfl, rfl, by decide +kernel, rfl, by decide +kernel, by decide +kernel⟩
theorem ok_areHomes (c : FAreHomes K mg) (cIsBetween : FIsBetween K mg) (cIsNumber : FIsNumber K mg) (T : Bt mg) (TS : Bs mg) (LH : Ch mg) : FnOk P w K mg base CX0 3 c.f c.fd ["places", "wide"] spAreHomes := by
  have GIsBetween : FnOk P w K mg base CX0 2 cIsBetween.f cIsBetween.fd ["thing", "low", "high"] spBetween := ok_isBetween cIsBetween cIsNumber T
  refine c.F.ok scAreHomes (fun vs H Q E h => ?_) (fun cdv A outer s H vs Q E hr h => ?_)
  · obtain ⟨a, h, W, rfl, _⟩ := h
    rfl
  · obtain ⟨a, h, W, rfl, h1, hk, k⟩ := h
    have l1 := hk.l1
    have l3 := hk.l3
    refine ⟨_, (pss_cons (ps_if (PW.pt (pw_or (pt_not (pt_val (pe_callB call_isi (by rfl) T.isinstance (by decide +kernel) (pa_cons (pv 0) (pa_cons (pe_bltn (v := .ty "tuple") (by rfl) T.tuple (by decide +kernel) rfl) pa_nil))))) (pw_or1 (pt_not (pt_chain op_le op_le pe_int (pe_callB call_len_seq (by rfl) T.len PySem.boot_len (pa_cons (pv 0) pa_nil)) (pe_glob rfl LH.m3 relI))))))
          (pss_one (ps_ret pe_bl))
          pss_nil)
      (pss_cons (ps_if (pt_not (pt_val (pe_callB (cr_all rfl) (by rfl) T.all (by decide +kernel) (pa_cons (pe_lc (own := [("place", 2)]) (g := gName 2) (tt := tYes) rfl scAreHomes.nd (pi_tup (pv 0)) (blkOk_by (N := nAreHomes) (sc := defScope sAreHomes) (by decide +kernel)) (fun _ _ _ _ _ => (pg_name (i := 2) scAreHomes.nd rfl (Or.inl rfl))) (fun _ _ _ _ _ => pts_nil) (fun _ _ _ _ _ => (pe_call GIsBetween (hr.mono (by first | omega | decide)) (by rfl) cIsBetween.m cIsBetween.F.kp cIsBetween.b .nil pass0 (pa_cons (pv 2) (pa_cons pe_int (pa_cons (pe_op op_sub (pv 1) pe_int) pa_nil)))))) pa_nil))))
          (pss_one (ps_ret pe_bl))
          pss_nil)
      (pss_one (ps_ret (pe_cmpR (op_eqD hr.units) (pe_callTy call_list_of (by rfl) T.list (by decide +kernel) (pa_cons (pv 0) pa_nil)) (pe_callB (cr_sortedSet rfl) (by rfl) T.sorted (by decide +kernel) (pa_cons (pe_callTy (cr_setT rfl) (by rfl) TS.set (by decide +kernel) (pa_cons (pv 0) pa_nil)) pa_nil)) (nomark _)))))), ?_⟩
    refine ⟨_, rfl, _, _, _, _, true, rfl, .ty _, .base (.tup h1), kit_ty (by decide +kernel), _, rfl, ?_⟩
    refine ⟨_, rfl, a, _, rfl, .inr (SqT.of h1), _, _, rfl, rfl, _, rfl, ?_⟩
    rw [List.length_map, decide_eq_true (show (1 : Int) ≤ (h.length : Int) by omega)]
    refine iteT ⟨_, _, rfl, rfl, _, rfl, ?_⟩
    rw [decide_eq_true (show (h.length : Int) ≤ 3 by omega)]
    refine iteF ⟨_, rfl, a, rfl, ⟨_, SqT.of h1⟩, fun D hD => ?_⟩
    refine lc_tup (K := K) (a := a) (xs := h.map nI) (fun i H' => H' D = some (.lst ((List.replicate i true).map V.bl)) ∧ Same1 H H') ⟨upd_same, Same.new hD⟩ (fun i H' _ ⟨_, q⟩ => SqT.of (q _ _ h1)) ?_ ?_
    · rintro i x H3 hi ⟨hd, s3⟩
      rw [List.getElem?_map] at hi
      cases hz : h[i]? with
      | none => rw [hz] at hi; cases hi
      | some z =>
        rw [hz] at hi
        have e : nI z = x := Option.some.inj hi
        subst e
        have hlt := hk.lt z (List.mem_of_getElem? hz)
        have hil := (List.getElem?_eq_some_iff.mp hz).1
        refine ⟨rfl, _, rfl, _, rfl, _, _, rfl, rfl, (z : Int), _, _, rfl, by omega, by omega, _, hd, szl (by rw [List.length_map, List.length_replicate]; omega), ?_, Same.mut s3 hD⟩
        rw [upd_same, List.replicate_succ', List.map_append]
        rfl
    · rintro H3 ⟨hd, s3⟩
      refine ⟨D, _, rfl, SqL.of hd, ?_⟩
      rw [show (List.replicate (h.map nI).length true).all id = true by rw [List.all_eq_true]; intro x hx; rw [List.eq_of_mem_replicate hx]; rfl]
      refine ⟨_, rfl, iteF ?_⟩
      have h3 := s3 _ _ h1
      refine ⟨_, rfl, a, _, rfl, .inr (SqT.of h3), fun q1 hq1 => ?_⟩
      refine alloc hq1 fun H4 s4 e4 => ?_
      have h4 := s4 _ _ h3
      rw [nI_ints] at h4 e4
      refine ⟨_, rfl, a, _, rfl, SqT.of h4, by rw [List.length_map]; omega, fun sp c hc hsp => ?_⟩
      rw [List.length_map] at hc
      refine alloc hsp fun H5 s5 e5 => ?_
      refine ⟨sp, _, c, rfl, e5, by omega, fun ms q up mem len hq => ?_⟩
      refine alloc hq fun H6 s6 e6 => ?_
      have em : ms = h.map fun x : Nat => (x : Int) := by
        refine rise_uniq up ?_ fun x => (mem x).trans decide_eq_true_iff
        rw [List.pairwise_map]
        exact hk.up.imp fun {a b} z => by omega
      rw [em] at e6
      exact eq_ints ((s5.trans s6) _ _ e4) e6 (k _ (((s3.trans s4).trans s5).trans s6))
abbrev nCheckHomes : List Str := ["homes", "count", "wide", "worth", "places"]
theorem scCheckHomes : FnScope nCheckHomes ["homes", "count", "wide"] (defScope sCheckHomes) := ⟨rfl, rfl, rfl, by decide +kernel, rfl, by decide +kernel, by decide +kernel⟩
theorem ok_checkHomes (c : FCheckHomes K mg) (cAreHomes : FAreHomes K mg) (cIsBetween : FIsBetween K mg) (cIsNumber : FIsNumber K mg) (T : Bt mg) (TS : Bs mg) (LH : Ch mg) : FnOk P w K mg base CX0 4 c.f c.fd ["homes", "count", "wide"] spCheckHomes := by
  have GAreHomes : FnOk P w K mg base CX0 3 cAreHomes.f cAreHomes.fd ["places", "wide"] spAreHomes := ok_areHomes cAreHomes cIsBetween cIsNumber T TS LH
  refine c.F.ok scCheckHomes (fun vs H Q E h => ?_) (fun cdv A outer s H vs Q E hr h => ?_)
  · obtain ⟨a, bs, hs, W, rfl, _⟩ := h
    rfl
  · obtain ⟨a, bs, hs, W, rfl, h1, hH, h100, hok, k⟩ := h
    have hbl := Paired.length hH
    refine ⟨_, (pss_cons (ps_if (PW.pt (pw_or (pt_not (pt_val (pe_callB call_isi (by rfl) T.isinstance (by decide +kernel) (pa_cons (pv 0) (pa_cons (pe_bltn (v := .ty "tuple") (by rfl) T.tuple (by decide +kernel) rfl) pa_nil))))) (pw_or1 (pt_cmpR op_ne (pe_callB call_len_seq (by rfl) T.len PySem.boot_len (pa_cons (pv 0) pa_nil)) (pv 1) (nomark _)))))
          (pss_one ps_never)
          pss_nil)
      (pss_one (ps_for PassesOwn.never rfl (pi_enumT (by rfl) T.enumerate (pa_cons (pv 0) pa_nil)) (pg_tup rfl (pgs_cons (pg_name (i := 3) scCheckHomes.nd rfl (Or.inl rfl)) (pgs_cons (pg_name (i := 4) scCheckHomes.nd rfl (Or.inl rfl)) pgs_nil)))
          (pss_one (ps_if (pt_not (pt_val (pe_call GAreHomes (hr.mono (by first | omega | decide)) (by rfl) cAreHomes.m cAreHomes.F.kp cAreHomes.b .nil pass0 (pa_cons (pv 4) (pa_cons (pv 2) pa_nil)))))
              (pss_one ps_never)
              pss_nil))))), ?_⟩
    refine ⟨_, rfl, _, _, _, _, true, rfl, .ty _, .base (.tup h1), kit_ty (by decide +kernel), _, rfl, ?_⟩
    refine ⟨_, rfl, a, _, rfl, .inr (SqT.of h1), _, rfl, rfl, _, rfl, ?_⟩
    rw [List.length_map, hbl, decide_eq_true (show V.int (hs.length : Int) = V.int (hs.length : Int) from rfl)]
    refine iteF ⟨_, rfl, a, _, rfl, SqT.of h1, for_enumT (K := K) (a := a) (xs := bs.map V.ref) (fun i σ H' => ∃ x3 x4 : Option V, σ = [some (.ref a), some (.int (hs.length : Int)), some (.int (W : Int)), x3, x4] ∧ Same1 H H') ⟨none, none, rfl, Same.refl _⟩
      (fun i σ H' ⟨_, _, _, q⟩ => SqT.of (q _ _ h1)) ?_ ?_⟩
    · rintro i x T' σ H1 hi ⟨x3, x4, rfl, s1⟩ hT'
      have hih : i < hs.length := by
        have q := (List.getElem?_eq_some_iff.mp hi).1
        rwa [List.length_map, hbl] at q
      obtain ⟨b, hb1, hb2⟩ := Paired.getR hH (List.getElem?_eq_getElem hih)
      have ex : x = V.ref b := by
        rw [List.getElem?_map, hb1] at hi
        exact (Option.some.inj hi).symm
      subst ex
      refine alloc hT' fun H2 s2 e2 => ?_
      refine ⟨T', _, rfl, SqT.of e2, rfl, _, _, rfl, _, _, rfl, rfl, ?_⟩
      refine ⟨_, rfl, _, rfl, b, hs[i], W, rfl, (s1.trans s2) _ _ hb2, hok _ (List.getElem_mem hih), fun H3 s3 => ⟨_, rfl, ?_⟩⟩
      exact ⟨_, _, rfl, (s1.trans s2).trans s3⟩
    · rintro σ H1 ⟨x3, x4, rfl, s1⟩
      exact k _ s1
abbrev nCheckLaying : List Str := ["program", "laying", "worths", "rows", "wide"]
theorem scCheckLaying : FnScope nCheckLaying ["program", "laying"] (defScope sCheckLaying) := ⟨rfl, rfl, rfl, by decide +kernel, rfl, by decide +kernel, by decide +kernel⟩
theorem ok_checkLaying (c : FCheckLaying K mg) (cCheckWide : FCheckWide K mg) (cCheckPlaces : FCheckPlaces K mg) (cCheckHomes : FCheckHomes K mg) (cAreHomes : FAreHomes K mg) (cPart : FPart K mg) (cIsBetween : FIsBetween K mg) (cIsNumber : FIsNumber K mg) (T : Bt mg) (TS : Bs mg) (L : Cl mg) (LH : Ch mg) : FnOk P w K mg base CX0 5 c.f c.fd ["program", "laying"] spCheckLaying := by
  have GPart : FnOk P w K mg base CX0 1 cPart.f cPart.fd ["whole", "at"] spPart := ok_part cPart T
  have GCheckWide : FnOk P w K mg base CX0 3 cCheckWide.f cCheckWide.fd ["wide"] spCheckWide := ok_checkWide cCheckWide cIsBetween cIsNumber T L
  have GCheckPlaces : FnOk P w K mg base CX0 3 cCheckPlaces.f cCheckPlaces.fd ["places", "count", "wide"] spCheckPlaces := ok_checkPlaces cCheckPlaces cIsBetween cIsNumber T
  have GCheckHomes : FnOk P w K mg base CX0 4 cCheckHomes.f cCheckHomes.fd ["homes", "count", "wide"] spCheckHomes := ok_checkHomes cCheckHomes cAreHomes cIsBetween cIsNumber T TS LH
  refine c.F.ok scCheckLaying (fun vs H Q E h => ?_) (fun cdv A outer s H vs Q E hr h => ?_)
  · obtain ⟨a, b, p, y, rfl, _⟩ := h
    rfl
  · obtain ⟨a, b, p, y, rfl, ⟨wa, ra, bs, hpa, hwa, hra, hR⟩, g, ⟨pl, hl, cs, hb, hpl, hhl, hH⟩, yk, k⟩ := h
    have hbr := Paired.length hR
    have hR40 := g.r40
    have hW8 := g.w8
    have hpll := yk.pl
    have hhll := yk.hl
    have w2 := yk.w2
    have w24 := yk.w24
    refine ⟨_, (pss_cons (ps_asg (pv 0) (pg_tup rfl (pgs_cons (pg_name (i := 2) scCheckLaying.nd rfl (Or.inl rfl)) (pgs_cons (pg_name (i := 3) scCheckLaying.nd rfl (Or.inl rfl)) pgs_nil))))
      (pss_cons (ps_set (i := 4) scCheckLaying.nd rfl (Or.inl rfl) (pe_call GPart (hr.mono (by first | omega | decide)) (by rfl) cPart.m cPart.F.kp cPart.b .nil pass0 (pa_cons (pv 1) (pa_cons pe_int pa_nil))))
      (pss_cons (ps_expr (pe_call GCheckWide (hr.mono (by first | omega | decide)) (by rfl) cCheckWide.m cCheckWide.F.kp cCheckWide.b .nil pass0 (pa_cons (pv 4) pa_nil)))
      (pss_cons (ps_expr (pe_call GCheckPlaces (hr.mono (by first | omega | decide)) (by rfl) cCheckPlaces.m cCheckPlaces.F.kp cCheckPlaces.b .nil pass0 (pa_cons (pe_call GPart (hr.mono (by first | omega | decide)) (by rfl) cPart.m cPart.F.kp cPart.b .nil pass0 (pa_cons (pv 1) (pa_cons pe_int pa_nil))) (pa_cons (pe_callB call_len_seq (by rfl) T.len PySem.boot_len (pa_cons (pv 3) pa_nil)) (pa_cons (pv 4) pa_nil)))))
      (pss_cons (ps_expr (pe_call GCheckHomes (hr.mono (by first | omega | decide)) (by rfl) cCheckHomes.m cCheckHomes.F.kp cCheckHomes.b .nil pass0 (pa_cons (pe_call GPart (hr.mono (by first | omega | decide)) (by rfl) cPart.m cPart.F.kp cPart.b .nil pass0 (pa_cons (pv 1) (pa_cons pe_int pa_nil))) (pa_cons (pe_callB call_len_seq (by rfl) T.len PySem.boot_len (pa_cons (pv 2) pa_nil)) (pa_cons (pv 4) pa_nil)))))
      (pss_one (ps_if (pt_cmpR op_ne (pe_callB call_len_seq (by rfl) T.len PySem.boot_len (pa_cons (pv 1) pa_nil)) pe_int (nomark _))
          (pss_one ps_never)
          pss_nil))))))), ?_⟩
    refine ⟨_, rfl, a, _, rfl, SqT.of hpa, rfl, _, _, rfl, _, _, rfl, rfl, ?_⟩
    refine ⟨_, rfl, b, _, 0, _, rfl, hb, rfl, ?_⟩
    refine ⟨_, rfl, (y.wide : Int), rfl, by omega, by omega, ?_⟩
    refine ⟨_, rfl, b, _, 1, _, rfl, hb, rfl, _, rfl, ra, _, rfl, .inr (SqT.of hra), _, rfl, pl, y.places, y.wide, ?_, hpl, by omega, yk.pok, fun H1 s1 => ?_⟩
    · rw [List.length_map, hbr, hpll]
      rfl
    refine ⟨_, rfl, b, _, 2, _, rfl, s1 _ _ hb, rfl, _, rfl, wa, _, rfl, .inr (SqT.of (s1 _ _ hwa)), _, rfl, hl, cs, y.homes, y.wide, ?_, s1 _ _ hhl, HomesAt.kp hH (Kp.same s1), by omega, yk.hok, fun H2 s2 => ?_⟩
    · rw [List.length_map, hhll]
      rfl
    refine ⟨_, rfl, b, _, rfl, .inr (SqT.of ((s1.trans s2) _ _ hb)), rfl, _, rfl, ?_⟩
    rw [decide_eq_true (show V.int ((([nI y.wide, V.ref pl, V.ref hl] : List V).length : Nat) : Int) = V.int 3 from rfl)]
    exact iteF (k _ (s1.trans s2))
end
end DL
namespace DL
open PySem L2 DLR
def nx : Row → List Nat
  | .load _ n => [n]
  | .add _ n => [n]
  | .take _ n => [n]
  | .store _ n => [n]
  | .say n => [n]
  | .test a b => [a, b]
  | .stop => []
def tgt : Row → List Nat
  | .test a b => if a = b then [a] else if a < b then [a, b] else [b, a]
  | r => nx r
theorem tgt_test (a b : Nat) : tgt (.test a b) = if a = b then [a] else if a < b then [a, b] else [b, a] := rfl
theorem tgt_up (r : Row) : (tgt r).Pairwise (· < ·) := by
  cases r with
  | test a b =>
    rw [tgt_test]
    split
    · simp
    · split
      · simp; omega
      · simp; omega
  | stop => exact .nil
  | load _ n => exact List.pairwise_singleton _ _
  | add _ n => exact List.pairwise_singleton _ _
  | take _ n => exact List.pairwise_singleton _ _
  | store _ n => exact List.pairwise_singleton _ _
  | say n => exact List.pairwise_singleton _ _
theorem tgt_mem (r : Row) (x : Nat) : x ∈ tgt r ↔ x ∈ nx r := by
  cases r with
  | test a b =>
    rw [tgt_test, show nx (.test a b) = [a, b] from rfl]
    split
    · rename_i h
      subst h
      simp
    · split
      · exact Iff.rfl
      · simp only [List.mem_cons, List.not_mem_nil, or_false]
        exact Or.comm
  | _ => exact Iff.rfl
theorem tgt_len (r : Row) : (tgt r).length ≤ 2 := by
  cases r with
  | test a b =>
    rw [tgt_test]
    split
    · show 1 ≤ 2; decide
    · split <;> (show 2 ≤ 2; decide)
  | stop => show 0 ≤ 2; decide
  | _ => show 1 ≤ 2; decide
theorem nx_len (r : Row) : (nx r).length ≤ 2 := by cases r <;> simp [nx]
theorem tgt_of {r : Row} {ms : List Int} (up : ms.Pairwise (· < ·)) (mem : ∀ x : Int, x ∈ ms ↔ decide (x ∈ (nx r).map fun n : Nat => (n : Int)) = true) : ms = (tgt r).map fun n : Nat => (n : Int) := by
  refine rise_uniq up ?_ fun x => (mem x).trans (decide_eq_true_iff.trans ?_)
  · rw [List.pairwise_map]
    exact (tgt_up r).imp fun {a b} z => by omega
  · constructor <;> intro h <;> obtain ⟨n, hn, rfl⟩ := List.mem_map.mp h
    · exact List.mem_map.mpr ⟨n, (tgt_mem r n).mpr hn, rfl⟩
    · exact List.mem_map.mpr ⟨n, (tgt_mem r n).mp hn, rfl⟩
def goesN (rows : List Row) (i : Nat) : List (Nat × Nat) := (List.range i).flatMap fun k => (tgt (rows.getD k .stop)).map fun t => (k, t)
theorem goesN_succ (rows : List Row) (i : Nat) : goesN rows (i + 1) = goesN rows i ++ (tgt (rows.getD i .stop)).map fun t => (i, t) := by
  unfold goesN
  rw [List.range_succ, List.flatMap_append]
  simp
theorem goesN_len (rows : List Row) : ∀ i, (goesN rows i).length ≤ 2 * i
  | 0 => Nat.le_refl 0
  | i + 1 => by
    rw [goesN_succ, List.length_append, List.length_map]
    have := goesN_len rows i
    have := tgt_len (rows.getD i .stop)
    omega
def pairVs (g : Nat × Nat) : List V := [nI g.1, nI g.2]
abbrev PairsL (H : Hp) (bs : List Addr) (L : List (Nat × Nat)) : Prop := Paired (fun b g => H b = some (.tup (pairVs g))) bs L
theorem PairsL.kp {H H' : Hp} {bs : List Addr} {L : List (Nat × Nat)} (h : PairsL H bs L) (k : Kp H H') : PairsL H' bs L := Paired.mapP h fun b x e => k _ _ e
abbrev sNexts : Stmt := top 19
abbrev sAhead : Stmt := top 20
abbrev FNexts (K : Frg) (mg : Str → Option Value) := Fd K mg "nexts" sNexts ["row"]
abbrev FAhead (K : Frg) (mg : Str → Option Value) := Fd K mg "rows_ahead" sAhead ["row"]
def spNexts : Sp := fun vs H Q _ => ∃ (a : Addr) (r : Row), vs = [.ref a] ∧ H a = some (.tup (rowVs r)) ∧ ∀ t H', Same1 H H' → H' t = some (.tup ((nx r).map nI)) → Q (.ref t) H'
def spAhead : Sp := fun vs H Q _ => ∃ (a : Addr) (r : Row), vs = [.ref a] ∧ H a = some (.tup (rowVs r)) ∧ ∀ q H', Same1 H H' → H q = none → H' q = some (.lst ((tgt r).map nI)) → Q (.ref q) H'
def spGoesMay : Sp := fun vs H Q _ => ∃ (a : Addr) (p : Prog), vs = [.ref a] ∧ ProgAt H a p ∧ Good p ∧ ∀ l bs H', Same1 H H' → H l = none → H' l = some (.lst (bs.map V.ref)) → PairsL H' bs (goesN p.rows p.rows.length) → Q (.ref l) H'
theorem nx_drop (r : Row) : (if r.uses = true then (rowVs r).drop 2 else (rowVs r).drop 1) = (nx r).map nI := by cases r <;> rfl
theorem dropn (n : Nat) {xs : List V} : cutV xs (some (n : Int)) none = xs.drop n := by
  unfold cutV
  have e : HT.sIx xs.length 0 (some (n : Int)) = min n xs.length := HT.sIx_nat _ _ n
  rw [e, HT.sIx_none]
  rcases Nat.le_total n xs.length with q | q
  · rw [Nat.min_eq_left q]
    exact List.take_of_length_le (by rw [List.length_drop]; omega)
  · rw [Nat.min_eq_right q, List.drop_eq_nil_of_le q, List.drop_eq_nil_of_le (Nat.le_refl _)]
    exact List.take_nil
section
variable {P : Program} {w : World} {K : PySem.W.Frag} {mg : Str → Option Value} {base : Heap}
theorem scNexts : FnScope ["row"] ["row"] (defScope sNexts) := ⟨rfl, rfl, rfl, by decide +kernel, rfl, by decide +kernel, by decide +kernel⟩
theorem ok_nexts (c : FNexts K mg) (cUsesWorth : FUsesWorth K mg) (Z : Pt K w mg) : FnOk P w K mg base CX0 2 c.f c.fd ["row"] spNexts := by
  have GUsesWorth : FnOk P w K mg base CX0 1 cUsesWorth.f cUsesWorth.fd ["row"] spUses := ok_usesWorth cUsesWorth Z
  refine c.F.ok scNexts (fun vs H Q E h => ?_) (fun cdv A outer s H vs Q E hr h => ?_)
  · obtain ⟨a, r, rfl, _⟩ := h
    rfl
  · obtain ⟨a, r, rfl, ha, k⟩ := h
    refine ⟨_, (pss_cons (ps_if (pt_val (pe_call GUsesWorth (hr.mono (by first | omega | decide)) (by rfl) cUsesWorth.m cUsesWorth.F.kp cUsesWorth.b .nil pass0 (pa_cons (pv 0) pa_nil)))
          (pss_one (ps_ret (pe_slice sl_tupS (pv 0) (po_some pe_int) po_none)))
          pss_nil)
      (pss_one (ps_ret (pe_slice sl_tupS (pv 0) (po_some pe_int) po_none)))), ?_⟩
    have e := nx_drop r
    refine ⟨_, rfl, a, r, rfl, ha, _, rfl, ?_⟩
    cases hu : r.uses with
    | true =>
      rw [hu, if_pos rfl] at e
      refine iteT ⟨_, rfl, _, rfl, a, _, rfl, ha, fun t H' s' h' => k t H' s' ?_⟩
      rw [h', ← e]
      exact congrArg (fun z => some (HO.tup z)) (dropn 2)
    | false =>
      rw [hu, if_neg (by decide)] at e
      refine iteF ⟨_, rfl, _, rfl, a, _, rfl, ha, fun t H' s' h' => k t H' s' ?_⟩
      rw [h', ← e]
      exact congrArg (fun z => some (HO.tup z)) (dropn 1)
theorem scAhead : FnScope ["row"] ["row"] (defScope sAhead) := ⟨rfl, rfl, rfl, by decide +kernel, rfl, by decide +kernel, by decide +kernel⟩
theorem ok_ahead (c : FAhead K mg) (cNexts : FNexts K mg) (cUsesWorth : FUsesWorth K mg) (T : Bt mg) (TS : Bs mg) (Z : Pt K w mg) : FnOk P w K mg base CX0 3 c.f c.fd ["row"] spAhead := by
  have GNexts : FnOk P w K mg base CX0 2 cNexts.f cNexts.fd ["row"] spNexts := ok_nexts cNexts cUsesWorth Z
  refine c.F.ok scAhead (fun vs H Q E h => ?_) (fun cdv A outer s H vs Q E hr h => ?_)
  · obtain ⟨a, r, rfl, _⟩ := h
    rfl
  · obtain ⟨a, r, rfl, ha, k⟩ := h
    refine ⟨_, (pss_one (ps_ret (pe_callB (cr_sortedSet rfl) (by rfl) T.sorted (by decide +kernel) (pa_cons (pe_callTy (cr_setT rfl) (by rfl) TS.set (by decide +kernel) (pa_cons (pe_call GNexts (hr.mono (by first | omega | decide)) (by rfl) cNexts.m cNexts.F.kp cNexts.b .nil pass0 (pa_cons (pv 0) pa_nil)) pa_nil)) pa_nil)))), ?_⟩
    refine ⟨_, rfl, a, r, rfl, ha, fun t H4 s4 e4 => ?_⟩
    rw [nI_ints] at e4
    have hnl := nx_len r
    refine ⟨t, _, rfl, SqT.of e4, by rw [List.length_map]; omega, fun sp c hc hsp => ?_⟩
    rw [List.length_map] at hc
    refine alloc hsp fun H5 s5 e5 => ?_
    refine ⟨sp, _, c, rfl, e5, by omega, fun ms q up mem len hq => ?_⟩
    have em := tgt_of up mem
    refine alloc hq fun H6 s6 e6 => ?_
    rw [em] at e6
    refine k q H6 ((s4.trans s5).trans s6) (s4.free (s5.free hq)) ?_
    rw [e6, nI_ints]
abbrev nGoesMay : List Str := ["program", "pairs", "number", "row", "to"]
end
end DL
namespace DL
open PySem L2 DLR
def fb (now : Int) (place wide : Nat) : Int := now + ((place : Int) - now) % (wide : Int)
def maxL : List Int → Int
  | [] => 0
  | [x] => x
  | x :: y :: l => max x (maxL (y :: l))
def minL : List Int → Int
  | [] => 0
  | [x] => x
  | x :: y :: l => min x (minL (y :: l))
theorem maxL_spec : ∀ {l : List Int}, 0 < l.length → maxL l ∈ l ∧ ∀ y ∈ l, y ≤ maxL l
  | [], h => absurd h (by decide)
  | [x], _ => ⟨List.mem_cons_self, fun y hy => by rw [List.mem_singleton.mp hy]; exact Int.le_refl _⟩
  | x :: z :: l, _ => by
    obtain ⟨h1, h2⟩ := maxL_spec (l := z :: l) (Nat.succ_pos _)
    show max x (maxL (z :: l)) ∈ _ ∧ ∀ y ∈ _, y ≤ max x (maxL (z :: l))
    refine ⟨?_, fun y hy => ?_⟩
    · rcases Int.le_total x (maxL (z :: l)) with q | q
      · rw [Int.max_eq_right q]; exact List.mem_cons_of_mem _ h1
      · rw [Int.max_eq_left q]; exact List.mem_cons_self
    · rcases List.mem_cons.mp hy with e | e
      · rw [e]; omega
      · have := h2 y e
        omega
theorem minL_spec : ∀ {l : List Int}, 0 < l.length → minL l ∈ l ∧ ∀ y ∈ l, minL l ≤ y
  | [], h => absurd h (by decide)
  | [x], _ => ⟨List.mem_cons_self, fun y hy => by rw [List.mem_singleton.mp hy]; exact Int.le_refl _⟩
  | x :: z :: l, _ => by
    obtain ⟨h1, h2⟩ := minL_spec (l := z :: l) (Nat.succ_pos _)
    show min x (minL (z :: l)) ∈ _ ∧ ∀ y ∈ _, min x (minL (z :: l)) ≤ y
    refine ⟨?_, fun y hy => ?_⟩
    · rcases Int.le_total x (minL (z :: l)) with q | q
      · rw [Int.min_eq_left q]; exact List.mem_cons_self
      · rw [Int.min_eq_right q]; exact List.mem_cons_of_mem _ h1
    · rcases List.mem_cons.mp hy with e | e
      · rw [e]; omega
      · have := h2 y e
        omega
theorem maxL_is {l : List Int} {m : Int} (h : m ∈ l) (g : ∀ y ∈ l, y ≤ m) : m = maxL l := by
  obtain ⟨a, b⟩ := maxL_spec (List.length_pos_of_mem h)
  have := b m h
  have := g _ a
  omega
theorem minL_is {l : List Int} {m : Int} (h : m ∈ l) (g : ∀ y ∈ l, m ≤ y) : m = minL l := by
  obtain ⟨a, b⟩ := minL_spec (List.length_pos_of_mem h)
  have := b m h
  have := g _ a
  omega
def comesL (us : List Nat) (read : Int) (W : Nat) : List Int := us.map fun h => fb (read + 1) h W
def comes (y : Lay) (w : Nat) (read : Int) : List Int := comesL (y.homes.getD w []) read y.wide
theorem first_last {ms ns : List Int} (pm : ms.Perm ns) (up : ms.Pairwise (· ≤ ·)) (h : 0 < ns.length) : atI (ms.map V.int) 0 = some (.int (minL ns)) ∧ atI (ms.map V.int) (-1) = some (.int (maxL ns)) := by
  have hl : 0 < ms.length := by rw [pm.length_eq]; exact h
  have pos : ∀ i j (hi : i < ms.length) (hj : j < ms.length), i ≤ j → ms[i] ≤ ms[j] := by
    intro i j hi hj le
    rcases Nat.lt_or_eq_of_le le with q | q
    · exact List.pairwise_iff_getElem.mp up i j hi hj q
    · subst q; exact Int.le_refl _
  constructor
  · have e : ms[0] = minL ns := by
      refine minL_is (pm.mem_iff.mp (List.getElem_mem hl)) fun y hy => ?_
      obtain ⟨j, hj, rfl⟩ := List.mem_iff_getElem.mp (pm.mem_iff.mpr hy)
      exact pos 0 j hl hj (Nat.zero_le _)
    rw [← e]
    exact atI_nat (j := 0) (by rw [List.getElem?_map, List.getElem?_eq_getElem hl]; rfl)
  · have hk : ms.length - 1 < ms.length := by omega
    have e : ms[ms.length - 1] = maxL ns := by
      refine maxL_is (pm.mem_iff.mp (List.getElem_mem hk)) fun y hy => ?_
      obtain ⟨j, hj, rfl⟩ := List.mem_iff_getElem.mp (pm.mem_iff.mpr hy)
      exact pos j _ hj hk (by omega)
    rw [← e]
    have e2 : ms = ms.dropLast ++ [ms[ms.length - 1]] := by
      rw [← List.getLast_eq_getElem (List.ne_nil_of_length_pos hl)]
      exact (List.dropLast_concat_getLast _).symm
    refine (congrArg (fun z => atI (z.map V.int) (-1)) e2).trans ?_
    rw [List.map_append]
    exact atI_last _ _
theorem cut1 : ∀ {ns : List Int}, ns.length ≤ 3 → cutV (ns.map V.int) none (some 1) = (ns.take 1).map V.int
  | [], _ => rfl
  | [x], _ => rfl
  | [x, y], _ => rfl
  | [x, y, z], _ => rfl
  | _ :: _ :: _ :: _ :: _, h => absurd h (by simp only [List.length_cons]; omega)

def useF (y : Lay) (read : Int) : Row → Int
  | .load w _ => minL (comes y w read)
  | .add w _ => minL (comes y w read)
  | .take w _ => minL (comes y w read)
  | .store w _ => maxL (comes y w read)
  | _ => read
def work : Row → Int
  | .load _ _ => 1
  | .add _ _ => 2
  | .take _ _ => 2
  | .store _ _ => 1
  | .say _ => 3
  | .test _ _ => 1
  | .stop => 0
def behindF (y : Lay) (r : Row) (read : Int) : Int := useF y read r + work r + 1
def costF (y : Lay) (rows : List Row) (b t : Nat) : Int := fb (behindF y (rows.getD b .stop) ((y.places.getD b 0 : Nat) : Int)) (y.places.getD t 0) y.wide - ((y.places.getD b 0 : Nat) : Int)
structure Pw (K : Frg) (w : World) (mg : Str → Option Value) where
  d : Addr
  es : Array DictEntry
  n : Nat
  m : mg "WORK" = some (.ref d)
  kd : KDict K w d es n
  at_ : ∀ r : Row, ∃ t : Tok, PySem.W.nsIn K d r.word = some (some (.int (work r) t))
theorem Pw.get {K : Frg} {w : World} {mg : Str → Option Value} (Z : Pw K w mg) (r : Row) : KDct K w Z.d r.word (.int (work r)) := by
  obtain ⟨t, h⟩ := Z.at_ r
  exact ⟨_, _, _, Z.kd.at_, Z.kd.lit, h, ⟨t, rfl⟩⟩
structure Bm (mg : Str → Option Value) : Prop where
  min : mg "min" = none
abbrev sFirstBeat : Stmt := top 35
abbrev sBeatsOfUse : Stmt := top 36
abbrev sBeatOfUse : Stmt := top 37
abbrev sBeatBehind : Stmt := top 38
abbrev sCost : Stmt := top 39
abbrev FFirstBeat (K : Frg) (mg : Str → Option Value) := Fd K mg "first_beat" sFirstBeat ["now", "place", "wide"]
abbrev FBeatsOfUse (K : Frg) (mg : Str → Option Value) := Fd K mg "beats_of_use" sBeatsOfUse ["word", "places", "read", "wide"]
abbrev FBeatOfUse (K : Frg) (mg : Str → Option Value) := Fd K mg "beat_of_use" sBeatOfUse ["row", "read", "laying"]
abbrev FBeatBehind (K : Frg) (mg : Str → Option Value) := Fd K mg "beat_behind" sBeatBehind ["row", "read", "laying"]
abbrev FCost (K : Frg) (mg : Str → Option Value) := Fd K mg "cost" sCost ["program", "laying", "begin", "to"]
def spFirstBeat : Sp := fun vs H Q _ => ∃ (now : Int) (place W : Nat), vs = [.int now, .int (place : Int), .int (W : Int)] ∧ 0 < W ∧ Q (.int (fb now place W)) H
def UseL (st : Bool) (us : List Nat) (read : Int) (W : Nat) (ms : List Int) : Prop := ∃ ns : List Int, ns.Perm (comesL us read W) ∧ ns.Pairwise (· ≤ ·) ∧ ms = if st = true then ns else ns.take 1
def spBeatsOfUse : Sp := fun vs H Q _ => ∃ (x : Str) (a : Addr) (us : List Nat) (read : Int) (W : Nat), vs = [.str x, .ref a, .int read, .int (W : Int)] ∧ H a = some (.tup (us.map nI)) ∧ us.length ≤ 3 ∧ 0 < W ∧
  ∀ q ms H', Same1 H H' → H q = none → H' q = some (.lst (ms.map V.int)) → UseL (decide (V.str x = V.str "store")) us read W ms → Q (.ref q) H'
def spBeatOfUse : Sp := fun vs H Q _ => ∃ (a b : Addr) (r : Row) (read : Int) (y : Lay) (N : Nat), vs = [.ref a, .int read, .ref b] ∧ H a = some (.tup (rowVs r)) ∧ LayAt H b y ∧ 2 ≤ y.wide ∧ (∀ h ∈ y.homes, HomeOk y.wide h) ∧ r.ok y.homes.length N ∧
  ∀ H', Same1 H H' → Q (.int (useF y read r)) H'
def spBeatBehind : Sp := fun vs H Q _ => ∃ (a b : Addr) (r : Row) (read : Int) (y : Lay) (N : Nat), vs = [.ref a, .int read, .ref b] ∧ H a = some (.tup (rowVs r)) ∧ LayAt H b y ∧ 2 ≤ y.wide ∧ (∀ h ∈ y.homes, HomeOk y.wide h) ∧ r.ok y.homes.length N ∧
  ∀ H', Same1 H H' → Q (.int (behindF y r read)) H'
def spCost : Sp := fun vs H Q _ => ∃ (a b : Addr) (p : Prog) (y : Lay) (i t : Nat), vs = [.ref a, .ref b, .int (i : Int), .int (t : Int)] ∧ ProgAt H a p ∧ Good p ∧ LayAt H b y ∧ LayOk p y ∧ i < p.rows.length ∧ t < p.rows.length ∧
  ∀ H', Same1 H H' → Q (.int (costF y p.rows i t)) H'
def costVs (y : Lay) (rows : List Row) (g : Nat × Nat) : List V := [nI g.1, nI g.2, .int (costF y rows g.1 g.2)]
def spCosts : Sp := fun vs H Q _ => ∃ (a b : Addr) (p : Prog) (y : Lay), vs = [.ref a, .ref b] ∧ ProgAt H a p ∧ Good p ∧ LayAt H b y ∧ LayOk p y ∧
  ∀ l bs H', Same1 H H' → H l = none → H' l = some (.lst (bs.map V.ref)) → Paired (fun b g => H' b = some (.tup (costVs y p.rows g))) bs (goesN p.rows p.rows.length) → Q (.ref l) H'
section
variable {P : Program} {w : World} {K : PySem.W.Frag} {mg : Str → Option Value} {base : Heap}
theorem scFirstBeat : FnScope ["now", "place", "wide"] ["now", "place", "wide"] (defScope sFirstBeat) := ⟨rfl, rfl, rfl, by decide +kernel, rfl, by decide +kernel, by decide +kernel⟩
theorem ok_firstBeat (c : FFirstBeat K mg) : FnOk P w K mg base CX0 1 c.f c.fd ["now", "place", "wide"] spFirstBeat := by
  refine c.F.ok scFirstBeat (fun vs H Q E h => ?_) (fun cdv A outer s H vs Q E hr h => ?_)
  · obtain ⟨n, pl, W, rfl, _⟩ := h
    rfl
  · obtain ⟨n, pl, W, rfl, h0, k⟩ := h
    refine ⟨_, (pss_one (ps_ret (pe_op op_add (pv 0) (pe_op op_mod (pe_op op_sub (pv 1) (pv 0)) (pv 2))))), ?_⟩
    exact ⟨_, rfl, _, rfl, _, rfl, _, _, rfl, rfl, _, rfl, _, _, rfl, rfl, (by omega), _, _, rfl, rfl, k⟩
abbrev nBeatsOfUse : List Str := ["word", "places", "read", "wide", "comes", "place"]
theorem scBeatsOfUse : FnScope nBeatsOfUse ["word", "places", "read", "wide"] (defScope sBeatsOfUse) := ⟨rfl, rfl, rfl, by decide +kernel, rfl, by decide +kernel, by decide +kernel⟩
theorem ok_beatsOfUse (c : FBeatsOfUse K mg) (cFirstBeat : FFirstBeat K mg) (T : Bt mg) : FnOk P w K mg base CX0 2 c.f c.fd ["word", "places", "read", "wide"] spBeatsOfUse := by
  have GFirstBeat : FnOk P w K mg base CX0 1 cFirstBeat.f cFirstBeat.fd ["now", "place", "wide"] spFirstBeat := ok_firstBeat cFirstBeat
  refine c.F.ok scBeatsOfUse (fun vs H Q E h => ?_) (fun cdv A outer s H vs Q E hr h => ?_)
  · obtain ⟨x, a, us, read, W, rfl, _⟩ := h
    rfl
  · obtain ⟨x, a, us, read, W, rfl, ha, l3, w0, k⟩ := h
    refine ⟨_, (pss_cons (ps_set (i := 4) scBeatsOfUse.nd rfl (Or.inl rfl) (pe_callB cr_sortedI (by rfl) T.sorted (by decide +kernel) (pa_cons (pe_lc (own := [("place", 5)]) (g := gName 5) (tt := tYes) rfl scBeatsOfUse.nd (pi_tup (pv 1)) (blkOk_by (N := nBeatsOfUse) (sc := defScope sBeatsOfUse) (by decide +kernel)) (fun _ _ _ _ _ => (pg_name (i := 5) scBeatsOfUse.nd rfl (Or.inl rfl))) (fun _ _ _ _ _ => pts_nil) (fun _ _ _ _ _ => (pe_call GFirstBeat (hr.mono (by first | omega | decide)) (by rfl) cFirstBeat.m cFirstBeat.F.kp cFirstBeat.b .nil pass0 (pa_cons (pe_op op_add (pv 2) pe_int) (pa_cons (pv 5) (pa_cons (pv 3) pa_nil)))))) pa_nil)))
      (pss_cons (ps_if (pt_cmpR op_eq (pv 0) pe_str (nomark _))
          (pss_one (ps_ret (pv 4)))
          pss_nil)
      (pss_one (ps_ret (pe_slice sl_list (pv 4) po_none (po_some pe_int)))))), ?_⟩
    refine ⟨_, rfl, a, rfl, ⟨_, SqT.of ha⟩, fun D hD => ?_⟩
    refine lc_tup (K := K) (a := a) (xs := us.map nI) (fun i H' => Same1 H H' ∧ H' D = some (.lst (((comesL us read W).take i).map V.int))) ⟨Same.new hD, upd_same⟩ (fun i H' _ ⟨q, _⟩ => SqT.of (q _ _ ha)) ?_ ?_
    · rintro i z H1 hi ⟨s1, hD1⟩
      rw [List.getElem?_map] at hi
      cases hz : us[i]? with
      | none => rw [hz] at hi; cases hi
      | some h =>
        rw [hz] at hi
        have e : nI h = z := Option.some.inj hi
        subst e
        have hil := (List.getElem?_eq_some_iff.mp hz).1
        refine ⟨rfl, _, rfl, _, _, rfl, rfl, _, rfl, _, rfl, read + 1, h, W, rfl, w0, ?_⟩
        refine ⟨_, hD1, szl (by rw [List.length_map, List.length_take]; omega), Same.mut s1 hD, ?_⟩
        rw [upd_same, List.take_add_one]
        unfold comesL
        rw [List.getElem?_map, hz, List.map_append]
        rfl
    · rintro H1 ⟨s1, hD1⟩
      have hcl : (comesL us read W).length = us.length := by unfold comesL; rw [List.length_map]
      rw [List.length_map, ← hcl, List.take_length] at hD1
      refine ⟨D, _, rfl, SqL.of hD1, fun ns q pm up hq => ?_⟩
      have hnl : ns.length ≤ 3 := by rw [pm.length_eq, hcl]; exact l3
      refine alloc hq fun H2 s2 e2 => ?_
      refine ⟨_, rfl, rfl, _, rfl, ?_⟩
      cases hs : decide (V.str x = V.str "store") with
      | true =>
        rw [hs] at k
        exact iteT ⟨_, rfl, k q ns H2 (s1.trans s2) (s1.free hq) e2 ⟨ns, pm, up, rfl⟩⟩
      | false =>
        rw [hs] at k
        refine iteF ⟨_, rfl, _, rfl, q, _, rfl, SqL.of e2, fun t ht => ?_⟩
        refine alloc ht fun H3 s3 e3 => ?_
        refine k t (ns.take 1) H3 ((s1.trans s2).trans s3) (s1.free (s2.free ht)) ?_ ⟨ns, pm, up, rfl⟩
        rw [e3, cut1 hnl]
abbrev nBeatOfUse : List Str := ["row", "read", "laying", "wide", "_", "homes"]
theorem scBeatOfUse : FnScope nBeatOfUse ["row", "read", "laying"] (defScope sBeatOfUse) := ⟨rfl, rfl, rfl, by decide +kernel, rfl, by decide +kernel, by decide +kernel⟩
theorem useL_last {st : Bool} {us : List Nat} {read : Int} {W : Nat} {ms : List Int} (h : UseL st us read W ms) (l1 : 0 < us.length) : atI (ms.map V.int) (-1) = some (.int (if st = true then maxL (comesL us read W) else minL (comesL us read W))) := by
  obtain ⟨ns, pm, up, rfl⟩ := h
  have hcl : 0 < (comesL us read W).length := by unfold comesL; rw [List.length_map]; exact l1
  obtain ⟨f0, f1⟩ := first_last pm up hcl
  cases st with
  | true => exact f1
  | false =>
    match ns with
    | [] => rw [if_neg (by decide)]; exact absurd f0 (by intro z; cases z)
    | x :: t =>
      have e := at0.symm.trans f0
      show atI [V.int x] (-1) = _
      exact (atI_last [] (V.int x)).trans e
theorem ok_beatOfUse (c : FBeatOfUse K mg) (cBeatsOfUse : FBeatsOfUse K mg) (cFirstBeat : FFirstBeat K mg) (cUsesWorth : FUsesWorth K mg) (T : Bt mg) (Z : Pt K w mg) : FnOk P w K mg base CX0 3 c.f c.fd ["row", "read", "laying"] spBeatOfUse := by
  have GBeatsOfUse : FnOk P w K mg base CX0 2 cBeatsOfUse.f cBeatsOfUse.fd ["word", "places", "read", "wide"] spBeatsOfUse := ok_beatsOfUse cBeatsOfUse cFirstBeat T
  have GUsesWorth : FnOk P w K mg base CX0 1 cUsesWorth.f cUsesWorth.fd ["row"] spUses := ok_usesWorth cUsesWorth Z
  refine c.F.ok scBeatOfUse (fun vs H Q E h => ?_) (fun cdv A outer s H vs Q E hr h => ?_)
  · obtain ⟨a, b, r, read, y, N, rfl, _⟩ := h
    rfl
  · obtain ⟨a, b, r, read, y, N, rfl, ha, ⟨pl, hl, cs, hb, hpl, hhl, hH⟩, w2, hok, ho, k⟩ := h
    have hcl := Paired.length hH
    refine ⟨_, (pss_cons (ps_asg (pv 2) (pg_tup rfl (pgs_cons (pg_name (i := 3) scBeatOfUse.nd rfl (Or.inl rfl)) (pgs_cons (pg_name (i := 4) scBeatOfUse.nd rfl (Or.inl rfl)) (pgs_cons (pg_name (i := 5) scBeatOfUse.nd rfl (Or.inl rfl)) pgs_nil)))))
      (pss_cons (ps_if (pt_not (pt_val (pe_call GUsesWorth (hr.mono (by first | omega | decide)) (by rfl) cUsesWorth.m cUsesWorth.F.kp cUsesWorth.b .nil pass0 (pa_cons (pv 0) pa_nil))))
          (pss_one (ps_ret (pv 1)))
          pss_nil)
      (pss_one (ps_ret (pe_ix ix_list (pe_call GBeatsOfUse (hr.mono (by first | omega | decide)) (by rfl) cBeatsOfUse.m cBeatsOfUse.F.kp cBeatsOfUse.b .nil pass0 (pa_cons (pe_ix ix_tup (pv 0) pe_int (fun _ _ => rfl)) (pa_cons (pe_ix ix_tup (pv 5) (pe_ix ix_tup (pv 0) pe_int (fun _ _ => rfl)) (fun _ _ => rfl)) (pa_cons (pv 1) (pa_cons (pv 3) pa_nil))))) (pe_un un_neg pe_int) (fun _ _ => rfl)))))), ?_⟩
    refine ⟨_, rfl, b, _, rfl, SqT.of hb, rfl, _, _, rfl, _, _, rfl, _, _, rfl, rfl, ?_⟩
    refine ⟨_, rfl, a, r, rfl, ha, _, rfl, ?_⟩
    cases hu : r.uses with
    | false =>
      refine iteT ⟨_, rfl, ?_⟩
      have e : useF y read r = read := by cases r <;> first | rfl | cases hu
      have q := k H (Same.refl _)
      rw [e] at q
      exact q
    | true =>
      have hx1 : ∃ x : Nat, (rowVs r)[1]? = some (.int (x : Int)) ∧ x < y.homes.length ∧ useF y read r = if r.isWd "store" = true then maxL (comes y x read) else minL (comes y x read) := by
        have e := (Row.wd_eq r).2.1
        cases r with
        | load x n => exact ⟨x, rfl, ho.1, by rw [e]; rfl⟩
        | add x n => exact ⟨x, rfl, ho.1, by rw [e]; rfl⟩
        | take x n => exact ⟨x, rfl, ho.1, by rw [e]; rfl⟩
        | store x n => exact ⟨x, rfl, ho.1, by rw [e]; rfl⟩
        | say n => cases hu
        | test a b => cases hu
        | stop => cases hu
      obtain ⟨x, hx, hxl, heq⟩ := hx1
      obtain ⟨cb, hcb1, hcb2⟩ := Paired.getR hH (List.getElem?_eq_getElem hxl)
      have hcV : (cs.map V.ref)[x]? = some (.ref cb) := by rw [List.getElem?_map, hcb1]; rfl
      have hk := hok _ (List.getElem_mem hxl)
      have l1 := hk.l1
      have l3 := hk.l3
      have eg : y.homes.getD x [] = y.homes[x] := by rw [List.getD_eq_getElem?_getD, List.getElem?_eq_getElem hxl]; rfl
      refine iteF ⟨_, rfl, a, _, _, _, rfl, rfl, SqT.of ha, atI_nat (j := 0) (Row.w0 r), _, rfl, _, rfl, a, _, _, _, rfl, rfl, SqT.of ha, atI_nat (j := 1) hx, hl, _, _, _, rfl, rfl, SqT.of hhl, atI_nat hcV, _, rfl, _, rfl, r.word, cb, y.homes[x], read, y.wide, rfl, hcb2, by omega, by omega, fun q ms H1 s1 nq e1 hU => ?_⟩
      refine ⟨_, rfl, q, _, _, _, rfl, rfl, SqL.of e1, useL_last hU (by omega), ?_⟩
      have z := k H1 s1
      rw [heq] at z
      unfold comes at z
      rw [eg] at z
      exact z
theorem scBeatBehind : FnScope ["row", "read", "laying"] ["row", "read", "laying"] (defScope sBeatBehind) := ⟨rfl, rfl, rfl, by decide +kernel, rfl, by decide +kernel, by decide +kernel⟩
theorem ok_beatBehind (c : FBeatBehind K mg) (cBeatOfUse : FBeatOfUse K mg) (cBeatsOfUse : FBeatsOfUse K mg) (cFirstBeat : FFirstBeat K mg) (cUsesWorth : FUsesWorth K mg) (T : Bt mg) (Z : Pt K w mg) (ZW : Pw K w mg) : FnOk P w K mg base CX0 4 c.f c.fd ["row", "read", "laying"] spBeatBehind := by
  have GBeatOfUse : FnOk P w K mg base CX0 3 cBeatOfUse.f cBeatOfUse.fd ["row", "read", "laying"] spBeatOfUse := ok_beatOfUse cBeatOfUse cBeatsOfUse cFirstBeat cUsesWorth T Z
  refine c.F.ok scBeatBehind (fun vs H Q E h => ?_) (fun cdv A outer s H vs Q E hr h => ?_)
  · obtain ⟨a, b, r, read, y, N, rfl, _⟩ := h
    rfl
  · obtain ⟨a, b, r, read, y, N, rfl, ha, hy, w2, hok, ho, k⟩ := h
    refine ⟨_, (pss_one (ps_ret (pe_op op_add (pe_op op_add (pe_call GBeatOfUse (hr.mono (by first | omega | decide)) (by rfl) cBeatOfUse.m cBeatOfUse.F.kp cBeatOfUse.b .nil pass0 (pa_cons (pv 0) (pa_cons (pv 1) (pa_cons (pv 2) pa_nil)))) (pe_ix ix_kdict (pe_glob (v := .ref ZW.d) rfl ZW.m rfl) (pe_ix ix_tup (pv 0) pe_int (fun _ _ => rfl)) (fun _ _ => rfl))) pe_int))), ?_⟩
    refine ⟨_, rfl, _, rfl, _, rfl, a, b, r, read, y, N, rfl, ha, hy, w2, hok, ho, fun H1 s1 => ?_⟩
    refine ⟨_, rfl, a, _, _, _, rfl, rfl, SqT.of (s1 _ _ ha), atI_nat (j := 0) (Row.w0 r), ZW.d, _, _, rfl, rfl, ZW.get r, _, _, rfl, rfl, _, _, rfl, rfl, k H1 s1⟩
abbrev nCost : List Str := ["program", "laying", "begin", "to", "wide", "places", "_", "read", "behind"]
theorem scCost : FnScope nCost ["program", "laying", "begin", "to"] (defScope sCost) := ⟨rfl, rfl, rfl, by decide +kernel, rfl, by decide +kernel, by decide +kernel⟩
theorem nI_at {l : List Nat} {i : Nat} (h : i < l.length) : (l.map nI)[i]? = some (.int ((l.getD i 0 : Nat) : Int)) := by
  rw [List.getElem?_map, List.getD_eq_getElem?_getD, List.getElem?_eq_getElem h]
  rfl
theorem ok_cost (c : FCost K mg) (cBeatBehind : FBeatBehind K mg) (cBeatOfUse : FBeatOfUse K mg) (cBeatsOfUse : FBeatsOfUse K mg) (cFirstBeat : FFirstBeat K mg) (cUsesWorth : FUsesWorth K mg) (T : Bt mg) (Z : Pt K w mg) (ZW : Pw K w mg) : FnOk P w K mg base CX0 5 c.f c.fd ["program", "laying", "begin", "to"] spCost := by
  have GBeatBehind : FnOk P w K mg base CX0 4 cBeatBehind.f cBeatBehind.fd ["row", "read", "laying"] spBeatBehind := ok_beatBehind cBeatBehind cBeatOfUse cBeatsOfUse cFirstBeat cUsesWorth T Z ZW
  have GFirstBeat : FnOk P w K mg base CX0 1 cFirstBeat.f cFirstBeat.fd ["now", "place", "wide"] spFirstBeat := ok_firstBeat cFirstBeat
  refine c.F.ok scCost (fun vs H Q E h => ?_) (fun cdv A outer s H vs Q E hr h => ?_)
  · obtain ⟨a, b, p, y, i, t, rfl, _⟩ := h
    rfl
  · obtain ⟨a, b, p, y, i, t, rfl, ⟨wa, ra, bs, hpa, hwa, hra, hR⟩, g, ⟨pl, hl, cs, hb, hpl, hhl, hH⟩, yk, hi, ht, k⟩ := h
    have er : p.rows.getD i .stop = p.rows[i] := by rw [List.getD_eq_getElem?_getD, List.getElem?_eq_getElem hi]; rfl
    obtain ⟨rb, hb1, hb2⟩ := Paired.getR hR (List.getElem?_eq_getElem hi)
    have hbV : (bs.map V.ref)[i]? = some (.ref rb) := by rw [List.getElem?_map, hb1]; rfl
    have w2 := yk.w2
    refine ⟨_, (pss_cons (ps_asg (pv 1) (pg_tup rfl (pgs_cons (pg_name (i := 4) scCost.nd rfl (Or.inl rfl)) (pgs_cons (pg_name (i := 5) scCost.nd rfl (Or.inl rfl)) (pgs_cons (pg_name (i := 6) scCost.nd rfl (Or.inl rfl)) pgs_nil)))))
      (pss_cons (ps_set (i := 7) scCost.nd rfl (Or.inl rfl) (pe_ix ix_tup (pv 5) (pv 2) (fun _ _ => rfl)))
      (pss_cons (ps_set (i := 8) scCost.nd rfl (Or.inl rfl) (pe_call GBeatBehind (hr.mono (by first | omega | decide)) (by rfl) cBeatBehind.m cBeatBehind.F.kp cBeatBehind.b .nil pass0 (pa_cons (pe_ix ix_tup (pe_ix ix_tup (pv 0) pe_int (fun _ _ => rfl)) (pv 2) (fun _ _ => rfl)) (pa_cons (pv 7) (pa_cons (pv 1) pa_nil)))))
      (pss_one (ps_ret (pe_op op_sub (pe_call GFirstBeat (hr.mono (by first | omega | decide)) (by rfl) cFirstBeat.m cFirstBeat.F.kp cFirstBeat.b .nil pass0 (pa_cons (pv 8) (pa_cons (pe_ix ix_tup (pv 5) (pv 3) (fun _ _ => rfl)) (pa_cons (pv 4) pa_nil)))) (pv 7))))))), ?_⟩
    refine ⟨_, rfl, b, _, rfl, SqT.of hb, rfl, _, _, rfl, _, _, rfl, _, _, rfl, rfl, ?_⟩
    refine ⟨_, rfl, _, rfl, pl, _, _, _, rfl, rfl, SqT.of hpl, atI_nat (nI_at (by rw [yk.pl]; exact hi)), ?_⟩
    refine ⟨_, rfl, a, _, _, _, rfl, rfl, SqT.of hpa, at1, _, rfl, ra, _, _, _, rfl, rfl, SqT.of hra, atI_nat hbV, _, rfl, _, rfl, rb, b, p.rows[i], _, y, p.rows.length, rfl, hb2, ⟨pl, hl, cs, hb, hpl, hhl, hH⟩, w2, yk.hok, ?_, fun H1 s1 => ?_⟩
    · rw [yk.hl]
      exact g.ok _ (List.getElem_mem hi)
    refine ⟨_, rfl, _, rfl, _, rfl, pl, _, _, _, rfl, rfl, SqT.of (s1 _ _ hpl), atI_nat (nI_at (by rw [yk.pl]; exact ht)), _, rfl, _, _, _, rfl, by omega, _, rfl, _, _, rfl, rfl, ?_⟩
    have q := k H1 s1
    unfold costF at q
    rw [er] at q
    exact q
abbrev nCosts : List Str := ["program", "laying", "begin", "to"]
end
end DL
namespace DL
open PySem L2 DLR
theorem whileE {c : TT} {tb : TS} {D : Ends} {σ : L2.St} {H : Hp} (W : Nat → L2.St → Hp → Prop) (R : L2.St → Hp → Prop) (w0 : ∃ m, W m σ H) (key : ∀ σ' H', R σ' H' → D.nx σ' H')
    (turn : ∀ Nx : L2.St → Hp → Prop, (∀ σ' H', R σ' H' → Nx σ' H') → ∀ m σ H, W m σ H → c σ H fun b H1 => if b = true then ∃ N : L2.St → Hp → Prop, (∀ σ' H', N σ' H' → ∃ m', m' < m ∧ W m' σ' H') ∧ tb { D with nx := N, ct := N, bk := D.nx } σ H1 else Nx σ H1) :
    tWhile c tb D σ H := ⟨W, w0, fun m σ H w => turn D.nx key m σ H w⟩
theorem fb_mod {now : Int} {place W : Nat} (h : place < W) : fb now place W % (W : Int) = (place : Int) := by
  unfold fb
  rw [Int.add_comm, Int.emod_add_emod, Int.sub_add_cancel, Int.emod_eq_of_lt (by omega) (by omega)]
theorem fb_ge {now : Int} {place W : Nat} (h : 0 < W) : now ≤ fb now place W ∧ fb now place W < now + (W : Int) := by
  have a := Int.emod_nonneg ((place : Int) - now) (show (W : Int) ≠ 0 by omega)
  have b := Int.emod_lt_of_pos ((place : Int) - now) (show (0 : Int) < (W : Int) by omega)
  unfold fb
  omega
theorem fb_uniq {now x : Int} {place W : Nat} (h : place < W) (h1 : now ≤ x) (h2 : x ≤ fb now place W) (e : x % (W : Int) = (place : Int)) : x = fb now place W := by
  have b := (fb_ge (now := now) (place := place) (show 0 < W by omega)).2
  have m : (fb now place W - x) % (W : Int) = 0 := by
    rw [Int.sub_emod, fb_mod h, e, Int.sub_self, Int.zero_emod]
  rw [Int.emod_eq_of_lt (by omega) (by omega)] at m
  omega
theorem goesN_mem {rows : List Row} {n u v : Nat} (h : (u, v) ∈ goesN rows n) : u < n ∧ v ∈ tgt (rows.getD u .stop) := by
  obtain ⟨k, hk, h2⟩ := List.mem_flatMap.mp h
  obtain ⟨t, ht, e⟩ := List.mem_map.mp h2
  have e1 := congrArg Prod.fst e
  have e2 := congrArg Prod.snd e
  dsimp only at e1 e2
  subst e1 e2
  exact ⟨List.mem_range.mp hk, ht⟩
theorem nx_lt {r : Row} {W N : Nat} (h : r.ok W N) : ∀ x ∈ nx r, x < N := by
  cases r with
  | load w n => intro x hx; rw [List.mem_singleton.mp hx]; exact h.2
  | add w n => intro x hx; rw [List.mem_singleton.mp hx]; exact h.2
  | take w n => intro x hx; rw [List.mem_singleton.mp hx]; exact h.2
  | store w n => intro x hx; rw [List.mem_singleton.mp hx]; exact h.2
  | say n => intro x hx; rw [List.mem_singleton.mp hx]; exact h
  | test a b =>
    intro x hx
    rcases List.mem_cons.mp hx with e | e
    · rw [e]; exact h.1
    · rw [List.mem_singleton.mp e]; exact h.2
  | stop => intro x hx; cases hx
theorem goesN_lt {p : Prog} (g : Good p) {u v : Nat} (h : (u, v) ∈ goesN p.rows p.rows.length) : u < p.rows.length ∧ v < p.rows.length := by
  obtain ⟨h1, h2⟩ := goesN_mem h
  have er : p.rows.getD u .stop = p.rows[u] := by rw [List.getD_eq_getElem?_getD, List.getElem?_eq_getElem h1]; rfl
  rw [er] at h2
  exact ⟨h1, nx_lt (g.ok _ (List.getElem_mem h1)) v ((tgt_mem _ _).mp h2)⟩
abbrev sWait : Stmt := top 61
abbrev FWait (K : Frg) (mg : Str → Option Value) := Fd K mg "_law_wait" sWait ["_law_now", "_law_place", "_law_wide"]
def spWait : Sp := fun vs H Q _ => ∃ (now : Int) (place W : Nat), vs = [.int now, .int (place : Int), .int (W : Int)] ∧ place < W ∧ Q (.int (fb now place W)) H
def kAd : Key := .inr "add"
def kTk : Key := .inr "take"
def kSy : Key := .inr "say"
def kSp : Key := .inr "stop"
theorem extra (r : Row) : (valV (mergeK [] [(kAd, V.int 2), (kTk, V.int 2), (kSy, V.int 3), (kSp, V.int 0)]) (.inr r.word)).getD (.int 1) = .int (work r) := by
  cases r <;> (dsimp only [Row.word, work]; decide +kernel)
theorem store_at (r : Row) : (0 : Int) - (if decide (V.str r.word = V.str "store") = true then 1 else 0) = if r.isWd "store" = true then -1 else 0 := by
  show (0 : Int) - (if r.isWd "store" = true then 1 else 0) = _
  cases r.isWd "store" <;> decide
section
variable {P : Program} {w : World} {K : PySem.W.Frag} {mg : Str → Option Value} {base : Heap}
theorem scWait : FnScope ["_law_now", "_law_place", "_law_wide"] ["_law_now", "_law_place", "_law_wide"] (defScope sWait) := ⟨rfl, rfl, rfl, by decide +kernel, rfl, by decide +kernel, by decide +kernel⟩
theorem ok_wait (c : FWait K mg) : FnOk P w K mg base CX0 1 c.f c.fd ["_law_now", "_law_place", "_law_wide"] spWait := by
  refine c.F.ok scWait (fun vs H Q E h => ?_) (fun cdv A outer s H vs Q E hr h => ?_)
  · obtain ⟨n, pl, W, rfl, _⟩ := h
    rfl
  · obtain ⟨n, pl, W, rfl, hp, k⟩ := h
    refine ⟨_, (pss_cons (ps_while PassesOwn.never (pt_cmpR op_ne (pe_op op_mod (pv 0) (pv 2)) (pv 1) (nomark _))
          (pss_one (ps_set (i := 0) scWait.nd rfl (Or.inl rfl) (pe_op op_add (pv 0) pe_int))))
      (pss_one (ps_ret (pv 0)))), ?_⟩
    have f0 := fb_ge (now := n) (place := pl) (show 0 < W by omega)
    refine whileE (fun m σ H' => ∃ x : Int, m = (fb n pl W - x).toNat + 1 ∧ σ = [some (.int x), some (.int (pl : Int)), some (.int (W : Int))] ∧ H' = H ∧ n ≤ x ∧ x ≤ fb n pl W)
      (fun σ H' => σ = [some (.int (fb n pl W)), some (.int (pl : Int)), some (.int (W : Int))] ∧ H' = H) ⟨_, n, rfl, rfl, rfl, Int.le_refl _, f0.1⟩ ?_ ?_
    · rintro σ H' ⟨rfl, rfl⟩
      exact ⟨_, rfl, k⟩
    · intro Nx hNx
      rintro m σ H1 ⟨x, rfl, rfl, rfl, h1, h2⟩
      refine ⟨_, rfl, _, rfl, _, _, rfl, rfl, (by omega), _, rfl, rfl, _, rfl, ?_⟩
      by_cases e : x % (W : Int) = (pl : Int)
      · have q := fb_uniq hp h1 h2 e
        rw [decide_eq_true (show V.int (x % (W : Int)) = V.int (pl : Int) by rw [e])]
        exact hNx _ _ ⟨by rw [q], rfl⟩
      · rw [decide_eq_false (show ¬ V.int (x % (W : Int)) = V.int (pl : Int) from fun z => e (V.int.inj z))]
        have ne : x ≠ fb n pl W := fun z => e (by rw [z]; exact fb_mod hp)
        refine ⟨_, fun σ' H' q => q, ?_⟩
        exact ⟨_, rfl, _, _, rfl, rfl, (fb n pl W - (x + 1)).toNat + 1, by omega, x + 1, rfl, rfl, rfl, by omega, by omega⟩
end
end DL
namespace DL
open PySem L2 DLR
abbrev sOver : Stmt := top 62
abbrev sLCost : Stmt := top 63
abbrev FOver (K : Frg) (mg : Str → Option Value) := Fd K mg "_law_over" sOver ["_law_row", "_law_laying_here", "_law_beat"]
abbrev FLCost (K : Frg) (mg : Str → Option Value) := Fd K mg "_law_cost" sLCost ["_law_rows", "_law_laying_here", "_law_here", "_law_other"]
def spOver : Sp := fun vs H Q _ => ∃ (a b : Addr) (r : Row) (read : Int) (y : Lay) (N : Nat), vs = [.ref a, .ref b, .int read] ∧ H a = some (.tup (rowVs r)) ∧ LayAt H b y ∧ 2 ≤ y.wide ∧ (∀ h ∈ y.homes, HomeOk y.wide h) ∧ r.ok y.homes.length N ∧
  ∀ H', Same1 H H' → Q (.int (behindF y r read)) H'
def spLCost : Sp := fun vs H Q _ => ∃ (ra b : Addr) (bs : List Addr) (p : Prog) (y : Lay) (i t : Nat), vs = [.ref ra, .ref b, .int (i : Int), .int (t : Int)] ∧ H ra = some (.tup (bs.map V.ref)) ∧ RowsAt H bs p.rows ∧ Good p ∧ LayAt H b y ∧ LayOk p y ∧ i < p.rows.length ∧ t < p.rows.length ∧
  ∀ H', Same1 H H' → Q (.int (costF y p.rows i t)) H'
section
variable {P : Program} {w : World} {K : PySem.W.Frag} {mg : Str → Option Value} {base : Heap}
abbrev nOver : List Str := ["_law_row", "_law_laying_here", "_law_beat", "_law_now", "_law_some", "_law_place"]
theorem scOver : FnScope nOver ["_law_row", "_law_laying_here", "_law_beat"] (defScope sOver) := ⟨rfl, rfl, rfl, by decide +kernel, rfl, by decide +kernel, by decide +kernel⟩
theorem ok_over (c : FOver K mg) (cWait : FWait K mg) (T : Bt mg) : FnOk P w K mg base CX0 2 c.f c.fd ["_law_row", "_law_laying_here", "_law_beat"] spOver := by
  have GWait : FnOk P w K mg base CX0 1 cWait.f cWait.fd ["_law_now", "_law_place", "_law_wide"] spWait := ok_wait cWait
  refine c.F.ok scOver (fun vs H Q E h => ?_) (fun cdv A outer s H vs Q E hr h => ?_)
  · obtain ⟨a, b, r, read, y, N, rfl, _⟩ := h
    rfl
  · obtain ⟨a, b, r, read, y, N, rfl, ha, ⟨pl, hl, cs, hb, hpl, hhl, hH⟩, w2, hok, ho, k⟩ := h
    have hcl := Paired.length hH
    refine ⟨_, (pss_cons (ps_set (i := 3) scOver.nd rfl (Or.inr rfl) (pe_op op_add (pv 2) pe_int))
      (pss_cons (ps_if (pt_cmpR op_in_seq (pe_ix ix_tup (pv 0) pe_int (fun _ _ => rfl)) (pe_tup (pa_cons pe_str (pa_cons pe_str (pa_cons pe_str (pa_cons pe_str pa_nil))))) rfl)
          (pss_cons (ps_set (i := 4) scOver.nd rfl (Or.inl rfl) (pe_callB cr_sortedI (by rfl) T.sorted (by decide +kernel) (pa_cons (pe_lc (own := [("_law_place", 5)]) (g := gName 5) (tt := tYes) rfl scOver.nd (pi_tup (pe_ix ix_tup (pe_ix ix_tup (pv 1) pe_int (fun _ _ => rfl)) (pe_ix ix_tup (pv 0) pe_int (fun _ _ => rfl)) (fun _ _ => rfl))) (blkOk_by (N := nOver) (sc := defScope sOver) (by decide +kernel)) (fun _ _ _ _ _ => (pg_name (i := 5) scOver.nd rfl (Or.inl rfl))) (fun _ _ _ _ _ => pts_nil) (fun _ _ _ _ _ => (pe_call GWait (hr.mono (by first | omega | decide)) (by rfl) cWait.m cWait.F.kp cWait.b .nil pass0 (pa_cons (pv 3) (pa_cons (pv 5) (pa_cons (pe_ix (ix_tupK K rfl) (pv 1) pe_int (fun _ _ => rfl)) pa_nil)))))) pa_nil)))
          (pss_one (ps_set (i := 3) scOver.nd rfl (Or.inr rfl) (pe_op op_add (pe_ix ix_list (pv 4) (pe_op op_sub pe_int (pe_callTy call_int1 (by rfl) T.int (by decide +kernel) (pa_cons (pe_cmpR op_eq (pe_ix ix_tup (pv 0) pe_int (fun _ _ => rfl)) pe_str (nomark _)) pa_nil))) (fun _ _ => rfl)) pe_int))))
          pss_nil)
      (pss_one (ps_ret (pe_op op_add (pv 3) (pe_dget2 (hu_of hr) (pe_disp (pps_cons pe_str pe_int (pps_cons pe_str pe_int (pps_cons pe_str pe_int (pps_cons pe_str pe_int pps_nil)))) (by rfl) (by rfl) (fun z => by cases z) (by decide)) (pe_ix ix_tup (pv 0) pe_int (fun _ _ => rfl)) pe_int ⟨rfl, rfl, rfl, rfl⟩)))))), ?_⟩
    refine ⟨_, rfl, _, _, rfl, rfl, ?_⟩
    refine ⟨_, rfl, a, _, _, _, rfl, rfl, SqT.of ha, atI_nat (j := 0) (Row.w0 r), (by show 4 ≤ sizeLine; decide), fun t1 ht1 => ?_⟩
    refine alloc ht1 fun H1 s1 e1 => ?_
    have ha1 := s1 _ _ ha
    refine ⟨t1, _, rfl, .inr (SqT.of e1), rfl, rfl, r.uses, ?_, ?_⟩
    · show V.bl (inV (.str r.word) [.str "load", .str "add", .str "take", .str "store"]) = _
      rw [Row.in4]
    -- behind the wait: the work
    have last : ∀ (σ : L2.St) (H2 : Hp) (base1 : Int), σ[3]? = some (some (.int base1)) → σ[0]? = some (some (.ref a)) → Same1 H H2 → base1 + work r = behindF y r read →
        tOp (rI0 fun i j => V.int (i + j)) (tVar 3) (tDGet2 (tDisp [(tC (.str "add"), tC (.int 2)), (tC (.str "take"), tC (.int 2)), (tC (.str "say"), tC (.int 3)), (tC (.str "stop"), tC (.int 0))]) (tOp (rIxT K) (tVar 0) (tC (.int 0))) (tC (.int 1))) σ H2 Q := by
      intro σ H2 base1 h3 h0 s2 e
      refine ⟨_, h3, fun ad had => ?_⟩
      refine alloc had fun H3 s3 e3 => ?_
      refine ⟨e3, [(kAd, .int 2), (kTk, .int 2), (kSy, .int 3), (kSp, .int 0)], rfl, (by show 4 ≤ 15; decide), ?_⟩
      have S4 : Same1 H (upd H3 ad (.dK (mergeK [] [(kAd, .int 2), (kTk, .int 2), (kSy, .int 3), (kSp, .int 0)]))) := Same.mut (s2.trans s3) (s2.free had)
      refine ⟨ad, rfl, .inl ⟨_, .inl upd_same⟩, _, h0, a, _, _, _, rfl, rfl, SqT.of (S4 _ _ ha), atI_nat (j := 0) (Row.w0 r), _, DGet.k (k := .inr r.word) upd_same, ?_⟩
      rw [extra]
      refine ⟨_, _, rfl, rfl, ?_⟩
      have q := k _ S4
      rw [← e] at q
      exact q
    cases hu : r.uses with
    | false =>
      refine iteF ?_
      refine last _ _ (read + 1) rfl rfl s1 ?_
      have e : useF y read r = read := by cases r <;> first | rfl | cases hu
      unfold behindF
      rw [e]
      omega
    | true =>
      have hx1 : ∃ x : Nat, (rowVs r)[1]? = some (.int (x : Int)) ∧ x < y.homes.length ∧ useF y read r = if r.isWd "store" = true then maxL (comes y x read) else minL (comes y x read) := by
        have e := (Row.wd_eq r).2.1
        cases r with
        | load x n => exact ⟨x, rfl, ho.1, by rw [e]; rfl⟩
        | add x n => exact ⟨x, rfl, ho.1, by rw [e]; rfl⟩
        | take x n => exact ⟨x, rfl, ho.1, by rw [e]; rfl⟩
        | store x n => exact ⟨x, rfl, ho.1, by rw [e]; rfl⟩
        | say n => cases hu
        | test a b => cases hu
        | stop => cases hu
      obtain ⟨x, hx, hxl, heq⟩ := hx1
      obtain ⟨cb, hcb1, hcb2⟩ := Paired.getR hH (List.getElem?_eq_getElem hxl)
      have hcV : (cs.map V.ref)[x]? = some (.ref cb) := by rw [List.getElem?_map, hcb1]; rfl
      have hk := hok _ (List.getElem_mem hxl)
      have l1 := hk.l1
      have l3 := hk.l3
      have eg : y.homes.getD x [] = y.homes[x] := by rw [List.getD_eq_getElem?_getD, List.getElem?_eq_getElem hxl]; rfl
      refine iteT ⟨_, rfl, b, _, _, _, rfl, rfl, SqT.of (s1 _ _ hb), at2, _, rfl, a, _, _, _, rfl, rfl, SqT.of ha1, atI_nat (j := 1) hx, hl, _, _, _, rfl, rfl, SqT.of (s1 _ _ hhl), atI_nat hcV, cb, rfl, ⟨_, SqT.of (s1 _ _ hcb2)⟩, fun D hD => ?_⟩
      refine lc_tup (K := K) (a := cb) (xs := y.homes[x].map nI) (fun i H' => Same1 H1 H' ∧ H' D = some (.lst (((comes y x read).take i).map V.int))) ⟨Same.new hD, upd_same⟩ (fun i H' _ ⟨q, _⟩ => SqT.of (q _ _ (s1 _ _ hcb2))) ?_ ?_
      · rintro i z H2 hi ⟨s2, hD2⟩
        rw [List.getElem?_map] at hi
        cases hz : y.homes[x][i]? with
        | none => rw [hz] at hi; cases hi
        | some h =>
          rw [hz] at hi
          have e : nI h = z := Option.some.inj hi
          subst e
          have hil := (List.getElem?_eq_some_iff.mp hz).1
          have hlt := hk.lt h (List.mem_of_getElem? hz)
          refine ⟨rfl, _, rfl, _, rfl, _, rfl, b, _, _, _, rfl, rfl, SqT.of ((s1.trans s2) _ _ hb), at0, read + 1, h, y.wide, rfl, hlt, ?_⟩
          refine ⟨_, hD2, szl (by rw [List.length_map, List.length_take]; omega), Same.mut s2 hD, ?_⟩
          rw [upd_same, List.take_add_one]
          unfold comes comesL
          rw [eg, List.getElem?_map, hz, List.map_append]
          rfl
      · rintro H2 ⟨s2, hD2⟩
        have hcl2 : (comes y x read).length = y.homes[x].length := by unfold comes comesL; rw [eg, List.length_map]
        rw [List.length_map, ← hcl2, List.take_length] at hD2
        refine ⟨D, _, rfl, SqL.of hD2, fun ms q pm up hq => ?_⟩
        refine alloc hq fun H3 s3 e3 => ?_
        obtain ⟨fl1, fl2⟩ := first_last pm up (by omega)
        have S3 := (s1.trans s2).trans s3
        refine ⟨_, rfl, _, rfl, a, _, _, _, rfl, rfl, SqT.of (S3 _ _ ha), atI_nat (j := 0) (Row.w0 r), rfl, .inr ⟨_, rfl, _, _, rfl, rfl, ?_⟩⟩
        refine ⟨q, _, _, .int (useF y read r), rfl, rfl, SqL.of e3, ?_, _, _, rfl, rfl, ?_⟩
        · rw [store_at, heq]
          cases r.isWd "store"
          · exact fl1
          · exact fl2
        · refine last _ _ (useF y read r + 1) rfl rfl S3 ?_
          unfold behindF
          omega
abbrev nLCost : List Str := ["_law_rows", "_law_laying_here", "_law_here", "_law_other", "_law_begin"]
theorem scLCost : FnScope nLCost ["_law_rows", "_law_laying_here", "_law_here", "_law_other"] (defScope sLCost) := ⟨rfl, rfl, rfl, by decide +kernel, rfl, by decide +kernel, by decide +kernel⟩
theorem ok_lcost (c : FLCost K mg) (cOver : FOver K mg) (cWait : FWait K mg) (T : Bt mg) : FnOk P w K mg base CX0 3 c.f c.fd ["_law_rows", "_law_laying_here", "_law_here", "_law_other"] spLCost := by
  have GWait : FnOk P w K mg base CX0 1 cWait.f cWait.fd ["_law_now", "_law_place", "_law_wide"] spWait := ok_wait cWait
  have GOver : FnOk P w K mg base CX0 2 cOver.f cOver.fd ["_law_row", "_law_laying_here", "_law_beat"] spOver := ok_over cOver cWait T
  refine c.F.ok scLCost (fun vs H Q E h => ?_) (fun cdv A outer s H vs Q E hr h => ?_)
  · obtain ⟨ra, b, bs, p, y, i, t, rfl, _⟩ := h
    rfl
  · obtain ⟨ra, b, bs, p, y, i, t, rfl, hra, hR, g, ⟨pl, hl, cs, hb, hpl, hhl, hH⟩, yk, hi, ht, k⟩ := h
    have er : p.rows.getD i .stop = p.rows[i] := by rw [List.getD_eq_getElem?_getD, List.getElem?_eq_getElem hi]; rfl
    obtain ⟨rb, hb1, hb2⟩ := Paired.getR hR (List.getElem?_eq_getElem hi)
    have hbV : (bs.map V.ref)[i]? = some (.ref rb) := by rw [List.getElem?_map, hb1]; rfl
    have w2 := yk.w2
    have htl : t < y.places.length := by rw [yk.pl]; exact ht
    have hlt : y.places.getD t 0 < y.wide := by
      rw [List.getD_eq_getElem?_getD, List.getElem?_eq_getElem htl]
      exact yk.pok _ (List.getElem_mem htl)
    refine ⟨_, (pss_cons (ps_set (i := 4) scLCost.nd rfl (Or.inl rfl) (pe_ix ix_tup (pe_ix ix_tup (pv 1) pe_int (fun _ _ => rfl)) (pv 2) (fun _ _ => rfl)))
      (pss_one (ps_ret (pe_op op_sub (pe_call GWait (hr.mono (by first | omega | decide)) (by rfl) cWait.m cWait.F.kp cWait.b .nil pass0 (pa_cons (pe_call GOver (hr.mono (by first | omega | decide)) (by rfl) cOver.m cOver.F.kp cOver.b .nil pass0 (pa_cons (pe_ix ix_tup (pv 0) (pv 2) (fun _ _ => rfl)) (pa_cons (pv 1) (pa_cons (pv 4) pa_nil)))) (pa_cons (pe_ix ix_tup (pe_ix ix_tup (pv 1) pe_int (fun _ _ => rfl)) (pv 3) (fun _ _ => rfl)) (pa_cons (pe_ix ix_tup (pv 1) pe_int (fun _ _ => rfl)) pa_nil)))) (pv 4))))), ?_⟩
    refine ⟨_, rfl, b, _, _, _, rfl, rfl, SqT.of hb, at1, _, rfl, pl, _, _, _, rfl, rfl, SqT.of hpl, atI_nat (nI_at (by rw [yk.pl]; exact hi)), ?_⟩
    refine ⟨_, rfl, _, rfl, ra, _, _, _, rfl, rfl, SqT.of hra, atI_nat hbV, _, rfl, _, rfl, rb, b, p.rows[i], _, y, p.rows.length, rfl, hb2, ⟨pl, hl, cs, hb, hpl, hhl, hH⟩, w2, yk.hok, ?_, fun H1 s1 => ?_⟩
    · rw [yk.hl]
      exact g.ok _ (List.getElem_mem hi)
    refine ⟨_, rfl, b, _, _, _, rfl, rfl, SqT.of (s1 _ _ hb), at1, _, rfl, pl, _, _, _, rfl, rfl, SqT.of (s1 _ _ hpl), atI_nat (nI_at htl), _, rfl, b, _, _, _, rfl, rfl, SqT.of (s1 _ _ hb), at0, _, _, y.wide, rfl, hlt, _, rfl, _, _, rfl, rfl, ?_⟩
    have q := k H1 s1
    unfold costF at q
    rw [er] at q
    exact q
end
end DL
namespace DL
open PySem L2 DLR
/-! ### the goes of a run: each may be, each once; they agree; from row 0 they come to all rows gone from -/
def cntV (e : (Int × Int) × V) : Int := gcount (some e.2)
def sumBy (f : Int × Int → Bool) (g : GL) : Int := (g.map fun e => if f e.1 = true then cntV e else 0).sum
theorem sumBy_cons (f : Int × Int → Bool) (e : (Int × Int) × V) (g : GL) : sumBy f (e :: g) = (if f e.1 = true then cntV e else 0) + sumBy f g := by
  unfold sumBy
  rw [List.map_cons, List.sum_cons]
theorem sumBy_app (f : Int × Int → Bool) : ∀ (g h : GL), sumBy f (g ++ h) = sumBy f g + sumBy f h
  | [], h => by unfold sumBy; simp
  | e :: g, h => by
    rw [List.cons_append, sumBy_cons, sumBy_cons, sumBy_app f g h]
    omega
theorem put_in {g : GL} {q : Int × Int} {v : V} (h : q ∈ g.map (·.1)) : putK g q v = g.map fun x => if x.1 = q then (x.1, v) else x := by
  unfold putK
  rw [if_pos]
  obtain ⟨e, he, hq⟩ := List.mem_map.mp h
  exact List.any_eq_true.mpr ⟨e, he, decide_eq_true hq⟩
theorem put_out {g : GL} {q : Int × Int} {v : V} (h : q ∉ g.map (·.1)) : putK g q v = g ++ [(q, v)] := by
  unfold putK
  rw [if_neg]
  intro z
  obtain ⟨e, he, hq⟩ := List.any_eq_true.mp z
  exact h (List.mem_map.mpr ⟨e, he, of_decide_eq_true hq⟩)
theorem valV_no {g : GL} {q : Int × Int} (h : q ∉ g.map (·.1)) : valV g q = none := by
  cases e : valV g q with
  | none => rfl
  | some v =>
    exfalso
    have aux : ∀ g : GL, valV g q = some v → q ∈ g.map (·.1) := by
      intro g
      induction g with
      | nil => intro z; cases z
      | cons x g ih =>
        intro z
        by_cases c : x.1 = q
        · exact List.mem_map.mpr ⟨x, List.mem_cons_self, c⟩
        · rw [valV_neg c] at z
          obtain ⟨y, hy, hq⟩ := List.mem_map.mp (ih z)
          exact List.mem_map.mpr ⟨y, List.mem_cons_of_mem _ hy, hq⟩
    exact h (aux g e)
theorem map_same {g : GL} {q : Int × Int} {v : V} (h : q ∉ g.map (·.1)) : (g.map fun x => if x.1 = q then (x.1, v) else x) = g := by
  have : (g.map fun x => if x.1 = q then (x.1, v) else x) = g.map id := List.map_congr_left fun x hx => by
    rw [if_neg fun z => h (List.mem_map.mpr ⟨x, hx, z⟩)]
    rfl
  rw [this, List.map_id]
theorem sum_bump_in (f : Int × Int → Bool) {q : Int × Int} {c : Int} : ∀ {g : GL}, (g.map (·.1)).Nodup → valV g q = some (.int c) →
    sumBy f (g.map fun x => if x.1 = q then (x.1, V.int (c + 1)) else x) = sumBy f g + if f q = true then 1 else 0
  | [], _, h => by cases h
  | e :: g, nd, h => by
    have nd2 : e.1 ∉ g.map (·.1) ∧ (g.map (·.1)).Nodup := List.nodup_cons.mp nd
    by_cases z : e.1 = q
    · rw [valV_pos z] at h
      have hv : e.2 = .int c := Option.some.inj h
      rw [List.map_cons, sumBy_cons, sumBy_cons, if_pos z, map_same (by rw [← z]; exact nd2.1)]
      show (if f e.1 = true then c + 1 else 0) + sumBy f g = _
      have hc : cntV e = c := by unfold cntV; rw [hv]; rfl
      rw [hc, z]
      cases f q
      · simp
      · simp; omega
    · rw [valV_neg z] at h
      rw [List.map_cons, sumBy_cons, sumBy_cons, if_neg z, sum_bump_in f nd2.2 h]
      omega
theorem sum_bump (f : Int × Int → Bool) {g : GL} {q : Int × Int} (nd : (g.map (·.1)).Nodup) (ok : ∀ e ∈ g, ∃ c, e.2 = V.int c) : sumBy f (bump g q) = sumBy f g + if f q = true then 1 else 0 := by
  unfold bump
  by_cases h : q ∈ g.map (·.1)
  · rw [put_in h]
    exact sum_bump_in f nd (ggot ok h)
  · rw [put_out h, valV_no h, sumBy_app]
    unfold sumBy
    show _ + ((if f q = true then (0 : Int) + 1 else 0) + 0) = _
    cases f q <;> simp
theorem keys_bump {g : GL} {q : Int × Int} : (bump g q).map (·.1) = if q ∈ g.map (·.1) then g.map (·.1) else g.map (·.1) ++ [q] := by
  unfold bump
  by_cases h : q ∈ g.map (·.1)
  · rw [put_in h, if_pos h, List.map_map]
    refine List.map_congr_left fun x _ => ?_
    show (if x.1 = q then (x.1, _) else x).1 = x.1
    split <;> rfl
  · rw [put_out h, if_neg h, List.map_append]
    rfl
theorem mem_bump {g : GL} {q : Int × Int} {e : (Int × Int) × V} (h : e ∈ bump g q) : e ∈ g ∨ e = (q, .int (gcount (valV g q) + 1)) := by
  unfold bump at h
  by_cases z : q ∈ g.map (·.1)
  · rw [put_in z] at h
    obtain ⟨x, hx, rfl⟩ := List.mem_map.mp h
    by_cases c : x.1 = q
    · right; rw [if_pos c, c]
    · left; rw [if_neg c]; exact hx
  · rw [put_out z] at h
    rcases List.mem_append.mp h with q1 | q1
    · exact .inl q1
    · exact .inr (List.mem_singleton.mp q1)
def GoKey (p : Prog) (k : Nat) (e : (Int × Int) × V) : Prop := ∃ (b t : Nat) (c : Int), e = (((b : Int), (t : Int)), .int c) ∧ b < p.rows.length ∧ t ∈ tgt (p.rows.getD b .stop) ∧ 1 ≤ c ∧ c ≤ (k : Int)
def inF (x : Nat) (q : Int × Int) : Bool := decide (q.2 = (x : Int))
def outF (x : Nat) (q : Int × Int) : Bool := decide (q.1 = (x : Int))
structure GInv (p : Prog) (k : Nat) (s : RS) (cur : Nat) : Prop where
  at_ : s.here = some cur ∨ (s.here = none ∧ p.rows.getD cur .stop = .stop)
  key : ∀ e ∈ s.goes, GoKey p k e
  nd : (s.goes.map (·.1)).Nodup
  flow : ∀ x : Nat, sumBy (inF x) s.goes - sumBy (outF x) s.goes + (if x = 0 then 1 else 0) = if x = cur then 1 else 0
  reach : ∀ F : Nat → Prop, F 0 → (∀ q ∈ s.goes.map (·.1), F q.1.toNat → F q.2.toNat) → F cur ∧ ∀ q ∈ s.goes.map (·.1), F q.1.toNat
theorem tgt_step {m : Mach} {r : Row} {n : Nat} (h : (stepM m r).2 = some n) : n ∈ tgt r := by
  cases r with
  | load w k => have e : k = n := Option.some.inj h; subst e; exact List.mem_singleton.mpr rfl
  | add w k => have e : k = n := Option.some.inj h; subst e; exact List.mem_singleton.mpr rfl
  | take w k => have e : k = n := Option.some.inj h; subst e; exact List.mem_singleton.mpr rfl
  | store w k => have e : k = n := Option.some.inj h; subst e; exact List.mem_singleton.mpr rfl
  | say k => have e : k = n := Option.some.inj h; subst e; exact List.mem_singleton.mpr rfl
  | test a b =>
    have e : (if m.desk = 0 then a else b) = n := Option.some.inj h
    rw [tgt_mem, ← e]
    show (if m.desk = 0 then a else b) ∈ [a, b]
    split <;> simp
  | stop => cases h
theorem GoKey.mono {p : Prog} {k : Nat} {e : (Int × Int) × V} (h : GoKey p k e) : GoKey p (k + 1) e := by
  obtain ⟨b, t, c, h1, h2, h3, h4, h5⟩ := h
  exact ⟨b, t, c, h1, h2, h3, h4, by omega⟩
theorem runS_goE {p : Prog} {j r : Nat} (hh : (runS p j).here = some r) : runS p (j + 1) = ⟨(stepM (runS p j).m (p.rows.getD r .stop)).1, (runS p j).cnt.set r ((runS p j).cnt.getD r 0 + 1), goesOf (runS p j).goes r (stepM (runS p j).m (p.rows.getD r .stop)).2, (stepM (runS p j).m (p.rows.getD r .stop)).2⟩ := by
  show turnS p.rows (runS p j) = _
  unfold turnS
  rw [hh]
theorem runS_goes {p : Prog} (g : Good p) : ∀ k, ∃ cur, GInv p k (runS p k) cur
  | 0 => by
    refine ⟨0, .inl rfl, fun e h => absurd h (by simp [runS, startS]), List.nodup_nil, fun x => ?_, fun F h0 _ => ⟨h0, fun q h => absurd h (by simp [runS, startS])⟩⟩
    show (0 : Int) - 0 + _ = _
    omega
  | k + 1 => by
    obtain ⟨cur, I⟩ := runS_goes g k
    have O := runS_ok g k
    rcases I.at_ with hh | ⟨hn, hst⟩
    · have e := runS_goE hh
      have hr := O.here cur hh
      cases ho : (stepM (runS p k).m (p.rows.getD cur .stop)).2 with
      | none =>
        refine ⟨cur, .inr ⟨by rw [e, ho], ?_⟩, ?_, ?_, ?_, ?_⟩
        · cases hrow : p.rows.getD cur .stop with
          | stop => rfl
          | load _ _ => rw [hrow] at ho; cases ho
          | add _ _ => rw [hrow] at ho; cases ho
          | take _ _ => rw [hrow] at ho; cases ho
          | store _ _ => rw [hrow] at ho; cases ho
          | say _ => rw [hrow] at ho; cases ho
          | test _ _ => rw [hrow] at ho; cases ho
        all_goals (rw [e, ho])
        · exact fun x hx => (I.key x hx).mono
        · exact I.nd
        · exact I.flow
        · exact I.reach
      | some n =>
        have egoes : (runS p (k + 1)).goes = bump (runS p k).goes ((cur : Int), (n : Int)) := by rw [e, ho]; rfl
        refine ⟨n, .inl (by rw [e, ho]), ?_, ?_, ?_, ?_⟩
        all_goals (rw [egoes])
        · intro x hx
          rcases mem_bump hx with q | q
          · exact (I.key x q).mono
          · refine ⟨cur, n, _, q, hr, tgt_step ho, ?_, ?_⟩
            · cases hv : valV (runS p k).goes ((cur : Int), (n : Int)) with
              | none => decide
              | some v =>
                obtain ⟨y, hy, hy2⟩ := valV_mem hv
                obtain ⟨b, t, c, h1, h2, h3, h4, h5⟩ := I.key y hy
                rw [← hy2, h1]
                show 1 ≤ c + 1
                omega
            · cases hv : valV (runS p k).goes ((cur : Int), (n : Int)) with
              | none => show (0 : Int) + 1 ≤ _; omega
              | some v =>
                obtain ⟨y, hy, hy2⟩ := valV_mem hv
                obtain ⟨b, t, c, h1, h2, h3, h4, h5⟩ := I.key y hy
                rw [← hy2, h1]
                show c + 1 ≤ _
                omega
        · rw [keys_bump]
          split
          · exact I.nd
          · rename_i h
            exact List.nodup_append.mpr ⟨I.nd, by simp, fun a ha b hb z => h (by rw [← List.mem_singleton.mp hb, ← z]; exact ha)⟩
        · intro x
          rw [sum_bump _ I.nd O.gok, sum_bump _ I.nd O.gok]
          have fl := I.flow x
          unfold inF outF at *
          simp only [decide_eq_true_eq] at *
          by_cases c1 : n = x <;> by_cases c2 : cur = x <;> simp_all <;> omega
        · intro F h0 cl
          have hk : ∀ q ∈ (runS p k).goes.map (·.1), q ∈ (bump (runS p k).goes ((cur : Int), (n : Int))).map (·.1) := by
            intro q hq
            rw [keys_bump]
            split
            · exact hq
            · exact List.mem_append_left _ hq
          have hnew : ((cur : Int), (n : Int)) ∈ (bump (runS p k).goes ((cur : Int), (n : Int))).map (·.1) := by
            rw [keys_bump]
            split
            · assumption
            · exact List.mem_append_right _ (List.mem_singleton.mpr rfl)
          obtain ⟨r1, r2⟩ := I.reach F h0 fun q hq => cl q (hk q hq)
          refine ⟨cl _ hnew r1, fun q hq => ?_⟩
          rw [keys_bump] at hq
          split at hq
          · exact r2 q hq
          · rcases List.mem_append.mp hq with z | z
            · exact r2 q z
            · rw [List.mem_singleton.mp z]
              exact r1
    · have e : runS p (k + 1) = runS p k := by
        show turnS p.rows (runS p k) = _
        unfold turnS
        rw [hn]
      refine ⟨cur, ?_⟩
      rw [e]
      exact ⟨.inr ⟨hn, hst⟩, fun x hx => (I.key x hx).mono, I.nd, I.flow, I.reach⟩
end DL
namespace DL
open PySem L2 DLR
abbrev GoL := List ((Nat × Nat) × Int)
def goVs (e : (Nat × Nat) × Int) : List V := [nI e.1.1, nI e.1.2, .int e.2]
abbrev GoesAt (H : Hp) (bs : List Addr) (G : GoL) : Prop := Paired (fun b e => H b = some (.tup (goVs e))) bs G
theorem GoesAt.kp {H H' : Hp} {bs : List Addr} {G : GoL} (h : GoesAt H bs G) (k : Kp H H') : GoesAt H' bs G := Paired.mapP h fun b x e => k _ _ e
def sumG (f : Nat × Nat → Bool) (G : GoL) : Int := (G.map fun e => if f e.1 = true then e.2 else 0).sum
structure Goes (p : Prog) (G : GoL) : Prop where
  key : ∀ e ∈ G, e.1.1 < p.rows.length ∧ e.1.2 ∈ tgt (p.rows.getD e.1.1 .stop) ∧ 1 ≤ e.2 ∧ e.2 ≤ 5000
  nd : (G.map (·.1)).Nodup
  flow : ∀ x : Nat, p.rows.getD x .stop ≠ .stop → sumG (fun q => decide (q.2 = x)) G - sumG (fun q => decide (q.1 = x)) G + (if x = 0 then 1 else 0) = 0
  reach : ∀ F : Nat → Prop, F 0 → (∀ e ∈ G, F e.1.1 → F e.1.2) → ∀ e ∈ G, F e.1.1
theorem perm_sum {α : Type} {f : α → Int} {l m : List α} (h : l.Perm m) : (l.map f).sum = (m.map f).sum := by
  induction h with
  | nil => rfl
  | cons x _ ih => rw [List.map_cons, List.map_cons, List.sum_cons, List.sum_cons, ih]
  | swap x y l =>
    rw [List.map_cons, List.map_cons, List.map_cons, List.map_cons, List.sum_cons, List.sum_cons, List.sum_cons, List.sum_cons]
    omega
  | trans _ _ a b => rw [a, b]
theorem valV_at : ∀ {g : GL} {e : (Int × Int) × V}, (g.map (·.1)).Nodup → e ∈ g → valV g e.1 = some e.2
  | [], _, _, h => by cases h
  | x :: g, e, nd, h => by
    have nd2 : x.1 ∉ g.map (·.1) ∧ (g.map (·.1)).Nodup := List.nodup_cons.mp nd
    rcases List.mem_cons.mp h with q | q
    · subst q; exact valV_pos rfl
    · rw [valV_neg fun z => nd2.1 (List.mem_map.mpr ⟨e, q, z.symm⟩)]
      exact valV_at nd2.2 q
theorem sumBy_keys (f : Int × Int → Bool) {g : GL} (nd : (g.map (·.1)).Nodup) : sumBy f g = ((g.map (·.1)).map fun q => if f q = true then gcount (valV g q) else 0).sum := by
  unfold sumBy
  rw [List.map_map]
  congr 1
  refine List.map_congr_left fun e he => ?_
  show (if f e.1 = true then cntV e else 0) = if f e.1 = true then gcount (valV g e.1) else 0
  rw [valV_at nd he]
  rfl
def goOf (g : GL) (q : Int × Int) : (Nat × Nat) × Int := ((q.1.toNat, q.2.toNat), gcount (valV g q))
theorem Goes.of {p : Prog} {s : RS} {cur k : Nat} {L : List (Int × Int)} (hk : k ≤ 5000) (I : GInv p k s cur) (hn : s.here = none) (pm : L.Perm (s.goes.map (·.1))) : Goes p (L.map (goOf s.goes)) ∧ ∀ q ∈ L, goVs (goOf s.goes q) = [.int q.1, .int q.2, .int (gcount (valV s.goes q))] := by
  have kq : ∀ q ∈ L, ∃ (b t : Nat) (c : Int), q = ((b : Int), (t : Int)) ∧ b < p.rows.length ∧ t ∈ tgt (p.rows.getD b .stop) ∧ 1 ≤ c ∧ c ≤ (k : Int) ∧ gcount (valV s.goes q) = c := by
    intro q hq
    obtain ⟨e, he, rfl⟩ := List.mem_map.mp (pm.mem_iff.mp hq)
    obtain ⟨b, t, c, h1, h2, h3, h4, h5⟩ := I.key e he
    refine ⟨b, t, c, by rw [h1], h2, h3, h4, h5, ?_⟩
    rw [valV_at I.nd he, h1]
    rfl
  have hst : p.rows.getD cur .stop = .stop := by
    rcases I.at_ with h | h
    · rw [hn] at h; cases h
    · exact h.2
  have sums : ∀ (f : Nat × Nat → Bool) (f' : Int × Int → Bool), (∀ q ∈ L, f (q.1.toNat, q.2.toNat) = f' q) → sumG f (L.map (goOf s.goes)) = sumBy f' s.goes := by
    intro f f' hf
    rw [sumBy_keys f' I.nd, ← perm_sum pm]
    unfold sumG
    rw [List.map_map]
    congr 1
    refine List.map_congr_left fun q hq => ?_
    show (if f (q.1.toNat, q.2.toNat) = true then gcount (valV s.goes q) else 0) = _
    rw [hf q hq]
  refine ⟨⟨fun e he => ?_, ?_, fun x hx => ?_, fun F h0 cl e he => ?_⟩, fun q hq => ?_⟩
  · obtain ⟨q, hq, rfl⟩ := List.mem_map.mp he
    obtain ⟨b, t, c, rfl, h2, h3, h4, h5, h6⟩ := kq q hq
    refine ⟨h2, h3, ?_, ?_⟩
    · show 1 ≤ gcount _; omega
    · show gcount _ ≤ 5000; omega
  · rw [List.map_map]
    have nd := pm.nodup_iff.mpr I.nd
    refine List.pairwise_map.mpr (nd.imp_of_mem fun {a b} ha hb ne z => ne ?_)
    obtain ⟨b1, t1, c1, rfl, _⟩ := kq a ha
    obtain ⟨b2, t2, c2, rfl, _⟩ := kq b hb
    have z1 : b1 = b2 := congrArg Prod.fst z
    have z2 : t1 = t2 := congrArg Prod.snd z
    rw [z1, z2]
  · have fl := I.flow x
    rw [if_neg (show ¬ x = cur from fun z => hx (by rw [z]; exact hst))] at fl
    have sa := sums (fun q => decide (q.2 = x)) (inF x) fun q hq => by
      obtain ⟨b, t, c, rfl, _⟩ := kq q hq
      show decide (t = x) = decide ((t : Int) = (x : Int))
      exact decide_eq_decide.mpr (by omega)
    have sb := sums (fun q => decide (q.1 = x)) (outF x) fun q hq => by
      obtain ⟨b, t, c, rfl, _⟩ := kq q hq
      show decide (b = x) = decide ((b : Int) = (x : Int))
      exact decide_eq_decide.mpr (by omega)
    rw [sa, sb]
    exact fl
  · obtain ⟨q, hq, rfl⟩ := List.mem_map.mp he
    refine (I.reach F h0 fun z hz => ?_).2 q (pm.mem_iff.mp hq)
    exact cl (goOf s.goes z) (List.mem_map.mpr ⟨z, pm.mem_iff.mpr hz, rfl⟩)
  · obtain ⟨b, t, c, rfl, _⟩ := kq q hq
    rfl
def beatsF (y : Lay) (rows : List Row) (G : GoL) : Int := ((y.places.getD 0 0 : Nat) : Int) + 1 + (G.map fun e => e.2 * costF y rows e.1.1 e.1.2).sum
abbrev sLNexts : Stmt := top 64
abbrev FLNexts (K : Frg) (mg : Str → Option Value) := Fd K mg "_law_nexts" sLNexts ["_law_row"]
def spLNexts : Sp := fun vs H Q _ => ∃ (a : Addr) (r : Row), vs = [.ref a] ∧ H a = some (.tup (rowVs r)) ∧ ∀ l H', Same1 H H' → H l = none → H' l = some (.lst ((tgt r).map nI)) → Q (.ref l) H'
theorem goesN_has {p : Prog} {u v : Nat} (h1 : u < p.rows.length) (h2 : v ∈ tgt (p.rows.getD u .stop)) : (u, v) ∈ goesN p.rows p.rows.length :=
  List.mem_flatMap.mpr ⟨u, List.mem_range.mpr h1, List.mem_map.mpr ⟨v, h2, rfl⟩⟩
theorem last_row (r : Row) : (if r.isWd "test" = true then (rowVs r).drop 1 else cutV (rowVs r) (some (-1)) none) = if r.isWd "stop" = true then cutV (rowVs r) (some (-1)) none else (nx r).map nI := by
  rw [(Row.wd_eq r).1, (Row.wd_eq r).2.2.2]
  cases r <;> rfl
section
variable {P : Program} {w : World} {K : PySem.W.Frag} {mg : Str → Option Value} {base : Heap}
theorem scLNexts : FnScope ["_law_row"] ["_law_row"] (defScope sLNexts) := ⟨rfl, rfl, rfl, by decide +kernel, rfl, by decide +kernel, by decide +kernel⟩
theorem ok_lnexts (c : FLNexts K mg) (T : Bt mg) (TS : Bs mg) : FnOk P w K mg base CX0 1 c.f c.fd ["_law_row"] spLNexts := by
  refine c.F.ok scLNexts (fun vs H Q E h => ?_) (fun cdv A outer s H vs Q E hr h => ?_)
  · obtain ⟨a, r, rfl, _⟩ := h
    rfl
  · obtain ⟨a, r, rfl, ha, k⟩ := h
    refine ⟨_, (pss_one (ps_ret (pe_ifExp (pt_cmpR op_ne (pe_ix ix_tup (pv 0) pe_int (fun _ _ => rfl)) pe_str (nomark _)) (pe_callB (cr_sortedSet rfl) (by rfl) T.sorted (by decide +kernel) (pa_cons (pe_callTy (cr_setT rfl) (by rfl) TS.set (by decide +kernel) (pa_cons (pe_ifExp (pt_cmpR op_eq (pe_ix ix_tup (pv 0) pe_int (fun _ _ => rfl)) pe_str (nomark _)) (pe_slice sl_tupS (pv 0) (po_some pe_int) po_none) (pe_slice sl_tupS (pv 0) (po_some (pe_un un_neg pe_int)) po_none)) pa_nil)) pa_nil)) (pe_lst pa_nil)))), ?_⟩
    have lr := last_row r
    refine ⟨_, rfl, a, _, _, _, rfl, rfl, SqT.of ha, atI_nat (j := 0) (Row.w0 r), rfl, !r.isWd "stop", rfl, ?_⟩
    cases hs : r.isWd "stop" with
    | true =>
      refine iteF ⟨Nat.zero_le _, fun l hl => ?_⟩
      have e : r = .stop := by
        have w4 := (Row.wd_eq r).2.2.2
        rw [hs] at w4
        cases r <;> first | rfl | cases w4
      subst e
      exact k l _ (Same.new hl) hl upd_same
    | false =>
      rw [hs, if_neg (show ¬ false = true by decide)] at lr
      refine iteT ?_
      have fin : ∀ (t : Addr) (H1 : Hp), Same1 H H1 → H1 t = some (.tup ((nx r).map nI)) → rSetT K w [V.ref t] H1 fun x H2 => rSortedSet w [x] H2 Q := by
        intro t H1 s1 e1
        rw [nI_ints] at e1
        have hnl := nx_len r
        refine ⟨t, _, rfl, SqT.of e1, by rw [List.length_map]; omega, fun sp c hc hsp => ?_⟩
        rw [List.length_map] at hc
        refine alloc hsp fun H5 s5 e5 => ?_
        refine ⟨sp, _, c, rfl, e5, by omega, fun ms q up mem len hq => ?_⟩
        have em := tgt_of up mem
        refine alloc hq fun H6 s6 e6 => ?_
        rw [em, ← nI_ints] at e6
        exact k q H6 ((s1.trans s5).trans s6) ((s1.trans s5).free hq) e6
      refine ⟨_, rfl, a, _, _, _, rfl, rfl, SqT.of ha, atI_nat (j := 0) (Row.w0 r), rfl, r.isWd "test", rfl, ?_⟩
      cases ht : r.isWd "test" with
      | true =>
        rw [ht, if_pos rfl] at lr
        refine iteT ⟨_, rfl, _, rfl, a, _, rfl, ha, fun t H' s' h' => fin t H' s' ?_⟩
        rw [h', ← lr]
        exact congrArg (fun z => some (HO.tup z)) (dropn 1)
      | false =>
        rw [ht, if_neg (show ¬ false = true by decide)] at lr
        refine iteF ⟨_, rfl, _, rfl, _, rfl, a, _, rfl, ha, fun t H' s' h' => fin t H' s' ?_⟩
        rw [h', ← lr]
end
end DL
namespace DLR
open PySem PySem.Spec PyProof.Rows L2
/-! ### how often a truth stands in a list; what is never asked -/
def rCntB (K : PySem.W.Frag) : V → List V → Hp → VK → Prop := fun x xs H Q => ∃ (p : Addr) (bs : List Bool) (b : Bool), x = .ref p ∧ xs = [.bl b] ∧ SqL K H p (bs.map V.bl) ∧ Q (.int (bs.count b : Nat)) H
theorem flat_bl : ∀ bs : List Bool, (bs.map V.bl).all flatV = true
  | [] => rfl
  | _ :: bs => flat_bl bs
theorem count_bl (b : Bool) : ∀ {bs : List Bool} {us : List Value}, Vals (bs.map V.bl) us → us.countP (eqU (.bl b)) = bs.count b
  | [], _, .nil => rfl
  | c :: bs, u :: us, .cons r t => by
    rw [List.countP_cons, count_bl b t, eqU_of r rfl, List.count_cons]
    rfl
section
variable {X : Cx}
theorem mt_countB : MtR X "list.count" (rCntB X.K) := by
  intro pins s σ H x xs v us Q I rx rxs h
  obtain ⟨p, bs, b, rfl, rfl, hs, q⟩ := h
  cases rx
  obtain ⟨u, rfl, ru⟩ := rxs.one
  obtain ⟨its, rv, ⟨⟨cls, dd, data, sl⟩, n, ho, hc, hdn, hd⟩, hlen⟩ := I.list hs
  simp only at hc hd
  subst hc hd
  refine call_meets PySem.F.slot_list_count ⟨_, ho, rfl⟩ PySem.F.entry_list_count (PySem.F.args_list_count_2 _ _)
    (SeqAt.list_countAt p its.toArray n dd sl u (eqU (.bl b))) ⟨ho, fun y hy => mem_eqAt ru rfl rv (flat_bl bs) y (by simpa using hy), ?_⟩
  refine ⟨.int (bs.count b : Nat), H, I.tok _, ⟨s.toks, ?_⟩, q⟩
  show Value.int ((its.toArray.toList.countP (eqU (.bl b)) : Nat) : Int) s.toks = Value.int ((bs.count b : Nat) : Int) s.toks
  rw [show its.toArray.toList = its from rfl, count_bl b rv]
def tNo : TE := fun _ _ _ => False
theorem pe_no {e : Expr} : PE X e tNo := ⟨fun _ _ _ _ _ _ h => h.elim⟩
end
end DLR
namespace DL
open PySem L2 DLR LamX
/-! ### what a work told, or as what it was refused -/
structure Er (mg : Str → Option Value) where
  BP : Addr
  BL : Addr
  BF : Addr
  BG : Addr
  BE : Addr
  TM : Addr
  OV : Addr
  BT : Addr
  DE : Addr
  mBP : mg "BadProgram" = some (.ref BP)
  mBL : mg "BadLaying" = some (.ref BL)
  mBF : mg "BadFuel" = some (.ref BF)
  mBG : mg "BadGoes" = some (.ref BG)
  mBE : mg "BadPaper" = some (.ref BE)
  mTM : mg "TooMany" = some (.ref TM)
  mOV : mg "Over" = some (.ref OV)
  mBT : mg "BadText" = some (.ref BT)
  mDE : mg "DrumError" = some (.ref DE)
  VE : mg "ValueError" = none
def wordJ : Nat → Str
  | 0 => "program"
  | 1 => "laying"
  | 2 => "fuel"
  | 3 => "goes"
  | 4 => "paper"
  | 5 => "many"
  | 6 => "over"
  | _ => "text"
structure Knd (K : Frg) {mg : Str → Option Value} (E : Er mg) (D : Addr) (j : Nat) : Prop where
  ex : ExcC K D
  one : PySem.W.exmOne K (.ref D) (.ref E.DE) = some true
  ve : PySem.W.kitOne K (.ref D) (.type "ValueError") = some true
  k0 : PySem.W.kitOne K (.ref D) (.ref E.BP) = some (decide (0 = j))
  k1 : PySem.W.kitOne K (.ref D) (.ref E.BL) = some (decide (1 = j))
  k2 : PySem.W.kitOne K (.ref D) (.ref E.BF) = some (decide (2 = j))
  k3 : PySem.W.kitOne K (.ref D) (.ref E.BG) = some (decide (3 = j))
  k4 : PySem.W.kitOne K (.ref D) (.ref E.BE) = some (decide (4 = j))
  k5 : PySem.W.kitOne K (.ref D) (.ref E.TM) = some (decide (5 = j))
  k6 : PySem.W.kitOne K (.ref D) (.ref E.OV) = some (decide (6 = j))
  k7 : PySem.W.kitOne K (.ref D) (.ref E.BT) = some (decide (7 = j))
  j : j = 2 ∨ j = 3 ∨ j = 5 ∨ j = 6
abbrev sTold : Stmt := top 66
abbrev nTold : List Str := ["_law_work_here", "e", "_law_kinds", "_law_word"]
theorem scTold : FnScope nTold ["_law_work_here"] (defScope sTold) := ⟨rfl, rfl, rfl, by decide +kernel, rfl, by decide +kernel, by decide +kernel⟩
def suiteOf : Stmt → List Stmt
  | .Try _ [.ExceptHandler _ _ b _] _ _ _ => b
  | _ => []
abbrev toldSuite : List Stmt := suiteOf ((defBody sTold).getD 0 (.Pass ⟨0, 0, 0, 0⟩))
theorem at_kinds {j : Nat} (h : j = 2 ∨ j = 3 ∨ j = 5 ∨ j = 6) : ([decide (0 = j), decide (1 = j), decide (2 = j), decide (3 = j)] ++ [decide (4 = j), decide (5 = j), decide (6 = j), decide (7 = j)]).count true = 1 ∧
    atI [V.str "program", V.str "laying", V.str "fuel", V.str "goes", V.str "paper", V.str "many", V.str "over", V.str "text"] (j : Int) = some (.str (wordJ j)) ∧
    ((([decide (0 = j), decide (1 = j), decide (2 = j), decide (3 = j)] ++ [decide (4 = j), decide (5 = j), decide (6 = j), decide (7 = j)] : List Bool).map V.bl)[j]? = some (.bl true)) ∧
    (∀ (m : Nat) (z' : V), m < j → (([decide (0 = j), decide (1 = j), decide (2 = j), decide (3 = j)] ++ [decide (4 = j), decide (5 = j), decide (6 = j), decide (7 = j)] : List Bool).map V.bl)[m]? = some z' → eqV z' (.bl true) = false) ∧
    decide (V.str (wordJ j) = V.str "program") = false ∧ decide (V.str (wordJ j) = V.str "laying") = false ∧ decide (V.str (wordJ j) = V.str "paper") = false ∧ decide (V.str (wordJ j) = V.str "text") = false := by
  have low : ∀ {l : List V} {j : Nat}, (∀ i, i < j → ∃ z, l[i]? = some z ∧ eqV z (.bl true) = false) → ∀ (m : Nat) (z' : V), m < j → l[m]? = some z' → eqV z' (.bl true) = false := by
    intro l j h m z' hm e
    obtain ⟨z, h1, h2⟩ := h m hm
    rw [h1] at e
    rw [← Option.some.inj e]
    exact h2
  rcases h with rfl | rfl | rfl | rfl
  · refine ⟨by decide +kernel, rfl, rfl, low fun i hi => ?_, by decide +kernel, by decide +kernel, by decide +kernel, by decide +kernel⟩
    match i, hi with
    | 0, _ => exact ⟨_, rfl, rfl⟩
    | 1, _ => exact ⟨_, rfl, rfl⟩
  · refine ⟨by decide +kernel, rfl, rfl, low fun i hi => ?_, by decide +kernel, by decide +kernel, by decide +kernel, by decide +kernel⟩
    match i, hi with
    | 0, _ => exact ⟨_, rfl, rfl⟩
    | 1, _ => exact ⟨_, rfl, rfl⟩
    | 2, _ => exact ⟨_, rfl, rfl⟩
  · refine ⟨by decide +kernel, rfl, rfl, low fun i hi => ?_, by decide +kernel, by decide +kernel, by decide +kernel, by decide +kernel⟩
    match i, hi with
    | 0, _ => exact ⟨_, rfl, rfl⟩
    | 1, _ => exact ⟨_, rfl, rfl⟩
    | 2, _ => exact ⟨_, rfl, rfl⟩
    | 3, _ => exact ⟨_, rfl, rfl⟩
    | 4, _ => exact ⟨_, rfl, rfl⟩
  · refine ⟨by decide +kernel, rfl, rfl, low fun i hi => ?_, by decide +kernel, by decide +kernel, by decide +kernel, by decide +kernel⟩
    match i, hi with
    | 0, _ => exact ⟨_, rfl, rfl⟩
    | 1, _ => exact ⟨_, rfl, rfl⟩
    | 2, _ => exact ⟨_, rfl, rfl⟩
    | 3, _ => exact ⟨_, rfl, rfl⟩
    | 4, _ => exact ⟨_, rfl, rfl⟩
    | 5, _ => exact ⟨_, rfl, rfl⟩
theorem relRef {C : Addr} : ∀ u, RelV (.ref C) u → u = .ref C := fun u h => by cases h; rfl
theorem relTy {C : String} : ∀ u, RelV (.ty C) u → u = .type C := fun u h => by cases h; rfl
section
variable {X : Cx}
theorem told_suite (E : Er X.mg) (T : Bt X.mg) {g : Addr} {cdg : Value} {s : Shared} {H0 : Hp} {CX : CXT} {E0 : XK} {j : Nat} {D a : Addr} {oe : Obj} {pn : List (Addr × Obj)} (kn : Knd X.K E D j) (hz : Zc (.ref D) none oe) (hf : ∃ vs, oe.data = .fields vs) :
    ∃ t, PSs ((cxOf CX X.prog X.w X.K X.mg X.base nTold "_law_told" (defScope sTold) g cdg X.A X.stack s H0 E0).nox.suite a ((a, oe) :: pn)) toldSuite t ∧
      ∀ (D : Ends) (σ : L2.St) (H : Hp), σ.length = 4 → σ[1]? = some (some (.ref a)) → (∀ t' H', Same1 H H' → H' t' = some (.tup [.str (wordJ j)]) → D.rt (.ref t') H') → t D σ H := by
  refine ⟨_, (pss_cons (ps_set (i := 2) scTold.nd rfl (Or.inl rfl) (pe_lst (pa_cons (pe_callB (call_isE kn.ex hz hf) (by rfl) T.isinstance (by decide +kernel) (pa_cons (pv 1) (pa_cons (pe_glob (v := .ref E.BP) rfl E.mBP rfl) pa_nil))) (pa_cons (pe_callB (call_isE kn.ex hz hf) (by rfl) T.isinstance (by decide +kernel) (pa_cons (pv 1) (pa_cons (pe_glob (v := .ref E.BL) rfl E.mBL rfl) pa_nil))) (pa_cons (pe_callB (call_isE kn.ex hz hf) (by rfl) T.isinstance (by decide +kernel) (pa_cons (pv 1) (pa_cons (pe_glob (v := .ref E.BF) rfl E.mBF rfl) pa_nil))) (pa_cons (pe_callB (call_isE kn.ex hz hf) (by rfl) T.isinstance (by decide +kernel) (pa_cons (pv 1) (pa_cons (pe_glob (v := .ref E.BG) rfl E.mBG rfl) pa_nil))) pa_nil))))))
      (pss_cons (ps_set (i := 2) scTold.nd rfl (Or.inl rfl) (pe_op op_cat (pv 2) (pe_lst (pa_cons (pe_callB (call_isE kn.ex hz hf) (by rfl) T.isinstance (by decide +kernel) (pa_cons (pv 1) (pa_cons (pe_glob (v := .ref E.BE) rfl E.mBE rfl) pa_nil))) (pa_cons (pe_callB (call_isE kn.ex hz hf) (by rfl) T.isinstance (by decide +kernel) (pa_cons (pv 1) (pa_cons (pe_glob (v := .ref E.TM) rfl E.mTM rfl) pa_nil))) (pa_cons (pe_callB (call_isE kn.ex hz hf) (by rfl) T.isinstance (by decide +kernel) (pa_cons (pv 1) (pa_cons (pe_glob (v := .ref E.OV) rfl E.mOV rfl) pa_nil))) (pa_cons (pe_callB (call_isE kn.ex hz hf) (by rfl) T.isinstance (by decide +kernel) (pa_cons (pv 1) (pa_cons (pe_glob (v := .ref E.BT) rfl E.mBT rfl) pa_nil))) pa_nil)))))))
      (pss_cons (ps_if (PW.pt (pw_or (pt_cmpR op_ne (pe_bm PySem.F.plainAttrs_list PySem.F.slot_list_count PySem.F.type_list_count mt_countB (pv 2) (pa_cons pe_bl pa_nil)) pe_int (nomark _)) (pw_or1 (pt_not (pt_val (pe_callB (call_isE kn.ex hz hf) (by rfl) T.isinstance (by decide +kernel) (pa_cons (pv 1) (pa_cons (pe_bltn (v := .ty "ValueError") (by rfl) E.VE (by decide +kernel) rfl) pa_nil))))))))
          (pss_one ps_never)
          pss_nil)
      (pss_cons (ps_set (i := 3) scTold.nd rfl (Or.inl rfl) (pe_ix ix_list (pe_lst (pa_cons pe_str (pa_cons pe_str (pa_cons pe_str (pa_cons pe_str (pa_cons pe_str (pa_cons pe_str (pa_cons pe_str (pa_cons pe_str pa_nil))))))))) (pe_bm PySem.F.plainAttrs_list PySem.F.slot_list_index PySem.F.type_list_index mt_index (pv 2) (pa_cons pe_bl pa_nil)) (fun _ _ => rfl)))
      (pss_cons (ps_if (pt_cmpR op_eq (pv 3) pe_str (nomark _))
          (pss_one ps_never)
          pss_nil)
      (pss_cons (ps_if (pt_cmpR op_eq (pv 3) pe_str (nomark _))
          (pss_one ps_never)
          pss_nil)
      (pss_cons (ps_if (pt_cmpR op_eq (pv 3) pe_str (nomark _))
          (pss_one ps_never)
          pss_nil)
      (pss_one (ps_ret (pe_ifExp (pt_cmpR op_eq (pv 3) pe_str (nomark _)) pe_no (pe_tup (pa_cons (pv 3) pa_nil)))))))))))), ?_⟩
  intro D' σ H hl h1 hq
  obtain ⟨x0, x1, x2, x3, rfl⟩ : ∃ x0 x1 x2 x3, σ = [x0, x1, x2, x3] := by
    match σ, hl with
    | [x0, x1, x2, x3], _ => exact ⟨x0, x1, x2, x3, rfl⟩
  have h1 : x1 = some (.ref a) := Option.some.inj h1
  subst h1
  obtain ⟨q1, q2, q3, q4, q5, q6, q7, q8⟩ := at_kinds kn.j
  refine ⟨_, rfl, .ref E.BP, .ref E.BP, _, rfl, relRef, kn.k0, _, rfl, .ref E.BL, .ref E.BL, _, rfl, relRef, kn.k1, _, rfl, .ref E.BF, .ref E.BF, _, rfl, relRef, kn.k2, _, rfl, .ref E.BG, .ref E.BG, _, rfl, relRef, kn.k3, (by show 4 ≤ sizeLine; decide), fun l1 hl1 => ?_⟩
  refine alloc hl1 fun H1 s1 e1 => ?_
  refine ⟨_, rfl, _, rfl, .ref E.BE, .ref E.BE, _, rfl, relRef, kn.k4, _, rfl, .ref E.TM, .ref E.TM, _, rfl, relRef, kn.k5, _, rfl, .ref E.OV, .ref E.OV, _, rfl, relRef, kn.k6, _, rfl, .ref E.BT, .ref E.BT, _, rfl, relRef, kn.k7, (by show 4 ≤ sizeLine; decide), fun l2 hl2 => ?_⟩
  refine alloc hl2 fun H2 s2 e2 => ?_
  refine ⟨l1, l2, _, _, rfl, rfl, s2 _ _ e1, e2, (by show 8 ≤ sizeLine; decide), fun l3 hl3 => ?_⟩
  refine alloc hl3 fun H3 s3 e3 => ?_
  have e3 : H3 l3 = some (.lst (([decide (0 = j), decide (1 = j), decide (2 = j), decide (3 = j)] ++ [decide (4 = j), decide (5 = j), decide (6 = j), decide (7 = j)] : List Bool).map V.bl)) := e3
  generalize hk : ([decide (0 = j), decide (1 = j), decide (2 = j), decide (3 = j)] ++ [decide (4 = j), decide (5 = j), decide (6 = j), decide (7 = j)] : List Bool) = ks at q1 q3 q4 e3
  refine ⟨_, rfl, .inl ⟨rfl, _, SqL.of e3⟩, l3, ks, true, rfl, rfl, SqL.of e3, ?_⟩
  rw [q1]
  refine ⟨rfl, _, rfl, ?_⟩
  rw [show (!decide (V.int ((1 : Nat) : Int) = V.int 1)) = false by decide +kernel]
  refine iteF ⟨_, rfl, .ty "ValueError", .type "ValueError", true, rfl, relTy, kn.ve, _, rfl, ?_⟩
  refine iteF ?_
  refine ⟨(by show 8 ≤ sizeLine; decide), fun l4 hl4 => ?_⟩
  refine alloc hl4 fun H4 s4 e4 => ?_
  refine ⟨_, rfl, .inl ⟨rfl, _, SqL.of (s4 _ _ e3)⟩, l3, _, _, j, _, rfl, rfl, SqL.of (s4 _ _ e3), rfl, flat_bl ks, q3, rfl, q4, ?_⟩
  refine ⟨l4, _, _, _, rfl, rfl, SqL.of e4, q2, ?_⟩
  refine ⟨_, rfl, rfl, _, rfl, ?_⟩
  rw [q5]
  refine iteF ⟨_, rfl, rfl, _, rfl, ?_⟩
  rw [q6]
  refine iteF ⟨_, rfl, rfl, _, rfl, ?_⟩
  rw [q7]
  refine iteF ⟨_, rfl, rfl, _, rfl, ?_⟩
  rw [q8]
  refine iteF ⟨_, rfl, (by show 1 ≤ sizeLine; decide), fun t ht => ?_⟩
  refine alloc ht fun H5 s5 e5 => ?_
  exact hq t H5 ((((s1.trans s2).trans s3).trans s4).trans s5) e5
end
end DL
namespace DL
open PySem PySem.Spec PyProof.Rows L2 DLR LamX
def TTd (K : Frg) {mg : Str → Option Value} (E : Er mg) : (XK → Hp → VK → Prop) → Hp → VK → Prop := fun tl H Q =>
  tl (fun cls d H' => ∃ (D : Addr) (j : Nat), Knd K E D j ∧ cls = .ref D ∧ d = none ∧ ∀ t H'', Same1 H' H'' → H'' t = some (.tup [.str (wordJ j)]) → Q (.ref t) H'') H Q
section
variable {X : Cx}
def tsTold (K : Frg) {mg : Str → Option Value} (E : Er mg) : Addr → Value → Option Addr → TS := fun a cls d D σ H =>
  σ.length = 4 → σ[1]? = some (some (.ref a)) ∧ ∃ (D0 : Addr) (j : Nat), Knd K E D0 j ∧ cls = .ref D0 ∧ d = none ∧ ∀ t H'', Same1 H H'' → H'' t = some (.tup [.str (wordJ j)]) → D.rt (.ref t) H''
theorem told_ok (E : Er X.mg) (T : Bt X.mg) {g : Addr} {cdg : Value} {q : Str} : GivesTo X nTold "_law_told" (defScope sTold) g cdg (defBody sTold) "_law_work_here" q (TTd X.K E) := by
  intro f c' s H Q tl act hc h
  refine ⟨_, pss_one (ps_try_as (X := (cxOf C8.CX0 X.prog X.w X.K X.mg X.base nTold "_law_told" (defScope sTold) g cdg X.A X.stack s H C8.E0).nox) (c := .ref E.DE) (i := 1)
      (tb := fun W D σ H => ∃ Ech : XK, (∀ cls d σ' H', Ech cls d H' → W cls d σ' H') ∧ σ[0]? = some (some (.ref f)) ∧ H c' = some (CodeO c' q) ∧ tl Ech H D.rt)
      (ts := tsTold X.K E) rfl rfl scTold.nd rfl rfl ⟨by rfl, by decide, .inl E.mDE⟩ LamX.takes0 (fun W pn xe tk _ => ?_) (fun a oe cls d pn hz hf => ?_)), ?_⟩
  · refine ⟨fun pins s' σ H' D I h' => ?_⟩
    obtain ⟨Ech, hW, h1, h2, h3⟩ := h'
    exact (pss_one (ps_ret (act W pn xe Ech _ _ tk hW))).run pins s' σ H' D I ⟨h1, h2, h3⟩
  · refine ⟨fun pins s' σ H' D I h' => ?_⟩
    have hl : σ.length = 4 := I.len
    obtain ⟨h1, D0, j, kn, rfl, rfl, hq⟩ := h' hl
    obtain ⟨t, ht, hr⟩ := told_suite (X := X) (g := g) (cdg := cdg) (s := s) (H0 := H) (CX := C8.CX0) (E0 := C8.E0) (a := a) (pn := pn) E T kn hz hf
    exact ht.run pins s' σ H' D I (hr D σ H' hl h1 hq)
  · refine ⟨fun cls d H' => ∃ (D : Addr) (j : Nat), Knd X.K E D j ∧ cls = .ref D ∧ d = none ∧ ∀ t H'', Same1 H' H'' → H'' t = some (.tup [.str (wordJ j)]) → Q (.ref t) H'', ?_, rfl, hc, h⟩
    rintro cls d σ' H' ⟨D, j, kn, rfl, rfl, hq⟩
    refine ⟨true, kn.one, fun _ a ha => ?_, fun z => by cases z⟩
    intro hl
    rw [List.length_set] at hl
    refine ⟨?_, D, j, kn, rfl, rfl, hq⟩
    rw [List.getElem?_set_self (by omega)]
end
structure OvK (K : Frg) (D : Addr) : Prop where
  x : PySem.W.excIn K D [.type "ValueError", .type "Exception", .type "BaseException", .type "object"] "ValueError.__new__" = true
  k : PySem.W.keepIn K (.ref D) = true
  b : PySem.W.subIn K (.ref D) (.type "BaseException") = some true
  t : PySem.W.typeIn K (.ref D) = some (.type "type")
end DL
namespace DLR
open PySem PySem.Spec PyProof.Rows L2 LamX
/-! ### a lambda as a value: with or without one default, kept in lists, called later by a def that gets it -/
abbrev lamFd (q : Str) (ps : Arguments) (b : Expr) (sc : Scope) (cl : List (Str × Addr)) (dV doc pm cdv ct : Value) : FuncData := PySem.W.kdv_fn "<lambda>" q ps (.expr b) sc cl dV doc pm cdv ct
abbrev lamOb (q : Str) (ps : Arguments) (b : Expr) (sc : Scope) (cl : List (Str × Addr)) (dV doc pm : Value) (c' : Addr) (ct : Value) : Obj := PySem.W.kdv_obj "<lambda>" q ps (.expr b) sc cl dV doc pm c' ct
def LamO (f : Addr) (o : Obj) : HO := .ext fun h => h.get? f = some o
theorem lamO_ne {f : Addr} {o : Obj} (ps : Array Value) : LamO f o ≠ .tbl ps := fun z => by
  unfold LamO at z
  cases z
section
variable {X : Cx} {pins : List (Addr × Obj)} {σ : L2.St} {H : Hp} {s : Shared}
theorem tabs_more {T : List (Addr × Str)} {P c' : Addr} {q : Str} {pos : Pos} {ps : Array Value} (hT : Tabs T H) (hP : H P = some (.tbl ps)) (ht : TriplesOk ps.toList) (hu : ∀ p ∈ T, p.1 = P → p.2 = q)
    (ha : ∀ (pos : Pos) (cv : Value), codeAmong pos ps.toList = some cv → ∃ c, cv = .ref c ∧ H c = some (CodeO c q)) (nC : H c' = none) :
    ExtN H (upd (upd H P (.tbl (ps ++ #[rawInt pos.line, rawInt pos.col, .ref c']))) c' (CodeO c' q)) ∧ Tabs T (upd (upd H P (.tbl (ps ++ #[rawInt pos.line, rawInt pos.col, .ref c']))) c' (CodeO c' q)) := by
  have nPc : P ≠ c' := ne_of_none hP nC
  have ext : ExtN H (upd (upd H P (.tbl (ps ++ #[rawInt pos.line, rawInt pos.col, .ref c']))) c' (CodeO c' q)) := fun b o e n => by
    have n1 : b ≠ c' := ne_of_none e nC
    have n2 : b ≠ P := fun z => by
      subst z
      exact n ps (Option.some.inj (e.symm.trans hP))
    rw [upd_ne n1, upd_ne n2, e]
  refine ⟨ext, fun p hp => ?_⟩
  have eL : (ps ++ #[rawInt pos.line, rawInt pos.col, .ref c']).toList = ps.toList ++ [rawInt pos.line, rawInt pos.col, .ref c'] := by simp
  by_cases hb : p.1 = P
  · refine ⟨ps ++ #[rawInt pos.line, rawInt pos.col, .ref c'], ?_, ?_, fun p' cv hcv => ?_⟩
    · rw [hb, upd_ne nPc, upd_same]
    · rw [eL]
      exact PySem.TriplesOk_snoc _ _ _ _ ht
    · rw [eL] at hcv
      rw [hu p hp hb]
      rcases among_app _ ht hcv with z | rfl
      · obtain ⟨c0, rfl, e2⟩ := ha p' cv z
        exact ⟨c0, rfl, ext _ _ e2 codeO_ne⟩
      · exact ⟨c', rfl, upd_same⟩
  · obtain ⟨ps', a1, a2, a3⟩ := hT p hp
    refine ⟨ps', ?_, a2, fun p' cv hcv => ?_⟩
    · rw [upd_ne (ne_of_none a1 nC), upd_ne hb, a1]
    · obtain ⟨c0, rfl, e2⟩ := a3 p' cv hcv
      exact ⟨c0, rfl, ext _ _ e2 codeO_ne⟩
theorem lam_tail {T : List (Addr × Str)} {c P : Addr} {params : Arguments} {body : Expr} {scope : Scope} {pos : Pos} {E : Value → Shared → Prop} {Q : Value → Shared → Prop} {dV : Value} (I : Inv X pins σ H s) (TB : TabB X.base X.mg c P) (hcode : X.env.code = .ref c)
    (hm : (P, X.env.qual ++ "<lambda>") ∈ T) (hu : ∀ p ∈ T, p.1 = P → p.2 = X.env.qual ++ "<lambda>") (hT : Tabs T H) (hfree : ∀ y ∈ scope.names, y.2 = .free → ∃ c, X.env.cells.lookup y.1 = some c)
    (h : ∀ (f c' : Addr) (doc pm ctv : Value) (H1 : Hp) (s' : Shared), Inv X pins σ H1 s' → ExtN H H1 → Tabs T H1 → H f = none →
      H1 f = some (LamO f (lamOb (X.env.qual ++ "<lambda>") params body scope (cloFrom X.env.cells scope.names []) dV doc pm c' ctv)) → H1 c' = some (CodeO c' (X.env.qual ++ "<lambda>")) → Q (.ref f) s') :
    wpAny (model X.prog X.w) X.A (makeTail "<lambda>" (X.env.qual ++ "<lambda>") params (.expr body) scope X.env dV .none none pos pos.line) Q E s := by
  obtain ⟨ps, hP, ht, ha⟩ := hT _ hm
  have bP : s.heap.BuiltinsAt X.mg P := TB.bm.keeps I.bk
  have hP' : s.heap.get? P = some { cls := .none, data := .fields ps } := I.hok P _ hP
  have fin : ∀ (h' : Heap) (tk tk2 : Nat) (H' : Hp) (c' : Addr) (doc pm ctv : Value), s.heap.objs.size ≤ h'.objs.size → Inv X pins σ H' { s with heap := h', toks := tk } → ExtN H H' → Tabs T H' → H' c' = some (CodeO c' (X.env.qual ++ "<lambda>")) →
      Q (.ref h'.objs.size) { s with heap := h'.push (lamOb (X.env.qual ++ "<lambda>") params body scope (cloFrom X.env.cells scope.names []) dV doc pm c' ctv), toks := tk2 } := by
    intro h' tk tk2 H' c' doc pm ctv hsz J e1 t1 hc
    have nF : H' h'.objs.size = none := J.hok.fresh (Nat.le_refl _)
    have J2 := J.laid (a := h'.objs.size) (o := LamO h'.objs.size (lamOb (X.env.qual ++ "<lambda>") params body scope (cloFrom X.env.cells scope.names []) dV doc pm c' ctv))
      (h' := h'.push (lamOb (X.env.qual ++ "<lambda>") params body scope (cloFrom X.env.cells scope.names []) dV doc pm c' ctv)) (t' := tk2)
      (fun b u e => Heap.get?_push_of_some _ e) (Nat.le_refl _) ⟨Heap.get?_push_size _ rfl, ⟨_, Heap.get?_push_size _ rfl⟩, fun h1 h2 p st => st _ p⟩
    have st : ∀ b o, H' b = some o → upd H' h'.objs.size (LamO h'.objs.size (lamOb (X.env.qual ++ "<lambda>") params body scope (cloFrom X.env.cells scope.names []) dV doc pm c' ctv)) b = some o := fun b o e => by
      rw [upd_ne (ne_of_none e nF), e]
    exact h _ c' doc pm ctv _ _ J2 (e1.trans (ExtN.of st)) (t1.ext st) (I.hok.fresh hsz) upd_same (st _ _ hc)
  cases hc : codeAmong pos ps.toList with
  | none =>
    refine PySem.W.kdv_makeTail (mg := X.mg) (c := c) (P := P) (ps := ps) (closure_ok hfree) I.ok.glob (I.mod.glob.keeps I.bk) hcode (TB.code.keeps I.bk) hP' ht hc TB.gP bP fun c' ctv doc h' tk hx hge hlt hrec htb => ?_
    obtain ⟨c2, oc, vs, t, e2, hoc, hd, hv⟩ := hrec
    cases e2
    have nC : H c' = none := I.hok.fresh hge
    obtain ⟨x1, x2⟩ := tabs_more (pos := pos) hT hP ht hu ha nC
    exact fin h' tk tk _ c' doc _ ctv (Nat.le_trans hge (Nat.le_of_lt hlt)) (inv_table (t' := tk) (more := #[rawInt pos.line, rawInt pos.col, .ref c']) I hP hx htb hge ⟨oc, vs, t, hoc, hd, hv⟩) x1 x2 upd_same
  | some cv =>
    obtain ⟨c', rfl, hco⟩ := ha pos cv hc
    refine PySem.W.kdv_makeTailHit (mg := X.mg) (c := c) (P := P) (ps := ps) (closure_ok hfree) I.ok.glob (I.mod.glob.keeps I.bk) hcode (TB.code.keeps I.bk) hP' ht hc bP fun ctv doc h' tk hx hsz => ?_
    exact fin h' s.toks tk H c' doc _ ctv hsz (I.kept (t' := s.toks) hx) (ExtN.refl H) hT hco
end
structure LamN (N : List Str) (sc scope : Scope) : Prop where
  kind : scope.kind = .function
  co : scope.isCoroutine = false
  gen : scope.isGenerator = false
  own : ∀ y ∈ scope.names, y.2 ≠ .cell ∧ (y.2 = .local → y.1 ∉ N)
  free : ∀ y ∈ scope.names, y.2 = .free → sc.names.lookup y.1 = some .cell ∨ sc.names.lookup y.1 = some .free
def lamNB (N : List Str) (sc scope : Scope) : Bool :=
  decide (scope.kind = .function) && !scope.isCoroutine && !scope.isGenerator && scope.names.all fun y => !decide (y.2 = .cell) && (!decide (y.2 = .local) || !decide (y.1 ∈ N)) && (!decide (y.2 = .free) || decide (sc.names.lookup y.1 = some .cell) || decide (sc.names.lookup y.1 = some .free))
theorem lamN_by {N : List Str} {sc scope : Scope} (h : lamNB N sc scope = true) : LamN N sc scope := by
  unfold lamNB at h
  simp only [Bool.and_eq_true, Bool.or_eq_true, Bool.not_eq_true', decide_eq_true_eq, decide_eq_false_iff_not, List.all_eq_true] at h
  obtain ⟨⟨⟨h1, h2⟩, h3⟩, h4⟩ := h
  refine ⟨h1, h2, h3, fun y hy => ⟨(h4 y hy).1.1, fun e => ?_⟩, fun y hy e => ?_⟩
  · rcases (h4 y hy).1.2 with z | z
    · exact absurd e z
    · exact z
  · rcases (h4 y hy).2 with (z | z) | z
    · exact absurd e z
    · exact .inl z
    · exact .inr z
theorem LamN.has {X : Cx} {N : List Str} {scope : Scope} (L : LamN N X.env.scope scope) (ok : X.Ok) : ∀ y ∈ scope.names, y.2 = .free → ∃ c, X.env.cells.lookup y.1 = some c := fun y hy e => by
  rcases L.free y hy e with k | k
  · exact ok.has _ (.inl k)
  · exact ok.has _ (.inr k)
def dvOf : Option Addr → Value
  | none => .none
  | some T => .ref T
def DvAt (H : Hp) : Option Addr → Prop
  | none => True
  | some T => H T = some (.tup [.int 0])
def LamB (q : Str) (ps : Arguments) (b : Expr) (sc : Scope) : Option Addr → Prop
  | none => ∀ (cl : List (Str × Addr)) (doc pm cdv ct : Value), bindArgs (lamFd q ps b sc cl .none doc pm cdv ct) ⟨[], []⟩ = pure []
  | some T => ∃ a, sc.names.lookup a = some .local ∧ ∀ (cl : List (Str × Addr)) (doc pm cdv ct u : Value), ∃ k, bindArgs (lamFd q ps b sc cl (.ref T) doc pm cdv ct) ⟨[], []⟩ = seqItems? (.ref T) >>= k ∧ k (some #[u]) = pure [(a, u)]
abbrev lamEn (q : Str) (scope : Scope) (cl : List (Str × Addr)) (L f c' : Addr) : Env := PySem.W.envX q scope L f (.ref c') cl
def lamC (P : Program) (w : World) (K : PySem.W.Frag) (mg : Str → Option Value) (base : Heap) (N : List Str) (q : Str) (cl : List (Str × Addr)) (A : Around) (outer : List Env) (s : Shared) (H : Hp) (E : XK) (scope : Scope) (f c' : Addr) : Cx where
  prog := P
  w := w
  K := K
  mg := mg
  base := base
  A := A.deeper (lamEn q scope cl s.heap.objs.size f c')
  N := N
  s_0 := s
  H_0 := H
  env := lamEn q scope cl s.heap.objs.size f c'
  outer := outer
  stack := lamEn q scope cl s.heap.objs.size f c' :: outer
  ex := []
  fn := fun _ => false
  calm := true
  pn := []
  xe := fun e s' => wpAny (model P w) (A.deeper (lamEn q scope cl s.heap.objs.size f c')) (leaving (lamEn q scope cl s.heap.objs.size f c') e) (fun _ s'' => L2.CX P w outer H s E e s'') (fun e' s'' => L2.CX P w outer H s E e' s'') s'
structure CloAt (N : List Str) (cl : List (Str × Addr)) (scope : Scope) (σ : L2.St) (H : Hp) (h : Heap) : Prop where
  len : σ.length = N.length
  own : ∀ y ∈ scope.names, y.2 ≠ .cell ∧ (y.2 = .local → y.1 ∉ N)
  kind : scope.kind = .function
  inj : ∀ x y c, cl.lookup x = some c → cl.lookup y = some c → x = y
  has : ∀ y, scope.names.lookup y = some .free → ∃ c, cl.lookup y = some c
  cell : ∀ y c, cl.lookup y = some c → H c = none ∧ ∃ v, h.IsCell c v
  val : ∀ (i : Nat) (y : Str) (v : V), N[i]? = some y → σ[i]? = some (some v) → scope.names.lookup y = some .free → ∃ c u, cl.lookup y = some c ∧ h.IsCell c (some u) ∧ RelV v u
section
variable {P : Program} {w : World} {K : PySem.W.Frag} {mg : Str → Option Value} {base : Heap}
theorem lam_enter {N : List Str} {q : Str} {cl : List (Str × Addr)} {A : Around} {outer : List Env} {E : XK} {scope : Scope} {f c' : Addr} {h₁ : Heap} {tk : Nat} {σ : L2.St} {H : Hp} {s : Shared} {m : Str → Option Value}
    (C : CloAt N cl scope σ H s.heap) (e0 : Env0 P w K mg base A outer s H) (hd : A.handled = none) (hns : h₁.Ns s.heap.objs.size m) (kp : ∀ b o, s.heap.get? b = some o → h₁.get? b = some o) :
    Inv (lamC P w K mg base N q cl A outer s H E scope f c') [] σ H { s with heap := h₁, toks := tk } := by
  have noA : ∀ b : Addr, b ∉ (lamC P w K mg base N q cl A outer s H E scope f c').ex := fun b z => absurd (show b ∈ ([] : List Addr) from z) (by simp)
  have up : ∀ {c : Addr} {v : Option Value}, s.heap.IsCell c v → h₁.IsCell c v := fun {c v} ⟨o, ho, hc⟩ => ⟨o, kp _ _ ho, hc⟩
  have nocell : ∀ {y}, scope.names.lookup y = some .cell → False := fun {y} k => (C.own _ (PySem.mem_of_lookup k)).1 rfl
  have okk : (lamC P w K mg base N q cl A outer s H E scope f c').Ok := by
    refine ⟨e0.mod, C.kind, rfl, rfl, Nat.le_refl _, C.inj, fun y hy => ?_, fun y c z _ => ?_, fun _ => hd, Around.frames_deeper e0.frames, .inr ⟨rfl, rfl⟩, fun b z => absurd z (noA b), e0.bs, e0.bsz, fun b _ _ => noA b, fun b z => absurd z (noA b), e0.funs, e0.frf⟩
    · rcases (show scope.names.lookup y = some .cell ∨ scope.names.lookup y = some .free from hy) with k | k
      · exact (nocell k).elim
      · exact C.has y k
    · cases (show false = true from z)
  refine ⟨okk, rfl, e0.bare, Un.kept kp, ⟨_, hns, fun i y v e1 e2 e3 => ?_⟩, fun y c e => ?_, e0.hok.fresh (Nat.le_refl _), fun y c e => (C.cell y c e).1, fun p hp => absurd (show p ∈ ([] : List (Addr × Obj)) ++ [] from hp) (by simp), e0.hok.kept kp, C.len⟩
  · rcases (show Vis scope y from e3) with k | k | k
    · exact absurd (List.mem_of_getElem? e1) ((C.own _ (PySem.mem_of_lookup k)).2 rfl)
    · exact (nocell k).elim
    · obtain ⟨c, u, h1, h2, r⟩ := C.val i y v e1 e2 k
      exact ⟨u, r, .inr ⟨.inr k, c, h1, up h2⟩⟩
  · obtain ⟨_, v, z⟩ := C.cell y c e
    exact ⟨v, up z⟩
theorem CloAt.here {X : Cx} {pins : List (Addr × Obj)} {σ : L2.St} {H : Hp} {s : Shared} {scope : Scope} (I : Inv X pins σ H s) (L : LamN X.N X.env.scope scope) : CloAt X.N (cloFrom X.env.cells scope.names []) scope σ H s.heap := by
  have hfree := L.has I.ok
  have cm : ∀ {y c}, (cloFrom X.env.cells scope.names []).lookup y = some c → X.env.cells.lookup y = some c := fun {y c} e => by
    rcases cloFrom_mem (PySem.mem_of_lookup e) with hm | ⟨h1, h2⟩
    · cases hm
    · obtain ⟨c1, hc⟩ := hfree _ h1 rfl
      have hc : X.env.cells.lookup y = some c1 := hc
      have e2 : c = c1 := by
        rw [h2, hc] <;> rfl
      rw [e2, hc]
  have look : ∀ {y}, scope.names.lookup y = some .free → ∃ c, (cloFrom X.env.cells scope.names []).lookup y = some c := fun {y} hl => mem_lookup (cloFrom_has (cells := X.env.cells) (acc := []) (PySem.mem_of_lookup hl))
  refine ⟨I.len, L.own, L.kind, fun x y c a b => I.ok.inj x y c (cm a) (cm b), fun y k => look k, fun y c e => ⟨I.freeC y c (cm e), I.cell y c (cm e)⟩, fun i y v e1 e2 k => ?_⟩
  obtain ⟨m, _, hl⟩ := I.loc
  have hk := L.free _ (PySem.mem_of_lookup k) rfl
  obtain ⟨u, r, z⟩ := hl i y v e1 e2 (hk.elim (fun k => .inr (.inl k)) fun k => .inr (.inr k))
  obtain ⟨c, h2⟩ := look k
  rcases z with ⟨k1, _⟩ | ⟨_, c3, e3, z⟩
  · have k1 : X.env.scope.names.lookup y = some .local := k1
    rcases hk with k2 | k2 <;> rw [show X.env.scope.names.lookup y = _ from k2] at k1 <;> cases k1
  · rw [cm h2] at e3
    cases e3
    exact ⟨c, u, h2, z, r⟩
theorem CloAt.un {N : List Str} {cl : List (Str × Addr)} {scope : Scope} {σ : L2.St} {H H' : Hp} {h h' : Heap} {fs : List Addr} (C : CloAt N cl scope σ H h) (u : Un fs [] H H' h h') : CloAt N cl scope σ H' h' := by
  have ck : ∀ {c : Addr} {v : Option Value}, H c = none → h.IsCell c v → h'.IsCell c v := fun {c v} n ⟨o, ho, hd⟩ => by
    obtain ⟨sl, q⟩ := u.any ho n (by simp)
    exact ⟨_, q, hd⟩
  refine ⟨C.len, C.own, C.kind, C.inj, C.has, fun y c e => ?_, fun i y v e1 e2 k => ?_⟩
  · obtain ⟨n, v, o, ho, hd⟩ := C.cell y c e
    exact ⟨u.free c o ho n (by simp), v, ck n ⟨o, ho, hd⟩⟩
  · obtain ⟨c, x, h1, h2, r⟩ := C.val i y v e1 e2 k
    exact ⟨c, x, h1, ck (C.cell y c h1).1 h2, r⟩
structure LamP (P : Program) (w : World) (K : PySem.W.Frag) (mg : Str → Option Value) (base : Heap) (N : List Str) (q : Str) (cl : List (Str × Addr)) (scope : Scope) (o : Obj) (c' : Addr) (dT : Option Addr) (k : Nat) (t : XK → TE) : Prop where
  co : scope.isCoroutine = false
  gen : scope.isGenerator = false
  cells : ∀ y ∈ scope.names, y.2 ≠ .cell
  kind : scope.kind = .function
  ex : ∃ (params : Arguments) (body : Expr) (doc pm ctv : Value), o = lamOb q params body scope cl (dvOf dT) doc pm c' ctv ∧ LamB q params body scope dT ∧
    ∀ (A : Around) (outer : List Env) (s : Shared) (H : Hp) (E : XK) (f : Addr), Room k (A.deeper (lamEn q scope cl s.heap.objs.size f c')) → PE (lamC P w K mg base N q cl A outer s H E scope f c') body (t E)
theorem lam_binds {s : Shared} {H : Hp} {q : Str} {ps : Arguments} {b : Expr} {sc : Scope} {cl : List (Str × Addr)} {doc pm cdv ct : Value} {dT : Option Addr} (B : LamB q ps b sc dT) (hT : DvAt H dT) (hok : HOk P w H s.heap) :
    ∃ binds, (∀ y ∈ binds, sc.names.lookup y.1 = some .local) ∧ BindsTo s (lamFd q ps b sc cl (dvOf dT) doc pm cdv ct) ⟨[], []⟩ binds := by
  cases dT with
  | none => exact ⟨[], fun y hy => absurd hy (by simp), BindsTo.of_eq (B cl doc pm cdv ct)⟩
  | some T =>
    obtain ⟨a, ha, hB⟩ := B
    obtain ⟨_, its, r, ob, e1, e2, n, e3⟩ := hok T _ hT
    match its, r with
    | [u], _ =>
      obtain ⟨k, k1, k2⟩ := hB cl doc pm cdv ct u
      refine ⟨[(a, u)], fun y hy => by rw [List.mem_singleton.mp hy]; exact ha, ?_⟩
      exact BindsTo.of_defaults (T := T) rfl e1 e3 k1 k2
end
end DLR
namespace DLR
open PySem PySem.Spec PyProof.Rows L2 LamX
def LamV (X : Cx) (k : Nat) (H : Hp) (v : V) (t : XK → TE) : Prop :=
  ∃ (f c' : Addr) (o : Obj) (scope : Scope) (dT : Option Addr), v = .ref f ∧ H f = some (LamO f o) ∧ H c' = some (CodeO c' (X.env.qual ++ "<lambda>")) ∧ DvAt H dT ∧ LamN X.N X.env.scope scope ∧
    LamP X.prog X.w X.K X.mg X.base X.N (X.env.qual ++ "<lambda>") (cloFrom X.env.cells scope.names []) scope o c' dT k t
theorem codeO_lst {c : Addr} {q : Str} (ps : List V) : CodeO c q ≠ .lst ps := fun z => by
  unfold CodeO at z
  cases z
theorem lamO_lst {f : Addr} {o : Obj} (ps : List V) : LamO f o ≠ .lst ps := fun z => by
  unfold LamO at z
  cases z
theorem LamV.keep {X : Cx} {k : Nat} {H H' : Hp} {v : V} {t : XK → TE} (L : LamV X k H v t) (h : ∀ b o, H b = some o → (∀ ps, o ≠ .tbl ps) → (∀ xs, o ≠ .lst xs) → H' b = some o) : LamV X k H' v t := by
  obtain ⟨f, c', o, scope, dT, e1, e2, e3, e4, e5, e6⟩ := L
  refine ⟨f, c', o, scope, dT, e1, h _ _ e2 lamO_ne lamO_lst, h _ _ e3 codeO_ne codeO_lst, ?_, e5, e6⟩
  cases dT with
  | none => exact True.intro
  | some T => exact h _ _ e4 (fun ps z => by cases z) (fun xs z => by cases z)
section
variable {X : Cx}
def tMk (X : Cx) (k : Nat) (T : List (Addr × Str)) (t : XK → TE) : TE := fun _ H Q => Tabs T H ∧ ∀ v H1, ExtN H H1 → Tabs T H1 → LamV X k H1 v t → Q v H1
variable {T : List (Addr × Str)} {c P : Addr} {k : Nat} {params : Arguments} {body : Expr} {scope : Scope} {t : XK → TE} {lpos : Pos}
theorem LamN.p (L : LamN X.N X.env.scope scope) {dT : Option Addr} {dV doc pm ctv : Value} {c' : Addr} (e : dV = dvOf dT) (hbind : LamB (X.env.qual ++ "<lambda>") params body scope dT)
    (hbody : ∀ (A : Around) (outer : List Env) (s : Shared) (H : Hp) (E : XK) (f c' : Addr), Room k (A.deeper (lamEn (X.env.qual ++ "<lambda>") scope (cloFrom X.env.cells scope.names []) s.heap.objs.size f c')) →
      PE (lamC X.prog X.w X.K X.mg X.base X.N (X.env.qual ++ "<lambda>") (cloFrom X.env.cells scope.names []) A outer s H E scope f c') body (t E)) :
    LamP X.prog X.w X.K X.mg X.base X.N (X.env.qual ++ "<lambda>") (cloFrom X.env.cells scope.names []) scope (lamOb (X.env.qual ++ "<lambda>") params body scope (cloFrom X.env.cells scope.names []) dV doc pm c' ctv) c' dT k t := by
  subst e
  exact ⟨L.co, L.gen, fun y hy => (L.own y hy).1, L.kind, params, body, doc, pm, ctv, rfl, hbind, fun A outer s H E f hr => hbody A outer s H E f c' hr⟩
theorem pe_lam0 (TB : TabB X.base X.mg c P) (hcode : X.env.code = .ref c) (hmT : (P, X.env.qual ++ "<lambda>") ∈ T) (hu : ∀ p ∈ T, p.1 = P → p.2 = X.env.qual ++ "<lambda>") (L : LamN X.N X.env.scope scope) (hdef : defaultsOf params X.env = ([], []))
    (hbind : LamB (X.env.qual ++ "<lambda>") params body scope none)
    (hbody : ∀ (A : Around) (outer : List Env) (s : Shared) (H : Hp) (E : XK) (f c' : Addr), Room k (A.deeper (lamEn (X.env.qual ++ "<lambda>") scope (cloFrom X.env.cells scope.names []) s.heap.objs.size f c')) →
      PE (lamC X.prog X.w X.K X.mg X.base X.N (X.env.qual ++ "<lambda>") (cloFrom X.env.cells scope.names []) A outer s H E scope f c') body (t E)) :
    PE X (.Lambda params body scope lpos) (tMk X k T t) := by
  refine ⟨fun pins s σ H Q I h => ?_⟩
  obtain ⟨hT, h⟩ := h
  refine PySem.W.kla_eval hdef ?_
  rw [makeFunction_eq]
  simp only [List.zip_nil_right, List.filterMap_nil, List.isEmpty_nil, if_true, pure_bind]
  refine lam_tail I TB hcode hmT hu hT (L.has I.ok) fun f c' doc pm ctv H1 s' I1 eN T1 hf hfo hco => ?_
  exact ⟨.ref f, H1, I1, rfl, h _ H1 eN T1 ⟨f, c', _, scope, none, rfl, hfo, hco, True.intro, L, L.p rfl hbind hbody⟩⟩
theorem pe_lam1 {j : Nat} {p0 : Pos} (TB : TabB X.base X.mg c P) (hcode : X.env.code = .ref c) (hmT : (P, X.env.qual ++ "<lambda>") ∈ T) (hu : ∀ p ∈ T, p.1 = P → p.2 = X.env.qual ++ "<lambda>") (L : LamN X.N X.env.scope scope)
    (hps : params.defaults = [.Constant (.int 0) j p0]) (hk0 : params.kw_defaults = []) (hbind : ∀ D, LamB (X.env.qual ++ "<lambda>") params body scope (some D))
    (hbody : ∀ (A : Around) (outer : List Env) (s : Shared) (H : Hp) (E : XK) (f c' : Addr), Room k (A.deeper (lamEn (X.env.qual ++ "<lambda>") scope (cloFrom X.env.cells scope.names []) s.heap.objs.size f c')) →
      PE (lamC X.prog X.w X.K X.mg X.base X.N (X.env.qual ++ "<lambda>") (cloFrom X.env.cells scope.names []) A outer s H E scope f c') body (t E)) :
    PE X (.Lambda params body scope lpos) (tMk X k T t) := by
  refine ⟨fun pins s σ H Q I h => ?_⟩
  obtain ⟨hT, h⟩ := h
  refine PySem.W.kdv_lam (by rw [hps]; rfl) hk0 ?_
  rw [hps]
  refine PySem.W.kdv_all1 (thn ((pe_int (X := X) (i := 0) (j := j) (pos := p0)).run pins s σ H (fun v H1 => v = .int 0 ∧ H1 = H) I ⟨rfl, rfl⟩) fun u s1 ⟨v, H1, I1, r1, e1, e2⟩ => PySem.W.kdv_all0 ?_)
  subst e1 e2
  rw [makeFunction_eq]
  simp only [List.zip_nil_right, List.filterMap_nil, List.isEmpty_nil, if_true, pure_bind, List.isEmpty_cons, Bool.false_eq_true, if_false]
  refine wpAny_bind (wpAny_newTextTuple ?_)
  generalize hD : s1.heap.objs.size = D
  have nD : H1 D = none := I1.hok.fresh (Nat.le_of_eq hD)
  have hD' : (s1.heap.push { cls := .type "tuple", data := .seq [u].toArray }).get? D = some { cls := .type "tuple", data := .seq [u].toArray } := by
    rw [← hD]
    exact Heap.get?_push_size _ rfl
  have J : Inv X pins σ (upd H1 D (.tup [.int 0])) { s1 with heap := s1.heap.push { cls := .type "tuple", data := .seq [u].toArray } } :=
    I1.laid (t' := s1.toks) (fun b o e => Heap.get?_push_of_some _ e) (Nat.le_of_eq hD) ⟨by show 1 ≤ sizeLine; decide, [u], .cons r1 .nil, _, hD', rfl, _, rfl⟩
  have st : ∀ b o, H1 b = some o → upd H1 D (.tup [.int 0]) b = some o := fun b o e => by rw [upd_ne (ne_of_none e nD), e]
  refine lam_tail J TB hcode hmT hu (hT.ext st) (L.has J.ok) fun f c' doc pm ctv H2 s' I2 eN T2 hf hfo hco => ?_
  exact ⟨.ref f, H2, I2, rfl, h _ H2 ((ExtN.of st).trans eN) T2 ⟨f, c', _, scope, some D, rfl, hfo, hco, eN _ _ upd_same (fun ps z => by cases z), L, L.p rfl (hbind D) hbody⟩⟩
end
section
variable {X : Cx} {pins : List (Addr × Obj)} {σ : L2.St} {H : Hp} {s : Shared}
theorem lam_act {CXg : CXT} {Eg : XK} {Ng N : List Str} {qg q a : Str} {sg scope : Scope} {g f c' : Addr} {cdg : Value} {cl : List (Str × Addr)} {o : Obj} {dT : Option Addr} {t : XK → TE} {k i : Nat} {pn : List (Addr × Obj)} {xe : Value → Shared → Prop} {W : WX} {E : XK} {p1 p2 : Pos}
    (C : CloAt N cl scope σ H s.heap) (LP : LamP X.prog X.w X.K X.mg X.base N q cl scope o c' dT k t)
    (tk : Takes ((cxOf CXg X.prog X.w X.K X.mg X.base Ng qg sg g cdg X.A X.stack s H Eg).tr pn xe) W) (hW : ∀ cls d σ' H', E cls d H' → W cls d σ' H') (hr : Room (k + 1) (X.A.deeper (envOfC qg sg s.heap.objs.size g cdg)))
    (hN : Ng[i]? = some a) (hv : Vis sg a) (hd : (a == ("__debug__" : Str)) = false := by decide) (hcd : (a == ("__classdict__" : Str)) = false := by decide) :
    PE ((cxOf CXg X.prog X.w X.K X.mg X.base Ng qg sg g cdg X.A X.stack s H Eg).tr pn xe) (.Call (.Name a p1) [] [] p2)
      (fun σZ HZ Q => σZ[i]? = some (some (.ref f)) ∧ HZ c' = some (CodeO c' q) ∧ HZ f = some (LamO f o) ∧ DvAt HZ dT ∧ t E σ HZ Q) := by
  obtain ⟨lco, lgen, lcells, lkind, params, body, doc, pm, ctv, rfl, hB, hbody⟩ := LP
  refine ⟨fun pinsZ sZ σZ HZ Q IZ ⟨h1, h2, h3, h4, ht⟩ => ?_⟩
  refine wpAny_Call_Name_kw (thn ((pe_var (pos := p1) (i := i) hN hv hd hcd).run pinsZ sZ σZ HZ (fun v H1 => v = .ref f ∧ H1 = HZ) IZ ⟨.ref f, h1, rfl, rfl⟩) fun u s1 hu => ?_)
  obtain ⟨v, H1, I1, r1, rfl, rfl⟩ := hu
  cases r1
  obtain ⟨fo, _, _⟩ := I1.hok f _ h3
  obtain ⟨⟨oc, vs, tq, hoc, hdc, hvc⟩, _, _⟩ := I1.hok c' _ h2
  have C1 : CloAt N cl scope σ H1 s1.heap := C.un (show Un (frs X.stack) [] H H1 s.heap s1.heap from I1.base)
  obtain ⟨binds, b1, b2⟩ := lam_binds (s := s1) (cl := cl) (doc := doc) (pm := pm) (cdv := .ref c') (ct := ctv) hB h4 I1.hok
  refine PySem.W.callWith_F0 ⟨_, _, _, _, fo⟩ (wpAny_call (codeAny_mono (R := CR (L2.CX X.prog X.w) (envOfC qg sg s.heap.objs.size g cdg :: X.stack) X.prog X.w H1 s1 Q E) ?_ fun r s' hq => ?_))
  · refine PySem.W.kla_callFunE hr.depth fo rfl lco lgen rfl ⟨c', oc, vs, tq, rfl, hoc, hdc, hvc⟩ (b2 _ _ _ _ (wpAny_newFunctionEnv lcells b1 (fun h₁ hns hsb => ⟨I1.nolimit.fresh _ hsb, ?_⟩) lkind))
    have kp : ∀ b o, s1.heap.get? b = some o → h₁.get? b = some o := fun b o e => hsb.extBut b o (Nat.ne_of_lt (Heap.lt_size e)) (Heap.get?_push_of_some _ e)
    have J := lam_enter (q := q) (E := E) (f := f) (c' := c') (tk := s1.toks + binds.length) C1 I1.env0 hr.hd hns kp
    have run := (hbody _ _ s1 H1 E f (hr.deeper _)).run [] _ _ H1 Q J ht
    exact PySem.W.kla_codeExpr (wpAny_mono run (fun v s' ⟨w', H', J', rv, hq⟩ => ⟨w', H', J'.os, J'.bare, J'.base, J'.hok, rv, hq⟩) fun e s' hq => hq)
  · cases r with
    | error e => exact passes_call tk hW pinsZ σZ H1 s1 e s' I1 hq
    | ok fl =>
      cases fl with
      | ret u => exact I1.after hq
      | next => exact hq.elim
      | brk => exact hq.elim
      | cont => exact hq.elim
end
section
variable {X : Cx}
def tTold (X : Cx) (k : Nat) (TT : (XK → Hp → VK → Prop) → Hp → VK → Prop) (te : TE) : TE := fun σ H Q => te σ H fun v H1 => ∃ (f c' : Addr) (o : Obj) (scope : Scope) (dT : Option Addr) (t : XK → TE), v = .ref f ∧ H1 c' = some (CodeO c' (X.env.qual ++ "<lambda>")) ∧ LamN X.N X.env.scope scope ∧
  LamP X.prog X.w X.K X.mg X.base X.N (X.env.qual ++ "<lambda>") (cloFrom X.env.cells scope.names []) scope o c' dT k t ∧ TT (fun E H' Q' => H' f = some (LamO f o) ∧ DvAt H' dT ∧ t E σ H' Q') H1 Q
theorem pe_told {TT : (XK → Hp → VK → Prop) → Hp → VK → Prop} {x a : Str} {g : Addr} {k : Nat} {pg : Arguments} {bg : List Stmt} {sg : Scope} {dV kV doc pm cdv ct oc : Value} {an od : Option Addr} {osl : Array (Option Value)} {Ng : List Str} {e : Expr} {te : TE} {p pos : Pos}
    (hg : Gl X x) (hm : X.mg x = some (.ref g)) (hk : PySem.W.keepIn X.K (.ref g) = true) (lk : X.K.lookup g = some ⟨oc, od, .func (PySem.W.fnOf x x pg bg sg dV kV doc pm an cdv ct), osl⟩) (hcg : PySem.W.codeIn X.K cdv x = true)
    (hb : L2.Binds X.K (PySem.W.fnOf x x pg bg sg dV kV doc pm an cdv ct) [a] []) (Sg : FnScope Ng [a] sg) (hNg : Ng[0]? = some a) (hva : Vis sg a) (hG : GivesTo X Ng x sg g cdv bg a (X.env.qual ++ "<lambda>") TT) (hr : Room (k + 2) X.A) (he : PE X e te)
    (hdb : (x == ("__debug__" : Str)) = false := by decide) (hd : (a == ("__debug__" : Str)) = false := by decide) (hcd : (a == ("__classdict__" : Str)) = false := by decide)
    (hs : starEach [e] X.env = (false, eval e X.env) :: starEach [] X.env := by rfl) (hpl : (backTo pos (starEach [] X.env)).any (·.1) = false := by rfl) :
    PE X (.Call (.Name x p) [e] [] pos) (tTold X k TT te) := by
  refine ⟨fun pins s σ H Q I h => ?_⟩
  refine wpAny_Call_Name_kw (ld_glob I hg hm ?_ hdb)
  have arg := (pa_cons he pa_nil hs).run pos pins s σ H (fun vs H1 => match vs with
    | [v] => ∃ (f c' : Addr) (o : Obj) (scope : Scope) (dT : Option Addr) (t : XK → TE), v = .ref f ∧ H1 c' = some (CodeO c' (X.env.qual ++ "<lambda>")) ∧ LamN X.N X.env.scope scope ∧
      LamP X.prog X.w X.K X.mg X.base X.N (X.env.qual ++ "<lambda>") (cloFrom X.env.cells scope.names []) scope o c' dT k t ∧ TT (fun E H' Q' => H' f = some (LamO f o) ∧ DvAt H' dT ∧ t E σ H' Q') H1 Q
    | _ => False) I h
  refine PySem.W.callWith_K (h₀ := X.base) I.ok.mod.kin hk (thn arg fun us s1 ⟨vs, H1, I1, r, q0⟩ => ⟨I1.kIn, ?_⟩) hs hpl
  match vs, r, q0 with
  | [v], r, q0 =>
    obtain ⟨f, c', o, scope, dT, t, rfl, hc, L, LP, q⟩ := q0
    obtain ⟨u, rfl, ru⟩ := r.one
    cases ru
    have rc : codeAny (model X.prog X.w) X.A (.call (.ref g) ⟨[.ref f], []⟩) (CR C8.CX0 X.stack X.prog X.w H1 s1 Q C8.E0) s1 := by
      refine run_ofS (N := Ng) (ps := [a]) (us := [.ref f]) (vs := [.ref f]) lk hcg Sg hr I1.env0 (hb s1 [.ref f] I1.kIn rfl) (.cons rfl .nil) rfl fun hr' => ?_
      obtain ⟨t', ht', hq'⟩ := hG f c' s1 H1 Q (fun E H' Q' => H' f = some (LamO f o) ∧ DvAt H' dT ∧ t E σ H' Q') (fun W pn xe E p1 p2 tk hW => lam_act (i := 0) (CloAt.here I1 L) LP tk hW hr' hNg hva hd hcd) hc q
      exact ⟨t', ht'.nox, hq'⟩
    refine wpAny_call (codeAny_mono rc fun r s2 hq => ?_)
    cases r with
    | error e => exact (show False from hq).elim
    | ok fl =>
      cases fl with
      | ret u => exact I1.after hq
      | next => exact hq.elim
      | brk => exact hq.elim
      | cont => exact hq.elim
end
end DLR
namespace DLR
open PySem PySem.Spec PyProof.Rows L2
theorem lookup_rel {f : Str × NameKind → Str × NameKind} (hf : ∀ p, (f p).1 = p.1 ∧ ((p.2 = .cell ∨ p.2 = .free) → ((f p).2 = .cell ∨ (f p).2 = .free))) : ∀ {names : List (Str × NameKind)} {x : Str}, names.lookup x = some .cell ∨ names.lookup x = some .free →
    (names.map f).lookup x = some .cell ∨ (names.map f).lookup x = some .free
  | [], x, h => by simp at h
  | (n, k) :: r, x, h => by
    obtain ⟨h1, h2⟩ := hf (n, k)
    obtain ⟨n', k', e⟩ : ∃ n' k', f (n, k) = (n', k') := ⟨_, _, rfl⟩
    rw [e] at h1 h2
    have h1 : n' = n := h1
    subst h1
    rw [List.map_cons, e]
    rw [List.lookup_cons] at h ⊢
    cases c : x == n' with
    | true =>
      rw [c] at h
      have h : k = .cell ∨ k = .free := h.imp (fun z => Option.some.inj z) fun z => Option.some.inj z
      exact (h2 h).imp (congrArg some) (congrArg some)
    | false =>
      rw [c] at h
      exact lookup_rel hf h
theorem blkRel {N : List Str} {sc scope : Scope} {own : List (Str × Nat)} {env : Env} (h : BlkOk N sc scope own) : BlkOk N (relabel sc env) scope own := by
  refine ⟨h.kind, h.uniq, h.ix, fun y hy e => ?_, h.own⟩
  unfold relabel
  refine lookup_rel (fun p => ?_) (h.free y hy e)
  obtain ⟨n, k⟩ := p
  dsimp only
  split
  · exact ⟨rfl, fun _ => .inl rfl⟩
  · exact ⟨rfl, fun z => z⟩
theorem pi_tupK {X : Cx} {tg e : Expr} {te : TE} (K0 : PySem.W.Frag) (hK : X.K = K0) (h : PE X e te) : PI X tg e (iTup K0 te) := by
  subst hK
  exact pi_tup h
theorem cr_sortedIK {X : Cx} (K0 : PySem.W.Frag) (hK : X.K = K0) : CallR X (.builtin "sorted") (rSortedI K0) := hK ▸ cr_sortedI
theorem call_tuple_ofK {X : Cx} (K0 : PySem.W.Frag) (hK : X.K = K0) : CallR X (.type "tuple") (fun xs H Q => ∃ p ys, xs = [.ref p] ∧ ((SqL K0 H p ys ∧ ∀ l, H l = none → Q (.ref l) (upd H l (.tup ys))) ∨ (SqT K0 H p ys ∧ Q (.ref p) H))) := by
  subst hK
  exact call_tuple_of
end DLR
namespace DL
open PySem L2 DLR LamX
theorem refs_ne_dice {H : Hp} {d sa la : Addr} {gs : List Addr} (dv : DiceV H d sa) (h : H la = some (.lst (gs.map V.ref))) : la ≠ d := fun e => by
  subst e
  obtain ⟨i, m, r, z, _⟩ := dv
  rw [z] at h
  have q : ([.ref sa, .int i, .int m, .int r] : List V) = gs.map V.ref := by injection (Option.some.inj h)
  match gs, q with
  | [], q => cases q
  | [_], q => cases q
  | _ :: _ :: _, q => cases (List.cons.inj (List.cons.inj q).2).1
def noTb (H : Hp) : Hp := fun a => match H a with
  | some (.tbl _) => none
  | x => x
theorem noTb_of {H : Hp} {a : Addr} {o : HO} (h : noTb H a = some o) : H a = some o ∧ ∀ ps, o ≠ .tbl ps := by
  unfold noTb at h
  split at h
  · cases h
  · rename_i n
    exact ⟨h, fun ps z => n ps (by rw [h, z])⟩
theorem noTb_at {H : Hp} {a : Addr} {o : HO} (h : H a = some o) (n : ∀ ps, o ≠ .tbl ps) : noTb H a = some o := by
  unfold noTb
  split
  · rename_i ps e
    rw [h] at e
    exact absurd (Option.some.inj e) (n ps)
  · exact h
theorem noTb_none {H : Hp} {a : Addr} (h : H a = none) : noTb H a = none := by
  unfold noTb
  rw [h]
theorem Ent.noTb {K : Frg} {H : Hp} {d sa : Addr} {ns : List Int} (h : Ent K H d sa ns) : Ent K (noTb H) d sa ns := by
  refine ⟨?_, ?_, h.len⟩
  · obtain ⟨i, m, r, z, q⟩ := h.dice
    exact ⟨i, m, r, noTb_at z (fun ps q => by cases q), q⟩
  · rcases h.scr with (g | ⟨o, g⟩) | g
    · exact .inl (.inl (noTb_at g (fun ps q => by cases q)))
    · exact .inl (.inr ⟨o, noTb_at g (fun ps q => by cases q)⟩)
    · exact .inr g
theorem Dc.ext {K : Frg} {H0 H H' : Hp} {d sa : Addr} {ns : List Int} (h : Dc K (DL.noTb H0) H d sa ns) (e : ExtN H H') : Dc K (DL.noTb H0) H' d sa ns := by
  refine ⟨h.e0, fun x o n g => e x o (h.but x o n g) (noTb_of g).2, ?_⟩
  obtain ⟨i, m, r, z, q⟩ := h.dice
  exact ⟨i, m, r, e _ _ z (fun ps q => by cases q), q⟩
theorem tabS_dice {K : Frg} {H H' : Hp} {d sa P : Addr} {ns : List Int} {q : Str} (t : TabS H P q) (c : Dc K H H' d sa ns) : TabS H' P q := by
  obtain ⟨j, m, r, z, _⟩ := c.e0.dice
  obtain ⟨ps, h1, h2, h3⟩ := t
  refine ⟨ps, c.but _ _ (ne_of h1 z (by intro q; cases q)) h1, h2, fun pos cv hc => ?_⟩
  obtain ⟨k, e1, e2⟩ := h3 pos cv hc
  exact ⟨k, e1, c.but _ _ (ne_of e2 z (by intro q; unfold CodeO at q; cases q)) e2⟩
def forB : Stmt → List Stmt
  | .For _ _ b .. => b
  | _ => []
def ifB : Stmt → List Stmt
  | .If _ b .. => b
  | _ => []
def asgV : Stmt → Expr
  | .Assign _ v _ => v
  | _ => .Name "x" ⟨0, 0, 0, 0⟩
def callA : Expr → Expr
  | .Call _ (a :: _) _ _ => a
  | e => e
def lcS (d : Scope) : Expr → Scope
  | .ListComp _ _ sc _ => sc
  | _ => d
abbrev qP : Str := (("law" : Str) ++ (".<locals>." : Str))
abbrev qL : Str := qP ++ ("<lambda>" : Str)
theorem tab_mem {Pt : Addr} {q : Str} (h : q = qP) : (Pt, q ++ "<lambda>") ∈ [(Pt, qL)] := by
  rw [h]
  exact List.mem_singleton.mpr rfl
theorem tab_one {Pt : Addr} {q : Str} (h : q = qP) : ∀ p ∈ [(Pt, qL)], p.1 = Pt → p.2 = q ++ "<lambda>" := by
  rw [h]
  intro p hp _
  rw [List.mem_singleton.mp hp]
structure Ct (K : Frg) (Hb H : Hp) (d sa Pt : Addr) (ns : List Int) : Prop where
  ent : Dc K Hb H d sa ns
  tab : TabS H Pt qL
theorem Ct.same {K : Frg} {Hb H H' : Hp} {d sa Pt : Addr} {ns : List Int} (h : Ct K Hb H d sa Pt ns) (s : Same1 H H') : Ct K Hb H' d sa Pt ns := ⟨h.ent.same s, h.tab.ext s⟩
theorem Ct.dice {K : Frg} {Hb H H' : Hp} {d sa Pt : Addr} {ns : List Int} (h : Ct K Hb H d sa Pt ns) (c : Dc K H H' d sa ns) : Ct K Hb H' d sa Pt ns := ⟨h.ent.trans c, tabS_dice h.tab c⟩
theorem Ct.ext {K : Frg} {H0 H H' : Hp} {d sa Pt : Addr} {ns : List Int} (h : Ct K (noTb H0) H d sa Pt ns) (e : ExtN H H') (t : Tabs [(Pt, qL)] H') : Ct K (noTb H0) H' d sa Pt ns := ⟨h.ent.ext e, t _ (List.mem_singleton.mpr rfl)⟩
theorem Ct.tabs {K : Frg} {Hb H : Hp} {d sa Pt : Addr} {ns : List Int} (h : Ct K Hb H d sa Pt ns) : Tabs [(Pt, qL)] H := fun q hq => by rw [List.mem_singleton.mp hq]; exact h.tab
theorem Kp.ext {H H' : Hp} (e : ExtN H H') : Kp H H' := fun a xs g => e _ _ g (fun ps z => by cases z)
end DL
/-! ### an error of an own class that has fields: made by an own __init__ that calls its base's, asked for its class and its fields -/
namespace PySem.W
open PySem PySem.Spec PySem.Calls PyProof.Rows
section
variable {prog : Program} {w : World} {A : Around} {E : Value → Shared → Prop} {s : Shared} {K : Frag} {x D : Addr} {ox od : Obj}
theorem class_of_held {Q : Option Value → Shared → Prop} (h1 : findIn K (.ref D) "__getattribute__" = some (some (.builtin "BaseException.__getattribute__"))) (h2 : findIn K (.ref D) "__getattr__" = some none) (h3 : subIn K (.ref D) (.type "BaseException") = some true) (h4 : hasDictIn K D = true)
    (h5 : findIn K (.ref D) "__class__" = some (some (.builtin "object.__class__"))) (h6 : specialIn K (.builtin "object.__class__") "__get__" = some (some (.builtin "getset_descriptor.__get__"))) (h7 : takesIn K (.builtin "object.__class__") = some true) (h8 : mroIn K D (.type "object") = some true)
    (X : K.In s.heap) (I : InstAt s.heap x ox D (some od)) (q : Q (some (.ref D)) { s with toks := s.toks + 1 }) : wpAny (model prog w) A (getAttr? (.ref x) "__class__") Q E s := by
  obtain ⟨cd, e0, _⟩ := any_some h4
  have fo : findObj K D (some od) "__class__" = some (.bind (.builtin "getset_descriptor.__get__") (.builtin "object.__class__")) := findObj_data (by rw [e0]; rfl) h5 h6 h7
  obtain ⟨hp, g, d, t, os⟩ := s
  have ty := I.type (M := model prog w)
  have is : Looks (model prog w) hp (isInstance (.ref x) (.type "BaseException")) true := ty.andThen (looks_subIn X h3)
  have no : (onTheHeap (Value.ref D) && Value.builtin "BaseException.__getattribute__" == Value.builtin "object.__getattribute__") = false := by
    rw [show (Value.builtin "BaseException.__getattribute__" == Value.builtin "object.__getattribute__") = false by decide +kernel]
    rfl
  unfold getAttr? getAttrBy? getAttrBy
  refine wpAny_bind (wpAny_mkText (wpAny_bind (wpAny_attempt (wpAny_holding (wpAny_bind (ty.at (wpAny_bind ((looks_findIn X h1).at ?_))))))))
  show wpAny _ _ (if (onTheHeap (Value.ref D) && Value.builtin "BaseException.__getattribute__" == Value.builtin "object.__getattribute__") = true then _ else _) _ _ _
  rw [no, if_neg Bool.false_ne_true]
  unfold getAttrByItsOwn hookBefore
  refine wpAny_bind ?_
  rw [if_pos (show onTheHeap (Value.ref D) = true from rfl)]
  refine (looks_findIn X h2).at (wpAny_bind (wpAny_attempt (wpAny_holding ?_)))
  unfold callGetattribute
  rw [show (false && onTheHeap (Value.builtin "BaseException.__getattribute__")) = false from rfl, if_neg Bool.false_ne_true]
  unfold boundAndCalled
  rw [PySem.F.excAttr_ValueError.ga.bind (.ref x)]
  refine wpAny_bind (wpAny_pure ?_)
  show wpAny _ _ (call (.builtin "BaseException.__getattribute__") [.ref x, .str "__class__" t]) _ _ _
  refine wpAny_call (codeAny_call_builtin PySem.F.excAttr_ValueError.ga.plain PySem.F.entry_bexc_ga (@check_slot (model prog w) _ _ ⟨hp, g, d, t + 1, os⟩ "BaseException.__getattribute__" "BaseException" "__getattribute__" (.ref x) [.str "__class__" t] [] _ (by decide +kernel) (by decide +kernel) is (PySem.F.args_bexc_ga (.ref x) (.str "__class__" t)) ?_))
  unfold Builtin.«object.__getattribute__»
  refine wpAny_bind (wpAny_of_eq (a := ((Value.ref x : Value), [Value.str "__class__" t])) (by first | rfl | (simp only [slotArgs]; rfl)) (wpAny_bind (wpAny_pure (wpAny_bind (ty.at (wpAny_bind ((looks_find (M := model prog w) X I fo).at ?_)))))))
  show wpAny _ _ (holding [Value.builtin "object.__class__"] (call (.builtin "getset_descriptor.__get__") [.builtin "object.__class__", .ref x, .ref D]) >>= ret) _ _ _
  refine wpAny_bind (wpAny_holding (wpAny_call (class_get (s := ⟨hp, g, d, t + 1, os⟩) (ox := ox) (od := some od) X I h8 (wpAny_pure ?_))))
  show wpAny _ _ (handedOut (.ref D)) _ _ _
  rw [handedOut_of (v := .ref D) rfl]
  first
    | exact wpAny_pure (wpAny_pure q)
    | exact wpAny_pure q
    | exact wpAny_pure (wpAny_bind (wpAny_pure (wpAny_pure q)))
theorem kit_held (h1 : findIn K (.ref D) "__getattribute__" = some (some (.builtin "BaseException.__getattribute__"))) (h2 : findIn K (.ref D) "__getattr__" = some none) (h3 : subIn K (.ref D) (.type "BaseException") = some true) (h4 : hasDictIn K D = true)
    (h5 : findIn K (.ref D) "__class__" = some (some (.builtin "object.__class__"))) (h6 : specialIn K (.builtin "object.__class__") "__get__" = some (some (.builtin "getset_descriptor.__get__"))) (h7 : takesIn K (.builtin "object.__class__") = some true) (h8 : mroIn K D (.type "object") = some true) :
    KitX K (.ref x) (.ref D) (fun h => ∃ od, InstAt h x ox D (some od)) :=
  have old := handS_kitx_exc (x := x) (ox := ox) h1 h2 h3 h4 h5 h6 h7 h8
  { ty := fun _ _ _ ⟨_, I⟩ => I.type
    it := fun M h X ⟨_, I⟩ => by
      obtain ⟨cd, hc, _⟩ := any_some h4
      unfold clsIn at hc
      split at hc
      · rename_i c1 d1 cd1 sl1 ho
        intro A' Q' E' s' k q
        unfold isType loadHead
        exact wpAny_bind (wpAny_loadPart (k _ _ (X _ _ ho)) (wpAny_pure q))
      · cases hc
    ne := old.ne
    ca := fun X ⟨_, I⟩ k => class_of_held h1 h2 h3 h4 h5 h6 h7 h8 X I k }
end
end PySem.W
namespace DLR
open PySem PySem.Spec PyProof.Rows L2 LamX
def rIsD (K : PySem.W.Frag) (D a : Addr) (dd : Addr) : List V → Hp → VK → Prop := fun xs H Q => ∃ (fs : List (Str × V)) (c : V) (cv : Value) (b : Bool), H dd = some (.xd fs) ∧ xs = [.ref a, c] ∧ (∀ u, RelV c u → u = cv) ∧ PySem.W.kitOne K (.ref D) cv = some b ∧ Q (.bl b) H
theorem call_isD {X : Cx} {a D dd : Addr} {oe : Obj} {pn : List (Addr × Obj)} (C : ExcC X.K D) (hz : Zc (.ref D) (some dd) oe) (hf : ∃ vs, oe.data = .fields vs) : CallR (X.suite a ((a, oe) :: pn)) (.builtin "isinstance") (rIsD X.K D a dd) := by
  intro pins s σ H xs us Q I r h
  obtain ⟨fs, c, cv, b, hdd, rfl, hcv, e, q⟩ := h
  match us, r with
  | [u1, u2], .cons rx (.cons rt .nil) =>
    cases rx
    obtain rfl := hcv _ rt
    obtain ⟨hget, _⟩ := I.pin (a, oe) (List.mem_append.mpr (.inl List.mem_cons_self))
    obtain ⟨vs, hv⟩ := hf
    have hx : ObjOk X.prog X.w H s.heap dd (.xd fs) := I.hok dd _ hdd
    obtain ⟨mA, hns, _⟩ := hx
    obtain ⟨od, ho, _⟩ := lookIn_ns hns
    have J : PySem.W.InstAt s.heap a oe D (some od) := ⟨hget, hz.1, by unfold PySem.W.notCls; rw [hv] <;> rfl, by rw [hz.2]; exact ho⟩
    exact PySem.W.kia_one (PySem.W.kit_held C.hg C.hk C.hs C.hd C.ha C.hn C.ht C.hm) I.kIn ⟨_, J⟩ e (fun z => nomatch z) fun tk => ⟨.bl b, H, I.kept (t' := tk) fun _ _ z => z, rfl, q⟩
structure DeK (K : PySem.W.Frag) (mg : Str → Option Value) (DE : Addr) : Prop where
  m : mg "DrumError" = some (.ref DE)
  sp : PySem.W.specialIn K (.ref DE) "__getattribute__" = some (some (.builtin "type.__getattribute__"))
  ty : PySem.W.typeIn K (.ref DE) = some (.type "type")
  rd : PySem.W.readsIn K DE (.type "type") = true
  fi : PySem.W.findCls K (.ref DE) (.type "type") "__init__" = some (.val (.builtin "ValueError.__init__"))
section
variable {X : Cx} {e : Expr} {es : List Expr} {ta : TA} {p1 p2 pos : Pos} {DE : Addr}
theorem pe_deinit {pl : Sem Bool} (B : DeK X.K X.mg DE) (hg : Gl X "DrumError") (ha : PA X (e :: es) ta)
    (hc : eval (.Call (.Attribute (.Name "DrumError" p1) "__init__" p2) (e :: es) [] pos) X.env = (do
      let ov ← eval (.Name "DrumError" p1) X.env
      standAt p2.atName
      let (f, first) ← holding [ov] (getMethod ov "__init__" pl)
      callWith pos f first (backTo pos (starEach (e :: es) X.env)) (backToKw pos (keywordEach [] X.env))) := by rfl)
    (he : starEach (e :: es) X.env = (false, eval e X.env) :: starEach es X.env := by rfl) (hpl : (backTo pos (starEach es X.env)).any (·.1) = false := by rfl) :
    PE X (.Call (.Attribute (.Name "DrumError" p1) "__init__" p2) (e :: es) [] pos) (tVeI X.K ta) := by
  refine ⟨fun pins s σ H Q I h => PySem.W.methodCall_KW (ld_glob I hg B.m ?_ (by decide)) hc⟩
  obtain ⟨m, fr⟩ := I.fr
  refine PySem.W.method_of_cls fr I.ok.mod.kin B.sp (PySem.W.cls_val fr I.ok.mod.kin B.ty B.rd B.fi (by decide +kernel) ?_)
  show wpAny _ _ (callWith pos (Value.builtin "ValueError.__init__") [] (backTo pos (starEach (e :: es) X.env)) []) _ _ _
  refine PyProof.Rows.callWith_method1 (thn (ha.run pos pins _ σ H _ (I.tok _) h) fun us s1 ⟨vs, H1, I1, r1, a, C, ws, ev, hl, T, ea, q⟩ => ?_) he hpl
  subst ev
  match us, r1 with
  | u0 :: ur, .cons ra rr =>
    cases ra
    exact oinit_ok T I1 ea (by rw [← Paired.length rr, sizeLine_eq]; omega) fun s' J => ⟨.non, H1, J, rfl, q⟩
end
end DLR
namespace DL
open PySem PySem.Spec L2 DLR
/-! ### the errors that have fields: made and raised -/
structure ErI (K : Frg) (mg : Str → Option Value) (x : Str) (qual : Str) (C : Addr) (st : Stmt) (ps : List Str) where
  f : Addr
  fd : FuncData
  F : Fun K "__init__" qual st f fd
  b : Binds K fd ps []
  iC : PySem.W.findIn K (.ref C) "__init__" = some (some (.ref f))
  tI : PySem.W.typeIn K (.ref f) = some (.type "function")
  T : OexC K C
  m : mg x = some (.ref C)
theorem raised_eq {H : Hp} {a d : Addr} {o o1 o2 x : HO} (ha : H a = none) (hd : d ≠ a) : upd (L2.del (upd (upd (upd H a o) d o1) a o2) a) d x = upd H d x := by
  funext b
  by_cases h1 : b = d
  · rw [h1, upd_same, upd_same]
  · rw [upd_ne h1, upd_ne h1]
    by_cases h2 : b = a
    · rw [h2, L2.del_same, ha]
    · rw [L2.del_ne h2, upd_ne h2, upd_ne h1, upd_ne h2]
theorem raised_eq2 {H : Hp} {a d : Addr} {o o1 o2 o3 x : HO} (ha : H a = none) (hd : d ≠ a) : upd (L2.del (upd (upd (upd (upd H a o) d o1) a o2) d o3) a) d x = upd H d x := by
  funext b
  by_cases h1 : b = d
  · rw [h1, upd_same, upd_same]
  · rw [upd_ne h1, upd_ne h1]
    by_cases h2 : b = a
    · rw [h2, L2.del_same, ha]
    · rw [L2.del_ne h2, upd_ne h1, upd_ne h2, upd_ne h1, upd_ne h2]
def Sm (n : Int) : Prop := n.natAbs.log2 < 1920
theorem Sm.len {n : Int} (h : Sm n) : (Str.ofString (toString n)).length ≤ 1921 := by
  rw [ofString_length]
  exact int_text_length_le (by decide) h
theorem app_le {x y : Str} {m n : Nat} (h : x.length ≤ m) (g : y.length ≤ n) : (x ++ y).length ≤ m + n := by
  rw [Str.length_append]
  omega
theorem len_str (n : Nat) (x : Str) (h : x.length ≤ n) : x.length ≤ n := h
abbrev sBTInit : Stmt := inClass (top 9) 0
abbrev fsBT (line : Int) : List (Str × V) := [("line", .int line)]
def spBT (C : Addr) : Sp := fun vs H Q _ => ∃ (a : Addr) (line : Int), vs = [.ref a, .int line] ∧ H a = some (exo a C none) ∧ Sm line ∧ ∀ d, H d = none → d ≠ a → Q .non (upd (upd H d (exd d (fsBT line))) a (exo a C (some d)))
theorem toldBT {C : Addr} {line : Int} {H : Hp} {Q : XK} (hc : Sm line) (k : ∀ d H', H d = none → Same1 H H' → H' d = some (.xd (fsBT line)) → Q (.ref C) (some d) H') :
    ([.int line] : List V).length ≤ 1000 ∧ ∀ a, H a = none → spBT C (.ref a :: ([.int line] ++ [])) (upd H a (exo a C none)) (fun v H2 => v = .non ∧ ∃ (d : Addr) (fs : List (Str × V)), H2 a = some (exo a C (some d)) ∧ H2 d = some (exd d fs) ∧ H d = none ∧ Q (.ref C) (some d) (upd (L2.del H2 a) d (.xd fs))) (fun _ _ _ => False) := by
  refine ⟨by show 1 ≤ 1000; decide, fun a ha => ⟨a, line, rfl, upd_same, hc, fun d hd hne => ?_⟩⟩
  have hd0 : H d = none := by rwa [upd_ne hne] at hd
  refine ⟨rfl, d, fsBT line, upd_same, ?_, hd0, ?_⟩
  · rw [upd_ne hne, upd_same]
  · rw [raised_eq ha hne]
    exact k d _ hd0 (Same.new hd0) upd_same
section
variable {P : Program} {w : World} {K : PySem.W.Frag} {mg : Str → Option Value} {base : Heap} {C DE : Addr}
theorem scBTInit : FnScope ["self", "line"] ["self", "line"] (defScope sBTInit) := ⟨rfl, rfl, rfl, by decide +kernel, rfl, by decide +kernel, by decide +kernel⟩
theorem ok_BTInit (c : ErI K mg "BadText" "BadText.__init__" C sBTInit ["self", "line"]) (B : DeK K mg DE) (nline : PySem.W.findIn K (.ref C) "line" = some none) : FnOk P w K mg base CX0 1 c.f c.fd ["self", "line"] (spBT C) := by
  refine c.F.ok scBTInit (fun vs H Q E h => ?_) (fun cdv A outer s H vs Q E hr h => ?_)
  · obtain ⟨a, line, rfl, _⟩ := h
    rfl
  · obtain ⟨a, line, rfl, ha, hline, k⟩ := h
    refine ⟨_, (pss_cons (ps_expr (pe_deinit B (by rfl) (pa_cons (pv 0) (pa_cons (L2.pe_joined (L2.PJ.cons pe_str (L2.PJ.cons (L2.pe_fmt (pv 1)) L2.PJ.nil))) pa_nil)))) (pss_one (L2.ps_ost (pv 0) (pv 1)))), ?_⟩
    have lline := Sm.len hline
    refine ⟨_, rfl, ?_⟩
    refine ⟨_, rfl, (sz (Nat.le_trans (app_le (show (Str.empty : Str).length ≤ 0 by decide) (show (_ : Str).length ≤ 100 by decide +kernel)) (by decide))), ?_⟩
    refine ⟨_, rfl, .inr ⟨line, rfl, hline, _, rfl, (sz (Nat.le_trans (app_le (app_le (show (Str.empty : Str).length ≤ 0 by decide) (show (_ : Str).length ≤ 100 by decide +kernel)) lline) (by decide))), ?_⟩⟩
    refine ⟨a, C, _, rfl, (by show 1 ≤ 1000; decide), c.T, ha, ?_⟩
    exact ⟨_, rfl, _, rfl, a, C, rfl, c.T, nline, .inl ⟨ha, fun d hd hne => k d hd hne⟩⟩
end
abbrev sBPInit : Stmt := inClass (top 2) 0
abbrev fsBP (row : Int) (why : Str) : List (Str × V) := [("why", .str why), ("row", .int row)]
def spBP (C : Addr) : Sp := fun vs H Q _ => ∃ (a : Addr) (row : Int) (why : Str), vs = [.ref a, .int row, .str why] ∧ H a = some (exo a C none) ∧ Sm row ∧ why.length ≤ 1000 ∧ ∀ d, H d = none → d ≠ a → Q .non (upd (upd (upd H d (exd d [("row", .int row)])) a (exo a C (some d))) d (exd d (fsBP row why)))
theorem toldBP {C : Addr} {row : Int} {why : Str} {H : Hp} {Q : XK} (hc : Sm row ∧ why.length ≤ 1000) (k : ∀ d H', H d = none → Same1 H H' → H' d = some (.xd (fsBP row why)) → Q (.ref C) (some d) H') :
    ([.int row, .str why] : List V).length ≤ 1000 ∧ ∀ a, H a = none → spBP C (.ref a :: ([.int row, .str why] ++ [])) (upd H a (exo a C none)) (fun v H2 => v = .non ∧ ∃ (d : Addr) (fs : List (Str × V)), H2 a = some (exo a C (some d)) ∧ H2 d = some (exd d fs) ∧ H d = none ∧ Q (.ref C) (some d) (upd (L2.del H2 a) d (.xd fs))) (fun _ _ _ => False) := by
  refine ⟨by show 2 ≤ 1000; decide, fun a ha => ⟨a, row, why, rfl, upd_same, hc.1, hc.2, fun d hd hne => ?_⟩⟩
  have hd0 : H d = none := by rwa [upd_ne hne] at hd
  refine ⟨rfl, d, fsBP row why, ?_, upd_same, hd0, ?_⟩
  · rw [upd_ne hne.symm, upd_same]
  · rw [raised_eq2 ha hne]
    exact k d _ hd0 (Same.new hd0) upd_same
section
variable {P : Program} {w : World} {K : PySem.W.Frag} {mg : Str → Option Value} {base : Heap} {C DE : Addr}
theorem scBPInit : FnScope ["self", "row", "why"] ["self", "row", "why"] (defScope sBPInit) := ⟨rfl, rfl, rfl, by decide +kernel, rfl, by decide +kernel, by decide +kernel⟩
theorem ok_BPInit (c : ErI K mg "BadProgram" "BadProgram.__init__" C sBPInit ["self", "row", "why"]) (B : DeK K mg DE) (nrow : PySem.W.findIn K (.ref C) "row" = some none) (nwhy : PySem.W.findIn K (.ref C) "why" = some none) : FnOk P w K mg base CX0 1 c.f c.fd ["self", "row", "why"] (spBP C) := by
  refine c.F.ok scBPInit (fun vs H Q E h => ?_) (fun cdv A outer s H vs Q E hr h => ?_)
  · obtain ⟨a, row, why, rfl, _⟩ := h
    rfl
  · obtain ⟨a, row, why, rfl, ha, hrow, hwhy, k⟩ := h
    refine ⟨_, (pss_cons (ps_expr (pe_deinit B (by rfl) (pa_cons (pv 0) (pa_cons (L2.pe_joined (L2.PJ.cons pe_str (L2.PJ.cons (L2.pe_fmt (pv 1)) (L2.PJ.cons pe_str (L2.PJ.cons (L2.pe_fmt (pv 2)) L2.PJ.nil))))) pa_nil)))) (pss_cons (L2.ps_ost (pv 0) (pv 1)) (pss_one (L2.ps_ost (pv 0) (pv 2))))), ?_⟩
    have lrow := Sm.len hrow
    refine ⟨_, rfl, ?_⟩
    refine ⟨_, rfl, (sz (Nat.le_trans (app_le (show (Str.empty : Str).length ≤ 0 by decide) (show (_ : Str).length ≤ 100 by decide +kernel)) (by decide))), ?_⟩
    refine ⟨_, rfl, .inr ⟨row, rfl, hrow, _, rfl, (sz (Nat.le_trans (app_le (app_le (show (Str.empty : Str).length ≤ 0 by decide) (show (_ : Str).length ≤ 100 by decide +kernel)) lrow) (by decide))), ?_⟩⟩
    refine ⟨_, rfl, (sz (Nat.le_trans (app_le (app_le (app_le (show (Str.empty : Str).length ≤ 0 by decide) (show (_ : Str).length ≤ 100 by decide +kernel)) lrow) (show (_ : Str).length ≤ 100 by decide +kernel)) (by decide))), ?_⟩
    refine ⟨_, rfl, .inl ⟨why, rfl, sz (Nat.le_trans hwhy (by decide)), _, rfl, (sz (Nat.le_trans (app_le (app_le (app_le (app_le (show (Str.empty : Str).length ≤ 0 by decide) (show (_ : Str).length ≤ 100 by decide +kernel)) lrow) (show (_ : Str).length ≤ 100 by decide +kernel)) hwhy) (by decide))), ?_⟩⟩
    refine ⟨a, C, _, rfl, (by show 1 ≤ 1000; decide), c.T, ha, ?_⟩
    refine ⟨_, rfl, _, rfl, a, C, rfl, c.T, nrow, .inl ⟨ha, fun d hd hne => ?_⟩⟩
    refine ⟨_, rfl, _, rfl, a, C, rfl, c.T, nwhy, .inr ⟨d, _, upd_same, ?_, by show 1 ≤ 900; decide, k d hd hne⟩⟩
    rw [upd_ne hne, upd_same]
end
abbrev sBLInit : Stmt := inClass (top 3) 0
abbrev fsBL (why : Str) (at_ : Int) : List (Str × V) := [("at", .int at_), ("why", .str why)]
def spBL (C : Addr) : Sp := fun vs H Q _ => ∃ (a : Addr) (why : Str) (at_ : Int), vs = [.ref a, .str why, .int at_] ∧ H a = some (exo a C none) ∧ why.length ≤ 1000 ∧ Sm at_ ∧ ∀ d, H d = none → d ≠ a → Q .non (upd (upd (upd H d (exd d [("why", .str why)])) a (exo a C (some d))) d (exd d (fsBL why at_)))
theorem toldBL {C : Addr} {why : Str} {at_ : Int} {H : Hp} {Q : XK} (hc : why.length ≤ 1000 ∧ Sm at_) (k : ∀ d H', H d = none → Same1 H H' → H' d = some (.xd (fsBL why at_)) → Q (.ref C) (some d) H') :
    ([.str why, .int at_] : List V).length ≤ 1000 ∧ ∀ a, H a = none → spBL C (.ref a :: ([.str why, .int at_] ++ [])) (upd H a (exo a C none)) (fun v H2 => v = .non ∧ ∃ (d : Addr) (fs : List (Str × V)), H2 a = some (exo a C (some d)) ∧ H2 d = some (exd d fs) ∧ H d = none ∧ Q (.ref C) (some d) (upd (L2.del H2 a) d (.xd fs))) (fun _ _ _ => False) := by
  refine ⟨by show 2 ≤ 1000; decide, fun a ha => ⟨a, why, at_, rfl, upd_same, hc.1, hc.2, fun d hd hne => ?_⟩⟩
  have hd0 : H d = none := by rwa [upd_ne hne] at hd
  refine ⟨rfl, d, fsBL why at_, ?_, upd_same, hd0, ?_⟩
  · rw [upd_ne hne.symm, upd_same]
  · rw [raised_eq2 ha hne]
    exact k d _ hd0 (Same.new hd0) upd_same
section
variable {P : Program} {w : World} {K : PySem.W.Frag} {mg : Str → Option Value} {base : Heap} {C DE : Addr}
theorem scBLInit : FnScope ["self", "why", "at"] ["self", "why", "at"] (defScope sBLInit) := ⟨rfl, rfl, rfl, by decide +kernel, rfl, by decide +kernel, by decide +kernel⟩
theorem ok_BLInit (c : ErI K mg "BadLaying" "BadLaying.__init__" C sBLInit ["self", "why", "at"]) (B : DeK K mg DE) (nwhy : PySem.W.findIn K (.ref C) "why" = some none) (nat : PySem.W.findIn K (.ref C) "at" = some none) : FnOk P w K mg base CX0 1 c.f c.fd ["self", "why", "at"] (spBL C) := by
  refine c.F.ok scBLInit (fun vs H Q E h => ?_) (fun cdv A outer s H vs Q E hr h => ?_)
  · obtain ⟨a, why, at_, rfl, _⟩ := h
    rfl
  · obtain ⟨a, why, at_, rfl, ha, hwhy, hat, k⟩ := h
    refine ⟨_, (pss_cons (ps_expr (pe_deinit B (by rfl) (pa_cons (pv 0) (pa_cons (L2.pe_joined (L2.PJ.cons pe_str (L2.PJ.cons (L2.pe_fmt (pv 1)) (L2.PJ.cons pe_str (L2.PJ.cons (L2.pe_fmt (pv 2)) L2.PJ.nil))))) pa_nil)))) (pss_cons (L2.ps_ost (pv 0) (pv 1)) (pss_one (L2.ps_ost (pv 0) (pv 2))))), ?_⟩
    have lat := Sm.len hat
    refine ⟨_, rfl, ?_⟩
    refine ⟨_, rfl, (sz (Nat.le_trans (app_le (show (Str.empty : Str).length ≤ 0 by decide) (show (_ : Str).length ≤ 100 by decide +kernel)) (by decide))), ?_⟩
    refine ⟨_, rfl, .inl ⟨why, rfl, sz (Nat.le_trans hwhy (by decide)), _, rfl, (sz (Nat.le_trans (app_le (app_le (show (Str.empty : Str).length ≤ 0 by decide) (show (_ : Str).length ≤ 100 by decide +kernel)) hwhy) (by decide))), ?_⟩⟩
    refine ⟨_, rfl, (sz (Nat.le_trans (app_le (app_le (app_le (show (Str.empty : Str).length ≤ 0 by decide) (show (_ : Str).length ≤ 100 by decide +kernel)) hwhy) (show (_ : Str).length ≤ 100 by decide +kernel)) (by decide))), ?_⟩
    refine ⟨_, rfl, .inr ⟨at_, rfl, hat, _, rfl, (sz (Nat.le_trans (app_le (app_le (app_le (app_le (show (Str.empty : Str).length ≤ 0 by decide) (show (_ : Str).length ≤ 100 by decide +kernel)) hwhy) (show (_ : Str).length ≤ 100 by decide +kernel)) lat) (by decide))), ?_⟩⟩
    refine ⟨a, C, _, rfl, (by show 1 ≤ 1000; decide), c.T, ha, ?_⟩
    refine ⟨_, rfl, _, rfl, a, C, rfl, c.T, nwhy, .inl ⟨ha, fun d hd hne => ?_⟩⟩
    refine ⟨_, rfl, _, rfl, a, C, rfl, c.T, nat, .inr ⟨d, _, upd_same, ?_, by show 1 ≤ 900; decide, k d hd hne⟩⟩
    rw [upd_ne hne, upd_same]
end
abbrev sBEInit : Stmt := inClass (top 6) 0
abbrev fsBE (at_ : Int) : List (Str × V) := [("at", .int at_)]
def spBE (C : Addr) : Sp := fun vs H Q _ => ∃ (a : Addr) (at_ : Int), vs = [.ref a, .int at_] ∧ H a = some (exo a C none) ∧ Sm at_ ∧ ∀ d, H d = none → d ≠ a → Q .non (upd (upd H d (exd d (fsBE at_))) a (exo a C (some d)))
theorem toldBE {C : Addr} {at_ : Int} {H : Hp} {Q : XK} (hc : Sm at_) (k : ∀ d H', H d = none → Same1 H H' → H' d = some (.xd (fsBE at_)) → Q (.ref C) (some d) H') :
    ([.int at_] : List V).length ≤ 1000 ∧ ∀ a, H a = none → spBE C (.ref a :: ([.int at_] ++ [])) (upd H a (exo a C none)) (fun v H2 => v = .non ∧ ∃ (d : Addr) (fs : List (Str × V)), H2 a = some (exo a C (some d)) ∧ H2 d = some (exd d fs) ∧ H d = none ∧ Q (.ref C) (some d) (upd (L2.del H2 a) d (.xd fs))) (fun _ _ _ => False) := by
  refine ⟨by show 1 ≤ 1000; decide, fun a ha => ⟨a, at_, rfl, upd_same, hc, fun d hd hne => ?_⟩⟩
  have hd0 : H d = none := by rwa [upd_ne hne] at hd
  refine ⟨rfl, d, fsBE at_, upd_same, ?_, hd0, ?_⟩
  · rw [upd_ne hne, upd_same]
  · rw [raised_eq ha hne]
    exact k d _ hd0 (Same.new hd0) upd_same
section
variable {P : Program} {w : World} {K : PySem.W.Frag} {mg : Str → Option Value} {base : Heap} {C DE : Addr}
theorem scBEInit : FnScope ["self", "at"] ["self", "at"] (defScope sBEInit) := ⟨rfl, rfl, rfl, by decide +kernel, rfl, by decide +kernel, by decide +kernel⟩
theorem ok_BEInit (c : ErI K mg "BadPaper" "BadPaper.__init__" C sBEInit ["self", "at"]) (B : DeK K mg DE) (nat : PySem.W.findIn K (.ref C) "at" = some none) : FnOk P w K mg base CX0 1 c.f c.fd ["self", "at"] (spBE C) := by
  refine c.F.ok scBEInit (fun vs H Q E h => ?_) (fun cdv A outer s H vs Q E hr h => ?_)
  · obtain ⟨a, at_, rfl, _⟩ := h
    rfl
  · obtain ⟨a, at_, rfl, ha, hat, k⟩ := h
    refine ⟨_, (pss_cons (ps_expr (pe_deinit B (by rfl) (pa_cons (pv 0) (pa_cons (L2.pe_joined (L2.PJ.cons pe_str (L2.PJ.cons (L2.pe_fmt (pv 1)) L2.PJ.nil))) pa_nil)))) (pss_one (L2.ps_ost (pv 0) (pv 1)))), ?_⟩
    have lat := Sm.len hat
    refine ⟨_, rfl, ?_⟩
    refine ⟨_, rfl, (sz (Nat.le_trans (app_le (show (Str.empty : Str).length ≤ 0 by decide) (show (_ : Str).length ≤ 100 by decide +kernel)) (by decide))), ?_⟩
    refine ⟨_, rfl, .inr ⟨at_, rfl, hat, _, rfl, (sz (Nat.le_trans (app_le (app_le (show (Str.empty : Str).length ≤ 0 by decide) (show (_ : Str).length ≤ 100 by decide +kernel)) lat) (by decide))), ?_⟩⟩
    refine ⟨a, C, _, rfl, (by show 1 ≤ 1000; decide), c.T, ha, ?_⟩
    exact ⟨_, rfl, _, rfl, a, C, rfl, c.T, nat, .inl ⟨ha, fun d hd hne => k d hd hne⟩⟩
end
end DL
namespace DL
open PySem PySem.Spec L2 DLR
/-! ### what is no program: by data of any shape -/
def D.num : D → Bool
  | .int _ => true
  | _ => false
def D.betw (lo hi : Int) : D → Bool
  | .int i => decide (lo ≤ i) && decide (i ≤ hi)
  | _ => false
def partD : D → Nat → D
  | .tup ds, j => ds.getD j .non
  | _, _ => .non
def worthsF : D → Option Str
  | .tup ds => if ds.length ≤ 8 then (if ds.all (D.betw (-1000000) 1000000) = true then none else some "number") else some "worths"
  | _ => some "worths"
def words7 : List (Str × List Str) := [("load", ["worth", "next"]), ("add", ["worth", "next"]), ("take", ["worth", "next"]), ("store", ["worth", "next"]), ("say", ["next"]), ("test", ["next", "next"]), ("stop", [])]
def partsOf (x : Str) : Option (List Str) := words7.lookup x
def shapeF : D → Bool
  | .tup (.str x :: r) => match partsOf x with
    | some ps => decide (r.length = ps.length) && r.all D.num
    | none => false
  | _ => false
def argsF (W N : Nat) : List Str → List D → Option Str
  | n :: ns, .int i :: ds => if 0 ≤ i ∧ i < (if n = "worth" then (W : Int) else (N : Int)) then argsF W N ns ds else some n
  | _, _ => none
def rowF (W N : Nat) (d : D) : Option Str := if shapeF d = true then (match d with
  | .tup (.str x :: r) => argsF W N ((partsOf x).getD []) r
  | _ => none) else some "shape"
def rowsF (W N : Nat) : Nat → List D → Option (Nat × Str)
  | _, [] => none
  | i, d :: ds => match rowF W N d with
    | some y => some (i, y)
    | none => rowsF W N (i + 1) ds
def lenD : D → Nat
  | .tup ds => ds.length
  | .lst ds => ds.length
  | _ => 0
def progF (d : D) : Option (Int × Str) := match worthsF (partD d 0) with
  | some y => some (-1, y)
  | none => match partD d 1 with
    | .tup rs => if lenD d = 2 ∧ 1 ≤ rs.length ∧ rs.length ≤ 40 then (rowsF (lenD (partD d 0)) rs.length 0 rs).map fun q => ((q.1 : Int), q.2) else some (-1, "rows")
    | _ => some (-1, "rows")
structure PtO (K : Frg) {w : World} {mg : Str → Option Value} (Z : Pt K w mg) : Prop where
  no : ∀ x : Str, partsOf x = none → PySem.W.nsIn K Z.d x = some none
theorem parts_row {x : Str} {ps : List Str} (h : partsOf x = some ps) : ∃ r : Row, r.word = x ∧ r.parts = ps := by
  unfold partsOf words7 at h
  simp only [List.lookup_cons, List.lookup_nil] at h
  split at h
  · rename_i e
    exact ⟨.load 0 0, by rw [eq_of_beq e]; rfl, Option.some.inj h⟩
  split at h
  · rename_i e
    exact ⟨.add 0 0, by rw [eq_of_beq e]; rfl, Option.some.inj h⟩
  split at h
  · rename_i e
    exact ⟨.take 0 0, by rw [eq_of_beq e]; rfl, Option.some.inj h⟩
  split at h
  · rename_i e
    exact ⟨.store 0 0, by rw [eq_of_beq e]; rfl, Option.some.inj h⟩
  split at h
  · rename_i e
    exact ⟨.say 0, by rw [eq_of_beq e]; rfl, Option.some.inj h⟩
  split at h
  · rename_i e
    exact ⟨.test 0 0, by rw [eq_of_beq e]; rfl, Option.some.inj h⟩
  split at h
  · rename_i e
    exact ⟨.stop, by rw [eq_of_beq e]; rfl, Option.some.inj h⟩
  · cases h
def spNumD : Sp := fun vs H Q _ => ∃ (v : V) (d : D), vs = [v] ∧ At H v d ∧ Q (.bl d.num) H
def spBetweenD : Sp := fun vs H Q _ => ∃ (v : V) (d : D) (lo hi : Int), vs = [v, .int lo, .int hi] ∧ At H v d ∧ Q (.bl (d.betw lo hi)) H
def spPartD : Sp := fun vs H Q _ => ∃ (v : V) (d : D) (j : Nat), vs = [v, .int (j : Int)] ∧ At H v d ∧ ∀ u, At H u (partD d j) → Q u H
def spHasShapeD : Sp := fun vs H Q _ => ∃ (v : V) (d : D), vs = [v] ∧ At H v d ∧ d.fit ∧ ∀ H', Same1 H H' → Q (.bl (shapeF d)) H'
abbrev BadP (BP : Addr) (H : Hp) (E : XK) (r : Int) (y : Str) : Prop := ∀ d H', H d = none → Same1 H H' → H' d = some (.xd (fsBP r y)) → E (.ref BP) (some d) H'
def spCheckWorthsD (BP : Addr) : Sp := fun vs H Q E => ∃ (v : V) (d : D), vs = [v] ∧ At H v d ∧ d.fit ∧ (∀ y, worthsF d = some y → BadP BP H E (-1) y) ∧ (worthsF d = none → Q .non H)
mutual
theorem At.sm0 {H H' : Hp} (s : Same1 H H') : ∀ (d : D) (v : V), At H v d → At H' v d
  | .non, v, h => by simpa [At] using h
  | .bl b, v, h => by simpa [At] using h
  | .int i, v, h => by simpa [At] using h
  | .str x, v, h => by simpa [At] using h
  | .lst ds, v, h => by
    obtain ⟨a, vs, rfl, h1, h2⟩ : ∃ a vs, v = .ref a ∧ H a = some (.lst vs) ∧ Ats H vs ds := by simpa [At] using h
    have q := Ats.sm0 s ds vs h2
    simp only [At]
    exact ⟨a, vs, rfl, s _ _ h1, q⟩
  | .tup ds, v, h => by
    obtain ⟨a, vs, rfl, h1, h2⟩ : ∃ a vs, v = .ref a ∧ H a = some (.tup vs) ∧ Ats H vs ds := by simpa [At] using h
    have q := Ats.sm0 s ds vs h2
    simp only [At]
    exact ⟨a, vs, rfl, s _ _ h1, q⟩
theorem Ats.sm0 {H H' : Hp} (s : Same1 H H') : ∀ (ds : List D) (vs : List V), Ats H vs ds → Ats H' vs ds
  | [], [], _ => by simp [Ats]
  | d :: ds, v :: vs, h => by
    have h : At H v d ∧ Ats H vs ds := by simpa [Ats] using h
    simp only [Ats]
    exact ⟨At.sm0 s d v h.1, Ats.sm0 s ds vs h.2⟩
  | [], _ :: _, h => by simp [Ats] at h
  | _ :: _, [], h => by simp [Ats] at h
end
theorem At.numI {H : Hp} {v : V} {d : D} (h : At H v d) (n : d.num = true) : ∃ i, d = .int i ∧ v = .int i := by
  cases d with
  | int i => exact ⟨i, rfl, by simpa [At] using h⟩
  | non => cases n
  | bl b => cases n
  | str s => cases n
  | lst l => cases n
  | tup l => cases n
section
variable {P : Program} {w : World} {K : PySem.W.Frag} {mg : Str → Option Value} {base : Heap}
theorem ok_isNumberD (c : FIsNumber K mg) (T : Bt mg) : FnOk P w K mg base CX0 1 c.f c.fd ["thing"] spNumD := by
  refine c.F.ok scIsNumber (fun vs H Q E h => ?_) (fun cdv A outer s H vs Q E hr h => ?_)
  · obtain ⟨v, d, rfl, _⟩ := h
    rfl
  · obtain ⟨v, d, rfl, hv, k⟩ := h
    refine ⟨_, (pss_one (ps_ret (pe_and (pe_callB call_isi (by rfl) T.isinstance (by decide +kernel) (pa_cons (pv 0) (pa_cons (pe_bltn (v := .ty "int") (by rfl) T.int (by decide +kernel) rfl) pa_nil))) (pe_one (pe_not (pe_callB call_isi (by rfl) T.isinstance (by decide +kernel) (pa_cons (pv 0) (pa_cons (pe_bltn (v := .ty "bool") (by rfl) T.bool (by decide +kernel) rfl) pa_nil)))))))), ?_⟩
    cases d with
    | int i =>
      refine ⟨_, rfl, _, _, _, _, true, rfl, .ty _, hv.ty, kit_ty (by dsimp only [DL.D.ty]; decide +kernel), _, rfl, ?_⟩
      exact ⟨_, rfl, _, _, _, _, false, rfl, .ty _, hv.ty, kit_ty (by dsimp only [DL.D.ty]; decide +kernel), _, rfl, k⟩
    | bl b =>
      refine ⟨_, rfl, _, _, _, _, true, rfl, .ty _, hv.ty, kit_ty (by dsimp only [DL.D.ty]; decide +kernel), _, rfl, ?_⟩
      exact ⟨_, rfl, _, _, _, _, true, rfl, .ty _, hv.ty, kit_ty (by dsimp only [DL.D.ty]; decide +kernel), _, rfl, k⟩
    | non => exact ⟨_, rfl, _, _, _, _, false, rfl, .ty _, hv.ty, kit_ty (by dsimp only [DL.D.ty]; decide +kernel), _, rfl, k⟩
    | str x => exact ⟨_, rfl, _, _, _, _, false, rfl, .ty _, hv.ty, kit_ty (by dsimp only [DL.D.ty]; decide +kernel), _, rfl, k⟩
    | lst l => exact ⟨_, rfl, _, _, _, _, false, rfl, .ty _, hv.ty, kit_ty (by dsimp only [DL.D.ty]; decide +kernel), _, rfl, k⟩
    | tup l => exact ⟨_, rfl, _, _, _, _, false, rfl, .ty _, hv.ty, kit_ty (by dsimp only [DL.D.ty]; decide +kernel), _, rfl, k⟩
theorem ok_isBetweenD (c : FIsBetween K mg) (cIsNumber : FIsNumber K mg) (T : Bt mg) : FnOk P w K mg base CX0 2 c.f c.fd ["thing", "low", "high"] spBetweenD := by
  have GIsNumber : FnOk P w K mg base CX0 1 cIsNumber.f cIsNumber.fd ["thing"] spNumD := ok_isNumberD cIsNumber T
  refine c.F.ok scIsBetween (fun vs H Q E h => ?_) (fun cdv A outer s H vs Q E hr h => ?_)
  · obtain ⟨v, d, lo, hi, rfl, _⟩ := h
    rfl
  · obtain ⟨v, d, lo, hi, rfl, hv, k⟩ := h
    refine ⟨_, (pss_one (ps_ret (pe_and (pe_call GIsNumber (hr.mono (by first | omega | decide)) (by rfl) cIsNumber.m cIsNumber.F.kp cIsNumber.b .nil pass0 (pa_cons (pv 0) pa_nil)) (pe_one (pe_chain op_le op_le (pv 1) (pv 0) (pv 2)))))), ?_⟩
    refine ⟨_, rfl, v, d, rfl, hv, _, rfl, ?_⟩
    cases hn : d.num with
    | true =>
      obtain ⟨i, rfl, rfl⟩ := hv.numI hn
      refine ⟨_, rfl, _, rfl, _, _, rfl, rfl, _, rfl, ?_⟩
      have k : Q (.bl (decide (lo ≤ i) && decide (i ≤ hi))) H := k
      cases h1 : decide (lo ≤ i) with
      | true =>
        rw [h1] at k
        exact iteT ⟨_, rfl, _, _, rfl, rfl, k⟩
      | false =>
        rw [h1] at k
        exact iteF k
    | false =>
      have e : d.betw lo hi = false := by cases d <;> first | rfl | cases hn
      rw [e] at k
      exact k
theorem ok_partD (c : FPart K mg) (T : Bt mg) : FnOk P w K mg base CX0 1 c.f c.fd ["whole", "at"] spPartD := by
  refine c.F.ok scPart (fun vs H Q E h => ?_) (fun cdv A outer s H vs Q E hr h => ?_)
  · obtain ⟨v, d, j, rfl, _⟩ := h
    rfl
  · obtain ⟨v, d, j, rfl, hv, k⟩ := h
    refine ⟨_, (pss_cons (ps_if (PW.pt (pw_and (pt_val (pe_callB call_isi (by rfl) T.isinstance (by decide +kernel) (pa_cons (pv 0) (pa_cons (pe_bltn (v := .ty "tuple") (by rfl) T.tuple (by decide +kernel) rfl) pa_nil)))) (pw_and1 (pt_cmpR op_lt (pv 1) (pe_callB call_len_seq (by rfl) T.len PySem.boot_len (pa_cons (pv 0) pa_nil)) (nomark _)))))
          (pss_one (ps_ret (pe_ix ix_tup (pv 0) (pv 1) (fun _ _ => rfl))))
          pss_nil)
      (pss_one (ps_ret pe_non))), ?_⟩
    have hnon : partD d j = .non → Q .non H := fun e => k .non (by rw [e]; simp [At])
    cases d with
    | tup ds =>
      obtain ⟨a, xs, rfl, h1, h2⟩ : ∃ a vs, v = .ref a ∧ H a = some (.tup vs) ∧ Ats H vs ds := by simpa [At] using hv
      have hl := h2.len
      refine ⟨_, rfl, _, _, _, _, true, rfl, .ty _, .base (.tup h1), kit_ty (by decide +kernel), _, rfl, ?_⟩
      refine ⟨_, rfl, _, rfl, a, _, rfl, .inr (SqT.of h1), _, _, rfl, rfl, _, rfl, ?_⟩
      by_cases hj : j < xs.length
      · obtain ⟨u, x, g1, g2, g3⟩ := h2.get j (by omega)
        rw [decide_eq_true (show (j : Int) < (xs.length : Int) by omega)]
        refine iteT ⟨_, rfl, _, rfl, a, _, _, _, rfl, rfl, SqT.of h1, atI_nat g1, k u ?_⟩
        show At H u (ds.getD j .non)
        rw [List.getD_eq_getElem?_getD, g2]
        exact g3
      · rw [decide_eq_false (show ¬ (j : Int) < (xs.length : Int) by omega)]
        refine iteF (hnon ?_)
        show ds.getD j .non = .non
        rw [List.getD_eq_getElem?_getD, List.getElem?_eq_none (by omega)]
        rfl
    | int i => exact ⟨_, rfl, _, _, _, _, false, rfl, .ty _, hv.ty, kit_ty (by dsimp only [DL.D.ty]; decide +kernel), _, rfl, iteF (hnon rfl)⟩
    | bl b => exact ⟨_, rfl, _, _, _, _, false, rfl, .ty _, hv.ty, kit_ty (by dsimp only [DL.D.ty]; decide +kernel), _, rfl, iteF (hnon rfl)⟩
    | non => exact ⟨_, rfl, _, _, _, _, false, rfl, .ty _, hv.ty, kit_ty (by dsimp only [DL.D.ty]; decide +kernel), _, rfl, iteF (hnon rfl)⟩
    | str x => exact ⟨_, rfl, _, _, _, _, false, rfl, .ty _, hv.ty, kit_ty (by dsimp only [DL.D.ty]; decide +kernel), _, rfl, iteF (hnon rfl)⟩
    | lst l => exact ⟨_, rfl, _, _, _, _, false, rfl, .ty _, hv.ty, kit_ty (by dsimp only [DL.D.ty]; decide +kernel), _, rfl, iteF (hnon rfl)⟩
theorem ok_hasShapeD (c : FHasShape K mg) (cPart : FPart K mg) (cIsNumber : FIsNumber K mg) (T : Bt mg) (Z : Pt K w mg) (O : PtO K Z) : FnOk P w K mg base CX0 2 c.f c.fd ["row"] spHasShapeD := by
  have GPart : FnOk P w K mg base CX0 1 cPart.f cPart.fd ["whole", "at"] spPartD := ok_partD cPart T
  have GIsNumber : FnOk P w K mg base CX0 1 cIsNumber.f cIsNumber.fd ["thing"] spNumD := ok_isNumberD cIsNumber T
  refine c.F.ok scHasShape (fun vs H Q E h => ?_) (fun cdv A outer s H vs Q E hr h => ?_)
  · obtain ⟨v, d, rfl, _⟩ := h
    rfl
  · obtain ⟨v, d, rfl, hv, hfit, k⟩ := h
    refine ⟨_, (pss_cons (ps_set (i := 1) scHasShape.nd rfl (Or.inl rfl) (pe_call GPart (hr.mono (by first | omega | decide)) (by rfl) cPart.m cPart.F.kp cPart.b .nil pass0 (pa_cons (pv 0) (pa_cons pe_int pa_nil))))
      (pss_cons (ps_if (PW.pt (pw_or (pt_not (pt_val (pe_callB call_isi (by rfl) T.isinstance (by decide +kernel) (pa_cons (pv 1) (pa_cons (pe_bltn (v := .ty "str") (by rfl) T.str (by decide +kernel) rfl) pa_nil))))) (pw_or1 (pt_cmpR (op_notIn_kd Z.kd) (pv 1) (pe_glob (v := .ref Z.d) rfl Z.m rfl) rfl))))
          (pss_one (ps_ret pe_bl))
          pss_nil)
      (pss_one (ps_ret (pe_and (pe_cmpR op_eq (pe_callB call_len_seq (by rfl) T.len PySem.boot_len (pa_cons (pv 0) pa_nil)) (pe_op op_add (pe_callB call_len_seq (by rfl) T.len PySem.boot_len (pa_cons (pe_ix ix_kdict (pe_glob (v := .ref Z.d) rfl Z.m rfl) (pv 1) (fun _ _ => rfl)) pa_nil)) pe_int) (nomark _)) (pe_one (pe_callB (cr_all rfl) (by rfl) T.all (by decide +kernel) (pa_cons (pe_lc (own := [("thing", 2)]) (g := gName 2) (tt := tYes) rfl scHasShape.nd (pi_tup (pe_slice sl_tupS (pv 0) (po_some pe_int) po_none)) (blkOk_by (N := nHasShape) (sc := defScope sHasShape) (by decide +kernel)) (fun _ _ _ _ _ => (pg_name (i := 2) scHasShape.nd rfl (Or.inl rfl))) (fun _ _ _ _ _ => pts_nil) (fun _ _ _ _ _ => (pe_call GIsNumber (hr.mono (by first | omega | decide)) (by rfl) cIsNumber.m cIsNumber.F.kp cIsNumber.b .nil pass0 (pa_cons (pv 2) pa_nil)))) pa_nil)))))))), ?_⟩
    refine ⟨_, rfl, v, d, 0, rfl, hv, fun u hu => ?_⟩
    have no : (∀ x, partD d 0 ≠ .str x) → shapeF d = false := fun n => by
      cases d with
      | tup ds =>
        cases ds with
        | nil => rfl
        | cons y r =>
          cases y with
          | str x => exact absurd rfl (n x)
          | _ => rfl
      | _ => rfl
    have no2 : ∀ b, kitB (partD d 0).ty "str" = some b → b = false → shapeF d = false := fun b hb hf => no fun x e => by
      rw [e] at hb
      have z : kitB (D.str x).ty "str" = some true := by dsimp only [DL.D.ty]; decide +kernel
      rw [z] at hb
      cases hb
      cases hf
    cases hy : partD d 0 with
    | str x =>
      rw [hy] at hu
      obtain ⟨r, rfl⟩ : ∃ r, d = .tup (.str x :: r) := by
        cases d with
        | tup ds =>
          cases ds with
          | nil => cases hy
          | cons y r =>
            have e : y = .str x := hy
            exact ⟨r, by rw [e]⟩
        | _ => cases hy
      obtain ⟨a, vs, rfl, ha, hds⟩ : ∃ a vs, v = .ref a ∧ H a = some (.tup vs) ∧ Ats H vs (.str x :: r) := by simpa [At] using hv
      have hvl := hds.len
      obtain ⟨v0, ws, rfl⟩ : ∃ v0 ws, vs = v0 :: ws := by
        cases vs with
        | nil => simp at hvl
        | cons v0 ws => exact ⟨v0, ws, rfl⟩
      have hds : At H v0 (.str x) ∧ Ats H ws r := by simpa [Ats] using hds
      have eu : u = .str x := by simpa [At] using hu
      subst eu
      refine ⟨_, rfl, _, _, _, _, true, rfl, .ty _, hu.ty, kit_ty (by dsimp only [DL.D.ty]; decide +kernel), _, rfl, ?_⟩
      cases hp : partsOf x with
      | none =>
        have es : shapeF (.tup (.str x :: r)) = false := by
          show (match partsOf x with | some ps => decide (r.length = ps.length) && r.all D.num | none => false) = false
          rw [hp]
        rw [es] at k
        exact ⟨_, rfl, _, _, rfl, rfl, O.no x hp, _, rfl, k H (Same.refl _)⟩
      | some ps =>
        have es : shapeF (.tup (.str x :: r)) = (decide (r.length = ps.length) && r.all D.num) := by
          show (match partsOf x with | some ps => decide (r.length = ps.length) && r.all D.num | none => false) = _
          rw [hp]
        rw [es] at k
        obtain ⟨r0, rw0, rp0⟩ := parts_row hp
        obtain ⟨t, z1, z2, z3⟩ := Z.get r0
        rw [rw0] at z1 z2
        rw [rp0] at z3
        refine ⟨_, rfl, _, _, rfl, rfl, z1, _, rfl, ?_⟩
        refine ⟨_, rfl, a, _, rfl, .inr (SqT.of ha), _, rfl, Z.d, _, _, rfl, rfl, z2, t, _, rfl, .inr (z3 H), _, _, rfl, rfl, rfl, _, rfl, ?_⟩
        have hwl := hds.2.len
        have hll := (D.fit_of (.inr rfl) hfit).1
        have hll : r.length + 1 ≤ 100000 := hll
        by_cases hlen : r.length = ps.length
        · rw [decide_eq_true (show V.int (((v0 :: ws).length : Nat) : Int) = V.int (((ps.map V.str).length : Int) + 1) by rw [List.length_cons, List.length_map, hwl, hlen]; rfl)]
          rw [decide_eq_true hlen, Bool.true_and] at k
          refine iteT ⟨_, rfl, _, rfl, a, _, rfl, ha, fun t2 H2 s2 e2 => ?_⟩
          rw [drop1] at e2
          have e2 : H2 t2 = some (.tup ws) := e2
          refine ⟨t2, rfl, ⟨_, SqT.of e2⟩, fun D hD => ?_⟩
          refine lc_tup (K := K) (a := t2) (xs := ws) (fun i H' => H' D = some (.lst (((r.take i).map DL.D.num).map V.bl)) ∧ Same1 H2 H') ⟨upd_same, Same.new hD⟩ (fun i H' _ ⟨_, q⟩ => SqT.of (q _ _ e2)) ?_ ?_
          · rintro i x' H3 hi ⟨hd, s3⟩
            have hil := (List.getElem?_eq_some_iff.mp hi).1
            obtain ⟨u, y, g1, g2, g3⟩ := hds.2.get i (by omega)
            rw [hi] at g1
            have e := Option.some.inj g1
            subst e
            refine ⟨rfl, _, rfl, x', y, rfl, At.sm0 (s2.trans s3) y x' g3, _, hd, szl (by rw [List.length_map, List.length_map, List.length_take]; omega), ?_, Same.mut s3 hD⟩
            rw [upd_same, List.take_add_one, g2, List.map_append, List.map_append]
            rfl
          · rintro H3 ⟨hd, s3⟩
            rw [hwl, List.take_length] at hd
            refine ⟨D, _, rfl, SqL.of hd, ?_⟩
            have ea : (r.map DL.D.num).all id = r.all DL.D.num := by
              rw [List.all_map]
              rfl
            rw [ea]
            exact k _ (s2.trans s3)
        · rw [decide_eq_false (show ¬ V.int (((v0 :: ws).length : Nat) : Int) = V.int (((ps.map V.str).length : Int) + 1) by
            intro z
            injection z with z
            rw [List.length_cons, List.length_map, hwl] at z
            omega)]
          rw [decide_eq_false hlen, Bool.false_and] at k
          exact iteF (k H (Same.refl _))
    | non =>
      rw [hy] at hu
      rw [no fun x e => by rw [hy] at e; cases e] at k
      exact ⟨_, rfl, _, _, _, _, false, rfl, .ty _, hu.ty, kit_ty (by dsimp only [DL.D.ty]; decide +kernel), _, rfl, k H (Same.refl _)⟩
    | bl b =>
      rw [hy] at hu
      rw [no fun x e => by rw [hy] at e; cases e] at k
      exact ⟨_, rfl, _, _, _, _, false, rfl, .ty _, hu.ty, kit_ty (by dsimp only [DL.D.ty]; decide +kernel), _, rfl, k H (Same.refl _)⟩
    | int i =>
      rw [hy] at hu
      rw [no fun x e => by rw [hy] at e; cases e] at k
      exact ⟨_, rfl, _, _, _, _, false, rfl, .ty _, hu.ty, kit_ty (by dsimp only [DL.D.ty]; decide +kernel), _, rfl, k H (Same.refl _)⟩
    | lst l =>
      rw [hy] at hu
      rw [no fun x e => by rw [hy] at e; cases e] at k
      exact ⟨_, rfl, _, _, _, _, false, rfl, .ty _, hu.ty, kit_ty (by dsimp only [DL.D.ty]; decide +kernel), _, rfl, k H (Same.refl _)⟩
    | tup l =>
      rw [hy] at hu
      rw [no fun x e => by rw [hy] at e; cases e] at k
      exact ⟨_, rfl, _, _, _, _, false, rfl, .ty _, hu.ty, kit_ty (by dsimp only [DL.D.ty]; decide +kernel), _, rfl, k H (Same.refl _)⟩
end
end DL
namespace DL
open PySem PySem.Spec L2 DLR
abbrev IBP (K : Frg) (mg : Str → Option Value) (C : Addr) := ErI K mg "BadProgram" "BadProgram.__init__" C sBPInit ["self", "row", "why"]
theorem small_m1 : Sm (-1) := by unfold Sm; decide
theorem small_nat {n : Nat} (h : n < 1000000) : Sm (n : Int) := by
  unfold Sm
  show n.log2 < 1920
  by_cases e : n = 0
  · subst e
    decide
  · exact Nat.lt_of_lt_of_le ((Nat.log2_lt e).mpr (Nat.lt_of_lt_of_le h (by decide : 1000000 ≤ 2 ^ 20))) (by decide)
def spCheckRowD (BP : Addr) : Sp := fun vs H Q E => ∃ (v : V) (d : D) (c : Addr) (n W N : Nat) (kvs : List (Key × V)), vs = [v, .int (n : Int), .ref c] ∧ At H v d ∧ d.fit ∧ n < 1000000 ∧
  H c = some (.dK kvs) ∧ valV kvs kWo = some (.int (W : Int)) ∧ valV kvs kNx = some (.int (N : Int)) ∧ (∀ y, rowF W N d = some y → BadP BP H E (n : Int) y) ∧ (rowF W N d = none → ∀ H', Same1 H H' → Q .non H')
def spCheckProgramD (BP : Addr) : Sp := fun vs H Q E => ∃ (v : V) (d : D), vs = [v] ∧ At H v d ∧ d.fit ∧ (∀ r y, progF d = some (r, y) → BadP BP H E r y) ∧ (progF d = none → ∀ H', Same1 H H' → Q .non H')
theorem parts_two {x : Str} {ps : List Str} (h : partsOf x = some ps) {n : Str} (hn : n ∈ ps) : n = "worth" ∨ n = "next" := by
  obtain ⟨r, _, rfl⟩ := parts_row h
  cases r <;> simp [Row.parts] at hn <;> first | exact hn | exact .inr hn
theorem parts_short {x : Str} {ps : List Str} (h : partsOf x = some ps) {n : Str} (hn : n ∈ ps) : n.length ≤ 1000 := by
  rcases parts_two h hn with rfl | rfl <;> decide +kernel
theorem part_fit {d : D} (h : d.fit) (j : Nat) : (partD d j).fit := by
  cases d with
  | tup ds =>
    show (ds.getD j .non).fit
    rw [List.getD_eq_getElem?_getD]
    cases q : ds[j]? with
    | none => simp [D.fit]
    | some z => exact fitL_iff.mp (D.fit_of (.inr rfl) h).2 z (List.mem_of_getElem? q)
  | _ => simp [partD, D.fit]
theorem BadP.to {BP : Addr} {H H1 : Hp} {E : XK} {r : Int} {y : Str} (h : BadP BP H E r y) (s : Same1 H H1) : BadP BP H1 E r y := fun d H' hd s' e => h d H' (s.free hd) (s.trans s') e
section
variable {P : Program} {w : World} {K : PySem.W.Frag} {mg : Str → Option Value} {base : Heap} {CB : Addr}
theorem ok_checkWorthsD (BP : IBP K mg CB) (GBP : FnOk P w K mg base CX0 1 BP.f BP.fd ["self", "row", "why"] (spBP CB)) (c : FCheckWorths K mg) (cIsBetween : FIsBetween K mg) (cIsNumber : FIsNumber K mg) (T : Bt mg) (C : Cn mg) : FnOk P w K mg base (L2.CX P w) 3 c.f c.fd ["worths"] (spCheckWorthsD CB) := by
  have GIsBetween : FnOk P w K mg base CX0 2 cIsBetween.f cIsBetween.fd ["thing", "low", "high"] spBetweenD := ok_isBetweenD cIsBetween cIsNumber T
  refine c.F.okX scCheckWorths (fun vs H Q E h => ?_) (fun cdv A outer s H vs Q E hr h => ?_)
  · obtain ⟨v, d, rfl, _⟩ := h
    rfl
  · obtain ⟨v, d, rfl, hv, hfit, ke, k⟩ := h
    refine ⟨_, (pss_cons (ps_if (PW.pt (pw_or (pt_not (pt_val (pe_callB call_isi (by rfl) T.isinstance (by decide +kernel) (pa_cons (pv 0) (pa_cons (pe_bltn (v := .ty "tuple") (by rfl) T.tuple (by decide +kernel) rfl) pa_nil))))) (pw_or1 (pt_cmpR op_gt (pe_callB call_len_seq (by rfl) T.len PySem.boot_len (pa_cons (pv 0) pa_nil)) (pe_glob rfl C.mW relI) (nomark _)))))
          (pss_one (ps_raise rfl (takes_of rfl rfl rfl rfl) (L2.pmk_oex BP.T BP.iC BP.tI GBP (hr.mono (by first | omega | decide)) BP.b .nil pass0 (by rfl) BP.m (pa_cons (pe_un un_neg pe_int) (pa_cons pe_str pa_nil)))))
          pss_nil)
      (pss_one (ps_for (L2.passes_of rfl) rfl (pi_tup (pv 0)) (pg_name (i := 1) scCheckWorths.nd rfl (Or.inl rfl))
          (pss_one (ps_if (pt_not (pt_val (pe_call GIsBetween (hr.mono (by first | omega | decide)) (by rfl) cIsBetween.m cIsBetween.F.kp cIsBetween.b .nil pass0 (pa_cons (pv 1) (pa_cons (pe_un un_neg (pe_glob rfl C.mN relI)) (pa_cons (pe_glob rfl C.mN relI) pa_nil))))))
              (pss_one (ps_raise rfl (takes_of rfl rfl rfl rfl) (L2.pmk_oex BP.T BP.iC BP.tI GBP (hr.mono (by first | omega | decide)) BP.b .nil pass0 (by rfl) BP.m (pa_cons (pe_un un_neg pe_int) (pa_cons pe_str pa_nil)))))
              pss_nil))))), ?_⟩
    cases d with
    | tup ds =>
      obtain ⟨a, xs, rfl, h1, h2⟩ : ∃ a vs, v = .ref a ∧ H a = some (.tup vs) ∧ Ats H vs ds := by simpa [At] using hv
      have hl := h2.len
      refine ⟨_, rfl, _, _, _, _, true, rfl, .ty _, .base (.tup h1), kit_ty (by decide +kernel), _, rfl, ?_⟩
      refine ⟨_, rfl, a, _, rfl, .inr (SqT.of h1), _, _, rfl, rfl, _, rfl, ?_⟩
      by_cases h8 : ds.length ≤ 8
      · rw [decide_eq_false (show ¬ (8 : Int) < (xs.length : Int) by omega)]
        refine iteF ⟨_, rfl, a, rfl, ⟨_, SqT.of h1⟩, for_tup (K := K) (a := a) (xs := xs) (fun i σ H' => ∃ x : Option V, σ = [some (.ref a), x] ∧ H' = H ∧ (ds.take i).all (D.betw (-1000000) 1000000) = true) ⟨_, rfl, rfl, rfl⟩ (fun i σ H' _ ⟨_, _, e, _⟩ => by rw [e]; exact SqT.of h1) ?_ ?_⟩
        · rintro i x σ H' hi ⟨y, rfl, rfl, hall⟩
          have hil := (List.getElem?_eq_some_iff.mp hi).1
          obtain ⟨u, z, g1, g2, g3⟩ := h2.get i (by omega)
          rw [hi] at g1
          have e := Option.some.inj g1
          subst e
          refine ⟨_, rfl, _, rfl, x, z, _, _, rfl, g3, _, rfl, ?_⟩
          cases hb : z.betw (-1000000) 1000000 with
          | true =>
            refine iteF ⟨_, rfl, rfl, ?_⟩
            rw [List.take_add_one, g2, List.all_append, hall]
            show (true && (z.betw (-1000000) 1000000 && true)) = true
            rw [hb]
            rfl
          | false =>
            refine iteT ⟨_, rfl, toldBP ⟨small_m1, by decide +kernel⟩ (ke _ ?_)⟩
            show (if ds.length ≤ 8 then _ else _) = _
            rw [if_pos h8, if_neg fun q => ?_]
            have q2 := List.all_eq_true.mp q z (List.mem_of_getElem? g2)
            rw [hb] at q2
            cases q2
        · rintro σ H' ⟨y, rfl, rfl, hall⟩
          rw [hl, List.take_length] at hall
          exact k (by show (if ds.length ≤ 8 then _ else _) = _; rw [if_pos h8, if_pos hall])
      · rw [decide_eq_true (show (8 : Int) < (xs.length : Int) by omega)]
        refine iteT ⟨_, rfl, toldBP ⟨small_m1, by decide +kernel⟩ (ke _ ?_)⟩
        show (if ds.length ≤ 8 then _ else _) = _
        rw [if_neg h8]
    | non => exact ⟨_, rfl, _, _, _, _, false, rfl, .ty _, hv.ty, kit_ty (by dsimp only [DL.D.ty]; decide +kernel), _, rfl, iteT ⟨_, rfl, toldBP ⟨small_m1, by decide +kernel⟩ (ke _ rfl)⟩⟩
    | bl b => exact ⟨_, rfl, _, _, _, _, false, rfl, .ty _, hv.ty, kit_ty (by dsimp only [DL.D.ty]; decide +kernel), _, rfl, iteT ⟨_, rfl, toldBP ⟨small_m1, by decide +kernel⟩ (ke _ rfl)⟩⟩
    | int i => exact ⟨_, rfl, _, _, _, _, false, rfl, .ty _, hv.ty, kit_ty (by dsimp only [DL.D.ty]; decide +kernel), _, rfl, iteT ⟨_, rfl, toldBP ⟨small_m1, by decide +kernel⟩ (ke _ rfl)⟩⟩
    | str x => exact ⟨_, rfl, _, _, _, _, false, rfl, .ty _, hv.ty, kit_ty (by dsimp only [DL.D.ty]; decide +kernel), _, rfl, iteT ⟨_, rfl, toldBP ⟨small_m1, by decide +kernel⟩ (ke _ rfl)⟩⟩
    | lst l => exact ⟨_, rfl, _, _, _, _, false, rfl, .ty _, hv.ty, kit_ty (by dsimp only [DL.D.ty]; decide +kernel), _, rfl, iteT ⟨_, rfl, toldBP ⟨small_m1, by decide +kernel⟩ (ke _ rfl)⟩⟩
theorem ok_checkRowD (BP : IBP K mg CB) (GBP : FnOk P w K mg base CX0 1 BP.f BP.fd ["self", "row", "why"] (spBP CB)) (c : FCheckRow K mg) (cHasShape : FHasShape K mg) (cPart : FPart K mg) (cIsNumber : FIsNumber K mg) (T : Bt mg) (Z : Pt K w mg) (O : PtO K Z) : FnOk P w K mg base (L2.CX P w) 3 c.f c.fd ["row", "number", "counts"] (spCheckRowD CB) := by
  have GHasShape : FnOk P w K mg base CX0 2 cHasShape.f cHasShape.fd ["row"] spHasShapeD := ok_hasShapeD cHasShape cPart cIsNumber T Z O
  refine c.F.okX scCheckRow (fun vs H Q E h => ?_) (fun cdv A outer s H vs Q E hr h => ?_)
  · obtain ⟨v, d, c, n, W, N, kvs, rfl, _⟩ := h
    rfl
  · obtain ⟨v, d, cc, n, W, N, kvs, rfl, hv, hfit, hn6, hc, hW, hN, ke, k⟩ := h
    refine ⟨_, (pss_cons (ps_if (pt_not (pt_val (pe_call GHasShape (hr.mono (by first | omega | decide)) (by rfl) cHasShape.m cHasShape.F.kp cHasShape.b .nil pass0 (pa_cons (pv 0) pa_nil))))
          (pss_one (ps_raise rfl (takes_of rfl rfl rfl rfl) (L2.pmk_oex BP.T BP.iC BP.tI GBP (hr.mono (by first | omega | decide)) BP.b .nil pass0 (by rfl) BP.m (pa_cons (pv 1) (pa_cons pe_str pa_nil)))))
          pss_nil)
      (pss_one (ps_for (L2.passes_of rfl) rfl (RZ.pi_zipA (by rfl) T.zip (pa_cons (pe_ix ix_kdict (pe_glob (v := .ref Z.d) rfl Z.m rfl) (pe_ix ix_tup (pv 0) pe_int (fun _ _ => rfl)) (fun _ _ => rfl)) (pa_cons (pe_slice sl_tupS (pv 0) (po_some pe_int) po_none) pa_nil))) (pg_tup rfl (pgs_cons (pg_name (i := 3) scCheckRow.nd rfl (Or.inl rfl)) (pgs_cons (pg_name (i := 4) scCheckRow.nd rfl (Or.inl rfl)) pgs_nil)))
          (pss_one (ps_if (pt_not (pt_chain op_le op_lt pe_int (pv 4) (pe_dget (hu_of hr) (pv 2) (pv 3) (fun _ _ => rfl))))
              (pss_one (ps_raise rfl (takes_of rfl rfl rfl rfl) (L2.pmk_oex BP.T BP.iC BP.tI GBP (hr.mono (by first | omega | decide)) BP.b .nil pass0 (by rfl) BP.m (pa_cons (pv 1) (pa_cons (pv 3) pa_nil)))))
              pss_nil))))), ?_⟩
    refine ⟨_, rfl, v, d, rfl, hv, hfit, fun H1 s1 => ⟨_, rfl, ?_⟩⟩
    cases hs : shapeF d with
    | false =>
      have er : rowF W N d = some "shape" := by
        unfold rowF
        rw [hs]
        rfl
      exact iteT ⟨_, rfl, toldBP ⟨small_nat hn6, by decide +kernel⟩ ((ke _ er).to s1)⟩
    | true =>
      refine iteF ?_
      obtain ⟨x, r, rfl⟩ : ∃ x r, d = .tup (.str x :: r) := by
        cases d with
        | tup ds =>
          cases ds with
          | nil => cases hs
          | cons y r =>
            cases y with
            | str x => exact ⟨x, r, rfl⟩
            | _ => cases hs
        | _ => cases hs
      obtain ⟨a, vs, rfl, ha, hds⟩ : ∃ a vs, v = .ref a ∧ H a = some (.tup vs) ∧ Ats H vs (.str x :: r) := by simpa [At] using hv
      have hvl := hds.len
      obtain ⟨v0, ws, rfl⟩ : ∃ v0 ws, vs = v0 :: ws := by
        cases vs with
        | nil => simp at hvl
        | cons v0 ws => exact ⟨v0, ws, rfl⟩
      have hds : At H v0 (.str x) ∧ Ats H ws r := by simpa [Ats] using hds
      have ev0 : v0 = .str x := by simpa [At] using hds.1
      subst ev0
      have hwl := hds.2.len
      obtain ⟨ps, hp, hlen, hnum⟩ : ∃ ps, partsOf x = some ps ∧ r.length = ps.length ∧ r.all D.num = true := by
        have hs : (match partsOf x with | some ps => decide (r.length = ps.length) && r.all D.num | none => false) = true := hs
        cases hp : partsOf x with
        | none => rw [hp] at hs; cases hs
        | some ps =>
          rw [hp] at hs
          have hs : (decide (r.length = ps.length) && r.all D.num) = true := hs
          obtain ⟨q1, q2⟩ := Bool.and_eq_true_iff.mp hs
          exact ⟨ps, rfl, of_decide_eq_true q1, q2⟩
      obtain ⟨r0, rw0, rp0⟩ := parts_row hp
      obtain ⟨t, z1, z2, z3⟩ := Z.get r0
      rw [rw0] at z1 z2
      rw [rp0] at z3
      have erow : rowF W N (.tup (.str x :: r)) = argsF W N ps r := by
        show (if shapeF (.tup (.str x :: r)) = true then argsF W N ((partsOf x).getD []) r else some "shape") = _
        rw [if_pos hs, hp]
        rfl
      rw [erow] at ke k
      have ha1 := s1 _ _ ha
      refine ⟨_, rfl, a, _, _, _, rfl, rfl, SqT.of ha1, at0, Z.d, _, _, rfl, rfl, z2, _, rfl, _, rfl, a, _, rfl, ha1, fun t2 H2 s2 e2 => ?_⟩
      rw [drop1] at e2
      have e2 : H2 t2 = some (.tup ws) := e2
      have S2 := s1.trans s2
      refine ⟨t, t2, _, _, rfl, .inr ⟨z3 H2, SqT.of e2, RZ.for_zipT (by rw [List.length_map]; omega) (fun i σ H' => ∃ x3 x4 : Option V, σ = [some (.ref a), some (.int (n : Int)), some (.ref cc), x3, x4] ∧ Same1 H2 H' ∧ argsF W N ps r = argsF W N (ps.drop i) (r.drop i)) ⟨none, none, rfl, Same.refl _, rfl⟩
        (fun i σ H' ⟨_, _, _, q, _⟩ => ⟨z3 H', SqT.of (q _ _ e2)⟩) ?_ ?_⟩⟩
      · rintro i xv y T' σ H3 hx hy ⟨x3, x4, rfl, s3, eA⟩ hT'
        rw [List.getElem?_map] at hx
        cases hpi : ps[i]? with
        | none => rw [hpi] at hx; cases hx
        | some nm =>
        rw [hpi] at hx
        have ex : V.str nm = xv := Option.some.inj hx
        subst ex
        have hil := (List.getElem?_eq_some_iff.mp hy).1
        obtain ⟨u, z, g1, g2, g3⟩ := hds.2.get i (by omega)
        rw [hy] at g1
        have e := Option.some.inj g1
        subst e
        obtain ⟨m, rfl, rfl⟩ := g3.numI (List.all_eq_true.mp hnum z (List.mem_of_getElem? g2))
        have hdp : ps.drop i = nm :: ps.drop (i + 1) := by
          obtain ⟨hi, e⟩ := List.getElem?_eq_some_iff.mp hpi
          rw [← e]
          exact List.drop_eq_getElem_cons hi
        have hdr : r.drop i = .int m :: r.drop (i + 1) := by
          obtain ⟨hi, e⟩ := List.getElem?_eq_some_iff.mp g2
          rw [← e]
          exact List.drop_eq_getElem_cons hi
        rw [hdp, hdr] at eA
        have eA : argsF W N ps r = if 0 ≤ m ∧ m < (if nm = "worth" then (W : Int) else (N : Int)) then argsF W N (ps.drop (i + 1)) (r.drop (i + 1)) else some nm := eA
        refine alloc hT' fun H4 s4 e4 => ?_
        have S4 : Same1 H H4 := (S2.trans s3).trans s4
        have hc4 := S4 _ _ hc
        have nml : nm.length ≤ 1000 := parts_short hp (List.mem_of_getElem? hpi)
        refine ⟨T', _, rfl, SqT.of e4, rfl, _, _, rfl, _, _, rfl, rfl, ?_⟩
        refine ⟨_, rfl, _, _, rfl, rfl, _, rfl, ?_⟩
        by_cases m0 : 0 ≤ m
        · rw [decide_eq_true m0]
          have hkey : ∃ cnt : Int, valV kvs (.inr nm) = some (.int cnt) ∧ cnt = (if nm = "worth" then (W : Int) else (N : Int)) := by
            rcases parts_two hp (List.mem_of_getElem? hpi) with rfl | rfl
            · exact ⟨_, hW, by rw [if_pos rfl]⟩
            · exact ⟨_, hN, by rw [if_neg (by decide +kernel)]⟩
          obtain ⟨cnt, hv1, hv2⟩ := hkey
          rw [← hv2] at eA
          refine iteT ⟨_, rfl, _, rfl, cc, _, rfl, dget (k := .inr nm) hc4 hv1, _, _, rfl, rfl, _, rfl, ?_⟩
          by_cases m1 : m < cnt
          · rw [decide_eq_true m1]
            rw [if_pos ⟨m0, m1⟩] at eA
            exact iteF ⟨_, _, rfl, s3.trans s4, eA⟩
          · rw [decide_eq_false m1]
            rw [if_neg fun q => m1 q.2] at eA
            exact iteT ⟨_, rfl, _, rfl, toldBP ⟨small_nat hn6, nml⟩ ((ke _ eA).to S4)⟩
        · rw [decide_eq_false m0]
          rw [if_neg fun q => m0 q.1] at eA
          refine iteF ?_
          exact ⟨_, rfl, iteT ⟨_, rfl, _, rfl, toldBP ⟨small_nat hn6, nml⟩ ((ke _ eA).to S4)⟩⟩
      · rintro σ H3 ⟨x3, x4, rfl, s3, eA⟩
        refine k ?_ _ (S2.trans s3)
        rw [eA, List.drop_eq_nil_of_le (by rw [List.length_map]; exact Nat.le_refl _)]
        rfl
theorem ok_checkProgramD (BP : IBP K mg CB) (GBP : FnOk P w K mg base CX0 1 BP.f BP.fd ["self", "row", "why"] (spBP CB)) (c : FCheckProgram K mg) (cCheckRow : FCheckRow K mg) (cCheckWorths : FCheckWorths K mg) (cHasShape : FHasShape K mg) (cPart : FPart K mg) (cIsBetween : FIsBetween K mg) (cIsNumber : FIsNumber K mg) (T : Bt mg) (C : Cn mg) (Z : Pt K w mg) (O : PtO K Z) : FnOk P w K mg base (L2.CX P w) 4 c.f c.fd ["program"] (spCheckProgramD CB) := by
  have GCheckRow : FnOk P w K mg base (L2.CX P w) 3 cCheckRow.f cCheckRow.fd ["row", "number", "counts"] (spCheckRowD CB) := ok_checkRowD BP GBP cCheckRow cHasShape cPart cIsNumber T Z O
  have GCheckWorths : FnOk P w K mg base (L2.CX P w) 3 cCheckWorths.f cCheckWorths.fd ["worths"] (spCheckWorthsD CB) := ok_checkWorthsD BP GBP cCheckWorths cIsBetween cIsNumber T C
  have GPart : FnOk P w K mg base CX0 1 cPart.f cPart.fd ["whole", "at"] spPartD := ok_partD cPart T
  refine c.F.okX scCheckProgram (fun vs H Q E h => ?_) (fun cdv A outer s H vs Q E hr h => ?_)
  · obtain ⟨v, d, rfl, _⟩ := h
    rfl
  · obtain ⟨v, d, rfl, hv, hfit, ke, k⟩ := h
    refine ⟨_, (pss_cons (ps_expr (pe_call GCheckWorths (hr.mono (by first | omega | decide)) (by rfl) cCheckWorths.m cCheckWorths.F.kp cCheckWorths.b .nil (L2.passes_call (takes_of rfl rfl rfl rfl) (fun _ _ _ _ h => h)) (pa_cons (pe_call GPart (hr.mono (by first | omega | decide)) (by rfl) cPart.m cPart.F.kp cPart.b .nil pass0 (pa_cons (pv 0) (pa_cons pe_int pa_nil))) pa_nil)))
      (pss_cons (ps_set (i := 1) scCheckProgram.nd rfl (Or.inl rfl) (pe_call GPart (hr.mono (by first | omega | decide)) (by rfl) cPart.m cPart.F.kp cPart.b .nil pass0 (pa_cons (pv 0) (pa_cons pe_int pa_nil))))
      (pss_cons (ps_if (PW.pt (pw_or (pt_not (pt_val (pe_callB call_isi (by rfl) T.isinstance (by decide +kernel) (pa_cons (pv 1) (pa_cons (pe_bltn (v := .ty "tuple") (by rfl) T.tuple (by decide +kernel) rfl) pa_nil))))) (pw_or (pt_cmpR op_ne (pe_callB call_len_seq (by rfl) T.len PySem.boot_len (pa_cons (pv 0) pa_nil)) pe_int (nomark _)) (pw_or1 (pt_not (pt_chain op_le op_le pe_int (pe_callB call_len_seq (by rfl) T.len PySem.boot_len (pa_cons (pv 1) pa_nil)) (pe_glob rfl C.mR relI)))))))
          (pss_one (ps_raise rfl (takes_of rfl rfl rfl rfl) (L2.pmk_oex BP.T BP.iC BP.tI GBP (hr.mono (by first | omega | decide)) BP.b .nil pass0 (by rfl) BP.m (pa_cons (pe_un un_neg pe_int) (pa_cons pe_str pa_nil)))))
          pss_nil)
      (pss_one (ps_for (L2.passes_of rfl) rfl (pi_enumT (by rfl) T.enumerate (pa_cons (pv 1) pa_nil)) (pg_tup rfl (pgs_cons (pg_name (i := 2) scCheckProgram.nd rfl (Or.inl rfl)) (pgs_cons (pg_name (i := 3) scCheckProgram.nd rfl (Or.inl rfl)) pgs_nil)))
          (pss_one (ps_expr (pe_call GCheckRow (hr.mono (by first | omega | decide)) (by rfl) cCheckRow.m cCheckRow.F.kp cCheckRow.b .nil (L2.passes_call (takes_of rfl rfl rfl rfl) (fun _ _ _ _ h => h)) (pa_cons (pv 3) (pa_cons (pv 2) (pa_cons (pe_disp (pps_cons pe_str (pe_callB call_len_seq (by rfl) T.len PySem.boot_len (pa_cons (pe_ix ix_tup (pv 0) pe_int (fun _ _ => rfl)) pa_nil)) (pps_cons pe_str (pe_callB call_len_seq (by rfl) T.len PySem.boot_len (pa_cons (pv 1) pa_nil)) pps_nil)) (by rfl) (by rfl) (fun z => by cases z) (by decide)) pa_nil))))))))))), ?_⟩
    refine ⟨_, rfl, v, d, 0, rfl, hv, fun u0 hu0 => ?_⟩
    have ewp : ∀ y, worthsF (partD d 0) = some y → progF d = some (-1, y) := fun y hy => by
      unfold progF
      rw [hy]
    refine ⟨u0, partD d 0, rfl, hu0, part_fit hfit 0, fun y hy => ke _ _ (ewp y hy), fun hw => ?_⟩
    refine ⟨_, rfl, v, d, 1, rfl, hv, fun u1 hu1 => ?_⟩
    obtain ⟨wd, hwd⟩ : ∃ wd, partD d 0 = .tup wd := by
      cases hp : partD d 0 with
      | tup wd => exact ⟨wd, rfl⟩
      | _ => rw [hp] at hw; cases hw
    obtain ⟨ds, rfl⟩ : ∃ ds, d = .tup ds := by
      cases d with
      | tup ds => exact ⟨ds, rfl⟩
      | _ => cases hwd
    obtain ⟨a, vs, rfl, ha, hds⟩ : ∃ a vs, v = .ref a ∧ H a = some (.tup vs) ∧ Ats H vs ds := by simpa [At] using hv
    have hvl := hds.len
    have d0 : ds[0]? = some (.tup wd) := by
      have e : ds.getD 0 .non = .tup wd := hwd
      rw [List.getD_eq_getElem?_getD] at e
      cases q : ds[0]? with
      | none => rw [q] at e; cases e
      | some z => rw [q] at e; exact congrArg some e
    obtain ⟨v0, z0, q0, q1, q2⟩ := hds.get 0 (List.getElem?_eq_some_iff.mp d0).1
    obtain rfl : z0 = .tup wd := Option.some.inj (q1.symm.trans d0)
    obtain ⟨wa, wvs, rfl, hwa, hws⟩ : ∃ a vs, v0 = .ref a ∧ H a = some (.tup vs) ∧ Ats H vs wd := by simpa [At] using q2
    have hwl := hws.len
    have rows_ : ∀ {rs : List D}, partD (.tup ds) 1 = .tup rs → progF (.tup ds) = if ds.length = 2 ∧ 1 ≤ rs.length ∧ rs.length ≤ 40 then (rowsF wd.length rs.length 0 rs).map fun q => ((q.1 : Int), q.2) else some ((-1 : Int), ("rows" : Str)) := fun {rs} e => by
      unfold progF
      rw [hw]
      dsimp only
      rw [e, hwd]
      rfl
    have nrows : (∀ rs, partD (.tup ds) 1 ≠ .tup rs) → progF (.tup ds) = some ((-1 : Int), ("rows" : Str)) := fun n => by
      unfold progF
      rw [hw]
      dsimp only
      cases e : partD (.tup ds) 1 with
      | tup rs => exact absurd e (n rs)
      | _ => rfl
    cases e1 : partD (.tup ds) 1 with
    | tup rs =>
      rw [e1] at hu1
      have er := rows_ e1
      obtain ⟨ra, rvs, rfl, hra, hrs⟩ : ∃ a vs, u1 = .ref a ∧ H a = some (.tup vs) ∧ Ats H vs rs := by simpa [At] using hu1
      have hrl := hrs.len
      have rfit : (D.tup rs).fit := e1 ▸ part_fit hfit 1
      have rbig := (D.fit_of (.inr rfl) rfit).1
      refine ⟨_, rfl, _, _, _, _, true, rfl, .ty _, .base (.tup hra), kit_ty (by decide +kernel), _, rfl, ?_⟩
      refine ⟨_, rfl, a, _, rfl, .inr (SqT.of ha), rfl, _, rfl, ?_⟩
      by_cases h2 : ds.length = 2
      · rw [decide_eq_true (show V.int ((vs.length : Nat) : Int) = V.int 2 by rw [hvl, h2]; rfl)]
        refine iteF ⟨_, rfl, ra, _, rfl, .inr (SqT.of hra), _, _, rfl, rfl, _, rfl, ?_⟩
        by_cases h1 : 1 ≤ rs.length
        · rw [hrl, decide_eq_true (show (1 : Int) ≤ (rs.length : Int) by omega)]
          refine iteT ⟨_, _, rfl, rfl, _, rfl, ?_⟩
          by_cases h40 : rs.length ≤ 40
          · rw [decide_eq_true (show (rs.length : Int) ≤ 40 by omega)]
            rw [if_pos ⟨h2, h1, h40⟩] at er
            refine iteF ?_
            refine ⟨_, rfl, ra, _, rfl, SqT.of hra, for_enumT (K := K) (a := ra) (xs := rvs) (fun i σ H' => ∃ x2 x3 : Option V, σ = [some (.ref a), some (.ref ra), x2, x3] ∧ Same1 H H' ∧ rowsF wd.length rs.length 0 rs = rowsF wd.length rs.length i (rs.drop i)) ⟨none, none, rfl, Same.refl _, rfl⟩
              (fun i σ H' ⟨_, _, _, q, _⟩ => SqT.of (q _ _ hra)) ?_ ?_⟩
            · rintro i x T' σ H1 hi ⟨x2, x3, rfl, s1, eR⟩ hT'
              have hil := (List.getElem?_eq_some_iff.mp hi).1
              obtain ⟨u, z, g1, g2, g3⟩ := hrs.get i (by omega)
              rw [hi] at g1
              have e := Option.some.inj g1
              subst e
              have hdr : rs.drop i = z :: rs.drop (i + 1) := by
                obtain ⟨hi, e⟩ := List.getElem?_eq_some_iff.mp g2
                rw [← e]
                exact List.drop_eq_getElem_cons hi
              rw [hdr] at eR
              refine alloc hT' fun H2 s2 e2 => ?_
              have S2 := s1.trans s2
              refine ⟨T', _, rfl, SqT.of e2, rfl, _, _, rfl, _, _, rfl, rfl, ?_⟩
              refine ⟨_, rfl, _, rfl, fun c1 hc1 => ?_⟩
              refine alloc hc1 fun H3 s3 e3 => ?_
              have S3 := S2.trans s3
              refine ⟨_, rfl, a, _, _, _, rfl, rfl, SqT.of (S3 _ _ ha), atI_nat (j := 0) q0, wa, _, rfl, .inr (SqT.of (S3 _ _ hwa)), _, rfl, ra, _, rfl, .inr (SqT.of (S3 _ _ hra)), e3,
                [(kWo, .int ((wvs.length : Nat) : Int)), (kNx, .int ((rvs.length : Nat) : Int))], rfl, (by show 2 ≤ 15; decide), ?_⟩
              have em : mergeK [] [(kWo, .int ((wvs.length : Nat) : Int)), (kNx, .int ((rvs.length : Nat) : Int))] = putK (putK [] kWo (.int (wd.length : Int))) kNx (.int (rs.length : Int)) := by
                rw [hwl, hrl]
                rfl
              rw [em]
              have S4 : Same1 H (upd H3 c1 (.dK (putK (putK [] kWo (.int (wd.length : Int))) kNx (.int (rs.length : Int))))) := Same.mut S3 (S2.free hc1)
              refine ⟨x, z, c1, i, wd.length, rs.length, putK (putK [] kWo (.int (wd.length : Int))) kNx (.int (rs.length : Int)), rfl, At.sm0 S4 z x g3, fitL_iff.mp (D.fit_of (.inr rfl) rfit).2 _ (List.mem_of_getElem? g2), by omega, upd_same, ?_, ?_, fun y hy => ?_, fun hn H5 s5 => ⟨_, _, rfl, S4.trans s5, ?_⟩⟩
              · rw [valV_put, if_neg k_WN, valV_put, if_pos rfl]
              · rw [valV_put, if_pos rfl]
              · refine (ke _ _ ?_).to S4
                rw [er, eR]
                show (match rowF wd.length rs.length z with | some y => some (i, y) | none => _).map _ = _
                rw [hy]
                rfl
              · rw [eR]
                show (match rowF wd.length rs.length z with | some y => some (i, y) | none => _) = _
                rw [hn]
            · rintro σ H1 ⟨x2, x3, rfl, s1, eR⟩
              refine k ?_ _ s1
              rw [er, eR, List.drop_eq_nil_of_le (by omega)]
              rfl
          · rw [decide_eq_false (show ¬ (rs.length : Int) ≤ 40 by omega)]
            rw [if_neg fun q => h40 q.2.2] at er
            exact iteT ⟨_, rfl, toldBP ⟨small_m1, by decide +kernel⟩ (ke _ _ er)⟩
        · rw [hrl, decide_eq_false (show ¬ (1 : Int) ≤ (rs.length : Int) by omega)]
          rw [if_neg fun q => h1 q.2.1] at er
          refine iteF ?_
          exact ⟨_, rfl, iteT ⟨_, rfl, toldBP ⟨small_m1, by decide +kernel⟩ (ke _ _ er)⟩⟩
      · rw [decide_eq_false (show ¬ V.int ((vs.length : Nat) : Int) = V.int 2 from fun z => by injection z with z; omega)]
        rw [if_neg fun q => h2 q.1] at er
        exact iteT ⟨_, rfl, toldBP ⟨small_m1, by decide +kernel⟩ (ke _ _ er)⟩
    | non =>
      rw [e1] at hu1
      exact ⟨_, rfl, _, _, _, _, false, rfl, .ty _, hu1.ty, kit_ty (by dsimp only [DL.D.ty]; decide +kernel), _, rfl, iteT ⟨_, rfl, toldBP ⟨small_m1, by decide +kernel⟩ (ke _ _ (nrows fun rs e => by rw [e1] at e; cases e))⟩⟩
    | bl b =>
      rw [e1] at hu1
      exact ⟨_, rfl, _, _, _, _, false, rfl, .ty _, hu1.ty, kit_ty (by dsimp only [DL.D.ty]; decide +kernel), _, rfl, iteT ⟨_, rfl, toldBP ⟨small_m1, by decide +kernel⟩ (ke _ _ (nrows fun rs e => by rw [e1] at e; cases e))⟩⟩
    | int i =>
      rw [e1] at hu1
      exact ⟨_, rfl, _, _, _, _, false, rfl, .ty _, hu1.ty, kit_ty (by dsimp only [DL.D.ty]; decide +kernel), _, rfl, iteT ⟨_, rfl, toldBP ⟨small_m1, by decide +kernel⟩ (ke _ _ (nrows fun rs e => by rw [e1] at e; cases e))⟩⟩
    | str x =>
      rw [e1] at hu1
      exact ⟨_, rfl, _, _, _, _, false, rfl, .ty _, hu1.ty, kit_ty (by dsimp only [DL.D.ty]; decide +kernel), _, rfl, iteT ⟨_, rfl, toldBP ⟨small_m1, by decide +kernel⟩ (ke _ _ (nrows fun rs e => by rw [e1] at e; cases e))⟩⟩
    | lst l =>
      rw [e1] at hu1
      exact ⟨_, rfl, _, _, _, _, false, rfl, .ty _, hu1.ty, kit_ty (by dsimp only [DL.D.ty]; decide +kernel), _, rfl, iteT ⟨_, rfl, toldBP ⟨small_m1, by decide +kernel⟩ (ke _ _ (nrows fun rs e => by rw [e1] at e; cases e))⟩⟩
end
end DL
namespace DL
open PySem PySem.Spec PyProof.Rows L2 DLR LamX
/-! ### _law_told of refusals that have fields -/
structure KnF (K : Frg) {mg : Str → Option Value} (E : Er mg) (D : Addr) (j : Nat) : Prop where
  ex : ExcC K D
  one : PySem.W.exmOne K (.ref D) (.ref E.DE) = some true
  ve : PySem.W.kitOne K (.ref D) (.type "ValueError") = some true
  k0 : PySem.W.kitOne K (.ref D) (.ref E.BP) = some (decide (0 = j))
  k1 : PySem.W.kitOne K (.ref D) (.ref E.BL) = some (decide (1 = j))
  k2 : PySem.W.kitOne K (.ref D) (.ref E.BF) = some (decide (2 = j))
  k3 : PySem.W.kitOne K (.ref D) (.ref E.BG) = some (decide (3 = j))
  k4 : PySem.W.kitOne K (.ref D) (.ref E.BE) = some (decide (4 = j))
  k5 : PySem.W.kitOne K (.ref D) (.ref E.TM) = some (decide (5 = j))
  k6 : PySem.W.kitOne K (.ref D) (.ref E.OV) = some (decide (6 = j))
  k7 : PySem.W.kitOne K (.ref D) (.ref E.BT) = some (decide (7 = j))
  j : j = 0 ∨ j = 1 ∨ j = 4 ∨ j = 7
  xf : XfC K D
  nrow : PySem.W.findIn K (.ref D) "row" = some none
  nwhy : PySem.W.findIn K (.ref D) "why" = some none
  nat : PySem.W.findIn K (.ref D) "at" = some none
  nline : PySem.W.findIn K (.ref D) "line" = some none
def FieldsJ (j : Nat) (fs : List (Str × V)) (vs : List V) : Prop :=
  (j = 0 ∧ ∃ x y, fs.lookup ("row" : Str) = some x ∧ fs.lookup ("why" : Str) = some y ∧ vs = [x, y]) ∨ (j = 1 ∧ ∃ x y, fs.lookup ("why" : Str) = some x ∧ fs.lookup ("at" : Str) = some y ∧ vs = [x, y]) ∨
  (j = 4 ∧ ∃ x, fs.lookup ("at" : Str) = some x ∧ vs = [x]) ∨ (j = 7 ∧ ∃ x, fs.lookup ("line" : Str) = some x ∧ vs = [x])
theorem low_of {l : List V} {j : Nat} (h : ∀ i, i < j → ∃ z, l[i]? = some z ∧ eqV z (.bl true) = false) : ∀ (m : Nat) (z' : V), m < j → l[m]? = some z' → eqV z' (.bl true) = false := by
  intro m z' hm e
  obtain ⟨z, h1, h2⟩ := h m hm
  rw [h1] at e
  rw [← Option.some.inj e]
  exact h2
theorem at_kindsF {j : Nat} (h : j = 0 ∨ j = 1 ∨ j = 4 ∨ j = 7) : ([decide (0 = j), decide (1 = j), decide (2 = j), decide (3 = j)] ++ [decide (4 = j), decide (5 = j), decide (6 = j), decide (7 = j)]).count true = 1 ∧
    atI [V.str "program", V.str "laying", V.str "fuel", V.str "goes", V.str "paper", V.str "many", V.str "over", V.str "text"] (j : Int) = some (.str (wordJ j)) ∧
    ((([decide (0 = j), decide (1 = j), decide (2 = j), decide (3 = j)] ++ [decide (4 = j), decide (5 = j), decide (6 = j), decide (7 = j)] : List Bool).map V.bl)[j]? = some (.bl true)) ∧
    (∀ (m : Nat) (z' : V), m < j → (([decide (0 = j), decide (1 = j), decide (2 = j), decide (3 = j)] ++ [decide (4 = j), decide (5 = j), decide (6 = j), decide (7 = j)] : List Bool).map V.bl)[m]? = some z' → eqV z' (.bl true) = false) ∧
    decide (V.str (wordJ j) = V.str "program") = decide (j = 0) ∧ decide (V.str (wordJ j) = V.str "laying") = decide (j = 1) ∧ decide (V.str (wordJ j) = V.str "paper") = decide (j = 4) ∧ decide (V.str (wordJ j) = V.str "text") = decide (j = 7) := by
  rcases h with rfl | rfl | rfl | rfl
  · exact ⟨by decide +kernel, rfl, rfl, low_of fun i hi => absurd hi (Nat.not_lt_zero i), by decide +kernel, by decide +kernel, by decide +kernel, by decide +kernel⟩
  · refine ⟨by decide +kernel, rfl, rfl, low_of fun i hi => ?_, by decide +kernel, by decide +kernel, by decide +kernel, by decide +kernel⟩
    match i, hi with
    | 0, _ => exact ⟨_, rfl, rfl⟩
  · refine ⟨by decide +kernel, rfl, rfl, low_of fun i hi => ?_, by decide +kernel, by decide +kernel, by decide +kernel, by decide +kernel⟩
    match i, hi with
    | 0, _ => exact ⟨_, rfl, rfl⟩
    | 1, _ => exact ⟨_, rfl, rfl⟩
    | 2, _ => exact ⟨_, rfl, rfl⟩
    | 3, _ => exact ⟨_, rfl, rfl⟩
  · refine ⟨by decide +kernel, rfl, rfl, low_of fun i hi => ?_, by decide +kernel, by decide +kernel, by decide +kernel, by decide +kernel⟩
    match i, hi with
    | 0, _ => exact ⟨_, rfl, rfl⟩
    | 1, _ => exact ⟨_, rfl, rfl⟩
    | 2, _ => exact ⟨_, rfl, rfl⟩
    | 3, _ => exact ⟨_, rfl, rfl⟩
    | 4, _ => exact ⟨_, rfl, rfl⟩
    | 5, _ => exact ⟨_, rfl, rfl⟩
    | 6, _ => exact ⟨_, rfl, rfl⟩
section
variable {X : Cx}
theorem told_suiteF (E : Er X.mg) (T : Bt X.mg) {g : Addr} {cdg : Value} {s : Shared} {H0 : Hp} {CX : CXT} {E0 : XK} {j : Nat} {D a dd : Addr} {oe : Obj} {pn : List (Addr × Obj)} (kn : KnF X.K E D j) (hz : Zc (.ref D) (some dd) oe) (hf : ∃ vs, oe.data = .fields vs) :
    ∃ t, PSs ((cxOf CX X.prog X.w X.K X.mg X.base nTold "_law_told" (defScope sTold) g cdg X.A X.stack s H0 E0).nox.suite a ((a, oe) :: pn)) toldSuite t ∧
      ∀ (D : Ends) (σ : L2.St) (H : Hp) (fs : List (Str × V)) (vs : List V), σ.length = 4 → σ[1]? = some (some (.ref a)) → H dd = some (.xd fs) → FieldsJ j fs vs → (∀ t' H', Same1 H H' → H' t' = some (.tup (.str (wordJ j) :: vs)) → D.rt (.ref t') H') → t D σ H := by
  refine ⟨_, (pss_cons (ps_set (i := 2) scTold.nd rfl (Or.inl rfl) (pe_lst (pa_cons (pe_callB (DLR.call_isD kn.ex hz hf) (by rfl) T.isinstance (by decide +kernel) (pa_cons (pv 1) (pa_cons (pe_glob (v := .ref E.BP) rfl E.mBP rfl) pa_nil))) (pa_cons (pe_callB (DLR.call_isD kn.ex hz hf) (by rfl) T.isinstance (by decide +kernel) (pa_cons (pv 1) (pa_cons (pe_glob (v := .ref E.BL) rfl E.mBL rfl) pa_nil))) (pa_cons (pe_callB (DLR.call_isD kn.ex hz hf) (by rfl) T.isinstance (by decide +kernel) (pa_cons (pv 1) (pa_cons (pe_glob (v := .ref E.BF) rfl E.mBF rfl) pa_nil))) (pa_cons (pe_callB (DLR.call_isD kn.ex hz hf) (by rfl) T.isinstance (by decide +kernel) (pa_cons (pv 1) (pa_cons (pe_glob (v := .ref E.BG) rfl E.mBG rfl) pa_nil))) pa_nil))))))
      (pss_cons (ps_set (i := 2) scTold.nd rfl (Or.inl rfl) (pe_op op_cat (pv 2) (pe_lst (pa_cons (pe_callB (DLR.call_isD kn.ex hz hf) (by rfl) T.isinstance (by decide +kernel) (pa_cons (pv 1) (pa_cons (pe_glob (v := .ref E.BE) rfl E.mBE rfl) pa_nil))) (pa_cons (pe_callB (DLR.call_isD kn.ex hz hf) (by rfl) T.isinstance (by decide +kernel) (pa_cons (pv 1) (pa_cons (pe_glob (v := .ref E.TM) rfl E.mTM rfl) pa_nil))) (pa_cons (pe_callB (DLR.call_isD kn.ex hz hf) (by rfl) T.isinstance (by decide +kernel) (pa_cons (pv 1) (pa_cons (pe_glob (v := .ref E.OV) rfl E.mOV rfl) pa_nil))) (pa_cons (pe_callB (DLR.call_isD kn.ex hz hf) (by rfl) T.isinstance (by decide +kernel) (pa_cons (pv 1) (pa_cons (pe_glob (v := .ref E.BT) rfl E.mBT rfl) pa_nil))) pa_nil)))))))
      (pss_cons (ps_if (PW.pt (pw_or (pt_cmpR op_ne (pe_bm PySem.F.plainAttrs_list PySem.F.slot_list_count PySem.F.type_list_count mt_countB (pv 2) (pa_cons pe_bl pa_nil)) pe_int (nomark _)) (pw_or1 (pt_not (pt_val (pe_callB (DLR.call_isD kn.ex hz hf) (by rfl) T.isinstance (by decide +kernel) (pa_cons (pv 1) (pa_cons (pe_bltn (v := .ty "ValueError") (by rfl) E.VE (by decide +kernel) rfl) pa_nil))))))))
          (pss_one ps_never)
          pss_nil)
      (pss_cons (ps_set (i := 3) scTold.nd rfl (Or.inl rfl) (pe_ix ix_list (pe_lst (pa_cons pe_str (pa_cons pe_str (pa_cons pe_str (pa_cons pe_str (pa_cons pe_str (pa_cons pe_str (pa_cons pe_str (pa_cons pe_str pa_nil))))))))) (pe_bm PySem.F.plainAttrs_list PySem.F.slot_list_index PySem.F.type_list_index mt_index (pv 2) (pa_cons pe_bl pa_nil)) (fun _ _ => rfl)))
      (pss_cons (ps_if (pt_cmpR op_eq (pv 3) pe_str (nomark _))
          (pss_one (ps_ret (pe_tup (pa_cons (pv 3) (pa_cons (L2.pe_xf kn.xf kn.nrow hz hf (pv 1)) (pa_cons (L2.pe_xf kn.xf kn.nwhy hz hf (pv 1)) pa_nil))))))
          pss_nil)
      (pss_cons (ps_if (pt_cmpR op_eq (pv 3) pe_str (nomark _))
          (pss_one (ps_ret (pe_tup (pa_cons (pv 3) (pa_cons (L2.pe_xf kn.xf kn.nwhy hz hf (pv 1)) (pa_cons (L2.pe_xf kn.xf kn.nat hz hf (pv 1)) pa_nil))))))
          pss_nil)
      (pss_cons (ps_if (pt_cmpR op_eq (pv 3) pe_str (nomark _))
          (pss_one (ps_ret (pe_tup (pa_cons (pv 3) (pa_cons (L2.pe_xf kn.xf kn.nat hz hf (pv 1)) pa_nil)))))
          pss_nil)
      (pss_one (ps_ret (pe_ifExp (pt_cmpR op_eq (pv 3) pe_str (nomark _)) (pe_tup (pa_cons (pv 3) (pa_cons (L2.pe_xf kn.xf kn.nline hz hf (pv 1)) pa_nil))) (pe_tup (pa_cons (pv 3) pa_nil)))))))))))), ?_⟩
  intro D' σ H fs vs hl h1 hdd hfs hq
  obtain ⟨x0, x1, x2, x3, rfl⟩ : ∃ x0 x1 x2 x3, σ = [x0, x1, x2, x3] := by
    match σ, hl with
    | [x0, x1, x2, x3], _ => exact ⟨x0, x1, x2, x3, rfl⟩
  have h1 : x1 = some (.ref a) := Option.some.inj h1
  subst h1
  obtain ⟨q1, q2, q3, q4, q5, q6, q7, q8⟩ := at_kindsF kn.j
  refine ⟨_, rfl, fs, .ref E.BP, .ref E.BP, _, hdd, rfl, relRef, kn.k0, _, rfl, fs, .ref E.BL, .ref E.BL, _, hdd, rfl, relRef, kn.k1, _, rfl, fs, .ref E.BF, .ref E.BF, _, hdd, rfl, relRef, kn.k2, _, rfl, fs, .ref E.BG, .ref E.BG, _, hdd, rfl, relRef, kn.k3, (by show 4 ≤ sizeLine; decide), fun l1 hl1 => ?_⟩
  refine alloc hl1 fun H1 s1 e1 => ?_
  have d1 := s1 _ _ hdd
  refine ⟨_, rfl, _, rfl, fs, .ref E.BE, .ref E.BE, _, d1, rfl, relRef, kn.k4, _, rfl, fs, .ref E.TM, .ref E.TM, _, d1, rfl, relRef, kn.k5, _, rfl, fs, .ref E.OV, .ref E.OV, _, d1, rfl, relRef, kn.k6, _, rfl, fs, .ref E.BT, .ref E.BT, _, d1, rfl, relRef, kn.k7, (by show 4 ≤ sizeLine; decide), fun l2 hl2 => ?_⟩
  refine alloc hl2 fun H2 s2 e2 => ?_
  refine ⟨l1, l2, _, _, rfl, rfl, s2 _ _ e1, e2, (by show 8 ≤ sizeLine; decide), fun l3 hl3 => ?_⟩
  refine alloc hl3 fun H3 s3 e3 => ?_
  have d3 := s3 _ _ (s2 _ _ d1)
  have e3 : H3 l3 = some (.lst (([decide (0 = j), decide (1 = j), decide (2 = j), decide (3 = j)] ++ [decide (4 = j), decide (5 = j), decide (6 = j), decide (7 = j)] : List Bool).map V.bl)) := e3
  generalize hk : ([decide (0 = j), decide (1 = j), decide (2 = j), decide (3 = j)] ++ [decide (4 = j), decide (5 = j), decide (6 = j), decide (7 = j)] : List Bool) = ks at q1 q3 q4 e3
  refine ⟨_, rfl, .inl ⟨rfl, _, SqL.of e3⟩, l3, ks, true, rfl, rfl, SqL.of e3, ?_⟩
  rw [q1]
  refine ⟨rfl, _, rfl, ?_⟩
  rw [show (!decide (V.int ((1 : Nat) : Int) = V.int 1)) = false by decide +kernel]
  refine iteF ⟨_, rfl, fs, .ty "ValueError", .type "ValueError", true, d3, rfl, relTy, kn.ve, _, rfl, ?_⟩
  refine iteF ?_
  refine ⟨(by show 8 ≤ sizeLine; decide), fun l4 hl4 => ?_⟩
  refine alloc hl4 fun H4 s4 e4 => ?_
  have d4 := s4 _ _ d3
  have S4 := ((s1.trans s2).trans s3).trans s4
  refine ⟨_, rfl, .inl ⟨rfl, _, SqL.of (s4 _ _ e3)⟩, l3, _, _, j, _, rfl, rfl, SqL.of (s4 _ _ e3), rfl, flat_bl ks, q3, rfl, q4, ?_⟩
  refine ⟨l4, _, _, _, rfl, rfl, SqL.of e4, q2, ?_⟩
  refine ⟨_, rfl, rfl, _, rfl, ?_⟩
  rw [q5]
  rcases hfs with ⟨rfl, x, y, f1, f2, rfl⟩ | ⟨rfl, x, y, f1, f2, rfl⟩ | ⟨rfl, x, f1, rfl⟩ | ⟨rfl, x, f1, rfl⟩
  · refine iteT ⟨_, rfl, _, rfl, rfl, rfl, dd, fs, x, rfl, d4, f1, _, rfl, rfl, rfl, dd, fs, y, rfl, d4, f2, (by show 3 ≤ sizeLine; decide), fun t ht => ?_⟩
    refine alloc ht fun H5 s5 e5 => ?_
    exact hq t H5 (S4.trans s5) e5
  · refine iteF ⟨_, rfl, rfl, _, rfl, ?_⟩
    rw [q6]
    refine iteT ⟨_, rfl, _, rfl, rfl, rfl, dd, fs, x, rfl, d4, f1, _, rfl, rfl, rfl, dd, fs, y, rfl, d4, f2, (by show 3 ≤ sizeLine; decide), fun t ht => ?_⟩
    refine alloc ht fun H5 s5 e5 => ?_
    exact hq t H5 (S4.trans s5) e5
  · refine iteF ⟨_, rfl, rfl, _, rfl, ?_⟩
    rw [q6]
    refine iteF ⟨_, rfl, rfl, _, rfl, ?_⟩
    rw [q7]
    refine iteT ⟨_, rfl, _, rfl, rfl, rfl, dd, fs, x, rfl, d4, f1, (by show 2 ≤ sizeLine; decide), fun t ht => ?_⟩
    refine alloc ht fun H5 s5 e5 => ?_
    exact hq t H5 (S4.trans s5) e5
  · refine iteF ⟨_, rfl, rfl, _, rfl, ?_⟩
    rw [q6]
    refine iteF ⟨_, rfl, rfl, _, rfl, ?_⟩
    rw [q7]
    refine iteF ⟨_, rfl, rfl, _, rfl, ?_⟩
    rw [q8]
    refine iteT ⟨_, rfl, _, rfl, rfl, rfl, dd, fs, x, rfl, d4, f1, (by show 2 ≤ sizeLine; decide), fun t ht => ?_⟩
    refine alloc ht fun H5 s5 e5 => ?_
    exact hq t H5 (S4.trans s5) e5
def ToldX (K : Frg) {mg : Str → Option Value} (E : Er mg) (cls : Value) (d : Option Addr) (H : Hp) (R : V → Hp → Prop) : Prop :=
  (∃ (D : Addr) (j : Nat), Knd K E D j ∧ cls = .ref D ∧ d = none ∧ ∀ t H'', Same1 H H'' → H'' t = some (.tup [.str (wordJ j)]) → R (.ref t) H'') ∨
  (∃ (D dd : Addr) (j : Nat) (fs : List (Str × V)) (vs : List V), KnF K E D j ∧ cls = .ref D ∧ d = some dd ∧ H dd = some (.xd fs) ∧ FieldsJ j fs vs ∧ ∀ t H'', Same1 H H'' → H'' t = some (.tup (.str (wordJ j) :: vs)) → R (.ref t) H'')
def TTe (K : Frg) {mg : Str → Option Value} (E : Er mg) : (XK → Hp → VK → Prop) → Hp → VK → Prop := fun tl H Q => tl (fun cls d H' => ToldX K E cls d H' Q) H Q
def tsToldE (K : Frg) {mg : Str → Option Value} (E : Er mg) : Addr → Value → Option Addr → TS := fun a cls d D σ H => σ.length = 4 → σ[1]? = some (some (.ref a)) ∧ ToldX K E cls d H D.rt
theorem told_okE (E : Er X.mg) (T : Bt X.mg) {g : Addr} {cdg : Value} {q : Str} : GivesTo X nTold "_law_told" (defScope sTold) g cdg (defBody sTold) "_law_work_here" q (TTe X.K E) := by
  intro f c' s H Q tl act hc h
  refine ⟨_, pss_one (ps_try_as (X := (cxOf C8.CX0 X.prog X.w X.K X.mg X.base nTold "_law_told" (defScope sTold) g cdg X.A X.stack s H C8.E0).nox) (c := .ref E.DE) (i := 1)
      (tb := fun W D σ H => ∃ Ech : XK, (∀ cls d σ' H', Ech cls d H' → W cls d σ' H') ∧ σ[0]? = some (some (.ref f)) ∧ H c' = some (CodeO c' q) ∧ tl Ech H D.rt)
      (ts := tsToldE X.K E) rfl rfl scTold.nd rfl rfl ⟨by rfl, by decide, .inl E.mDE⟩ LamX.takes0 (fun W pn xe tk _ => ?_) (fun a oe cls d pn hz hf => ?_)), ?_⟩
  · refine ⟨fun pins s' σ H' D I h' => ?_⟩
    obtain ⟨Ech, hW, h1, h2, h3⟩ := h'
    exact (pss_one (ps_ret (act W pn xe Ech _ _ tk hW))).run pins s' σ H' D I ⟨h1, h2, h3⟩
  · refine ⟨fun pins s' σ H' D I h' => ?_⟩
    have hl : σ.length = 4 := I.len
    obtain ⟨h1, ⟨D0, j, kn, rfl, rfl, hq⟩ | ⟨D0, dd, j, fs, vs, kn, rfl, rfl, hdd, hfs, hq⟩⟩ := h' hl
    · obtain ⟨t, ht, hr⟩ := told_suite (X := X) (g := g) (cdg := cdg) (s := s) (H0 := H) (CX := C8.CX0) (E0 := C8.E0) (a := a) (pn := pn) E T kn hz hf
      exact ht.run pins s' σ H' D I (hr D σ H' hl h1 hq)
    · obtain ⟨t, ht, hr⟩ := told_suiteF (X := X) (g := g) (cdg := cdg) (s := s) (H0 := H) (CX := C8.CX0) (E0 := C8.E0) (a := a) (pn := pn) E T kn hz hf
      exact ht.run pins s' σ H' D I (hr D σ H' fs vs hl h1 hdd hfs hq)
  · refine ⟨fun cls d H' => ToldX X.K E cls d H' Q, ?_, rfl, hc, h⟩
    rintro cls d σ' H' hx
    have one : ∃ D0, cls = .ref D0 ∧ PySem.W.exmOne X.K (.ref D0) (.ref E.DE) = some true := by
      rcases hx with ⟨D0, j, kn, e, _⟩ | ⟨D0, dd, j, fs, vs, kn, e, _⟩
      · exact ⟨D0, e, kn.one⟩
      · exact ⟨D0, e, kn.one⟩
    obtain ⟨D0, rfl, ho⟩ := one
    refine ⟨true, ho, fun _ a ha => ?_, fun z => by cases z⟩
    intro hl
    rw [List.length_set] at hl
    refine ⟨?_, hx⟩
    rw [List.getElem?_set_self (by omega)]
end
end DL
namespace DLR
open PySem PySem.Spec PyProof.Rows L2 LamX
/-! ### lambdas that are called inside a comprehension of the frame that made them -/
section
variable {X : Cx}
theorem pe_lcI {elt tg iter : Expr} {ifs : List Expr} {scope : Scope} {own : List (Str × Nat)} {pos : Pos} {wi : TI} {g : TG} {tt : L2.St → TT} {te : TE} (calm : X.calm = true) (nd : X.N.Nodup) (src : PI X tg iter wi) (blk : BlkOk X.N X.env.scope scope own)
    (Gt : ∀ (s : Shared) (H : Hp) (C : Addr) (cl : List (Str × Addr)) (fp : List Addr), PG (X.blk s H scope (compEnvC scope cl C X.env) fp) tg g)
    (Tt : ∀ (pins : List (Addr × Obj)) (σ : L2.St) (s : Shared) (H : Hp) (C : Addr) (cl : List (Str × Addr)) (fp : List Addr), Inv X pins σ H s → (∀ b ∈ fp, FpOk X pins H b) → PTs (X.blk s H scope (compEnvC scope cl C X.env) fp) ifs (tt σ))
    (Et : ∀ (s : Shared) (H : Hp) (C : Addr) (cl : List (Str × Addr)) (fp : List Addr), PE (X.blk s H scope (compEnvC scope cl C X.env) fp) elt te) (fold : ∀ x, foldedSetIterable iter X.env x = pure x := by intro _; rfl) :
    PE X (.ListComp elt [⟨tg, iter, ifs, 0⟩] scope pos) (fun σ H Q => tLc wi g (tt σ) te (own.map (·.2)) σ H Q) := by
  refine ⟨fun pins s σ H Q I0 rd => ?_⟩
  rw [eval_ListComp]
  have caps : ∀ y ∈ scope.names, y.2 = .free → ∃ c, X.env.cells.lookup y.1 = some c := fun y hy e => (blk.free y hy e).elim (fun k => I0.ok.has _ (.inl k)) fun k => I0.ok.has _ (.inr k)
  refine wpAny_comprehension_free (use := none) rfl fold (closure_ok caps) blk.kind (fun y hy e => by rw [blk.uniq y hy, e]) (thn (src.run pins s σ H _ I0 rd) fun _ _ got => thn got fun _ sI start => ?_)
  obtain ⟨it, fp, tn, J, HI, rfl, II, T, stI, fpI, q⟩ := start
  refine wpAny_newObj_type (newEnv_comp ?_) (Nat.zero_le _)
  have nD : HI sI.heap.objs.size = none := II.hok.fresh (Nat.le_refl _)
  obtain ⟨W, ⟨m0, w0⟩, turn⟩ := q _ nD
  obtain ⟨sL, eL⟩ : ∃ sL : Shared, sL = { sI with heap := sI.heap.push { cls := .type "list", data := .seq ([] : List Value).toArray } } := ⟨_, rfl⟩
  obtain ⟨HL, eH⟩ : ∃ HL : Hp, HL = upd HI sI.heap.objs.size (.lst []) := ⟨_, rfl⟩
  have IL : Inv X pins σ HL sL := by
    rw [eL, eH]
    exact II.laid (t' := sI.toks) (fun b o e => Heap.get?_push_of_some _ e) (Nat.le_refl _) ⟨Nat.zero_le _, [], 0, .nil, Heap.get?_push_size _ rfl⟩
  have keepL : ∀ b o, sI.heap.get? b = some o → sL.heap.get? b = some o := fun b o e => by rw [eL]; exact Heap.get?_push_of_some _ e
  have fpL : ∀ b ∈ fp, FpOk X pins HL b ∧ b < sL.heap.objs.size := fun b hb => by
    obtain ⟨o, e, _⟩ := T.obj _ _ stI b hb
    refine ⟨⟨?_, (fpI b hb).2⟩, Heap.lt_size (keepL b o e)⟩
    rw [eH, upd_ne (Nat.ne_of_lt (Heap.lt_size e))]
    exact (fpI b hb).1
  have IB := block_start IL blk nd fpL
  obtain ⟨cl, ecl⟩ : ∃ cl, cl = cellsFrom (sL.heap.objs.size + 1) scope.names (cloFrom X.env.cells scope.names []) := ⟨_, rfl⟩
  have PGb := Gt sL HL sL.heap.objs.size cl fp
  have PTb := Tt pins σ sL HL sL.heap.objs.size cl fp IL fun b hb => (fpL b hb).1
  have PEb := Et sL HL sL.heap.objs.size cl fp
  rw [ecl] at PGb PTb PEb
  rw [← eL]
  rw [← eH] at w0
  show codeAny _ _ (.compStart _ 0 (.ref it) (.ref sI.heap.objs.size) (compEnvC scope (cellsFrom (sL.heap.objs.size + 1) scope.names (cloFrom X.env.cells scope.names [])) sL.heap.objs.size X.env)) (compPost (model X.prog X.w) X.A X.xe none _ (.ref sI.heap.objs.size) sL.heap.objs.size) { sL with heap := pushCells (sL.heap.push { cls := .type "dict", data := .dict #[] }) scope.names }
  obtain ⟨ce, ece⟩ : ∃ ce, ce = compEnvC scope (cellsFrom (sL.heap.objs.size + 1) scope.names (cloFrom X.env.cells scope.names [])) sL.heap.objs.size X.env := ⟨_, rfl⟩
  have eloc : ce.locals = sL.heap.objs.size := by rw [ece]; rfl
  rw [← ece] at IB PGb PTb PEb ⊢
  obtain ⟨sB, eB⟩ : ∃ sB : Shared, sB = { sL with heap := pushCells (sL.heap.push { cls := .type "dict", data := .dict #[] }) scope.names } := ⟨_, rfl⟩
  rw [← eB] at IB ⊢
  have stB : tn 0 sB.heap := T.keep _ _ _ stI fun b _ o e => by rw [eB]; exact pushCells_keeps _ _ _ _ (Heap.get?_push_of_some _ (keepL b o e))
  have fpB : ∀ {σ' : L2.St} {H' : Hp} {s' : Shared}, Inv (X.blk sL HL scope ce fp) [] σ' H' s' → (∀ b ∈ fp, H' b = none) → ∀ b ∈ fp, FpOk (X.blk sL HL scope ce fp) [] H' b := fun I' n b hb =>
    ⟨n b hb, (I'.ok.exf b hb).1, I'.ok.exfs b hb, .inl hb, fun x c e => (I'.ok.exf b hb).2 x c e, fun p hp => absurd (show p ∈ ([] : List (Addr × Obj)) ++ [] from hp) (by simp)⟩
  refine codeAny_compStart_list ?_ (T.self X.A 0 _ _ _ stB ?_)
  all_goals
    refine compLoop_any (fun n s' => ∃ i H', Inv (X.blk sL HL scope ce fp) [] (wipe σ (own.map (·.2))) H' s' ∧ tn i s'.heap ∧ (∀ b ∈ fp, H' b = none) ∧ W i n H') ?_ m0 ⟨0, HL, IB, stB, fun b hb => (fpL b hb).1.1, w0⟩
    rintro n s1 ⟨i, H1, I1, st1, n1, w1⟩
    rcases turn i n H1 w1 with ⟨stop, fin⟩ | ⟨go, Nx, hNx, step⟩
    · refine thnF (T.done (X.blk sL HL scope ce fp) rfl rfl rfl calm i [] s1 _ H1 (fun _ _ => False) I1 (fpB I1 n1) st1 stop) fun r s2 ⟨hr, I2⟩ => ?_
      subst hr
      have I3 : Inv X pins σ H1 s2 := IL.call' (ch := fp) I2.os I2.base I2.hok I2.bare fun b hb => ⟨(fpL b hb).1.2.2.2.1, (fpL b hb).1.2.1, (fpL b hb).1.2.2.2.2.1, (fpL b hb).1.2.2.2.2.2⟩
      obtain ⟨m, ns, _⟩ := I2.loc
      have free := I2.free
      rw [show (X.blk sL HL scope ce fp).env.locals = sL.heap.objs.size from eloc] at ns free
      obtain ⟨g0, g1, g2, g3, g4, g5⟩ := IL.fpOk (Nat.le_refl _) free
      exact ⟨m, ns, fun h'' sb => ⟨.ref sI.heap.objs.size, H1, I3.turned (t' := s2.toks) (fun b o hb e => (sb.2 b hb).trans e) g0 g1 g3 g4 g5, rfl, fin⟩⟩
    · refine thnF (T.item (X.blk sL HL scope ce fp) rfl rfl rfl calm i [] s1 _ H1 (fun _ _ => False) I1 (fpB I1 n1) st1 go) fun r s2 ⟨u, hr, more⟩ => ?_
      subst hr
      refine thnF more fun _ s3 ⟨x, H3, I3, r3, y3, st3, n3⟩ => ?_
      refine thnF (PGb.run _ s3 _ H3 x u _ (I3.pinned (fpB I3 n3) (T.obj _ _ st3)) r3 (step x H3 y3)) fun _ s4 ⟨σ4, H4, I4, wp4, q4⟩ => ?_
      refine thnF (PTb.run _ s4 σ4 H4 _ I4 q4) fun b s5 ⟨H5, I5, q5⟩ => ?_
      have on : ∀ {s' : Shared} {H' : Hp}, Inv (X.blk sL HL scope ce fp) ([] ++ pinsAt fp s3.heap) σ4 H' s' → Nx H' → ∃ m, m < n ∧ ∃ i H', Inv (X.blk sL HL scope ce fp) [] (wipe σ (own.map (·.2))) H' s' ∧ tn i s'.heap ∧ (∀ b ∈ fp, H' b = none) ∧ W i m H' := fun I' nx => by
        obtain ⟨m', lt, w'⟩ := hNx _ nx
        have pin : ∀ b ∈ fp, ∀ o, s3.heap.get? b = some o → _ := fun b hb o e => I'.pin (b, o) (List.mem_append_right _ (List.mem_append_right _ (mem_pinsAt hb e)))
        refine ⟨m', lt, i + 1, _, (I'.unpinned (pins := [])).weak (by rw [← wp4, wipe_length]) (fun j v e => ?_), T.keep _ _ _ st3 fun b hb o e => (pin b hb o e).1, fun b hb => ?_, w'⟩
        · rw [← wp4] at e
          exact (wipe_some e).1
        · obtain ⟨o, e, _⟩ := T.obj _ _ st3 b hb
          exact (pin b hb o e).2.1
      by_cases hb : b = true
      · subst hb
        rw [if_pos rfl] at q5 ⊢
        refine thnF (PEb.run _ s5 σ4 H5 _ I5 q5) fun z s6 ⟨v6, H6, I6, r6, acc, hD, hz, nx⟩ => ?_
        exact app_ok (X := X.blk sL HL scope ce fp) I6 hD hz r6 fun s7 I7 => on I7 nx
      · dsimp only at q5 ⊢
        rw [if_neg hb] at q5 ⊢
        exact on I5 q5
end
end DLR
namespace DLR
open PySem PySem.Spec PyProof.Rows L2 LamX
theorem CloAt.unX {N : List Str} {cl : List (Str × Addr)} {scope : Scope} {σ : L2.St} {H H' : Hp} {h h' : Heap} {fs ex : List Addr} (C : CloAt N cl scope σ H h) (u : Un fs ex H H' h h') (ne : ∀ y c, cl.lookup y = some c → c ∉ ex) : CloAt N cl scope σ H' h' := by
  have ck : ∀ {y : Str} {c : Addr} {v : Option Value}, cl.lookup y = some c → h.IsCell c v → h'.IsCell c v := fun {y c v} e ⟨o, ho, hd⟩ => by
    obtain ⟨sl, q⟩ := u.any ho (C.cell y c e).1 (ne y c e)
    exact ⟨_, q, hd⟩
  refine ⟨C.len, C.own, C.kind, C.inj, C.has, fun y c e => ?_, fun i y v e1 e2 k => ?_⟩
  · obtain ⟨n, v, o, ho, hd⟩ := C.cell y c e
    exact ⟨u.free c o ho n (ne y c e), v, ck e ⟨o, ho, hd⟩⟩
  · obtain ⟨c, x, h1, h2, r⟩ := C.val i y v e1 e2 k
    exact ⟨c, x, h1, ck h1 h2, r⟩
theorem clo_cells {cells : List (Str × Addr)} {names : List (Str × NameKind)} {y : Str} {c : Addr} (has : ∀ z ∈ names, z.2 = .free → ∃ c, cells.lookup z.1 = some c) (e : (cloFrom cells names []).lookup y = some c) : cells.lookup y = some c := by
  rcases cloFrom_mem (PySem.mem_of_lookup e) with hm | ⟨h1, h2⟩
  · cases hm
  · obtain ⟨c1, hc⟩ := has _ h1 rfl
    have hc : cells.lookup y = some c1 := hc
    rw [h2, hc]
    rfl
section
variable {X : Cx}
def tToldB (X : Cx) (k : Nat) (TT : (XK → Hp → VK → Prop) → Hp → VK → Prop) (te : TE) (σ0 : L2.St) : TE := fun σ H Q => te σ H fun v H1 => ∃ (f c' : Addr) (o : Obj) (scope : Scope) (dT : Option Addr) (t : XK → TE), v = .ref f ∧ H1 c' = some (CodeO c' (X.env.qual ++ "<lambda>")) ∧ LamN X.N X.env.scope scope ∧
  LamP X.prog X.w X.K X.mg X.base X.N (X.env.qual ++ "<lambda>") (cloFrom X.env.cells scope.names []) scope o c' dT k t ∧ TT (fun E H' Q' => H' f = some (LamO f o) ∧ DvAt H' dT ∧ t E σ0 H' Q') H1 Q
theorem pe_toldB {TT : (XK → Hp → VK → Prop) → Hp → VK → Prop} {sb : Shared} {Hb : Hp} {bs : Scope} {ce : Env} {fp : List Addr} {pins0 : List (Addr × Obj)} {σ0 : L2.St} {x a : Str} {g : Addr} {k : Nat} {pg : Arguments} {bg : List Stmt} {sg : Scope} {dV kV doc pm cdv ct oc : Value} {an od : Option Addr} {osl : Array (Option Value)} {Ng : List Str} {e : Expr} {te : TE} {p pos : Pos}
    (I0 : Inv X pins0 σ0 Hb sb) (hfp : ∀ b ∈ fp, FpOk X pins0 Hb b)
    (hg : Gl (X.blk sb Hb bs ce fp) x) (hm : X.mg x = some (.ref g)) (hk : PySem.W.keepIn X.K (.ref g) = true) (lk : X.K.lookup g = some ⟨oc, od, .func (PySem.W.fnOf x x pg bg sg dV kV doc pm an cdv ct), osl⟩) (hcg : PySem.W.codeIn X.K cdv x = true)
    (hb : L2.Binds X.K (PySem.W.fnOf x x pg bg sg dV kV doc pm an cdv ct) [a] []) (Sg : FnScope Ng [a] sg) (hNg : Ng[0]? = some a) (hva : Vis sg a) (hG : GivesTo (X.blk sb Hb bs ce fp) Ng x sg g cdv bg a (X.env.qual ++ "<lambda>") TT) (hr : Room (k + 2) X.A) (he : PE (X.blk sb Hb bs ce fp) e te)
    (hdb : (x == ("__debug__" : Str)) = false := by decide) (hd : (a == ("__debug__" : Str)) = false := by decide) (hcd : (a == ("__classdict__" : Str)) = false := by decide)
    (hs : starEach [e] ce = (false, eval e ce) :: starEach [] ce := by rfl) (hpl : (backTo pos (starEach [] ce)).any (·.1) = false := by rfl) :
    PE (X.blk sb Hb bs ce fp) (.Call (.Name x p) [e] [] pos) (tToldB X k TT te σ0) := by
  refine ⟨fun pins s σ H Q I h => ?_⟩
  refine wpAny_Call_Name_kw (ld_glob I hg hm ?_ hdb)
  have arg := (pa_cons he pa_nil hs).run pos pins s σ H (fun vs H1 => match vs with
    | [v] => ∃ (f c' : Addr) (o : Obj) (scope : Scope) (dT : Option Addr) (t : XK → TE), v = .ref f ∧ H1 c' = some (CodeO c' (X.env.qual ++ "<lambda>")) ∧ LamN X.N X.env.scope scope ∧
      LamP X.prog X.w X.K X.mg X.base X.N (X.env.qual ++ "<lambda>") (cloFrom X.env.cells scope.names []) scope o c' dT k t ∧ TT (fun E H' Q' => H' f = some (LamO f o) ∧ DvAt H' dT ∧ t E σ0 H' Q') H1 Q
    | _ => False) I h
  refine PySem.W.callWith_K (h₀ := X.base) I.ok.mod.kin hk (thn arg fun us s1 ⟨vs, H1, I1, r, q0⟩ => ⟨I1.kIn, ?_⟩) hs hpl
  match vs, r, q0 with
  | [v], r, q0 =>
    obtain ⟨f, c', o, scope, dT, t, rfl, hc, L, LP, q⟩ := q0
    obtain ⟨u, rfl, ru⟩ := r.one
    cases ru
    have C1 : CloAt X.N (cloFrom X.env.cells scope.names []) scope σ0 H1 s1.heap := (CloAt.here I0 L).unX I1.base fun y c e m => (hfp c m).2.2.2.2.1 y c (clo_cells (L.has I0.ok) e) rfl
    have rc : codeAny (model X.prog X.w) X.A (.call (.ref g) ⟨[.ref f], []⟩) (CR C8.CX0 (X.blk sb Hb bs ce fp).stack X.prog X.w H1 s1 Q C8.E0) s1 := by
      refine run_ofS (N := Ng) (ps := [a]) (us := [.ref f]) (vs := [.ref f]) lk hcg Sg hr I1.env0 (hb s1 [.ref f] I1.kIn rfl) (.cons rfl .nil) rfl fun hr' => ?_
      obtain ⟨t', ht', hq'⟩ := hG f c' s1 H1 Q (fun E H' Q' => H' f = some (LamO f o) ∧ DvAt H' dT ∧ t E σ0 H' Q') (fun W pn xe E p1 p2 tk hW => lam_act (X := X.blk sb Hb bs ce fp) (i := 0) C1 LP tk hW hr' hNg hva hd hcd) hc q
      exact ⟨t', ht'.nox, hq'⟩
    refine wpAny_call (codeAny_mono rc fun r s2 hq => ?_)
    cases r with
    | error e => exact (show False from hq).elim
    | ok fl =>
      cases fl with
      | ret u => exact I1.after hq
      | next => exact hq.elim
      | brk => exact hq.elim
      | cont => exact hq.elim
end
end DLR
namespace DLR
open PySem PySem.Spec PyProof.Rows L2 PySem.W
open DL (nI)
/-! ### sorted(xs), xs a list of tuples of whole numbers, of any lengths but 0 -/
def natsP (l : List Nat) : List PyData := (l.map fun n : Nat => (n : Int)).map .int
def encI (l : List Nat) : PyData := .tuple (natsP l)
def TupsI (H : Hp) (bs : List Addr) (L : List (List Nat)) : Prop := Paired (fun b l => H b = some (.tup (l.map nI))) bs L
theorem intsD_at {K : PySem.W.Frag} {H : Hp} : ∀ l : List Nat, DpAll K H (l.map nI) (natsP l)
  | [] => .nil
  | x :: l => .cons (.int (x : Int)) (intsD_at l)
theorem encI_at {K : PySem.W.Frag} {H : Hp} {b : Addr} {l : List Nat} (h : H b = some (.tup (l.map nI))) : Dp K H (.ref b) (encI l) := .tup (SqT.of h) (intsD_at l)
theorem encI_dep (l : List Nat) : (encI l).depth ≤ 1 := by
  unfold encI natsP
  rw [PyData.depth, depth_ints]
  decide
def sortI2 (L : List (List Nat)) : List (List Nat) := L.mergeSort (dataLe false encI)
def rSortTI (K : PySem.W.Frag) : List V → Hp → VK → Prop := fun vs H Q => ∃ (a : Addr) (bs : List Addr) (L : List (List Nat)), vs = [V.ref a] ∧ SqL K H a (bs.map V.ref) ∧ TupsI H bs L ∧ (∀ l ∈ L, l ≠ []) ∧
  ∀ (cs : List Addr) (p : Addr), H p = none → cs.length = L.length → TupsI H cs (sortI2 L) → Q (.ref p) (upd H p (.lst (cs.map V.ref)))
theorem each_tups {H : Hp} : ∀ {bs : List Addr} {L : List (List Nat)} {its : List Value}, TupsI H bs L → Vals (bs.map V.ref) its → EachIs (fun v l => ∃ b, v = Value.ref b ∧ H b = some (.tup (l.map nI))) its L
  | [], [], [], .nil, _ => .nil
  | b :: bs, l :: L, _, .cons h t, .cons r rs => .cons ⟨b, r, h⟩ (each_tups t rs)
theorem back_tups {H : Hp} : ∀ {out : List Value} {L : List (List Nat)}, EachIs (fun v l => ∃ b, v = Value.ref b ∧ H b = some (.tup (l.map nI))) out L → ∃ cs : List Addr, Vals (cs.map V.ref) out ∧ TupsI H cs L
  | _, _, .nil => ⟨[], .nil, .nil⟩
  | _, _, .cons ⟨b, e, h⟩ t => by
    obtain ⟨cs, h1, h2⟩ := back_tups t
    exact ⟨b :: cs, .cons e h1, .cons h h2⟩
theorem tups_len {H : Hp} {bs : List Addr} {L : List (List Nat)} (h : TupsI H bs L) : bs.length = L.length := Paired.length h
theorem cr_sortedTI {X : Cx} (hu : X.A.units + 64 < cLine) : CallR X (.builtin "sorted") (rSortTI X.K) := by
  intro pins s σ H vs us Q I r h
  obtain ⟨a, bs, L, rfl, hs, hT, hne, q⟩ := h
  obtain ⟨its, rv, hl, hz⟩ := I.list hs
  rw [Vals.ref1 r]
  have e := each_tups hT rv
  have hlen := tups_len hT
  rw [List.length_map] at hz
  refine sorted_data (enc := encI) (bs := L) hl.isList e (e.mono fun v l ⟨b, ev, hb⟩ => by subst ev; exact Dp.reads I _ (.ref b) _ (encI_at hb) rfl) (fun d hd d' hd' => ?_) (.inl fun d hd => ?_) (by omega) (fun l _ => ?_) fun out hlo ho => ?_
  · obtain ⟨l, _, rfl⟩ := List.mem_map.mp hd
    obtain ⟨l', _, rfl⟩ := List.mem_map.mp hd'
    exact alike_ints _ _
  · obtain ⟨l, hm, rfl⟩ := List.mem_map.mp hd
    match l, hne l hm with
    | x :: r, _ => exact ⟨_, _, rfl⟩
  · have := encI_dep l
    omega
  · obtain ⟨cs, h1, h2⟩ := back_tups ho
    obtain ⟨ep, he'⟩ := PyProof.Rows.sortedAll_at s.heap its out.toArray
    have hcl : cs.length = L.length := by
      have z := h1.length
      rw [List.length_map] at z
      omega
    refine ⟨.ref _, upd H (s.heap.objs.size + 1) (.lst (cs.map V.ref)), I.laid (t' := s.toks) (fun _ _ => PyProof.Rows.sortedAll_old) (Nat.le_succ _) ⟨?_, out, ep, h1, he'⟩, rfl, q _ _ (I.hok.fresh (Nat.le_succ _)) hcl h2⟩
    rw [List.length_map, hcl, ← hlen]
    exact hz
end DLR
namespace DLR
open PySem PySem.Spec PyProof.Rows L2
theorem op_notIn_seqK {X : Cx} (K0 : PySem.W.Frag) (hK : X.K = K0) : OpR X (compareOp .NotIn) (rIn K0 true) := hK ▸ op_notIn_seq
theorem pa_starK {X : Cx} {e : Expr} {es : List Expr} {te : TE} {t : TA} {p : Pos} (K0 : PySem.W.Frag) (hK : X.K = K0) (he : PE X e te) (hr : PA X es t) (hs : starEach (.Starred e p :: es) X.env = (true, eval e X.env) :: starEach es X.env := by rfl) : PA X (.Starred e p :: es) (StX.tStar K0 te t) := by
  subst hK
  exact StX.pa_star he hr hs
end DLR
namespace DL
open PySem PySem.Spec L2 DLR
/-! ### the loops of a program -/
structure Cg (mg : Str → Option Value) where
  tG : Tok
  mG : mg "MOST_LOOPS" = some (.int 100 tG)
structure Cs (mg : Str → Option Value) where
  tS : Tok
  mS : mg "MOST_STRETCHES" = some (.int 3000 tS)
def stepsOf (rows : List Row) (start : Nat) (s : List Nat) : List (List Nat) := ((tgt (rows.getD (s.getLastD 0) .stop)).filter fun t => decide (start < t) && decide (t ∉ s)).map fun t => s ++ [t]
def dfs (rows : List Row) (start : Nat) : Nat → List (List Nat) → List (List Nat) → Option (Nat × List (List Nat))
  | n, [], f => some (n, f)
  | 0, _ :: _, _ => none
  | n + 1, s :: st, f => dfs rows start n ((stepsOf rows start s).reverse ++ st) (if start ∈ tgt (rows.getD (s.getLastD 0) .stop) then f ++ [s] else f)
theorem dfs_nil (rows : List Row) (start n : Nat) (f : List (List Nat)) : dfs rows start n [] f = some (n, f) := by cases n <;> rfl
def dfsAll (rows : List Row) : List Nat → Nat → List (List Nat) → Option (Nat × List (List Nat))
  | [], n, f => some (n, f)
  | s :: ss, n, f => match dfs rows s n [[s]] f with
    | none => none
    | some (n', f') => dfsAll rows ss n' f'
def loopsF (rows : List Row) : Option (List (List Nat)) := match dfsAll rows (List.range rows.length) 3000 [] with
  | none => none
  | some (_, f) => if 100 < f.length then none else some (sortI2 f)
structure Str_ (N : Nat) (s : List Nat) : Prop where
  ne : s ≠ []
  nd : s.Nodup
  lt : ∀ x ∈ s, x < N
theorem sub_len {α : Type} [DecidableEq α] : ∀ {l m : List α}, l.Nodup → (∀ x ∈ l, x ∈ m) → l.length ≤ m.length
  | [], _, _, _ => Nat.zero_le _
  | x :: l, m, nd, h => by
    obtain ⟨h1, h2⟩ := List.nodup_cons.mp nd
    have q := sub_len (m := m.erase x) h2 fun y hy => (List.mem_erase_of_ne (fun e => h1 (by rw [← e]; exact hy))).mpr (h y (List.mem_cons_of_mem _ hy))
    rw [List.length_erase_of_mem (h x List.mem_cons_self)] at q
    have p := List.length_pos_of_mem (h x List.mem_cons_self)
    rw [List.length_cons]
    omega
theorem Str_.len {N : Nat} {s : List Nat} (h : Str_ N s) : s.length ≤ N := by
  have q := sub_len h.nd (m := List.range N) fun x hx => List.mem_range.mpr (h.lt x hx)
  rw [List.length_range] at q
  exact q
theorem Str_.last {N : Nat} {s : List Nat} (h : Str_ N s) : ∃ x, s[s.length - 1]? = some x ∧ s.getLastD 0 = x ∧ x < N := by
  obtain ⟨ne, nd, lt⟩ := h
  refine ⟨s.getLast ne, ?_, ?_, lt _ (List.getLast_mem ne)⟩
  · rw [← List.getLast?_eq_getElem?, List.getLast?_eq_some_getLast ne]
  · rw [List.getLastD_eq_getLast?, List.getLast?_eq_some_getLast ne]
    rfl
theorem inV_n (j : Nat) : ∀ L : List Nat, inV (nI j) (L.map nI) = decide (j ∈ L)
  | [] => rfl
  | x :: L => by
    show (eqV (nI x) (nI j) || inV (nI j) (L.map nI)) = _
    rw [inV_n j L]
    have e : eqV (nI x) (nI j) = decide (x = j) := by
      show decide ((x : Int) = (j : Int)) = _
      by_cases h : x = j
      · rw [decide_eq_true h]
        exact decide_eq_true (by omega)
      · rw [decide_eq_false h]
        exact decide_eq_false (by omega)
    rw [e]
    by_cases h : x = j
    · subst h
      simp
    · simp [h, Ne.symm h]
theorem flat_n : ∀ L : List Nat, (L.map nI).all flatV = true
  | [] => rfl
  | x :: L => flat_n L
theorem whileP {c : TT} {tb : TS} {D : Ends} {σ : L2.St} {H : Hp} (W : Nat → L2.St → Hp → Prop) (R : L2.St → Hp → Prop) (w0 : ∃ m, W m σ H) (key : ∀ σ' H', R σ' H' → D.nx σ' H')
    (turn : ∀ Nx : L2.St → Hp → Prop, (∀ σ' H', R σ' H' → Nx σ' H') → ∀ m σ H, W m σ H → c σ H fun b H1 => if b = true then ∃ N : L2.St → Hp → Prop, (∀ σ' H', N σ' H' → ∃ m', m' < m ∧ W m' σ' H') ∧ tb { D with nx := N, ct := N, bk := D.nx } σ H1 else Nx σ H1) :
    tWhile c tb D σ H := ⟨W, w0, fun m σ H w => turn D.nx key m σ H w⟩
abbrev TupsN (H : Hp) (bs : List Addr) (L : List (List Nat)) : Prop := TupsI H bs L
theorem TupsN.kp {H H' : Hp} {bs : List Addr} {L : List (List Nat)} (h : TupsN H bs L) (k : Kp H H') : TupsN H' bs L := Paired.mapP h fun b x e => k _ _ e
theorem tups_last {H : Hp} {x : List Nat} : ∀ {bs : List Addr} {L : List (List Nat)}, TupsN H bs (L ++ [x]) → ∃ b0 b, bs = b0 ++ [b] ∧ TupsN H b0 L ∧ H b = some (.tup (x.map nI))
  | _, [], .cons h .nil => ⟨[], _, rfl, .nil, h⟩
  | _, l :: L, .cons h t => by
    obtain ⟨b0, b, e, h1, h2⟩ := tups_last t
    exact ⟨_ :: b0, b, by rw [e]; rfl, .cons h h1, h2⟩
theorem dfsAll_cons (rows : List Row) (s : Nat) (ss : List Nat) (n : Nat) (f : List (List Nat)) : dfsAll rows (s :: ss) n f = match dfs rows s n [[s]] f with
    | none => none
    | some (n', f') => dfsAll rows ss n' f' := rfl
theorem Str_.at {N : Nat} {s : List Nat} (h : Str_ N s) : atI (s.map nI) (-1) = some (nI (s.getLastD 0)) ∧ s.getLastD 0 < N := by
  obtain ⟨x, h1, h2, h3⟩ := h.last
  rw [h2]
  refine ⟨?_, h3⟩
  rcases List.eq_nil_or_concat s with e | ⟨s0, y, e⟩
  · exact absurd e h.ne
  · rw [List.concat_eq_append] at e
    have hy : y = x := by
      rw [e, List.getLastD_eq_getLast?] at h2
      simpa using h2
    rw [e, List.map_append, hy]
    exact atI_last _ _
theorem tgt_ltP {r : Row} {n N : Nat} (h : r.ok n N) : ∀ t ∈ tgt r, t < N := fun t ht => by
  have ht := (tgt_mem r t).mp ht
  cases r with
  | load x m => rw [List.mem_singleton.mp ht]; exact h.2
  | add x m => rw [List.mem_singleton.mp ht]; exact h.2
  | take x m => rw [List.mem_singleton.mp ht]; exact h.2
  | store x m => rw [List.mem_singleton.mp ht]; exact h.2
  | say m => rw [List.mem_singleton.mp ht]; exact h
  | test a b =>
    rcases List.mem_cons.mp ht with e | e
    · rw [e]; exact h.1
    · rw [List.mem_singleton.mp e]; exact h.2
  | stop => cases ht
theorem in64P {k : Nat} {A : Around} (hr : Room k A) : A.units + 64 < cLine := by
  have := hr.un
  omega
theorem stepsOf_len (rows : List Row) (start : Nat) (s : List Nat) : (stepsOf rows start s).length ≤ 2 := by
  unfold stepsOf
  rw [List.length_map]
  exact Nat.le_trans (List.length_filter_le _ _) (tgt_len _)
abbrev sLoops : Stmt := top 48
abbrev FLoops (K : Frg) (mg : Str → Option Value) := Fd K mg "loops" sLoops ["program"]
abbrev nLoops : List Str := ["program","found","stretches","start","waiting","stretch","ahead","to"]
def spLoops (TM : Addr) : Sp := fun vs H Q E => ∃ (a : Addr) (p : Prog), vs = [.ref a] ∧ ProgAt H a p ∧ Good p ∧ (loopsF p.rows = none → ∀ H', Same1 H H' → E (.ref TM) none H') ∧
  ∀ L, loopsF p.rows = some L → (∀ s ∈ L, Str_ p.rows.length s) → L.length ≤ 100 → ∀ l bs H', Same1 H H' → H l = none → H' l = some (.lst (bs.map V.ref)) → TupsN H' bs L → Q (.ref l) H'
section
variable {P : Program} {w : World} {K : PySem.W.Frag} {mg : Str → Option Value} {base : Heap}
theorem scLoops : FnScope nLoops ["program"] (defScope sLoops) := ⟨rfl, rfl, rfl, by decide +kernel, rfl, by decide +kernel, by decide +kernel⟩
theorem ok_loops {TMA : Addr} (ov : OvK K TMA) (mTM : mg "TooMany" = some (.ref TMA)) (c : FLoops K mg) (cCheckProgram : FCheckProgram K mg) (cAhead : FAhead K mg) (T : Bt mg) (CG : Cg mg) (CS : Cs mg)
    (GCheckProgram : FnOk P w K mg base CX0 4 cCheckProgram.f cCheckProgram.fd ["program"] spCheckProgram) (GAhead : FnOk P w K mg base CX0 3 cAhead.f cAhead.fd ["row"] spAhead) : FnOk P w K mg base (L2.CX P w) 5 c.f c.fd ["program"] (spLoops TMA) := by
  refine c.F.okX scLoops (fun vs H Q E h => ?_) (fun cdv A outer s H vs Q E hr h => ?_)
  · obtain ⟨a, p, rfl, _⟩ := h
    rfl
  · obtain ⟨a, p, rfl, hP, g, kn, ks⟩ := h
    refine ⟨_, (pss_cons (ps_expr (pe_call GCheckProgram (hr.mono (by first | omega | decide)) (by rfl) cCheckProgram.m cCheckProgram.F.kp cCheckProgram.b .nil pass0 (pa_cons (pv 0) pa_nil)))
      (pss_cons (ps_set (i := 1) scLoops.nd rfl (Or.inl rfl) (pe_lst pa_nil))
      (pss_cons (ps_set (i := 2) scLoops.nd rfl (Or.inl rfl) pe_int)
      (pss_cons (ps_for (L2.passes_of rfl) rfl (pi_range1 rfl T.range (pa_cons (pe_callB call_len_seq (by rfl) T.len PySem.boot_len (pa_cons (pe_ix ix_tup (pv 0) pe_int (fun _ _ => rfl)) pa_nil)) pa_nil)) (pg_name (i := 3) scLoops.nd rfl (Or.inr rfl))
          (pss_cons (ps_set (i := 4) scLoops.nd rfl (Or.inl rfl) (pe_lst (pa_cons (pe_tup (pa_cons (pv 3) pa_nil)) pa_nil)))
          (pss_one (ps_while (L2.passes_of rfl) (pt_truth (pv 4) (fun _ => rfl))
              (pss_cons (ps_set (i := 5) scLoops.nd rfl (Or.inr rfl) (pe_bm0 PySem.F.plainAttrs_list PySem.F.slot_list_pop PySem.F.type_list_pop mt_pop (pv 4)))
              (pss_cons (ps_aug (i := 2) scLoops.nd rfl (.inl rfl) pe_int ip_add)
              (pss_cons (ps_if (pt_cmpR op_gt (pv 2) (pe_glob rfl CS.mS relI) (nomark _))
                  (pss_one (ps_raise rfl (takes_of rfl rfl rfl rfl) (pmk_own PySem.F.excBase_ValueError ov.x mTM ov.k (raises_own ov.b ov.t) rfl)))
                  pss_nil)
              (pss_cons (ps_set (i := 6) scLoops.nd rfl (Or.inl rfl) (pe_call GAhead (hr.mono (by first | omega | decide)) (by rfl) cAhead.m cAhead.F.kp cAhead.b .nil pass0 (pa_cons (pe_ix ix_tup (pe_ix ix_tup (pv 0) pe_int (fun _ _ => rfl)) (pe_ix ix_tup (pv 5) (pe_un un_neg pe_int) (fun _ _ => rfl)) (fun _ _ => rfl)) pa_nil)))
              (pss_cons (ps_if (pt_cmpR op_in_seq (pv 3) (pv 6) rfl)
                  (pss_one (ps_expr (pe_bm PySem.F.plainAttrs_list PySem.F.slot_list_append PySem.F.type_list_append mt_append (pv 1) (pa_cons (pv 5) pa_nil))))
                  pss_nil)
              (pss_one (ps_expr (pe_bm PySem.F.plainAttrs_list PySem.F.slot_list_extend PySem.F.type_list_extend mt_extend (pv 4) (pa_cons (pe_lc (own := [("to", 7)]) (g := gName 7) rfl scLoops.nd (pi_list (pv 6)) (blkOk_by (N := nLoops) (sc := defScope sLoops) (by decide +kernel)) (fun _ _ _ _ _ => (pg_name (i := 7) scLoops.nd rfl (Or.inl rfl))) (fun _ _ _ _ _ => (pts_one (PW.pt (pw_and (pt_cmpR op_gt (pv 7) (pv 3) (nomark _)) (pw_and1 (pt_cmpR (op_notIn_seqK K rfl) (pv 7) (pv 5) rfl)))))) (fun _ _ _ _ _ => (pe_tup (pa_starK K rfl (pv 5) (pa_cons (pv 7) pa_nil))))) pa_nil)))))))))))))
      (pss_cons (ps_if (pt_cmpR op_gt (pe_callB call_len_seq (by rfl) T.len PySem.boot_len (pa_cons (pv 1) pa_nil)) (pe_glob rfl CG.mG relI) (nomark _))
          (pss_one (ps_raise rfl (takes_of rfl rfl rfl rfl) (pmk_own PySem.F.excBase_ValueError ov.x mTM ov.k (raises_own ov.b ov.t) rfl)))
          pss_nil)
      (pss_one (ps_ret (pe_callB (DLR.cr_sortedTI (in64P hr)) (by rfl) T.sorted (by decide +kernel) (pa_cons (pv 1) pa_nil))))))))), ?_⟩
    refine ⟨_, rfl, a, p, rfl, hP, g, fun H1 s1 => ?_⟩
    obtain ⟨wa, ra, rbs, hpa, hwa, hra, hR⟩ := id hP
    have hbr := Paired.length hR
    have r40 := g.r40
    refine ⟨Nat.zero_le _, fun l hl => ?_⟩
    have nl : H l = none := s1.free hl
    refine alloc hl fun H2 s2 e2 => ?_
    have S2 := s1.trans s2
    refine ⟨_, rfl, a, _, _, _, rfl, rfl, SqT.of (S2 _ _ hpa), at1, ra, _, rfl, .inr (SqT.of (S2 _ _ hra)), ((rbs.map V.ref).length : Int), rfl, by omega, by rw [List.length_map]; omega, ?_⟩
    generalize hRes : dfsAll p.rows (List.range p.rows.length) 3000 [] = Res
    have hNI : ((rbs.map V.ref).length : Int).toNat = p.rows.length := by rw [List.length_map, hbr]; rfl
    refine for_range (lo := 0) (n := ((rbs.map V.ref).length : Int).toNat) (fun i σ H' => ∃ (x3 x4 x5 x6 : Option V) (z : Int) (n : Nat) (f : List (List Nat)) (cs : List Addr), σ = [some (.ref a), some (.ref l), some (.int z), x3, x4, x5, x6, none] ∧ z = 3000 - (n : Int) ∧ Same1 H1 H' ∧ H' l = some (.lst (cs.map V.ref)) ∧ TupsN H' cs f ∧ f.length + n ≤ 3000 ∧ (∀ s ∈ f, Str_ p.rows.length s) ∧ dfsAll p.rows ((List.range p.rows.length).drop i) n f = Res)
      ⟨none, none, none, none, 0, 3000, [], [], rfl, rfl, s2, e2, .nil, Nat.le_refl _, fun s hs => (by cases hs), hRes⟩ ?_ ?_
    · rw [hNI]
      rintro i σ H3 hir ⟨x3, x4, x5, x6, z, n, f, cs, rfl, hz, s3, e3, hT, hfn, hf, hD⟩
      rw [Int.zero_add]
      have S3 := s1.trans s3
      refine ⟨_, rfl, (by show 1 ≤ sizeLine; decide), fun t ht => ?_⟩
      refine alloc ht fun H4 s4 e4 => ?_
      refine ⟨(by show 1 ≤ sizeLine; decide), fun wl hwl => ?_⟩
      have nwl : H wl = none := (S3.trans s4).free hwl
      have nwl1 : H1 wl = none := (s3.trans s4).free hwl
      have ne : l ≠ wl := ne_of_none (s4 _ _ e3) hwl
      refine alloc hwl fun H5 s5 e5 => ?_
      dsimp only [gName]
      have S5 := (S3.trans s4).trans s5
      have ei : (List.range p.rows.length).drop i = i :: (List.range p.rows.length).drop (i + 1) := by
        rw [List.drop_eq_getElem_cons (by rw [List.length_range]; exact hir), List.getElem_range]
      rw [ei] at hD
      generalize hD0 : dfs p.rows i n [[i]] f = D0
      refine whileP (fun m σ H' => ∃ (x5 x6 : Option V) (z : Int) (n' : Nat) (st f' : List (List Nat)) (ws cs' : List Addr), m = n' ∧ σ = [some (.ref a), some (.ref l), some (.int z), some (nI i), some (.ref wl), x5, x6, none] ∧ z = 3000 - (n' : Int) ∧ Same1 H1 H' ∧ H' l = some (.lst (cs'.map V.ref)) ∧ TupsN H' cs' f' ∧ H' wl = some (.lst (ws.map V.ref)) ∧ TupsN H' ws st.reverse ∧
          (∀ s ∈ st, Str_ p.rows.length s) ∧ (∀ s ∈ f', Str_ p.rows.length s) ∧ f'.length + n' ≤ 3000 ∧ st.length + n' ≤ 3001 ∧ dfs p.rows i n' st f' = D0)
        (fun σ H' => ∃ (x5 x6 : Option V) (z : Int) (n' : Nat) (f' : List (List Nat)) (cs' : List Addr), σ = [some (.ref a), some (.ref l), some (.int z), some (nI i), some (.ref wl), x5, x6, none] ∧ z = 3000 - (n' : Int) ∧ Same1 H1 H' ∧ H' l = some (.lst (cs'.map V.ref)) ∧ TupsN H' cs' f' ∧ (∀ s ∈ f', Str_ p.rows.length s) ∧ f'.length + n' ≤ 3000 ∧ some (n', f') = D0)
        ⟨_, x5, x6, z, n, [[i]], f, [t], cs, rfl, rfl, hz, (s3.trans s4).trans s5, s5 _ _ (s4 _ _ e3), hT.kp ((Kp.same s4).trans (Kp.same s5)), e5, .cons (s5 _ _ e4) .nil, fun s hs => by rw [List.mem_singleton.mp hs]; exact ⟨by simp, by simp, fun x hx => by rw [List.mem_singleton.mp hx]; exact hir⟩, hf, hfn, by show 1 + n ≤ 3001; omega, hD0⟩ ?_ ?_
      · rintro σ H' ⟨x5, x6, z, n', f', cs', rfl, hz', s', e', hT', hf', hfn', hD'⟩
        refine ⟨_, _, _, _, z, n', f', cs', rfl, hz', s', e', hT', hfn', hf', ?_⟩
        rw [← hD]
        show _ = dfsAll p.rows (i :: _) n f
        rw [dfsAll_cons, hD0, ← hD']
      · intro Nx hNx
        rintro m σ H6 ⟨x5, x6, z, n', st, f', ws, cs', rfl, rfl, hz', s6, e6, hT6, hw6, hW6, hst, hf6, hfn6, hsn, hD6⟩
        have hwl6 := tups_len hW6
        rw [List.length_reverse] at hwl6
        refine ⟨_, rfl, !(ws.map V.ref).isEmpty, .inl ⟨_, SqL.of hw6, rfl⟩, ?_⟩
        cases st with
        | nil =>
          have : ws = [] := List.eq_nil_of_length_eq_zero hwl6
          subst this
          rw [dfs_nil] at hD6
          exact hNx _ _ ⟨x5, x6, z, m, f', cs', rfl, hz', s6, e6, hT6, hf6, hfn6, hD6⟩
        | cons sv st =>
          rw [List.reverse_cons] at hW6
          obtain ⟨ws0, wv, rfl, hW0, hwv⟩ := tups_last hW6
          have hsv := hst sv List.mem_cons_self
          have hsl := hsv.len
          obtain ⟨hat, hlt⟩ := hsv.at
          have hst' : ∀ s ∈ st, Str_ p.rows.length s := fun s hs => hst s (List.mem_cons_of_mem _ hs)
          have hsn' : st.length + 1 + m ≤ 3001 := hsn
          have hw0l := tups_len hW0
          rw [List.length_reverse] at hw0l
          rw [List.map_append] at hw6
          have hw6 : H6 wl = some (.lst (ws0.map V.ref ++ [V.ref wv])) := hw6
          have hne : (!((ws0 ++ [wv]).map V.ref).isEmpty) = true := by simp
          rw [hne]
          refine ⟨_, fun σ' H' q => q, _, rfl, .inl ⟨rfl, _, SqL.of hw6⟩, wl, _, V.ref wv, rfl, rfl, hw6, ?_, ?_⟩
          · rw [List.length_append]
            show (ws0.map V.ref ++ [V.ref wv])[(ws0.map V.ref).length + 1 - 1]? = _
            rw [Nat.add_sub_cancel, List.getElem?_append_right (Nat.le_refl _), Nat.sub_self]
            rfl
          rw [List.dropLast_concat]
          have s7 : Same1 H1 (upd H6 wl (.lst (ws0.map V.ref))) := Same.mut s6 nwl1
          have e7 : (upd H6 wl (.lst (ws0.map V.ref))) l = some (.lst (cs'.map V.ref)) := (upd_ne ne).trans e6
          have T7 : TupsN (upd H6 wl (.lst (ws0.map V.ref))) cs' f' := hT6.kp (Kp.lst hw6)
          have W7 : TupsN (upd H6 wl (.lst (ws0.map V.ref))) ws0 st.reverse := hW0.kp (Kp.lst hw6)
          have v7 : (upd H6 wl (.lst (ws0.map V.ref))) wv = some (.tup (sv.map nI)) := Kp.lst hw6 _ _ hwv
          have w7 : (upd H6 wl (.lst (ws0.map V.ref))) wl = some (.lst (ws0.map V.ref)) := upd_same
          generalize upd H6 wl (.lst (ws0.map V.ref)) = H7 at s7 e7 T7 W7 v7 w7 ⊢
          have S7 := s1.trans s7
          dsimp only [gName]
          refine ⟨_, rfl, _, _, rfl, rfl, ?_⟩
          refine ⟨_, rfl, _, _, rfl, rfl, _, rfl, ?_⟩
          cases m with
          | zero =>
            rw [show decide ((3000 : Int) < z + 1) = true from decide_eq_true (by omega)]
            refine iteT (kn ?_ H7 S7)
            have d0 : D0 = none := hD6.symm
            unfold loopsF
            rw [hRes, ← hD, dfsAll_cons, hD0, d0]
          | succ m =>
          rw [show decide ((3000 : Int) < z + 1) = false from decide_eq_false (by omega)]
          have hD6 : dfs p.rows i m ((stepsOf p.rows i sv).reverse ++ st) (if i ∈ tgt (p.rows.getD (sv.getLastD 0) .stop) then f' ++ [sv] else f') = D0 := hD6
          obtain ⟨rb, hb1, hb2⟩ := Paired.getR hR (List.getElem?_eq_getElem hlt)
          have hbV : (rbs.map V.ref)[sv.getLastD 0]? = some (.ref rb) := by rw [List.getElem?_map, hb1]; rfl
          have er : p.rows.getD (sv.getLastD 0) .stop = p.rows[sv.getLastD 0] := by rw [List.getD_eq_getElem?_getD, List.getElem?_eq_getElem hlt]; rfl
          refine iteF ⟨_, rfl, a, _, _, _, rfl, rfl, SqT.of (S7 _ _ hpa), at1, _, rfl, _, rfl, wv, _, _, _, rfl, rfl, SqT.of v7, hat, ra, _, _, _, rfl, rfl, SqT.of (S7 _ _ hra), atI_nat hbV, ?_⟩
          refine ⟨rb, p.rows[sv.getLastD 0], rfl, S7 _ _ hb2, fun q H8 s8 nq e8 => ?_⟩
          dsimp only [gName]
          have S8 := s7.trans s8
          have k8 := Kp.same s8
          refine seq_elim (fun σ' H' => ∃ cs2, σ' = [some (.ref a), some (.ref l), some (.int (z + 1)), some (nI i), some (.ref wl), some (.ref wv), some (.ref q), none] ∧ Same1 H1 H' ∧ H' l = some (.lst (cs2.map V.ref)) ∧ TupsN H' cs2 (if i ∈ tgt (p.rows.getD (sv.getLastD 0) .stop) then f' ++ [sv] else f') ∧ Kp H8 H' ∧ H' wl = some (.lst (ws0.map V.ref)) ∧ H' q = H8 q) ?_ ?_
          · rintro σ' H9 ⟨cs2, rfl, s9, e9, T9, k9, w9, q9⟩
            rw [e8] at q9
            have v9 : H9 wv = some (.tup (sv.map nI)) := k9 _ _ (k8 _ _ v7)
            refine ⟨_, rfl, .inl ⟨rfl, _, SqL.of w9⟩, _, rfl, q, rfl, ⟨_, SqL.of q9⟩, fun D hD' => ?_⟩
            have nqD : q ≠ D := ne_of_none q9 hD'
            have nwD : wl ≠ D := ne_of_none w9 hD'
            refine lc_list (K := K) (a := q) (xs := (tgt p.rows[sv.getLastD 0]).map nI) (fun j H' => ∃ ds : List Addr, Same1 H9 H' ∧ H' D = some (.lst (ds.map V.ref)) ∧ TupsN H' ds ((((tgt p.rows[sv.getLastD 0]).take j).filter fun t => decide (i < t) && decide (t ∉ sv)).map fun t => sv ++ [t]))
              ⟨[], Same.new hD', upd_same, .nil⟩ (fun j H' _ ⟨_, q2, _⟩ => SqL.of (q2 _ _ q9)) ?_ ?_
            · rintro j x H10 hj ⟨ds, s10, hD10, hd⟩
              rw [List.getElem?_map] at hj
              cases hz9 : (tgt p.rows[sv.getLastD 0])[j]? with
              | none => rw [hz9] at hj; cases hj
              | some y =>
                rw [hz9] at hj
                have e : nI y = x := Option.some.inj hj
                subst e
                have hjl := (List.getElem?_eq_some_iff.mp hz9).1
                have htl := tgt_len p.rows[sv.getLastD 0]
                have hdl := tups_len hd
                have hdl2 : ds.length ≤ 2 := by
                  rw [hdl, List.length_map]
                  refine Nat.le_trans (List.length_filter_le _ _) ?_
                  rw [List.length_take]
                  omega
                rw [List.take_add_one, hz9]
                have v10 := s10 _ _ v9
                refine ⟨rfl, _, rfl, _, rfl, _, _, rfl, rfl, _, rfl, ?_⟩
                have skip : (decide (i < y) && decide (y ∉ sv)) = false → TupsN H10 ds ((((tgt p.rows[sv.getLastD 0]).take j ++ (some y).toList).filter fun t => decide (i < t) && decide (t ∉ sv)).map fun t => sv ++ [t]) := by
                  intro z0
                  rw [List.filter_append, show (some y).toList = [y] from rfl, List.filter_cons, if_neg (by rw [z0]; decide), List.filter_nil, List.append_nil]
                  exact hd
                by_cases c1 : i < y
                · rw [show decide ((i : Int) < (y : Int)) = true from decide_eq_true (by omega)]
                  refine ⟨_, rfl, _, rfl, wv, _, rfl, .inr (SqT.of v10), rfl, flat_n _, _, rfl, ?_⟩
                  rw [if_pos rfl, inV_n]
                  by_cases c2 : y ∈ sv
                  · rw [decide_eq_true c2]
                    exact ⟨ds, s10, hD10, skip (by rw [decide_eq_true c1, decide_eq_false (fun z => z c2)]; rfl)⟩
                  · rw [decide_eq_false c2]
                    refine ⟨_, rfl, wv, _, rfl, .inl (SqT.of v10), _, rfl, sz (by rw [List.length_append, List.length_map]; show sv.length + 1 ≤ _; omega), fun t2 ht2 => ?_⟩
                    refine alloc ht2 fun H11 s11 e11 => ?_
                    have hD11 := s11 _ _ hD10
                    refine ⟨_, hD11, szl (by rw [List.length_map]; omega), ds ++ [t2], Same.mut (s10.trans s11) hD', by rw [upd_same, List.map_append]; rfl, ?_⟩
                    rw [List.filter_append, show (some y).toList = [y] from rfl, List.filter_cons, if_pos (by rw [decide_eq_true c1, decide_eq_true c2]; rfl), List.filter_nil, List.map_append]
                    refine TupsN.kp (Paired.app (TupsN.kp hd (Kp.same s11)) (Paired.one ?_)) (Kp.lst hD11)
                    rw [e11, List.map_append]
                    rfl
                · rw [show decide ((i : Int) < (y : Int)) = false from decide_eq_false (by omega)]
                  exact ⟨ds, s10, hD10, skip (by rw [decide_eq_false c1]; rfl)⟩
            · rintro H10 ⟨ds, s10, hD10, hd⟩
              rw [List.length_map, List.take_length] at hd
              have hd : TupsN H10 ds (stepsOf p.rows i sv) := by
                unfold stepsOf
                rw [er]
                exact hd
              have hdl := tups_len hd
              have hs2 := stepsOf_len p.rows i sv
              have w10 := s10 _ _ w9
              refine ⟨wl, D, _, _, rfl, rfl, w10, hD10, sz (by rw [List.length_map, List.length_map]; omega), ?_⟩
              have hf2 : (if i ∈ tgt (p.rows.getD (sv.getLastD 0) .stop) then f' ++ [sv] else f').length ≤ f'.length + 1 := by
                split
                · rw [List.length_append]; exact Nat.le_refl _
                · omega
              refine ⟨m, Nat.lt_succ_self _, some (.ref wv), some (.ref q), z + 1, m, (stepsOf p.rows i sv).reverse ++ st, _, ws0 ++ ds, cs2, rfl, rfl, by omega, Same.mut (s9.trans s10) nwl1, (upd_ne ne).trans (s10 _ _ e9), TupsN.kp T9 ((Kp.same s10).trans (Kp.lst w10)), by rw [upd_same, List.map_append], ?_, ?_, ?_, by omega, ?_, hD6⟩
              · rw [List.reverse_append, List.reverse_reverse]
                exact TupsN.kp (Paired.app (TupsN.kp W7 (k8.trans (k9.trans (Kp.same s10)))) hd) (Kp.lst w10)
              · intro s hs
                rcases List.mem_append.mp hs with y | y
                · have y := List.mem_reverse.mp y
                  unfold stepsOf at y
                  obtain ⟨t, ht, rfl⟩ := List.mem_map.mp y
                  obtain ⟨t1, t2⟩ := List.mem_filter.mp ht
                  rw [er] at t1
                  have t2 := of_decide_eq_true (Bool.and_eq_true_iff.mp t2).2
                  have tN := tgt_ltP (g.ok _ (List.getElem_mem hlt)) t t1
                  refine ⟨by simp, List.nodup_append.mpr ⟨hsv.nd, by simp, fun x hx y hy e => t2 (by rw [← List.mem_singleton.mp hy, ← e]; exact hx)⟩, fun x hx => ?_⟩
                  rcases List.mem_append.mp hx with z | z
                  · exact hsv.lt x z
                  · rw [List.mem_singleton.mp z]; exact tN
                · exact hst' s y
              · intro s hs
                split at hs
                · rcases List.mem_append.mp hs with z | z
                  · exact hf6 s z
                  · rw [List.mem_singleton.mp z]; exact hsv
                · exact hf6 s hs
              · rw [List.length_append, List.length_reverse]
                omega
          · intro N hN
            refine if_elim (fun b H' => H' = H8 ∧ b = decide (i ∈ tgt p.rows[sv.getLastD 0])) ?_ ?_
            · rintro b H' ⟨rfl, rfl⟩
              rw [er] at hN
              by_cases c : i ∈ tgt p.rows[sv.getLastD 0]
              · rw [decide_eq_true c]
                rw [if_pos c] at hN
                have hcl := tups_len T7
                have e9 := s8 _ _ e7
                refine iteT ⟨_, rfl, .inl ⟨rfl, _, SqL.of e9⟩, _, rfl, l, _, _, rfl, rfl, e9, szl (by rw [List.length_map]; omega), hN _ _ ⟨cs' ++ [wv], rfl, Same.mut S8 hl, by rw [upd_same, List.map_append]; rfl, TupsN.kp (Paired.app (TupsN.kp T7 k8) (Paired.one (k8 _ _ v7))) (Kp.lst e9), Kp.lst e9, (upd_ne ne.symm).trans (s8 _ _ w7), ?_⟩⟩
                exact upd_ne (fun z => by rw [z] at nq; rw [nq] at e7; cases e7)
              · rw [decide_eq_false c]
                rw [if_neg c] at hN
                exact iteF (hN _ _ ⟨cs', rfl, S8, s8 _ _ e7, TupsN.kp T7 k8, Kp.refl _, s8 _ _ w7, rfl⟩)
            · rintro F' hF
              refine ⟨_, rfl, _, rfl, q, _, rfl, .inl (SqL.of e8), rfl, flat_n _, _, rfl, ?_⟩
              rw [if_neg (by decide), inV_n]
              exact hF _ _ ⟨rfl, rfl⟩
    · rintro σ H3 ⟨x3, x4, x5, x6, z, n, f, cs, rfl, hz, s3, e3, hT, hfn, hf, hD⟩
      rw [hNI, List.drop_of_length_le (by rw [List.length_range]; exact Nat.le_refl _)] at hD
      have hD : some (n, f) = Res := hD
      have S3 := s1.trans s3
      have hcl := tups_len hT
      have hL : loopsF p.rows = if 100 < f.length then none else some (sortI2 f) := by
        unfold loopsF
        rw [hRes, ← hD]
      refine ⟨_, rfl, l, _, rfl, .inl (SqL.of e3), _, _, rfl, rfl, _, rfl, ?_⟩
      by_cases c : 100 < f.length
      · rw [if_pos c] at hL
        rw [show decide ((100 : Int) < ((cs.map V.ref).length : Int)) = true from decide_eq_true (by rw [List.length_map]; omega)]
        exact iteT (kn hL H3 S3)
      · rw [if_neg c] at hL
        rw [show decide ((100 : Int) < ((cs.map V.ref).length : Int)) = false from decide_eq_false (by rw [List.length_map]; omega)]
        exact iteF ⟨_, rfl, l, cs, f, rfl, SqL.of e3, hT, fun s hs => (hf s hs).ne, fun cs2 q hq _ hT2 => ks _ hL (fun s hs => hf s ((List.mergeSort_perm _ _).mem_iff.mp hs)) (by rw [show (sortI2 f).length = f.length from List.length_mergeSort _]; omega) q cs2 _ (Same.mut S3 (S3.free hq)) (S3.free hq) upd_same (TupsN.kp hT2 (Kp.new hq))⟩
end
end DL
namespace DLR
open PySem PySem.Spec PyProof.Rows L2
/-! ### list(zip(a, b)), a and b tuples -/
theorem zip_no_len : typeLookup (.type "zip") "__len__" = pure none := by rw [typeLookup_type, builtinLookup_eq_fast]; kernel_rfl
theorem zip_no_hint : typeLookup (.type "zip") "__length_hint__" = pure none := by rw [typeLookup_type, builtinLookup_eq_fast]; kernel_rfl
section
variable {prog : Program} {w : World} {A : Around} {E : Value → Shared → Prop} {s : Shared} {z TI TO T i1 i2 l1 l2 : Addr} {f : Bool} {oT : Obj} {k1 k2 : Nat} {xs ys : Array Value}
theorem held_item {x y : Value} {Q : Option Value → Shared → Prop} (D : ZipApart z TI TO i1 i2 l1 l2) (hz : IsZipHeld s.heap z TI TO T f) (hT : s.heap.get? T = some oT) (hTI : IsPair s.heap TI (.ref i1) (.ref i2))
    (h1 : s.heap.IsTupleIter i1 l1 k1) (h2 : s.heap.IsTupleIter i2 l2 k2) (hl1 : s.heap.IsTuple l1 xs) (hl2 : s.heap.IsTuple l2 ys) (hx : xs[k1]? = some x) (hy : ys[k2]? = some y)
    (hQ : ∀ h', IsZipHeld h' z TI TO T true → h'.IsTupleIter i1 l1 (k1 + 1) → h'.IsTupleIter i2 l2 (k2 + 1) → IsPair h' s.heap.objs.size x y → h'.objs.size = s.heap.objs.size + 1 →
      (∀ c o, c ≠ z → c ≠ i1 → c ≠ i2 → s.heap.get? c = some o → h'.get? c = some o) → Q (some (.ref s.heap.objs.size)) { s with heap := h' }) : wpAny (model prog w) A (pyNext (.ref z)) Q E s := by
  have ty : s.TypeIs (.ref z) "zip" := ⟨_, hz, rfl⟩
  unfold pyNext
  refine wpAny_bind (wpAny_attempt (wpAny_callSpecial?_slot (name := Str.ofString "__next__") ty F.slot_zip_next (wpAny_call_entry F.slot_zip_next ty F.entry_zip_next ?_ (F.args_zip_next_1 _))))
  show wpAny _ _ (field (.ref z) 2 >>= _) _ _ _
  refine wpAny_bind (wpAny_field hz rfl (x := .bool false) rfl ?_)
  show wpAny _ _ (field (.ref z) 3 >>= _) _ _ _
  refine wpAny_bind (wpAny_field hz rfl (x := .ref TI) rfl (wpAny_bind (wpAny_seqItems hTI rfl ?_)))
  show wpAny _ _ (Builtin.SmallTypes.ownedTupleIsFree (.ref z) >>= _) _ _ _
  refine wpAny_bind (wpAny_tupleHeld_zip hz hT fun g1 z1 s1 => ?_)
  simp only [Bool.false_eq_true, if_false]
  refine wpAny_bind ?_
  rw [← Array.forIn_toList]
  simp only [List.forIn_cons, List.forIn_nil]
  refine wpAny_bind (wpAny_bind (wpAny_holding ?_))
  show wpAny _ _ (Builtin.SmallTypes.nextOf (.ref i1) >>= _) _ _ _
  refine wpAny_bind (RZ.nextOf_tuple_item (s := { s with heap := g1 }) (h1.extBut s1.extBut D.i1z) (hl1.extBut s1.extBut D.l1z) hx fun g2 a2 s2 => wpAny_pure (wpAny_pure ?_))
  refine wpAny_bind (wpAny_bind (wpAny_holding ?_))
  show wpAny _ _ (Builtin.SmallTypes.nextOf (.ref i2) >>= _) _ _ _
  refine wpAny_bind (RZ.nextOf_tuple_item (s := { s with heap := g2 }) ((h2.extBut s1.extBut D.i2z).extBut s2.extBut D.i12.symm) ((hl2.extBut s1.extBut D.l2z).extBut s2.extBut D.l2i1) hy fun g3 a3 s3 => wpAny_pure (wpAny_pure (wpAny_pure ?_)))
  show wpAny _ _ (newTuple [x, y] >>= _) _ _ _
  refine wpAny_bind (wpAny_newTuple ?_)
  have hsz : g3.objs.size = s.heap.objs.size := by rw [s3.1, s2.1, s1.1]
  have z3 : IsZipHeld g3 z TI TO T true := s3.extBut _ _ D.i2z.symm (s2.extBut _ _ D.i1z.symm z1)
  have old : ∀ c o, c ≠ z → c ≠ i1 → c ≠ i2 → s.heap.get? c = some o → g3.get? c = some o := fun c o c1 c2 c3 e => s3.extBut _ _ c3 (s2.extBut _ _ c2 (s1.extBut _ _ c1 e))
  have b3 : g3.IsTupleIter i1 l1 (k1 + 1) := a2.extBut s3.extBut D.i12
  have pr : IsPair (g3.push { cls := .type "tuple", data := .seq #[x, y] }) g3.objs.size x y := Heap.get?_push_size _ rfl
  have sz4 : (g3.push { cls := .type "tuple", data := .seq #[x, y] }).objs.size = g3.objs.size + 1 := Heap.size_push ..
  refine wpAny_pure ⟨_, rfl, wpAny_pure ?_⟩
  show Q (some (.ref g3.objs.size)) _
  rw [hsz] at pr sz4 ⊢
  exact hQ _ (Heap.get?_push_of_some _ z3) (b3.at fun o e => Heap.get?_push_of_some _ e) (a3.at fun o e => Heap.get?_push_of_some _ e) pr sz4 fun c o c1 c2 c3 e => Heap.get?_push_of_some _ (old c o c1 c2 c3 e)
theorem held_end {x : Value} {Q : Option Value → Shared → Prop} (hh : A.handled = none) (D : ZipApart z TI TO i1 i2 l1 l2) (hz : IsZipHeld s.heap z TI TO T f) (hT : s.heap.get? T = some oT) (hTI : IsPair s.heap TI (.ref i1) (.ref i2))
    (h1 : s.heap.IsTupleIter i1 l1 k1) (h2 : s.heap.IsTupleIter i2 l2 k2) (hl1 : s.heap.IsTuple l1 xs) (hl2 : s.heap.IsTuple l2 ys) (hx : xs[k1]? = some x) (hy : ys[k2]? = none)
    (hQ : ∀ h', (∀ c o, c ≠ z → c ≠ i1 → c ≠ i2 → s.heap.get? c = some o → h'.get? c = some o) → Q none { s with heap := h' }) : wpAny (model prog w) A (pyNext (.ref z)) Q E s := by
  have ty : s.TypeIs (.ref z) "zip" := ⟨_, hz, rfl⟩
  have body : ∀ (A' : Around) (Q' : Fin → Shared → Prop) (E' : Value → Shared → Prop), A'.handled = none → (∀ h' e, (∀ c o, c ≠ z → c ≠ i1 → c ≠ i2 → s.heap.get? c = some o → h'.get? c = some o) → (∃ o, h'.get? e = some o ∧ o.cls = .type "StopIteration") → E' (.ref e) { s with heap := h' }) →
      wpAny (model prog w) A' (Builtin.«zip.__next__» ⟨[.ref z], []⟩) Q' E' s := by
    intro A' Q' E' hh hE
    show wpAny _ _ (field (.ref z) 2 >>= _) _ _ _
    refine wpAny_bind (wpAny_field hz rfl (x := .bool false) rfl ?_)
    show wpAny _ _ (field (.ref z) 3 >>= _) _ _ _
    refine wpAny_bind (wpAny_field hz rfl (x := .ref TI) rfl (wpAny_bind (wpAny_seqItems hTI rfl ?_)))
    show wpAny _ _ (Builtin.SmallTypes.ownedTupleIsFree (.ref z) >>= _) _ _ _
    refine wpAny_bind (wpAny_tupleHeld_zip hz hT fun g1 z1 s1 => ?_)
    simp only [Bool.false_eq_true, if_false]
    refine wpAny_bind ?_
    rw [← Array.forIn_toList]
    simp only [List.forIn_cons, List.forIn_nil]
    refine wpAny_bind (wpAny_bind (wpAny_holding ?_))
    show wpAny _ _ (Builtin.SmallTypes.nextOf (.ref i1) >>= _) _ _ _
    refine wpAny_bind (RZ.nextOf_tuple_item (s := { s with heap := g1 }) (h1.extBut s1.extBut D.i1z) (hl1.extBut s1.extBut D.l1z) hx fun g2 a2 s2 => wpAny_pure (wpAny_pure ?_))
    refine wpAny_bind (wpAny_bind (wpAny_holding ?_))
    show wpAny _ _ (Builtin.SmallTypes.nextOf (.ref i2) >>= _) _ _ _
    refine wpAny_bind (RZ.nextOf_tuple_end (s := { s with heap := g2 }) hh ((h2.extBut s1.extBut D.i2z).extBut s2.extBut D.i12.symm) ((hl2.extBut s1.extBut D.l2z).extBut s2.extBut D.l2i1) hy fun g3 e s3 he => ?_)
    exact hE g3 e (fun c o c1 c2 c3 q => s3 _ _ c3 (s2.extBut _ _ c2 (s1.extBut _ _ c1 q))) he
  unfold pyNext
  refine wpAny_bind (wpAny_attempt (wpAny_callSpecial?_slot (name := Str.ofString "__next__") ty F.slot_zip_next (wpAny_call_entry F.slot_zip_next ty F.entry_zip_next (body _ _ _ hh fun h' e hk he => ?_) (F.args_zip_next_1 _))))
  obtain ⟨o, ho, hc⟩ := he
  refine wpAny_bind (wpAny_isInstance (T := "StopIteration") (b := true) ⟨o, ho, hc⟩ isSubtype_stop ?_)
  exact wpAny_pure (hQ _ hk)
end
end DLR
namespace DLR
open PySem PySem.Spec PyProof.Rows L2
structure ZwAt (S z TI TO i1 i2 l1 l2 : Addr) (i : Nat) (h : Heap) : Prop where
  zf : (i = 0 ∧ IsZip h z TI TO .none) ∨ (∃ T f oT, IsZipHeld h z TI TO T f ∧ h.get? T = some oT ∧ T ≠ z ∧ T ≠ i1 ∧ T ≠ i2 ∧ T ≠ S)
  ti : IsPair h TI (.ref i1) (.ref i2)
  to : ∃ a b, IsPair h TO a b
  u1 : h.IsTupleIter i1 l1 i
  u2 : h.IsTupleIter i2 l2 i
theorem ZwAt.keep {S z TI TO i1 i2 l1 l2 : Addr} {i : Nat} {h h' : Heap} (st : ZwAt S z TI TO i1 i2 l1 l2 i h) (n : ∀ c ∈ [z, TI, TO, i1, i2], c ≠ S) (k : ∀ b o, b ≠ S → h.get? b = some o → h'.get? b = some o) : ZwAt S z TI TO i1 i2 l1 l2 i h' := by
  obtain ⟨zf, ti, ⟨a, b, to⟩, u1, u2⟩ := st
  refine ⟨?_, k _ _ (n _ (by simp)) ti, ⟨a, b, k _ _ (n _ (by simp)) to⟩, u1.at fun o e => k _ o (n _ (by simp)) e, u2.at fun o e => k _ o (n _ (by simp)) e⟩
  rcases zf with ⟨e, hz⟩ | ⟨T, f, oT, hz, hT, n1, n2, n3, n4⟩
  · exact .inl ⟨e, k _ _ (n _ (by simp)) hz⟩
  · exact .inr ⟨T, f, oT, k _ _ (n _ (by simp)) hz, k _ _ n4 hT, n1, n2, n3, n4⟩
abbrev PrAt (H : Hp) (ts : List Addr) (qs : List (V × V)) : Prop := Paired (fun t (q : V × V) => H t = some (.tup [q.1, q.2])) ts qs
theorem zip_loop {X : Cx} {A : Around} {R : Result → Shared → Prop} {pins : List (Addr × Obj)} {σ : L2.St} {S z TI TO i1 i2 a b : Addr} {res : Value} {H0 : Hp} {xs ys : List V} (hh : A.handled = none) (D : ZipApart z TI TO i1 i2 a b)
    (hA : H0 a = some (.tup xs)) (hB : H0 b = some (.tup ys)) (hl : ys.length < xs.length) (h1000 : ys.length ≤ 1000) (hS0 : H0 S = none)
    (out : ∀ (s' : Shared) (H' : Hp) (ts : List Addr), Inv X pins σ H' s' → H' S = some (.lst (ts.map V.ref)) → PrAt H' ts (xs.zip ys) → (∀ c o, H0 c = some o → H' c = some o) → R (.ok (.ret res)) s') :
    ∀ (k i : Nat) (s : Shared) (H : Hp) (acc : List Addr), ys.length - i = k → i ≤ ys.length → Inv X pins σ H s → ZwAt S z TI TO i1 i2 a b i s.heap → (∀ c ∈ [z, TI, TO, i1, i2], FpOk X pins H c) →
      H S = some (.lst (acc.map V.ref)) → PrAt H acc ((xs.zip ys).take i) → (∀ c o, H0 c = some o → H c = some o) → codeAny (model X.prog X.w) A (.builtin "list.extend.loop" ⟨[.ref S, .ref z, res], []⟩) R s := by
  intro k
  have zl : (xs.zip ys).length = ys.length := by rw [List.length_zip]; omega
  induction k with
  | zero =>
    intro i s H acc hk hi I st hf hS hP hkp
    have ei : i = ys.length := by omega
    subst ei
    refine codeAny_builtin F.entry_extend_loop ?_
    rw [Around.under_plainId F.plain_extend_loop _]
    show wpAny _ A.in1 (pyNext (.ref z) >>= _) _ _ s
    obtain ⟨its, rv, p, _⟩ := I.tuple (SqT.of (hkp _ _ hA))
    obtain ⟨jts, rw', p', _⟩ := I.tuple (SqT.of (hkp _ _ hB))
    have l1 := rv.length
    have l2 := rw'.length
    have hy : jts.toArray[ys.length]? = none := by simp; omega
    have hx : ys.length < its.length := by omega
    have hP' : PrAt H acc (xs.zip ys) := by rw [List.take_of_length_le (by omega)] at hP; exact hP
    have fin : ∀ h' : Heap, (∀ c o, c ≠ z → c ≠ TO → c ≠ i1 → c ≠ i2 → s.heap.get? c = some o → h'.get? c = some o) → R (.ok (.ret res)) { s with heap := h' } := fun h' kp =>
      out _ H acc (I.turnedL (t' := s.toks) (ch := [z, TI, TO, i1, i2]) (fun c o hb q => kp c o (fun e => hb (by simp [e])) (fun e => hb (by simp [e])) (fun e => hb (by simp [e])) (fun e => hb (by simp [e])) q) hf) hS hP' hkp
    refine wpAny_bind ?_
    obtain ⟨x0, y0, hTO⟩ := st.to
    rcases st.zf with ⟨e0, hz⟩ | ⟨T, f, oT, hz, hT, n1, n2, n3, n4⟩
    · exact RZ.pyNext_zipT_end (by exact hh) D hz st.ti hTO st.u1 st.u2 p p' (.inr hy) fun h' kp => wpAny_pure (fin h' kp)
    · exact held_end (x := its[ys.length]) (by exact hh) D hz hT st.ti st.u1 st.u2 p p' (by simp [List.getElem?_eq_getElem hx]) hy fun h' kp => wpAny_pure (fin h' fun c o c1 _ c3 c4 q => kp c o c1 c3 c4 q)
  | succ k ih =>
    intro i s H acc hk hi I st hf hS hP hkp
    have hlt : i < ys.length := by omega
    refine codeAny_builtin F.entry_extend_loop ?_
    rw [Around.under_plainId F.plain_extend_loop _]
    show wpAny _ A.in1 (pyNext (.ref z) >>= _) _ _ s
    obtain ⟨its, rv, p, _⟩ := I.tuple (SqT.of (hkp _ _ hA))
    obtain ⟨jts, rw', p', _⟩ := I.tuple (SqT.of (hkp _ _ hB))
    have l1 := rv.length
    have l2 := rw'.length
    have hxi : xs[i]? = some (xs[i]'(by omega)) := List.getElem?_eq_getElem _
    have hyi : ys[i]? = some (ys[i]'hlt) := List.getElem?_eq_getElem _
    generalize xs[i]'(by omega) = x at hxi
    generalize ys[i]'hlt = y at hyi
    obtain ⟨u, hu, ru⟩ := rv.get hxi
    obtain ⟨v, hv, rv'⟩ := rw'.get hyi
    have hal := Paired.length hP
    rw [List.length_take, zl] at hal
    have hSn : ∀ c ∈ [z, TI, TO, i1, i2], c ≠ S := fun c hc e => by
      have q := (hf c hc).1
      rw [e, hS] at q
      cases q
    have hlow : ∀ c ∈ [z, TI, TO, i1, i2], c < s.heap.objs.size := fun c hc => by
      have e' : c = z ∨ c = TI ∨ c = TO ∨ c = i1 ∨ c = i2 := by simpa using hc
      have zz : z < s.heap.objs.size := by
        rcases st.zf with ⟨_, hz⟩ | ⟨T, f, oT, hz, _⟩
        · exact Heap.lt_size hz
        · exact Heap.lt_size hz
      rcases e' with q | q | q | q | q
      · rw [q]; exact zz
      · rw [q]; exact Heap.lt_size st.ti
      · rw [q]
        obtain ⟨_, _, e1⟩ := st.to
        exact Heap.lt_size e1
      · rw [q]; obtain ⟨_, e1, _⟩ := st.u1; exact Heap.lt_size e1
      · rw [q]; obtain ⟨_, e1, _⟩ := st.u2; exact Heap.lt_size e1
    have hTn : H s.heap.objs.size = none := I.hok.fresh (Nat.le_refl _)
    have hSs : S ≠ s.heap.objs.size := fun e => by rw [e, hTn] at hS; cases hS
    refine wpAny_bind ?_
    have next : ∀ (h' : Heap) (T' : Addr) (f' : Bool) (oT' : Obj), IsZipHeld h' z TI TO T' f' → (∃ a b, IsPair h' TO a b) → h'.get? T' = some oT' → T' ≠ z → T' ≠ i1 → T' ≠ i2 → T' ≠ S → h'.IsTupleIter i1 a (i + 1) → h'.IsTupleIter i2 b (i + 1) → IsPair h' s.heap.objs.size u v →
        (∀ c o, c ≠ z → c ≠ TO → c ≠ i1 → c ≠ i2 → s.heap.get? c = some o → h'.get? c = some o) →
        wpAny (model X.prog X.w) A.in1 (updateSeq S (·.push (.ref s.heap.objs.size)) >>= fun _ => again (.builtin "list.extend.loop" ⟨[.ref S, .ref z, res], []⟩))
          (fun fin s' => match fin with | .done f => R (.ok f) s' | .again c' => c'.quiet = true ∧ codeAny (model X.prog X.w) A c' R s') (fun e s' => R (.error e) s') { s with heap := h' } := by
      intro h' T' f' oT' hz' to' hT' m1 m2 m3 m4 w1 w2 pr kp
      have new : ObjOk X.prog X.w (upd H s.heap.objs.size (.tup [x, y])) h' s.heap.objs.size (.tup [x, y]) := ⟨by show 2 ≤ sizeLine; decide, [u, v], .cons ru (.cons rv' .nil), ⟨_, pr, rfl, _, rfl⟩⟩
      have I1 : Inv X pins σ (upd H s.heap.objs.size (.tup [x, y])) { s with heap := h' } :=
        I.turnedNew (t' := s.toks) (ch := [z, TI, TO, i1, i2]) (fun c o hb q => kp c o (fun e => hb (by simp [e])) (fun e => hb (by simp [e])) (fun e => hb (by simp [e])) (fun e => hb (by simp [e])) q) hf (Nat.le_refl _) new
      have hS1 : (upd H s.heap.objs.size (.tup [x, y])) S = some (.lst (acc.map V.ref)) := (upd_ne hSs).trans hS
      obtain ⟨_, kts, n, r, hkl, e⟩ := I1.lstM hS1
      rw [List.length_map] at hkl
      have I2 := I1.lset (t' := s.toks) (f := (·.push (.ref s.heap.objs.size))) (its' := kts ++ [.ref s.heap.objs.size]) (ys := acc.map V.ref ++ [V.ref s.heap.objs.size]) hS1 e (by simp) (r.append (.cons (show RelV (V.ref s.heap.objs.size) (Value.ref s.heap.objs.size) from rfl) .nil)) (by rw [List.length_append, List.length_map, sizeLine_eq]; show acc.length + 1 ≤ _; omega)
      refine wpAny_bind (wpAny_updateSeq e rfl (wpAny_pure ⟨plainId_quiet F.plain_extend_loop _, ih (i + 1) _ _ (acc ++ [s.heap.objs.size]) (by omega) hlt I2 ?_ ?_ ?_ ?_ ?_⟩) (by rw [List.size_toArray, sizeLine_eq]; omega) (by rw [Array.size_push, List.size_toArray, sizeLine_eq]; omega))
      · exact ZwAt.keep ⟨.inr ⟨T', f', oT', hz', hT', m1, m2, m3, m4⟩, kp _ _ D.TIz D.TITO D.TIi1 D.TIi2 st.ti, to', w1, w2⟩ hSn fun c o hb q => (Heap.get?_update_other _ _ (Ne.symm hb)).trans q
      · intro c hc
        exact ⟨(upd_ne (hSn c hc)).trans ((upd_ne (Nat.ne_of_lt (hlow c hc))).trans (hf c hc).1), (hf c hc).2⟩
      · rw [upd_same, List.map_append]; rfl
      · rw [List.take_add_one, show (xs.zip ys)[i]? = some (x, y) from List.getElem?_zip_eq_some.mpr ⟨hxi, hyi⟩]
        refine DL.Paired.app (Paired.mapP hP fun t q e => ?_) (.cons ?_ .nil)
        · have n1 : t ≠ S := fun z => by rw [z, hS] at e; cases e
          have n2 : t ≠ s.heap.objs.size := fun z => by rw [z, hTn] at e; cases e
          exact (upd_ne n1).trans ((upd_ne n2).trans e)
        · exact (upd_ne hSs.symm).trans upd_same
      · intro c o hc
        have n1 : c ≠ S := fun e => by rw [e, hS0] at hc; cases hc
        have n2 : c ≠ s.heap.objs.size := fun e => by
          have q := hkp c o hc
          rw [e, hTn] at q
          cases q
        exact (upd_ne n1).trans ((upd_ne n2).trans (hkp c o hc))
    obtain ⟨x0, y0, hTO⟩ := st.to
    rcases st.zf with ⟨e0, hz⟩ | ⟨T, f, oT, hz, hT, n1, n2, n3, n4⟩
    · refine RZ.pyNext_zipT_item D hz st.ti hTO st.u1 st.u2 p p' (x := u) (y := v) (by simpa using hu) (by simpa using hv) fun h' z' TO' h1' h2' pr hsz kp => ?_
      exact next h' s.heap.objs.size false _ z' ⟨_, _, TO'⟩ pr (Nat.ne_of_gt (hlow z (by simp))) (Nat.ne_of_gt (hlow i1 (by simp))) (Nat.ne_of_gt (hlow i2 (by simp))) hSs.symm h1' h2' pr kp
    · refine held_item D hz hT st.ti st.u1 st.u2 p p' (x := u) (y := v) (by simpa using hu) (by simpa using hv) fun h' z' h1' h2' pr hsz kp => ?_
      exact next h' T true oT z' ⟨_, _, kp _ _ D.TOz D.TOi1 D.TOi2 hTO⟩ (kp _ _ n1 n2 n3 hT) n1 n2 n3 n4 h1' h2' pr fun c o c1 _ c3 c4 q => kp c o c1 c3 c4 q
theorem init_zip {X : Cx} {A : Around} {R : Result → Shared → Prop} {pins : List (Addr × Obj)} {σ : L2.St} {S z TI TO i1 i2 a b : Addr} {H0 H : Hp} {xs ys : List V} {s : Shared} (hh : A.handled = none) (D : ZipApart z TI TO i1 i2 a b)
    (hA : H0 a = some (.tup xs)) (hB : H0 b = some (.tup ys)) (hl : ys.length < xs.length) (h1000 : ys.length ≤ 1000) (hS0 : H0 S = none) (I : Inv X pins σ H s) (st : ZwAt S z TI TO i1 i2 a b 0 s.heap) (hf : ∀ c ∈ [z, TI, TO, i1, i2], FpOk X pins H c)
    (hS : H S = some (.lst [])) (hkp : ∀ c o, H0 c = some o → H c = some o) (hz : IsZip s.heap z TI TO .none)
    (out : ∀ (s' : Shared) (H' : Hp) (ts : List Addr), Inv X pins σ H' s' → H' S = some (.lst (ts.map V.ref)) → PrAt H' ts (xs.zip ys) → (∀ c o, H0 c = some o → H' c = some o) → R (.ok (.ret .none)) s') :
    wpAny (model X.prog X.w) A.in1 (Builtin.«list.__init__» ⟨[.ref S, .ref z], []⟩)
      (fun fin s' => match fin with | .done f => R (.ok f) s' | .again c' => c'.quiet = true ∧ codeAny (model X.prog X.w) A c' R s') (fun e s' => R (.error e) s') s := by
  have hSn : ∀ c ∈ [z, TI, TO, i1, i2], c ≠ S := fun c hc e => by
    have q := (hf c hc).1
    rw [e, hS] at q
    cases q
  have hSz : S ≠ z := (hSn z (by simp)).symm
  obtain ⟨_, its, n, r, hl0, e0⟩ := I.lstM hS
  cases r
  show wpAny _ A.in1 (do let old ← Builtin.List.listItems (.ref S); Builtin.List.listUpdate (.ref S) (fun _ => #[]); letGo old.toList.reverse; Builtin.List.listExtendWith (.ref S) (.ref z) .none) _ _ s
  refine wpAny_bind ?_
  unfold Builtin.List.listItems
  refine wpAny_bind (wpAny_seqItems e0 rfl (wpAny_pure ?_))
  show wpAny _ A.in1 (updateSeq S (fun _ => #[]) >>= fun _ => letGo (#[] : Array Value).toList.reverse >>= fun _ => Builtin.List.listExtendWith (.ref S) (.ref z) .none) _ _ s
  refine wpAny_bind (wpAny_updateSeq e0 rfl ?_)
  have e1 := Heap.get?_update_self (Obj.mapSeq (fun _ => (#[] : Array Value))) e0 rfl
  have k1 : ∀ b o, b ≠ S → s.heap.get? b = some o → (s.heap.update S (Obj.mapSeq (fun _ => (#[] : Array Value)))).get? b = some o := fun b o hb q => (Heap.get?_update_other _ _ (Ne.symm hb)).trans q
  refine wpAny_bind (wpAny_letGo ?_)
  generalize s.heap.update S (Obj.mapSeq (fun _ => (#[] : Array Value))) = h1 at e1 k1
  have ty : (Shared.mk h1 s.gens s.drawn s.toks s.os).TypeIs (.ref z) "zip" := ⟨_, k1 _ _ hSz.symm hz, rfl⟩
  unfold Builtin.List.listExtendWith
  refine wpAny_bind (wpAny_typeOf ty ?_)
  have g1 : Builtin.List.listSameRef (.ref S) (.ref z) = false := by simp [Builtin.List.listSameRef, hSz]
  have g2 : (Value.type "zip" == Value.type "list") = false := by decide
  have g3 : (Value.type "zip" == Value.type "tuple") = false := by decide
  simp only [g1, g2, g3, Bool.or_false, Bool.false_eq_true, if_false]
  refine wpAny_bind (wpAny_pyIter_zip (k1 _ _ hSz.symm hz) ?_)
  refine wpAny_bind (wpAny_holding ?_)
  unfold Builtin.List.listLengthHint
  refine wpAny_bind (wpAny_specialOf ty zip_no_len ?_)
  show wpAny _ A.in1 (specialOf (Value.ref z) (Str.ofString "__length_hint__") >>= _) _ _ _
  refine wpAny_bind (wpAny_specialOf ty zip_no_hint ?_)
  refine wpAny_pure ?_
  show wpAny _ A.in1 (rule "list.extend.makes-room" >>= fun _ => Builtin.List.listTouch (.ref S) >>= fun _ => again (.builtin "list.extend.loop" ⟨[.ref S, .ref z, .none], []⟩)) _ _ _
  refine wpAny_bind (wpAny_rule (wpAny_bind ?_))
  show wpAny _ A.in1 (updateSeq S (·.push .none) >>= fun _ => updateSeq S (·.pop)) _ _ _
  refine wpAny_bind (wpAny_updateSeq e1 rfl ?_)
  have e2 := Heap.get?_update_self (Obj.mapSeq (·.push Value.none)) e1 rfl
  refine wpAny_updateSeq (hz := by seq_fits) e2 rfl ?_
  have e3 := Heap.get?_update_self (Obj.mapSeq (·.pop)) e2 rfl
  have k3 : ∀ b o, b ≠ S → s.heap.get? b = some o → ((h1.update S (Obj.mapSeq (·.push Value.none))).update S (Obj.mapSeq (·.pop))).get? b = some o := fun b o hb q => (Heap.get?_update_other _ _ (Ne.symm hb)).trans ((Heap.get?_update_other _ _ (Ne.symm hb)).trans (k1 b o hb q))
  generalize (h1.update S (Obj.mapSeq (·.push Value.none))).update S (Obj.mapSeq (·.pop)) = h3 at e3 k3
  have I3 : Inv X pins σ (upd H S (.lst [])) { s with heap := h3, toks := s.toks } := I.write (x := S) (e := S) (by rw [hS]; exact trivial) (.inl rfl) k3 ⟨_, e3⟩ ⟨Nat.zero_le _, [], _, .nil, e3⟩
  exact wpAny_pure ⟨plainId_quiet F.plain_extend_loop _, zip_loop hh D hA hB hl h1000 hS0 out _ 0 _ _ [] rfl (Nat.zero_le _) I3 (st.keep hSn k3) (fun c hc => ⟨(upd_ne (hSn c hc)).trans (hf c hc).1, (hf c hc).2⟩) upd_same .nil fun c o hc => (upd_ne fun z => by rw [z, hS0] at hc; cases hc).trans (hkp c o hc)⟩
def tLZ (ta : TA) : TE := fun σ H Q => ta σ H fun vs H1 => ∃ (a b : Addr) (xs ys : List V), vs = [.ref a, .ref b] ∧ H1 a = some (.tup xs) ∧ H1 b = some (.tup ys) ∧ ys.length < xs.length ∧ ys.length ≤ 1000 ∧
  ∀ (q : Addr) (ts : List Addr) (H2 : Hp), (∀ c o, H1 c = some o → H2 c = some o) → H1 q = none → H2 q = some (.lst (ts.map V.ref)) → PrAt H2 ts (xs.zip ys) → Q (.ref q) H2
theorem pe_listZip {X : Cx} {e e2 : Expr} {ta : TA} {p p2 q pos : Pos} (hc : X.calm = true) (hg : Gl X "list") (hm : X.mg "list" = none) (hg2 : Gl X "zip") (hm2 : X.mg "zip" = none) (ha : PA X [e, e2] ta)
    (hs : starEach [e, e2] X.env = (false, eval e X.env) :: starEach [e2] X.env := by rfl) (hpl : (backTo q (starEach [e2] X.env)).any (·.1) = false := by rfl)
    (na : starEach [Expr.Call (.Name "zip" p2) [e, e2] [] q] X.env = (false, eval (.Call (.Name "zip" p2) [e, e2] [] q) X.env) :: starEach [] X.env := by rfl) :
    PE X (.Call (.Name "list" p) [.Call (.Name "zip" p2) [e, e2] [] q] [] pos) (tLZ ta) := by
  refine ⟨fun pins s σ H Q I h => ?_⟩
  refine Call_ (ld_blt I hg hm boot_list ?_)
  refine PyProof.Rows.callWith_type1 (PyProof.Rows.args_cons ?_ na) na rfl
  refine Call_ (ld_blt I hg2 hm2 PyProof.Rows.boot_zip (PyProof.Rows.callWith_type1 (thn (ha.run q pins s σ H _ I h) fun us s1 ⟨vs, H1, I1, r1, q1⟩ => ?_) hs hpl))
  obtain ⟨a, b, xs, ys, ex, hA, hB, hl, h1000, qq⟩ := q1
  subst ex
  cases r1 with
  | cons r rr =>
    cases rr with
    | cons r' rr =>
      cases rr
      cases r
      cases r'
      obtain ⟨its, rv, p1, _⟩ := I1.tuple (SqT.of hA)
      obtain ⟨jts, rw', p2', _⟩ := I1.tuple (SqT.of hB)
      obtain ⟨o1, ho1, _⟩ := id p1
      obtain ⟨o2, ho2, _⟩ := id p2'
      refine RZ.call_zipT (show s1.heap.IsTuple a its.toArray from p1) (show s1.heap.IsTuple b jts.toArray from p2') fun h' hz hTI hTO h1 h2 hsz hk => PyProof.Rows.args_nil ?_
      have hlow := Heap.lt_size hz
      have I2 : Inv X pins σ H1 { s1 with heap := h', toks := s1.toks } := I1.kept (t' := s1.toks) hk
      have I3 := I2.lnew (t' := s1.toks) (ys := []) (its := []) .nil (Nat.zero_le _)
      have hS : (h'.push { cls := .type "list", data := .seq #[] }).get? h'.objs.size = some { cls := .type "list", data := .seq #[] } := Heap.get?_push_size _ rfl
      have fr : H1 h'.objs.size = none := I2.hok.fresh (Nat.le_refl _)
      have up : ∀ c o, h'.get? c = some o → (h'.push { cls := .type "list", data := .seq #[] }).get? c = some o := fun c o e => Heap.get?_push_of_some _ e
      have five : ∀ c ∈ [s1.heap.objs.size + 4, s1.heap.objs.size + 2, s1.heap.objs.size + 3, s1.heap.objs.size, s1.heap.objs.size + 1], s1.heap.objs.size ≤ c ∧ c < h'.objs.size := fun c hc => by
        have e' : c = s1.heap.objs.size + 4 ∨ c = s1.heap.objs.size + 2 ∨ c = s1.heap.objs.size + 3 ∨ c = s1.heap.objs.size ∨ c = s1.heap.objs.size + 1 := by simpa using hc
        have hsz : h'.objs.size = s1.heap.objs.size + 5 := hsz
        rw [hsz]
        rcases e' with e | e | e | e | e <;> rw [e]
        · exact ⟨Nat.le_add_right _ _, Nat.lt_succ_self _⟩
        · exact ⟨Nat.le_add_right _ _, Nat.add_lt_add_left (by decide) _⟩
        · exact ⟨Nat.le_add_right _ _, Nat.add_lt_add_left (by decide) _⟩
        · exact ⟨Nat.le_refl _, Nat.lt_add_of_pos_right (by decide)⟩
        · exact ⟨Nat.le_add_right _ _, Nat.add_lt_add_left (by decide) _⟩
      refine callType_codes (Q₁ := fun obj s₁ => obj = .ref h'.objs.size ∧ s₁ = { s1 with heap := h'.push { cls := .type "list", data := .seq #[] } }) F.called_list (F.typeCall_list_1 _) F.entry_list_init (code_list_new _ ⟨rfl, rfl⟩) fun obj s₁ h₁ => ?_
      obtain ⟨rfl, rfl⟩ := h₁
      refine ⟨⟨_, hS, rfl⟩, F.args_list_init_2 _ _, init_zip (X := X) (A := X.A.in1) (H0 := H1) (H := upd H1 h'.objs.size (.lst [])) (by exact I1.ok.hd hc) (PySem.W.ktu_apart s1.heap.objs.size a b (Heap.lt_size ho1) (Heap.lt_size ho2)) hA hB hl h1000 fr I3 ⟨.inl ⟨rfl, up _ _ hz⟩, up _ _ hTI, ⟨_, _, up _ _ hTO⟩, h1.at fun o e => up _ o e, h2.at fun o e => up _ o e⟩ (fun c hcm => ?_) upd_same (fun c o e => (upd_ne fun z => by rw [z, fr] at e; cases e).trans e) (up _ _ hz) fun s' H' ts I' hS' hP' hk' => ?_⟩
      · obtain ⟨q1, q2⟩ := five c hcm
        obtain ⟨f1, f2⟩ := I1.fpOk (H' := H1) q1 (I1.hok.fresh q1)
        exact ⟨(upd_ne (Nat.ne_of_lt q2)).trans f1, f2⟩
      · exact ⟨rfl, .ref h'.objs.size, H', I', rfl, qq _ ts H' hk' fr hS' hP'⟩
end DLR
namespace DLR
open PySem PySem.Spec L2
theorem lc_zipT {K : PySem.W.Frag} {a b : Addr} {xs ys : List V} {g : TG} {tt : TT} {te : TE} {vs : List Nat} {σ : L2.St} {H1 : Hp} {D : Addr} {Qd : Hp → Prop} (hxy : ys.length ≤ xs.length) (Pv : Nat → Hp → Prop) (h0 : Pv 0 (upd H1 D (.lst [])))
    (hl : ∀ i H, i ≤ ys.length → Pv i H → SqT K H a xs ∧ SqT K H b ys)
    (hs : ∀ i x y T H H', xs[i]? = some x → ys[i]? = some y → Pv i H → H T = none → H' = upd H T (.tup [x, y]) → g (.ref T) (wipe σ vs) H' fun σ2 H2 => wipe σ2 vs = wipe σ vs ∧ tt σ2 H2 fun b H3 =>
      if b = true then te σ2 H3 fun y H4 => ∃ acc, H4 D = some (.lst acc) ∧ acc.length < sizeLine ∧ Pv (i + 1) (upd H4 D (.lst (acc ++ [y]))) else Pv (i + 1) H3) (hd : ∀ H, Pv ys.length H → Qd H) :
    ∃ W : Nat → Nat → Hp → Prop, (∃ m, W 0 m (upd H1 D (.lst []))) ∧ ∀ i m H, W i m H →
      ((RZ.ItzT K a b).stop i H ∧ Qd H) ∨ ((RZ.ItzT K a b).go i H ∧ ∃ Nx : Hp → Prop, (∀ H', Nx H' → ∃ m', m' < m ∧ W (i + 1) m' H') ∧ ∀ x H', (RZ.ItzT K a b).yld i H x H' → g x (wipe σ vs) H' fun σ2 H2 => wipe σ2 vs = wipe σ vs ∧ tt σ2 H2 fun b H3 =>
        if b = true then te σ2 H3 fun y H4 => ∃ acc, H4 D = some (.lst acc) ∧ acc.length < sizeLine ∧ Nx (upd H4 D (.lst (acc ++ [y]))) else Nx H3) := by
  refine ⟨fun i m H => m = ys.length - i ∧ i ≤ ys.length ∧ Pv i H, ⟨ys.length, by simp, Nat.zero_le _, h0⟩, ?_⟩
  rintro i m H ⟨rfl, hi, p⟩
  obtain ⟨q, q'⟩ := hl i H hi p
  by_cases hlt : i < ys.length
  · have hlt2 : i < xs.length := by omega
    have gx := List.getElem?_eq_getElem hlt2
    have gy := List.getElem?_eq_getElem hlt
    refine .inr ⟨⟨xs, ys, xs[i], ys[i], q, q', gx, gy⟩, Pv (i + 1), fun H' p' => ⟨ys.length - (i + 1), by omega, rfl, hlt, p'⟩, fun x H' y => ?_⟩
    obtain ⟨T, u, v, rfl, hT, rfl, hu, hv⟩ := y
    exact hs i u v T H _ (hu xs q) (hv ys q') p hT rfl
  · have e : i = ys.length := by omega
    subst e
    exact .inl ⟨⟨xs, ys, q, q', .inr (Nat.le_refl _)⟩, hd H p⟩
end DLR
namespace DL
open PySem PySem.Spec L2 DLR
/-! ### the least beats of a way -/
def pairsF (w : List Nat) : List (Nat × Nat) := w.zip (w.drop 1)
def halvesF (w : List Nat) : List (List Nat) := (pairsF w).map (fun q => [q.1, q.2]) ++ (w.drop 1).map fun x => [x]
def leastHalfF (rows : List Row) (l : List Nat) : Int := if l.length = 1 then 1 else (if (rows.getD (l.headD 0) .stop).uses = true then 1 else 0) + work (rows.getD (l.headD 0) .stop)
def leastF (rows : List Row) (w : List Nat) : Int := ((halvesF w).map (leastHalfF rows)).sum
theorem prAt_tups {H : Hp} : ∀ {w v : List Nat} {ts : List Addr}, PrAt H ts ((w.map nI).zip (v.map nI)) → TupsN H ts ((w.zip v).map fun q => [q.1, q.2])
  | [], _, [], .nil => .nil
  | _ :: _, [], [], .nil => .nil
  | x :: w, y :: v, _, .cons h t => .cons h (prAt_tups t)
theorem halvesF_len (w : List Nat) : (halvesF w).length ≤ 2 * w.length := by
  unfold halvesF pairsF
  rw [List.length_append, List.length_map, List.length_map, List.length_zip, List.length_drop]
  omega
abbrev sHalves : Stmt := top 41
abbrev sLeastHalf : Stmt := top 42
abbrev sLeastBeats : Stmt := top 43
abbrev sInRounds : Stmt := top 44
abbrev FHalves (K : Frg) (mg : Str → Option Value) := Fd K mg "halves" sHalves ["way"]
abbrev FLeastHalf (K : Frg) (mg : Str → Option Value) := Fd K mg "least_half" sLeastHalf ["program", "half"]
abbrev FLeastBeats (K : Frg) (mg : Str → Option Value) := Fd K mg "least_beats" sLeastBeats ["program", "way"]
abbrev FInRounds (K : Frg) (mg : Str → Option Value) := Fd K mg "in_rounds" sInRounds ["beats", "wide"]
abbrev nHalves : List Str := ["way","row"]
abbrev nLeastHalf : List Str := ["program","half","row","use"]
abbrev nLeastBeats : List Str := ["program","way","half"]
def spHalves : Sp := fun vs H Q _ => ∃ (a : Addr) (w : List Nat), vs = [.ref a] ∧ H a = some (.tup (w.map nI)) ∧ 0 < w.length ∧ w.length ≤ 100 ∧
  ∀ l bs H', Same1 H H' → H l = none → H' l = some (.lst (bs.map V.ref)) → TupsN H' bs (halvesF w) → Q (.ref l) H'
def spLeastHalf : Sp := fun vs H Q _ => ∃ (a h : Addr) (p : Prog) (l : List Nat), vs = [.ref a, .ref h] ∧ ProgAt H a p ∧ H h = some (.tup (l.map nI)) ∧ (l.length ≠ 1 → ∃ x l0, l = x :: l0 ∧ x < p.rows.length) ∧ ∀ H', Same1 H H' → Q (.int (leastHalfF p.rows l)) H'
def spLeastBeats : Sp := fun vs H Q _ => ∃ (a b : Addr) (p : Prog) (w : List Nat), vs = [.ref a, .ref b] ∧ ProgAt H a p ∧ H b = some (.tup (w.map nI)) ∧ 0 < w.length ∧ w.length ≤ 100 ∧ (∀ x ∈ w, x < p.rows.length) ∧ ∀ H', Same1 H H' → Q (.int (leastF p.rows w)) H'
def spInRounds : Sp := fun vs H Q _ => ∃ (b : Int) (W : Nat), vs = [.int b, nI W] ∧ 0 < W ∧ Q (.int (b + (-b) % (W : Int))) H
section
variable {P : Program} {w : World} {K : PySem.W.Frag} {mg : Str → Option Value} {base : Heap}
theorem scHalves : FnScope nHalves ["way"] (defScope sHalves) := ⟨rfl, rfl, rfl, by decide +kernel, rfl, by decide +kernel, by decide +kernel⟩
theorem scLeastHalf : FnScope nLeastHalf ["program", "half"] (defScope sLeastHalf) := ⟨rfl, rfl, rfl, by decide +kernel, rfl, by decide +kernel, by decide +kernel⟩
theorem scLeastBeats : FnScope nLeastBeats ["program", "way"] (defScope sLeastBeats) := ⟨rfl, rfl, rfl, by decide +kernel, rfl, by decide +kernel, by decide +kernel⟩
theorem scInRounds : FnScope ["beats","wide"] ["beats","wide"] (defScope sInRounds) := ⟨rfl, rfl, rfl, by decide +kernel, rfl, by decide +kernel, by decide +kernel⟩
theorem ok_inRounds (c : FInRounds K mg) : FnOk P w K mg base CX0 1 c.f c.fd ["beats", "wide"] spInRounds := by
  refine c.F.ok scInRounds (fun vs H Q E h => ?_) (fun cdv A outer s H vs Q E hr h => ?_)
  · obtain ⟨b, W, rfl, _⟩ := h
    rfl
  · obtain ⟨b, W, rfl, w0, k⟩ := h
    refine ⟨_, (pss_one (ps_ret (pe_op op_add (pv 0) (pe_op op_mod (pe_un un_neg (pv 0)) (pv 1))))), ?_⟩
    exact ⟨_, rfl, _, rfl, _, rfl, _, rfl, _, _, rfl, rfl, by omega, _, _, rfl, rfl, k⟩
theorem ok_halves (c : FHalves K mg) (T : Bt mg) : FnOk P w K mg base CX0 1 c.f c.fd ["way"] spHalves := by
  refine c.F.ok scHalves (fun vs H Q E h => ?_) (fun cdv A outer s H vs Q E hr h => ?_)
  · obtain ⟨a, w, rfl, _⟩ := h
    rfl
  · obtain ⟨a, w, rfl, ha, w0, w100, k⟩ := h
    refine ⟨_, (pss_one (ps_ret (pe_op op_cat (DLR.pe_listZip rfl (by rfl) T.list (by rfl) T.zip (pa_cons (pv 0) (pa_cons (pe_slice sl_tupS (pv 0) (po_some pe_int) po_none) pa_nil))) (pe_lc (own := [("row", 1)]) (g := gName 1) (tt := tYes) rfl scHalves.nd (pi_tup (pe_slice sl_tupS (pv 0) (po_some pe_int) po_none)) (blkOk_by (N := nHalves) (sc := defScope sHalves) (by decide +kernel)) (fun _ _ _ _ _ => (pg_name (i := 1) scHalves.nd rfl (Or.inl rfl))) (fun _ _ _ _ _ => pts_nil) (fun _ _ _ _ _ => (pe_tup (pa_cons (pv 1) pa_nil))))))), ?_⟩
    refine ⟨_, rfl, _, rfl, _, rfl, a, _, rfl, ha, fun t H1 s1 e1 => ?_⟩
    have e1 : H1 t = some (.tup ((w.drop 1).map nI)) := by
      rw [e1]
      exact congrArg (fun z => some (HO.tup z)) ((dropn 1).trans List.map_drop.symm)
    refine ⟨a, t, w.map nI, (w.drop 1).map nI, rfl, s1 _ _ ha, e1, by rw [List.length_map, List.length_map, List.length_drop]; omega, by rw [List.length_map, List.length_drop]; omega, fun q ts H2 s2 nq e2 hP => ?_⟩
    have hT := prAt_tups hP
    have s2 : Same1 H1 H2 := s2
    have S2 := s1.trans s2
    refine ⟨_, rfl, _, rfl, a, _, rfl, S2 _ _ ha, fun t2 H3 s3 e3 => ?_⟩
    have e3 : H3 t2 = some (.tup ((w.drop 1).map nI)) := by
      rw [e3]
      exact congrArg (fun z => some (HO.tup z)) ((dropn 1).trans List.map_drop.symm)
    have S3 := S2.trans s3
    have f2 := s3 _ _ e2
    have dl : (w.drop 1).length ≤ 100 := by rw [List.length_drop]; omega
    refine ⟨t2, rfl, ⟨_, SqT.of e3⟩, fun D hD => ?_⟩
    have nqD : q ≠ D := ne_of_none f2 hD
    refine lc_tup (K := K) (a := t2) (xs := (w.drop 1).map nI) (fun j H' => ∃ ds : List Addr, Same1 H3 H' ∧ H' D = some (.lst (ds.map V.ref)) ∧ TupsN H' ds (((w.drop 1).take j).map fun x => [x]))
      ⟨[], Same.new hD, upd_same, .nil⟩ (fun j H' _ ⟨_, q2, _⟩ => SqT.of (q2 _ _ e3)) ?_ ?_
    · rintro j x H4 hj ⟨ds, s4, hd4, hh4⟩
      rw [List.getElem?_map] at hj
      cases hz : (w.drop 1)[j]? with
      | none => rw [hz] at hj; cases hj
      | some y =>
        rw [hz] at hj
        have e : nI y = x := Option.some.inj hj
        subst e
        have hdl := tups_len hh4
        rw [List.length_map, List.length_take] at hdl
        refine ⟨rfl, _, rfl, (by show 1 ≤ sizeLine; decide), fun t3 ht3 => ?_⟩
        refine alloc ht3 fun H5 s5 e5 => ?_
        have hd5 := s5 _ _ hd4
        refine ⟨_, hd5, szl (by rw [List.length_map]; omega), ds ++ [t3], Same.mut (s4.trans s5) hD, by rw [upd_same, List.map_append]; rfl, ?_⟩
        rw [List.take_add_one, hz, List.map_append]
        exact TupsN.kp (Paired.app (TupsN.kp hh4 (Kp.same s5)) (Paired.one e5)) (Kp.lst hd5)
    · rintro H4 ⟨ds, s4, hd4, hh4⟩
      rw [List.length_map, List.take_length] at hh4
      have hql := tups_len hT
      have hdl := tups_len hh4
      rw [List.length_map, List.length_zip] at hql
      rw [List.length_map] at hdl
      refine ⟨q, D, _, _, rfl, rfl, s4 _ _ f2, hd4, sz (by rw [List.length_map, List.length_map]; omega), fun r hr => ?_⟩
      refine alloc hr fun H5 s5 e5 => ?_
      refine k r (ts ++ ds) H5 ((S3.trans s4).trans s5) ((S3.trans s4).free hr) (by rw [e5, List.map_append]) ?_
      exact Paired.app (TupsN.kp hT (((Kp.same s3).trans (Kp.same s4)).trans (Kp.same s5))) (TupsN.kp hh4 (Kp.same s5))
theorem ok_leastHalf (c : FLeastHalf K mg) (cUsesWorth : FUsesWorth K mg) (T : Bt mg) (Z : Pt K w mg) (ZW : Pw K w mg) : FnOk P w K mg base CX0 2 c.f c.fd ["program", "half"] spLeastHalf := by
  have GUsesWorth : FnOk P w K mg base CX0 1 cUsesWorth.f cUsesWorth.fd ["row"] spUses := ok_usesWorth cUsesWorth Z
  refine c.F.ok scLeastHalf (fun vs H Q E h => ?_) (fun cdv A outer s H vs Q E hr h => ?_)
  · obtain ⟨a, hh, p, l, rfl, _⟩ := h
    rfl
  · obtain ⟨a, hh, p, l, rfl, hP, hl, hx, k⟩ := h
    refine ⟨_, (pss_cons (ps_if (pt_cmpR op_eq (pe_callB call_len_seq (by rfl) T.len PySem.boot_len (pa_cons (pv 1) pa_nil)) pe_int (nomark _))
          (pss_one (ps_ret pe_int))
          pss_nil)
      (pss_cons (ps_set (i := 2) scLeastHalf.nd rfl (Or.inl rfl) (pe_ix ix_tup (pe_ix ix_tup (pv 0) pe_int (fun _ _ => rfl)) (pe_ix ix_tup (pv 1) pe_int (fun _ _ => rfl)) (fun _ _ => rfl)))
      (pss_cons (ps_set (i := 3) scLeastHalf.nd rfl (Or.inl rfl) (pe_ifExp (pt_val (pe_call GUsesWorth (hr.mono (by first | omega | decide)) (by rfl) cUsesWorth.m cUsesWorth.F.kp cUsesWorth.b .nil pass0 (pa_cons (pv 2) pa_nil))) pe_int pe_int))
      (pss_one (ps_ret (pe_op op_add (pv 3) (pe_ix ix_kdict (pe_glob (v := .ref ZW.d) rfl ZW.m rfl) (pe_ix ix_tup (pv 2) pe_int (fun _ _ => rfl)) (fun _ _ => rfl)))))))), ?_⟩
    refine ⟨_, rfl, hh, _, rfl, .inr (SqT.of hl), rfl, _, rfl, ?_⟩
    unfold leastHalfF at k
    by_cases c : l.length = 1
    · rw [show decide (V.int (((l.map nI).length : Nat) : Int) = V.int 1) = true from decide_eq_true (by rw [List.length_map, c]; rfl)]
      rw [if_pos c] at k
      exact iteT (k H (Same.refl _))
    · rw [show decide (V.int (((l.map nI).length : Nat) : Int) = V.int 1) = false from decide_eq_false (fun z => c (by have := V.int.inj z; rw [List.length_map] at this; omega))]
      rw [if_neg c] at k
      obtain ⟨x, l0, rfl, hxN⟩ := hx c
      obtain ⟨wa, ra, rbs, hpa, hwa, hra, hR⟩ := hP
      obtain ⟨rb, hb1, hb2⟩ := Paired.getR hR (List.getElem?_eq_getElem hxN)
      have hbV : (rbs.map V.ref)[x]? = some (.ref rb) := by rw [List.getElem?_map, hb1]; rfl
      have er : p.rows.getD x .stop = p.rows[x] := by rw [List.getD_eq_getElem?_getD, List.getElem?_eq_getElem hxN]; rfl
      refine iteF ⟨_, rfl, a, _, _, _, rfl, rfl, SqT.of hpa, at1, _, rfl, hh, _, _, _, rfl, rfl, SqT.of hl, at0, ra, _, _, _, rfl, rfl, SqT.of hra, atI_nat hbV, ?_⟩
      refine ⟨_, rfl, rb, p.rows[x], rfl, hb2, ?_⟩
      have k : ∀ H', Same1 H H' → Q (.int ((if (p.rows.getD x .stop).uses = true then 1 else 0) + work (p.rows.getD x .stop))) H' := k
      rw [er] at k
      refine ⟨_, rfl, ?_⟩
      cases hu : p.rows[x].uses with
      | true =>
        rw [hu] at k
        exact iteT ⟨_, rfl, _, rfl, rb, _, _, _, rfl, rfl, SqT.of hb2, atI_nat (j := 0) (Row.w0 _), ZW.d, _, _, rfl, rfl, ZW.get _, _, _, rfl, rfl, k H (Same.refl _)⟩
      | false =>
        rw [hu] at k
        exact iteF ⟨_, rfl, _, rfl, rb, _, _, _, rfl, rfl, SqT.of hb2, atI_nat (j := 0) (Row.w0 _), ZW.d, _, _, rfl, rfl, ZW.get _, _, _, rfl, rfl, k H (Same.refl _)⟩
theorem ok_leastBeats (c : FLeastBeats K mg) (cHalves : FHalves K mg) (cLeastHalf : FLeastHalf K mg) (T : Bt mg) (GHalves : FnOk P w K mg base CX0 1 cHalves.f cHalves.fd ["way"] spHalves) (GLeastHalf : FnOk P w K mg base CX0 2 cLeastHalf.f cLeastHalf.fd ["program", "half"] spLeastHalf) : FnOk P w K mg base CX0 3 c.f c.fd ["program", "way"] spLeastBeats := by
  refine c.F.ok scLeastBeats (fun vs H Q E h => ?_) (fun cdv A outer s H vs Q E hr h => ?_)
  · obtain ⟨a, b, p, w, rfl, _⟩ := h
    rfl
  · obtain ⟨a, b, p, w, rfl, hP, hb, w0, w100, hw, k⟩ := h
    refine ⟨_, (pss_one (ps_ret (pe_callB (cr_sum rfl) (by rfl) T.sum (by decide +kernel) (pa_cons (pe_lc (own := [("half", 2)]) (g := gName 2) (tt := tYes) rfl scLeastBeats.nd (pi_list (pe_call GHalves (hr.mono (by first | omega | decide)) (by rfl) cHalves.m cHalves.F.kp cHalves.b .nil pass0 (pa_cons (pv 1) pa_nil))) (blkOk_by (N := nLeastBeats) (sc := defScope sLeastBeats) (by decide +kernel)) (fun _ _ _ _ _ => (pg_name (i := 2) scLeastBeats.nd rfl (Or.inl rfl))) (fun _ _ _ _ _ => pts_nil) (fun _ _ _ _ _ => (pe_call GLeastHalf (hr.mono (by first | omega | decide)) (by rfl) cLeastHalf.m cLeastHalf.F.kp cLeastHalf.b .nil pass0 (pa_cons (pv 0) (pa_cons (pv 2) pa_nil))))) pa_nil)))), ?_⟩
    refine ⟨_, rfl, b, w, rfl, hb, w0, w100, fun l bs H1 s1 nl e1 hT => ?_⟩
    have hbl := tups_len hT
    have hHl := halvesF_len w
    refine ⟨l, rfl, ⟨_, SqL.of e1⟩, fun D hD => ?_⟩
    refine lc_list (K := K) (a := l) (xs := bs.map V.ref) (fun i H' => Same1 H1 H' ∧ H' D = some (.lst ((((halvesF w).take i).map (leastHalfF p.rows)).map V.int))) ⟨Same.new hD, upd_same⟩ (fun i H' _ ⟨q, _⟩ => SqL.of (q _ _ e1)) ?_ ?_
    · rintro i x H2 hi ⟨s2, hd2⟩
      have hic : i < bs.length := by
        have q := (List.getElem?_eq_some_iff.mp hi).1
        rwa [List.length_map] at q
      have ex : x = .ref bs[i] := by
        rw [List.getElem?_map, List.getElem?_eq_getElem hic] at hi
        exact (Option.some.inj hi).symm
      subst ex
      obtain ⟨lv, hq1, hq2⟩ := Paired.get hT (List.getElem?_eq_getElem hic)
      refine ⟨rfl, _, rfl, _, rfl, a, bs[i], p, lv, rfl, hP.kp (Kp.same (s1.trans s2)), s2 _ _ hq2, fun ne => ?_, fun H3 s3 => ?_⟩
      · have hm := List.mem_of_getElem? hq1
        unfold halvesF at hm
        rcases List.mem_append.mp hm with z | z
        · obtain ⟨⟨u, v⟩, hz, rfl⟩ := List.mem_map.mp z
          exact ⟨u, [v], rfl, hw u (List.of_mem_zip hz).1⟩
        · obtain ⟨u, hz, rfl⟩ := List.mem_map.mp z
          exact absurd rfl ne
      · have hd3 := s3 _ _ hd2
        refine ⟨_, hd3, szl (by rw [List.length_map, List.length_map, List.length_take]; omega), Same.mut (s2.trans s3) hD, ?_⟩
        rw [upd_same, List.take_add_one, hq1, List.map_append, List.map_append]
        rfl
    · rintro H2 ⟨s2, hd2⟩
      rw [List.length_map, hbl, List.take_length] at hd2
      exact ⟨D, _, rfl, SqL.of hd2, k H2 (s1.trans s2)⟩
end
end DL
namespace DL
open PySem PySem.Spec L2 DLR
/-! ### the beats of the loops -/
def wayF (s : List Nat) : List Nat := s ++ [s.headD 0]
def takesF (y : Lay) (rows : List Row) (s : List Nat) : Int := ((pairsF (wayF s)).map fun q => costF y rows q.1 q.2).sum
def roundF (b : Int) (W : Nat) : Int := b + (-b) % (W : Int)
def fewF (y : Lay) (rows : List Row) (s : List Nat) : Int := roundF (leastF rows (wayF s)) y.wide
abbrev ToldAt (y : Lay) (rows : List Row) (H : Hp) (bs : List Addr) (L : List (List Nat)) : Prop := Paired (fun b s => ∃ t, H b = some (.tup [.ref t, .int (takesF y rows s), .int (fewF y rows s)]) ∧ H t = some (.tup (s.map nI))) bs L
theorem ToldAt.kp {y : Lay} {rows : List Row} {H H' : Hp} {bs : List Addr} {L : List (List Nat)} (h : ToldAt y rows H bs L) (k : Kp H H') : ToldAt y rows H' bs L := Paired.mapP h fun b x ⟨t, e1, e2⟩ => ⟨t, k _ _ e1, k _ _ e2⟩
abbrev sLoopBeats : Stmt := top 49
abbrev FLoopBeats (K : Frg) (mg : Str → Option Value) := Fd K mg "loop_beats" sLoopBeats ["program", "laying"]
abbrev nLoopBeats : List Str := ["program","laying","told","loop","way","takes","begin","to"]
def spLoopBeats (TM : Addr) : Sp := fun vs H Q E => ∃ (a b : Addr) (p : Prog) (y : Lay), vs = [.ref a, .ref b] ∧ ProgAt H a p ∧ Good p ∧ LayAt H b y ∧ LayOk p y ∧ (loopsF p.rows = none → ∀ H', Same1 H H' → E (.ref TM) none H') ∧
  ∀ L, loopsF p.rows = some L → (∀ s ∈ L, Str_ p.rows.length s) → L.length ≤ 100 → ∀ l bs H', Same1 H H' → H l = none → H' l = some (.lst (bs.map V.ref)) → ToldAt y p.rows H' bs L → Q (.ref l) H'
theorem way_len {N : Nat} {s : List Nat} (h : Str_ N s) : (wayF s).length = s.length + 1 ∧ 0 < s.length ∧ s[0]? = some (s.headD 0) ∧ ∀ x ∈ wayF s, x < N := by
  obtain ⟨ne, nd, lt⟩ := h
  match s, ne with
  | x :: r, _ =>
    refine ⟨by unfold wayF; rw [List.length_append]; rfl, Nat.succ_pos _, rfl, fun z hz => ?_⟩
    unfold wayF at hz
    rcases List.mem_append.mp hz with q | q
    · exact lt z q
    · rw [List.mem_singleton.mp q]
      exact lt x List.mem_cons_self
section
variable {P : Program} {w : World} {K : PySem.W.Frag} {mg : Str → Option Value} {base : Heap}
theorem scLoopBeats : FnScope nLoopBeats ["program", "laying"] (defScope sLoopBeats) := ⟨rfl, rfl, rfl, by decide +kernel, rfl, by decide +kernel, by decide +kernel⟩
theorem ok_loopBeats {TMA : Addr} (c : FLoopBeats K mg) (cCheckProgram : FCheckProgram K mg) (cCheckLaying : FCheckLaying K mg) (cLoops : FLoops K mg) (cCost : FCost K mg) (cInRounds : FInRounds K mg) (cLeastBeats : FLeastBeats K mg) (T : Bt mg)
    (GCheckProgram : FnOk P w K mg base CX0 4 cCheckProgram.f cCheckProgram.fd ["program"] spCheckProgram) (GCheckLaying : FnOk P w K mg base CX0 5 cCheckLaying.f cCheckLaying.fd ["program", "laying"] spCheckLaying)
    (GLoops : FnOk P w K mg base (L2.CX P w) 5 cLoops.f cLoops.fd ["program"] (spLoops TMA)) (GCost : FnOk P w K mg base CX0 5 cCost.f cCost.fd ["program", "laying", "begin", "to"] spCost)
    (GInRounds : FnOk P w K mg base CX0 1 cInRounds.f cInRounds.fd ["beats", "wide"] spInRounds) (GLeastBeats : FnOk P w K mg base CX0 3 cLeastBeats.f cLeastBeats.fd ["program", "way"] spLeastBeats) : FnOk P w K mg base (L2.CX P w) 6 c.f c.fd ["program", "laying"] (spLoopBeats TMA) := by
  refine c.F.okX scLoopBeats (fun vs H Q E h => ?_) (fun cdv A outer s H vs Q E hr h => ?_)
  · obtain ⟨a, b, p, y, rfl, _⟩ := h
    rfl
  · obtain ⟨a, b, p, y, rfl, hP, g, hY, yk, kn, ks⟩ := h
    have r40 := g.r40
    have w2 := yk.w2
    refine ⟨_, (pss_cons (ps_expr (pe_call GCheckProgram (hr.mono (by first | omega | decide)) (by rfl) cCheckProgram.m cCheckProgram.F.kp cCheckProgram.b .nil pass0 (pa_cons (pv 0) pa_nil)))
      (pss_cons (ps_expr (pe_call GCheckLaying (hr.mono (by first | omega | decide)) (by rfl) cCheckLaying.m cCheckLaying.F.kp cCheckLaying.b .nil pass0 (pa_cons (pv 0) (pa_cons (pv 1) pa_nil))))
      (pss_cons (ps_set (i := 2) scLoopBeats.nd rfl (Or.inl rfl) (pe_lst pa_nil))
      (pss_cons (ps_for (L2.passes_of rfl) rfl (pi_list (pe_call GLoops (hr.mono (by first | omega | decide)) (by rfl) cLoops.m cLoops.F.kp cLoops.b .nil (L2.passes_call (takes_of rfl rfl rfl rfl) (fun _ _ _ _ h => h)) (pa_cons (pv 0) pa_nil))) (pg_name (i := 3) scLoopBeats.nd rfl (Or.inl rfl))
          (pss_cons (ps_set (i := 4) scLoopBeats.nd rfl (Or.inl rfl) (pe_tup (StX.pa_star (pv 3) (pa_cons (pe_ix ix_tup (pv 3) pe_int (fun _ _ => rfl)) pa_nil))))
          (pss_cons (ps_set (i := 5) scLoopBeats.nd rfl (Or.inl rfl) (pe_callB (cr_sum rfl) (by rfl) T.sum (by decide +kernel) (pa_cons (pe_lc (own := [("begin", 6), ("to", 7)]) (g := gTup K 2 (gCons (gName 6) (gCons (gName 7) gNil))) (tt := tYes) rfl scLoopBeats.nd (RZ.pi_zipA (by rfl) T.zip (pa_cons (pv 4) (pa_cons (pe_slice sl_tupS (pv 4) (po_some pe_int) po_none) pa_nil))) (blkOk_by (N := nLoopBeats) (sc := defScope sLoopBeats) (by decide +kernel)) (fun _ _ _ _ _ => (pg_tupK K rfl rfl (pgs_cons (pg_name (i := 6) scLoopBeats.nd rfl (Or.inl rfl)) (pgs_cons (pg_name (i := 7) scLoopBeats.nd rfl (Or.inl rfl)) pgs_nil)))) (fun _ _ _ _ _ => pts_nil) (fun _ _ _ _ _ => (pe_call GCost (hr.mono (by first | omega | decide)) (by rfl) cCost.m cCost.F.kp cCost.b .nil pass0 (pa_cons (pv 0) (pa_cons (pv 1) (pa_cons (pv 6) (pa_cons (pv 7) pa_nil))))))) pa_nil)))
          (pss_one (ps_expr (pe_bm PySem.F.plainAttrs_list PySem.F.slot_list_append PySem.F.type_list_append mt_append (pv 2) (pa_cons (pe_tup (pa_cons (pv 3) (pa_cons (pv 5) (pa_cons (pe_call GInRounds (hr.mono (by first | omega | decide)) (by rfl) cInRounds.m cInRounds.F.kp cInRounds.b .nil pass0 (pa_cons (pe_call GLeastBeats (hr.mono (by first | omega | decide)) (by rfl) cLeastBeats.m cLeastBeats.F.kp cLeastBeats.b .nil pass0 (pa_cons (pv 0) (pa_cons (pv 4) pa_nil))) (pa_cons (pe_ix ix_tup (pv 1) pe_int (fun _ _ => rfl)) pa_nil))) pa_nil)))) pa_nil)))))))
      (pss_one (ps_ret (pv 2))))))), ?_⟩
    refine ⟨_, rfl, a, p, rfl, hP, g, fun H1 s1 => ?_⟩
    refine ⟨_, rfl, _, rfl, a, b, p, y, rfl, hP.kp (Kp.same s1), g, hY.kp (Kp.same s1), yk, fun H2 s2 => ?_⟩
    have S2 := s1.trans s2
    refine ⟨Nat.zero_le _, fun l hl => ?_⟩
    have nl : H l = none := S2.free hl
    refine alloc hl fun H3 s3 e3 => ?_
    have S3 := S2.trans s3
    dsimp only [gName]
    refine ⟨_, rfl, a, p, rfl, hP.kp (Kp.same S3), g, fun hn H' s' => kn hn H' (S3.trans s'), fun L hL hLs hL100 ll lbs H4 s4 nll e4 hT => ?_⟩
    have S4 := S3.trans s4
    have hll := tups_len hT
    have ne : l ≠ ll := fun z => by rw [z, nll] at e3; cases e3
    refine ⟨ll, rfl, ⟨_, SqL.of e4⟩, for_list (K := K) (a := ll) (xs := lbs.map V.ref) (fun i σ H' => ∃ (x3 x4 x5 : Option V) (bs : List Addr), σ = [some (.ref a), some (.ref b), some (.ref l), x3, x4, x5, none, none] ∧ Same1 H2 H' ∧ H' l = some (.lst (bs.map V.ref)) ∧ ToldAt y p.rows H' bs (L.take i) ∧ TupsN H' lbs L ∧ H' ll = some (.lst (lbs.map V.ref)))
      ⟨none, none, none, [], rfl, s3.trans s4, s4 _ _ e3, .nil, hT, e4⟩ (fun i σ H' _ ⟨_, _, _, _, _, _, _, _, _, q⟩ => SqL.of q) ?_ ?_⟩
    · rintro i x σ H5 hi ⟨x3, x4, x5, bs, rfl, s5, e5, hB, hT5, q5⟩
      have hic : i < lbs.length := by
        have q := (List.getElem?_eq_some_iff.mp hi).1
        rwa [List.length_map] at q
      have ex : x = .ref lbs[i] := by
        rw [List.getElem?_map, List.getElem?_eq_getElem hic] at hi
        exact (Option.some.inj hi).symm
      subst ex
      obtain ⟨sv, hq1, hq2⟩ := Paired.get hT5 (List.getElem?_eq_getElem hic)
      have hsv := hLs sv (List.mem_of_getElem? hq1)
      have hsl := hsv.len
      obtain ⟨wl, s0, sh, wN⟩ := way_len hsv
      have shV : (sv.map nI)[0]? = some (nI (sv.headD 0)) := by rw [List.getElem?_map, sh]; rfl
      have S5 := S2.trans s5
      have hbl := Paired.length hB
      rw [List.length_take] at hbl
      refine ⟨_, rfl, lbs[i], _, rfl, .inl (SqT.of hq2), _, rfl, lbs[i], _, _, _, rfl, rfl, SqT.of hq2, atI_nat (j := 0) shV, sz (by rw [List.length_append, List.length_map]; show sv.length + 1 ≤ _; omega), fun wt hwt => ?_⟩
      refine alloc hwt fun H6 s6 e6 => ?_
      have e6 : H6 wt = some (.tup ((wayF sv).map nI)) := by
        rw [e6]
        unfold wayF
        rw [List.map_append]
        rfl
      have S6 := S5.trans s6
      dsimp only [gName]
      refine ⟨_, rfl, _, rfl, _, rfl, wt, _, rfl, e6, fun t2 H7 s7 e7 => ?_⟩
      have e7 : H7 t2 = some (.tup (((wayF sv).drop 1).map nI)) := by
        rw [e7]
        exact congrArg (fun z => some (HO.tup z)) ((dropn 1).trans List.map_drop.symm)
      have f6 := s7 _ _ e6
      have S7 := S6.trans s7
      have pl : (pairsF (wayF sv)).length = (((wayF sv).drop 1).map nI).length := by
        unfold pairsF
        rw [List.length_zip, List.length_map, List.length_drop]
        omega
      refine ⟨wt, t2, _, _, rfl, .inr ⟨SqT.of f6, SqT.of e7, fun D hD => ?_⟩⟩
      refine DLR.lc_zipT (K := K) (a := wt) (b := t2) (xs := (wayF sv).map nI) (ys := ((wayF sv).drop 1).map nI) (by rw [List.length_map, List.length_map, List.length_drop]; omega) (fun j H' => Same1 H7 H' ∧ H' D = some (.lst ((((pairsF (wayF sv)).take j).map fun q => costF y p.rows q.1 q.2).map V.int))) ⟨Same.new hD, upd_same⟩ (fun j H' _ ⟨q, _⟩ => ⟨SqT.of (q _ _ f6), SqT.of (q _ _ e7)⟩) ?_ ?_
      · rintro j xv yv T9 H8 H9 hx hy ⟨s8, hd8⟩ hTn rfl
        rw [List.getElem?_map] at hx hy
        cases hu : (wayF sv)[j]? with
        | none => rw [hu] at hx; cases hx
        | some u =>
        cases hv : ((wayF sv).drop 1)[j]? with
        | none => rw [hv] at hy; cases hy
        | some v =>
        rw [hu] at hx
        rw [hv] at hy
        have ex : nI u = xv := Option.some.inj hx
        have ey : nI v = yv := Option.some.inj hy
        subst ex ey
        have hjl : j < (pairsF (wayF sv)).length := by
          rw [pl, List.length_map]
          exact (List.getElem?_eq_some_iff.mp hv).1
        have hz : (pairsF (wayF sv))[j]? = some (u, v) := List.getElem?_zip_eq_some.mpr ⟨hu, hv⟩
        refine alloc hTn fun H9 s9 e9 => ?_
        have S9 := (S7.trans s8).trans s9
        refine ⟨T9, _, rfl, SqT.of e9, rfl, _, _, rfl, _, _, rfl, rfl, ?_⟩
        refine ⟨rfl, _, rfl, _, rfl, _, rfl, _, rfl, a, b, p, y, u, v, rfl, hP.kp (Kp.same S9), g, hY.kp (Kp.same S9), yk, wN u (List.mem_of_getElem? hu), wN v (List.mem_of_mem_drop (List.mem_of_getElem? hv)), fun H10 s10 => ?_⟩
        have hd10 := s10 _ _ (s9 _ _ hd8)
        refine ⟨_, hd10, szl (by rw [List.length_map, List.length_map, List.length_take, pl, List.length_map, List.length_drop]; omega), Same.mut ((s8.trans s9).trans s10) hD, ?_⟩
        rw [upd_same, List.take_add_one, hz, List.map_append, List.map_append]
        rfl
      · rintro H8 ⟨s8, hd8⟩
        rw [← pl, List.take_length] at hd8
        have S8 := S7.trans s8
        refine ⟨D, _, rfl, SqL.of hd8, ?_⟩
        dsimp only [gName]
        have s58 : Same1 H5 H8 := (s6.trans s7).trans s8
        have e8 := s58 _ _ e5
        refine ⟨_, rfl, .inl ⟨rfl, _, SqL.of e8⟩, _, rfl, _, rfl, _, rfl, _, rfl, a, wt, p, wayF sv, rfl, hP.kp (Kp.same S8), s8 _ _ f6, by omega, by omega, wN, fun H9 s9 => ?_⟩
        have S9 := S8.trans s9
        obtain ⟨ypl, yhl, ycs, hyb, _⟩ := hY.kp (Kp.same S9)
        refine ⟨_, rfl, b, _, _, _, rfl, rfl, SqT.of hyb, at0, leastF p.rows (wayF sv), y.wide, rfl, by omega, ?_⟩
        refine ⟨(by show 3 ≤ sizeLine; decide), fun tt htt => ?_⟩
        refine alloc htt fun H10 s10 e10 => ?_
        have s510 : Same1 H5 H10 := (s58.trans s9).trans s10
        have el := s510 _ _ e5
        refine ⟨l, _, _, rfl, rfl, el, szl (by rw [List.length_map]; omega), _, _, _, bs ++ [tt], rfl, Same.mut (s5.trans s510) hl, by rw [upd_same, List.map_append]; rfl, ?_, TupsN.kp hT5 ((Kp.same s510).trans (Kp.lst el)), (upd_ne ne.symm).trans (s510 _ _ q5)⟩
        rw [List.take_add_one, hq1]
        refine ToldAt.kp (Paired.app (ToldAt.kp hB (Kp.same s510)) (Paired.one ⟨lbs[i], e10, s510 _ _ hq2⟩)) (Kp.lst el)
    · rintro σ H5 ⟨x3, x4, x5, bs, rfl, s5, e5, hB, hT5, q5⟩
      rw [List.length_map, hll, List.take_length] at hB
      exact ⟨_, rfl, ks L hL hLs hL100 l bs H5 (S2.trans s5) nl e5 hB⟩
end
end DL
namespace DL
open PySem L2 DLR
/-! ### rounds of a loop: whole rounds of the drum, no fewer than the least, the same however it is turned -/
theorem fbP_ge {now : Int} {place W : Nat} (h : 0 < W) : now ≤ fb now place W := by
  unfold fb
  have := Int.emod_nonneg ((place : Int) - now) (show (W : Int) ≠ 0 by omega)
  omega
theorem fbP_dvd (now : Int) (place W : Nat) : (W : Int) ∣ fb now place W - (place : Int) := by
  refine ⟨-(((place : Int) - now) / (W : Int)), ?_⟩
  unfold fb
  have e := Int.mul_ediv_add_emod ((place : Int) - now) (W : Int)
  rw [Int.mul_neg]
  omega
theorem fbP_shift {now c : Int} {p q W : Nat} {k : Int} (e : (q : Int) = (p : Int) + c + k * (W : Int)) : fb (now + c) q W = fb now p W + c := by
  unfold fb
  rw [e, show (p : Int) + c + k * (W : Int) - (now + c) = (p : Int) - now + k * (W : Int) by omega, Int.add_mul_emod_self_right]
  omega
theorem comesP {p : Prog} {y : Lay} (k : LayOk p y) {w : Nat} (hw : w < p.ws.length) (read : Int) : 0 < (comes y w read).length ∧ ∀ x ∈ comes y w read, read + 1 ≤ x := by
  have hw : w < y.homes.length := by rw [k.hl]; exact hw
  have e : y.homes.getD w [] = y.homes[w] := by rw [List.getD_eq_getElem?_getD, List.getElem?_eq_getElem hw]; rfl
  have h := k.hok _ (List.getElem_mem hw)
  have w2 := k.w2
  unfold comes comesL
  rw [e]
  refine ⟨by rw [List.length_map]; exact h.l1, fun x hx => ?_⟩
  obtain ⟨z, _, rfl⟩ := List.mem_map.mp hx
  exact fbP_ge (by omega)
def useOne (r : Row) : Int := if r.uses = true then 1 else 0
theorem use_ge {p : Prog} {y : Lay} (k : LayOk p y) {r : Row} {N : Nat} (ho : r.ok p.ws.length N) (read : Int) : useOne r + read ≤ useF y read r := by
  cases r with
  | load w n =>
    obtain ⟨a, b⟩ := comesP k ho.1 read
    have := b _ (minL_spec a).1
    show (1 : Int) + read ≤ minL (comes y w read)
    omega
  | add w n =>
    obtain ⟨a, b⟩ := comesP k ho.1 read
    have := b _ (minL_spec a).1
    show (1 : Int) + read ≤ minL (comes y w read)
    omega
  | take w n =>
    obtain ⟨a, b⟩ := comesP k ho.1 read
    have := b _ (minL_spec a).1
    show (1 : Int) + read ≤ minL (comes y w read)
    omega
  | store w n =>
    obtain ⟨a, b⟩ := comesP k ho.1 read
    have := b _ (maxL_spec a).1
    show (1 : Int) + read ≤ maxL (comes y w read)
    omega
  | say n => show (0 : Int) + read ≤ read; omega
  | test a b => show (0 : Int) + read ≤ read; omega
  | stop => show (0 : Int) + read ≤ read; omega
theorem cost_ge {p : Prog} {y : Lay} (g : Good p) (k : LayOk p y) {b t : Nat} (hb : b < p.rows.length) : useOne (p.rows.getD b .stop) + work (p.rows.getD b .stop) + 1 ≤ costF y p.rows b t := by
  have er : p.rows.getD b .stop = p.rows[b] := by rw [List.getD_eq_getElem?_getD, List.getElem?_eq_getElem hb]; rfl
  have ho := g.ok _ (List.getElem_mem hb)
  have w2 := k.w2
  unfold costF behindF
  rw [er]
  have a := use_ge k ho ((y.places.getD b 0 : Nat) : Int)
  have c := fbP_ge (now := useF y ((y.places.getD b 0 : Nat) : Int) p.rows[b] + work p.rows[b] + 1) (place := y.places.getD t 0) (W := y.wide) (by omega)
  omega
theorem sums_le {α : Type} {f g : α → Int} : ∀ {l : List α}, (∀ q ∈ l, f q + 1 ≤ g q) → (l.map f).sum + (l.length : Int) ≤ (l.map g).sum
  | [], _ => Int.le_refl _
  | x :: l, h => by
    have a := h x List.mem_cons_self
    have b := sums_le (l := l) fun q hq => h q (List.mem_cons_of_mem _ hq)
    rw [List.map_cons, List.map_cons, List.sum_cons, List.sum_cons, List.length_cons]
    omega
theorem sum_ones : ∀ l : List Nat, ((l.map fun x => [x]).map (leastHalfF rows)).sum = (l.length : Int)
  | [] => rfl
  | x :: l => by
    rw [List.map_cons, List.map_cons, List.sum_cons, sum_ones l, List.length_cons]
    show (1 : Int) + _ = _
    omega
theorem least_eq (rows : List Row) (w : List Nat) : leastF rows w = ((pairsF w).map fun q => useOne (rows.getD q.1 .stop) + work (rows.getD q.1 .stop)).sum + ((w.drop 1).length : Int) := by
  unfold leastF halvesF
  rw [List.map_append, List.sum_append, sum_ones, List.map_map]
  rfl
theorem pairs_len (w : List Nat) : (pairsF w).length = (w.drop 1).length := by
  unfold pairsF
  rw [List.length_zip, List.length_drop]
  omega
theorem takes_ge {p : Prog} {y : Lay} (g : Good p) (k : LayOk p y) {s : List Nat} (hs : Str_ p.rows.length s) : leastF p.rows (wayF s) ≤ takesF y p.rows s := by
  rw [least_eq, ← pairs_len]
  obtain ⟨_, _, _, wN⟩ := way_len hs
  exact sums_le fun q hq => cost_ge g k (wN _ (List.of_mem_zip hq).1)
theorem dvd_cost (y : Lay) (rows : List Row) (u v : Nat) : (y.wide : Int) ∣ costF y rows u v - (((y.places.getD v 0 : Nat) : Int) - ((y.places.getD u 0 : Nat) : Int)) := by
  obtain ⟨k, e⟩ := fbP_dvd (behindF y (rows.getD u .stop) ((y.places.getD u 0 : Nat) : Int)) (y.places.getD v 0) y.wide
  refine ⟨k, ?_⟩
  unfold costF
  omega
theorem dvd_tele {W : Int} {f : Nat → Nat → Int} {pl : Nat → Int} (h : ∀ u v, W ∣ f u v - (pl v - pl u)) : ∀ (xs : List Nat) (x : Nat), W ∣ ((pairsF (x :: xs)).map fun q => f q.1 q.2).sum - (pl (xs.getLastD x) - pl x)
  | [], x => ⟨0, by show (0 : Int) - (pl x - pl x) = _; omega⟩
  | y :: ys, x => by
    obtain ⟨a, ea⟩ := h x y
    obtain ⟨b, eb⟩ := dvd_tele h ys y
    refine ⟨a + b, ?_⟩
    have e : pairsF (x :: y :: ys) = (x, y) :: pairsF (y :: ys) := rfl
    rw [e, List.map_cons, List.sum_cons, List.getLastD_cons, Int.mul_add, ← ea, ← eb]
    dsimp only
    omega
theorem dvd_takes (y : Lay) (rows : List Row) {s : List Nat} (ne : s ≠ []) : (y.wide : Int) ∣ takesF y rows s := by
  match s, ne with
  | x :: r, _ =>
    have q := dvd_tele (pl := fun i => ((y.places.getD i 0 : Nat) : Int)) (dvd_cost y rows) (r ++ [x]) x
    have e : (r ++ [x]).getLastD x = x := by simp
    rw [e] at q
    have e2 : ((y.places.getD x 0 : Nat) : Int) - ((y.places.getD x 0 : Nat) : Int) = 0 := by omega
    rw [e2, Int.sub_zero] at q
    exact q
theorem dvd_round (b : Int) (W : Nat) : (W : Int) ∣ roundF b W := by
  refine ⟨-((-b) / (W : Int)), ?_⟩
  unfold roundF
  have e := Int.mul_ediv_add_emod (-b) (W : Int)
  rw [Int.mul_neg]
  omega
theorem round_le {b t : Int} {W : Nat} (h0 : 0 < W) (h : b ≤ t) (d : (W : Int) ∣ t) : roundF b W ≤ t := by
  obtain ⟨m, em⟩ := dvd_round b W
  obtain ⟨k, ek⟩ := d
  have lt : roundF b W < b + (W : Int) := by
    unfold roundF
    have := Int.emod_lt_of_pos (-b) (show (0 : Int) < (W : Int) by omega)
    omega
  rw [em] at lt ⊢
  rw [ek] at h ⊢
  refine Int.mul_le_mul_of_nonneg_left ?_ (by omega)
  refine Int.lt_add_one_iff.mp (Int.lt_of_mul_lt_mul_left (a := (W : Int)) ?_ (by omega))
  rw [Int.mul_add, Int.mul_one]
  omega
theorem few_le {p : Prog} {y : Lay} (g : Good p) (k : LayOk p y) {s : List Nat} (hs : Str_ p.rows.length s) : fewF y p.rows s ≤ takesF y p.rows s := by
  have w2 := k.w2
  exact round_le (by omega) (takes_ge g k hs) (dvd_takes y p.rows hs.ne)
structure Turned (p : Prog) (y z : Lay) (c : Int) : Prop where
  wide : z.wide = y.wide
  pl : ∀ i, i < p.rows.length → ∃ k : Int, ((z.places.getD i 0 : Nat) : Int) = ((y.places.getD i 0 : Nat) : Int) + c + k * (y.wide : Int)
  to : ∀ w, w < p.ws.length → ∀ x ∈ z.homes.getD w [], ∃ x0 ∈ y.homes.getD w [], ∃ k : Int, (x : Int) = (x0 : Int) + c + k * (y.wide : Int)
  fro : ∀ w, w < p.ws.length → ∀ x0 ∈ y.homes.getD w [], ∃ x ∈ z.homes.getD w [], ∃ k : Int, (x : Int) = (x0 : Int) + c + k * (y.wide : Int)
theorem minL_tr {l m : List Int} {c : Int} (hl : 0 < l.length) (a : ∀ x ∈ m, x - c ∈ l) (b : ∀ x ∈ l, x + c ∈ m) : minL m = minL l + c := by
  obtain ⟨h1, h2⟩ := minL_spec hl
  refine (minL_is (b _ h1) fun y hy => ?_).symm
  have := h2 _ (a y hy)
  omega
theorem maxL_tr {l m : List Int} {c : Int} (hl : 0 < l.length) (a : ∀ x ∈ m, x - c ∈ l) (b : ∀ x ∈ l, x + c ∈ m) : maxL m = maxL l + c := by
  obtain ⟨h1, h2⟩ := maxL_spec hl
  refine (maxL_is (b _ h1) fun y hy => ?_).symm
  have := h2 _ (a y hy)
  omega
theorem comes_tr {p : Prog} {y z : Lay} {c : Int} (h : Turned p y z c) {w : Nat} (hw : w < p.ws.length) (read k0 : Int) : (∀ x ∈ comes z w (read + (c + k0 * (y.wide : Int))), x - (c + k0 * (y.wide : Int)) ∈ comes y w read) ∧ ∀ x ∈ comes y w read, x + (c + k0 * (y.wide : Int)) ∈ comes z w (read + (c + k0 * (y.wide : Int))) := by
  have sh : ∀ {x x0 : Nat} {k : Int}, (x : Int) = (x0 : Int) + c + k * (y.wide : Int) → fb (read + (c + k0 * (y.wide : Int)) + 1) x y.wide = fb (read + 1) x0 y.wide + (c + k0 * (y.wide : Int)) := by
    intro x x0 k e
    rw [show read + (c + k0 * (y.wide : Int)) + 1 = (read + 1) + (c + k0 * (y.wide : Int)) by omega]
    refine fbP_shift (k := k - k0) ?_
    rw [e, Int.sub_mul]
    omega
  unfold comes comesL
  rw [h.wide]
  constructor
  · intro v hv
    obtain ⟨x, hx, rfl⟩ := List.mem_map.mp hv
    obtain ⟨x0, hx0, k, e⟩ := h.to w hw x hx
    refine List.mem_map.mpr ⟨x0, hx0, ?_⟩
    rw [sh e]
    omega
  · intro v hv
    obtain ⟨x0, hx0, rfl⟩ := List.mem_map.mp hv
    obtain ⟨x, hx, k, e⟩ := h.fro w hw x0 hx0
    exact List.mem_map.mpr ⟨x, hx, sh e⟩
theorem use_tr {p : Prog} {y z : Lay} {c : Int} (ky : LayOk p y) (h : Turned p y z c) {r : Row} {N : Nat} (ho : r.ok p.ws.length N) (read k0 : Int) : useF z (read + (c + k0 * (y.wide : Int))) r = useF y read r + (c + k0 * (y.wide : Int)) := by
  cases r with
  | load w n => exact minL_tr (comesP ky ho.1 read).1 (comes_tr h ho.1 read k0).1 (comes_tr h ho.1 read k0).2
  | add w n => exact minL_tr (comesP ky ho.1 read).1 (comes_tr h ho.1 read k0).1 (comes_tr h ho.1 read k0).2
  | take w n => exact minL_tr (comesP ky ho.1 read).1 (comes_tr h ho.1 read k0).1 (comes_tr h ho.1 read k0).2
  | store w n => exact maxL_tr (comesP ky ho.1 read).1 (comes_tr h ho.1 read k0).1 (comes_tr h ho.1 read k0).2
  | say n => rfl
  | test a b => rfl
  | stop => rfl
theorem cost_tr {p : Prog} {y z : Lay} {c : Int} (g : Good p) (ky : LayOk p y) (h : Turned p y z c) {b t : Nat} (hb : b < p.rows.length) (ht : t < p.rows.length) : costF z p.rows b t = costF y p.rows b t := by
  have er : p.rows.getD b .stop = p.rows[b] := by rw [List.getD_eq_getElem?_getD, List.getElem?_eq_getElem hb]; rfl
  have ho := g.ok _ (List.getElem_mem hb)
  obtain ⟨k1, e1⟩ := h.pl b hb
  obtain ⟨k2, e2⟩ := h.pl t ht
  unfold costF behindF
  rw [er, h.wide, e1, show ((y.places.getD b 0 : Nat) : Int) + c + k1 * (y.wide : Int) = ((y.places.getD b 0 : Nat) : Int) + (c + k1 * (y.wide : Int)) by omega, use_tr ky h ho]
  rw [show useF y ((y.places.getD b 0 : Nat) : Int) p.rows[b] + (c + k1 * (y.wide : Int)) + work p.rows[b] + 1 = (useF y ((y.places.getD b 0 : Nat) : Int) p.rows[b] + work p.rows[b] + 1) + (c + k1 * (y.wide : Int)) by omega]
  rw [fbP_shift (p := y.places.getD t 0) (k := k2 - k1) (by rw [e2, Int.sub_mul]; omega)]
  omega
theorem takes_tr {p : Prog} {y z : Lay} {c : Int} (g : Good p) (ky : LayOk p y) (h : Turned p y z c) {s : List Nat} (hs : Str_ p.rows.length s) : takesF z p.rows s = takesF y p.rows s := by
  obtain ⟨_, _, _, wN⟩ := way_len hs
  unfold takesF
  refine congrArg List.sum (List.map_congr_left fun q hq => ?_)
  exact cost_tr g ky h (wN _ (List.of_mem_zip hq).1) (wN _ (List.mem_of_mem_drop (List.of_mem_zip hq).2))
theorem few_tr {p : Prog} {y z : Lay} {c : Int} (h : Turned p y z c) (rows : List Row) (s : List Nat) : fewF z rows s = fewF y rows s := by
  unfold fewF
  rw [h.wide]
end DL
namespace DL
open PySem PySem.Spec PyProof.Rows L2 DLR LamX
/-! ### words that many laws use (as in Z3, Z4, Z5) -/
theorem zat_tup {H : Hp} {a : Addr} {vs : List V} {ds : List D} (h : H a = some (.tup vs)) (q : Ats H vs ds) : At H (.ref a) (.tup ds) := by
  simp only [At]
  exact ⟨a, vs, rfl, h, q⟩
theorem zat_int {H : Hp} {i : Int} : At H (.int i) (.int i) := by simp only [At]
theorem zats_nil {H : Hp} : Ats H [] [] := by simp only [Ats]
theorem zats_cons {H : Hp} {v : V} {vs : List V} {d : D} {ds : List D} (h : At H v d) (q : Ats H vs ds) : Ats H (v :: vs) (d :: ds) := by
  simp only [Ats]
  exact ⟨h, q⟩
theorem zats_un {H : Hp} {v : V} {vs : List V} {d : D} {ds : List D} (h : Ats H (v :: vs) (d :: ds)) : At H v d ∧ Ats H vs ds := by simpa only [Ats] using h
theorem zats_app {H : Hp} : ∀ {vs : List V} {ds : List D} {us : List V} {es : List D}, Ats H vs ds → Ats H us es → Ats H (vs ++ us) (ds ++ es)
  | [], [], _, _, _, h => h
  | v :: vs, d :: ds, _, _, h, g => zats_cons (zats_un h).1 (zats_app (zats_un h).2 g)
  | [], _ :: _, _, _, h, _ => by simp [Ats] at h
  | _ :: _, [], _, _, h, _ => by simp [Ats] at h
theorem zats_take {H : Hp} : ∀ (n : Nat) {vs : List V} {ds : List D}, Ats H vs ds → Ats H (vs.take n) (ds.take n)
  | 0, _, _, _ => by simp [Ats]
  | n + 1, [], [], _ => by simp [Ats]
  | n + 1, v :: vs, d :: ds, h => by
    rw [List.take_succ_cons, List.take_succ_cons]
    exact zats_cons (zats_un h).1 (zats_take n (zats_un h).2)
  | _ + 1, [], _ :: _, h => by simp [Ats] at h
  | _ + 1, _ :: _, [], h => by simp [Ats] at h
theorem zats_drop {H : Hp} : ∀ (n : Nat) {vs : List V} {ds : List D}, Ats H vs ds → Ats H (vs.drop n) (ds.drop n)
  | 0, _, _, h => h
  | n + 1, [], [], _ => by simp [Ats]
  | n + 1, v :: vs, d :: ds, h => by
    rw [List.drop_succ_cons, List.drop_succ_cons]
    exact zats_drop n (zats_un h).2
  | _ + 1, [], _ :: _, h => by simp [Ats] at h
  | _ + 1, _ :: _, [], h => by simp [Ats] at h
theorem zcut_to (n : Nat) (xs : List V) : cutV xs none (some (n : Int)) = xs.take n := by
  unfold cutV
  have e : HT.sIx xs.length xs.length (some (n : Int)) = min n xs.length := HT.sIx_nat _ _ n
  rw [e, HT.sIx_none, List.drop_zero, Nat.sub_zero]
  rcases Nat.le_total n xs.length with q | q
  · rw [Nat.min_eq_left q]
  · rw [Nat.min_eq_right q, List.take_length, List.take_of_length_le q]
theorem ztt_elim {T : TT} {σ : L2.St} {H : Hp} {K : Bool → Hp → Prop} (S : Bool → Hp → Prop) (h1 : ∀ K' : Bool → Hp → Prop, (∀ b H', S b H' → K' b H') → T σ H K') (h2 : ∀ b H', S b H' → K b H') : T σ H K := h1 K h2
theorem zte_elim {t : TE} {σ : L2.St} {H : Hp} {Q : VK} (S : V → Hp → Prop) (h1 : ∀ Q' : VK, (∀ v H', S v H' → Q' v H') → t σ H Q') (h2 : ∀ v H', S v H' → Q v H') : t σ H Q := h1 Q h2
theorem zif_elim {T : TT} {A B R : TS} {D : Ends} {σ : L2.St} {H : Hp} (S : Bool → Hp → Prop) (h1 : ∀ K' : Bool → Hp → Prop, (∀ b H', S b H' → K' b H') → T σ H K')
    (h2 : ∀ b H', S b H' → if b = true then A { D with nx := R D } σ H' else B { D with nx := R D } σ H') : tSeq (tIfS T A B) R D σ H := h1 _ h2
theorem op_neDK {X : Cx} (K0 : PySem.W.Frag) (hK : X.K = K0) (hu : X.A.units + 64 < cLine) : OpR X (compareOp .NotEq) (rNeD K0) := hK ▸ op_neD hu
theorem told_okEK {X : Cx} {K0 : Frg} {mg0 : Str → Option Value} (hK : X.K = K0) (hm : X.mg = mg0) (E : Er mg0) (T : Bt mg0) {g : Addr} {cdg : Value} {q : Str} : GivesTo X nTold "_law_told" (defScope sTold) g cdg (defBody sTold) "_law_work_here" q (TTe K0 E) := by
  subst hK hm
  exact told_okE E T
theorem toldX_fuel {K : Frg} {mg : Str → Option Value} {E : Er mg} {BF : Addr} (kn : Knd K E BF 2) {H' : Hp} {R : V → Hp → Prop} (h : ∀ t H'', Same1 H' H'' → H'' t = some (.tup [.str "fuel"]) → R (.ref t) H'') : ToldX K E (.ref BF) none H' R :=
  .inl ⟨BF, 2, kn, rfl, rfl, h⟩
theorem tabs_mut {T : List (Addr × Str)} {H : Hp} {w : Addr} {xs ys : List V} (h : H w = some (.lst xs)) (t : Tabs T H) : Tabs T (upd H w (.lst ys)) := fun p hp => by
  obtain ⟨ps, h1, h2, h3⟩ := t p hp
  have ne : ∀ {x : Addr} {o : HO}, H x = some o → (∀ zs, o ≠ .lst zs) → x ≠ w := fun {x o} e n z => by
    subst z
    rw [h] at e
    exact n _ (Option.some.inj e).symm
  refine ⟨ps, by rw [upd_ne (ne h1 fun zs z => by cases z)]; exact h1, h2, fun pos cv hc => ?_⟩
  obtain ⟨k, e1, e2⟩ := h3 pos cv hc
  exact ⟨k, e1, by rw [upd_ne (ne e2 fun zs => codeO_lst zs)]; exact e2⟩
theorem none_ne_dice {H : Hp} {d sa l : Addr} (dv : DiceV H d sa) (h : H l = none) : l ≠ d := fun e => by
  subst e
  obtain ⟨i, m, r, z, _⟩ := dv
  rw [h] at z
  cases z
theorem zasg_elim {te : TE} {g : TG} {u : TS} {D : Ends} {σ : L2.St} {H : Hp} (R : V → Hp → Prop) (key : ∀ v H', R v H' → g v σ H' (u D)) (test : ∀ Q' : VK, (∀ v H', R v H' → Q' v H') → te σ H Q') : tSeq (tAsg te g) u D σ H := test _ key
theorem rep_map {α : Type} (n : Nat) (x : α) (f : α → V) : (List.replicate n [f x]).flatten = (List.replicate n x).map f := by
  induction n with
  | zero => rfl
  | succ n ih =>
    rw [List.replicate_succ, List.replicate_succ, List.flatten_cons, ih]
    rfl
def LamD (X : Cx) (k : Nat) (S : L2.St → Hp → Prop) (B : XK → Hp → Prop) (H : Hp) (v : V) : Prop := ∃ t : XK → TE, LamV X k H v t ∧ ∀ (E : XK) (σ : L2.St) (H' : Hp) (Q : VK), S σ H' → B E H' → t E σ H' Q
theorem LamD.keep {X : Cx} {k : Nat} {S : L2.St → Hp → Prop} {B : XK → Hp → Prop} {H H' : Hp} {v : V} (L : LamD X k S B H v) (h : ∀ b o, H b = some o → (∀ ps, o ≠ .tbl ps) → (∀ xs, o ≠ .lst xs) → H' b = some o) : LamD X k S B H' v := by
  obtain ⟨t, h1, h2⟩ := L
  exact ⟨t, h1.keep h, h2⟩
theorem LamD.same {X : Cx} {k : Nat} {S : L2.St → Hp → Prop} {B : XK → Hp → Prop} {H H' : Hp} {v : V} (L : LamD X k S B H v) (s : Same1 H H') : LamD X k S B H' v := L.keep fun b o e _ _ => s b o e
theorem LamD.ext {X : Cx} {k : Nat} {S : L2.St → Hp → Prop} {B : XK → Hp → Prop} {H H' : Hp} {v : V} (L : LamD X k S B H v) (s : ExtN H H') : LamD X k S B H' v := L.keep fun b o e n _ => s b o e n
theorem toldX_kind {K : Frg} {mg : Str → Option Value} {E : Er mg} {C : Addr} {j : Nat} (kn : Knd K E C j) {H' : Hp} {R : V → Hp → Prop} (h : ∀ t H'', Same1 H' H'' → H'' t = some (.tup [.str (wordJ j)]) → R (.ref t) H'') : ToldX K E (.ref C) none H' R :=
  .inl ⟨C, j, kn, rfl, rfl, h⟩
end DL
namespace DL
open PySem PySem.Spec L2 DLR
/-! ### all stretches: by a stack, and by going into each -/
def hitF (rows : List Row) (start : Nat) (s : List Nat) : Bool := decide (start ∈ tgt (rows.getD (s.getLastD 0) .stop))
def treeF (rows : List Row) (start : Nat) : Nat → List Nat → List (List Nat)
  | 0, s => [s]
  | k + 1, s => s :: (stepsOf rows start s).flatMap (treeF rows start k)
def tr (rows : List Row) (start : Nat) (s : List Nat) : List (List Nat) := treeF rows start (rows.length - s.length) s
def Goes2 (rows : List Row) : Prop := ∀ r ∈ rows, ∀ t ∈ tgt r, t < rows.length
theorem Str_.step {rows : List Row} (g : Goes2 rows) {start : Nat} {s u : List Nat} (h : Str_ rows.length s) (hu : u ∈ stepsOf rows start s) : Str_ rows.length u ∧ u.length = s.length + 1 := by
  unfold stepsOf at hu
  obtain ⟨t, ht, rfl⟩ := List.mem_map.mp hu
  obtain ⟨h1, h2⟩ := List.mem_filter.mp ht
  obtain ⟨_, h3⟩ := Bool.and_eq_true_iff.mp h2
  have h3 : t ∉ s := of_decide_eq_true h3
  obtain ⟨_, hl⟩ := h.at
  have hr : rows.getD (s.getLastD 0) .stop ∈ rows := by
    rw [List.getD_eq_getElem?_getD, List.getElem?_eq_getElem hl]
    exact List.getElem_mem hl
  have tl := g _ hr t h1
  refine ⟨⟨by simp, ?_, fun x hx => ?_⟩, by simp⟩
  · refine List.nodup_append.mpr ⟨h.nd, by simp, fun a ha b hb => ?_⟩
    rw [List.mem_singleton.mp hb]
    intro e
    exact h3 (e ▸ ha)
  · rcases List.mem_append.mp hx with q | q
    · exact h.lt x q
    · rw [List.mem_singleton.mp q]
      exact tl
theorem tr_eq {rows : List Row} (g : Goes2 rows) {start : Nat} {s : List Nat} (h : Str_ rows.length s) : tr rows start s = s :: (stepsOf rows start s).flatMap (tr rows start) := by
  have hl := h.len
  unfold tr
  cases e : rows.length - s.length with
  | zero =>
    have hn : stepsOf rows start s = [] := by
      cases q : stepsOf rows start s with
      | nil => rfl
      | cons u us =>
        obtain ⟨h1, h2⟩ := h.step g (u := u) (start := start) (by rw [q]; exact List.mem_cons_self)
        have := h1.len
        omega
    rw [hn]
    rfl
  | succ k =>
    show s :: (stepsOf rows start s).flatMap (treeF rows start k) = _
    congr 1
    have : ∀ l : List (List Nat), (∀ u ∈ l, u ∈ stepsOf rows start s) → l.flatMap (treeF rows start k) = l.flatMap fun u => treeF rows start (rows.length - u.length) u := by
      intro l
      induction l with
      | nil => intro _; rfl
      | cons u l ih =>
        intro hm
        obtain ⟨_, h2⟩ := h.step g (hm u List.mem_cons_self)
        rw [List.flatMap_cons, List.flatMap_cons, ih fun x hx => hm x (List.mem_cons_of_mem _ hx), show rows.length - u.length = k by omega]
    exact this _ fun u hu => hu
theorem flatMap_perm {α β : Type} (f : α → List β) {l m : List α} (h : l.Perm m) : (l.flatMap f).Perm (m.flatMap f) := by
  induction h with
  | nil => exact .refl _
  | cons x _ ih => rw [List.flatMap_cons, List.flatMap_cons]; exact ih.append_left _
  | swap x y l =>
    rw [List.flatMap_cons, List.flatMap_cons, List.flatMap_cons, List.flatMap_cons, ← List.append_assoc, ← List.append_assoc]
    exact List.perm_append_comm.append_right _
  | trans _ _ ih1 ih2 => exact ih1.trans ih2
theorem dfs_tree {rows : List Row} (g : Goes2 rows) (start : Nat) : ∀ (n : Nat) (st f : List (List Nat)), (∀ s ∈ st, Str_ rows.length s) →
    ((st.flatMap (tr rows start)).length ≤ n → ∃ q, dfs rows start n st f = some (n - (st.flatMap (tr rows start)).length, f ++ q) ∧ q.Perm ((st.flatMap (tr rows start)).filter (hitF rows start))) ∧
    (n < (st.flatMap (tr rows start)).length → dfs rows start n st f = none)
  | n, [], f, _ => ⟨fun _ => ⟨[], by rw [dfs_nil]; simp, by simp⟩, fun h => absurd h (Nat.not_lt_zero _)⟩
  | 0, s :: st, f, h => by
    have e : 0 < ((s :: st).flatMap (tr rows start)).length := by
      rw [List.flatMap_cons, tr_eq g (h s List.mem_cons_self)]
      simp
    exact ⟨fun z => by omega, fun _ => rfl⟩
  | n + 1, s :: st, f, h => by
    have hs := h s List.mem_cons_self
    have hst : ∀ u ∈ (stepsOf rows start s).reverse ++ st, Str_ rows.length u := fun u hu => by
      rcases List.mem_append.mp hu with q | q
      · exact (hs.step g (List.mem_reverse.mp q)).1
      · exact h u (List.mem_cons_of_mem _ q)
    have pm : ((s :: st).flatMap (tr rows start)).Perm (s :: ((stepsOf rows start s).reverse ++ st).flatMap (tr rows start)) := by
      rw [List.flatMap_cons, tr_eq g hs, List.flatMap_append, List.cons_append]
      exact ((flatMap_perm _ (List.reverse_perm _).symm).append_right _).cons s
    have pl := pm.length_eq
    rw [List.length_cons] at pl
    obtain ⟨i1, i2⟩ := dfs_tree g start n ((stepsOf rows start s).reverse ++ st) (if start ∈ tgt (rows.getD (s.getLastD 0) .stop) then f ++ [s] else f) hst
    have unf : dfs rows start (n + 1) (s :: st) f = dfs rows start n ((stepsOf rows start s).reverse ++ st) (if start ∈ tgt (rows.getD (s.getLastD 0) .stop) then f ++ [s] else f) := rfl
    rw [unf]
    refine ⟨fun hn => ?_, fun hn => i2 (by omega)⟩
    obtain ⟨q, e, p⟩ := i1 (by omega)
    have pf := pm.filter (hitF rows start)
    by_cases hit : start ∈ tgt (rows.getD (s.getLastD 0) .stop)
    · rw [if_pos hit] at e ⊢
      refine ⟨s :: q, ?_, ?_⟩
      · rw [e, pl, List.append_assoc, show n + 1 - (_ + 1) = n - _ from Nat.add_sub_add_right ..]
        rfl
      · refine (List.Perm.cons s p).trans ?_
        rw [List.filter_cons_of_pos (show hitF rows start s = true from decide_eq_true hit)] at pf
        exact pf.symm
    · rw [if_neg hit] at e ⊢
      refine ⟨q, ?_, ?_⟩
      · rw [e, pl, show n + 1 - (_ + 1) = n - _ from Nat.add_sub_add_right ..]
      · refine p.trans ?_
        rw [List.filter_cons_of_neg (by show ¬ hitF rows start s = true; unfold hitF; rw [decide_eq_false hit]; decide)] at pf
        exact pf.symm
def cntF (rows : List Row) (ss : List Nat) : Nat := (ss.map fun b => (tr rows b [b]).length).sum
def hitsF (rows : List Row) (ss : List Nat) : List (List Nat) := ss.flatMap fun b => (tr rows b [b]).filter (hitF rows b)
theorem Str_.one {N b : Nat} (h : b < N) : Str_ N [b] := ⟨by simp, by simp, fun x hx => by rw [List.mem_singleton.mp hx]; exact h⟩
theorem dfsAll_tree {rows : List Row} (g : Goes2 rows) : ∀ (ss : List Nat) (n : Nat) (f : List (List Nat)), (∀ b ∈ ss, b < rows.length) →
    (cntF rows ss ≤ n → ∃ q, dfsAll rows ss n f = some (n - cntF rows ss, f ++ q) ∧ q.Perm (hitsF rows ss)) ∧ (n < cntF rows ss → dfsAll rows ss n f = none)
  | [], n, f, _ => ⟨fun _ => ⟨[], by unfold dfsAll cntF; simp, by unfold hitsF; simp⟩, fun h => absurd h (Nat.not_lt_zero _)⟩
  | b :: ss, n, f, h => by
    have hc : cntF rows (b :: ss) = (tr rows b [b]).length + cntF rows ss := by unfold cntF; rw [List.map_cons, List.sum_cons]
    obtain ⟨i1, i2⟩ := dfs_tree g b n [[b]] f fun s hs => by rw [List.mem_singleton.mp hs]; exact Str_.one (h b List.mem_cons_self)
    have e1 : ([[b]] : List (List Nat)).flatMap (tr rows b) = tr rows b [b] := by simp
    rw [e1] at i1 i2
    rw [dfsAll_cons, hc]
    by_cases hn : (tr rows b [b]).length ≤ n
    · obtain ⟨q, e, p⟩ := i1 hn
      rw [e]
      obtain ⟨j1, j2⟩ := dfsAll_tree g ss (n - (tr rows b [b]).length) (f ++ q) fun x hx => h x (List.mem_cons_of_mem _ hx)
      refine ⟨fun hk => ?_, fun hk => j2 (by omega)⟩
      obtain ⟨q2, e2, p2⟩ := j1 (by omega)
      refine ⟨q ++ q2, ?_, ?_⟩
      · show dfsAll rows ss (n - (tr rows b [b]).length) (f ++ q) = _
        rw [e2, List.append_assoc]
        congr 2
        omega
      · unfold hitsF
        rw [List.flatMap_cons]
        exact p.append p2
    · rw [i2 (by omega)]
      exact ⟨fun hk => by omega, fun _ => rfl⟩
/-! the law's own search: what was found, how many were looked at -/
abbrev LZ := List (List Nat) × Nat
def intoF (rows : List Row) (start : Nat) (rec : List Nat → LZ → LZ) (p : List Nat) (z : LZ) (o : Nat) : LZ := if o = start then (z.1 ++ [p], z.2) else if start < o ∧ o ∉ p then rec (p ++ [o]) z else z
def llp (rows : List Row) (start : Nat) : Nat → List Nat → LZ → LZ
  | 0, _, z => (z.1, z.2 + 1)
  | n + 1, p, z => if 3000 < z.2 + 1 then (z.1, z.2 + 1) else (tgt (rows.getD (p.getLastD 0) .stop)).foldl (intoF rows start (llp rows start n) p) (z.1, z.2 + 1)
theorem llp_over {rows : List Row} {start n : Nat} {p : List Nat} {z : LZ} (h : 3000 ≤ z.2) : llp rows start n p z = (z.1, z.2 + 1) := by
  cases n with
  | zero => rfl
  | succ n =>
    unfold llp
    rw [if_pos (by omega)]
structure Grow (z w : LZ) : Prop where
  le : z.2 ≤ w.2
  ext : ∃ q, w.1 = z.1 ++ q ∧ q.length + 2 * z.2 ≤ 2 * w.2
theorem fold_grow {rows : List Row} {start : Nat} {rec : List Nat → LZ → LZ} {p : List Nat} (hr : ∀ p z, Grow z (rec p z)) : ∀ (L : List Nat) (z : LZ), z.2 ≤ (L.foldl (intoF rows start rec p) z).2 ∧ ∃ q, (L.foldl (intoF rows start rec p) z).1 = z.1 ++ q ∧ q.length + 2 * z.2 ≤ 2 * (L.foldl (intoF rows start rec p) z).2 + L.length
  | [], z => ⟨Nat.le_refl _, [], by simp, by simp⟩
  | o :: L, z => by
    rw [List.foldl_cons, List.length_cons]
    obtain ⟨h1, q, h2, h3⟩ := fold_grow hr L (intoF rows start rec p z o)
    by_cases e : o = start
    · have ei : intoF rows start rec p z o = (z.1 ++ [p], z.2) := by unfold intoF; rw [if_pos e]
      rw [ei] at h1 h2 h3 ⊢
      exact ⟨h1, [p] ++ q, by rw [h2, List.append_assoc], by rw [List.length_append]; show 1 + q.length + _ ≤ _; omega⟩
    by_cases e2 : start < o ∧ o ∉ p
    · have ei : intoF rows start rec p z o = rec (p ++ [o]) z := by unfold intoF; rw [if_neg e, if_pos e2]
      obtain ⟨g1, q1, g2, g3⟩ := hr (p ++ [o]) z
      rw [ei] at h1 h2 h3 ⊢
      exact ⟨Nat.le_trans g1 h1, q1 ++ q, by rw [h2, g2, List.append_assoc], by rw [List.length_append]; omega⟩
    · have ei : intoF rows start rec p z o = z := by unfold intoF; rw [if_neg e, if_neg e2]
      rw [ei] at h1 h2 h3 ⊢
      exact ⟨h1, q, h2, by omega⟩
theorem llp_grow {rows : List Row} {start : Nat} : ∀ (n : Nat) (p : List Nat) (z : LZ), Grow z (llp rows start n p z) ∧ z.2 < (llp rows start n p z).2
  | 0, p, z => ⟨⟨by unfold llp; show z.2 ≤ z.2 + 1; omega, [], by unfold llp; simp, by unfold llp; show 0 + 2 * z.2 ≤ 2 * (z.2 + 1); omega⟩, by unfold llp; exact Nat.lt_succ_self _⟩
  | n + 1, p, z => by
    unfold llp
    by_cases h : 3000 < z.2 + 1
    · rw [if_pos h]
      exact ⟨⟨by show z.2 ≤ z.2 + 1; omega, [], by simp, by show 0 + 2 * z.2 ≤ 2 * (z.2 + 1); omega⟩, Nat.lt_succ_self _⟩
    · rw [if_neg h]
      obtain ⟨h1, q, h2, h3⟩ := fold_grow (rows := rows) (start := start) (rec := llp rows start n) (p := p) (fun p z => (llp_grow n p z).1) (tgt (rows.getD (p.getLastD 0) .stop)) (z.1, z.2 + 1)
      have tl := tgt_len (rows.getD (p.getLastD 0) .stop)
      dsimp only at h1 h2 h3
      exact ⟨⟨by omega, q, h2, by omega⟩, by omega⟩
theorem fold_max {rows : List Row} {start B : Nat} {rec : List Nat → LZ → LZ} {p : List Nat} (ho : ∀ p z, 3000 ≤ z.2 → rec p z = (z.1, z.2 + 1)) (hr : ∀ p z, (rec p z).2 ≤ max z.2 3000 + B) : ∀ (L : List Nat) (z : LZ), (L.foldl (intoF rows start rec p) z).2 ≤ max z.2 3000 + B + L.length
  | [], z => by show z.2 ≤ _; omega
  | o :: L, z => by
    rw [List.foldl_cons, List.length_cons]
    have h1 := fold_max (rows := rows) (start := start) (p := p) ho hr L (intoF rows start rec p z o)
    by_cases e : o = start
    · have ei : intoF rows start rec p z o = (z.1 ++ [p], z.2) := by unfold intoF; rw [if_pos e]
      rw [ei] at h1 ⊢
      dsimp only at h1
      omega
    by_cases e2 : start < o ∧ o ∉ p
    · have ei : intoF rows start rec p z o = rec (p ++ [o]) z := by unfold intoF; rw [if_neg e, if_pos e2]
      rw [ei] at h1 ⊢
      by_cases hz : 3000 ≤ z.2
      · rw [ho _ _ hz] at h1 ⊢
        dsimp only at h1
        omega
      · have h2 := hr (p ++ [o]) z
        by_cases hz2 : 3000 ≤ (rec (p ++ [o]) z).2
        · have over : ∀ (L : List Nat) (w : LZ), 3000 ≤ w.2 → (L.foldl (intoF rows start rec p) w).2 ≤ w.2 + L.length := by
            intro L
            induction L with
            | nil => intro w _; exact Nat.le_refl _
            | cons o L ih =>
              intro w hw
              rw [List.foldl_cons, List.length_cons]
              have h3 : (intoF rows start rec p w o).2 ≤ w.2 + 1 ∧ w.2 ≤ (intoF rows start rec p w o).2 := by
                unfold intoF
                split
                · exact ⟨by show w.2 ≤ w.2 + 1; omega, Nat.le_refl _⟩
                · split
                  · rw [ho _ _ hw]
                    exact ⟨Nat.le_refl _, by show w.2 ≤ w.2 + 1; omega⟩
                  · exact ⟨by omega, Nat.le_refl _⟩
              have := ih (intoF rows start rec p w o) (by omega)
              omega
          have := over L (rec (p ++ [o]) z) hz2
          omega
        · omega
    · have ei : intoF rows start rec p z o = z := by unfold intoF; rw [if_neg e, if_neg e2]
      rw [ei] at h1 ⊢
      omega
theorem llp_max {rows : List Row} {start : Nat} : ∀ (n : Nat) (p : List Nat) (z : LZ), (llp rows start n p z).2 ≤ max z.2 3000 + (2 * n + 1)
  | 0, p, z => by unfold llp; show z.2 + 1 ≤ _; omega
  | n + 1, p, z => by
    unfold llp
    by_cases h : 3000 < z.2 + 1
    · rw [if_pos h]
      show z.2 + 1 ≤ _
      omega
    · rw [if_neg h]
      have h1 := fold_max (rows := rows) (start := start) (rec := llp rows start n) (p := p) (B := 2 * n + 1) (fun p z hz => llp_over hz) (fun p z => llp_max n p z) (tgt (rows.getD (p.getLastD 0) .stop)) (z.1, z.2 + 1)
      have tl := tgt_len (rows.getD (p.getLastD 0) .stop)
      dsimp only at h1
      omega
theorem tgt_nodup (r : Row) : (tgt r).Nodup := by
  cases r with
  | test a b =>
    rw [tgt_test]
    by_cases h : a = b
    · rw [if_pos h]; simp
    · rw [if_neg h]
      by_cases h2 : a < b
      · rw [if_pos h2]; simp [h]
      · rw [if_neg h2]; simp [Ne.symm h]
  | load x y => simp [tgt, nx]
  | add x y => simp [tgt, nx]
  | take x y => simp [tgt, nx]
  | store x y => simp [tgt, nx]
  | say x => simp [tgt, nx]
  | stop => simp [tgt, nx]
theorem fold_tree {rows : List Row} {start : Nat} {rec : List Nat → LZ → LZ} {p : List Nat} (hg : ∀ p z, Grow z (rec p z))
    (hr : ∀ o z, start < o → o ∉ p → o ∈ tgt (rows.getD (p.getLastD 0) .stop) → (z.2 + (tr rows start (p ++ [o])).length ≤ 3000 → ∃ q, rec (p ++ [o]) z = (z.1 ++ q, z.2 + (tr rows start (p ++ [o])).length) ∧ q.Perm ((tr rows start (p ++ [o])).filter (hitF rows start))) ∧ (3000 < z.2 + (tr rows start (p ++ [o])).length → 3000 < (rec (p ++ [o]) z).2)) :
    ∀ (L : List Nat) (z : LZ), L.Nodup → (∀ o ∈ L, o ∈ tgt (rows.getD (p.getLastD 0) .stop)) → 
      (z.2 + (((L.filter fun t => decide (start < t) && decide (t ∉ p)).map fun t => p ++ [t]).flatMap (tr rows start)).length ≤ 3000 → ∃ q, L.foldl (intoF rows start rec p) z = (z.1 ++ q, z.2 + (((L.filter fun t => decide (start < t) && decide (t ∉ p)).map fun t => p ++ [t]).flatMap (tr rows start)).length) ∧
        q.Perm ((if start ∈ L then [p] else []) ++ (((L.filter fun t => decide (start < t) && decide (t ∉ p)).map fun t => p ++ [t]).flatMap (tr rows start)).filter (hitF rows start))) ∧
      (3000 < z.2 + (((L.filter fun t => decide (start < t) && decide (t ∉ p)).map fun t => p ++ [t]).flatMap (tr rows start)).length → 3000 < (L.foldl (intoF rows start rec p) z).2)
  | [], z, _, _ => ⟨fun _ => ⟨[], by simp, by simp⟩, fun h => by simpa using h⟩
  | o :: L, z, nd, hm => by
    obtain ⟨n1, n2⟩ := List.nodup_cons.mp nd
    rw [List.foldl_cons]
    have ih := fold_tree hg hr L (intoF rows start rec p z o) n2 fun x hx => hm x (List.mem_cons_of_mem _ hx)
    by_cases e : o = start
    · have ei : intoF rows start rec p z o = (z.1 ++ [p], z.2) := by unfold intoF; rw [if_pos e]
      have ef : (o :: L).filter (fun t => decide (start < t) && decide (t ∉ p)) = L.filter (fun t => decide (start < t) && decide (t ∉ p)) := List.filter_cons_of_neg (by rw [e]; simp)
      rw [ei] at ih ⊢
      rw [ef]
      obtain ⟨i1, i2⟩ := ih
      refine ⟨fun h => ?_, i2⟩
      obtain ⟨q, h1, h2⟩ := i1 h
      have ns : start ∉ L := fun z => n1 (by rw [e]; exact z)
      rw [if_neg ns] at h2
      refine ⟨p :: q, by rw [h1]; simp, ?_⟩
      rw [if_pos (by rw [e]; exact List.mem_cons_self)]
      exact h2.cons p
    have mem : (start ∈ o :: L) ↔ start ∈ L := ⟨fun h => (List.mem_cons.mp h).elim (fun q => absurd q.symm e) id, List.mem_cons_of_mem _⟩
    by_cases e2 : start < o ∧ o ∉ p
    · have ei : intoF rows start rec p z o = rec (p ++ [o]) z := by unfold intoF; rw [if_neg e, if_pos e2]
      have ef : (o :: L).filter (fun t => decide (start < t) && decide (t ∉ p)) = o :: L.filter (fun t => decide (start < t) && decide (t ∉ p)) := List.filter_cons_of_pos (by rw [decide_eq_true e2.1, decide_eq_true e2.2]; rfl)
      rw [ei] at ih ⊢
      rw [ef, List.map_cons, List.flatMap_cons, List.length_append]
      obtain ⟨i1, i2⟩ := ih
      obtain ⟨r1, r2⟩ := hr o z e2.1 e2.2 (hm o List.mem_cons_self)
      by_cases hz : z.2 + (tr rows start (p ++ [o])).length ≤ 3000
      · obtain ⟨q0, g1, g2⟩ := r1 hz
        rw [g1] at i1 i2 ⊢
        dsimp only at i1 i2 ⊢
        refine ⟨fun h => ?_, fun h => i2 (by omega)⟩
        obtain ⟨q, h1, h2⟩ := i1 (by omega)
        refine ⟨q0 ++ q, by rw [h1, List.append_assoc, Nat.add_assoc], ?_⟩
        rw [List.filter_append]
        refine (g2.append h2).trans ?_
        have : (if start ∈ o :: L then [p] else []) = (if start ∈ L then [p] else ([] : List (List Nat))) := by
          by_cases c : start ∈ L
          · rw [if_pos c, if_pos (mem.mpr c)]
          · rw [if_neg c, if_neg fun z => c (mem.mp z)]
        rw [this, ← List.append_assoc, ← List.append_assoc]
        exact List.perm_append_comm.append_right _
      · have h3 := r2 (by omega)
        have h4 := (fold_grow (rows := rows) (start := start) (p := p) hg L (rec (p ++ [o]) z)).1
        exact ⟨fun h => by omega, fun _ => by omega⟩
    · have ei : intoF rows start rec p z o = z := by unfold intoF; rw [if_neg e, if_neg e2]
      have ef : (o :: L).filter (fun t => decide (start < t) && decide (t ∉ p)) = L.filter (fun t => decide (start < t) && decide (t ∉ p)) := List.filter_cons_of_neg (by
        intro h
        obtain ⟨h1, h2⟩ := Bool.and_eq_true_iff.mp h
        exact e2 ⟨of_decide_eq_true h1, of_decide_eq_true h2⟩)
      have : (if start ∈ o :: L then [p] else []) = (if start ∈ L then [p] else ([] : List (List Nat))) := by
        by_cases c : start ∈ L
        · rw [if_pos c, if_pos (mem.mpr c)]
        · rw [if_neg c, if_neg fun z => c (mem.mp z)]
      rw [ei] at ih ⊢
      rw [ef, this]
      exact ih
theorem llp_tree {rows : List Row} (g : Goes2 rows) {start : Nat} : ∀ (n : Nat) (p : List Nat) (z : LZ), Str_ rows.length p → rows.length + 1 ≤ n + p.length →
    (z.2 + (tr rows start p).length ≤ 3000 → ∃ q, llp rows start n p z = (z.1 ++ q, z.2 + (tr rows start p).length) ∧ q.Perm ((tr rows start p).filter (hitF rows start))) ∧ (3000 < z.2 + (tr rows start p).length → 3000 < (llp rows start n p z).2)
  | 0, p, z, hp, hn => by
    have := hp.len
    omega
  | n + 1, p, z, hp, hn => by
    have et := tr_eq g (start := start) hp
    have el : (tr rows start p).length = 1 + ((stepsOf rows start p).flatMap (tr rows start)).length := by rw [et, List.length_cons, Nat.add_comm]
    unfold llp
    by_cases h : 3000 < z.2 + 1
    · rw [if_pos h]
      exact ⟨fun q => by omega, fun _ => h⟩
    · rw [if_neg h]
      obtain ⟨i1, i2⟩ := fold_tree (rows := rows) (start := start) (rec := llp rows start n) (p := p) (fun p z => (llp_grow n p z).1) (fun o z h1 h2 h3 => by
        have hs : p ++ [o] ∈ stepsOf rows start p := List.mem_map.mpr ⟨o, List.mem_filter.mpr ⟨h3, by rw [decide_eq_true h1, decide_eq_true h2]; rfl⟩, rfl⟩
        obtain ⟨s1, s2⟩ := hp.step g hs
        exact llp_tree g n (p ++ [o]) z s1 (by omega)) (tgt (rows.getD (p.getLastD 0) .stop)) (z.1, z.2 + 1) (tgt_nodup _) fun o ho => ho
      have es : ((tgt (rows.getD (p.getLastD 0) .stop)).filter fun t => decide (start < t) && decide (t ∉ p)).map (fun t => p ++ [t]) = stepsOf rows start p := rfl
      rw [es] at i1 i2
      dsimp only at i1 i2
      refine ⟨fun hk => ?_, fun hk => i2 (by omega)⟩
      obtain ⟨q, h1, h2⟩ := i1 (by omega)
      refine ⟨q, by rw [h1, el, Nat.add_assoc], h2.trans ?_⟩
      rw [et]
      by_cases hit : start ∈ tgt (rows.getD (p.getLastD 0) .stop)
      · rw [if_pos hit, List.filter_cons_of_pos (show hitF rows start p = true from decide_eq_true hit)]
        exact .refl _
      · rw [if_neg hit, List.filter_cons_of_neg (by show ¬ hitF rows start p = true; unfold hitF; rw [decide_eq_false hit]; decide)]
        exact .refl _
def lawAll (rows : List Row) (ss : List Nat) (z : LZ) : LZ := ss.foldl (fun z b => llp rows b 41 [b] z) z
theorem lawAll_grow {rows : List Row} : ∀ (ss : List Nat) (z : LZ), Grow z (lawAll rows ss z)
  | [], z => ⟨Nat.le_refl _, [], by unfold lawAll; simp, by unfold lawAll; simp⟩
  | b :: ss, z => by
    obtain ⟨h1, q, h2, h3⟩ := lawAll_grow ss (llp rows b 41 [b] z)
    obtain ⟨⟨g1, q1, g2, g3⟩, _⟩ := llp_grow (rows := rows) (start := b) 41 [b] z
    exact ⟨Nat.le_trans g1 h1, q1 ++ q, by show (lawAll rows ss (llp rows b 41 [b] z)).1 = _; rw [h2, g2, List.append_assoc], by show _ ≤ 2 * (lawAll rows ss (llp rows b 41 [b] z)).2; rw [List.length_append]; omega⟩
theorem lawAll_max {rows : List Row} : ∀ (ss : List Nat) (z : LZ), (lawAll rows ss z).2 ≤ max z.2 3000 + 83 * ss.length
  | [], z => by show z.2 ≤ _; omega
  | b :: ss, z => by
    have h1 := lawAll_max (rows := rows) ss (llp rows b 41 [b] z)
    have h2 := llp_max (rows := rows) (start := b) 41 [b] z
    show (lawAll rows ss (llp rows b 41 [b] z)).2 ≤ _
    rw [List.length_cons]
    omega
theorem lawAll_tree {rows : List Row} (g : Goes2 rows) (h40 : rows.length ≤ 40) : ∀ (ss : List Nat) (z : LZ), (∀ b ∈ ss, b < rows.length) →
    (z.2 + cntF rows ss ≤ 3000 → ∃ q, lawAll rows ss z = (z.1 ++ q, z.2 + cntF rows ss) ∧ q.Perm (hitsF rows ss)) ∧ (3000 < z.2 + cntF rows ss → 3000 < (lawAll rows ss z).2)
  | [], z, _ => ⟨fun _ => ⟨[], by unfold lawAll cntF; simp, by unfold hitsF; simp⟩, fun h => by unfold cntF at h; simpa [lawAll] using h⟩
  | b :: ss, z, h => by
    have hc : cntF rows (b :: ss) = (tr rows b [b]).length + cntF rows ss := by unfold cntF; rw [List.map_cons, List.sum_cons]
    obtain ⟨i1, i2⟩ := llp_tree g (start := b) 41 [b] z (Str_.one (h b List.mem_cons_self)) (by show rows.length + 1 ≤ 41 + 1; omega)
    have unf : lawAll rows (b :: ss) z = lawAll rows ss (llp rows b 41 [b] z) := rfl
    obtain ⟨j1, j2⟩ := lawAll_tree g h40 ss (llp rows b 41 [b] z) fun x hx => h x (List.mem_cons_of_mem _ hx)
    rw [unf, hc]
    by_cases hz : z.2 + (tr rows b [b]).length ≤ 3000
    · obtain ⟨q, e, p⟩ := i1 hz
      rw [e] at j1 j2 ⊢
      dsimp only at j1 j2 ⊢
      refine ⟨fun hk => ?_, fun hk => j2 (by omega)⟩
      obtain ⟨q2, e2, p2⟩ := j1 (by omega)
      refine ⟨q ++ q2, by rw [e2, List.append_assoc, Nat.add_assoc], ?_⟩
      unfold hitsF
      rw [List.flatMap_cons]
      exact p.append p2
    · have h3 := i2 (by omega)
      have h4 := (lawAll_grow (rows := rows) ss (llp rows b 41 [b] z)).le
      exact ⟨fun hk => by omega, fun _ => by omega⟩
end DL
namespace DL
open PySem PySem.Spec PySem.W L2 DLR
/-! ### what is found is told in one order, however it was found -/
def cInt (l : List Nat) : List Int := l.map fun n : Nat => (n : Int)
theorem le_sortI2 : dataLe false encI = fun a b => decide (cInt a ≤ cInt b) := by
  funext a b
  have h1 : dataLe false encI a b = dataLe false (fun l => .list ((cInt l).map .int)) a b := by
    show (!dataLt (encI b) (encI a)) = (!dataLt (.list ((cInt b).map .int)) (.list ((cInt a).map .int)))
    rw [dataLt_list, show encI b = .tuple ((cInt b).map .int) from rfl, show encI a = .tuple ((cInt a).map .int) from rfl, dataLt_tuple]
  rw [h1, dataLe_rows]
theorem cInt_inj {a b : List Nat} (h : cInt a = cInt b) : a = b := by
  induction a generalizing b with
  | nil => cases b with
    | nil => rfl
    | cons y b => cases h
  | cons x a ih => cases b with
    | nil => cases h
    | cons y b =>
      have h1 : (x : Int) = (y : Int) := (List.cons.inj h).1
      rw [ih (List.cons.inj h).2, show x = y by omega]
theorem perm_le {α : Type} {R : α → α → Prop} (as : ∀ a b, R a b → R b a → a = b) : ∀ {l m : List α}, l.Perm m → l.Pairwise R → m.Pairwise R → l = m
  | [], m, p, _, _ => p.nil_eq
  | a :: l, [], p, _, _ => absurd p.eq_nil (by simp)
  | a :: l, b :: m, p, h, g => by
    obtain ⟨h1, h2⟩ := List.pairwise_cons.mp h
    obtain ⟨g1, g2⟩ := List.pairwise_cons.mp g
    have ha : a ∈ b :: m := p.mem_iff.mp List.mem_cons_self
    have hb : b ∈ a :: l := p.mem_iff.mpr List.mem_cons_self
    have e : a = b := by
      rcases List.mem_cons.mp ha with q | q
      · exact q
      · rcases List.mem_cons.mp hb with r | r
        · exact r.symm
        · exact as a b (h1 b r) (g1 a q)
    subst e
    rw [perm_le as (List.perm_cons a |>.mp p) h2 g2]
theorem sortI2_perm {l m : List (List Nat)} (h : l.Perm m) : sortI2 l = sortI2 m := by
  have tr : ∀ a b c : List Nat, (fun a b => decide (cInt a ≤ cInt b)) a b = true → (fun a b => decide (cInt a ≤ cInt b)) b c = true → (fun a b => decide (cInt a ≤ cInt b)) a c = true := fun a b c h1 h2 =>
    decide_eq_true (List.le_trans (of_decide_eq_true h1) (of_decide_eq_true h2))
  have to : ∀ a b : List Nat, ((fun a b => decide (cInt a ≤ cInt b)) a b || (fun a b => decide (cInt a ≤ cInt b)) b a) = true := fun a b => by
    rcases List.le_total (cInt a) (cInt b) with q | q
    · rw [show (fun a b => decide (cInt a ≤ cInt b)) a b = true from decide_eq_true q]; rfl
    · rw [show (fun a b => decide (cInt a ≤ cInt b)) b a = true from decide_eq_true q, Bool.or_true]
  unfold sortI2
  rw [le_sortI2]
  refine perm_le (R := fun a b => decide (cInt a ≤ cInt b) = true) (fun a b h1 h2 => ?_) (((List.mergeSort_perm l _).trans h).trans (List.mergeSort_perm m _).symm) (List.pairwise_mergeSort tr to l) (List.pairwise_mergeSort tr to m)
  exact cInt_inj (List.le_antisymm (of_decide_eq_true h1) (of_decide_eq_true h2))
theorem law_loops {rows : List Row} (g : Goes2 rows) (h40 : rows.length ≤ 40) :
    ((3000 < (lawAll rows (List.range rows.length) ([], 0)).2 ∨ 100 < (lawAll rows (List.range rows.length) ([], 0)).1.length) → loopsF rows = none) ∧
    (¬ (3000 < (lawAll rows (List.range rows.length) ([], 0)).2 ∨ 100 < (lawAll rows (List.range rows.length) ([], 0)).1.length) → loopsF rows = some (sortI2 (lawAll rows (List.range rows.length) ([], 0)).1)) := by
  have hb : ∀ b ∈ List.range rows.length, b < rows.length := fun b h => List.mem_range.mp h
  obtain ⟨a1, a2⟩ := lawAll_tree g h40 (List.range rows.length) ([], 0) hb
  obtain ⟨d1, d2⟩ := dfsAll_tree g (List.range rows.length) 3000 [] hb
  by_cases hc : cntF rows (List.range rows.length) ≤ 3000
  · obtain ⟨q, e, p⟩ := a1 (by show 0 + _ ≤ _; omega)
    obtain ⟨q2, e2, p2⟩ := d1 hc
    have pq : q2.Perm q := p2.trans p.symm
    have el : loopsF rows = if 100 < q2.length then none else some (sortI2 q2) := by
      unfold loopsF
      rw [e2]
      rfl
    rw [e, el, pq.length_eq]
    refine ⟨fun h => ?_, fun h => ?_⟩
    · rcases h with h | h
      · have h : 3000 < 0 + cntF rows (List.range rows.length) := h
        omega
      · rw [if_pos (by simpa using h)]
    · have h2 : ¬ 100 < q.length := fun z => h (.inr (by simpa using z))
      rw [if_neg h2, sortI2_perm pq]
      rfl
  · have h1 := a2 (by show 3000 < 0 + _; omega)
    have el : loopsF rows = none := by
      unfold loopsF
      rw [d2 (by omega)]
    exact ⟨fun _ => el, fun h => absurd (.inl h1) h⟩
theorem hits_str {rows : List Row} (g : Goes2 rows) {start : Nat} : ∀ (k : Nat) (s : List Nat), Str_ rows.length s → ∀ u ∈ treeF rows start k s, Str_ rows.length u
  | 0, s, h, u, hu => by
    rw [List.mem_singleton.mp (show u ∈ [s] from hu)]
    exact h
  | k + 1, s, h, u, hu => by
    rcases List.mem_cons.mp (show u ∈ s :: (stepsOf rows start s).flatMap (treeF rows start k) from hu) with rfl | q
    · exact h
    · obtain ⟨v, hv, hu⟩ := List.mem_flatMap.mp q
      exact hits_str g k v (h.step g hv).1 u hu
theorem goes2_of {p : Prog} (g : Good p) : Goes2 p.rows := fun r hr t ht => tgt_ltP (g.ok r hr) t ht
end DL
namespace DLR
open PySem PySem.Spec PyProof.Rows L2 LamX
section
variable {X : Cx}
def tLamB (X : Cx) (k i : Nat) (σ0 : L2.St) : TE := fun σZ HZ Q => ∃ (f c' : Addr) (o : Obj) (scope : Scope) (dT : Option Addr) (t : XK → TE), σZ[i]? = some (some (.ref f)) ∧ HZ c' = some (CodeO c' (X.env.qual ++ "<lambda>")) ∧ LamN X.N X.env.scope scope ∧
  LamP X.prog X.w X.K X.mg X.base X.N (X.env.qual ++ "<lambda>") (cloFrom X.env.cells scope.names []) scope o c' dT k t ∧ HZ f = some (LamO f o) ∧ DvAt HZ dT ∧ t (fun _ _ _ => False) σ0 HZ Q
theorem pe_lamB {sb : Shared} {Hb : Hp} {bs : Scope} {ce : Env} {fp : List Addr} {pins0 : List (Addr × Obj)} {σ0 : L2.St} {a : Str} {k i : Nat} {p1 p2 : Pos}
    (I0 : Inv X pins0 σ0 Hb sb) (hfp : ∀ b ∈ fp, FpOk X pins0 Hb b) (hr : Room (k + 1) X.A) (hN : X.N[i]? = some a) (hv : Vis (X.blk sb Hb bs ce fp).env.scope a) (hd : (a == ("__debug__" : Str)) = false := by decide) (hcd : (a == ("__classdict__" : Str)) = false := by decide) :
    PE (X.blk sb Hb bs ce fp) (.Call (.Name a p1) [] [] p2) (tLamB X k i σ0) := by
  refine ⟨fun pinsZ sZ σZ HZ Q IZ hz => ?_⟩
  obtain ⟨f, c', o, scope, dT, t, h1, h2, L, LP, h3, h4, ht⟩ := hz
  obtain ⟨lco, lgen, lcells, lkind, params, body, doc, pm, ctv, rfl, hB, hbody⟩ := LP
  refine wpAny_Call_Name_kw (thn ((pe_var (X := X.blk sb Hb bs ce fp) (pos := p1) (i := i) hN hv hd hcd).run pinsZ sZ σZ HZ (fun v H1 => v = .ref f ∧ H1 = HZ) IZ ⟨.ref f, h1, rfl, rfl⟩) fun u s1 hu => ?_)
  obtain ⟨v, H1, I1, r1, rfl, rfl⟩ := hu
  cases r1
  obtain ⟨fo, _, _⟩ := I1.hok f _ h3
  obtain ⟨⟨oc, vs, tq, hoc, hdc, hvc⟩, _, _⟩ := I1.hok c' _ h2
  have C1 : CloAt X.N (cloFrom X.env.cells scope.names []) scope σ0 H1 s1.heap := (CloAt.here I0 L).unX I1.base fun y c e m => (hfp c m).2.2.2.2.1 y c (clo_cells (L.has I0.ok) e) rfl
  obtain ⟨binds, b1, b2⟩ := lam_binds (s := s1) (cl := cloFrom X.env.cells scope.names []) (doc := doc) (pm := pm) (cdv := .ref c') (ct := ctv) hB h4 I1.hok
  refine PySem.W.callWith_F0 ⟨_, _, _, _, fo⟩ (wpAny_call (codeAny_mono (R := CR (L2.CX X.prog X.w) (X.blk sb Hb bs ce fp).stack X.prog X.w H1 s1 Q (fun _ _ _ => False)) ?_ fun r s' hq => ?_))
  · refine PySem.W.kla_callFunE hr.depth fo rfl lco lgen rfl ⟨c', oc, vs, tq, rfl, hoc, hdc, hvc⟩ (b2 _ _ _ _ (wpAny_newFunctionEnv lcells b1 (fun h₁ hns hsb => ⟨I1.nolimit.fresh _ hsb, ?_⟩) lkind))
    have kp : ∀ b o, s1.heap.get? b = some o → h₁.get? b = some o := fun b o e => hsb.extBut b o (Nat.ne_of_lt (Heap.lt_size e)) (Heap.get?_push_of_some _ e)
    have J := lam_enter (q := X.env.qual ++ "<lambda>") (E := fun _ _ _ => False) (f := f) (c' := c') (tk := s1.toks + binds.length) C1 I1.env0 hr.hd hns kp
    have run := (hbody _ _ s1 H1 (fun _ _ _ => False) f (hr.deeper _)).run [] _ _ H1 Q J ht
    exact PySem.W.kla_codeExpr (wpAny_mono run (fun v s' ⟨w', H', J', rv, hq⟩ => ⟨w', H', J'.os, J'.bare, J'.base, J'.hok, rv, hq⟩) fun e s' hq => hq)
  · cases r with
    | error e =>
      obtain ⟨_, _, _, _, _, _, _, _, _, _, _, _, hE⟩ := hq
      exact hE.elim
    | ok fl =>
      cases fl with
      | ret u => exact I1.after hq
      | next => exact hq.elim
      | brk => exact hq.elim
      | cont => exact hq.elim
theorem lcE_core {pins : List (Addr × Obj)} {s : Shared} {σ : L2.St} {H : Hp} {Q : VK} {elt tg iter : Expr} {scope : Scope} {own : List (Str × Nat)} {pos pos' : Pos} {wi : TI} {g : TG} {te : L2.St → TE} {use : Option (Value → Sem Unit)} {Qf : Value → Shared → Prop} (calm : X.calm = true) (nd : X.N.Nodup) (I0 : Inv X pins σ H s) (src : PI X tg iter wi) (blk : BlkOk X.N X.env.scope scope own)
    (Gt : ∀ (s : Shared) (H : Hp) (C : Addr) (cl : List (Str × Addr)) (fp : List Addr), PG (X.blk s H scope (compEnvC scope cl C X.env) fp) tg g)
    (Et : ∀ (pins : List (Addr × Obj)) (σ : L2.St) (s : Shared) (H : Hp) (C : Addr) (cl : List (Str × Addr)) (fp : List Addr), Inv X pins σ H s → (∀ b ∈ fp, FpOk X pins H b) → PE (X.blk s H scope (compEnvC scope cl C X.env) fp) elt (te σ)) (fold : ∀ x, foldedSetIterable iter X.env x = pure x)
    (rd : tLc wi g tYes (te σ) (own.map (·.2)) σ H Q)
    (hRR : ∀ dd C s' m H', Inv X pins σ H' s' → Q (.ref dd) H' → s'.heap.Ns C m → FpOk X pins H' C → compPost (model X.prog X.w) X.A X.xe use Qf (.ref dd) C (.ok .next) s') :
    wpAny (model X.prog X.w) X.A (comprehension (.ListComp elt [⟨tg, iter, [], 0⟩] scope pos) scope X.env pos' (newList []) false (eval iter X.env) use) Qf X.xe s := by
  have caps : ∀ y ∈ scope.names, y.2 = .free → ∃ c, X.env.cells.lookup y.1 = some c := fun y hy e => (blk.free y hy e).elim (fun k => I0.ok.has _ (.inl k)) fun k => I0.ok.has _ (.inr k)
  refine wpAny_comprehension_free (use := use) rfl fold (closure_ok caps) blk.kind (fun y hy e => by rw [blk.uniq y hy, e]) (thn (src.run pins s σ H _ I0 rd) fun _ _ got => thn got fun _ sI start => ?_)
  obtain ⟨it, fp, tn, J, HI, rfl, II, T, stI, fpI, q⟩ := start
  refine wpAny_newObj_type (newEnv_comp ?_) (Nat.zero_le _)
  have nD : HI sI.heap.objs.size = none := II.hok.fresh (Nat.le_refl _)
  obtain ⟨W, ⟨m0, w0⟩, turn⟩ := q _ nD
  obtain ⟨sL, eL⟩ : ∃ sL : Shared, sL = { sI with heap := sI.heap.push { cls := .type "list", data := .seq ([] : List Value).toArray } } := ⟨_, rfl⟩
  obtain ⟨HL, eH⟩ : ∃ HL : Hp, HL = upd HI sI.heap.objs.size (.lst []) := ⟨_, rfl⟩
  have IL : Inv X pins σ HL sL := by
    rw [eL, eH]
    exact II.laid (t' := sI.toks) (fun b o e => Heap.get?_push_of_some _ e) (Nat.le_refl _) ⟨Nat.zero_le _, [], 0, .nil, Heap.get?_push_size _ rfl⟩
  have keepL : ∀ b o, sI.heap.get? b = some o → sL.heap.get? b = some o := fun b o e => by rw [eL]; exact Heap.get?_push_of_some _ e
  have fpL : ∀ b ∈ fp, FpOk X pins HL b ∧ b < sL.heap.objs.size := fun b hb => by
    obtain ⟨o, e, _⟩ := T.obj _ _ stI b hb
    refine ⟨⟨?_, (fpI b hb).2⟩, Heap.lt_size (keepL b o e)⟩
    rw [eH, upd_ne (Nat.ne_of_lt (Heap.lt_size e))]
    exact (fpI b hb).1
  have IB := block_start IL blk nd fpL
  obtain ⟨cl, ecl⟩ : ∃ cl, cl = cellsFrom (sL.heap.objs.size + 1) scope.names (cloFrom X.env.cells scope.names []) := ⟨_, rfl⟩
  have PGb := Gt sL HL sL.heap.objs.size cl fp
  have PEb := Et pins σ sL HL sL.heap.objs.size cl fp IL fun b hb => (fpL b hb).1
  rw [ecl] at PGb PEb
  rw [← eL]
  rw [← eH] at w0
  show codeAny _ _ (.compStart _ 0 (.ref it) (.ref sI.heap.objs.size) (compEnvC scope (cellsFrom (sL.heap.objs.size + 1) scope.names (cloFrom X.env.cells scope.names [])) sL.heap.objs.size X.env)) (compPost (model X.prog X.w) X.A X.xe use Qf (.ref sI.heap.objs.size) sL.heap.objs.size) { sL with heap := pushCells (sL.heap.push { cls := .type "dict", data := .dict #[] }) scope.names }
  obtain ⟨ce, ece⟩ : ∃ ce, ce = compEnvC scope (cellsFrom (sL.heap.objs.size + 1) scope.names (cloFrom X.env.cells scope.names [])) sL.heap.objs.size X.env := ⟨_, rfl⟩
  have eloc : ce.locals = sL.heap.objs.size := by rw [ece]; rfl
  rw [← ece] at IB PGb PEb ⊢
  obtain ⟨sB, eB⟩ : ∃ sB : Shared, sB = { sL with heap := pushCells (sL.heap.push { cls := .type "dict", data := .dict #[] }) scope.names } := ⟨_, rfl⟩
  rw [← eB] at IB ⊢
  have stB : tn 0 sB.heap := T.keep _ _ _ stI fun b _ o e => by rw [eB]; exact pushCells_keeps _ _ _ _ (Heap.get?_push_of_some _ (keepL b o e))
  have fpB : ∀ {σ' : L2.St} {H' : Hp} {s' : Shared}, Inv (X.blk sL HL scope ce fp) [] σ' H' s' → (∀ b ∈ fp, H' b = none) → ∀ b ∈ fp, FpOk (X.blk sL HL scope ce fp) [] H' b := fun I' n b hb =>
    ⟨n b hb, (I'.ok.exf b hb).1, I'.ok.exfs b hb, .inl hb, fun x c e => (I'.ok.exf b hb).2 x c e, fun p hp => absurd (show p ∈ ([] : List (Addr × Obj)) ++ [] from hp) (by simp)⟩
  refine codeAny_compStart_list ?_ (T.self X.A 0 _ _ _ stB ?_)
  all_goals
    refine compLoop_any (fun n s' => ∃ i H', Inv (X.blk sL HL scope ce fp) [] (wipe σ (own.map (·.2))) H' s' ∧ tn i s'.heap ∧ (∀ b ∈ fp, H' b = none) ∧ W i n H') ?_ m0 ⟨0, HL, IB, stB, fun b hb => (fpL b hb).1.1, w0⟩
    rintro n s1 ⟨i, H1, I1, st1, n1, w1⟩
    rcases turn i n H1 w1 with ⟨stop, fin⟩ | ⟨go, Nx, hNx, step⟩
    · refine thnF (T.done (X.blk sL HL scope ce fp) rfl rfl rfl calm i [] s1 _ H1 (fun _ _ => False) I1 (fpB I1 n1) st1 stop) fun r s2 ⟨hr, I2⟩ => ?_
      subst hr
      have I3 : Inv X pins σ H1 s2 := IL.call' (ch := fp) I2.os I2.base I2.hok I2.bare fun b hb => ⟨(fpL b hb).1.2.2.2.1, (fpL b hb).1.2.1, (fpL b hb).1.2.2.2.2.1, (fpL b hb).1.2.2.2.2.2⟩
      obtain ⟨m, ns, _⟩ := I2.loc
      have free := I2.free
      rw [show (X.blk sL HL scope ce fp).env.locals = sL.heap.objs.size from eloc] at ns free
      have n0 : FpOk X pins H1 sL.heap.objs.size := by
        obtain ⟨g0, g1, g2, g3, g4, g5⟩ := IL.fpOk (Nat.le_refl _) free
        exact ⟨g0, g1, g2, g3, g4, g5⟩
      exact hRR _ _ s2 m H1 I3 fin ns n0
    · refine thnF (T.item (X.blk sL HL scope ce fp) rfl rfl rfl calm i [] s1 _ H1 (fun _ _ => False) I1 (fpB I1 n1) st1 go) fun r s2 ⟨u, hr, more⟩ => ?_
      subst hr
      refine thnF more fun _ s3 ⟨x, H3, I3, r3, y3, st3, n3⟩ => ?_
      refine thnF (PGb.run _ s3 _ H3 x u _ (I3.pinned (fpB I3 n3) (T.obj _ _ st3)) r3 (step x H3 y3)) fun _ s4 ⟨σ4, H4, I4, wp4, q4⟩ => ?_
      refine thnF ((pts_nil (X := X.blk sL HL scope ce fp)).run _ s4 σ4 H4 _ I4 q4) fun b s5 ⟨H5, I5, q5⟩ => ?_
      have on : ∀ {s' : Shared} {H' : Hp}, Inv (X.blk sL HL scope ce fp) ([] ++ pinsAt fp s3.heap) σ4 H' s' → Nx H' → ∃ m, m < n ∧ ∃ i H', Inv (X.blk sL HL scope ce fp) [] (wipe σ (own.map (·.2))) H' s' ∧ tn i s'.heap ∧ (∀ b ∈ fp, H' b = none) ∧ W i m H' := fun I' nx => by
        obtain ⟨m', lt, w'⟩ := hNx _ nx
        have pin : ∀ b ∈ fp, ∀ o, s3.heap.get? b = some o → _ := fun b hb o e => I'.pin (b, o) (List.mem_append_right _ (List.mem_append_right _ (mem_pinsAt hb e)))
        refine ⟨m', lt, i + 1, _, (I'.unpinned (pins := [])).weak (by rw [← wp4, wipe_length]) (fun j v e => ?_), T.keep _ _ _ st3 fun b hb o e => (pin b hb o e).1, fun b hb => ?_, w'⟩
        · rw [← wp4] at e
          exact (wipe_some e).1
        · obtain ⟨o, e, _⟩ := T.obj _ _ st3 b hb
          exact (pin b hb o e).2.1
      by_cases hb : b = true
      · subst hb
        rw [if_pos rfl] at q5 ⊢
        refine thnF (PEb.run _ s5 σ4 H5 _ I5 q5) fun z s6 ⟨v6, H6, I6, r6, acc, hD, hz, nx⟩ => ?_
        exact app_ok (X := X.blk sL HL scope ce fp) I6 hD hz r6 fun s7 I7 => on I7 nx
      · dsimp only at q5 ⊢
        rw [if_neg hb] at q5 ⊢
        exact on I5 q5
theorem pe_lcE {elt tg iter : Expr} {scope : Scope} {own : List (Str × Nat)} {pos : Pos} {wi : TI} {g : TG} {te : L2.St → TE} (calm : X.calm = true) (nd : X.N.Nodup) (src : PI X tg iter wi) (blk : BlkOk X.N X.env.scope scope own)
    (Gt : ∀ (s : Shared) (H : Hp) (C : Addr) (cl : List (Str × Addr)) (fp : List Addr), PG (X.blk s H scope (compEnvC scope cl C X.env) fp) tg g)
    (Et : ∀ (pins : List (Addr × Obj)) (σ : L2.St) (s : Shared) (H : Hp) (C : Addr) (cl : List (Str × Addr)) (fp : List Addr), Inv X pins σ H s → (∀ b ∈ fp, FpOk X pins H b) → PE (X.blk s H scope (compEnvC scope cl C X.env) fp) elt (te σ)) (fold : ∀ x, foldedSetIterable iter X.env x = pure x := by intro _; rfl) :
    PE X (.ListComp elt [⟨tg, iter, [], 0⟩] scope pos) (fun σ H Q => tLc wi g tYes (te σ) (own.map (·.2)) σ H Q) := by
  refine ⟨fun pins s σ H Q I rd => ?_⟩
  rw [eval_ListComp]
  refine lcE_core calm nd I src blk Gt Et fold rd fun dd C s' m H' I' q hn f => ⟨m, hn, fun h'' sb => ?_⟩
  obtain ⟨f0, f1, f2, f3, f4, f5⟩ := f
  exact ⟨.ref dd, H', I'.turned (t' := s'.toks) (fun b o hb e => (sb.2 b hb).trans e) f0 f1 f3 f4 f5, rfl, q⟩
theorem ps_setLcE {i : Nat} {y : Str} {py : Pos} {elt tg iter : Expr} {scope : Scope} {own : List (Str × Nat)} {pos spos : Pos} {wi : TI} {g : TG} {te : L2.St → TE} (calm : X.calm = true) (nd : X.N.Nodup) (at_ : X.N[i]? = some y) (loc : X.env.scope.names.lookup y = some .local)
    (swap : swapsWith (.ListComp elt [⟨tg, iter, [], 0⟩] scope pos) (some (.Name y py)) spos.line X.env = pure true) (src : PI X tg iter wi) (blk : BlkOk X.N X.env.scope scope own)
    (Gt : ∀ (s : Shared) (H : Hp) (C : Addr) (cl : List (Str × Addr)) (fp : List Addr), PG (X.blk s H scope (compEnvC scope cl C X.env) fp) tg g)
    (Et : ∀ (pins : List (Addr × Obj)) (σ : L2.St) (s : Shared) (H : Hp) (C : Addr) (cl : List (Str × Addr)) (fp : List Addr), Inv X pins σ H s → (∀ b ∈ fp, FpOk X pins H b) → PE (X.blk s H scope (compEnvC scope cl C X.env) fp) elt (te σ)) (fold : ∀ x, foldedSetIterable iter X.env x = pure x := by intro _; rfl) :
    PS X (.Assign [.Name y py] (.ListComp elt [⟨tg, iter, [], 0⟩] scope pos) spos) (tAsg (fun σ H Q => tLc wi g tYes (te σ) (own.map (·.2)) σ H Q) (gName i)) := by
  refine ⟨fun pins s σ H D I rd => ?_⟩
  rw [exec_Assign_Name_used _ _ _ _ swap]
  refine wpAny_bind (wpAny_standAt (wpAny_bind ?_))
  have rd : tLc wi g tYes (te σ) (own.map (·.2)) σ H (fun x H1 => gName i x σ H1 D.nx) := rd
  show wpAny _ X.A (do
    let _ ← comprehension (.ListComp elt [⟨tg, iter, [], 0⟩] scope pos) scope X.env (firstIterPos [⟨tg, iter, [], 0⟩] pos) (newList []) false (eval iter X.env) (some (assign (.Name y py) X.env))) _ _ s
  refine wpAny_bind (thn (lcE_core (Qf := fun _ s' => SP X pins D .next s') calm nd I src blk Gt Et fold rd fun dd C s' m H' I' q hn f => ?_) fun _ s' hq => wpAny_pure (wpAny_pure hq))
  show wpAny _ _ (assign (.Name y py) X.env (.ref dd)) _ _ _
  refine wpAny_assign_Name (store_ok2 (v := V.ref dd) I' nd at_ (.inl loc) rfl (fun s2 I2 ⟨a, sb, ha⟩ => ?_) (.inr loc))
  obtain ⟨f0, f1, f2, f3, f4, f5⟩ := f
  have ne : C ≠ a := by
    rcases ha with z | z
    · rw [z]
      exact f1
    · exact fun e => f4 y a z e.symm
  refine ⟨m, hn.sameBut sb ne, fun h3 sb3 => ?_⟩
  exact ⟨_, H', I2.turned (t' := s2.toks) (fun b o hb e => (sb3.2 b hb).trans e) f0 f1 f3 f4 f5, q⟩
end
end DLR
namespace DL
open PySem PySem.Spec L2 DLR
/-! ### _law_work: the least beats of a row's second half -/
abbrev sLWork : Stmt := top 65
abbrev FLWork (K : Frg) (mg : Str → Option Value) := Fd K mg "_law_work" sLWork ["_law_row"]
def lworkF (r : Row) : Int := (if r.uses = true then 1 else 0) + work r
def workL : List (Key × V) := [(.inr "load", .int 2), (.inr "add", .int 3), (.inr "take", .int 3), (.inr "store", .int 2), (.inr "say", .int 3), (.inr "test", .int 1), (.inr "stop", .int 0)]
theorem workL_at (r : Row) : valV (mergeK [] workL) (.inr r.word) = some (.int (lworkF r)) := by
  cases r with
  | load w n => exact (by decide +kernel : valV (mergeK [] workL) (.inr ("load" : Str)) = some (.int 2))
  | add w n => exact (by decide +kernel : valV (mergeK [] workL) (.inr ("add" : Str)) = some (.int 3))
  | take w n => exact (by decide +kernel : valV (mergeK [] workL) (.inr ("take" : Str)) = some (.int 3))
  | store w n => exact (by decide +kernel : valV (mergeK [] workL) (.inr ("store" : Str)) = some (.int 2))
  | say n => exact (by decide +kernel : valV (mergeK [] workL) (.inr ("say" : Str)) = some (.int 3))
  | test a b => exact (by decide +kernel : valV (mergeK [] workL) (.inr ("test" : Str)) = some (.int 1))
  | stop  => exact (by decide +kernel : valV (mergeK [] workL) (.inr ("stop" : Str)) = some (.int 0))
def spLWork : Sp := fun vs H Q _ => ∃ (a : Addr) (r : Row), vs = [.ref a] ∧ H a = some (.tup (rowVs r)) ∧ ∀ H', Same1 H H' → Q (.int (lworkF r)) H'
section
variable {P : Program} {w : World} {K : PySem.W.Frag} {mg : Str → Option Value} {base : Heap}
theorem scLWork : FnScope ["_law_row","_law_found"] ["_law_row"] (defScope sLWork) := ⟨rfl, rfl, rfl, by decide +kernel, rfl, by decide +kernel, by decide +kernel⟩
theorem ok_lwork (c : FLWork K mg) (T : Bt mg) : FnOk P w K mg base CX0 1 c.f c.fd ["_law_row"] spLWork := by
  refine c.F.ok scLWork (fun vs H Q E h => ?_) (fun cdv A outer s H vs Q E hr h => ?_)
  · obtain ⟨a, r, rfl, _⟩ := h
    rfl
  · obtain ⟨a, r, rfl, ha, k⟩ := h
    refine ⟨_, (pss_cons (ps_set (i := 1) scLWork.nd rfl (Or.inl rfl) (pe_disp (pps_cons pe_str pe_int (pps_cons pe_str pe_int (pps_cons pe_str pe_int (pps_cons pe_str pe_int (pps_cons pe_str pe_int (pps_cons pe_str pe_int (pps_cons pe_str pe_int pps_nil))))))) (by rfl) (by rfl) (fun z => by cases z) (by decide)))
      (pss_one (ps_ret (pe_dget (hu_of hr) (pv 1) (pe_ix ix_tup (pv 0) pe_int (fun _ _ => rfl)) (fun _ _ => rfl))))), ?_⟩
    refine fun c1 hc1 => ?_
    refine ⟨upd_same, workL, rfl, (by show 7 ≤ 15; decide), ?_⟩
    have M1 : Same1 H (upd (upd H c1 (.dK [])) c1 (.dK (mergeK [] workL))) := Same.mut (Same.new hc1) hc1
    have E1 : (upd (upd H c1 (.dK [])) c1 (.dK (mergeK [] workL))) c1 = some (.dK (mergeK [] workL)) := upd_same
    generalize upd (upd H c1 (.dK [])) c1 (.dK (mergeK [] workL)) = H1 at *
    dsimp only [gName]
    refine ⟨_, rfl, _, rfl, a, _, _, _, rfl, rfl, SqT.of (M1 _ _ ha), atI_nat (j := 0) (Row.w0 r), c1, _, rfl, ?_, k H1 M1⟩
    have q := DGet.k (k := .inr r.word) E1
    rw [workL_at] at q
    exact q
end
end DL
namespace DL
open PySem PySem.Spec L2 DLR
/-! ### _law_loops: the law's own search -/
abbrev sLL : Stmt := top 67
abbrev pLL : List Str := ["_law_rows","_law_begin","_law_path","_law_found","_law_looks"]
abbrev nLL : List Str := ["_law_rows","_law_begin","_law_path","_law_found","_law_looks","_law_other"]
abbrev FLL (K : Frg) (mg : Str → Option Value) := Fd K mg "_law_loops" sLL pLL
def zers (n : Nat) : List V := List.replicate n (.int 0)
structure LLA (H H' : Hp) (fl kl : Addr) (z : LZ) : Prop where
  but : ∀ a o, H a = some o → a ≠ fl → a ≠ kl → H' a = some o
  ex : ∃ fs : List Addr, H' fl = some (.lst (fs.map V.ref)) ∧ TupsN H' fs z.1
  hk : H' kl = some (.lst (zers z.2))
theorem LLA.kp {H H' : Hp} {fl kl : Addr} {z : LZ} {xs ys : List V} (h : LLA H H' fl kl z) (e1 : H fl = some (.lst xs)) (e2 : H kl = some (.lst ys)) : Kp H H' := fun a ts e => h.but a _ e (ne_of e e1 (by intro z; cases z)) (ne_of e e2 (by intro z; cases z))
def spLL (n : Nat) : Sp := fun vs H Q _ => ∃ (ra pl fl kl : Addr) (bs : List Addr) (p : Prog) (start : Nat) (path : List Nat) (z : LZ), vs = [.ref ra, nI start, .ref pl, .ref fl, .ref kl] ∧ H ra = some (.tup (bs.map V.ref)) ∧ RowsAt H bs p.rows ∧ Good p ∧
  H pl = some (.lst (path.map nI)) ∧ Str_ p.rows.length path ∧ p.rows.length + 1 ≤ n + path.length ∧ n ≤ 50 ∧ z.2 ≤ 10000 ∧ z.1.length ≤ 2 * z.2 ∧ fl ≠ kl ∧ pl ≠ fl ∧ pl ≠ kl ∧ LLA H H fl kl z ∧ ∀ H', LLA H H' fl kl (llp p.rows start n path z) → Q .non H'
section
variable {P : Program} {w : World} {K : PySem.W.Frag} {mg : Str → Option Value} {base : Heap}
theorem scLL : FnScope nLL pLL (defScope sLL) := ⟨rfl, rfl, rfl, by decide +kernel, rfl, by decide +kernel, by decide +kernel⟩
theorem ok_ll (c : FLL K mg) (cLNexts : FLNexts K mg) (T : Bt mg) (GLNexts : FnOk P w K mg base CX0 1 cLNexts.f cLNexts.fd ["_law_row"] spLNexts) : ∀ n : Nat, FnOk P w K mg base CX0 (n + 2) c.f c.fd pLL (spLL n)
  | 0 => ⟨fun vs H Q E h => by
      obtain ⟨ra, pl, fl, kl, bs, p, start, path, z, rfl, _⟩ := h
      rfl, fun A outer s H args us vs Q E hr e0 hb hv h => by
      obtain ⟨ra, pl, fl, kl, bs, p, start, path, z, _, _, _, _, _, hs, hn, _⟩ := h
      have := hs.len
      omega⟩
  | n + 1 => by
    have GLoops := ok_ll c cLNexts T GLNexts n
    let cLoops := c
    refine c.F.ok scLL (fun vs H Q E h => ?_) (fun cdv A outer s H vs Q E hr h => ?_)
    · obtain ⟨ra, pl, fl, kl, bs, p, start, path, z, rfl, _⟩ := h
      rfl
    · obtain ⟨ra, pl, fl, kl, bs, p, start, path, z, rfl, hra, hR, g, hp, hs, hn, hn50, hz, hz1, n1, n2, n3, ⟨_, ⟨fs, hf, hT⟩, hk⟩, k⟩ := h
      refine ⟨_, (pss_cons (ps_expr (pe_bm PySem.F.plainAttrs_list PySem.F.slot_list_append PySem.F.type_list_append mt_append (pv 4) (pa_cons pe_int pa_nil)))
      (pss_cons (ps_if (pt_cmpR op_gt (pe_callB call_len_seq (by rfl) T.len PySem.boot_len (pa_cons (pv 4) pa_nil)) pe_int (nomark _))
          (pss_one ps_retN)
          pss_nil)
      (pss_one (ps_for PassesOwn.never rfl (pi_list (pe_call GLNexts (hr.mono (by first | omega | decide)) (by rfl) cLNexts.m cLNexts.F.kp cLNexts.b .nil pass0 (pa_cons (pe_ix ix_tup (pv 0) (pe_ix ix_list (pv 2) (pe_un un_neg pe_int) (fun _ _ => rfl)) (fun _ _ => rfl)) pa_nil))) (pg_name (i := 5) scLL.nd rfl (Or.inl rfl))
          (pss_one (ps_if (pt_cmpR op_eq (pv 5) (pv 1) (nomark _))
              (pss_one (ps_expr (pe_bm PySem.F.plainAttrs_list PySem.F.slot_list_append PySem.F.type_list_append mt_append (pv 3) (pa_cons (pe_callTy call_tuple_of (by rfl) T.tuple (by decide +kernel) (pa_cons (pv 2) pa_nil)) pa_nil))))
              (pss_one (ps_if (PW.pt (pw_and (pt_cmpR op_gt (pv 5) (pv 1) (nomark _)) (pw_and1 (pt_cmpR op_notIn_seq (pv 5) (pv 2) rfl))))
                  (pss_one (ps_expr (pe_call GLoops (hr.mono (by first | omega | decide)) (by rfl) cLoops.m cLoops.F.kp cLoops.b .nil pass0 (pa_cons (pv 0) (pa_cons (pv 1) (pa_cons (pe_op op_cat (pv 2) (pe_lst (pa_cons (pv 5) pa_nil))) (pa_cons (pv 3) (pa_cons (pv 4) pa_nil))))))))
                  pss_nil)))))))), ?_⟩
      have h40 := g.r40
      have hbl := Paired.length hR
      have hpl := hs.len
      refine ⟨_, rfl, .inl ⟨rfl, _, SqL.of hk⟩, kl, _, _, rfl, rfl, hk, szl (by unfold zers; rw [List.length_replicate]; omega), ?_⟩
      have nH : ∀ {a o}, H a = some o → a ≠ fl → a ≠ kl → (upd H kl (.lst (zers z.2 ++ [V.int 0]))) a = some o := fun {a o} e _ n2 => by rw [upd_ne n2]; exact e
      have eK : zers z.2 ++ [V.int 0] = zers (z.2 + 1) := by unfold zers; rw [List.replicate_succ']
      rw [eK]
      rw [eK] at nH
      have hf1 : (upd H kl (.lst (zers (z.2 + 1)))) fl = some (.lst (fs.map V.ref)) := by rw [upd_ne n1]; exact hf
      have hk1 : (upd H kl (.lst (zers (z.2 + 1)))) kl = some (.lst (zers (z.2 + 1))) := upd_same
      have kp1 : Kp H (upd H kl (.lst (zers (z.2 + 1)))) := Kp.lst hk
      generalize upd H kl (.lst (zers (z.2 + 1))) = H1 at *
      have hT1 := TupsN.kp hT kp1
      have hp1 := nH hp n2 n3
      have hra1 := kp1 _ _ hra
      have hR1 := RowsAt.kp hR kp1
      dsimp only
      refine ⟨_, rfl, kl, _, rfl, .inl (SqL.of hk1), _, _, rfl, rfl, _, rfl, ite2 (fun c => ?_) (fun c => ?_)⟩
      · have c := of_decide_eq_true c
        unfold zers at c
        rw [List.length_replicate] at c
        refine k _ ?_
        unfold llp
        rw [if_pos (by omega)]
        exact ⟨fun a o => nH, ⟨fs, hf1, hT1⟩, hk1⟩
      have c3 : ¬ 3000 < z.2 + 1 := fun q => c (decide_eq_true (by unfold zers; rw [List.length_replicate]; omega))
      obtain ⟨at1', hl⟩ := hs.at
      obtain ⟨b0, hb0, hr0⟩ : ∃ b0, bs[path.getLastD 0]? = some b0 ∧ H1 b0 = some (.tup (rowVs (p.rows.getD (path.getLastD 0) .stop))) := by
        have e : p.rows[path.getLastD 0]? = some (p.rows.getD (path.getLastD 0) .stop) := by rw [List.getD_eq_getElem?_getD, List.getElem?_eq_getElem hl]; rfl
        have hlb : path.getLastD 0 < bs.length := by rw [hbl]; exact hl
        obtain ⟨r, h1, h2⟩ := Paired.get hR1 (List.getElem?_eq_getElem hlb)
        rw [e] at h1
        cases h1
        exact ⟨_, List.getElem?_eq_getElem hlb, h2⟩
      refine ⟨_, rfl, _, rfl, _, rfl, pl, _, _, _, rfl, rfl, SqL.of hp1, at1', ra, _, _, _, rfl, rfl, SqT.of hra1, atI_nat (show (bs.map V.ref)[path.getLastD 0]? = some (.ref b0) by rw [List.getElem?_map, hb0]; rfl), b0, _, rfl, hr0, fun l H2 s2 nl e2 => ?_⟩
      have nlf : l ≠ fl := fun q => by rw [q, hf1] at nl; cases nl
      have nlk : l ≠ kl := fun q => by rw [q, hk1] at nl; cases nl
      obtain ⟨Tg, hTg⟩ : ∃ Tg, Tg = tgt (p.rows.getD (path.getLastD 0) .stop) := ⟨_, rfl⟩
      have tl : Tg.length ≤ 2 := by rw [hTg]; exact tgt_len _
      obtain ⟨Z, hZ⟩ : ∃ Z : Nat → LZ, Z = fun i => (Tg.take i).foldl (intoF p.rows start (llp p.rows start n) path) (z.1, z.2 + 1) := ⟨_, rfl⟩
      have Zb : ∀ i, (Z i).2 ≤ 3200 ∧ (Z i).1.length ≤ 2 * (Z i).2 := fun i => by
        have h1 := fold_max (rows := p.rows) (start := start) (rec := llp p.rows start n) (p := path) (B := 2 * n + 1) (fun p z hz => llp_over hz) (fun p z => llp_max n p z) (Tg.take i) (z.1, z.2 + 1)
        obtain ⟨_, q, h2, h3⟩ := fold_grow (rows := p.rows) (start := start) (rec := llp p.rows start n) (p := path) (fun p z => (llp_grow n p z).1) (Tg.take i) (z.1, z.2 + 1)
        have hl2 : (Tg.take i).length ≤ 2 := by rw [List.length_take]; omega
        rw [hZ]
        dsimp only at h1 h2 h3 ⊢
        refine ⟨by omega, ?_⟩
        rw [h2, List.length_append]
        omega
      have Zs : ∀ i o, Tg[i]? = some o → Z (i + 1) = intoF p.rows start (llp p.rows start n) path (Z i) o := fun i o h => by
        rw [hZ]
        show (Tg.take (i + 1)).foldl _ _ = _
        rw [List.take_add_one, h, List.foldl_append]
        rfl
      have e2' : H2 l = some (.lst (Tg.map nI)) := by rw [hTg]; exact e2
      have h2' : ∀ a o, H a = some o → a ≠ fl → a ≠ kl → H2 a = some o := fun a o e x y => s2 _ _ (nH e x y)
      refine ⟨l, rfl, ⟨_, SqL.of e2'⟩, ?_⟩
      refine for_list (K := K) (a := l) (xs := Tg.map nI) (fun i σ H' => ∃ x5 : Option V, σ = [some (.ref ra), some (nI start), some (.ref pl), some (.ref fl), some (.ref kl), x5] ∧ LLA H H' fl kl (Z i) ∧ H' l = some (.lst (Tg.map nI)))
        ⟨none, rfl, ⟨h2', ⟨fs, s2 _ _ hf1, by rw [hZ]; exact TupsN.kp hT1 (Kp.same s2)⟩, by rw [hZ]; exact s2 _ _ hk1⟩, e2'⟩ (fun i σ H' _ ⟨_, _, _, q⟩ => SqL.of q) ?_ ?_
      · rintro i x σ H3 hx ⟨x5, rfl, ⟨b3, ⟨fs3, f3, t3⟩, k3⟩, l3⟩
        rw [List.getElem?_map] at hx
        cases ho : Tg[i]? with
        | none => rw [ho] at hx; cases hx
        | some o =>
        rw [ho] at hx
        have hx : nI o = x := Option.some.inj hx
        subst hx
        have hZ1 := Zs i o ho
        obtain ⟨zb1, zb2⟩ := Zb i
        have lf3 := tups_len t3
        have hp3 := b3 _ _ hp n2 n3
        have kp3 : Kp H H3 := (show LLA H H3 fl kl (Z i) from ⟨b3, ⟨fs3, f3, t3⟩, k3⟩).kp hf hk
        refine ⟨_, rfl, _, rfl, rfl, _, rfl, ite2 (fun c => ?_) (fun c => ?_)⟩
        · have eo : o = start := by
            have := V.int.inj (of_decide_eq_true c)
            omega
          rw [intoF, if_pos eo] at hZ1
          refine ⟨_, rfl, .inl ⟨rfl, _, SqL.of f3⟩, _, rfl, pl, _, rfl, .inl ⟨SqL.of hp3, fun t ht => ?_⟩⟩
          refine alloc ht fun H4 s4 e4 => ?_
          have f4 := s4 _ _ f3
          refine ⟨fl, _, _, rfl, rfl, f4, szl (by rw [List.length_map, lf3]; omega), ?_⟩
          have nlf4 : ∀ {a o}, H4 a = some o → a ≠ fl → (upd H4 fl (.lst (fs3.map V.ref ++ [V.ref t]))) a = some o := fun e n => by rw [upd_ne n]; exact e
          have kp4 : Kp H4 (upd H4 fl (.lst (fs3.map V.ref ++ [V.ref t]))) := Kp.lst f4
          refine ⟨_, rfl, ⟨fun a o e x y => nlf4 (s4 _ _ (b3 _ _ e x y)) x, ⟨fs3 ++ [t], ?_, ?_⟩, ?_⟩, nlf4 (s4 _ _ l3) nlf⟩
          · rw [upd_same, List.map_append]
            rfl
          · rw [hZ1]
            exact Paired.app (TupsN.kp t3 ((Kp.same s4).trans kp4)) (Paired.one (kp4 _ _ e4))
          · rw [hZ1]
            exact nlf4 (s4 _ _ k3) n1.symm
        · have eo : ¬ o = start := fun q => c (decide_eq_true (by rw [q]))
          rw [intoF, if_neg eo] at hZ1
          refine ⟨_, rfl, _, rfl, _, _, rfl, rfl, _, rfl, ite2 (fun c2 => ?_) (fun c2 => ?_)⟩
          · have c2 := of_decide_eq_true c2
            refine ⟨_, rfl, _, rfl, pl, _, rfl, .inl (SqL.of hp3), rfl, flat_n path, _, rfl, ?_⟩
            rw [if_pos rfl, inV_n]
            refine ite2 (fun c3 => ?_) (fun c3 => ?_)
            · have np : o ∉ path := by
                intro q
                rw [decide_eq_true q] at c3
                cases c3
              have hlt : start < o := by omega
              rw [if_pos ⟨hlt, np⟩] at hZ1
              have hst : path ++ [o] ∈ stepsOf p.rows start path := List.mem_map.mpr ⟨o, List.mem_filter.mpr ⟨by rw [← hTg]; exact List.mem_of_getElem? ho, by rw [decide_eq_true hlt, decide_eq_true np]; rfl⟩, rfl⟩
              obtain ⟨hs', hl'⟩ := hs.step (goes2_of g) hst
              refine ⟨_, rfl, _, rfl, _, rfl, _, rfl, (by show 1 ≤ sizeLine; decide), fun l4 hl4 => ?_⟩
              refine alloc hl4 fun H4 s4 e4 => ?_
              refine ⟨pl, l4, _, _, rfl, rfl, s4 _ _ hp3, e4, sz (by rw [List.length_map]; show path.length + 1 ≤ _; omega), fun p5 hp5 => ?_⟩
              refine alloc hp5 fun H5 s5 e5 => ?_
              have e5 : H5 p5 = some (.lst ((path ++ [o]).map nI)) := by
                rw [e5, List.map_append]
                rfl
              have s35 := s4.trans s5
              have f5 := s35 _ _ f3
              have k5 := s35 _ _ k3
              have n5f : p5 ≠ fl := fun q => by rw [q, s4 _ _ f3] at hp5; cases hp5
              have n5k : p5 ≠ kl := fun q => by rw [q, s4 _ _ k3] at hp5; cases hp5
              have kp5 := kp3.trans (Kp.same s35)
              refine ⟨_, rfl, _, rfl, ra, p5, fl, kl, bs, p, start, path ++ [o], Z i, rfl, kp5 _ _ hra, RowsAt.kp hR kp5, g, e5, hs', by omega, by omega, by omega, zb2, n1, n5f, n5k, ⟨fun a o e _ _ => e, ⟨fs3, f5, TupsN.kp t3 (Kp.same s35)⟩, k5⟩, fun H6 L6 => ?_⟩
              refine ⟨_, rfl, ⟨fun a o e x y => L6.but _ _ (s35 _ _ (b3 _ _ e x y)) x y, ?_, ?_⟩, L6.but _ _ (s35 _ _ l3) nlf nlk⟩
              · rw [hZ1]
                exact L6.ex
              · rw [hZ1]
                exact L6.hk
            · rw [if_neg (fun q => c3 (by rw [decide_eq_false q.2]; rfl))] at hZ1
              exact ⟨_, rfl, ⟨b3, ⟨fs3, f3, by rw [hZ1]; exact t3⟩, by rw [hZ1]; exact k3⟩, l3⟩
          · rw [if_neg (fun q => c2 (decide_eq_true (by omega)))] at hZ1
            exact ⟨_, rfl, ⟨b3, ⟨fs3, f3, by rw [hZ1]; exact t3⟩, by rw [hZ1]; exact k3⟩, l3⟩
      · rintro σ H3 ⟨x5, rfl, L3, l3⟩
        refine k _ ?_
        have e : llp p.rows start (n + 1) path z = Z Tg.length := by
          rw [hZ]
          show llp p.rows start (n + 1) path z = (Tg.take Tg.length).foldl _ _
          rw [List.take_length, hTg]
          show (if 3000 < z.2 + 1 then _ else _) = _
          rw [if_neg c3]
        rw [e]
        rw [List.length_map] at L3
        exact L3
end
end DL
namespace DL
open PySem PySem.Spec L2 DLR LamX
/-! ### what the law reckons of a loop -/
theorem fold_str {rows : List Row} (g : Goes2 rows) {start : Nat} {rec : List Nat → LZ → LZ} {p : List Nat} (hp : Str_ rows.length p)
    (hr : ∀ o z, start < o → o ∉ p → o ∈ tgt (rows.getD (p.getLastD 0) .stop) → (∀ s ∈ z.1, Str_ rows.length s) → ∀ s ∈ (rec (p ++ [o]) z).1, Str_ rows.length s) :
    ∀ (L : List Nat) (z : LZ), (∀ o ∈ L, o ∈ tgt (rows.getD (p.getLastD 0) .stop)) → (∀ s ∈ z.1, Str_ rows.length s) → ∀ s ∈ (L.foldl (intoF rows start rec p) z).1, Str_ rows.length s
  | [], z, _, hz => hz
  | o :: L, z, hL, hz => by
    rw [List.foldl_cons]
    refine fold_str g hp hr L _ (fun x hx => hL x (List.mem_cons_of_mem _ hx)) fun s hs => ?_
    by_cases e : o = start
    · rw [intoF, if_pos e] at hs
      rcases List.mem_append.mp hs with q | q
      · exact hz s q
      · rw [List.mem_singleton.mp q]
        exact hp
    by_cases e2 : start < o ∧ o ∉ p
    · rw [intoF, if_neg e, if_pos e2] at hs
      exact hr o z e2.1 e2.2 (hL o List.mem_cons_self) hz s hs
    · rw [intoF, if_neg e, if_neg e2] at hs
      exact hz s hs
theorem llp_str {rows : List Row} (g : Goes2 rows) {start : Nat} : ∀ (n : Nat) (p : List Nat) (z : LZ), Str_ rows.length p → (∀ s ∈ z.1, Str_ rows.length s) → ∀ s ∈ (llp rows start n p z).1, Str_ rows.length s
  | 0, p, z, _, hz => hz
  | n + 1, p, z, hp, hz => by
    unfold llp
    by_cases h : 3000 < z.2 + 1
    · rw [if_pos h]
      exact hz
    · rw [if_neg h]
      refine fold_str g hp (fun o z h1 h2 h3 hz => ?_) _ _ (fun o ho => ho) hz
      have hs : p ++ [o] ∈ stepsOf rows start p := List.mem_map.mpr ⟨o, List.mem_filter.mpr ⟨h3, by rw [decide_eq_true h1, decide_eq_true h2]; rfl⟩, rfl⟩
      exact llp_str g n (p ++ [o]) z (hp.step g hs).1 hz
theorem lawAll_str {rows : List Row} (g : Goes2 rows) : ∀ (ss : List Nat) (z : LZ), (∀ b ∈ ss, b < rows.length) → (∀ s ∈ z.1, Str_ rows.length s) → ∀ s ∈ (lawAll rows ss z).1, Str_ rows.length s
  | [], z, _, hz => hz
  | b :: ss, z, hb, hz => lawAll_str g ss (llp rows b 41 [b] z) (fun x hx => hb x (List.mem_cons_of_mem _ hx)) (llp_str g 41 [b] z (Str_.one (hb b List.mem_cons_self)) hz)
theorem lawAll_snoc (rows : List Row) (i : Nat) (z : LZ) : lawAll rows (List.range (i + 1)) z = llp rows i 41 [i] (lawAll rows (List.range i) z) := by
  unfold lawAll
  rw [List.range_succ, List.foldl_append]
  rfl
def roundL (s : List Nat) : List (Nat × Nat) := (s.getLastD 0, s.headD 0) :: s.zip (s.drop 1)
theorem roundL_len {s : List Nat} (h : s ≠ []) : (roundL s).length = s.length := by
  unfold roundL
  rw [List.length_cons, List.length_zip, List.length_drop]
  have := List.length_pos_iff.mpr h
  omega
theorem roundL_at {s : List Nat} {k : Nat} (h : k < s.length) : (roundL s)[k]? = some ((if k = 0 then s.getLastD 0 else s.getD (k - 1) 0), s.getD k 0) := by
  unfold roundL
  cases k with
  | zero =>
    rw [List.getElem?_cons_zero, if_pos rfl]
    cases s with
    | nil => simp at h
    | cons x r => rfl
  | succ k =>
    rw [List.getElem?_cons_succ, if_neg (by omega)]
    have h1 : k < s.length := by omega
    have hz : (s.zip (s.drop 1))[k]? = some (s[k], s[k + 1]) := List.getElem?_zip_eq_some.mpr ⟨List.getElem?_eq_getElem h1, by rw [List.getElem?_drop, Nat.add_comm]; exact List.getElem?_eq_getElem h⟩
    rw [hz]
    rw [List.getD_eq_getElem?_getD, List.getD_eq_getElem?_getD, List.getElem?_eq_getElem h, Nat.add_sub_cancel, List.getElem?_eq_getElem h1]
    rfl
theorem zip_snoc : ∀ (s : List Nat) (x y : Nat), ((x :: s) ++ [y]).zip (s ++ [y]) = (x :: s).zip s ++ [((x :: s).getLastD 0, y)]
  | [], x, y => rfl
  | z :: s, x, y => by
    have q := zip_snoc s z y
    show (x, z) :: ((z :: s) ++ [y]).zip (s ++ [y]) = (x, z) :: (z :: s).zip s ++ [_]
    rw [q]
    rfl
theorem way_pairs {s : List Nat} (h : s ≠ []) : (pairsF (wayF s)).Perm (roundL s) := by
  cases s with
  | nil => exact absurd rfl h
  | cons x r =>
    have e : pairsF (wayF (x :: r)) = (x :: r).zip r ++ [((x :: r).getLastD 0, x)] := zip_snoc r x x
    rw [e]
    exact List.perm_append_comm
theorem sum_perm {l m : List Int} (h : l.Perm m) : l.sum = m.sum := by
  induction h with
  | nil => rfl
  | cons x _ ih => rw [List.sum_cons, List.sum_cons, ih]
  | swap x y l => rw [List.sum_cons, List.sum_cons, List.sum_cons, List.sum_cons]; omega
  | trans _ _ a b => rw [a, b]
theorem takes_round {y : Lay} {rows : List Row} {s : List Nat} (h : s ≠ []) : ((roundL s).map fun q => costF y rows q.1 q.2).sum = takesF y rows s := sum_perm ((way_pairs h).map _).symm
theorem leastHalf_two (rows : List Row) (a b : Nat) : leastHalfF rows [a, b] = lworkF (rows.getD a .stop) := by
  unfold leastHalfF lworkF
  rw [if_neg (by show ¬ 2 = 1; decide)]
  rfl
theorem zip_fst : ∀ (s : List Nat) (x : Nat), ((s ++ [x]).zip ((s ++ [x]).drop 1)).map (·.1) = s
  | [], x => rfl
  | [a], x => rfl
  | a :: b :: s, x => by
    have q := zip_fst (b :: s) x
    show a :: (((b :: s) ++ [x]).zip (((b :: s) ++ [x]).drop 1)).map (·.1) = _
    rw [q]
theorem least_round {rows : List Row} {s : List Nat} : (s.map fun x => 1 + lworkF (rows.getD x .stop)).sum = leastF rows (wayF s) := by
  unfold leastF halvesF
  rw [List.map_append, List.sum_append, List.map_map, List.map_map]
  have e1 : (pairsF (wayF s)).map (leastHalfF rows ∘ fun q => [q.1, q.2]) = s.map fun x => lworkF (rows.getD x .stop) := by
    have : (leastHalfF rows ∘ fun q : Nat × Nat => [q.1, q.2]) = (fun x => lworkF (rows.getD x .stop)) ∘ (fun q : Nat × Nat => q.1) := by
      funext q
      exact leastHalf_two rows q.1 q.2
    rw [this, ← List.map_map]
    unfold pairsF wayF
    rw [zip_fst]
  have e2 : ∀ l : List Nat, (l.map (leastHalfF rows ∘ fun x => [x])).sum = (l.length : Int) := by
    intro l
    induction l with
    | nil => rfl
    | cons x l ih =>
      rw [List.map_cons, List.sum_cons, ih, List.length_cons]
      have e : (leastHalfF rows ∘ fun x => [x]) x = 1 := by
        show leastHalfF rows [x] = 1
        unfold leastHalfF
        rw [if_pos (by rfl)]
      rw [e]
      omega
  rw [e1, e2]
  have e3 : ∀ l : List Nat, (l.map fun x => 1 + lworkF (rows.getD x .stop)).sum = (l.map fun x => lworkF (rows.getD x .stop)).sum + (l.length : Int) := by
    intro l
    induction l with
    | nil => rfl
    | cons x l ih =>
      rw [List.map_cons, List.sum_cons, ih, List.map_cons, List.sum_cons, List.length_cons]
      omega
  rw [e3]
  have : ((wayF s).drop 1).length = s.length := by
    unfold wayF
    rw [List.length_drop, List.length_append]
    show s.length + 1 - 1 = _
    omega
  rw [this]
theorem round_up (b : Int) {W : Nat} (h : 0 < W) : (b + (W : Int) - 1) / (W : Int) * (W : Int) = roundF b W := by
  unfold roundF
  have hW : (W : Int) ≠ 0 := by omega
  have h1 := Int.mul_ediv_add_emod (b + (W : Int) - 1) (W : Int)
  have h2 := Int.mul_ediv_add_emod (-b) (W : Int)
  have h3 := Int.emod_nonneg (b + (W : Int) - 1) hW
  have h4 := Int.emod_lt_of_pos (b + (W : Int) - 1) (show (0 : Int) < W by omega)
  have h5 := Int.emod_nonneg (-b) hW
  have h6 := Int.emod_lt_of_pos (-b) (show (0 : Int) < W by omega)
  -- b + (-b) % W = - W * ((-b) / W)
  have e1 : b + -b % (W : Int) = -((-b) / (W : Int)) * (W : Int) := by
    rw [Int.neg_mul, Int.mul_comm]
    omega
  rw [e1]
  congr 1
  -- the quotients agree
  have l1 : (W : Int) * ((b + (W : Int) - 1) / (W : Int)) < (W : Int) * (-((-b) / (W : Int)) + 1) := by
    rw [Int.mul_add, Int.mul_neg, Int.mul_one]
    omega
  have l2 : (W : Int) * (-((-b) / (W : Int))) < (W : Int) * ((b + (W : Int) - 1) / (W : Int) + 1) := by
    rw [Int.mul_add, Int.mul_neg, Int.mul_one]
    omega
  have q1 := Int.lt_of_mul_lt_mul_left l1 (by omega)
  have q2 := Int.lt_of_mul_lt_mul_left l2 (by omega)
  omega
/-! the law's state: two lists of its own grow -/
theorem Ct.two {K : Frg} {H0 H H' : Hp} {d sa Pt fl kl : Addr} {ns : List Int} {xs ys : List V} (h : Ct K (noTb H0) H d sa Pt ns) (b : ∀ a o, H a = some o → a ≠ fl → a ≠ kl → H' a = some o) (nf : noTb H0 fl = none) (nk : noTb H0 kl = none) (e1 : H fl = some (.lst xs)) (e2 : H kl = some (.lst ys)) : Ct K (noTb H0) H' d sa Pt ns := by
  have df := h.ent.ned nf
  have dk := h.ent.ned nk
  refine ⟨⟨h.ent.e0, fun a o n e => b _ _ (h.ent.but a o n e) (fun z => by rw [z, nf] at e; cases e) (fun z => by rw [z, nk] at e; cases e), ?_⟩, ?_⟩
  · obtain ⟨i, m, r, z, q⟩ := h.ent.dice
    exact ⟨i, m, r, b _ _ z df.symm dk.symm, q⟩
  · obtain ⟨ps, h1, h2, h3⟩ := h.tab
    have ne : ∀ {a o}, H a = some o → (∀ xs, o ≠ .lst xs) → H' a = some o := fun {a o} e n => b _ _ e (fun z => by rw [z, e1] at e; exact n _ (Option.some.inj e).symm) (fun z => by rw [z, e2] at e; exact n _ (Option.some.inj e).symm)
    refine ⟨ps, ne h1 (fun xs z => by cases z), h2, fun pos cv hc => ?_⟩
    obtain ⟨k, q1, q2⟩ := h3 pos cv hc
    exact ⟨k, q1, ne q2 codeO_lst⟩
end DL
namespace DL
open PySem L2 DLR LamX
abbrev sLaw : Stmt := top 68
abbrev nLaw : List Str := ["_law_script","_law_d","_law_turn","_law_program","_law_size","_law_by","_law_rows","_law_laying_here","_law_due","_law_looks","_law_begin","_law_works","_law_some","_law_loop","_law_take","_law_few","_law_again","_law_found","_law_part","_law_full","_law_work_here","_law_k","_law_row"]
def spLaw (K : Frg) (Pt : Addr) : Sp := fun vs H Q _ => ∃ (sa : Addr) (ns : List Int), vs = [.ref sa] ∧ SqL K H sa (ns.map V.int) ∧ ns.length ≤ 63 ∧ H Pt = some (.tbl #[]) ∧ ∀ H', Q (.bl true) H'
abbrev FDice (K : Frg) (mg : Str → Option Value) := Fd K mg "_law_dice" sDice ["_law_script"]
abbrev FLike (K : Frg) (mg : Str → Option Value) := Fd K mg "_law_like" sLike ["_law_found", "_law_due"]
abbrev FTold (K : Frg) (mg : Str → Option Value) := Fd K mg "_law_told" sTold ["_law_work_here"]
def S13 (pa ya : Addr) (p : Prog) (y : Lay) (σ : L2.St) (H : Hp) : Prop := σ[3]? = some (some (.ref pa)) ∧ σ[7]? = some (some (.ref ya)) ∧ ProgAt H pa p ∧ LayAt H ya y
def B13 (C : Addr) (E : XK) (H : Hp) : Prop := ∀ H', Same1 H H' → E (.ref C) none H'
def stD (s : List Nat) : DL.D := .tup (s.map fun x : Nat => .int (x : Int))
def tlD (y : Lay) (rows : List Row) (s : List Nat) : DL.D := .tup [stD s, .int (takesF y rows s), .int (fewF y rows s)]
theorem st_at {H : Hp} {b : Addr} {s : List Nat} (h : H b = some (.tup (s.map nI))) : At H (.ref b) (stD s) := by
  refine zat_tup h ?_
  clear h
  induction s with
  | nil => exact zats_nil
  | cons x s ih => exact zats_cons zat_int ih
theorem sts_at {H : Hp} : ∀ {bs : List Addr} {L : List (List Nat)}, TupsN H bs L → Ats H (bs.map V.ref) (L.map stD)
  | _, _, .nil => zats_nil
  | _, _, .cons h t => zats_cons (st_at h) (sts_at t)
theorem tls_at {y : Lay} {rows : List Row} {H : Hp} : ∀ {bs : List Addr} {L : List (List Nat)}, ToldAt y rows H bs L → Ats H (bs.map V.ref) (L.map (tlD y rows))
  | _, _, .nil => zats_nil
  | _, _, .cons ⟨t, h1, h2⟩ r => zats_cons (zat_tup h1 (zats_cons (st_at h2) (zats_cons zat_int (zats_cons zat_int zats_nil)))) (tls_at r)
theorem zat_lst {H : Hp} {a : Addr} {vs : List V} {ds : List DL.D} (h : H a = some (.lst vs)) (q : Ats H vs ds) : At H (.ref a) (.lst ds) := by
  simp only [At]
  exact ⟨a, vs, rfl, h, q⟩
theorem depL_of {n : Nat} : ∀ {ds : List DL.D}, (∀ d ∈ ds, d.dep ≤ n) → depL ds ≤ n
  | [], _ => Nat.zero_le _
  | d :: ds, h => by
    have h1 := h d List.mem_cons_self
    have h2 := depL_of (ds := ds) fun x hx => h x (List.mem_cons_of_mem _ hx)
    show max d.dep (depL ds) ≤ n
    omega
theorem stD_dep (s : List Nat) : (stD s).dep ≤ 1 := by
  have : depL (s.map fun x : Nat => DL.D.int (x : Int)) ≤ 0 := depL_of fun d hd => by
    obtain ⟨x, _, rfl⟩ := List.mem_map.mp hd
    exact Nat.le_refl _
  show depL _ + 1 ≤ 1
  omega
theorem tlD_dep (y : Lay) (rows : List Row) (s : List Nat) : (tlD y rows s).dep ≤ 2 := by
  have := stD_dep s
  have h : depL [stD s, .int (takesF y rows s), .int (fewF y rows s)] ≤ 1 := depL_of fun d hd => by
    simp only [List.mem_cons, List.not_mem_nil, or_false] at hd
    rcases hd with rfl | rfl | rfl
    · exact this
    · exact Nat.zero_le _
    · exact Nat.zero_le _
  show depL _ + 1 ≤ 2
  omega
def bothD (y : Lay) (rows : List Row) (L : List (List Nat)) : DL.D := .lst [.lst (L.map stD), .lst (L.map (tlD y rows))]
theorem bothD_dep (y : Lay) (rows : List Row) (L : List (List Nat)) : (bothD y rows L).dep ≤ 6 := by
  have h1 : depL (L.map stD) ≤ 1 := depL_of fun d hd => by obtain ⟨s, _, rfl⟩ := List.mem_map.mp hd; exact stD_dep s
  have h2 : depL (L.map (tlD y rows)) ≤ 2 := depL_of fun d hd => by obtain ⟨s, _, rfl⟩ := List.mem_map.mp hd; exact tlD_dep y rows s
  have h3 : depL [DL.D.lst (L.map stD), .lst (L.map (tlD y rows))] ≤ 4 := depL_of fun d hd => by
    simp only [List.mem_cons, List.not_mem_nil, or_false] at hd
    rcases hd with rfl | rfl
    · show depL _ + 1 ≤ 4; omega
    · show depL _ + 1 ≤ 4; omega
  show depL _ + 1 ≤ 6
  omega
theorem stD_fit {N : Nat} {s : List Nat} (h : Str_ N s) (hN : N ≤ 100) : (stD s).fit := by
  have := h.len
  unfold stD
  simp only [D.fit]
  refine ⟨by rw [List.length_map]; omega, fitL_iff.mpr fun x hx => ?_⟩
  obtain ⟨i, _, rfl⟩ := List.mem_map.mp hx
  simp [D.fit]
theorem bothD_fit {y : Lay} {rows : List Row} {L : List (List Nat)} (h : ∀ s ∈ L, Str_ rows.length s) (hN : rows.length ≤ 100) (hL : L.length ≤ 100) : (bothD y rows L).fit := by
  have f1 : (DL.D.lst (L.map stD)).fit := by
    simp only [D.fit]
    refine ⟨by rw [List.length_map]; omega, fitL_iff.mpr fun x hx => ?_⟩
    obtain ⟨s, hs, rfl⟩ := List.mem_map.mp hx
    exact stD_fit (h s hs) hN
  have f2 : (DL.D.lst (L.map (tlD y rows))).fit := by
    simp only [D.fit]
    refine ⟨by rw [List.length_map]; omega, fitL_iff.mpr fun x hx => ?_⟩
    obtain ⟨s, hs, rfl⟩ := List.mem_map.mp hx
    have := stD_fit (h s hs) hN
    unfold tlD
    simp [D.fit, fitL, this]
  unfold bothD
  simp only [D.fit, fitL] at f1 f2 ⊢
  exact ⟨by show 2 ≤ 100000; decide, f1, f2, trivial⟩
def testP (n a b : Nat) : Prog := ⟨[], (List.range n).map fun k => Row.test ((k + a) % n) ((k + b) % n)⟩
theorem testP_good {n a b : Nat} (h1 : 1 ≤ n) (h40 : n ≤ 40) : Good (testP n a b) := by
  refine ⟨by show 1 ≤ ((List.range n).map _).length; rw [List.length_map, List.length_range]; exact h1, by show ((List.range n).map _).length ≤ 40; rw [List.length_map, List.length_range]; exact h40, by show 0 ≤ 8; decide, fun x hx => (by cases hx), fun r hr => ?_⟩
  obtain ⟨k, hk, rfl⟩ := List.mem_map.mp (show r ∈ (List.range n).map fun k => Row.test ((k + a) % n) ((k + b) % n) from hr)
  show (k + a) % n < ((List.range n).map _).length ∧ (k + b) % n < ((List.range n).map _).length
  rw [List.length_map, List.length_range]
  exact ⟨Nat.mod_lt _ (by omega), Nat.mod_lt _ (by omega)⟩
theorem tests_lc {n a b j : Nat} {σ : L2.St} {H : Hp} {te : TE} {lc : Addr} {Qd : Hp → Prop} (hlc : H lc = none) (hn : n ≤ 1000)
    (hte : ∀ (k : Nat) (H' : Hp) (Q' : VK), k < n → (∀ p, H' p = none → Q' (.ref p) (upd H' p (.tup [.str "test", nI ((k + a) % n), nI ((k + b) % n)]))) → te ((wipe σ [j]).set j (some (.int (0 + (k : Int))))) H' Q')
    (k : ∀ bs H', Same1 H H' → H' lc = some (.lst (bs.map V.ref)) → bs.length = n → RowsAt H' bs ((List.range n).map fun k => Row.test ((k + a) % n) ((k + b) % n)) → Qd H') :
    ∃ W : Nat → Nat → Hp → Prop, (∃ m, W 0 m (upd H lc (.lst []))) ∧ ∀ i m H, W i m H →
      ((Itr 0 (n : Int).toNat).stop i H ∧ Qd H) ∨ ((Itr 0 (n : Int).toNat).go i H ∧ ∃ Nx : Hp → Prop, (∀ H', Nx H' → ∃ m', m' < m ∧ W (i + 1) m' H') ∧ ∀ x H', (Itr 0 (n : Int).toNat).yld i H x H' → gName j x (wipe σ [j]) H' fun σ2 H2 => wipe σ2 [j] = wipe σ [j] ∧ tYes σ2 H2 fun b H3 =>
        if b = true then te σ2 H3 fun y H4 => ∃ acc, H4 lc = some (.lst acc) ∧ acc.length < sizeLine ∧ Nx (upd H4 lc (.lst (acc ++ [y]))) else Nx H3) := by
  refine lc_range (lo := 0) (n := (n : Int).toNat) (fun k H' => ∃ bs : List Addr, Same1 H H' ∧ H' lc = some (.lst (bs.map V.ref)) ∧ bs.length = k ∧ RowsAt H' bs ((List.range k).map fun k => Row.test ((k + a) % n) ((k + b) % n))) ⟨[], Same.new hlc, upd_same, rfl, .nil⟩ ?_ ?_
  · rintro i H4 hi ⟨bs, s4, e4, bl, hR⟩
    rw [Int.toNat_natCast] at hi
    refine ⟨by show ((σ.set j none).set j _).set j none = σ.set j none; rw [List.set_set, List.set_set], ?_⟩
    dsimp only [tYes]
    rw [if_pos rfl]
    refine hte i H4 _ hi fun p hp => ?_
    have nD : lc ≠ p := ne_of_none e4 hp
    have e5 : (upd H4 p (.tup [.str "test", nI ((i + a) % n), nI ((i + b) % n)])) lc = some (.lst (bs.map V.ref)) := by rw [upd_ne nD]; exact e4
    have kp : Kp H4 (upd (upd H4 p (.tup [.str "test", nI ((i + a) % n), nI ((i + b) % n)])) lc (.lst (bs.map V.ref ++ [V.ref p]))) := (Kp.new hp).trans (Kp.lst e5)
    refine ⟨bs.map V.ref, e5, szl (by rw [List.length_map, bl]; omega), bs ++ [p], Same.mut (s4.trans (Same.new hp)) hlc, ?_, by rw [List.length_append, bl]; rfl, ?_⟩
    · rw [upd_same, List.map_append]
      rfl
    · rw [List.range_succ, List.map_append]
      refine Paired.app (RowsAt.kp hR kp) (Paired.one ?_)
      show (upd (upd H4 p _) lc _) p = some (.tup (rowVs (Row.test ((i + a) % n) ((i + b) % n))))
      rw [upd_ne nD.symm, upd_same]
      rfl
  · rintro H' ⟨bs, s4, e4, bl, hR⟩
    rw [Int.toNat_natCast] at hR bl
    exact k bs H' s4 e4 bl hR
theorem round_atI {N : Nat} {s : List Nat} {k : Nat} (h : Str_ N s) (hk : k < s.length) : atI (s.map nI) (0 + (k : Int) - 1) = some (nI (if k = 0 then s.getLastD 0 else s.getD (k - 1) 0)) := by
  by_cases e : k = 0
  · subst e
    rw [if_pos rfl]
    exact h.at.1
  · rw [if_neg e]
    have e2 : (0 + (k : Int) - 1) = ((k - 1 : Nat) : Int) := by omega
    rw [e2]
    have h1 : k - 1 < s.length := by omega
    exact atI_nat (by rw [List.getElem?_map, List.getD_eq_getElem?_getD, List.getElem?_eq_getElem h1]; rfl)
theorem round_atK {s : List Nat} {k : Nat} (hk : k < s.length) : atI (s.map nI) (0 + (k : Int)) = some (nI (s.getD k 0)) := by
  rw [Int.zero_add]
  exact atI_nat (by rw [List.getElem?_map, List.getD_eq_getElem?_getD, List.getElem?_eq_getElem hk]; rfl)
theorem round_lt {N : Nat} {s : List Nat} {k : Nat} (h : Str_ N s) (hk : k < s.length) : (if k = 0 then s.getLastD 0 else s.getD (k - 1) 0) < N ∧ s.getD k 0 < N := by
  have hd : ∀ j, j < s.length → s.getD j 0 < N := fun j hj => by
    rw [List.getD_eq_getElem?_getD, List.getElem?_eq_getElem hj]
    exact h.lt _ (List.getElem_mem hj)
  refine ⟨?_, hd k hk⟩
  by_cases e : k = 0
  · rw [if_pos e]
    exact h.at.2
  · rw [if_neg e]
    exact hd _ (by omega)
section
variable {P : Program} {w : World} {K : PySem.W.Frag} {mg : Str → Option Value} {base : Heap}
theorem scLaw : FnScope nLaw ["_law_script"] (defScope sLaw) := ⟨rfl, rfl, rfl, by decide +kernel, rfl, by decide +kernel, by decide +kernel⟩
theorem ok_law {fa cc Pt : Addr} {oc kV doc pm ct : Value} {an od : Option Addr} {osl : Array (Option Value)}
    (lk : K.lookup fa = some ⟨oc, od, .func (PySem.W.fnOf "law" "law" (defArgs sLaw) (defBody sLaw) (defScope sLaw) .none kV doc pm an (.ref cc) ct), osl⟩) (hcd : PySem.W.codeIn K (.ref cc) "law" = true) (TB : TabB base mg cc Pt)
    (cDice : FDice K mg) (cNext : FNext K mg) (cAny : FAny K mg) (cLaying : FLaying K mg) (cLike : FLike K mg) (cTold : FTold K mg) (cLL : FLL K mg) (cLCost : FLCost K mg) (cLWork : FLWork K mg) (cLoops : FLoops K mg) (cLoopBeats : FLoopBeats K mg)
    (T : Bt mg) (E : Er mg) {TMA : Addr} (kTM : Knd K E TMA 5)
    (GAny : FnOk P w K mg base CX0 8 cAny.f cAny.fd ["_law_d"] (spAny K)) (GLaying : FnOk P w K mg base CX0 2 cLaying.f cLaying.fd pLaying (spLaying K)) (GLL : FnOk P w K mg base CX0 43 cLL.f cLL.fd pLL (spLL 41)) (GLCost : FnOk P w K mg base CX0 3 cLCost.f cLCost.fd ["_law_rows", "_law_laying_here", "_law_here", "_law_other"] spLCost)
    (GLoops : FnOk P w K mg base (L2.CX P w) 5 cLoops.f cLoops.fd ["program"] (spLoops TMA)) (GLoopBeats : FnOk P w K mg base (L2.CX P w) 6 cLoopBeats.f cLoopBeats.fd ["program", "laying"] (spLoopBeats TMA)) :
    FnOk P w K mg base CX0 45 fa (PySem.W.fnOf "law" "law" (defArgs sLaw) (defBody sLaw) (defScope sLaw) .none kV doc pm an (.ref cc) ct) ["_law_script"] (spLaw K Pt) := by
  have GDice : FnOk P w K mg base CX0 1 cDice.f cDice.fd ["_law_script"] (spDice K) := ok_dice cDice.F T
  have GNext : FnOk P w K mg base CX0 1 cNext.f cNext.fd ["_law_dice_here", "_law_many"] (spNext K) := ok_next cNext.F T
  have GLWork : FnOk P w K mg base CX0 1 cLWork.f cLWork.fd ["_law_row"] spLWork := ok_lwork cLWork T
  have GLike : FnOk P w K mg base CX0 7 cLike.f cLike.fd ["_law_found", "_law_due"] (spLike K 6) := ok_like cLike.F cLike.b cLike.m T 6
  obtain ⟨ft, fdt, FT, bTo, mTo⟩ := cTold
  have kpTo := FT.kp
  obtain ⟨ocT, odT, kVT, docT, pmT, anT, cdvT, ctT, oslT, rfl, lkTo, hcdTo⟩ := FT.ex
  refine fn_of lk hcd scLaw (fun vs H Q E h => ?_) (fun A outer s H vs Q E' hr h => ?_)
  · obtain ⟨sa, ns, rfl, _⟩ := h
    rfl
  · obtain ⟨sa, ns, rfl, hS, hlen, hPt, kq⟩ := h
    refine ⟨_, PSs.nox (pss_cons (ps_set (i := 1) scLaw.nd rfl (Or.inl rfl) (pe_call GDice (hr.mono (by first | omega | decide)) (by rfl) cDice.m cDice.F.kp cDice.b .nil pass0 (pa_cons (pv 0) pa_nil)))
      (pss_cons (ps_for PassesOwn.never rfl (pi_range1 rfl T.range (pa_cons pe_int pa_nil)) (pg_name (i := 2) scLaw.nd rfl (Or.inl rfl))
          (pss_cons (ps_set (i := 3) scLaw.nd rfl (Or.inr rfl) (pe_call GAny (hr.mono (by first | omega | decide)) (by rfl) cAny.m cAny.F.kp cAny.b .nil pass0 (pa_cons (pv 1) pa_nil)))
          (pss_cons (ps_if (pt_cmpR op_eq (pv 2) pe_int (nomark _))
              (pss_cons (ps_asg (pe_tup (pa_cons (pe_op op_add pe_int (pe_call GNext (hr.mono (by first | omega | decide)) (by rfl) cNext.m cNext.F.kp cNext.b .nil pass0 (pa_cons (pv 1) (pa_cons pe_int pa_nil)))) (pa_cons (pe_op op_add pe_int (pe_call GNext (hr.mono (by first | omega | decide)) (by rfl) cNext.m cNext.F.kp cNext.b .nil pass0 (pa_cons (pv 1) (pa_cons pe_int pa_nil)))) pa_nil))) (pg_tup rfl (pgs_cons (pg_name (i := 4) scLaw.nd rfl (Or.inr rfl)) (pgs_cons (pg_name (i := 5) scLaw.nd rfl (Or.inr rfl)) pgs_nil))))
              (pss_one (ps_set (i := 3) scLaw.nd rfl (Or.inr rfl) (pe_tup (pa_cons (pe_tup pa_nil) (pa_cons (pe_callTy call_tuple_of (by rfl) T.tuple (by decide +kernel) (pa_cons (pe_lc (own := [("_law_k", 21)]) (g := gName 21) (tt := tYes) rfl scLaw.nd (pi_range1 rfl T.range (pa_cons (pv 4) pa_nil)) (blkOk_by (N := nLaw) (sc := defScope sLaw) (by decide +kernel)) (fun _ _ _ _ _ => (pg_name (i := 21) scLaw.nd rfl (Or.inl rfl))) (fun _ _ _ _ _ => pts_nil) (fun _ _ _ _ _ => (pe_tup (pa_cons pe_str (pa_cons (pe_op op_mod (pe_op op_add (pv 21) pe_int) (pv 4)) (pa_cons (pe_op op_mod (pe_op op_add (pv 21) (pv 5)) (pv 4)) pa_nil)))))) pa_nil)) pa_nil))))))
              pss_nil)
          (pss_cons (ps_set (i := 6) scLaw.nd rfl (Or.inr rfl) (pe_ix ix_tup (pv 3) pe_int (fun _ _ => rfl)))
          (pss_cons (ps_set (i := 7) scLaw.nd rfl (Or.inr rfl) (pe_call GLaying (hr.mono (by first | omega | decide)) (by rfl) cLaying.m cLaying.F.kp cLaying.b .nil pass0 (pa_cons (pv 1) (pa_cons (pv 3) (pa_cons pe_int pa_nil)))))
          (pss_cons (ps_par (i := 8) (j := 9) (by rfl) scLaw.nd rfl rfl (by decide) rfl rfl (pa_cons (pe_lst pa_nil) (pa_cons (pe_lst pa_nil) pa_nil)) (by rfl))
          (pss_cons (ps_for PassesOwn.never rfl (pi_range1 rfl T.range (pa_cons (pe_callB call_len_seq (by rfl) T.len PySem.boot_len (pa_cons (pv 6) pa_nil)) pa_nil)) (pg_name (i := 10) scLaw.nd rfl (Or.inl rfl))
              (pss_one (ps_expr (pe_call GLL (hr.mono (by first | omega | decide)) (by rfl) cLL.m cLL.F.kp cLL.b .nil pass0 (pa_cons (pv 6) (pa_cons (pv 10) (pa_cons (pe_lst (pa_cons (pv 10) pa_nil)) (pa_cons (pv 8) (pa_cons (pv 9) pa_nil)))))))))
          (pss_cons (ps_set (i := 11) scLaw.nd rfl (Or.inl rfl) (pe_lst (pa_cons (pe_lam0 (k := 8) (T := [(Pt, qL)]) TB rfl (tab_mem (by rfl)) (tab_one (by rfl)) (lamN_by (N := nLaw) (sc := defScope sLaw) (by decide +kernel)) rfl (fun _ _ _ _ _ => rfl) (fun A2 outer2 s2 H2 E2 f2 c2 hr2 => (pe_call GLoops (hr2.mono (by first | omega | decide)) (by rfl) cLoops.m cLoops.F.kp cLoops.b .nil (L2.passes_call (takes_of rfl rfl rfl rfl) (fun _ _ _ _ h => h)) (pa_cons (pv 3) pa_nil)))) (pa_cons (pe_lam1 (k := 8) (T := [(Pt, qL)]) TB rfl (tab_mem (by rfl)) (tab_one (by rfl)) (lamN_by (N := nLaw) (sc := defScope sLaw) (by decide +kernel)) rfl rfl (fun D => ⟨_, (by decide +kernel), fun cl doc pm cdv ct u => ⟨_, rfl, rfl⟩⟩) (fun A2 outer2 s2 H2 E2 f2 c2 hr2 => (pe_call GLoopBeats (hr2.mono (by first | omega | decide)) (by rfl) cLoopBeats.m cLoopBeats.F.kp cLoopBeats.b .nil (L2.passes_call (takes_of rfl rfl rfl rfl) (fun _ _ _ _ h => h)) (pa_cons (pv 3) (pa_cons (pv 7) pa_nil))))) pa_nil))))
          (pss_one (ps_if (PW.pt (pw_or (pt_cmpR op_gt (pe_callB call_len_seq (by rfl) T.len PySem.boot_len (pa_cons (pv 9) pa_nil)) pe_int (nomark _)) (pw_or1 (pt_cmpR op_gt (pe_callB call_len_seq (by rfl) T.len PySem.boot_len (pa_cons (pv 8) pa_nil)) pe_int (nomark _)))))
              (pss_one (ps_if (pt_cmpR (op_neD hr.units) (pe_lcI (own := [("_law_work_here", 20)]) (g := gName 20) rfl scLaw.nd (pi_list (pv 11)) (blkOk_by (N := nLaw) (sc := defScope sLaw) (by decide +kernel)) (fun _ _ _ _ _ => pg_name (i := 20) scLaw.nd rfl (Or.inl rfl)) (fun pins0 σ0 sb Hb C cl fp I0 hfp => pts_one (pt_cmpR (op_neDK K rfl hr.units) (pe_toldB (TT := TTe K E) (k := 8) I0 hfp (by rfl) mTo kpTo lkTo hcdTo bTo scTold rfl (Or.inl rfl) (told_okEK (K0 := K) (mg0 := mg) rfl rfl E T) (hr.mono (by first | omega | decide)) (pv 20)) (pe_tup (pa_cons pe_str pa_nil)) (nomark _))) (fun _ _ _ _ _ => pv 20)) (pe_lst pa_nil) (nomark _))
                  (pss_one (ps_ret pe_bl))
                  pss_nil))
              (pss_cons (ps_set (i := 8) scLaw.nd rfl (Or.inl rfl) (pe_callB (DLR.cr_sortedTI (in64P hr)) (by rfl) T.sorted (by decide +kernel) (pa_cons (pv 8) pa_nil)))
              (pss_cons (ps_set (i := 12) scLaw.nd rfl (Or.inl rfl) (pe_lst pa_nil))
              (pss_cons (ps_for PassesOwn.never rfl (pi_list (pv 8)) (pg_name (i := 13) scLaw.nd rfl (Or.inr rfl))
                  (pss_cons (ps_set (i := 14) scLaw.nd rfl (Or.inl rfl) (pe_callB (cr_sum rfl) (by rfl) T.sum (by decide +kernel) (pa_cons (pe_lc (own := [("_law_k", 21)]) (g := gName 21) (tt := tYes) rfl scLaw.nd (pi_range1 rfl T.range (pa_cons (pe_callB call_len_seq (by rfl) T.len PySem.boot_len (pa_cons (pv 13) pa_nil)) pa_nil)) (blkOk_by (N := nLaw) (sc := defScope sLaw) (by decide +kernel)) (fun _ _ _ _ _ => (pg_name (i := 21) scLaw.nd rfl (Or.inl rfl))) (fun _ _ _ _ _ => pts_nil) (fun _ _ _ _ _ => (pe_call GLCost (hr.mono (by first | omega | decide)) (by rfl) cLCost.m cLCost.F.kp cLCost.b .nil pass0 (pa_cons (pv 6) (pa_cons (pv 7) (pa_cons (pe_ix (ix_tupK K rfl) (pv 13) (pe_op op_sub (pv 21) pe_int) (fun _ _ => rfl)) (pa_cons (pe_ix (ix_tupK K rfl) (pv 13) (pv 21) (fun _ _ => rfl)) pa_nil))))))) pa_nil)))
                  (pss_cons (ps_set (i := 15) scLaw.nd rfl (Or.inl rfl) (pe_callB (cr_sum rfl) (by rfl) T.sum (by decide +kernel) (pa_cons (pe_lc (own := [("_law_row", 22)]) (g := gName 22) (tt := tYes) rfl scLaw.nd (pi_tup (pv 13)) (blkOk_by (N := nLaw) (sc := defScope sLaw) (by decide +kernel)) (fun _ _ _ _ _ => (pg_name (i := 22) scLaw.nd rfl (Or.inl rfl))) (fun _ _ _ _ _ => pts_nil) (fun _ _ _ _ _ => (pe_op op_add pe_int (pe_call GLWork (hr.mono (by first | omega | decide)) (by rfl) cLWork.m cLWork.F.kp cLWork.b .nil pass0 (pa_cons (pe_ix (ix_tupK K rfl) (pv 6) (pv 22) (fun _ _ => rfl)) pa_nil))))) pa_nil)))
                  (pss_one (ps_expr (pe_bm PySem.F.plainAttrs_list PySem.F.slot_list_append PySem.F.type_list_append mt_append (pv 12) (pa_cons (pe_tup (pa_cons (pv 13) (pa_cons (pv 14) (pa_cons (pe_op op_mul (pe_op op_fdiv (pe_op op_sub (pe_op op_add (pv 15) (pe_ix ix_tup (pv 7) pe_int (fun _ _ => rfl))) pe_int) (pe_ix ix_tup (pv 7) pe_int (fun _ _ => rfl))) (pe_ix ix_tup (pv 7) pe_int (fun _ _ => rfl))) pa_nil)))) pa_nil)))))))
              (pss_one (ps_for PassesOwn.never rfl (pi_range1 rfl T.range (pa_cons pe_int pa_nil)) (pg_name (i := 16) scLaw.nd rfl (Or.inl rfl))
                  (pss_cons (ps_setLcE (i := 17) (own := [("_law_work_here", 20)]) (g := gName 20) rfl scLaw.nd rfl rfl (sw_true rfl rfl rfl (by decide +kernel)) (pi_list (pv 11)) (blkOk_by (N := nLaw) (sc := defScope sLaw) (by decide +kernel)) (fun _ _ _ _ _ => pg_name (i := 20) scLaw.nd rfl (Or.inl rfl)) (fun pins0 σ0 sb Hb C cl fp I0 hfp => pe_lamB (k := 8) (i := 20) I0 hfp (hr.mono (by first | omega | decide)) rfl (Or.inl rfl)))
                  (pss_cons (ps_if (pt_not (pt_val (pe_call GLike (hr.mono (by first | omega | decide)) (by rfl) cLike.m cLike.F.kp cLike.b .nil pass0 (pa_cons (pv 17) (pa_cons (pe_lst (pa_cons (pv 8) (pa_cons (pv 12) pa_nil))) pa_nil)))))
                      (pss_one (ps_ret pe_bl))
                      pss_nil)
                  (pss_one (ps_for PassesOwn.never rfl (pi_list (pv 17)) (pg_name (i := 18) scLaw.nd rfl (Or.inl rfl))
                      (pss_one (ps_expr (pe_bm PySem.F.plainAttrs_list PySem.F.slot_list_append PySem.F.type_list_append mt_append (pv 18) (pa_cons (pe_tup pa_nil) pa_nil)))))))))))))))))))))))
      (pss_cons (ps_set (i := 19) scLaw.nd rfl (Or.inr rfl) (pe_tup (pa_cons (pe_tup pa_nil) (pa_cons (pe_callTy call_tuple_of (by rfl) T.tuple (by decide +kernel) (pa_cons (pe_lc (own := [("_law_k", 21)]) (g := gName 21) (tt := tYes) rfl scLaw.nd (pi_range1 rfl T.range (pa_cons pe_int pa_nil)) (blkOk_by (N := nLaw) (sc := defScope sLaw) (by decide +kernel)) (fun _ _ _ _ _ => (pg_name (i := 21) scLaw.nd rfl (Or.inl rfl))) (fun _ _ _ _ _ => pts_nil) (fun _ _ _ _ _ => (pe_tup (pa_cons pe_str (pa_cons (pe_op op_mod (pe_op op_add (pv 21) pe_int) pe_int) (pa_cons (pe_op op_mod (pe_op op_add (pv 21) pe_int) pe_int) pa_nil)))))) pa_nil)) pa_nil))))
      (pss_one (ps_ret (pe_cmpR (op_eqD hr.units) (pe_told (k := 8) (by rfl) mTo kpTo lkTo hcdTo bTo scTold rfl (Or.inl rfl) (told_okE E T) (hr.mono (by first | omega | decide)) (pe_lam0 (k := 8) (T := [(Pt, qL)]) TB rfl (tab_mem (by rfl)) (tab_one (by rfl)) (lamN_by (N := nLaw) (sc := defScope sLaw) (by decide +kernel)) rfl (fun _ _ _ _ _ => rfl) (fun A2 outer2 s2 H2 E2 f2 c2 hr2 => (pe_call GLoops (hr2.mono (by first | omega | decide)) (by rfl) cLoops.m cLoops.F.kp cLoops.b .nil (L2.passes_call (takes_of rfl rfl rfl rfl) (fun _ _ _ _ h => h)) (pa_cons (pv 19) pa_nil))))) (pe_tup (pa_cons pe_str pa_nil)) (nomark _))))))), ?_⟩
    refine ⟨_, rfl, sa, ns, rfl, hS, hlen, fun d H1 s1 hd hE => ?_⟩
    have L1 : Ct K (noTb H1) H1 d sa Pt ns := ⟨⟨hE.noTb, fun x o _ g => (noTb_of g).1, hE.dice⟩, TabS.nil (s1 _ _ hPt)⟩
    refine ⟨4, rfl, by decide, by decide, ?_⟩
    refine for_range (lo := 0) (n := (4 : Int).toNat) (fun i σ H' => ∃ (x2 x3 x4 x5 x6 x7 x8 x9 x10 x11 x12 x13 x14 x15 x16 x17 x18 x19 x20 x21 x22 : Option V), σ = [some (.ref sa), some (.ref d), x2, x3, x4, x5, x6, x7, x8, x9, x10, x11, x12, x13, x14, x15, x16, x17, x18, x19, x20, x21, x22] ∧ Ct K (noTb H1) H' d sa Pt ns)
      ⟨none, none, none, none, none, none, none, none, none, none, none, none, none, none, none, none, none, none, none, none, none, rfl, L1⟩ ?_ ?_
    · rintro i σ H2 hi ⟨x2, x3, x4, x5, x6, x7, x8, x9, x10, x11, x12, x13, x14, x15, x16, x17, x18, x19, x20, x21, x22, rfl, L2⟩
      refine ⟨_, rfl, d, sa, ns, rfl, L2.ent.ent, fun pa0 p0 H3 C3 hP0 g0 => ?_⟩
      have L3 := L2.dice C3
      dsimp only [gName]
      refine seq_elim (fun σ' H' => ∃ (z4 z5 z6 z7 z8 z9 z10 z11 z12 z13 z14 z15 z16 z17 z18 z19 z20 z21 z22 : Option V) (pa : Addr) (p : Prog), σ' = [some (.ref sa), some (.ref d), some (.int (0 + (i : Int))), some (.ref pa), z4, z5, z6, z7, z8, z9, z10, z11, z12, z13, z14, z15, z16, z17, z18, z19, z20, z21, z22] ∧ Ct K (noTb H1) H' d sa Pt ns ∧ ProgAt H' pa p ∧ Good p) ?_ ?_
      · rintro σ' H4 ⟨z4, z5, z6, z7, z8, z9, z10, z11, z12, z13, z14, z15, z16, z17, z18, z19, z20, z21, z22, pa, p, rfl, L4, hP, g⟩
        obtain ⟨wa, ra, bs, hpa, hwa, hra, hR⟩ := id hP
        have hbr := Paired.length hR
        have r1 := g.r1
        have r40 := g.r40
        refine ⟨_, rfl, pa, _, _, _, rfl, rfl, SqT.of hpa, at1, ?_⟩
        dsimp only [gName]
        refine ⟨_, rfl, _, rfl, d, sa, ns, pa, p, 3, rfl, L4.ent.ent, hP, g, by decide, by decide, fun ya y H5 C5 hY yk _ => ?_⟩
        have L5 := L4.dice C5
        dsimp only [gName]
        refine ⟨Nat.zero_le _, fun fl hfl => ?_⟩
        refine alloc hfl fun H6 s6 e6 => ?_
        refine ⟨Nat.zero_le _, fun kl hkl => ?_⟩
        refine alloc hkl fun H7 s7 e7 => ?_
        have s67 := s6.trans s7
        have L7 := L5.same s67
        have nfl : noTb H1 fl = none := L5.ent.here hfl
        have nkl : noTb H1 kl = none := (L5.same s6).ent.here hkl
        have K47 : Kp H4 H7 := C5.kp.trans (Kp.same s67)
        have hra7 := K47 _ _ hra
        have hR7 := RowsAt.kp hR K47
        have hP7 := hP.kp K47
        have hY7 := hY.kp (Kp.same s67)
        have fkne : fl ≠ kl := fun z => by rw [z, s6.free hkl] at hfl; rw [← z, e6] at hkl; cases hkl
        refine ⟨_, _, rfl, ?_⟩
        refine ⟨_, rfl, ra, _, rfl, .inr (SqT.of hra7), _, rfl, by omega, by rw [List.length_map]; omega, ?_⟩
        rw [List.length_map, hbr]
        refine for_range (lo := 0) (n := ((p.rows.length : Nat) : Int).toNat) (fun j σ H' => ∃ x10 : Option V, σ = [some (.ref sa), some (.ref d), some (.int (0 + (i : Int))), some (.ref pa), z4, z5, some (.ref ra), some (.ref ya), some (.ref fl), some (.ref kl), x10, z11, z12, z13, z14, z15, z16, z17, z18, z19, z20, z21, z22] ∧ LLA H7 H' fl kl (lawAll p.rows (List.range j) ([], 0)))
          ⟨z10, rfl, ⟨fun a o e _ _ => e, ⟨[], s7 _ _ e6, .nil⟩, e7⟩⟩ ?_ ?_
        · rintro j σ H8 hj ⟨x10, rfl, L8⟩
          rw [Int.toNat_natCast] at hj
          have kp8 := L8.kp (s7 _ _ e6) e7
          obtain ⟨bm8, ⟨fs8, f8, t8⟩, k8⟩ := id L8
          refine ⟨_, rfl, _, rfl, _, rfl, (by show 1 ≤ sizeLine; decide), fun pl hpl => ?_⟩
          refine alloc hpl fun H9 s9 e9 => ?_
          have mx := lawAll_max (rows := p.rows) (List.range j) ([], 0)
          obtain ⟨_, q, hq1, hq2⟩ := lawAll_grow (rows := p.rows) (List.range j) ([], 0)
          rw [List.length_range] at mx
          have hq3 : (lawAll p.rows (List.range j) ([], 0)).1.length = q.length := by rw [hq1]; simp
          dsimp only at mx hq2
          refine ⟨_, rfl, _, rfl, ra, pl, fl, kl, bs, p, j, [j], lawAll p.rows (List.range j) ([], 0), ?_, s9 _ _ (kp8 _ _ hra7), RowsAt.kp hR7 (kp8.trans (Kp.same s9)), g, ?_, Str_.one hj, by show p.rows.length + 1 ≤ 41 + 1; omega, by decide, by omega, by omega, fkne, (fun z => by rw [z, f8] at hpl; cases hpl), (fun z => by rw [z, k8] at hpl; cases hpl), ⟨fun a o e _ _ => e, ⟨fs8, s9 _ _ f8, TupsN.kp t8 (Kp.same s9)⟩, s9 _ _ k8⟩, fun H10 L10 => ?_⟩
          · show [V.ref ra, V.int (0 + (j : Int)), V.ref pl, V.ref fl, V.ref kl] = _
            rw [Int.zero_add]
            rfl
          · rw [e9, Int.zero_add]
            rfl
          · refine ⟨_, rfl, ?_⟩
            rw [lawAll_snoc]
            exact ⟨fun a o e x y => L10.but _ _ (s9 _ _ (bm8 _ _ e x y)) x y, L10.ex, L10.hk⟩
        rintro σ H8 ⟨x10, rfl, L8⟩
        rw [Int.toNat_natCast] at L8
        obtain ⟨G, hG⟩ : ∃ G, G = lawAll p.rows (List.range p.rows.length) ([], 0) := ⟨_, rfl⟩
        obtain ⟨lp1, lp2⟩ := law_loops (goes2_of g) r40
        rw [← hG] at L8 lp1 lp2
        have kp8 := L8.kp (s7 _ _ e6) e7
        have C8 := L7.two L8.but nfl nkl (s7 _ _ e6) e7
        obtain ⟨bm8, ⟨fs, f8, t8⟩, k8⟩ := L8
        have hP8 := hP7.kp kp8
        have hY8 := hY7.kp kp8
        dsimp only
        refine ⟨C8.tabs, fun v1 H9 x9 T9 V1 => ?_⟩
        have C9 := C8.ext x9 T9
        refine ⟨C9.tabs, fun v2 H10 x10' T10 V2 => ?_⟩
        have C10 := C9.ext x10' T10
        refine ⟨(by show 2 ≤ sizeLine; decide), fun wl hwl => ?_⟩
        refine alloc hwl fun H11 s11 e11 => ?_
        have C11 := C10.same s11
        have nt : ∀ {xs : List V} (ps : Array Value), HO.lst xs ≠ .tbl ps := fun ps z => by cases z
        have x811 : ExtN H8 H11 := x9.trans (x10'.trans (ExtN.of s11))
        have f11 := x811 _ _ f8 nt
        have k11 := x811 _ _ k8 nt
        have kp811 : Kp H8 H11 := Kp.ext x811
        have t11 := TupsN.kp t8 kp811
        have hP11 := hP8.kp kp811
        have hY11 := hY8.kp kp811
        have hfs := tups_len t8
        have V1' : LamV (cxOf CX0 P w K mg base nLaw "law" (defScope sLaw) fa (Value.ref cc) A outer s H E').nox 8 H11 v1 (fun E2 => tCall (spLoops TMA) [] E2 (tCons (tVar 3) tNil)) := V1.keep fun b o h n _ => s11 _ _ (x10' _ _ h n)
        have V2' : LamV (cxOf CX0 P w K mg base nLaw "law" (defScope sLaw) fa (Value.ref cc) A outer s H E').nox 8 H11 v2 (fun E2 => tCall (spLoopBeats TMA) [] E2 (tCons (tVar 3) (tCons (tVar 7) tNil))) := V2.keep fun b o h n _ => s11 _ _ h
        dsimp only [gName]
        refine if_elim (fun b H' => H' = H11 ∧ (b = true ↔ (3000 < G.2 ∨ 100 < G.1.length))) ?_ ?_
        · rintro b H' ⟨rfl, hb⟩
          cases b with
          | true =>
            have hno := lp1 (hb.mp rfl)
            have M1 : LamD (cxOf CX0 P w K mg base nLaw "law" (defScope sLaw) fa (Value.ref cc) A outer s H E').nox 8 (S13 pa ya p y) (B13 TMA) H' v1 := ⟨_, V1', fun E σ H' Q hS hB => ⟨_, hS.1, pa, p, rfl, hS.2.2.1, g, fun _ => hB, fun L hL => (by rw [hno] at hL; cases hL)⟩⟩
            have M2 : LamD (cxOf CX0 P w K mg base nLaw "law" (defScope sLaw) fa (Value.ref cc) A outer s H E').nox 8 (S13 pa ya p y) (B13 TMA) H' v2 := ⟨_, V2', fun E σ H' Q hS hB => ⟨_, hS.1, _, hS.2.1, pa, ya, p, y, rfl, hS.2.2.1, g, hS.2.2.2, yk, fun _ => hB, fun L hL => (by rw [hno] at hL; cases hL)⟩⟩
            refine iteT ⟨_, rfl, wl, rfl, ⟨_, SqL.of e11⟩, fun dd hdd => ?_⟩
            refine lc_list (K := K) (a := wl) (xs := [v1, v2]) (fun j H'' => H'' dd = some (.lst []) ∧ Same1 H' H'') ⟨upd_same, Same.new hdd⟩ (fun j H'' _ ⟨_, q⟩ => SqL.of (q _ _ e11)) ?_ ?_
            · rintro j v H27 hv ⟨hD27, s27⟩
              have hv27 : ∀ v ∈ [v1, v2], LamD (cxOf CX0 P w K mg base nLaw "law" (defScope sLaw) fa (Value.ref cc) A outer s H E').nox 8 (S13 pa ya p y) (B13 TMA) H27 v := fun v hv => by
                simp only [List.mem_cons, List.not_mem_nil, or_false] at hv
                rcases hv with rfl | rfl
                · exact M1.same s27
                · exact M2.same s27
              obtain ⟨t, ⟨f1, c1, o1, sc1, dT1, rfl, l1, l2, l3, l4, l5⟩, run⟩ := hv27 v (List.mem_of_getElem? hv)
              refine ⟨rfl, .ref f1, rfl, f1, c1, o1, sc1, dT1, t, rfl, l2, l4, l5, l1, l3, ?_⟩
              refine run _ _ _ _ ⟨rfl, rfl, hP11.kp (Kp.same s27), hY11.kp (Kp.same s27)⟩ fun H28 s28 => toldX_kind kTM fun t29 H29 s29 e29 => ?_
              refine ⟨(by show 1 ≤ sizeLine; decide), fun t30 ht30 => ?_⟩
              refine alloc ht30 fun H30 s30 e30 => ?_
              refine ⟨.tuple [.str "many"], .tuple [.str "many"], .tup (SqT.of (s30 _ _ e29)) (.cons (.str _) .nil), .tup (SqT.of e30) (.cons (.str _) .nil), by decide +kernel, by decide +kernel, ?_⟩
              rw [show (!PyData.eqv (.tuple [.str "many"]) (.tuple [.str "many"])) = false by decide +kernel]
              exact ⟨_, rfl, iteF ⟨(s28.trans (s29.trans s30)) _ _ hD27, s27.trans (s28.trans (s29.trans s30))⟩⟩
            rintro H27 ⟨hD27, s27⟩
            refine ⟨Nat.zero_le _, fun l28 hl28 => ?_⟩
            refine alloc hl28 fun H28 s28 e28 => ?_
            refine ⟨.list [], .list [], .lst (SqL.of (s28 _ _ hD27)) .nil, .lst (SqL.of e28) .nil, by decide +kernel, by decide +kernel, ?_⟩
            rw [show (!PyData.eqv (.list []) (.list [])) = false by decide +kernel]
            refine ⟨_, rfl, iteF ?_⟩
            exact ⟨_, _, _, _, _, _, _, _, _, _, _, _, _, _, _, _, _, _, _, _, _, rfl, C11.same (s27.trans s28)⟩
          | false =>
            have hL := lp2 fun q => by have := hb.mpr q; cases this
            have hstr : ∀ s ∈ G.1, Str_ p.rows.length s := by
              rw [hG]
              exact lawAll_str (goes2_of g) _ _ (fun b hb => List.mem_range.mp hb) (fun s hs => by cases hs)
            have hG100 : G.1.length ≤ 100 := by
              have h := mt hb.mpr (by decide : ¬ (false = true))
              omega
            refine iteF ⟨_, rfl, fl, fs, G.1, rfl, SqL.of f11, t11, fun s hs => (hstr s hs).ne, fun cs pp hpp hcl hcs => ?_⟩
            obtain ⟨L, eL⟩ : ∃ L, L = sortI2 G.1 := ⟨_, rfl⟩
            have pL : L.Perm G.1 := by rw [eL]; exact List.mergeSort_perm _ _
            rw [← eL] at hcs hL
            have hLs : ∀ s ∈ L, Str_ p.rows.length s := fun s hs => hstr s (pL.mem_iff.mp hs)
            have hL100 : L.length ≤ 100 := by rw [pL.length_eq]; exact hG100
            refine alloc hpp fun H12 s12 e12 => ?_
            dsimp only [gName]
            refine ⟨Nat.zero_le _, fun sl hsl => ?_⟩
            refine alloc hsl fun H13 s13 e13 => ?_
            dsimp only [gName]
            have C12 := C11.same s12
            have hP12 := hP11.kp (Kp.same s12)
            have hY12 := hY11.kp (Kp.same s12)
            have hR12 := RowsAt.kp hR7 ((kp8.trans kp811).trans (Kp.same s12))
            have hra12 := s12 _ _ (kp811 _ _ (kp8 _ _ hra7))
            have hcs12 : TupsN H12 cs L := TupsN.kp (show TupsN H' cs L from hcs) (Kp.same s12)
            have hcl2 := tups_len hcs12
            have nsl : H12 sl = none := hsl
            refine ⟨_, rfl, pp, rfl, ⟨_, SqL.of (s13 _ _ e12)⟩, ?_⟩
            refine for_list (K := K) (a := pp) (xs := cs.map V.ref) (fun j σ H'' => ∃ (x13 x14 x15 : Option V) (us : List Addr), σ = [some (.ref sa), some (.ref d), some (.int (0 + (i : Int))), some (.ref pa), z4, z5, some (.ref ra), some (.ref ya), some (.ref pp), some (.ref kl), x10, some (.ref wl), some (.ref sl), x13, x14, x15, z16, z17, z18, z19, z20, z21, z22] ∧ Same1 H12 H'' ∧ H'' sl = some (.lst (us.map V.ref)) ∧ ToldAt y p.rows H'' us (L.take j))
              ⟨_, _, _, [], rfl, s13, e13, .nil⟩ (fun j σ H'' _ ⟨_, _, _, _, _, q, _⟩ => SqL.of (q _ _ e12)) ?_ ?_
            · rintro j v σ H14 hv ⟨x13, x14, x15, us, rfl, s14, e14, hU⟩
              have hjc : j < cs.length := by
                have q := (List.getElem?_eq_some_iff.mp hv).1
                rwa [List.length_map] at q
              have ev : v = .ref cs[j] := by
                rw [List.getElem?_map, List.getElem?_eq_getElem hjc] at hv
                exact (Option.some.inj hv).symm
              subst ev
              obtain ⟨sv, hq1, hq2⟩ := Paired.get (TupsN.kp hcs12 (Kp.same s14)) (List.getElem?_eq_getElem hjc)
              have hsv := hLs sv (List.mem_of_getElem? hq1)
              have hsvl := hsv.len
              have hbl := Paired.length hU
              rw [List.length_take] at hbl
              have rlen := roundL_len hsv.ne
              have hP14 := hP12.kp (Kp.same s14)
              have hY14 := hY12.kp (Kp.same s14)
              have hR14 := RowsAt.kp hR12 (Kp.same s14)
              have hra14 := s14 _ _ hra12
              dsimp only [gName]
              refine ⟨_, rfl, cs[j], _, rfl, .inr (SqT.of hq2), _, rfl, by omega, by rw [List.length_map]; omega, fun t15 ht15 => ?_⟩
              refine lc_range (lo := 0) (n := (((sv.map nI).length : Nat) : Int).toNat) (fun k H'' => Same1 H14 H'' ∧ H'' t15 = some (.lst ((((roundL sv).take k).map fun q => costF y p.rows q.1 q.2).map V.int))) ⟨Same.new ht15, upd_same⟩ ?_ ?_
              · rintro k H15 hk ⟨s15, e15⟩
                rw [List.length_map, Int.toNat_natCast] at hk
                have hq15 := s15 _ _ hq2
                obtain ⟨lt1, lt2⟩ := round_lt hsv hk
                refine ⟨rfl, _, rfl, _, rfl, _, rfl, _, rfl, _, _, rfl, rfl, cs[j], _, _, _, rfl, rfl, SqT.of hq15, round_atI hsv hk, _, rfl, _, rfl, cs[j], _, _, _, rfl, rfl, SqT.of hq15, round_atK hk, ra, ya, bs, p, y, _, _, rfl, s15 _ _ hra14, RowsAt.kp hR14 (Kp.same s15), g, hY14.kp (Kp.same s15), yk, lt1, lt2, fun H16 s16 => ?_⟩
                have e16 := s16 _ _ e15
                refine ⟨_, e16, szl (by rw [List.length_map, List.length_map, List.length_take]; omega), Same.mut (s15.trans s16) ht15, ?_⟩
                rw [upd_same, List.take_add_one, roundL_at hk, List.map_append, List.map_append]
                rfl
              · rintro H15 ⟨s15, e15⟩
                rw [List.length_map, Int.toNat_natCast, ← rlen, List.take_length] at e15
                refine ⟨t15, _, rfl, SqL.of e15, ?_⟩
                dsimp only [gName]
                rw [takes_round hsv.ne]
                have hq15 := s15 _ _ hq2
                refine ⟨_, rfl, cs[j], rfl, ⟨_, SqT.of hq15⟩, fun t16 ht16 => ?_⟩
                refine lc_tup (K := K) (a := cs[j]) (xs := sv.map nI) (fun k H'' => Same1 H15 H'' ∧ H'' t16 = some (.lst (((sv.take k).map fun x => 1 + lworkF (p.rows.getD x .stop)).map V.int))) ⟨Same.new ht16, upd_same⟩ (fun k H'' _ ⟨q, _⟩ => SqT.of (q _ _ hq15)) ?_ ?_
                · rintro k z H16 hk ⟨s16, e16⟩
                  rw [List.getElem?_map] at hk
                  cases hz : sv[k]? with
                  | none => rw [hz] at hk; cases hk
                  | some x =>
                  rw [hz] at hk
                  have ez : nI x = z := Option.some.inj hk
                  subst ez
                  have hxl : x < p.rows.length := hsv.lt x (List.mem_of_getElem? hz)
                  have S16 := s15.trans s16
                  have hlb : x < bs.length := by omega
                  obtain ⟨r, h1, h2⟩ := Paired.get (RowsAt.kp hR14 (Kp.same S16)) (List.getElem?_eq_getElem hlb)
                  have er : r = p.rows.getD x .stop := by rw [List.getD_eq_getElem?_getD, h1]; rfl
                  subst er
                  refine ⟨rfl, _, rfl, _, rfl, ra, _, _, _, rfl, rfl, SqT.of (S16 _ _ hra14), atI_nat (show (bs.map V.ref)[x]? = some (.ref bs[x]) by rw [List.getElem?_map, List.getElem?_eq_getElem hlb]; rfl), bs[x], _, rfl, h2, fun H17 s17 => ⟨_, _, rfl, rfl, ?_⟩⟩
                  have e17 := s17 _ _ e16
                  refine ⟨_, e17, szl (by rw [List.length_map, List.length_map, List.length_take]; omega), Same.mut (s16.trans s17) ht16, ?_⟩
                  rw [upd_same, List.take_add_one, hz, List.map_append, List.map_append]
                  rfl
                · rintro H16 ⟨s16, e16⟩
                  rw [List.length_map, List.take_length] at e16
                  refine ⟨t16, _, rfl, SqL.of e16, ?_⟩
                  dsimp only [gName]
                  rw [least_round]
                  have S16 : Same1 H14 H16 := s15.trans s16
                  obtain ⟨ypl, yhl, ycs, hyb, _⟩ := hY14.kp (Kp.same S16)
                  have e14b := S16 _ _ e14
                  have w2 := yk.w2
                  refine ⟨_, rfl, .inl ⟨rfl, _, SqL.of e14b⟩, _, rfl, _, rfl, _, rfl, _, rfl, ya, _, _, _, rfl, rfl, SqT.of hyb, at0, _, _, rfl, rfl, _, _, rfl, rfl, _, rfl, ya, _, _, _, rfl, rfl, SqT.of hyb, at0, _, _, rfl, rfl, ⟨by omega, by have := yk.w24; omega⟩, _, rfl, ya, _, _, _, rfl, rfl, SqT.of hyb, at0, _, _, rfl, rfl, .inr ⟨by omega, by have := yk.w24; omega⟩, (by show 3 ≤ sizeLine; decide), fun t17 ht17 => ?_⟩
                  refine alloc ht17 fun H17 s17 e17 => ?_
                  have S17 := S16.trans s17
                  have e14c := S17 _ _ e14
                  refine ⟨sl, _, _, rfl, rfl, e14c, szl (by rw [List.length_map]; omega), _, _, _, us ++ [t17], rfl, Same.mut (s14.trans S17) nsl, by rw [upd_same, List.map_append]; rfl, ?_⟩
                  rw [List.take_add_one, hq1]
                  refine ToldAt.kp (Paired.app (ToldAt.kp hU (Kp.same S17)) (Paired.one ⟨cs[j], ?_, S17 _ _ hq2⟩)) (Kp.lst e14c)
                  rw [show fewF y p.rows sv = (leastF p.rows (wayF sv) + (y.wide : Int) - 1) / (y.wide : Int) * (y.wide : Int) from (round_up _ (by omega)).symm]
                  exact e17
            · rintro σ H14 ⟨x13, x14, x15, us, rfl, s14, e14, hU⟩
              rw [List.length_map, hcl2, List.take_length] at hU
              have C14 := C12.same s14
              have s1114 := s12.trans s14
              have V1'' := V1'.keep fun b o h _ _ => s1114 _ _ h
              have V2'' := V2'.keep fun b o h _ _ => s1114 _ _ h
              have hP14 := hP12.kp (Kp.same s14)
              have hY14 := hY12.kp (Kp.same s14)
              have e14p := s14 _ _ e12
              have e14w := s1114 _ _ e11
              have hcs14 := TupsN.kp hcs12 (Kp.same s14)
              refine ⟨2, rfl, by decide, by decide, ?_⟩
              refine for_range (lo := 0) (n := (2 : Int).toNat) (fun q σ H'' => ∃ (x16 x17 x18 : Option V), σ = [some (.ref sa), some (.ref d), some (.int (0 + (i : Int))), some (.ref pa), z4, z5, some (.ref ra), some (.ref ya), some (.ref pp), some (.ref kl), x10, some (.ref wl), some (.ref sl), x13, x14, x15, x16, x17, x18, z19, z20, z21, z22] ∧ Same1 H14 H'')
                ⟨_, _, _, rfl, fun a o e => e⟩ ?_ ?_
              · rintro q σ H15 hq ⟨x16, x17, x18, rfl, s15⟩
                dsimp only [gName]
                have W1 := V1''.keep fun b o h _ _ => s15 _ _ h
                have W2 := V2''.keep fun b o h _ _ => s15 _ _ h
                have hP15 := hP14.kp (Kp.same s15)
                have hY15 := hY14.kp (Kp.same s15)
                have e15w := s15 _ _ e14w
                refine ⟨_, rfl, wl, rfl, ⟨_, SqL.of e15w⟩, fun dd hdd => ?_⟩
                refine lc_list (K := K) (a := wl) (xs := [v1, v2]) (fun j H16 => Same1 H15 H16 ∧ ((j = 0 ∧ H16 dd = some (.lst [])) ∨ ∃ (l1 : Addr) (bs1 : List Addr), H15 l1 = none ∧ l1 ≠ dd ∧ H16 l1 = some (.lst (bs1.map V.ref)) ∧ TupsN H16 bs1 L ∧ ((j = 1 ∧ H16 dd = some (.lst [.ref l1])) ∨ (j = 2 ∧ ∃ (l2 : Addr) (us2 : List Addr), H15 l2 = none ∧ l2 ≠ dd ∧ l1 ≠ l2 ∧ H16 l2 = some (.lst (us2.map V.ref)) ∧ ToldAt y p.rows H16 us2 L ∧ H16 dd = some (.lst [.ref l1, .ref l2])))))
                  ⟨Same.new hdd, .inl ⟨rfl, upd_same⟩⟩ (fun j H16 _ ⟨q, _⟩ => SqL.of (q _ _ e15w)) ?_ ?_
                · rintro j v H16 hv ⟨s16, h16⟩
                  have W1' := W1.keep fun b o h _ _ => s16 _ _ h
                  have W2' := W2.keep fun b o h _ _ => s16 _ _ h
                  have hP16 := hP15.kp (Kp.same s16)
                  have hY16 := hY15.kp (Kp.same s16)
                  refine ⟨rfl, ?_⟩
                  dsimp only [tYes]
                  rw [if_pos rfl]
                  rcases h16 with ⟨rfl, e16⟩ | ⟨l1, bs1, n1, d1, f1, t1, ⟨rfl, e16⟩ | ⟨rfl, _⟩⟩
                  · have ev : v1 = v := Option.some.inj hv
                    subst ev
                    obtain ⟨f1, c1, o1, sc1, dT1, rfl, l1, l2, l3, l4, l5⟩ := W1'
                    refine ⟨f1, c1, o1, sc1, dT1, _, rfl, l2, l4, l5, l1, l3, ?_⟩
                    refine ⟨_, rfl, pa, p, rfl, hP16, g, fun hn => (by rw [hL] at hn; cases hn), fun L' hL' _ _ l lbs H17 s17 nl e17 hT => ?_⟩
                    rw [hL] at hL'
                    cases hL'
                    have nld : l ≠ dd := fun z => by rw [z, e16] at nl; cases nl
                    have kp : Kp H17 (upd H17 dd (.lst ([] ++ [V.ref l]))) := Kp.lst (s17 _ _ e16)
                    exact ⟨_, s17 _ _ e16, (by show 0 < sizeLine; decide), Same.mut (s16.trans s17) hdd, .inr ⟨l, lbs, s16.free nl, nld, by rw [upd_ne nld]; exact e17, TupsN.kp hT kp, .inl ⟨rfl, upd_same⟩⟩⟩
                  · have ev : v2 = v := Option.some.inj hv
                    subst ev
                    obtain ⟨f2, c2, o2, sc2, dT2, rfl, l1', l2, l3, l4, l5⟩ := W2'
                    refine ⟨f2, c2, o2, sc2, dT2, _, rfl, l2, l4, l5, l1', l3, ?_⟩
                    refine ⟨_, rfl, _, rfl, pa, ya, p, y, rfl, hP16, g, hY16, yk, fun hn => (by rw [hL] at hn; cases hn), fun L' hL' _ _ l lbs H17 s17 nl e17 hT => ?_⟩
                    rw [hL] at hL'
                    cases hL'
                    have nld : l ≠ dd := fun z => by rw [z, e16] at nl; cases nl
                    have nl1 : l1 ≠ l := fun z => by rw [← z, f1] at nl; cases nl
                    have kp : Kp H17 (upd H17 dd (.lst ([.ref l1] ++ [V.ref l]))) := Kp.lst (s17 _ _ e16)
                    exact ⟨_, s17 _ _ e16, (by show 1 < sizeLine; decide), Same.mut (s16.trans s17) hdd, .inr ⟨l1, bs1, n1, d1, by rw [upd_ne d1]; exact s17 _ _ f1, TupsN.kp t1 ((Kp.same s17).trans kp), .inr ⟨rfl, l, lbs, s16.free nl, nld, nl1, by rw [upd_ne nld]; exact e17, ToldAt.kp hT kp, upd_same⟩⟩⟩
                  · cases hv
                · rintro H16 ⟨s16, h16⟩
                  rcases h16 with ⟨z, _⟩ | ⟨l1, bs1, n1, d1, f1, t1, ⟨z, _⟩ | ⟨_, l2, us2, n2, d2, n12, f2, t2, e16⟩⟩
                  · cases z
                  · cases z
                  dsimp only [gName]
                  refine ⟨_, rfl, _, rfl, _, rfl, (by show 2 ≤ sizeLine; decide), fun ql hql => ?_⟩
                  refine alloc hql fun H17 s17 e17 => ?_
                  have s1417 := (s15.trans s16).trans s17
                  have u14 : H17 sl = some (.lst (us.map V.ref)) := s1417 _ _ e14
                  have k17 : Kp H16 H17 := Kp.same s17
                  have bd : bothD y p.rows L = .lst [.lst (L.map stD), .lst (L.map (tlD y p.rows))] := rfl
                  refine ⟨.ref dd, .ref ql, bothD y p.rows L, rfl, ?_, ?_, bothD_dep _ _ _, bothD_fit hLs (by omega) hL100, ?_⟩
                  · exact zat_lst (s17 _ _ e16) (zats_cons (zat_lst (s17 _ _ f1) (sts_at (TupsN.kp t1 k17))) (zats_cons (zat_lst (s17 _ _ f2) (tls_at (ToldAt.kp t2 k17))) zats_nil))
                  · exact zat_lst e17 (zats_cons (zat_lst (s1417 _ _ e14p) (sts_at (TupsN.kp hcs14 (Kp.same s1417)))) (zats_cons (zat_lst u14 (tls_at (ToldAt.kp hU (Kp.same s1417)))) zats_nil))
                  refine ⟨_, rfl, iteF ⟨_, rfl, dd, rfl, ⟨_, SqL.of (s17 _ _ e16)⟩, ?_⟩⟩
                  have b1 := Paired.length t1
                  have b2 := Paired.length t2
                  refine for_list (K := K) (a := dd) (xs := [V.ref l1, V.ref l2]) (fun j σ H'' => ∃ (x18 : Option V) (xs ys : List V), σ = [some (.ref sa), some (.ref d), some (.int (0 + (i : Int))), some (.ref pa), z4, z5, some (.ref ra), some (.ref ya), some (.ref pp), some (.ref kl), x10, some (.ref wl), some (.ref sl), x13, x14, x15, some (.int (0 + (q : Int))), some (.ref dd), x18, z19, z20, z21, z22] ∧ Same1 H15 H'' ∧ H'' dd = some (.lst [V.ref l1, V.ref l2]) ∧ H'' l1 = some (.lst xs) ∧ xs.length ≤ 100 + j ∧ H'' l2 = some (.lst ys) ∧ ys.length ≤ 100 + j)
                    ⟨_, _, _, rfl, s16.trans s17, s17 _ _ e16, s17 _ _ f1, by rw [List.length_map]; omega, s17 _ _ f2, by rw [List.length_map]; omega⟩ (fun j σ H'' _ ⟨_, _, _, _, _, q, _⟩ => SqL.of q) ?_ ?_
                  · rintro j v σ H18 hv ⟨x18, xs, ys, rfl, s18, g0, g1, m1, g2, m2⟩
                    dsimp only [gName]
                    have hj : j < 2 := (List.getElem?_eq_some_iff.mp hv).1
                    have hv2 : v = .ref l1 ∨ v = .ref l2 := by
                      have := List.mem_of_getElem? hv
                      simpa using this
                    rcases hv2 with rfl | rfl
                    · refine ⟨_, rfl, .inl ⟨rfl, _, SqL.of g1⟩, (by show 0 ≤ sizeLine; decide), fun t ht => ?_⟩
                      refine alloc ht fun H19 s19 e19 => ?_
                      refine ⟨l1, _, _, rfl, rfl, s19 _ _ g1, szl (by omega), _, _, _, rfl, Same.mut (s18.trans s19) n1, (upd_ne d1.symm).trans (s19 _ _ g0), upd_same, by rw [List.length_append]; show xs.length + 1 ≤ _; omega, (upd_ne n12.symm).trans (s19 _ _ g2), by omega⟩
                    · refine ⟨_, rfl, .inl ⟨rfl, _, SqL.of g2⟩, (by show 0 ≤ sizeLine; decide), fun t ht => ?_⟩
                      refine alloc ht fun H19 s19 e19 => ?_
                      refine ⟨l2, _, _, rfl, rfl, s19 _ _ g2, szl (by omega), _, _, _, rfl, Same.mut (s18.trans s19) n2, (upd_ne d2.symm).trans (s19 _ _ g0), (upd_ne n12).trans (s19 _ _ g1), by omega, upd_same, by rw [List.length_append]; show ys.length + 1 ≤ _; omega⟩
                  · rintro σ H18 ⟨x18, xs, ys, rfl, s18, _⟩
                    exact ⟨_, _, _, rfl, s15.trans s18⟩
              · rintro σ H15 ⟨x16, x17, x18, rfl, s15⟩
                exact ⟨_, _, _, _, _, _, _, _, _, _, _, _, _, _, _, _, _, _, _, _, _, rfl, C14.same s15⟩
        · intro F' hF
          refine ⟨_, rfl, kl, _, rfl, .inl (SqL.of k11), _, _, rfl, rfl, _, rfl, ite2 (fun c => ?_) (fun c => ?_)⟩
          · have c := of_decide_eq_true c
            unfold zers at c
            rw [List.length_replicate] at c
            exact hF _ _ ⟨rfl, fun _ => .inl (by omega), fun _ => rfl⟩
          · have c : ¬ 3000 < G.2 := fun q => c (decide_eq_true (by unfold zers; rw [List.length_replicate]; omega))
            refine ⟨_, rfl, fl, _, rfl, .inl (SqL.of f11), _, _, rfl, rfl, _, rfl, hF _ _ ⟨rfl, fun q => .inr ?_, fun q => ?_⟩⟩
            · have q := of_decide_eq_true q
              rw [List.length_map, hfs] at q
              omega
            · rcases q with q | q
              · exact absurd q c
              · exact decide_eq_true (by rw [List.length_map, hfs]; omega)
      · intro N hN
        refine ⟨_, rfl, rfl, _, rfl, ite2 (fun c => ?_) (fun c => ?_)⟩
        · refine ⟨_, rfl, d, sa, ns, _, rfl, L3.ent.ent, by decide, by decide, fun n4 H4 a4 b4 C4 => ⟨_, _, rfl, rfl, ?_⟩⟩
          have L4 := L3.dice C4
          refine ⟨_, rfl, d, sa, ns, _, rfl, L4.ent.ent, by decide, by decide, fun n5 H5 a5 b5 C5 => ⟨_, _, rfl, rfl, (by show 2 ≤ sizeLine; decide), fun t6 ht6 => ?_⟩⟩
          have L5 := L4.dice C5
          refine alloc ht6 fun H6 s6 e6 => ?_
          refine ⟨t6, _, rfl, SqT.of e6, rfl, _, _, rfl, _, _, rfl, rfl, ?_⟩
          obtain ⟨m, rfl⟩ : ∃ j : Nat, n4 = (j : Int) := ⟨n4.toNat, by omega⟩
          obtain ⟨q, rfl⟩ : ∃ j : Nat, n5 = (j : Int) := ⟨n5.toNat, by omega⟩
          dsimp only [gName]
          refine ⟨Nat.zero_le _, fun t7 ht7 => ?_⟩
          refine alloc ht7 fun H7 s7 e7 => ?_
          have en : ((6 + m : Nat) : Int) = (6 : Int) + (m : Int) := by omega
          refine ⟨_, rfl, ((6 + m : Nat) : Int), by rw [en], by omega, by omega, fun l hl => ?_⟩
          refine tests_lc (n := 6 + m) (a := 1) (b := 2 + q) hl (by omega) (fun k H' Q' hk hq => ?_) fun bs H8 s8 e8 bl hR => ?_
          · refine ⟨_, rfl, _, _, rfl, rfl, _, rfl, _, _, rfl, rfl, (by show (0 : Int) < 6 + (m : Int); omega), _, rfl, _, rfl, _, _, rfl, rfl, _, rfl, _, _, rfl, rfl, (by show (0 : Int) < 6 + (m : Int); omega), (by show 3 ≤ sizeLine; decide), fun p hp => ?_⟩
            have e1 : (0 + (k : Int) + 1) % (6 + (m : Int)) = (((k + 1) % (6 + m) : Nat) : Int) := by
              rw [← en, show (0 + (k : Int) + 1) = ((k + 1 : Nat) : Int) by omega]
              rfl
            have e2 : (0 + (k : Int) + (2 + (q : Int))) % (6 + (m : Int)) = (((k + (2 + q)) % (6 + m) : Nat) : Int) := by
              rw [← en, show (0 + (k : Int) + (2 + (q : Int))) = ((k + (2 + q) : Nat) : Int) by omega]
              rfl
            have z : Q' (.ref p) (upd H' p (.tup [.str "test", .int (((k + 1) % (6 + m) : Nat) : Int), .int (((k + (2 + q)) % (6 + m) : Nat) : Int)])) := hq p hp
            rw [← e1, ← e2] at z
            exact z
          · refine ⟨l, _, rfl, .inl ⟨SqL.of e8, fun ra hra => ?_⟩⟩
            refine alloc hra fun H9 s9 e9 => ?_
            refine ⟨(by show 2 ≤ sizeLine; decide), fun pa hpa => ?_⟩
            refine alloc hpa fun H10 s10 e10 => ?_
            have s910 := s9.trans s10
            have s710 := s8.trans s910
            refine hN _ _ ⟨_, _, _, _, _, _, _, _, _, _, _, _, _, _, _, _, _, _, _, pa, testP (6 + m) 1 (2 + q), rfl, L5.same (s6.trans (s7.trans s710)), ⟨t7, ra, bs, e10, s710 _ _ e7, s10 _ _ e9, RowsAt.kp hR (Kp.same s910)⟩, testP_good (by omega) (by omega)⟩
        · exact hN _ _ ⟨_, _, _, _, _, _, _, _, _, _, _, _, _, _, _, _, _, _, _, pa0, p0, rfl, L3, hP0, g0⟩
    · rintro σ H2 ⟨x2, x3, x4, x5, x6, x7, x8, x9, x10, x11, x12, x13, x14, x15, x16, x17, x18, x19, x20, x21, x22, rfl, L2⟩
      refine ⟨Nat.zero_le _, fun t7 ht7 => ?_⟩
      refine alloc ht7 fun H7 s7 e7 => ?_
      refine ⟨((30 : Nat) : Int), rfl, by decide, by decide, fun l hl => ?_⟩
      refine tests_lc (n := 30) (a := 1) (b := 2) hl (by decide) (fun k H' Q' hk hq => ?_) fun bs H8 s8 e8 bl hR => ?_
      · refine ⟨_, rfl, _, _, rfl, rfl, _, _, rfl, rfl, (by show (0 : Int) < 30; decide), _, rfl, _, _, rfl, rfl, _, _, rfl, rfl, (by show (0 : Int) < 30; decide), (by show 3 ≤ sizeLine; decide), fun p hp => ?_⟩
        have e1 : (0 + (k : Int) + 1) % 30 = (((k + 1) % 30 : Nat) : Int) := by omega
        have e2 : (0 + (k : Int) + 2) % 30 = (((k + 2) % 30 : Nat) : Int) := by omega
        have z : Q' (.ref p) (upd H' p (.tup [.str "test", .int (((k + 1) % 30 : Nat) : Int), .int (((k + 2) % 30 : Nat) : Int)])) := hq p hp
        rw [← e1, ← e2] at z
        exact z
      · refine ⟨l, _, rfl, .inl ⟨SqL.of e8, fun ra hra => ?_⟩⟩
        refine alloc hra fun H9 s9 e9 => ?_
        refine ⟨(by show 2 ≤ sizeLine; decide), fun pa hpa => ?_⟩
        refine alloc hpa fun H10 s10 e10 => ?_
        have s910 := s9.trans s10
        have s210 := s7.trans (s8.trans s910)
        have hPf : ProgAt H10 pa (testP 30 1 2) := ⟨t7, ra, bs, e10, (s8.trans s910) _ _ e7, s10 _ _ e9, RowsAt.kp hR (Kp.same s910)⟩
        have gPf : Good (testP 30 1 2) := testP_good (by decide) (by decide)
        have C10 := L2.same s210
        dsimp only [gName]
        refine ⟨C10.tabs, fun v H11 x11 T11 LV => ?_⟩
        obtain ⟨f1, c1, o1, sc1, dT1, rfl, l1, l2, l3, l4, l5⟩ := LV
        refine ⟨f1, c1, o1, sc1, dT1, _, rfl, l2, l4, l5, l1, l3, ?_⟩
        have hno : loopsF (testP 30 1 2).rows = none := by decide +kernel
        refine ⟨_, rfl, pa, testP 30 1 2, rfl, hPf.kp (Kp.ext x11), gPf, fun _ H14 s14 => toldX_kind kTM fun t15 H15 s15 e15 => ?_, fun L hL => (by rw [hno] at hL; cases hL)⟩
        refine ⟨(by show 1 ≤ sizeLine; decide), fun t16 ht16 => ?_⟩
        refine alloc ht16 fun H16 s16 e16 => ?_
        refine ⟨.tuple [.str "many"], .tuple [.str "many"], .tup (SqT.of (s16 _ _ e15)) (.cons (.str _) .nil), .tup (SqT.of e16) (.cons (.str _) .nil), by decide +kernel, by decide +kernel, ?_⟩
        rw [show PyData.eqv (.tuple [.str "many"]) (.tuple [.str "many"]) = true by decide +kernel]
        exact kq _
end
end DL
namespace DL
open PySem L2 DLR
theorem tup_lit {K : Frg} {H : Hp} {t : Addr} {dd : Option Addr} {its : Array Value} {n : Nat} {sl : Array (Option Value)} {l : List Str} (h : K.lookup t = some ⟨.type "tuple", dd, .seq its n, sl⟩) (e : Vals (l.map V.str) its.toList) (hl : l.length ≤ 1000) : SqT K H t (l.map V.str) := by
  refine .inr ⟨_, its, n, h, rfl, rfl, ?_, e⟩
  have q : its.size = l.length := by
    have z := e.length
    rw [List.length_map] at z
    exact z.symm
  rw [q]
  exact sz (by omega)
theorem kit_cls' {K : Frg} {t : Value} {C : Addr} {b : Bool} (i : PySem.W.isClsIn K C = true) (ty : PySem.W.typeIn K (.ref C) = some (.type "type")) (s : PySem.W.subIn K t (.ref C) = some b) : PySem.W.kitCls K t (.ref C) = some b := by
  unfold PySem.W.kitCls
  have h : ((PySem.W.clsIn K C).isSome && PySem.W.typeIn K (.ref C) == some (.type "type")) = true := by
    rw [ty, show (PySem.W.clsIn K C).isSome = true from i]
    rfl
  dsimp only
  rw [if_pos h]
  exact s
theorem kit_no {K : Frg} {D C : Addr} {b : Bool} (n : (D == C) = false) (i : PySem.W.isClsIn K C = true) (ty : PySem.W.typeIn K (.ref C) = some (.type "type")) (s : PySem.W.subIn K (.ref D) (.ref C) = some b) : PySem.W.kitOne K (.ref D) (.ref C) = some b := by
  unfold PySem.W.kitOne
  have ne : ¬ (Value.ref D == Value.ref C) = true := fun z => by
    have e : Value.ref D = Value.ref C := by simpa using z
    injection e with e
    exact ne_of_beq_false n e
  rw [if_neg ne]
  exact kit_cls' i ty s
theorem kit_self {K : Frg} {D : Addr} : PySem.W.kitOne K (.ref D) (.ref D) = some true := by
  unfold PySem.W.kitOne
  rw [if_pos (by simp)]
theorem kit_type {K : Frg} {D : Addr} {T : String} {b : Bool} (m : PySem.W.kitMeta T = true) (s : PySem.W.subIn K (.ref D) (.type T) = some b) : PySem.W.kitOne K (.ref D) (.type T) = some b := by
  unfold PySem.W.kitOne
  have ne : ¬ (Value.ref D == Value.type T) = true := fun z => by
    have e : Value.ref D = Value.type T := by simpa using z
    cases e
  rw [if_neg ne]
  unfold PySem.W.kitCls
  dsimp only
  rw [if_pos m]
  exact s
theorem exm_sub {K : Frg} {D C : Addr} {b : Bool} (bb : PySem.W.subIn K (.ref C) (.type "BaseException") = some true) (i : PySem.W.isClsIn K C = true) (ty : PySem.W.typeIn K (.ref C) = some (.type "type")) (s : PySem.W.subIn K (.ref D) (.ref C) = some b) : PySem.W.exmOne K (.ref D) (.ref C) = some b := by
  unfold PySem.W.exmOne
  rw [bb, if_pos (by rfl)]
  exact kit_cls' i ty s
theorem all_mk {P : Program} {w : World} {K : PySem.W.Frag} {h : Heap} {mg : Str → Option Value} {fa : Addr} (X : K.In h) (G : h.Ns mainGlobals mg) (hfa : mg "law" = some (.ref fa))
    {af0 af1 af2 af3 af4 af5 af6 af7 af8 af9 af10 af11 af12 af13 af14 af15 af16 af17 af18 af19 af20 af21 af22 af23 af24 af25 af26 af27 af28 af29 af30 af31 af32 af33 af34 af35 af36 af37 af38 af39 af40 af41 af42 af43 eBP eBL eBF eBG eBE eTM_ eOV eBT eDE cc tP d p_load p_add p_take p_store p_say p_test p_stop e : Addr} {odf0 anf0 odf1 anf1 odf2 anf2 odf3 anf3 odf4 anf4 odf5 anf5 odf6 anf6 odf7 anf7 odf8 anf8 odf9 anf9 odf10 anf10 odf11 anf11 odf12 anf12 odf13 anf13 odf14 anf14 odf15 anf15 odf16 anf16 odf17 anf17 odf18 anf18 odf19 anf19 odf20 anf20 odf21 anf21 odf22 anf22 odf23 anf23 odf24 anf24 odf25 anf25 odf26 anf26 odf27 anf27 odf28 anf28 odf29 anf29 odf30 anf30 odf31 anf31 odf32 anf32 odf33 anf33 odf34 anf34 odf35 anf35 odf36 anf36 odf37 anf37 odf38 anf38 odf39 anf39 odf40 anf40 odf41 anf41 odf42 anf42 odf43 anf43 ddc pd_load pd_add pd_take pd_store pd_say pd_test pd_stop : Option Addr} {slf0 slf1 slf2 slf3 slf4 slf5 slf6 slf7 slf8 slf9 slf10 slf11 slf12 slf13 slf14 slf15 slf16 slf17 slf18 slf19 slf20 slf21 slf22 slf23 slf24 slf25 slf26 slf27 slf28 slf29 slf30 slf31 slf32 slf33 slf34 slf35 slf36 slf37 slf38 slf39 slf40 slf41 slf42 slf43 slc ps_load ps_add ps_take ps_store ps_say ps_test ps_stop : Array (Option Value)} {its_load its_add its_take its_store its_say its_test its_stop : Array Value} {ocf0 kVf0 dcf0 pmf0 cdf0 ctf0 ocf1 kVf1 dcf1 pmf1 cdf1 ctf1 ocf2 kVf2 dcf2 pmf2 cdf2 ctf2 ocf3 kVf3 dcf3 pmf3 cdf3 ctf3 ocf4 kVf4 dcf4 pmf4 cdf4 ctf4 ocf5 kVf5 dcf5 pmf5 cdf5 ctf5 ocf6 kVf6 dcf6 pmf6 cdf6 ctf6 ocf7 kVf7 dcf7 pmf7 cdf7 ctf7 ocf8 kVf8 dcf8 pmf8 cdf8 ctf8 ocf9 kVf9 dcf9 pmf9 cdf9 ctf9 ocf10 kVf10 dcf10 pmf10 cdf10 ctf10 ocf11 kVf11 dcf11 pmf11 cdf11 ctf11 ocf12 kVf12 dcf12 pmf12 cdf12 ctf12 ocf13 kVf13 dcf13 pmf13 cdf13 ctf13 ocf14 kVf14 dcf14 pmf14 cdf14 ctf14 ocf15 kVf15 dcf15 pmf15 cdf15 ctf15 ocf16 kVf16 dcf16 pmf16 cdf16 ctf16 ocf17 kVf17 dcf17 pmf17 cdf17 ctf17 ocf18 kVf18 dcf18 pmf18 cdf18 ctf18 ocf19 kVf19 dcf19 pmf19 cdf19 ctf19 ocf20 kVf20 dcf20 pmf20 cdf20 ctf20 ocf21 kVf21 dcf21 pmf21 cdf21 ctf21 ocf22 kVf22 dcf22 pmf22 cdf22 ctf22 ocf23 kVf23 dcf23 pmf23 cdf23 ctf23 ocf24 kVf24 dcf24 pmf24 cdf24 ctf24 ocf25 kVf25 dcf25 pmf25 cdf25 ctf25 ocf26 kVf26 dcf26 pmf26 cdf26 ctf26 ocf27 kVf27 dcf27 pmf27 cdf27 ctf27 ocf28 kVf28 dcf28 pmf28 cdf28 ctf28 ocf29 kVf29 dcf29 pmf29 cdf29 ctf29 ocf30 kVf30 dcf30 pmf30 cdf30 ctf30 ocf31 kVf31 dcf31 pmf31 cdf31 ctf31 ocf32 kVf32 dcf32 pmf32 cdf32 ctf32 ocf33 kVf33 dcf33 pmf33 cdf33 ctf33 ocf34 kVf34 dcf34 pmf34 cdf34 ctf34 ocf35 kVf35 dcf35 pmf35 cdf35 ctf35 ocf36 kVf36 dcf36 pmf36 cdf36 ctf36 ocf37 kVf37 dcf37 pmf37 cdf37 ctf37 ocf38 kVf38 dcf38 pmf38 cdf38 ctf38 ocf39 kVf39 dcf39 pmf39 cdf39 ctf39 ocf40 kVf40 dcf40 pmf40 cdf40 ctf40 ocf41 kVf41 dcf41 pmf41 cdf41 ctf41 ocf42 kVf42 dcf42 pmf42 cdf42 ctf42 ocf43 kVf43 dcf43 pmf43 ctf43 : Value} {es es2 : Array DictEntry} {n pn_load pn_add pn_take pn_store pn_say pn_test pn_stop n2 : Nat} {tW tR tN t2 t24 t3 tG tS tx_load tx_add tx_take tx_store tx_say tx_test tx_stop : Tok} {vsc : Array Value} {file18 : Str} {tf18 tg7 tt10 : Tok} {fl7 tx10 : Int} {in9 : Bool}
    (nf0 : PySem.W.nsIn K mainGlobals "_law_next" = some (some (.ref af0)))
    (lf0 : K.lookup af0 = some ⟨ocf0, odf0, .func (PySem.W.fnOf "_law_next" "_law_next" (defArgs sNext) (defBody sNext) (defScope sNext) .none kVf0 dcf0 pmf0 anf0 cdf0 ctf0), slf0⟩)
    (cf0 : PySem.W.codeIn K cdf0 "_law_next" = true)
    (kf0 : PySem.W.keepIn K (.ref af0) = true)
    (nf1 : PySem.W.nsIn K mainGlobals "_law_straight" = some (some (.ref af1)))
    (lf1 : K.lookup af1 = some ⟨ocf1, odf1, .func (PySem.W.fnOf "_law_straight" "_law_straight" (defArgs sStraight) (defBody sStraight) (defScope sStraight) .none kVf1 dcf1 pmf1 anf1 cdf1 ctf1), slf1⟩)
    (cf1 : PySem.W.codeIn K cdf1 "_law_straight" = true)
    (kf1 : PySem.W.keepIn K (.ref af1) = true)
    (nf2 : PySem.W.nsIn K mainGlobals "_law_fork" = some (some (.ref af2)))
    (lf2 : K.lookup af2 = some ⟨ocf2, odf2, .func (PySem.W.fnOf "_law_fork" "_law_fork" (defArgs sFork) (defBody sFork) (defScope sFork) .none kVf2 dcf2 pmf2 anf2 cdf2 ctf2), slf2⟩)
    (cf2 : PySem.W.codeIn K cdf2 "_law_fork" = true)
    (kf2 : PySem.W.keepIn K (.ref af2) = true)
    (nf3 : PySem.W.nsIn K mainGlobals "_law_body" = some (some (.ref af3)))
    (lf3 : K.lookup af3 = some ⟨ocf3, odf3, .func (PySem.W.fnOf "_law_body" "_law_body" (defArgs sBody) (defBody sBody) (defScope sBody) .none kVf3 dcf3 pmf3 anf3 cdf3 ctf3), slf3⟩)
    (cf3 : PySem.W.codeIn K cdf3 "_law_body" = true)
    (kf3 : PySem.W.keepIn K (.ref af3) = true)
    (nf4 : PySem.W.nsIn K mainGlobals "_law_mixed" = some (some (.ref af4)))
    (lf4 : K.lookup af4 = some ⟨ocf4, odf4, .func (PySem.W.fnOf "_law_mixed" "_law_mixed" (defArgs sMixed) (defBody sMixed) (defScope sMixed) .none kVf4 dcf4 pmf4 anf4 cdf4 ctf4), slf4⟩)
    (cf4 : PySem.W.codeIn K cdf4 "_law_mixed" = true)
    (kf4 : PySem.W.keepIn K (.ref af4) = true)
    (nf5 : PySem.W.nsIn K mainGlobals "_law_stopping" = some (some (.ref af5)))
    (lf5 : K.lookup af5 = some ⟨ocf5, odf5, .func (PySem.W.fnOf "_law_stopping" "_law_stopping" (defArgs sStopping) (defBody sStopping) (defScope sStopping) .none kVf5 dcf5 pmf5 anf5 cdf5 ctf5), slf5⟩)
    (cf5 : PySem.W.codeIn K cdf5 "_law_stopping" = true)
    (kf5 : PySem.W.keepIn K (.ref af5) = true)
    (nf6 : PySem.W.nsIn K mainGlobals "_law_any" = some (some (.ref af6)))
    (lf6 : K.lookup af6 = some ⟨ocf6, odf6, .func (PySem.W.fnOf "_law_any" "_law_any" (defArgs sAny) (defBody sAny) (defScope sAny) .none kVf6 dcf6 pmf6 anf6 cdf6 ctf6), slf6⟩)
    (cf6 : PySem.W.codeIn K cdf6 "_law_any" = true)
    (kf6 : PySem.W.keepIn K (.ref af6) = true)
    (nf7 : PySem.W.nsIn K mainGlobals "is_number" = some (some (.ref af7)))
    (lf7 : K.lookup af7 = some ⟨ocf7, odf7, .func (PySem.W.fnOf "is_number" "is_number" (defArgs sIsNumber) (defBody sIsNumber) (defScope sIsNumber) .none kVf7 dcf7 pmf7 anf7 cdf7 ctf7), slf7⟩)
    (cf7 : PySem.W.codeIn K cdf7 "is_number" = true)
    (kf7 : PySem.W.keepIn K (.ref af7) = true)
    (nf8 : PySem.W.nsIn K mainGlobals "is_between" = some (some (.ref af8)))
    (lf8 : K.lookup af8 = some ⟨ocf8, odf8, .func (PySem.W.fnOf "is_between" "is_between" (defArgs sIsBetween) (defBody sIsBetween) (defScope sIsBetween) .none kVf8 dcf8 pmf8 anf8 cdf8 ctf8), slf8⟩)
    (cf8 : PySem.W.codeIn K cdf8 "is_between" = true)
    (kf8 : PySem.W.keepIn K (.ref af8) = true)
    (nf9 : PySem.W.nsIn K mainGlobals "part" = some (some (.ref af9)))
    (lf9 : K.lookup af9 = some ⟨ocf9, odf9, .func (PySem.W.fnOf "part" "part" (defArgs sPart) (defBody sPart) (defScope sPart) .none kVf9 dcf9 pmf9 anf9 cdf9 ctf9), slf9⟩)
    (cf9 : PySem.W.codeIn K cdf9 "part" = true)
    (kf9 : PySem.W.keepIn K (.ref af9) = true)
    (nf10 : PySem.W.nsIn K mainGlobals "check_worths" = some (some (.ref af10)))
    (lf10 : K.lookup af10 = some ⟨ocf10, odf10, .func (PySem.W.fnOf "check_worths" "check_worths" (defArgs sCheckWorths) (defBody sCheckWorths) (defScope sCheckWorths) .none kVf10 dcf10 pmf10 anf10 cdf10 ctf10), slf10⟩)
    (cf10 : PySem.W.codeIn K cdf10 "check_worths" = true)
    (kf10 : PySem.W.keepIn K (.ref af10) = true)
    (nf11 : PySem.W.nsIn K mainGlobals "has_shape" = some (some (.ref af11)))
    (lf11 : K.lookup af11 = some ⟨ocf11, odf11, .func (PySem.W.fnOf "has_shape" "has_shape" (defArgs sHasShape) (defBody sHasShape) (defScope sHasShape) .none kVf11 dcf11 pmf11 anf11 cdf11 ctf11), slf11⟩)
    (cf11 : PySem.W.codeIn K cdf11 "has_shape" = true)
    (kf11 : PySem.W.keepIn K (.ref af11) = true)
    (nf12 : PySem.W.nsIn K mainGlobals "check_row" = some (some (.ref af12)))
    (lf12 : K.lookup af12 = some ⟨ocf12, odf12, .func (PySem.W.fnOf "check_row" "check_row" (defArgs sCheckRow) (defBody sCheckRow) (defScope sCheckRow) .none kVf12 dcf12 pmf12 anf12 cdf12 ctf12), slf12⟩)
    (cf12 : PySem.W.codeIn K cdf12 "check_row" = true)
    (kf12 : PySem.W.keepIn K (.ref af12) = true)
    (nf13 : PySem.W.nsIn K mainGlobals "check_program" = some (some (.ref af13)))
    (lf13 : K.lookup af13 = some ⟨ocf13, odf13, .func (PySem.W.fnOf "check_program" "check_program" (defArgs sCheckProgram) (defBody sCheckProgram) (defScope sCheckProgram) .none kVf13 dcf13 pmf13 anf13 cdf13 ctf13), slf13⟩)
    (cf13 : PySem.W.codeIn K cdf13 "check_program" = true)
    (kf13 : PySem.W.keepIn K (.ref af13) = true)
    (nf14 : PySem.W.nsIn K mainGlobals "uses_worth" = some (some (.ref af14)))
    (lf14 : K.lookup af14 = some ⟨ocf14, odf14, .func (PySem.W.fnOf "uses_worth" "uses_worth" (defArgs sUsesWorth) (defBody sUsesWorth) (defScope sUsesWorth) .none kVf14 dcf14 pmf14 anf14 cdf14 ctf14), slf14⟩)
    (cf14 : PySem.W.codeIn K cdf14 "uses_worth" = true)
    (kf14 : PySem.W.keepIn K (.ref af14) = true)
    (nf15 : PySem.W.nsIn K mainGlobals "_law_laying" = some (some (.ref af15)))
    (lf15 : K.lookup af15 = some ⟨ocf15, odf15, .func (PySem.W.fnOf "_law_laying" "_law_laying" (defArgs sLaying) (defBody sLaying) (defScope sLaying) .none kVf15 dcf15 pmf15 anf15 cdf15 ctf15), slf15⟩)
    (cf15 : PySem.W.codeIn K cdf15 "_law_laying" = true)
    (kf15 : PySem.W.keepIn K (.ref af15) = true)
    (nf16 : PySem.W.nsIn K mainGlobals "check_wide" = some (some (.ref af16)))
    (lf16 : K.lookup af16 = some ⟨ocf16, odf16, .func (PySem.W.fnOf "check_wide" "check_wide" (defArgs sCheckWide) (defBody sCheckWide) (defScope sCheckWide) .none kVf16 dcf16 pmf16 anf16 cdf16 ctf16), slf16⟩)
    (cf16 : PySem.W.codeIn K cdf16 "check_wide" = true)
    (kf16 : PySem.W.keepIn K (.ref af16) = true)
    (nf17 : PySem.W.nsIn K mainGlobals "check_places" = some (some (.ref af17)))
    (lf17 : K.lookup af17 = some ⟨ocf17, odf17, .func (PySem.W.fnOf "check_places" "check_places" (defArgs sCheckPlaces) (defBody sCheckPlaces) (defScope sCheckPlaces) .none kVf17 dcf17 pmf17 anf17 cdf17 ctf17), slf17⟩)
    (cf17 : PySem.W.codeIn K cdf17 "check_places" = true)
    (kf17 : PySem.W.keepIn K (.ref af17) = true)
    (nf18 : PySem.W.nsIn K mainGlobals "check_homes" = some (some (.ref af18)))
    (lf18 : K.lookup af18 = some ⟨ocf18, odf18, .func (PySem.W.fnOf "check_homes" "check_homes" (defArgs sCheckHomes) (defBody sCheckHomes) (defScope sCheckHomes) .none kVf18 dcf18 pmf18 anf18 cdf18 ctf18), slf18⟩)
    (cf18 : PySem.W.codeIn K cdf18 "check_homes" = true)
    (kf18 : PySem.W.keepIn K (.ref af18) = true)
    (nf19 : PySem.W.nsIn K mainGlobals "are_homes" = some (some (.ref af19)))
    (lf19 : K.lookup af19 = some ⟨ocf19, odf19, .func (PySem.W.fnOf "are_homes" "are_homes" (defArgs sAreHomes) (defBody sAreHomes) (defScope sAreHomes) .none kVf19 dcf19 pmf19 anf19 cdf19 ctf19), slf19⟩)
    (cf19 : PySem.W.codeIn K cdf19 "are_homes" = true)
    (kf19 : PySem.W.keepIn K (.ref af19) = true)
    (nf20 : PySem.W.nsIn K mainGlobals "check_laying" = some (some (.ref af20)))
    (lf20 : K.lookup af20 = some ⟨ocf20, odf20, .func (PySem.W.fnOf "check_laying" "check_laying" (defArgs sCheckLaying) (defBody sCheckLaying) (defScope sCheckLaying) .none kVf20 dcf20 pmf20 anf20 cdf20 ctf20), slf20⟩)
    (cf20 : PySem.W.codeIn K cdf20 "check_laying" = true)
    (kf20 : PySem.W.keepIn K (.ref af20) = true)
    (nf21 : PySem.W.nsIn K mainGlobals "nexts" = some (some (.ref af21)))
    (lf21 : K.lookup af21 = some ⟨ocf21, odf21, .func (PySem.W.fnOf "nexts" "nexts" (defArgs sNexts) (defBody sNexts) (defScope sNexts) .none kVf21 dcf21 pmf21 anf21 cdf21 ctf21), slf21⟩)
    (cf21 : PySem.W.codeIn K cdf21 "nexts" = true)
    (kf21 : PySem.W.keepIn K (.ref af21) = true)
    (nf22 : PySem.W.nsIn K mainGlobals "rows_ahead" = some (some (.ref af22)))
    (lf22 : K.lookup af22 = some ⟨ocf22, odf22, .func (PySem.W.fnOf "rows_ahead" "rows_ahead" (defArgs sAhead) (defBody sAhead) (defScope sAhead) .none kVf22 dcf22 pmf22 anf22 cdf22 ctf22), slf22⟩)
    (cf22 : PySem.W.codeIn K cdf22 "rows_ahead" = true)
    (kf22 : PySem.W.keepIn K (.ref af22) = true)
    (nf23 : PySem.W.nsIn K mainGlobals "first_beat" = some (some (.ref af23)))
    (lf23 : K.lookup af23 = some ⟨ocf23, odf23, .func (PySem.W.fnOf "first_beat" "first_beat" (defArgs sFirstBeat) (defBody sFirstBeat) (defScope sFirstBeat) .none kVf23 dcf23 pmf23 anf23 cdf23 ctf23), slf23⟩)
    (cf23 : PySem.W.codeIn K cdf23 "first_beat" = true)
    (kf23 : PySem.W.keepIn K (.ref af23) = true)
    (nf24 : PySem.W.nsIn K mainGlobals "beats_of_use" = some (some (.ref af24)))
    (lf24 : K.lookup af24 = some ⟨ocf24, odf24, .func (PySem.W.fnOf "beats_of_use" "beats_of_use" (defArgs sBeatsOfUse) (defBody sBeatsOfUse) (defScope sBeatsOfUse) .none kVf24 dcf24 pmf24 anf24 cdf24 ctf24), slf24⟩)
    (cf24 : PySem.W.codeIn K cdf24 "beats_of_use" = true)
    (kf24 : PySem.W.keepIn K (.ref af24) = true)
    (nf25 : PySem.W.nsIn K mainGlobals "beat_of_use" = some (some (.ref af25)))
    (lf25 : K.lookup af25 = some ⟨ocf25, odf25, .func (PySem.W.fnOf "beat_of_use" "beat_of_use" (defArgs sBeatOfUse) (defBody sBeatOfUse) (defScope sBeatOfUse) .none kVf25 dcf25 pmf25 anf25 cdf25 ctf25), slf25⟩)
    (cf25 : PySem.W.codeIn K cdf25 "beat_of_use" = true)
    (kf25 : PySem.W.keepIn K (.ref af25) = true)
    (nf26 : PySem.W.nsIn K mainGlobals "beat_behind" = some (some (.ref af26)))
    (lf26 : K.lookup af26 = some ⟨ocf26, odf26, .func (PySem.W.fnOf "beat_behind" "beat_behind" (defArgs sBeatBehind) (defBody sBeatBehind) (defScope sBeatBehind) .none kVf26 dcf26 pmf26 anf26 cdf26 ctf26), slf26⟩)
    (cf26 : PySem.W.codeIn K cdf26 "beat_behind" = true)
    (kf26 : PySem.W.keepIn K (.ref af26) = true)
    (nf27 : PySem.W.nsIn K mainGlobals "cost" = some (some (.ref af27)))
    (lf27 : K.lookup af27 = some ⟨ocf27, odf27, .func (PySem.W.fnOf "cost" "cost" (defArgs sCost) (defBody sCost) (defScope sCost) .none kVf27 dcf27 pmf27 anf27 cdf27 ctf27), slf27⟩)
    (cf27 : PySem.W.codeIn K cdf27 "cost" = true)
    (kf27 : PySem.W.keepIn K (.ref af27) = true)
    (nf28 : PySem.W.nsIn K mainGlobals "_law_wait" = some (some (.ref af28)))
    (lf28 : K.lookup af28 = some ⟨ocf28, odf28, .func (PySem.W.fnOf "_law_wait" "_law_wait" (defArgs sWait) (defBody sWait) (defScope sWait) .none kVf28 dcf28 pmf28 anf28 cdf28 ctf28), slf28⟩)
    (cf28 : PySem.W.codeIn K cdf28 "_law_wait" = true)
    (kf28 : PySem.W.keepIn K (.ref af28) = true)
    (nf29 : PySem.W.nsIn K mainGlobals "_law_over" = some (some (.ref af29)))
    (lf29 : K.lookup af29 = some ⟨ocf29, odf29, .func (PySem.W.fnOf "_law_over" "_law_over" (defArgs sOver) (defBody sOver) (defScope sOver) .none kVf29 dcf29 pmf29 anf29 cdf29 ctf29), slf29⟩)
    (cf29 : PySem.W.codeIn K cdf29 "_law_over" = true)
    (kf29 : PySem.W.keepIn K (.ref af29) = true)
    (nf30 : PySem.W.nsIn K mainGlobals "_law_cost" = some (some (.ref af30)))
    (lf30 : K.lookup af30 = some ⟨ocf30, odf30, .func (PySem.W.fnOf "_law_cost" "_law_cost" (defArgs sLCost) (defBody sLCost) (defScope sLCost) .none kVf30 dcf30 pmf30 anf30 cdf30 ctf30), slf30⟩)
    (cf30 : PySem.W.codeIn K cdf30 "_law_cost" = true)
    (kf30 : PySem.W.keepIn K (.ref af30) = true)
    (nf31 : PySem.W.nsIn K mainGlobals "_law_nexts" = some (some (.ref af31)))
    (lf31 : K.lookup af31 = some ⟨ocf31, odf31, .func (PySem.W.fnOf "_law_nexts" "_law_nexts" (defArgs sLNexts) (defBody sLNexts) (defScope sLNexts) .none kVf31 dcf31 pmf31 anf31 cdf31 ctf31), slf31⟩)
    (cf31 : PySem.W.codeIn K cdf31 "_law_nexts" = true)
    (kf31 : PySem.W.keepIn K (.ref af31) = true)
    (nf32 : PySem.W.nsIn K mainGlobals "loops" = some (some (.ref af32)))
    (lf32 : K.lookup af32 = some ⟨ocf32, odf32, .func (PySem.W.fnOf "loops" "loops" (defArgs sLoops) (defBody sLoops) (defScope sLoops) .none kVf32 dcf32 pmf32 anf32 cdf32 ctf32), slf32⟩)
    (cf32 : PySem.W.codeIn K cdf32 "loops" = true)
    (kf32 : PySem.W.keepIn K (.ref af32) = true)
    (nf33 : PySem.W.nsIn K mainGlobals "halves" = some (some (.ref af33)))
    (lf33 : K.lookup af33 = some ⟨ocf33, odf33, .func (PySem.W.fnOf "halves" "halves" (defArgs sHalves) (defBody sHalves) (defScope sHalves) .none kVf33 dcf33 pmf33 anf33 cdf33 ctf33), slf33⟩)
    (cf33 : PySem.W.codeIn K cdf33 "halves" = true)
    (kf33 : PySem.W.keepIn K (.ref af33) = true)
    (nf34 : PySem.W.nsIn K mainGlobals "least_half" = some (some (.ref af34)))
    (lf34 : K.lookup af34 = some ⟨ocf34, odf34, .func (PySem.W.fnOf "least_half" "least_half" (defArgs sLeastHalf) (defBody sLeastHalf) (defScope sLeastHalf) .none kVf34 dcf34 pmf34 anf34 cdf34 ctf34), slf34⟩)
    (cf34 : PySem.W.codeIn K cdf34 "least_half" = true)
    (kf34 : PySem.W.keepIn K (.ref af34) = true)
    (nf35 : PySem.W.nsIn K mainGlobals "least_beats" = some (some (.ref af35)))
    (lf35 : K.lookup af35 = some ⟨ocf35, odf35, .func (PySem.W.fnOf "least_beats" "least_beats" (defArgs sLeastBeats) (defBody sLeastBeats) (defScope sLeastBeats) .none kVf35 dcf35 pmf35 anf35 cdf35 ctf35), slf35⟩)
    (cf35 : PySem.W.codeIn K cdf35 "least_beats" = true)
    (kf35 : PySem.W.keepIn K (.ref af35) = true)
    (nf36 : PySem.W.nsIn K mainGlobals "in_rounds" = some (some (.ref af36)))
    (lf36 : K.lookup af36 = some ⟨ocf36, odf36, .func (PySem.W.fnOf "in_rounds" "in_rounds" (defArgs sInRounds) (defBody sInRounds) (defScope sInRounds) .none kVf36 dcf36 pmf36 anf36 cdf36 ctf36), slf36⟩)
    (cf36 : PySem.W.codeIn K cdf36 "in_rounds" = true)
    (kf36 : PySem.W.keepIn K (.ref af36) = true)
    (nf37 : PySem.W.nsIn K mainGlobals "loop_beats" = some (some (.ref af37)))
    (lf37 : K.lookup af37 = some ⟨ocf37, odf37, .func (PySem.W.fnOf "loop_beats" "loop_beats" (defArgs sLoopBeats) (defBody sLoopBeats) (defScope sLoopBeats) .none kVf37 dcf37 pmf37 anf37 cdf37 ctf37), slf37⟩)
    (cf37 : PySem.W.codeIn K cdf37 "loop_beats" = true)
    (kf37 : PySem.W.keepIn K (.ref af37) = true)
    (nf38 : PySem.W.nsIn K mainGlobals "_law_work" = some (some (.ref af38)))
    (lf38 : K.lookup af38 = some ⟨ocf38, odf38, .func (PySem.W.fnOf "_law_work" "_law_work" (defArgs sLWork) (defBody sLWork) (defScope sLWork) .none kVf38 dcf38 pmf38 anf38 cdf38 ctf38), slf38⟩)
    (cf38 : PySem.W.codeIn K cdf38 "_law_work" = true)
    (kf38 : PySem.W.keepIn K (.ref af38) = true)
    (nf39 : PySem.W.nsIn K mainGlobals "_law_loops" = some (some (.ref af39)))
    (lf39 : K.lookup af39 = some ⟨ocf39, odf39, .func (PySem.W.fnOf "_law_loops" "_law_loops" (defArgs sLL) (defBody sLL) (defScope sLL) .none kVf39 dcf39 pmf39 anf39 cdf39 ctf39), slf39⟩)
    (cf39 : PySem.W.codeIn K cdf39 "_law_loops" = true)
    (kf39 : PySem.W.keepIn K (.ref af39) = true)
    (nf40 : PySem.W.nsIn K mainGlobals "_law_dice" = some (some (.ref af40)))
    (lf40 : K.lookup af40 = some ⟨ocf40, odf40, .func (PySem.W.fnOf "_law_dice" "_law_dice" (defArgs sDice) (defBody sDice) (defScope sDice) .none kVf40 dcf40 pmf40 anf40 cdf40 ctf40), slf40⟩)
    (cf40 : PySem.W.codeIn K cdf40 "_law_dice" = true)
    (kf40 : PySem.W.keepIn K (.ref af40) = true)
    (nf41 : PySem.W.nsIn K mainGlobals "_law_like" = some (some (.ref af41)))
    (lf41 : K.lookup af41 = some ⟨ocf41, odf41, .func (PySem.W.fnOf "_law_like" "_law_like" (defArgs sLike) (defBody sLike) (defScope sLike) .none kVf41 dcf41 pmf41 anf41 cdf41 ctf41), slf41⟩)
    (cf41 : PySem.W.codeIn K cdf41 "_law_like" = true)
    (kf41 : PySem.W.keepIn K (.ref af41) = true)
    (nf42 : PySem.W.nsIn K mainGlobals "_law_told" = some (some (.ref af42)))
    (lf42 : K.lookup af42 = some ⟨ocf42, odf42, .func (PySem.W.fnOf "_law_told" "_law_told" (defArgs sTold) (defBody sTold) (defScope sTold) .none kVf42 dcf42 pmf42 anf42 cdf42 ctf42), slf42⟩)
    (cf42 : PySem.W.codeIn K cdf42 "_law_told" = true)
    (kf42 : PySem.W.keepIn K (.ref af42) = true)
    (nf43 : PySem.W.nsIn K mainGlobals "law" = some (some (.ref af43)))
    (lf43 : K.lookup af43 = some ⟨ocf43, odf43, .func (PySem.W.fnOf "law" "law" (defArgs sLaw) (defBody sLaw) (defScope sLaw) .none kVf43 dcf43 pmf43 anf43 (.ref cc) ctf43), slf43⟩)
    (cf43 : PySem.W.codeIn K (.ref cc) "law" = true)
    (kf43 : PySem.W.keepIn K (.ref af43) = true)
    (mBP : PySem.W.nsIn K mainGlobals "BadProgram" = some (some (.ref eBP)))
    (mBL : PySem.W.nsIn K mainGlobals "BadLaying" = some (some (.ref eBL)))
    (mBF : PySem.W.nsIn K mainGlobals "BadFuel" = some (some (.ref eBF)))
    (mBG : PySem.W.nsIn K mainGlobals "BadGoes" = some (some (.ref eBG)))
    (mBE : PySem.W.nsIn K mainGlobals "BadPaper" = some (some (.ref eBE)))
    (mTM_ : PySem.W.nsIn K mainGlobals "TooMany" = some (some (.ref eTM_)))
    (mOV : PySem.W.nsIn K mainGlobals "Over" = some (some (.ref eOV)))
    (mBT : PySem.W.nsIn K mainGlobals "BadText" = some (some (.ref eBT)))
    (mDE : PySem.W.nsIn K mainGlobals "DrumError" = some (some (.ref eDE)))
    (b_ValueError : PySem.W.nsIn K mainGlobals "ValueError" = some none)
    (iBP : PySem.W.isClsIn K eBP = true)
    (tBP : PySem.W.typeIn K (.ref eBP) = some (.type "type"))
    (iBL : PySem.W.isClsIn K eBL = true)
    (tBL : PySem.W.typeIn K (.ref eBL) = some (.type "type"))
    (iBF : PySem.W.isClsIn K eBF = true)
    (tBF : PySem.W.typeIn K (.ref eBF) = some (.type "type"))
    (iBG : PySem.W.isClsIn K eBG = true)
    (tBG : PySem.W.typeIn K (.ref eBG) = some (.type "type"))
    (iBE : PySem.W.isClsIn K eBE = true)
    (tBE : PySem.W.typeIn K (.ref eBE) = some (.type "type"))
    (iTM_ : PySem.W.isClsIn K eTM_ = true)
    (tTM_ : PySem.W.typeIn K (.ref eTM_) = some (.type "type"))
    (iOV : PySem.W.isClsIn K eOV = true)
    (tOV : PySem.W.typeIn K (.ref eOV) = some (.type "type"))
    (iBT : PySem.W.isClsIn K eBT = true)
    (tBT : PySem.W.typeIn K (.ref eBT) = some (.type "type"))
    (iDE : PySem.W.isClsIn K eDE = true)
    (tDE : PySem.W.typeIn K (.ref eDE) = some (.type "type"))
    (bDE : PySem.W.subIn K (.ref eDE) (.type "BaseException") = some true)
    (TM__hg : PySem.W.findIn K (.ref eTM_) "__getattribute__" = some (some (.builtin "BaseException.__getattribute__")))
    (TM__hk : PySem.W.findIn K (.ref eTM_) "__getattr__" = some none)
    (TM__hs : PySem.W.subIn K (.ref eTM_) (.type "BaseException") = some true)
    (TM__hd : PySem.W.hasDictIn K eTM_ = true)
    (TM__ha : PySem.W.findIn K (.ref eTM_) "__class__" = some (some (.builtin "object.__class__")))
    (TM__hn : PySem.W.specialIn K (.builtin "object.__class__") "__get__" = some (some (.builtin "getset_descriptor.__get__")))
    (TM__ht : PySem.W.takesIn K (.builtin "object.__class__") = some true)
    (TM__hm : PySem.W.mroIn K eTM_ (.type "object") = some true)
    (TM__sDE : PySem.W.subIn K (.ref eTM_) (.ref eDE) = some true)
    (TM__sVE : PySem.W.subIn K (.ref eTM_) (.type "ValueError") = some true)
    (TM__s0 : PySem.W.subIn K (.ref eTM_) (.ref eBP) = some false)
    (TM__s1 : PySem.W.subIn K (.ref eTM_) (.ref eBL) = some false)
    (TM__s2 : PySem.W.subIn K (.ref eTM_) (.ref eBF) = some false)
    (TM__s3 : PySem.W.subIn K (.ref eTM_) (.ref eBG) = some false)
    (TM__s4 : PySem.W.subIn K (.ref eTM_) (.ref eBE) = some false)
    (TM__s6 : PySem.W.subIn K (.ref eTM_) (.ref eOV) = some false)
    (TM__s7 : PySem.W.subIn K (.ref eTM_) (.ref eBT) = some false)
    (TM__n0 : (eTM_ == eBP) = false)
    (TM__n1 : (eTM_ == eBL) = false)
    (TM__n2 : (eTM_ == eBF) = false)
    (TM__n3 : (eTM_ == eBG) = false)
    (TM__n4 : (eTM_ == eBE) = false)
    (TM__n6 : (eTM_ == eOV) = false)
    (TM__n7 : (eTM_ == eBT) = false)
    (TM__rx : PySem.W.excIn K eTM_ [.type "ValueError", .type "Exception", .type "BaseException", .type "object"] "ValueError.__new__" = true)
    (TM__rk : PySem.W.keepIn K (.ref eTM_) = true)
    (TM__rt : PySem.W.typeIn K (.ref eTM_) = some (.type "type"))
    (cK : K.lookup cc = some ⟨.type "code", ddc, .fields vsc, slc⟩)
    (c11 : vsc[11]? = some (.ref tP))
    (g11 : vsc.getD 11 .none = .ref tP)
    (g18 : vsc.getD 18 .none = .str file18 tf18)
    (g7 : vsc.getD 7 .none = .int fl7 tg7)
    (g9 : vsc.getD 9 .none = .bool in9)
    (g10 : vsc.getD 10 .none = .int tx10 tt10)
    (cP : (cc == tP) = false)
    (nP : K.lookup tP = none)
    (b_len : PySem.W.nsIn K mainGlobals "len" = some none)
    (b_int : PySem.W.nsIn K mainGlobals "int" = some none)
    (b_range : PySem.W.nsIn K mainGlobals "range" = some none)
    (b_isinstance : PySem.W.nsIn K mainGlobals "isinstance" = some none)
    (b_tuple : PySem.W.nsIn K mainGlobals "tuple" = some none)
    (b_list : PySem.W.nsIn K mainGlobals "list" = some none)
    (b_sorted : PySem.W.nsIn K mainGlobals "sorted" = some none)
    (b_sum : PySem.W.nsIn K mainGlobals "sum" = some none)
    (b_max : PySem.W.nsIn K mainGlobals "max" = some none)
    (b_enumerate : PySem.W.nsIn K mainGlobals "enumerate" = some none)
    (b_zip : PySem.W.nsIn K mainGlobals "zip" = some none)
    (b_all : PySem.W.nsIn K mainGlobals "all" = some none)
    (b_bool : PySem.W.nsIn K mainGlobals "bool" = some none)
    (b_str : PySem.W.nsIn K mainGlobals "str" = some none)
    (b_set : PySem.W.nsIn K mainGlobals "set" = some none)
    (qW : PySem.W.nsIn K mainGlobals "MOST_WORTHS" = some (some (.int 8 tW)))
    (qR : PySem.W.nsIn K mainGlobals "MOST_ROWS" = some (some (.int 40 tR)))
    (qN : PySem.W.nsIn K mainGlobals "MOST_NUMBER" = some (some (.int 1000000 tN)))
    (q2 : PySem.W.nsIn K mainGlobals "LEAST_WIDE" = some (some (.int 2 t2)))
    (q24 : PySem.W.nsIn K mainGlobals "MOST_WIDE" = some (some (.int 24 t24)))
    (q3 : PySem.W.nsIn K mainGlobals "MOST_HOMES" = some (some (.int 3 t3)))
    (qG : PySem.W.nsIn K mainGlobals "MOST_LOOPS" = some (some (.int 100 tG)))
    (qS : PySem.W.nsIn K mainGlobals "MOST_STRETCHES" = some (some (.int 3000 tS)))
    (pD : PySem.W.nsIn K mainGlobals "PARTS" = some (some (.ref d)))
    (pL : K.lookup d = some ⟨.type "dict", none, .dict es n, #[]⟩)
    (pK : PySem.W.KeysLit w.params es.toList)
    (w_load : PySem.W.nsIn K d "load" = some (some (.ref p_load)))
    (u_load : K.lookup p_load = some ⟨.type "tuple", pd_load, .seq its_load pn_load, ps_load⟩)
    (v_load : Vals ((["worth", "next"] : List Str).map V.str) its_load.toList)
    (w_add : PySem.W.nsIn K d "add" = some (some (.ref p_add)))
    (u_add : K.lookup p_add = some ⟨.type "tuple", pd_add, .seq its_add pn_add, ps_add⟩)
    (v_add : Vals ((["worth", "next"] : List Str).map V.str) its_add.toList)
    (w_take : PySem.W.nsIn K d "take" = some (some (.ref p_take)))
    (u_take : K.lookup p_take = some ⟨.type "tuple", pd_take, .seq its_take pn_take, ps_take⟩)
    (v_take : Vals ((["worth", "next"] : List Str).map V.str) its_take.toList)
    (w_store : PySem.W.nsIn K d "store" = some (some (.ref p_store)))
    (u_store : K.lookup p_store = some ⟨.type "tuple", pd_store, .seq its_store pn_store, ps_store⟩)
    (v_store : Vals ((["worth", "next"] : List Str).map V.str) its_store.toList)
    (w_say : PySem.W.nsIn K d "say" = some (some (.ref p_say)))
    (u_say : K.lookup p_say = some ⟨.type "tuple", pd_say, .seq its_say pn_say, ps_say⟩)
    (v_say : Vals ((["next"] : List Str).map V.str) its_say.toList)
    (w_test : PySem.W.nsIn K d "test" = some (some (.ref p_test)))
    (u_test : K.lookup p_test = some ⟨.type "tuple", pd_test, .seq its_test pn_test, ps_test⟩)
    (v_test : Vals ((["next", "next"] : List Str).map V.str) its_test.toList)
    (w_stop : PySem.W.nsIn K d "stop" = some (some (.ref p_stop)))
    (u_stop : K.lookup p_stop = some ⟨.type "tuple", pd_stop, .seq its_stop pn_stop, ps_stop⟩)
    (v_stop : Vals (([] : List Str).map V.str) its_stop.toList)
    (lo : (d == sysModules) = false)
    (pW : PySem.W.nsIn K mainGlobals "WORK" = some (some (.ref e)))
    (pWL : K.lookup e = some ⟨.type "dict", none, .dict es2 n2, #[]⟩)
    (pWK : PySem.W.KeysLit w.params es2.toList)
    (x_load : PySem.W.nsIn K e "load" = some (some (.int 1 tx_load)))
    (x_add : PySem.W.nsIn K e "add" = some (some (.int 2 tx_add)))
    (x_take : PySem.W.nsIn K e "take" = some (some (.int 2 tx_take)))
    (x_store : PySem.W.nsIn K e "store" = some (some (.int 1 tx_store)))
    (x_say : PySem.W.nsIn K e "say" = some (some (.int 3 tx_say)))
    (x_test : PySem.W.nsIn K e "test" = some (some (.int 1 tx_test)))
    (x_stop : PySem.W.nsIn K e "stop" = some (some (.int 0 tx_stop)))
    (lo2 : (e == sysModules) = false)
    (own : LamX.OwnTab K fa h) :
    ∃ (fd : FuncData) (cs : List (Addr × Addr)) (sp : Sp), (∀ p ∈ cs, h.get? p.2 = some { cls := .none, data := .fields #[] }) ∧ (∀ p ∈ cs, K.lookup p.2 = none) ∧ (∀ p ∈ cs, PySem.W.CodeHd h p.1 p.2) ∧ (∀ (s : Shared) (u : Value), BindsTo s fd ⟨[u], []⟩ [("_law_script", u)]) ∧
    (∀ (H : Hp) (a : Addr) (ns : List Int), ns.length ≤ 63 → (∀ z ∈ ns, Builtin.Int.intBits z ≤ 1048576) → (∀ p ∈ cs, H p.2 = some (.tbl #[])) → SqL K H a (ns.map V.int) → sp [.ref a] H (fun v _ => v = .bl true) fun _ _ _ => False) ∧
    ∀ base : Heap, K.In base → base.Ns mainGlobals mg → (∀ p ∈ cs, LamX.TabB base mg p.1 p.2) → FnOk P w K mg base CX0 45 fa fd ["_law_script"] sp := by
  have e := hfa.symm.trans (PySem.W.mg_of X G nf43)
  cases e
  have Ff0 := fun_mk (st := sNext) lf0 cf0 kf0
  have bf0 := Ff0.binds (ps := ["_law_dice_here", "_law_many"]) fun _ _ _ _ _ _ us hl => match us, hl with | [_, _], _ => rfl
  let cNext : Fd K mg "_law_next" sNext ["_law_dice_here", "_law_many"] := ⟨_, _, Ff0, bf0, PySem.W.mg_of X G nf0⟩
  have Ff1 := fun_mk (st := sStraight) lf1 cf1 kf1
  have bf1 := Ff1.binds (ps := ["_law_d", "_law_at"]) fun _ _ _ _ _ _ us hl => match us, hl with | [_, _], _ => rfl
  let cStraight : Fd K mg "_law_straight" sStraight ["_law_d", "_law_at"] := ⟨_, _, Ff1, bf1, PySem.W.mg_of X G nf1⟩
  have Ff2 := fun_mk (st := sFork) lf2 cf2 kf2
  have bf2 := Ff2.binds (ps := ["_law_d", "_law_at"]) fun _ _ _ _ _ _ us hl => match us, hl with | [_, _], _ => rfl
  let cFork : Fd K mg "_law_fork" sFork ["_law_d", "_law_at"] := ⟨_, _, Ff2, bf2, PySem.W.mg_of X G nf2⟩
  have Ff3 := fun_mk (st := sBody) lf3 cf3 kf3
  have bf3 := Ff3.binds (ps := ["_law_d", "_law_at", "_law_deep"]) fun _ _ _ _ _ _ us hl => match us, hl with | [_, _, _], _ => rfl
  let cBody : Fd K mg "_law_body" sBody ["_law_d", "_law_at", "_law_deep"] := ⟨_, _, Ff3, bf3, PySem.W.mg_of X G nf3⟩
  have Ff4 := fun_mk (st := sMixed) lf4 cf4 kf4
  have bf4 := Ff4.binds (ps := ["_law_d", "_law_program"]) fun _ _ _ _ _ _ us hl => match us, hl with | [_, _], _ => rfl
  let cMixed : Fd K mg "_law_mixed" sMixed ["_law_d", "_law_program"] := ⟨_, _, Ff4, bf4, PySem.W.mg_of X G nf4⟩
  have Ff5 := fun_mk (st := sStopping) lf5 cf5 kf5
  have bf5 := Ff5.binds (ps := ["_law_d", "_law_deep"]) fun _ _ _ _ _ _ us hl => match us, hl with | [_, _], _ => rfl
  let cStopping : Fd K mg "_law_stopping" sStopping ["_law_d", "_law_deep"] := ⟨_, _, Ff5, bf5, PySem.W.mg_of X G nf5⟩
  have Ff6 := fun_mk (st := sAny) lf6 cf6 kf6
  have bf6 := Ff6.binds (ps := ["_law_d"]) fun _ _ _ _ _ _ us hl => match us, hl with | [_], _ => rfl
  let cAny : Fd K mg "_law_any" sAny ["_law_d"] := ⟨_, _, Ff6, bf6, PySem.W.mg_of X G nf6⟩
  have Ff7 := fun_mk (st := sIsNumber) lf7 cf7 kf7
  have bf7 := Ff7.binds (ps := ["thing"]) fun _ _ _ _ _ _ us hl => match us, hl with | [_], _ => rfl
  let cIsNumber : Fd K mg "is_number" sIsNumber ["thing"] := ⟨_, _, Ff7, bf7, PySem.W.mg_of X G nf7⟩
  have Ff8 := fun_mk (st := sIsBetween) lf8 cf8 kf8
  have bf8 := Ff8.binds (ps := ["thing", "low", "high"]) fun _ _ _ _ _ _ us hl => match us, hl with | [_, _, _], _ => rfl
  let cIsBetween : Fd K mg "is_between" sIsBetween ["thing", "low", "high"] := ⟨_, _, Ff8, bf8, PySem.W.mg_of X G nf8⟩
  have Ff9 := fun_mk (st := sPart) lf9 cf9 kf9
  have bf9 := Ff9.binds (ps := ["whole", "at"]) fun _ _ _ _ _ _ us hl => match us, hl with | [_, _], _ => rfl
  let cPart : Fd K mg "part" sPart ["whole", "at"] := ⟨_, _, Ff9, bf9, PySem.W.mg_of X G nf9⟩
  have Ff10 := fun_mk (st := sCheckWorths) lf10 cf10 kf10
  have bf10 := Ff10.binds (ps := ["worths"]) fun _ _ _ _ _ _ us hl => match us, hl with | [_], _ => rfl
  let cCheckWorths : Fd K mg "check_worths" sCheckWorths ["worths"] := ⟨_, _, Ff10, bf10, PySem.W.mg_of X G nf10⟩
  have Ff11 := fun_mk (st := sHasShape) lf11 cf11 kf11
  have bf11 := Ff11.binds (ps := ["row"]) fun _ _ _ _ _ _ us hl => match us, hl with | [_], _ => rfl
  let cHasShape : Fd K mg "has_shape" sHasShape ["row"] := ⟨_, _, Ff11, bf11, PySem.W.mg_of X G nf11⟩
  have Ff12 := fun_mk (st := sCheckRow) lf12 cf12 kf12
  have bf12 := Ff12.binds (ps := ["row", "number", "counts"]) fun _ _ _ _ _ _ us hl => match us, hl with | [_, _, _], _ => rfl
  let cCheckRow : Fd K mg "check_row" sCheckRow ["row", "number", "counts"] := ⟨_, _, Ff12, bf12, PySem.W.mg_of X G nf12⟩
  have Ff13 := fun_mk (st := sCheckProgram) lf13 cf13 kf13
  have bf13 := Ff13.binds (ps := ["program"]) fun _ _ _ _ _ _ us hl => match us, hl with | [_], _ => rfl
  let cCheckProgram : Fd K mg "check_program" sCheckProgram ["program"] := ⟨_, _, Ff13, bf13, PySem.W.mg_of X G nf13⟩
  have Ff14 := fun_mk (st := sUsesWorth) lf14 cf14 kf14
  have bf14 := Ff14.binds (ps := ["row"]) fun _ _ _ _ _ _ us hl => match us, hl with | [_], _ => rfl
  let cUsesWorth : Fd K mg "uses_worth" sUsesWorth ["row"] := ⟨_, _, Ff14, bf14, PySem.W.mg_of X G nf14⟩
  have Ff15 := fun_mk (st := sLaying) lf15 cf15 kf15
  have bf15 := Ff15.binds (ps := ["_law_d", "_law_program", "_law_most"]) fun _ _ _ _ _ _ us hl => match us, hl with | [_, _, _], _ => rfl
  let cLaying : Fd K mg "_law_laying" sLaying ["_law_d", "_law_program", "_law_most"] := ⟨_, _, Ff15, bf15, PySem.W.mg_of X G nf15⟩
  have Ff16 := fun_mk (st := sCheckWide) lf16 cf16 kf16
  have bf16 := Ff16.binds (ps := ["wide"]) fun _ _ _ _ _ _ us hl => match us, hl with | [_], _ => rfl
  let cCheckWide : Fd K mg "check_wide" sCheckWide ["wide"] := ⟨_, _, Ff16, bf16, PySem.W.mg_of X G nf16⟩
  have Ff17 := fun_mk (st := sCheckPlaces) lf17 cf17 kf17
  have bf17 := Ff17.binds (ps := ["places", "count", "wide"]) fun _ _ _ _ _ _ us hl => match us, hl with | [_, _, _], _ => rfl
  let cCheckPlaces : Fd K mg "check_places" sCheckPlaces ["places", "count", "wide"] := ⟨_, _, Ff17, bf17, PySem.W.mg_of X G nf17⟩
  have Ff18 := fun_mk (st := sCheckHomes) lf18 cf18 kf18
  have bf18 := Ff18.binds (ps := ["homes", "count", "wide"]) fun _ _ _ _ _ _ us hl => match us, hl with | [_, _, _], _ => rfl
  let cCheckHomes : Fd K mg "check_homes" sCheckHomes ["homes", "count", "wide"] := ⟨_, _, Ff18, bf18, PySem.W.mg_of X G nf18⟩
  have Ff19 := fun_mk (st := sAreHomes) lf19 cf19 kf19
  have bf19 := Ff19.binds (ps := ["places", "wide"]) fun _ _ _ _ _ _ us hl => match us, hl with | [_, _], _ => rfl
  let cAreHomes : Fd K mg "are_homes" sAreHomes ["places", "wide"] := ⟨_, _, Ff19, bf19, PySem.W.mg_of X G nf19⟩
  have Ff20 := fun_mk (st := sCheckLaying) lf20 cf20 kf20
  have bf20 := Ff20.binds (ps := ["program", "laying"]) fun _ _ _ _ _ _ us hl => match us, hl with | [_, _], _ => rfl
  let cCheckLaying : Fd K mg "check_laying" sCheckLaying ["program", "laying"] := ⟨_, _, Ff20, bf20, PySem.W.mg_of X G nf20⟩
  have Ff21 := fun_mk (st := sNexts) lf21 cf21 kf21
  have bf21 := Ff21.binds (ps := ["row"]) fun _ _ _ _ _ _ us hl => match us, hl with | [_], _ => rfl
  let cNexts : Fd K mg "nexts" sNexts ["row"] := ⟨_, _, Ff21, bf21, PySem.W.mg_of X G nf21⟩
  have Ff22 := fun_mk (st := sAhead) lf22 cf22 kf22
  have bf22 := Ff22.binds (ps := ["row"]) fun _ _ _ _ _ _ us hl => match us, hl with | [_], _ => rfl
  let cAhead : Fd K mg "rows_ahead" sAhead ["row"] := ⟨_, _, Ff22, bf22, PySem.W.mg_of X G nf22⟩
  have Ff23 := fun_mk (st := sFirstBeat) lf23 cf23 kf23
  have bf23 := Ff23.binds (ps := ["now", "place", "wide"]) fun _ _ _ _ _ _ us hl => match us, hl with | [_, _, _], _ => rfl
  let cFirstBeat : Fd K mg "first_beat" sFirstBeat ["now", "place", "wide"] := ⟨_, _, Ff23, bf23, PySem.W.mg_of X G nf23⟩
  have Ff24 := fun_mk (st := sBeatsOfUse) lf24 cf24 kf24
  have bf24 := Ff24.binds (ps := ["word", "places", "read", "wide"]) fun _ _ _ _ _ _ us hl => match us, hl with | [_, _, _, _], _ => rfl
  let cBeatsOfUse : Fd K mg "beats_of_use" sBeatsOfUse ["word", "places", "read", "wide"] := ⟨_, _, Ff24, bf24, PySem.W.mg_of X G nf24⟩
  have Ff25 := fun_mk (st := sBeatOfUse) lf25 cf25 kf25
  have bf25 := Ff25.binds (ps := ["row", "read", "laying"]) fun _ _ _ _ _ _ us hl => match us, hl with | [_, _, _], _ => rfl
  let cBeatOfUse : Fd K mg "beat_of_use" sBeatOfUse ["row", "read", "laying"] := ⟨_, _, Ff25, bf25, PySem.W.mg_of X G nf25⟩
  have Ff26 := fun_mk (st := sBeatBehind) lf26 cf26 kf26
  have bf26 := Ff26.binds (ps := ["row", "read", "laying"]) fun _ _ _ _ _ _ us hl => match us, hl with | [_, _, _], _ => rfl
  let cBeatBehind : Fd K mg "beat_behind" sBeatBehind ["row", "read", "laying"] := ⟨_, _, Ff26, bf26, PySem.W.mg_of X G nf26⟩
  have Ff27 := fun_mk (st := sCost) lf27 cf27 kf27
  have bf27 := Ff27.binds (ps := ["program", "laying", "begin", "to"]) fun _ _ _ _ _ _ us hl => match us, hl with | [_, _, _, _], _ => rfl
  let cCost : Fd K mg "cost" sCost ["program", "laying", "begin", "to"] := ⟨_, _, Ff27, bf27, PySem.W.mg_of X G nf27⟩
  have Ff28 := fun_mk (st := sWait) lf28 cf28 kf28
  have bf28 := Ff28.binds (ps := ["_law_now", "_law_place", "_law_wide"]) fun _ _ _ _ _ _ us hl => match us, hl with | [_, _, _], _ => rfl
  let cWait : Fd K mg "_law_wait" sWait ["_law_now", "_law_place", "_law_wide"] := ⟨_, _, Ff28, bf28, PySem.W.mg_of X G nf28⟩
  have Ff29 := fun_mk (st := sOver) lf29 cf29 kf29
  have bf29 := Ff29.binds (ps := ["_law_row", "_law_laying_here", "_law_beat"]) fun _ _ _ _ _ _ us hl => match us, hl with | [_, _, _], _ => rfl
  let cOver : Fd K mg "_law_over" sOver ["_law_row", "_law_laying_here", "_law_beat"] := ⟨_, _, Ff29, bf29, PySem.W.mg_of X G nf29⟩
  have Ff30 := fun_mk (st := sLCost) lf30 cf30 kf30
  have bf30 := Ff30.binds (ps := ["_law_rows", "_law_laying_here", "_law_here", "_law_other"]) fun _ _ _ _ _ _ us hl => match us, hl with | [_, _, _, _], _ => rfl
  let cLCost : Fd K mg "_law_cost" sLCost ["_law_rows", "_law_laying_here", "_law_here", "_law_other"] := ⟨_, _, Ff30, bf30, PySem.W.mg_of X G nf30⟩
  have Ff31 := fun_mk (st := sLNexts) lf31 cf31 kf31
  have bf31 := Ff31.binds (ps := ["_law_row"]) fun _ _ _ _ _ _ us hl => match us, hl with | [_], _ => rfl
  let cLNexts : Fd K mg "_law_nexts" sLNexts ["_law_row"] := ⟨_, _, Ff31, bf31, PySem.W.mg_of X G nf31⟩
  have Ff32 := fun_mk (st := sLoops) lf32 cf32 kf32
  have bf32 := Ff32.binds (ps := ["program"]) fun _ _ _ _ _ _ us hl => match us, hl with | [_], _ => rfl
  let cLoops : Fd K mg "loops" sLoops ["program"] := ⟨_, _, Ff32, bf32, PySem.W.mg_of X G nf32⟩
  have Ff33 := fun_mk (st := sHalves) lf33 cf33 kf33
  have bf33 := Ff33.binds (ps := ["way"]) fun _ _ _ _ _ _ us hl => match us, hl with | [_], _ => rfl
  let cHalves : Fd K mg "halves" sHalves ["way"] := ⟨_, _, Ff33, bf33, PySem.W.mg_of X G nf33⟩
  have Ff34 := fun_mk (st := sLeastHalf) lf34 cf34 kf34
  have bf34 := Ff34.binds (ps := ["program", "half"]) fun _ _ _ _ _ _ us hl => match us, hl with | [_, _], _ => rfl
  let cLeastHalf : Fd K mg "least_half" sLeastHalf ["program", "half"] := ⟨_, _, Ff34, bf34, PySem.W.mg_of X G nf34⟩
  have Ff35 := fun_mk (st := sLeastBeats) lf35 cf35 kf35
  have bf35 := Ff35.binds (ps := ["program", "way"]) fun _ _ _ _ _ _ us hl => match us, hl with | [_, _], _ => rfl
  let cLeastBeats : Fd K mg "least_beats" sLeastBeats ["program", "way"] := ⟨_, _, Ff35, bf35, PySem.W.mg_of X G nf35⟩
  have Ff36 := fun_mk (st := sInRounds) lf36 cf36 kf36
  have bf36 := Ff36.binds (ps := ["beats", "wide"]) fun _ _ _ _ _ _ us hl => match us, hl with | [_, _], _ => rfl
  let cInRounds : Fd K mg "in_rounds" sInRounds ["beats", "wide"] := ⟨_, _, Ff36, bf36, PySem.W.mg_of X G nf36⟩
  have Ff37 := fun_mk (st := sLoopBeats) lf37 cf37 kf37
  have bf37 := Ff37.binds (ps := ["program", "laying"]) fun _ _ _ _ _ _ us hl => match us, hl with | [_, _], _ => rfl
  let cLoopBeats : Fd K mg "loop_beats" sLoopBeats ["program", "laying"] := ⟨_, _, Ff37, bf37, PySem.W.mg_of X G nf37⟩
  have Ff38 := fun_mk (st := sLWork) lf38 cf38 kf38
  have bf38 := Ff38.binds (ps := ["_law_row"]) fun _ _ _ _ _ _ us hl => match us, hl with | [_], _ => rfl
  let cLWork : Fd K mg "_law_work" sLWork ["_law_row"] := ⟨_, _, Ff38, bf38, PySem.W.mg_of X G nf38⟩
  have Ff39 := fun_mk (st := sLL) lf39 cf39 kf39
  have bf39 := Ff39.binds (ps := ["_law_rows", "_law_begin", "_law_path", "_law_found", "_law_looks"]) fun _ _ _ _ _ _ us hl => match us, hl with | [_, _, _, _, _], _ => rfl
  let cLL : Fd K mg "_law_loops" sLL ["_law_rows", "_law_begin", "_law_path", "_law_found", "_law_looks"] := ⟨_, _, Ff39, bf39, PySem.W.mg_of X G nf39⟩
  have Ff40 := fun_mk (st := sDice) lf40 cf40 kf40
  have bf40 := Ff40.binds (ps := ["_law_script"]) fun _ _ _ _ _ _ us hl => match us, hl with | [_], _ => rfl
  let cDice : Fd K mg "_law_dice" sDice ["_law_script"] := ⟨_, _, Ff40, bf40, PySem.W.mg_of X G nf40⟩
  have Ff41 := fun_mk (st := sLike) lf41 cf41 kf41
  have bf41 := Ff41.binds (ps := ["_law_found", "_law_due"]) fun _ _ _ _ _ _ us hl => match us, hl with | [_, _], _ => rfl
  let cLike : Fd K mg "_law_like" sLike ["_law_found", "_law_due"] := ⟨_, _, Ff41, bf41, PySem.W.mg_of X G nf41⟩
  have Ff42 := fun_mk (st := sTold) lf42 cf42 kf42
  have bf42 := Ff42.binds (ps := ["_law_work_here"]) fun _ _ _ _ _ _ us hl => match us, hl with | [_], _ => rfl
  let cTold : Fd K mg "_law_told" sTold ["_law_work_here"] := ⟨_, _, Ff42, bf42, PySem.W.mg_of X G nf42⟩
  have Ff43 := fun_mk (st := sLaw) lf43 cf43 kf43
  have bf43 := Ff43.binds (ps := ["_law_script"]) fun _ _ _ _ _ _ us hl => match us, hl with | [_], _ => rfl
  have T : Bt mg := ⟨PySem.W.mg_none_of X G b_len, PySem.W.mg_none_of X G b_int, PySem.W.mg_none_of X G b_range, PySem.W.mg_none_of X G b_isinstance, PySem.W.mg_none_of X G b_tuple, PySem.W.mg_none_of X G b_list, PySem.W.mg_none_of X G b_sorted, PySem.W.mg_none_of X G b_sum, PySem.W.mg_none_of X G b_max, PySem.W.mg_none_of X G b_enumerate, PySem.W.mg_none_of X G b_zip, PySem.W.mg_none_of X G b_all, PySem.W.mg_none_of X G b_bool, PySem.W.mg_none_of X G b_str⟩
  have TS : Bs mg := ⟨PySem.W.mg_none_of X G b_set⟩
  let Cc : Cn mg := ⟨_, _, _, PySem.W.mg_of X G qW, PySem.W.mg_of X G qR, PySem.W.mg_of X G qN⟩
  let CL : Cl mg := ⟨_, _, PySem.W.mg_of X G q2, PySem.W.mg_of X G q24⟩
  let LH : Ch mg := ⟨_, PySem.W.mg_of X G q3⟩
  let CG : Cg mg := ⟨_, PySem.W.mg_of X G qG⟩
  let CS : Cs mg := ⟨_, PySem.W.mg_of X G qS⟩
  let E : Er mg := ⟨_, _, _, _, _, _, _, _, _, PySem.W.mg_of X G mBP, PySem.W.mg_of X G mBL, PySem.W.mg_of X G mBF, PySem.W.mg_of X G mBG, PySem.W.mg_of X G mBE, PySem.W.mg_of X G mTM_, PySem.W.mg_of X G mOV, PySem.W.mg_of X G mBT, PySem.W.mg_of X G mDE, PySem.W.mg_none_of X G b_ValueError⟩
  have kTM_ : Knd K E E.TM 5 := ⟨⟨TM__hg, TM__hk, TM__hs, TM__hd, TM__ha, TM__hn, TM__ht, TM__hm⟩, exm_sub bDE iDE tDE TM__sDE, kit_type (by decide +kernel) TM__sVE, kit_no TM__n0 iBP tBP TM__s0, kit_no TM__n1 iBL tBL TM__s1, kit_no TM__n2 iBF tBF TM__s2, kit_no TM__n3 iBG tBG TM__s3, kit_no TM__n4 iBE tBE TM__s4, kit_self, kit_no TM__n6 iOV tOV TM__s6, kit_no TM__n7 iBT tBT TM__s7, by decide⟩
  have rTM_ : OvK K E.TM := ⟨TM__rx, TM__rk, TM__hs, TM__rt⟩
  let Z : Pt K w mg := ⟨d, es, n, PySem.W.mg_of X G pD, ⟨pL, pK, lo⟩, fun r => by
    cases r with
    | load _ _ => exact ⟨p_load, w_load, fun H => tup_lit u_load v_load (by show 2 ≤ 1000; decide)⟩
    | add _ _ => exact ⟨p_add, w_add, fun H => tup_lit u_add v_add (by show 2 ≤ 1000; decide)⟩
    | take _ _ => exact ⟨p_take, w_take, fun H => tup_lit u_take v_take (by show 2 ≤ 1000; decide)⟩
    | store _ _ => exact ⟨p_store, w_store, fun H => tup_lit u_store v_store (by show 2 ≤ 1000; decide)⟩
    | say _ => exact ⟨p_say, w_say, fun H => tup_lit u_say v_say (by show 1 ≤ 1000; decide)⟩
    | test _ _ => exact ⟨p_test, w_test, fun H => tup_lit u_test v_test (by show 2 ≤ 1000; decide)⟩
    | stop  => exact ⟨p_stop, w_stop, fun H => tup_lit u_stop v_stop (by show 0 ≤ 1000; decide)⟩⟩
  let ZW : Pw K w mg := ⟨e, es2, n2, PySem.W.mg_of X G pW, ⟨pWL, pWK, lo2⟩, fun r => by
    cases r with
    | load _ _ => exact ⟨_, x_load⟩
    | add _ _ => exact ⟨_, x_add⟩
    | take _ _ => exact ⟨_, x_take⟩
    | store _ _ => exact ⟨_, x_store⟩
    | say _ => exact ⟨_, x_say⟩
    | test _ _ => exact ⟨_, x_test⟩
    | stop  => exact ⟨_, x_stop⟩⟩
  have hA := fun base : Heap => ok_any (P := P) (w := w) (base := base) cAny cStopping cMixed cBody cFork cStraight cNext T
  have hL := fun base : Heap => ok_laying (P := P) (w := w) (base := base) cLaying cNext T TS
  have hCP := fun base : Heap => ok_checkProgram (P := P) (w := w) (base := base) cCheckProgram cCheckRow cCheckWorths cHasShape cPart cIsBetween cIsNumber T Cc Z
  have hCL := fun base : Heap => ok_checkLaying (P := P) (w := w) (base := base) cCheckLaying cCheckWide cCheckPlaces cCheckHomes cAreHomes cPart cIsBetween cIsNumber T TS CL LH
  have hLN := fun base : Heap => ok_lnexts (P := P) (w := w) (base := base) cLNexts T TS
  have hLC := fun base : Heap => ok_lcost (P := P) (w := w) (base := base) cLCost cOver cWait T
  have hPC := fun base : Heap => ok_cost (P := P) (w := w) (base := base) cCost cBeatBehind cBeatOfUse cBeatsOfUse cFirstBeat cUsesWorth T Z ZW
  have hAh := fun base : Heap => ok_ahead (P := P) (w := w) (base := base) cAhead cNexts cUsesWorth T TS Z
  have hLo := fun base : Heap => ok_loops (P := P) (w := w) (base := base) rTM_ E.mTM cLoops cCheckProgram cAhead T CG CS (hCP base) (hAh base)
  have hHv := fun base : Heap => ok_halves (P := P) (w := w) (base := base) cHalves T
  have hLh := fun base : Heap => ok_leastHalf (P := P) (w := w) (base := base) cLeastHalf cUsesWorth T Z ZW
  have hLe := fun base : Heap => ok_leastBeats (P := P) (w := w) (base := base) cLeastBeats cHalves cLeastHalf T (hHv base) (hLh base)
  have hIR := fun base : Heap => ok_inRounds (P := P) (w := w) (base := base) cInRounds
  have hLpB := fun base : Heap => ok_loopBeats (P := P) (w := w) (base := base) cLoopBeats cCheckProgram cCheckLaying cLoops cCost cInRounds cLeastBeats T (hCP base) (hCL base) (hLo base) (hPC base) (hIR base) (hLe base)
  have hLL := fun base : Heap => ok_ll (P := P) (w := w) (base := base) cLL cLNexts T (hLN base) 41
  refine ⟨_, [(cc, tP)], spLaw K tP, fun p hp => ?_, fun p hp => ?_, fun p hp => ?_, ?_, fun H a ns hl _ hT hS => ⟨a, ns, rfl, hS, hl, hT _ (List.mem_singleton.mpr rfl), fun _ => rfl⟩, fun base _ _ hT => ok_law lf43 cf43 (hT _ (List.mem_singleton.mpr rfl)) cDice cNext cAny cLaying cLike cTold cLL cLCost cLWork cLoops cLoopBeats T E kTM_ (hA base) (hL base) (hLL base) (hLC base) (hLo base) (hLpB base)⟩
  · rw [List.mem_singleton.mp hp]
    exact own cc tP _ _ _ _ _ _ lf43 rfl rfl cK c11
  · rw [List.mem_singleton.mp hp]
    exact nP
  · rw [List.mem_singleton.mp hp]
    exact ⟨_, vsc, _, _, _, _, _, _, _, X _ _ cK, rfl, rfl, c11, g11, g18, g7, g9, g10, ne_of_beq_false cP⟩
  · exact fun s v => .of_eq rfl
end DL
namespace HL
open PySem PySem.W PySem.Calls PyProof.Rows
def names0 : List PySem.Str := ["DrumError", "BadProgram", "BadLaying", "BadFuel", "BadGoes", "BadPaper", "TooMany", "Over", "BadText", "MOST_WORTHS", "MOST_ROWS", "MOST_NUMBER", "PARTS", "is_number", "is_between", "part", "uses_worth", "nexts", "rows_ahead", "check_program", "check_worths", "check_row", "has_shape", "LEAST_WIDE", "MOST_WIDE", "MOST_HOMES", "WORK", "check_laying", "check_wide", "check_places"]
def names1 : List PySem.Str := ["check_homes", "are_homes", "first_beat", "beats_of_use", "beat_of_use", "beat_behind", "cost", "halves", "least_half", "least_beats", "in_rounds", "MOST_LOOPS", "MOST_STRETCHES", "loops", "loop_beats", "_law_dice", "_law_next", "_law_like", "_law_straight", "_law_fork", "_law_body", "_law_mixed", "_law_stopping", "_law_any", "_law_laying", "_law_wait", "_law_over", "_law_cost", "_law_nexts", "_law_work"]
def names2 : List PySem.Str := ["_law_told", "_law_loops"]
def names : List PySem.Str := names0 ++ names1 ++ names2
abbrev qv : Program := view (PySem.W.OpenLaw.row PySem.Challenge.rw_drumlay_k13_loops).prog [68]
end HL
open PySem PySem.W PySem.Calls PyProof.Rows in
local macro_rules
  | `(tactic| o_head ($f:ident $k $a $e $t)) => `(tactic| (exact False.elim (by assumption)))
set_option maxHeartbeats 0 in
open PySem PySem.W PyProof.Rows in
theorem HL.hd0 (hf : False) : PySem.Challenge.rw_drumlay_k13_loops.Holds := by
  w_on; o_law; k_head
set_option maxHeartbeats 0 in
open PySem PySem.W PySem.Calls PyProof.Rows in
theorem HL.runF (w : World) : HandSHeadRun.RunEq (PySem.W.OpenLaw.row PySem.Challenge.rw_drumlay_k13_loops) HL.qv (kmHook HL.hd0.heap_39 [2, 3, 15, 22, 23, 24, 25, 28, 35, 37, 38, 40, 41, 42, 43, 44, 47, 54, 56, 57, 59, 60, 61, 62, 63, 66, 73, 74, 75, 78, 85, 86, 87, 90, 97, 99, 100, 102, 103, 104, 105, 106, 109, 116, 117, 118, 121, 128, 129, 130, 133, 140, 142, 143, 145, 146, 147, 148, 149, 152, 153, 154, 155, 156, 157, 158, 159, 160, 162, 163, 165, 166, 167, 169, 170, 172, 173, 174, 176, 177, 179, 180, 181, 183, 184, 186, 187, 188, 190, 191, 193, 194, 195, 197, 198, 200, 201, 202, 204, 205, 207, 208, 209, 211, 212, 214, 215, 216, 218, 219, 221, 222, 223, 226, 227, 228, 229, 231, 232, 234, 235, 236, 238, 239, 241, 242, 243, 245, 246, 248, 249, 250, 252, 253, 255, 256, 257, 260, 261, 262, 264, 265, 267, 268, 269, 272, 273, 274, 276, 277, 279, 280, 281, 283, 284, 286, 287, 288, 290, 291, 293, 294, 295, 298, 299, 300, 302, 303, 305, 306, 307, 310, 311, 312, 314, 315, 317, 318, 319, 322, 323, 324, 327, 328, 329, 331, 332, 334, 335, 336, 338, 339, 341, 342, 343, 345, 346, 348, 349, 350, 352, 353, 355, 356, 357, 360, 361, 362, 364, 365, 367, 368, 369, 372, 373, 374, 377, 378, 379, 382, 383, 384, 387, 388, 389, 391, 392, 394, 395, 396, 399, 400, 401, 403, 404, 406, 407, 408, 410, 411, 413, 414, 415, 417, 418, 420, 421, 422, 424, 425, 427, 428, 429, 431, 432, 434, 435, 436, 439, 440] (fun _ => by kernel_rfl) [437]) (fun s => (List.map (HandSHeadRun.getT s) [2, 3, 15, 22, 23, 24, 25, 28, 35, 37, 38, 40, 41, 42, 43, 44, 47, 54, 56, 57, 59, 60, 61, 62, 63, 66, 73, 74, 75, 78, 85, 86, 87, 90, 97, 99, 100, 102, 103, 104, 105, 106, 109, 116, 117, 118, 121, 128, 129, 130, 133, 140, 142, 143, 145, 146, 147, 148, 149, 152, 153, 154, 155, 156, 157, 158, 159, 160, 162, 163, 165, 166, 167, 169, 170, 172, 173, 174, 176, 177, 179, 180, 181, 183, 184, 186, 187, 188, 190, 191, 193, 194, 195, 197, 198, 200, 201, 202, 204, 205, 207, 208, 209, 211, 212, 214, 215, 216, 218, 219, 221, 222, 223, 226, 227, 228, 229, 231, 232, 234, 235, 236, 238, 239, 241, 242, 243, 245, 246, 248, 249, 250, 252, 253, 255, 256, 257, 260, 261, 262, 264, 265, 267, 268, 269, 272, 273, 274, 276, 277, 279, 280, 281, 283, 284, 286, 287, 288, 290, 291, 293, 294, 295, 298, 299, 300, 302, 303, 305, 306, 307, 310, 311, 312, 314, 315, 317, 318, 319, 322, 323, 324, 327, 328, 329, 331, 332, 334, 335, 336, 338, 339, 341, 342, 343, 345, 346, 348, 349, 350, 352, 353, 355, 356, 357, 360, 361, 362, 364, 365, 367, 368, 369, 372, 373, 374, 377, 378, 379, 382, 383, 384, 387, 388, 389, 391, 392, 394, 395, 396, 399, 400, 401, 403, 404, 406, 407, 408, 410, 411, 413, 414, 415, 417, 418, 420, 421, 422, 424, 425, 427, 428, 429, 431, 432, 434, 435, 436, 439, 440], List.map (HandSHeadRun.getT s) [437])) 9000 HL.names (w.withFollow "special-get-raises" false) := by
  delta HandSHeadRun.RunEq
  intro os; kernel_rfl
set_option maxHeartbeats 0 in
open PySem PySem.W PySem.Calls PyProof.Rows in
theorem HL.runT (w : World) : HandSHeadRun.RunEq (PySem.W.OpenLaw.row PySem.Challenge.rw_drumlay_k13_loops) HL.qv (kmHook HL.hd0.heap_39 [2, 3, 15, 22, 23, 24, 25, 28, 35, 37, 38, 40, 41, 42, 43, 44, 47, 54, 56, 57, 59, 60, 61, 62, 63, 66, 73, 74, 75, 78, 85, 86, 87, 90, 97, 99, 100, 102, 103, 104, 105, 106, 109, 116, 117, 118, 121, 128, 129, 130, 133, 140, 142, 143, 145, 146, 147, 148, 149, 152, 153, 154, 155, 156, 157, 158, 159, 160, 162, 163, 165, 166, 167, 169, 170, 172, 173, 174, 176, 177, 179, 180, 181, 183, 184, 186, 187, 188, 190, 191, 193, 194, 195, 197, 198, 200, 201, 202, 204, 205, 207, 208, 209, 211, 212, 214, 215, 216, 218, 219, 221, 222, 223, 226, 227, 228, 229, 231, 232, 234, 235, 236, 238, 239, 241, 242, 243, 245, 246, 248, 249, 250, 252, 253, 255, 256, 257, 260, 261, 262, 264, 265, 267, 268, 269, 272, 273, 274, 276, 277, 279, 280, 281, 283, 284, 286, 287, 288, 290, 291, 293, 294, 295, 298, 299, 300, 302, 303, 305, 306, 307, 310, 311, 312, 314, 315, 317, 318, 319, 322, 323, 324, 327, 328, 329, 331, 332, 334, 335, 336, 338, 339, 341, 342, 343, 345, 346, 348, 349, 350, 352, 353, 355, 356, 357, 360, 361, 362, 364, 365, 367, 368, 369, 372, 373, 374, 377, 378, 379, 382, 383, 384, 387, 388, 389, 391, 392, 394, 395, 396, 399, 400, 401, 403, 404, 406, 407, 408, 410, 411, 413, 414, 415, 417, 418, 420, 421, 422, 424, 425, 427, 428, 429, 431, 432, 434, 435, 436, 439, 440] (fun _ => by kernel_rfl) [437]) (fun s => (List.map (HandSHeadRun.getT s) [2, 3, 15, 22, 23, 24, 25, 28, 35, 37, 38, 40, 41, 42, 43, 44, 47, 54, 56, 57, 59, 60, 61, 62, 63, 66, 73, 74, 75, 78, 85, 86, 87, 90, 97, 99, 100, 102, 103, 104, 105, 106, 109, 116, 117, 118, 121, 128, 129, 130, 133, 140, 142, 143, 145, 146, 147, 148, 149, 152, 153, 154, 155, 156, 157, 158, 159, 160, 162, 163, 165, 166, 167, 169, 170, 172, 173, 174, 176, 177, 179, 180, 181, 183, 184, 186, 187, 188, 190, 191, 193, 194, 195, 197, 198, 200, 201, 202, 204, 205, 207, 208, 209, 211, 212, 214, 215, 216, 218, 219, 221, 222, 223, 226, 227, 228, 229, 231, 232, 234, 235, 236, 238, 239, 241, 242, 243, 245, 246, 248, 249, 250, 252, 253, 255, 256, 257, 260, 261, 262, 264, 265, 267, 268, 269, 272, 273, 274, 276, 277, 279, 280, 281, 283, 284, 286, 287, 288, 290, 291, 293, 294, 295, 298, 299, 300, 302, 303, 305, 306, 307, 310, 311, 312, 314, 315, 317, 318, 319, 322, 323, 324, 327, 328, 329, 331, 332, 334, 335, 336, 338, 339, 341, 342, 343, 345, 346, 348, 349, 350, 352, 353, 355, 356, 357, 360, 361, 362, 364, 365, 367, 368, 369, 372, 373, 374, 377, 378, 379, 382, 383, 384, 387, 388, 389, 391, 392, 394, 395, 396, 399, 400, 401, 403, 404, 406, 407, 408, 410, 411, 413, 414, 415, 417, 418, 420, 421, 422, 424, 425, 427, 428, 429, 431, 432, 434, 435, 436, 439, 440], List.map (HandSHeadRun.getT s) [437])) 9000 HL.names (w.withFollow "special-get-raises" true) := by
  delta HandSHeadRun.RunEq
  intro os; kernel_rfl
open PySem PySem.W PyProof.Rows in
set_option maxRecDepth 100000 in
set_option maxHeartbeats 0 in
theorem PySem.Challenge.cw_drumlay_k13_loops_holds : PySem.Challenge.rw_drumlay_k13_loops.Holds := by
  w_on; o_law
  refine HandSHeadRun.head_any (r := PySem.W.OpenLaw.row PySem.Challenge.rw_drumlay_k13_loops) (q := HL.qv) (H := kmHook HL.hd0.heap_39 [2, 3, 15, 22, 23, 24, 25, 28, 35, 37, 38, 40, 41, 42, 43, 44, 47, 54, 56, 57, 59, 60, 61, 62, 63, 66, 73, 74, 75, 78, 85, 86, 87, 90, 97, 99, 100, 102, 103, 104, 105, 106, 109, 116, 117, 118, 121, 128, 129, 130, 133, 140, 142, 143, 145, 146, 147, 148, 149, 152, 153, 154, 155, 156, 157, 158, 159, 160, 162, 163, 165, 166, 167, 169, 170, 172, 173, 174, 176, 177, 179, 180, 181, 183, 184, 186, 187, 188, 190, 191, 193, 194, 195, 197, 198, 200, 201, 202, 204, 205, 207, 208, 209, 211, 212, 214, 215, 216, 218, 219, 221, 222, 223, 226, 227, 228, 229, 231, 232, 234, 235, 236, 238, 239, 241, 242, 243, 245, 246, 248, 249, 250, 252, 253, 255, 256, 257, 260, 261, 262, 264, 265, 267, 268, 269, 272, 273, 274, 276, 277, 279, 280, 281, 283, 284, 286, 287, 288, 290, 291, 293, 294, 295, 298, 299, 300, 302, 303, 305, 306, 307, 310, 311, 312, 314, 315, 317, 318, 319, 322, 323, 324, 327, 328, 329, 331, 332, 334, 335, 336, 338, 339, 341, 342, 343, 345, 346, 348, 349, 350, 352, 353, 355, 356, 357, 360, 361, 362, 364, 365, 367, 368, 369, 372, 373, 374, 377, 378, 379, 382, 383, 384, 387, 388, 389, 391, 392, 394, 395, 396, 399, 400, 401, 403, 404, 406, 407, 408, 410, 411, 413, 414, 415, 417, 418, 420, 421, 422, 424, 425, 427, 428, 429, 431, 432, 434, 435, 436, 439, 440] (fun _ => by kernel_rfl) [437]) (ob := fun s => (List.map (HandSHeadRun.getT s) [2, 3, 15, 22, 23, 24, 25, 28, 35, 37, 38, 40, 41, 42, 43, 44, 47, 54, 56, 57, 59, 60, 61, 62, 63, 66, 73, 74, 75, 78, 85, 86, 87, 90, 97, 99, 100, 102, 103, 104, 105, 106, 109, 116, 117, 118, 121, 128, 129, 130, 133, 140, 142, 143, 145, 146, 147, 148, 149, 152, 153, 154, 155, 156, 157, 158, 159, 160, 162, 163, 165, 166, 167, 169, 170, 172, 173, 174, 176, 177, 179, 180, 181, 183, 184, 186, 187, 188, 190, 191, 193, 194, 195, 197, 198, 200, 201, 202, 204, 205, 207, 208, 209, 211, 212, 214, 215, 216, 218, 219, 221, 222, 223, 226, 227, 228, 229, 231, 232, 234, 235, 236, 238, 239, 241, 242, 243, 245, 246, 248, 249, 250, 252, 253, 255, 256, 257, 260, 261, 262, 264, 265, 267, 268, 269, 272, 273, 274, 276, 277, 279, 280, 281, 283, 284, 286, 287, 288, 290, 291, 293, 294, 295, 298, 299, 300, 302, 303, 305, 306, 307, 310, 311, 312, 314, 315, 317, 318, 319, 322, 323, 324, 327, 328, 329, 331, 332, 334, 335, 336, 338, 339, 341, 342, 343, 345, 346, 348, 349, 350, 352, 353, 355, 356, 357, 360, 361, 362, 364, 365, 367, 368, 369, 372, 373, 374, 377, 378, 379, 382, 383, 384, 387, 388, 389, 391, 392, 394, 395, 396, 399, 400, 401, 403, 404, 406, 407, 408, 410, 411, 413, 414, 415, 417, 418, 420, 421, 422, 424, 425, 427, 428, 429, 431, 432, 434, 435, 436, 439, 440], List.map (HandSHeadRun.getT s) [437])) (M := 9000) (loose := HL.names) (d := HandSHeadRun.topDef (PySem.W.OpenLaw.row PySem.Challenge.rw_drumlay_k13_loops).prog 68) (kwd := []) ?hob ?hop ?hfe (fun w => byRow2 "special-get-raises" HL.runF HL.runT w) ?hdef ?hpd ?hkk ?hwr ?hk1 ?hok ?hba ?hw ?hc
  case hob => exact fun s => Prod.ext (List.map_congr_left fun a _ => HandSHeadRun.getT_eq s a) (List.map_congr_left fun a _ => HandSHeadRun.getT_eq s a)
  case hop => kernel_rfl
  case hfe => exact fun s => by kernel_rfl
  case hdef => kernel_rfl
  case hpd => kernel_rfl
  case hkk => kernel_rfl
  case hwr => rfl
  case hk1 => first | assumption | decide +kernel
  case hok => decide +kernel
  case hba => exact ⟨rfl, rfl, rfl, rfl, rfl, by decide +kernel⟩
  case hw => w_witness2
  k_fill
  refine LamX.walk_ofOwn (l := PySem.Challenge.rw_drumlay_k13_loops) (n := 63) (k := 45) (x := "_law_script") (CX := fun _ => L2.CX0) rfl (by decide) (by kernel_rfl) ⟨rfl, by decide, by decide⟩ ?hrec (fun w h Y => PySem.W.km_in_of Y) ?F fun _ _ _ _ _ z => z
  case hrec => exact (by decide +kernel)
  case F =>
    intro w mg fa h Y KX G hmg0 own
    have hmg : mg ("law" : PySem.Str) = some (.ref fa) := by
      have e : (HandSHeadRun.topDef (PySem.W.OpenLaw.row PySem.Challenge.rw_drumlay_k13_loops).prog 68).name = ("law" : PySem.Str) := by kernel_rfl
      rw [← e]
      exact hmg0
    refine' DL.all_mk KX G hmg ?nf0 ?lf0 ?cf0 ?kf0 ?nf1 ?lf1 ?cf1 ?kf1 ?nf2 ?lf2 ?cf2 ?kf2 ?nf3 ?lf3 ?cf3 ?kf3 ?nf4 ?lf4 ?cf4 ?kf4 ?nf5 ?lf5 ?cf5 ?kf5 ?nf6 ?lf6 ?cf6 ?kf6 ?nf7 ?lf7 ?cf7 ?kf7 ?nf8 ?lf8 ?cf8 ?kf8 ?nf9 ?lf9 ?cf9 ?kf9 ?nf10 ?lf10 ?cf10 ?kf10 ?nf11 ?lf11 ?cf11 ?kf11 ?nf12 ?lf12 ?cf12 ?kf12 ?nf13 ?lf13 ?cf13 ?kf13 ?nf14 ?lf14 ?cf14 ?kf14 ?nf15 ?lf15 ?cf15 ?kf15 ?nf16 ?lf16 ?cf16 ?kf16 ?nf17 ?lf17 ?cf17 ?kf17 ?nf18 ?lf18 ?cf18 ?kf18 ?nf19 ?lf19 ?cf19 ?kf19 ?nf20 ?lf20 ?cf20 ?kf20 ?nf21 ?lf21 ?cf21 ?kf21 ?nf22 ?lf22 ?cf22 ?kf22 ?nf23 ?lf23 ?cf23 ?kf23 ?nf24 ?lf24 ?cf24 ?kf24 ?nf25 ?lf25 ?cf25 ?kf25 ?nf26 ?lf26 ?cf26 ?kf26 ?nf27 ?lf27 ?cf27 ?kf27 ?nf28 ?lf28 ?cf28 ?kf28 ?nf29 ?lf29 ?cf29 ?kf29 ?nf30 ?lf30 ?cf30 ?kf30 ?nf31 ?lf31 ?cf31 ?kf31 ?nf32 ?lf32 ?cf32 ?kf32 ?nf33 ?lf33 ?cf33 ?kf33 ?nf34 ?lf34 ?cf34 ?kf34 ?nf35 ?lf35 ?cf35 ?kf35 ?nf36 ?lf36 ?cf36 ?kf36 ?nf37 ?lf37 ?cf37 ?kf37 ?nf38 ?lf38 ?cf38 ?kf38 ?nf39 ?lf39 ?cf39 ?kf39 ?nf40 ?lf40 ?cf40 ?kf40 ?nf41 ?lf41 ?cf41 ?kf41 ?nf42 ?lf42 ?cf42 ?kf42 ?nf43 ?lf43 ?cf43 ?kf43 ?mBP ?mBL ?mBF ?mBG ?mBE ?mTM_ ?mOV ?mBT ?mDE ?b_ValueError ?iBP ?tBP ?iBL ?tBL ?iBF ?tBF ?iBG ?tBG ?iBE ?tBE ?iTM_ ?tTM_ ?iOV ?tOV ?iBT ?tBT ?iDE ?tDE ?bDE ?TM__hg ?TM__hk ?TM__hs ?TM__hd ?TM__ha ?TM__hn ?TM__ht ?TM__hm ?TM__sDE ?TM__sVE ?TM__s0 ?TM__s1 ?TM__s2 ?TM__s3 ?TM__s4 ?TM__s6 ?TM__s7 ?TM__n0 ?TM__n1 ?TM__n2 ?TM__n3 ?TM__n4 ?TM__n6 ?TM__n7 ?TM__rx ?TM__rk ?TM__rt ?cK ?c11 ?g11 ?g18 ?g7 ?g9 ?g10 ?cP ?nP ?b_len ?b_int ?b_range ?b_isinstance ?b_tuple ?b_list ?b_sorted ?b_sum ?b_max ?b_enumerate ?b_zip ?b_all ?b_bool ?b_str ?b_set ?qW ?qR ?qN ?q2 ?q24 ?q3 ?qG ?qS ?pD ?pL ?pK ?w_load ?u_load ?v_load ?w_add ?u_add ?v_add ?w_take ?u_take ?v_take ?w_store ?u_store ?v_store ?w_say ?u_say ?v_say ?w_test ?u_test ?v_test ?w_stop ?u_stop ?v_stop ?lo ?pW ?pWL ?pWK ?x_load ?x_add ?x_take ?x_store ?x_say ?x_test ?x_stop ?lo2 own
    (case nf0 => k_is)
    (case lf0 => k_is)
    (case cf0 => k_is)
    (case kf0 => k_is)
    (case nf1 => k_is)
    (case lf1 => k_is)
    (case cf1 => k_is)
    (case kf1 => k_is)
    (case nf2 => k_is)
    (case lf2 => k_is)
    (case cf2 => k_is)
    (case kf2 => k_is)
    (case nf3 => k_is)
    (case lf3 => k_is)
    (case cf3 => k_is)
    (case kf3 => k_is)
    (case nf4 => k_is)
    (case lf4 => k_is)
    (case cf4 => k_is)
    (case kf4 => k_is)
    (case nf5 => k_is)
    (case lf5 => k_is)
    (case cf5 => k_is)
    (case kf5 => k_is)
    (case nf6 => k_is)
    (case lf6 => k_is)
    (case cf6 => k_is)
    (case kf6 => k_is)
    (case nf7 => k_is)
    (case lf7 => k_is)
    (case cf7 => k_is)
    (case kf7 => k_is)
    (case nf8 => k_is)
    (case lf8 => k_is)
    (case cf8 => k_is)
    (case kf8 => k_is)
    (case nf9 => k_is)
    (case lf9 => k_is)
    (case cf9 => k_is)
    (case kf9 => k_is)
    (case nf10 => k_is)
    (case lf10 => k_is)
    (case cf10 => k_is)
    (case kf10 => k_is)
    (case nf11 => k_is)
    (case lf11 => k_is)
    (case cf11 => k_is)
    (case kf11 => k_is)
    (case nf12 => k_is)
    (case lf12 => k_is)
    (case cf12 => k_is)
    (case kf12 => k_is)
    (case nf13 => k_is)
    (case lf13 => k_is)
    (case cf13 => k_is)
    (case kf13 => k_is)
    (case nf14 => k_is)
    (case lf14 => k_is)
    (case cf14 => k_is)
    (case kf14 => k_is)
    (case nf15 => k_is)
    (case lf15 => k_is)
    (case cf15 => k_is)
    (case kf15 => k_is)
    (case nf16 => k_is)
    (case lf16 => k_is)
    (case cf16 => k_is)
    (case kf16 => k_is)
    (case nf17 => k_is)
    (case lf17 => k_is)
    (case cf17 => k_is)
    (case kf17 => k_is)
    (case nf18 => k_is)
    (case lf18 => k_is)
    (case cf18 => k_is)
    (case kf18 => k_is)
    (case nf19 => k_is)
    (case lf19 => k_is)
    (case cf19 => k_is)
    (case kf19 => k_is)
    (case nf20 => k_is)
    (case lf20 => k_is)
    (case cf20 => k_is)
    (case kf20 => k_is)
    (case nf21 => k_is)
    (case lf21 => k_is)
    (case cf21 => k_is)
    (case kf21 => k_is)
    (case nf22 => k_is)
    (case lf22 => k_is)
    (case cf22 => k_is)
    (case kf22 => k_is)
    (case nf23 => k_is)
    (case lf23 => k_is)
    (case cf23 => k_is)
    (case kf23 => k_is)
    (case nf24 => k_is)
    (case lf24 => k_is)
    (case cf24 => k_is)
    (case kf24 => k_is)
    (case nf25 => k_is)
    (case lf25 => k_is)
    (case cf25 => k_is)
    (case kf25 => k_is)
    (case nf26 => k_is)
    (case lf26 => k_is)
    (case cf26 => k_is)
    (case kf26 => k_is)
    (case nf27 => k_is)
    (case lf27 => k_is)
    (case cf27 => k_is)
    (case kf27 => k_is)
    (case nf28 => k_is)
    (case lf28 => k_is)
    (case cf28 => k_is)
    (case kf28 => k_is)
    (case nf29 => k_is)
    (case lf29 => k_is)
    (case cf29 => k_is)
    (case kf29 => k_is)
    (case nf30 => k_is)
    (case lf30 => k_is)
    (case cf30 => k_is)
    (case kf30 => k_is)
    (case nf31 => k_is)
    (case lf31 => k_is)
    (case cf31 => k_is)
    (case kf31 => k_is)
    (case nf32 => k_is)
    (case lf32 => k_is)
    (case cf32 => k_is)
    (case kf32 => k_is)
    (case nf33 => k_is)
    (case lf33 => k_is)
    (case cf33 => k_is)
    (case kf33 => k_is)
    (case nf34 => k_is)
    (case lf34 => k_is)
    (case cf34 => k_is)
    (case kf34 => k_is)
    (case nf35 => k_is)
    (case lf35 => k_is)
    (case cf35 => k_is)
    (case kf35 => k_is)
    (case nf36 => k_is)
    (case lf36 => k_is)
    (case cf36 => k_is)
    (case kf36 => k_is)
    (case nf37 => k_is)
    (case lf37 => k_is)
    (case cf37 => k_is)
    (case kf37 => k_is)
    (case nf38 => k_is)
    (case lf38 => k_is)
    (case cf38 => k_is)
    (case kf38 => k_is)
    (case nf39 => k_is)
    (case lf39 => k_is)
    (case cf39 => k_is)
    (case kf39 => k_is)
    (case nf40 => k_is)
    (case lf40 => k_is)
    (case cf40 => k_is)
    (case kf40 => k_is)
    (case nf41 => k_is)
    (case lf41 => k_is)
    (case cf41 => k_is)
    (case kf41 => k_is)
    (case nf42 => k_is)
    (case lf42 => k_is)
    (case cf42 => k_is)
    (case kf42 => k_is)
    (case nf43 => k_is)
    (case lf43 => k_is)
    (case cf43 => k_is)
    (case kf43 => k_is)
    (case mBP => k_is)
    (case mBL => k_is)
    (case mBF => k_is)
    (case mBG => k_is)
    (case mBE => k_is)
    (case mTM_ => k_is)
    (case mOV => k_is)
    (case mBT => k_is)
    (case mDE => k_is)
    (case b_ValueError => k_is)
    (case iBP => k_is)
    (case tBP => k_is)
    (case iBL => k_is)
    (case tBL => k_is)
    (case iBF => k_is)
    (case tBF => k_is)
    (case iBG => k_is)
    (case tBG => k_is)
    (case iBE => k_is)
    (case tBE => k_is)
    (case iTM_ => k_is)
    (case tTM_ => k_is)
    (case iOV => k_is)
    (case tOV => k_is)
    (case iBT => k_is)
    (case tBT => k_is)
    (case iDE => k_is)
    (case tDE => k_is)
    (case bDE => k_is)
    (case TM__hg => k_is)
    (case TM__hk => k_is)
    (case TM__hs => k_is)
    (case TM__hd => k_is)
    (case TM__ha => k_is)
    (case TM__hn => k_is)
    (case TM__ht => k_is)
    (case TM__hm => k_is)
    (case TM__sDE => k_is)
    (case TM__sVE => k_is)
    (case TM__s0 => k_is)
    (case TM__s1 => k_is)
    (case TM__s2 => k_is)
    (case TM__s3 => k_is)
    (case TM__s4 => k_is)
    (case TM__s6 => k_is)
    (case TM__s7 => k_is)
    (case TM__n0 => decide)
    (case TM__n1 => decide)
    (case TM__n2 => decide)
    (case TM__n3 => decide)
    (case TM__n4 => decide)
    (case TM__n6 => decide)
    (case TM__n7 => decide)
    (case TM__rx => k_exc)
    (case TM__rk => k_is)
    (case TM__rt => k_is)
    (case cK => k_is)
    (case c11 => exact rfl)
    (case g11 => exact rfl)
    (case g18 => exact rfl)
    (case g7 => exact rfl)
    (case g9 => exact rfl)
    (case g10 => exact rfl)
    (case cP => decide)
    (case nP => first | k_is | rfl | decide +kernel)
    (case b_len => k_is)
    (case b_int => k_is)
    (case b_range => k_is)
    (case b_isinstance => k_is)
    (case b_tuple => k_is)
    (case b_list => k_is)
    (case b_sorted => k_is)
    (case b_sum => k_is)
    (case b_max => k_is)
    (case b_enumerate => k_is)
    (case b_zip => k_is)
    (case b_all => k_is)
    (case b_bool => k_is)
    (case b_str => k_is)
    (case b_set => k_is)
    (case qW => k_is)
    (case qR => k_is)
    (case qN => k_is)
    (case q2 => k_is)
    (case q24 => k_is)
    (case q3 => k_is)
    (case qG => k_is)
    (case qS => k_is)
    (case pD => k_is)
    (case pL => k_is)
    (case pK => k_keys)
    (case w_load => k_is)
    (case u_load => k_is)
    (case v_load => exact (.cons ⟨_, rfl⟩ (.cons ⟨_, rfl⟩ .nil)))
    (case w_add => k_is)
    (case u_add => k_is)
    (case v_add => exact (.cons ⟨_, rfl⟩ (.cons ⟨_, rfl⟩ .nil)))
    (case w_take => k_is)
    (case u_take => k_is)
    (case v_take => exact (.cons ⟨_, rfl⟩ (.cons ⟨_, rfl⟩ .nil)))
    (case w_store => k_is)
    (case u_store => k_is)
    (case v_store => exact (.cons ⟨_, rfl⟩ (.cons ⟨_, rfl⟩ .nil)))
    (case w_say => k_is)
    (case u_say => k_is)
    (case v_say => exact (.cons ⟨_, rfl⟩ .nil))
    (case w_test => k_is)
    (case u_test => k_is)
    (case v_test => exact (.cons ⟨_, rfl⟩ (.cons ⟨_, rfl⟩ .nil)))
    (case w_stop => k_is)
    (case u_stop => k_is)
    (case v_stop => exact .nil)
    (case lo => decide)
    (case pW => k_is)
    (case pWL => k_is)
    (case pWK => k_keys)
    (case x_load => k_is)
    (case x_add => k_is)
    (case x_take => k_is)
    (case x_store => k_is)
    (case x_say => k_is)
    (case x_test => k_is)
    (case x_stop => k_is)
    (case lo2 => decide)
