import PyProof.Rows.All
import Wide.All
import OpenK.AllK
import Wide.FinOn
import HandS.ForMost
import HandS.ForExc
import HandS.Wide
import HandS.IsInst
import HandS.Style
import HandS.Evl
import KE.GoesEnum
import HandS.SortRule
import HandS.SortInts
import HandS.Defaults
import HandS.Iter
import KE.SortKeyHeap
import KE.KSortKey
import HandS.Lambda
import HandS.Nested
import HandS.SortKw
import HandS.CallLocal
import HandS.WordsDict
import HandS.Conv
import HandS.ExcInit
import HandS.WordsExc
import HandS.ExcField
import HandS.ExcOwn
import HandS.TryMany
import KE.KDflt
import KE.KExcIs
import HandS.ExcIs
import HandS.WideBits
import HandS.WideMore
import PyProof.ReprRoads
import PyProof.FitsInt
import PyProof.Rows.RegStrFacts
import PyProof.ReprLen
import PyProof.AssignAttr
import HandS.More
import HandS.TupAny
import HandS.Small
import HandS.Text
import HandS.Codes
import HandS.Star
import HandS.Flow
import KE.KStateDown
import KE.KNestM
import HandS.EndTab
import PySem.Challenge.RW_askedorder_k88_heaps_by_any_answers
set_option Elab.async false
set_option linter.all false
set_option maxRecDepth 100000
set_option maxHeartbeats 8000000
namespace L2
open PySem PySem.Spec PyProof.Rows
/-! ### own rules: list + list of lists that are only read, powers, repr of a bool, calls by keywords alone -/
def rCatS (K : PySem.W.Frag) : R2 := fun x y H Q => ∃ l b xs zs, x = .ref l ∧ y = .ref b ∧ SqL K H l xs ∧ SqL K H b zs ∧ xs.length + zs.length ≤ sizeLine ∧ ∀ p, H p = none → Q (.ref p) (upd H p (.lst (xs ++ zs)))
theorem op_catS {X : Cx} : OpR X (binaryOp .Add) (rCatS X.K) := by
  intro pins s σ H x y v u Q I rx ry h
  obtain ⟨l, b, xs, zs, rfl, rfl, hH, hB, hz, q⟩ := h
  cases rx
  cases ry
  obtain ⟨its, r, pl, hl⟩ := I.list hH
  obtain ⟨its2, r2, pl2, hl2⟩ := I.list hB
  have e1 := r.length
  have e2 := r2.length
  obtain ⟨⟨cls, dd, data, sl⟩, n, ho, hc, hdd, hd⟩ := pl
  obtain ⟨⟨cls2, dd2, data2, sl2⟩, n2, ho2, hc2, hdd2, hd2⟩ := pl2
  simp only at hc hd hc2 hd2
  subst hc hd hc2 hd2
  have e : its.toArray ++ its2.toArray = (its ++ its2).toArray := by simp
  refine concat_meets ⟨_, ho, rfl⟩ ⟨_, ho2, rfl⟩ noFill_list_add seq_list_add PySem.F.slot_list_add PySem.F.entry_list_add (PySem.F.args_list_add_2 _ _) (list_addW l b its.toArray its2.toArray n n2 dd dd2 sl sl2 (by simp only [List.size_toArray]; omega)) ⟨ho, ho2, ?_⟩
  rw [e]
  exact ⟨.ref _, _, I.lnew (t' := s.toks) (r.append r2) (by rw [List.length_append]; omega), rfl, q _ I.fresh⟩
def CPowW (i j : Int) : Prop := 0 ≤ j ∧ (Builtin.Int.intBits i : Int) * j ≤ 2 ^ 27
theorem op_powW {X : Cx} : OpR X (binaryOp .Pow) (rI CPowW fun i j => .int (i ^ j.toNat)) := opI fun _ _ _ _ _ _ _ hc q => pow_int hc.1 hc.2 q
theorem call_repr_bool {X : Cx} : CallR X (.builtin "repr") (fun xs H Q => ∃ b, xs = [.bl b] ∧ Q (.str (if b then "True" else "False")) H) := by
  intro pins s σ H xs us Q I r h
  obtain ⟨b, rfl, q⟩ := h
  obtain ⟨u, rfl, r1⟩ := vals1 r
  cases r1
  exact PySem.P.repr_of_bool ⟨.str _, H, I.tok _, ⟨_, rfl⟩, q⟩
/-- f(k = v, ..), keywords alone -/
def tCallK0 (sp : Sp) (gV : List V → List V → List V) (E : XK) (tk : TA) : TE := fun σ H Q => tk σ H fun zs H2 => sp (gV [] zs) H2 Q E
theorem pe_callK0 {X : Cx} {CX : CXT} {k : Nat} {f : Addr} {fd : FuncData} {ps ks : List Str} {sp : Sp} {E : XK} {x : Str} {p pos : Pos} {kws : List Keyword} {tk : TA} {g : List Value → List Value → List Value} {gV : List V → List V → List V}
    (F : FnOk X.prog X.w X.K X.mg X.base CX k f fd ps sp) (hr : Room k X.A) (hg : Gl X x) (hm : X.mg x = some (.ref f)) (hk : PySem.W.keepIn X.K (.ref f) = true) (hb : KBinds X.K fd ps ks g gV) (hx : Passes CX X E)
    (hkw : PK X kws tk) (hall : (backToKw pos (keywordEach kws X.env)).all (·.1.isSome) = true := by rfl) (hks : (backToKw pos (keywordEach kws X.env)).filterMap (·.1) = ks := by rfl)
    (hdb : (x == ("__debug__" : Str)) = false := by decide)
    (hpl : ((backTo pos (starEach [] X.env)).any (·.1) || (backToKw pos (keywordEach kws X.env)).any (·.1.isNone)) = false := by rfl) :
    PE X (.Call (.Name x p) [] kws pos) (tCallK0 sp gV E tk) := by
  refine ⟨fun pins s σ H Q I h => ?_⟩
  refine wpAny_Call_Name_kw (ld_glob I hg hm ?_ hdb)
  refine PySem.W.callWith_KW0 (h₀ := X.base) I.ok.mod.kin hk hall ?_ hpl
  refine thn (hkw.run pos pins s σ H _ I h) fun ws s2 ⟨zs, H2, I2, rz, q2⟩ => ⟨I2.kIn, ?_⟩
  rw [hks]
  exact run_fnk F hr hb hx I2 .nil rz q2
/-! ### heaps: all but one address -/
/-- all that was tracked, but at p, is as it was -/
def SB (p : Addr) (H H' : Hp) : Prop := ∀ b o, b ≠ p → H b = some o → H' b = some o
theorem SB.refl (p : Addr) (H : Hp) : SB p H H := fun _ _ _ h => h
theorem SB.trans {p : Addr} {H H1 H2 : Hp} (a : SB p H H1) (b : SB p H1 H2) : SB p H H2 := fun c o n h => b c o n (a c o n h)
theorem SB.new {p q : Addr} {H : Hp} {o : HO} (h : H q = none) : SB p H (upd H q o) := fun b u n e => by
  rw [upd_ne (ne_of_none e h)]
  exact e
theorem SB.put {p : Addr} {H : Hp} {o : HO} : SB p H (upd H p o) := fun b u n e => by
  rw [upd_ne n]
  exact e
theorem SB.of {p : Addr} {H H' : Hp} (a : Same H H') : SB p H H' := fun c o _ h => a c o h
theorem SB.seq {p : Addr} {K : PySem.W.Frag} {H H' : Hp} {a : Addr} {xs : List V} (e : SB p H H') (n : a ≠ p) (h : SqL K H a xs) : SqL K H' a xs := by
  rcases h with (h | ⟨o, h⟩) | h
  · exact .inl (.inl (e _ _ n h))
  · exact .inl (.inr ⟨o, e _ _ n h⟩)
  · exact .inr h
theorem SB.tup {p : Addr} {K : PySem.W.Frag} {H H' : Hp} {a : Addr} {xs : List V} (e : SB p H H') (n : a ≠ p) (h : SqT K H a xs) : SqT K H' a xs := by
  rcases h with (h | ⟨o, h⟩) | h
  · exact .inl (.inl (e _ _ n h))
  · exact .inl (.inr ⟨o, e _ _ n h⟩)
  · exact .inr h
/-- what is free behind was free before, but at p -/
theorem SB.free {p : Addr} {H H' : Hp} (e : SB p H H') {l : Addr} (n : l ≠ p) (h : H' l = Option.none) : H l = Option.none := by
  cases q : H l with
  | none => rfl
  | some o =>
    rw [e l o n q] at h
    cases h
theorem same_upd {H : Hp} {p : Addr} {o : HO} (h : H p = none) : Same H (upd H p o) := fun b x e => by
  rw [upd_ne (ne_of_none e h)]
  exact e
theorem Same.tupS {K : PySem.W.Frag} {H H' : Hp} {a : Addr} {xs : List V} (e : Same H H') (h : SqT K H a xs) : SqT K H' a xs := by
  rcases h with (h | ⟨o, h⟩) | h
  · exact .inl (.inl (e _ _ h))
  · exact .inl (.inr ⟨o, e _ _ h⟩)
  · exact .inr h
theorem sq_of {K : PySem.W.Frag} {H : Hp} {a : Addr} {xs : List V} (h : H a = some (.lst xs)) : SqL K H a xs := .inl (.inl h)
theorem st_of {K : PySem.W.Frag} {H : Hp} {a : Addr} {xs : List V} (h : H a = some (.tup xs)) : SqT K H a xs := .inl (.inl h)
end L2
namespace L2
open PySem PySem.Spec PyProof.Rows
theorem for_iteL {K : PySem.W.Frag} {a : Addr} {xs : List V} {g : TG} {tb : TS} {D : Ends} {σ : St} {H : Hp} (Pv : Nat → St → Hp → Prop) (h0 : Pv 0 σ H) (hl : ∀ i σ H, i ≤ xs.length → Pv i σ H → SqL K H a xs)
    (hs : ∀ i x σ H T, xs[i]? = some x → Pv i σ H → H T = none → g (.ref T) σ (upd H T (.tup [.int (i : Nat), x])) fun σ2 H2 => tb { D with nx := Pv (i + 1), ct := Pv (i + 1), bk := D.nx } σ2 H2) (hd : ∀ σ H, Pv xs.length σ H → D.nx σ H) :
    ∃ W : Nat → Nat → St → Hp → Prop, (∃ m, W 0 m σ H) ∧ ∀ i m σ H, W i m σ H →
      ((Ite K a).stop i H ∧ D.nx σ H) ∨ ((Ite K a).go i H ∧ ∃ N : St → Hp → Prop, (∀ σ' H', N σ' H' → ∃ m', m' < m ∧ W (i + 1) m' σ' H') ∧ ∀ x H', (Ite K a).yld i H x H' → g x σ H' fun σ2 H2 => tb { D with nx := N, ct := N, bk := D.nx } σ2 H2) := by
  refine ⟨fun i m σ H => m = xs.length - i ∧ i ≤ xs.length ∧ Pv i σ H, ⟨xs.length, by simp, Nat.zero_le _, h0⟩, ?_⟩
  rintro i m σ H ⟨rfl, hi, p⟩
  have q := hl i σ H hi p
  by_cases hlt : i < xs.length
  · refine .inr ⟨⟨xs, xs[i], q, by simp [hlt]⟩, Pv (i + 1), fun σ' H' p' => ⟨xs.length - (i + 1), by omega, rfl, hlt, p'⟩, fun x H' y => ?_⟩
    obtain ⟨T, z, e, nT, eH, f⟩ := y
    subst e eH
    exact hs i z σ _ T (f xs q) p nT
  · have e : i = xs.length := by omega
    subst e
    exact .inl ⟨⟨xs, q, Nat.le_refl _⟩, hd σ H p⟩
end L2

namespace PySem
open Sem (wp)
theorem meets_enumerate_new0 {v : Value} {o : Obj} {H : Heap → Prop} (B : Begins v o H) :
    Meets (Builtin.«enumerate.__new__» ⟨[.type "enumerate", v], []⟩) (fun _ R s => H s.heap ∧
      R (.ok (.ret (.ref (s.heap.push o).objs.size))) { s with heap := (s.heap.push o).push { cls := .type "enumerate", data := .fields #[.none, .bool false, .ref s.heap.objs.size, rawInt 0, .none, .none] } }) :=
  .of_wp fun prog w A R s h => by
    obtain ⟨hp, g, d, tk, os⟩ := s; obtain ⟨h1, h⟩ := h
    have hsub := sub_enumerate
    have q1 : ∀ {A' : Around} {E : Value → Shared → Prop} {Q : Value → Shared → Prop}, Q (.ref hp.objs.size) ⟨hp.push o, g, d, tk, os⟩ → wpAny (model prog w) A' (pyIter v) Q E ⟨hp, g, d, tk, os⟩ :=
      fun q => B.iter prog w _ _ ⟨hp, g, d, tk, os⟩ _ h1 q
    wp_walk using q1
    refine wpAny_stack_any fun st => wpAny_pure ?_
    split
    · rename_i c _ _ _ _ _
      cases (c == Value.type "enumerate")
      · wp_walk using q1
        exact ⟨_, rfl, h⟩
      · wp_walk using q1
        exact ⟨_, rfl, h⟩
    · wp_walk using q1
      exact ⟨_, rfl, h⟩
theorem enum_begins0 {prog : Program} {w : World} {A : Around} {E : Value → Shared → Prop} {s : Shared} {v : Value} {o : Obj} {H : Heap → Prop} {Q : Value → Shared → Prop} (B : Begins v o H) (h1 : H s.heap)
    (h : ∀ h', IsEnum h' (s.heap.objs.size + 1) s.heap.objs.size 0 .none → h'.get? s.heap.objs.size = some o → h'.objs.size = s.heap.objs.size + 2 →
      (∀ b o, s.heap.get? b = some o → h'.get? b = some o) → Q (.ref (s.heap.objs.size + 1)) { s with heap := h' }) :
    wpAny (model prog w) A (call (.type "enumerate") [v]) Q E s := by
  refine callType_new F.called_enumerate (by decide) (F.typeCall_enumerate_1 _) (F.newCall_enumerate_1 _) (fun obj => F.args_object_init_2 obj _) F.entry_enumerate_new
    (meets_enumerate_new0 B) ⟨h1, ?_⟩
  have hz : (s.heap.push o).objs.size = s.heap.objs.size + 1 := Heap.size_push ..
  show _ ∧ _
  rw [hz]
  have he : IsEnum ((s.heap.push o).push { cls := .type "enumerate", data := .fields #[.none, .bool false, .ref s.heap.objs.size, rawInt 0, .none, .none] }) (s.heap.objs.size + 1) s.heap.objs.size 0 .none := by
    have := Heap.get?_push_size (s.heap.push o) (o := { cls := .type "enumerate", data := .fields #[.none, .bool false, .ref s.heap.objs.size, rawInt 0, .none, .none] }) rfl
    rw [hz] at this; exact this
  refine ⟨⟨_, he, rfl⟩, h _ he (Heap.get?_push_of_some _ (Heap.get?_push_size _ B.free)) (by rw [Heap.size_push, hz]) fun b o x => Heap.get?_push_of_some _ (Heap.get?_push_of_some _ x)⟩
end PySem
namespace L2
open PySem PySem.Spec PyProof.Rows
/-- the tuple at a, each item in a new pair -/
def IteT (K : PySem.W.Frag) (a : Addr) : It :=
  ⟨fun i H => ∃ (xs : List V) (x : V), SqT K H a xs ∧ xs[i]? = some x, fun i H v H' => ∃ T x, v = .ref T ∧ H T = none ∧ H' = upd H T (.tup [.int (i : Nat), x]) ∧ ∀ xs, SqT K H a xs → xs[i]? = some x, fun i H => ∃ xs : List V, SqT K H a xs ∧ xs.length ≤ i⟩
theorem turn_enumT {P : Program} {w : World} {K : PySem.W.Frag} {elts : List Expr} {kk : Nat} {tpos : Pos} (a e it : Addr) (hae : e ≠ a) (hai : a ≠ it) :
    Turn P w K (.Tuple elts kk tpos) (IteT K a) [e, it] e (fun i h => (∃ old, IsEnum h e it ((i : Nat) : Int) old) ∧ h.IsTupleIter it a i ∧ e ≠ it) where
  mem := by simp
  obj := fun i h st b hb => by
    obtain ⟨⟨old, he⟩, ⟨o, ho, hc, hd⟩, _⟩ := st
    have e' : b = e ∨ b = it := by simpa using hb
    rcases e' with z | z
    · rw [z]; exact ⟨_, he, fun v q => nomatch q⟩
    · rw [z]; exact ⟨o, ho, fun v q => by rw [hd] at q; cases q⟩
  keep := fun i h h' st k => let ⟨⟨old, he⟩, hi, hne⟩ := st; ⟨⟨old, k e (by simp) _ he⟩, hi.at fun o q => k it (by simp) o q, hne⟩
  item := by
    intro X hP hw hK hc i pins s σ H E I hf st hg
    subst hP hw hK
    obtain ⟨⟨old, he⟩, hit, hne⟩ := st
    obtain ⟨xs, x, hq, hx⟩ := hg
    obtain ⟨its, rv, p, hz⟩ := I.tuple hq
    obtain ⟨u, hu, ru⟩ := rv.get hx
    have hel : e < s.heap.objs.size := Heap.lt_size he
    have hil : it < s.heap.objs.size := by obtain ⟨_, q, _⟩ := hit; exact Heap.lt_size q
    have hlt : i < its.toArray.size := by
      have z := (List.getElem?_eq_some_iff.mp hu).1
      simpa using z
    refine wpAny_pyNext_enum_itemD (Draws.tuple (A := X.A.in1) (I.ok.hd hc) it a hai its.toArray) he ⟨hit, p⟩ hlt hne (by simp [hne, hae]) fun x' h' tk hP' ho hit' hT hsz hk => ?_
    have ex : x' = u := by
      have q : its.toArray[i]? = some u := by simpa using hu
      rw [q] at hP'
      exact (Option.some.inj hP').symm
    subst ex
    refine ⟨_, rfl, wpAny_letOwnedTupleGo_enum (s := { s with heap := h', toks := tk + 1 }) ho fun h'' he' sb => ?_⟩
    have hT2 : h''.get? s.heap.objs.size = some { cls := .type "tuple", data := .seq #[.int i tk, x'] } := (sb.2 _ (Nat.ne_of_gt hel)).trans hT
    have new : ObjOk X.prog X.w (upd H s.heap.objs.size (.tup [.int (i : Nat), x])) h'' s.heap.objs.size (.tup [.int (i : Nat), x]) :=
      ⟨by show 2 ≤ sizeLine; decide, [.int i tk, x'], .cons ⟨_, rfl⟩ (.cons ru .nil), ⟨_, hT2, rfl, _, rfl⟩⟩
    have I1 : Inv X pins σ (upd H s.heap.objs.size (.tup [.int (i : Nat), x])) { s with heap := h'', toks := tk + 1 } :=
      I.turnedNew (ch := [e, it]) (fun b ob hb q => (sb.2 b (fun z => hb (by simp [z]))).trans (hk b ob (fun z => hb (by simp [z])) (fun z => hb (by simp [z])) q)) hf (Nat.le_refl _) new
    refine ⟨.ref s.heap.objs.size, _, I1, rfl, ⟨_, x, rfl, I.hok.fresh (Nat.le_refl _), rfl, fun ys hy => by rw [I.tuple_inj hy hq]; exact hx⟩, ⟨⟨x', ?_⟩, hit'.1.at fun o q => (sb.2 it (Ne.symm hne)).trans q, hne⟩, fun b hb => ?_⟩
    · have e1 : ((i + 1 : Nat) : Int) = (i : Int) + 1 := by omega
      rw [e1]; exact he'
    · have hb' : b < s.heap.objs.size := by
        have e' : b = e ∨ b = it := by simpa using hb
        rcases e' with z | z
        · rw [z]; exact hel
        · rw [z]; exact hil
      rw [upd_ne (Nat.ne_of_lt hb')]
      exact (hf b hb).1
  done := by
    intro X hP hw hK hc i pins s σ H E I hf st hg
    subst hP hw hK
    obtain ⟨⟨old, he⟩, hit, hne⟩ := st
    obtain ⟨xs, hq, hx⟩ := hg
    obtain ⟨its, rv, p, hz⟩ := I.tuple hq
    obtain ⟨f0, f1, f2, f3, f4, f5⟩ := hf it (by simp)
    have hl := rv.length
    have hT : s.TypeIs (.ref e) "enumerate" := ⟨_, he, rfl⟩
    have hN : its.toArray[i]? = none := by simp; omega
    unfold pyNext
    refine wpAny_bind (wpAny_attempt (wpAny_callSpecial?_slot (name := Str.ofString "__next__") hT F.slot_enumerate_next
      (wpAny_call_entry F.slot_enumerate_next hT F.entry_enumerate_next ?_ (F.args_enumerate_next_1 _))))
    show wpAny _ _ (field (.ref e) 2 >>= _) _ _ _
    refine wpAny_bind (wpAny_field he rfl (x := .ref it) rfl ?_)
    refine wpAny_bind (wpAny_nextOf_tuple_end (I.ok.hd hc) hit p hN fun h' x he' hx' => ?_)
    obtain ⟨o, ho, hcc⟩ := hx'
    refine wpAny_bind (wpAny_isInstance (T := "StopIteration") (b := true) ⟨o, ho, hcc⟩ isSubtype_stop ?_)
    exact wpAny_pure ⟨rfl, I.turned (t' := s.toks) (fun b o hb q => he' b o hb q) f0 f1 f3 f4 f5⟩
  self := fun A i s Q E st h => let ⟨⟨_, he⟩, _⟩ := st; wpAny_pyIter_enum he h
/-- enumerate of a list or a tuple -/
def iEnumA (K : PySem.W.Frag) (ta : TA) : TI := fun σ H R => ta σ H fun vs H1 => ∃ a xs, vs = [.ref a] ∧ ((SqL K H1 a xs ∧ R (Ite K a) H1) ∨ (SqT K H1 a xs ∧ R (IteT K a) H1))
theorem pi_enumA {X : Cx} {e : Expr} {ta : TA} {p pos tpos : Pos} {elts : List Expr} {kk : Nat} (hg : Gl X "enumerate") (hm : X.mg "enumerate" = none) (ha : PA X [e] ta) (hs : starEach [e] X.env = [(false, eval e X.env)] := by rfl) :
    PI X (.Tuple elts kk tpos) (.Call (.Name "enumerate" p) [e] [] pos) (iEnumA X.K ta) := by
  refine ⟨fun pins s σ H R I h => ?_⟩
  refine Call_ (ld_blt I hg hm boot_enumerate (PyProof.Rows.callWith_type1 (thn (ha.run pos pins s σ H _ I h) fun us s1 ⟨vs, H1, I1, r1, q1⟩ => ?_) hs rfl))
  obtain ⟨a, xs, ex, q1⟩ := q1
  subst ex
  cases r1 with
  | cons r rr =>
    cases rr
    cases r
    have fp : ∀ b, b ∈ [s1.heap.objs.size + 1, s1.heap.objs.size] → s1.heap.objs.size ≤ b := fun b hb => by
      have e' : b = s1.heap.objs.size + 1 ∨ b = s1.heap.objs.size := by simpa using hb
      rcases e' with z | z
      · rw [z]; exact Nat.le_add_right _ _
      · rw [z]; exact Nat.le_refl _
    rcases q1 with ⟨hq, q⟩ | ⟨hq, q⟩
    · obtain ⟨its, rv, p', hz⟩ := I1.list hq
      refine call_enumerate_list p'.isList fun h' he hit hsz hk => wpAny_pyIter_enum he ?_
      have I2 : Inv X pins σ H1 { s1 with heap := h' } := I1.kept (t' := s1.toks) hk
      exact ⟨s1.heap.objs.size + 1, [s1.heap.objs.size + 1, s1.heap.objs.size], _, _, H1, rfl, I2, turn_enum a (s1.heap.objs.size + 1) s1.heap.objs.size, ⟨⟨.none, he⟩, hit, Nat.succ_ne_self _⟩, fun b hb => I1.fpOk (fp b hb) (I1.hok.fresh (fp b hb)), q⟩
    · obtain ⟨its, rv, p', hz⟩ := I1.tuple hq
      have hlt : a < s1.heap.objs.size := by
        obtain ⟨o, ho, _⟩ := id p'
        exact Heap.lt_size ho
      refine enum_begins0 (begins_tuple a its.toArray) p' fun h' he hit hsz hk => wpAny_pyIter_enum he ?_
      have I2 : Inv X pins σ H1 { s1 with heap := h' } := I1.kept (t' := s1.toks) hk
      exact ⟨s1.heap.objs.size + 1, [s1.heap.objs.size + 1, s1.heap.objs.size], _, _, H1, rfl, I2, turn_enumT a (s1.heap.objs.size + 1) s1.heap.objs.size (Nat.ne_of_gt (Nat.lt_succ_of_lt hlt)) (Nat.ne_of_lt hlt), ⟨⟨.none, he⟩, ⟨_, hit, rfl, rfl⟩, Nat.succ_ne_self _⟩, fun b hb => I1.fpOk (fp b hb) (I1.hok.fresh (fp b hb)), q⟩
end L2
namespace L2
open PySem PySem.Spec PyProof.Rows
theorem for_iteT {K : PySem.W.Frag} {a : Addr} {xs : List V} {g : TG} {tb : TS} {D : Ends} {σ : St} {H : Hp} (Pv : Nat → St → Hp → Prop) (h0 : Pv 0 σ H) (hl : ∀ i σ H, i ≤ xs.length → Pv i σ H → SqT K H a xs)
    (hs : ∀ i x σ H T, xs[i]? = some x → Pv i σ H → H T = none → g (.ref T) σ (upd H T (.tup [.int (i : Nat), x])) fun σ2 H2 => tb { D with nx := Pv (i + 1), ct := Pv (i + 1), bk := D.nx } σ2 H2) (hd : ∀ σ H, Pv xs.length σ H → D.nx σ H) :
    ∃ W : Nat → Nat → St → Hp → Prop, (∃ m, W 0 m σ H) ∧ ∀ i m σ H, W i m σ H →
      ((IteT K a).stop i H ∧ D.nx σ H) ∨ ((IteT K a).go i H ∧ ∃ N : St → Hp → Prop, (∀ σ' H', N σ' H' → ∃ m', m' < m ∧ W (i + 1) m' σ' H') ∧ ∀ x H', (IteT K a).yld i H x H' → g x σ H' fun σ2 H2 => tb { D with nx := N, ct := N, bk := D.nx } σ2 H2) := by
  refine ⟨fun i m σ H => m = xs.length - i ∧ i ≤ xs.length ∧ Pv i σ H, ⟨xs.length, by simp, Nat.zero_le _, h0⟩, ?_⟩
  rintro i m σ H ⟨rfl, hi, p⟩
  have q := hl i σ H hi p
  by_cases hlt : i < xs.length
  · refine .inr ⟨⟨xs, xs[i], q, by simp [hlt]⟩, Pv (i + 1), fun σ' H' p' => ⟨xs.length - (i + 1), by omega, rfl, hlt, p'⟩, fun x H' y => ?_⟩
    obtain ⟨T, z, e, nT, eH, f⟩ := y
    subst e eH
    exact hs i z σ _ T (f xs q) p nT
  · have e : i = xs.length := by omega
    subst e
    exact .inl ⟨⟨xs, q, Nat.le_refl _⟩, hd σ H p⟩
end L2

namespace L2
open PySem PySem.Spec PyProof.Rows
/-! ### sources of draws: a list of three ints, the first one from 0 on -/
def Src (H : Hp) (p : Addr) : Prop := ∃ x y z : Int, 0 ≤ x ∧ H p = some (.lst [.int x, .int y, .int z])
theorem Src.put {H : Hp} {p : Addr} {x y z : Int} (h : 0 ≤ x) : Src (upd H p (.lst [.int x, .int y, .int z])) p := ⟨x, y, z, h, upd_same⟩
theorem Src.ne {H : Hp} {p q : Addr} (h : Src H p) (n : H q = none) : q ≠ p := fun e => by
  obtain ⟨x, y, z, _, hp⟩ := h
  rw [← e, n] at hp
  cases hp
theorem Src.at {H H' : Hp} {p : Addr} (h : Src H p) (e : H' p = H p) : Src H' p := by
  obtain ⟨x, y, z, x0, hp⟩ := h
  exact ⟨x, y, z, x0, e.trans hp⟩
theorem Src.upd {H : Hp} {p q : Addr} {o : HO} (h : Src H p) (n : q ≠ p) : Src (L2.upd H q o) p := h.at (upd_ne (Ne.symm n))
theorem Src.new {H : Hp} {p q : Addr} {o : HO} (h : Src H p) (n : H q = none) : Src (L2.upd H q o) p := h.upd (h.ne n)
theorem Src.same {H H' : Hp} {p : Addr} (h : Src H p) (e : Same H H') : Src H' p := by
  obtain ⟨x, y, z, x0, hp⟩ := h
  exact ⟨x, y, z, x0, e _ _ hp⟩
/-- what a draw leaves: all but the source stands, the source is one -/
def Dn (p : Addr) (H H' : Hp) : Prop := SB p H H' ∧ Src H' p
theorem Dn.put {p : Addr} {H : Hp} {x y z : Int} (h : 0 ≤ x) : Dn p H (L2.upd H p (.lst [.int x, .int y, .int z])) := ⟨SB.put, .put h⟩
theorem Dn.trans {p : Addr} {H H1 H2 : Hp} (a : Dn p H H1) (b : Dn p H1 H2) : Dn p H H2 := ⟨a.1.trans b.1, b.2⟩
theorem Dn.new {p q : Addr} {H H' : Hp} {o : HO} (a : Dn p H H') (n : H' q = none) : Dn p H (L2.upd H' q o) := ⟨a.1.trans (SB.new n), a.2.new n⟩
theorem Dn.same {p : Addr} {H H' H2 : Hp} (a : Dn p H H') (e : Same H' H2) : Dn p H H2 := ⟨a.1.trans (SB.of e), a.2.same e⟩
theorem Dn.refl {p : Addr} {H : Hp} (h : Src H p) : Dn p H H := ⟨SB.refl p H, h⟩
/-- an address that is new behind a draw was new before -/
theorem Dn.free {p q : Addr} {H H' : Hp} (a : Dn p H H') (n : H' q = none) : H q = none := a.1.free (a.2.ne n) n
theorem map_snoc (ms : List Int) (v : Int) : ms.map V.int ++ [V.int v] = (ms ++ [v]).map V.int := by simp
theorem rep_flat (b : Int) : ∀ n : Nat, (List.replicate n [V.int b]).flatten = (List.replicate n b).map V.int
  | 0 => rfl
  | n + 1 => by
    rw [List.replicate_succ, List.replicate_succ, List.flatten_cons, rep_flat b n]
    rfl
theorem lt64 {c : Int} {x : Int} (h0 : 0 ≤ x) (h1 : x < c) (hc : c ≤ 2 ^ 63) : -(2 ^ 64) < x ∧ x < 2 ^ 64 := by omega
theorem mb (x : Int) {c : Int} (h : 0 < c) : 0 ≤ x % c ∧ x % c < c := ⟨Int.emod_nonneg _ (by omega), Int.emod_lt_of_pos _ h⟩
theorem mbw (x : Int) {c : Int} (h : 0 < c) (hc : c ≤ 2 ^ 63) : -(2 ^ 64) < x % c ∧ x % c < 2 ^ 64 := lt64 (mb x h).1 (mb x h).2 hc
/-- a comprehension over range(n) each of whose items is an int, reckoned by draws -/
theorem lc_ints {te : TE} {σ : L2.St} {H1 : Hp} {D p : Addr} {n j : Nat} {vs : List Nat} {Qd : Hp → Prop} (hn : n ≤ 1000000) (hs : Src H1 p) (hD : H1 D = none)
    (hw : ∀ v, wipe ((wipe σ vs).set j v) vs = wipe σ vs)
    (he : ∀ (k : Nat) (H3 : Hp) (R : VK), k < n → Dn p H1 H3 → (∀ (v : Int) (H4 : Hp), Dn p H3 H4 → R (.int v) H4) → te ((wipe σ vs).set j (some (.int (0 + (k : Nat))))) H3 R)
    (hd : ∀ (ms : List Int) (H' : Hp), ms.length = n → Dn p H1 H' → H' D = some (.lst (ms.map V.int)) → Qd H') :
    ∃ W : Nat → Nat → Hp → Prop, (∃ m, W 0 m (L2.upd H1 D (.lst []))) ∧ ∀ i m H, W i m H →
      ((Itr 0 n).stop i H ∧ Qd H) ∨ ((Itr 0 n).go i H ∧ ∃ Nx : Hp → Prop, (∀ H', Nx H' → ∃ m', m' < m ∧ W (i + 1) m' H') ∧ ∀ x H', (Itr 0 n).yld i H x H' → gName j x (wipe σ vs) H' fun σ2 H2 => wipe σ2 vs = wipe σ vs ∧ tYes σ2 H2 fun b H3 =>
        if b = true then te σ2 H3 fun y H4 => ∃ acc, H4 D = some (.lst acc) ∧ acc.length < sizeLine ∧ Nx (L2.upd H4 D (.lst (acc ++ [y]))) else Nx H3) := by
  have nD : D ≠ p := hs.ne hD
  refine lc_range (lo := 0) (n := n) (fun i H => ∃ ms : List Int, ms.length = i ∧ Dn p H1 H ∧ H D = some (.lst (ms.map V.int))) ⟨[], rfl, (Dn.refl hs).new hD, upd_same⟩ ?_ ?_
  · rintro i H hi ⟨ms, hl, dr, hh⟩
    refine ⟨hw _, ?_⟩
    refine he i H _ hi dr fun v H4 d4 => ?_
    have h4 := d4.1 _ _ nD hh
    refine ⟨_, h4, ?_, ms ++ [v], by simp [hl], ?_, ?_⟩
    · rw [List.length_map, hl]
      exact Nat.lt_of_le_of_lt (Nat.le_trans (Nat.le_of_lt hi) hn) (by decide)
    · have dd := dr.trans d4
      refine ⟨fun b o nb e => ?_, dd.2.upd nD⟩
      rw [upd_ne (ne_of_none e hD)]
      exact dd.1 b o nb e
    · rw [map_snoc]
      exact upd_same
  · rintro H ⟨ms, hl, dr, hh⟩
    exact hd ms H hl dr hh
end L2
namespace L2
open PySem PySem.Spec PyProof.Rows
theorem canLay_ints : ∀ ns : List Int, PyData.canLayAll0 (ns.map PyData.int) = true
  | [] => rfl
  | n :: r => by
    show (PyData.canLay0 (.int n) && PyData.canLayAll0 (r.map PyData.int)) = true
    rw [canLay_ints r]
    rfl
theorem depth_ints : ∀ ns : List Int, PyData.depthAll (ns.map PyData.int) = 0
  | [] => rfl
  | n :: r => by
    show max (PyData.depth (.int n)) (PyData.depthAll (r.map PyData.int)) = 0
    rw [depth_ints r]
    rfl
theorem shaped_ints (ns : List Int) : SeqAt.shaped (.list (ns.map PyData.int)) = true := by
  unfold SeqAt.shaped
  rw [Bool.and_eq_true]
  refine ⟨canLay_ints ns, decide_eq_true ?_⟩
  show PyData.depthAll (ns.map PyData.int) + 1 ≤ 64
  rw [depth_ints]
  decide
theorem eqv_ints (ns : List Int) : PyData.eqv (.list (ns.map PyData.int)) (.list (ns.map PyData.int)) = true := SeqAt.eqv_refl _ (SeqAt.canLay_of_shaped (shaped_ints ns))
theorem dpAll_ints {K : PySem.W.Frag} {H : Hp} : ∀ ns : List Int, DpAll K H (ns.map V.int) (ns.map PyData.int)
  | [] => .nil
  | n :: r => .cons (.int n) (dpAll_ints r)
theorem dp_ints {K : PySem.W.Frag} {H : Hp} {p : Addr} {ns : List Int} (h : SqL K H p (ns.map V.int)) : Dp K H (.ref p) (.list (ns.map PyData.int)) := .lst h (dpAll_ints ns)
theorem cut_mem {xs : List V} {lo hi : Option Int} {x : V} (h : x ∈ cutV xs lo hi) : x ∈ xs := List.mem_of_mem_drop (List.mem_of_mem_take h)
end L2

namespace L2
open PySem PySem.Spec PyProof.Rows
/-! ### stable orders: the items of 0 .. n - 1, by a number each, then by themselves -/
def Lx (f : Nat → Int) (i j : Nat) : Prop := f i < f j ∨ (f i = f j ∧ i < j)
theorem Lx.irr {f : Nat → Int} {i : Nat} : ¬ Lx f i i := fun h => by unfold Lx at h; omega
theorem Lx.asymm {f : Nat → Int} {i j : Nat} (h : Lx f i j) : ¬ Lx f j i := fun h' => by unfold Lx at h h'; omega
theorem Lx.trans {f : Nat → Int} {i j k : Nat} (h : Lx f i j) (h' : Lx f j k) : Lx f i k := by unfold Lx at *; omega
theorem Lx.tri (f : Nat → Int) (i j : Nat) : Lx f i j ∨ i = j ∨ Lx f j i := by unfold Lx; omega
structure Stab (f : Nat → Int) (n : Nat) (os : List Nat) : Prop where
  perm : os.Perm (List.range n)
  sort : os.Pairwise (Lx f)
/-- two rows of the same items that are sorted strictly are one -/
theorem sorted_uniq {α : Type} {R : α → α → Prop} (as : ∀ a b, R a b → ¬ R b a) : ∀ {xs ys : List α}, xs.Perm ys → xs.Pairwise R → ys.Pairwise R → xs = ys
  | [], ys, p, _, _ => (List.Perm.nil_eq p)
  | x :: xs, [], p, _, _ => absurd p.length_eq (by simp)
  | x :: xs, y :: ys, p, hx, hy => by
    have e : x = y := by
      have m1 : x ∈ y :: ys := p.mem_iff.mp (List.mem_cons_self ..)
      have m2 : y ∈ x :: xs := p.mem_iff.mpr (List.mem_cons_self ..)
      rcases List.mem_cons.mp m1 with e | m1
      · exact e
      · rcases List.mem_cons.mp m2 with e | m2
        · exact e.symm
        · exact absurd ((List.pairwise_cons.mp hx).1 y m2) (as _ _ ((List.pairwise_cons.mp hy).1 x m1))
    subst e
    rw [sorted_uniq as p.cons_inv (List.pairwise_cons.mp hx).2 (List.pairwise_cons.mp hy).2]
theorem Stab.uniq {f : Nat → Int} {n : Nat} {as bs : List Nat} (a : Stab f n as) (b : Stab f n bs) : as = bs := sorted_uniq (fun _ _ => Lx.asymm) (a.perm.trans b.perm.symm) a.sort b.sort
theorem Stab.len {f : Nat → Int} {n : Nat} {os : List Nat} (a : Stab f n os) : os.length = n := by
  rw [a.perm.length_eq, List.length_range]
theorem Stab.nodup {f : Nat → Int} {n : Nat} {os : List Nat} (a : Stab f n os) : os.Nodup := a.perm.nodup_iff.mpr List.nodup_range
theorem Stab.lt {f : Nat → Int} {n : Nat} {os : List Nat} (a : Stab f n os) {i : Nat} (h : i ∈ os) : i < n := List.mem_range.mp (a.perm.mem_iff.mp h)
/-- the order hangs on how the numbers stand to one another alone -/
theorem Stab.like {f g : Nat → Int} {n : Nat} {os : List Nat} (a : Stab f n os) (h : ∀ i j, i < n → j < n → (f i < f j ↔ g i < g j)) : Stab g n os := by
  refine ⟨a.perm, ?_⟩
  refine List.Pairwise.imp_of_mem ?_ a.sort
  intro i j hi hj l
  have h1 := h i j (a.lt hi) (a.lt hj)
  have h2 := h j i (a.lt hj) (a.lt hi)
  unfold Lx at *
  omega
/-- what an item counts: its key, with reverse its negative -/
def keyf (ks : List Int) (rev : Bool) (i : Nat) : Int := if rev then -(ks.getD i 0) else ks.getD i 0
/-- the row of items as values -/
abbrev nV (os : List Nat) : List V := os.map fun (i : Nat) => V.int (i : Int)
/-- pairs of the keys' numbers and the items, sorted, give the order -/
theorem stab_of_pairs {f : Nat → Int} {n : Nat} {ps : List (Int × Int)} (p : ps.Perm ((List.range n).map fun (i : Nat) => (f i, (i : Int)))) (s : ps.Pairwise fun x y => ¬ (y.1 < x.1 ∨ (y.1 = x.1 ∧ y.2 < x.2))) :
    ∃ os, Stab f n os ∧ ps = os.map fun (i : Nat) => (f i, (i : Int)) := by
  have hm : ∀ q ∈ ps, q = (f q.2.toNat, (q.2.toNat : Int)) := fun q hq => by
    obtain ⟨i, _, e⟩ := List.mem_map.mp (p.mem_iff.mp hq)
    subst e
    simp
  have e1 : ps = (ps.map fun q => q.2.toNat).map fun (i : Nat) => (f i, (i : Int)) := by
    rw [List.map_map]
    calc ps = ps.map id := (List.map_id ps).symm
      _ = _ := List.map_congr_left fun q hq => hm q hq
  have pm : (ps.map fun q => q.2.toNat).Perm (List.range n) := by
    have q := p.map fun q => q.2.toNat
    rw [List.map_map] at q
    have e : (List.range n).map ((fun q : Int × Int => q.2.toNat) ∘ fun (i : Nat) => (f i, (i : Int))) = List.range n := by
      calc _ = (List.range n).map id := List.map_congr_left fun i _ => by simp
        _ = _ := List.map_id _
    rw [e] at q
    exact q
  refine ⟨ps.map fun q => q.2.toNat, ⟨pm, ?_⟩, e1⟩
  have nd : (ps.map fun q => q.2.toNat).Nodup := pm.nodup_iff.mpr List.nodup_range
  have s2 : (ps.map fun q => q.2.toNat).Pairwise fun i j => ¬ (f j < f i ∨ (f j = f i ∧ j < i)) := by
    rw [e1, List.pairwise_map] at s
    refine s.imp ?_
    intro i j h
    omega
  exact (List.pairwise_and_iff.mpr ⟨s2, nd⟩).imp fun {i j} h => by
    obtain ⟨h1, h2⟩ := h
    unfold Lx
    omega
end L2
namespace L2
open PySem PySem.Spec PyProof.Rows
theorem pe_callN0 {X : Cx} {CX : CXT} {k : Nat} {f : Addr} {fd : FuncData} {ps ks : List Str} {sp : Sp} {E : XK} {x : Str} {p pos : Pos} {kws : List Keyword} {tk : TA} {g : List Value → List Value → List Value} {gV : List V → List V → List V}
    (F : FnOk X.prog X.w X.K X.mg X.base CX k f fd ps sp) (hr : Room k X.A) (hg : Gl X x) (hm : X.mg x = some (.ref f)) (hk : PySem.W.keepIn X.K (.ref f) = true) (hb : KBn X.K fd ps 0 ks g gV) (hx : Passes CX X E)
    (hkw : PK X kws tk) (hall : (backToKw pos (keywordEach kws X.env)).all (·.1.isSome) = true := by rfl) (hks : (backToKw pos (keywordEach kws X.env)).filterMap (·.1) = ks := by rfl)
    (hdb : (x == ("__debug__" : Str)) = false := by decide)
    (hpl : ((backTo pos (starEach [] X.env)).any (·.1) || (backToKw pos (keywordEach kws X.env)).any (·.1.isNone)) = false := by rfl) :
    PE X (.Call (.Name x p) [] kws pos) (fun σ H Q => tk σ H fun zs H2 => zs.length = ks.length ∧ sp (gV [] zs) H2 Q E) := by
  refine ⟨fun pins s σ H Q I h => ?_⟩
  refine wpAny_Call_Name_kw (ld_glob I hg hm ?_ hdb)
  refine PySem.W.callWith_KW0 (h₀ := X.base) I.ok.mod.kin hk hall ?_ hpl
  refine thn (hkw.run pos pins s σ H _ I h) fun ws s2 ⟨zs, H2, I2, rz, l2, q2⟩ => ⟨I2.kIn, ?_⟩
  rw [hks]
  exact run_fnN F hr hb hx I2 .nil rz rfl l2 q2
theorem lc_iteL {K : PySem.W.Frag} {a : Addr} {xs : List V} {g : TG} {tt : TT} {te : TE} {vs : List Nat} {σ : L2.St} {H1 : Hp} {D : Addr} {Qd : Hp → Prop} (Pv : Nat → Hp → Prop) (h0 : Pv 0 (upd H1 D (.lst []))) (hl : ∀ i H, i ≤ xs.length → Pv i H → SqL K H a xs)
    (hs : ∀ i x H T, xs[i]? = some x → Pv i H → H T = none → g (.ref T) (wipe σ vs) (upd H T (.tup [.int (i : Nat), x])) fun σ2 H2 => wipe σ2 vs = wipe σ vs ∧ tt σ2 H2 fun b H3 =>
      if b = true then te σ2 H3 fun y H4 => ∃ acc, H4 D = some (.lst acc) ∧ acc.length < sizeLine ∧ Pv (i + 1) (upd H4 D (.lst (acc ++ [y]))) else Pv (i + 1) H3) (hd : ∀ H, Pv xs.length H → Qd H) :
    ∃ W : Nat → Nat → Hp → Prop, (∃ m, W 0 m (upd H1 D (.lst []))) ∧ ∀ i m H, W i m H →
      ((Ite K a).stop i H ∧ Qd H) ∨ ((Ite K a).go i H ∧ ∃ Nx : Hp → Prop, (∀ H', Nx H' → ∃ m', m' < m ∧ W (i + 1) m' H') ∧ ∀ x H', (Ite K a).yld i H x H' → g x (wipe σ vs) H' fun σ2 H2 => wipe σ2 vs = wipe σ vs ∧ tt σ2 H2 fun b H3 =>
        if b = true then te σ2 H3 fun y H4 => ∃ acc, H4 D = some (.lst acc) ∧ acc.length < sizeLine ∧ Nx (upd H4 D (.lst (acc ++ [y]))) else Nx H3) := by
  refine ⟨fun i m H => m = xs.length - i ∧ i ≤ xs.length ∧ Pv i H, ⟨xs.length, by simp, Nat.zero_le _, h0⟩, ?_⟩
  rintro i m H ⟨rfl, hi, p⟩
  have q := hl i H hi p
  by_cases hlt : i < xs.length
  · refine .inr ⟨⟨xs, xs[i], q, by simp [hlt]⟩, Pv (i + 1), fun H' p' => ⟨xs.length - (i + 1), by omega, rfl, hlt, p'⟩, fun x H' y => ?_⟩
    obtain ⟨T, z, e, nT, eH, f⟩ := y
    subst e eH
    exact hs i z _ T (f xs q) p nT
  · have e : i = xs.length := by omega
    subst e
    exact .inl ⟨⟨xs, q, Nat.le_refl _⟩, hd H p⟩
theorem lc_iteT {K : PySem.W.Frag} {a : Addr} {xs : List V} {g : TG} {tt : TT} {te : TE} {vs : List Nat} {σ : L2.St} {H1 : Hp} {D : Addr} {Qd : Hp → Prop} (Pv : Nat → Hp → Prop) (h0 : Pv 0 (upd H1 D (.lst []))) (hl : ∀ i H, i ≤ xs.length → Pv i H → SqT K H a xs)
    (hs : ∀ i x H T, xs[i]? = some x → Pv i H → H T = none → g (.ref T) (wipe σ vs) (upd H T (.tup [.int (i : Nat), x])) fun σ2 H2 => wipe σ2 vs = wipe σ vs ∧ tt σ2 H2 fun b H3 =>
      if b = true then te σ2 H3 fun y H4 => ∃ acc, H4 D = some (.lst acc) ∧ acc.length < sizeLine ∧ Pv (i + 1) (upd H4 D (.lst (acc ++ [y]))) else Pv (i + 1) H3) (hd : ∀ H, Pv xs.length H → Qd H) :
    ∃ W : Nat → Nat → Hp → Prop, (∃ m, W 0 m (upd H1 D (.lst []))) ∧ ∀ i m H, W i m H →
      ((IteT K a).stop i H ∧ Qd H) ∨ ((IteT K a).go i H ∧ ∃ Nx : Hp → Prop, (∀ H', Nx H' → ∃ m', m' < m ∧ W (i + 1) m' H') ∧ ∀ x H', (IteT K a).yld i H x H' → g x (wipe σ vs) H' fun σ2 H2 => wipe σ2 vs = wipe σ vs ∧ tt σ2 H2 fun b H3 =>
        if b = true then te σ2 H3 fun y H4 => ∃ acc, H4 D = some (.lst acc) ∧ acc.length < sizeLine ∧ Nx (upd H4 D (.lst (acc ++ [y]))) else Nx H3) := by
  refine ⟨fun i m H => m = xs.length - i ∧ i ≤ xs.length ∧ Pv i H, ⟨xs.length, by simp, Nat.zero_le _, h0⟩, ?_⟩
  rintro i m H ⟨rfl, hi, p⟩
  have q := hl i H hi p
  by_cases hlt : i < xs.length
  · refine .inr ⟨⟨xs, xs[i], q, by simp [hlt]⟩, Pv (i + 1), fun H' p' => ⟨xs.length - (i + 1), by omega, rfl, hlt, p'⟩, fun x H' y => ?_⟩
    obtain ⟨T, z, e, nT, eH, f⟩ := y
    subst e eH
    exact hs i z _ T (f xs q) p nT
  · have e : i = xs.length := by omega
    subst e
    exact .inl ⟨⟨xs, q, Nat.le_refl _⟩, hd H p⟩
/-- rows of ints compared -/
theorem eqvAll_ints : ∀ xs ys : List Int, PyData.eqvAll (xs.map PyData.int) (ys.map PyData.int) = decide (xs = ys)
  | [], [] => rfl
  | [], _ :: _ => rfl
  | _ :: _, [] => rfl
  | x :: xs, y :: ys => by
    show (PyData.eqv (.int x) (.int y) && PyData.eqvAll (xs.map PyData.int) (ys.map PyData.int)) = _
    rw [eqvAll_ints xs ys]
    show (x == y && decide (xs = ys)) = _
    by_cases h1 : x = y
    · subst h1
      by_cases h2 : xs = ys
      · subst h2
        simp
      · simp [h2]
    · simp [h1]
theorem eqv_lists (xs ys : List Int) : PyData.eqv (.list (xs.map PyData.int)) (.list (ys.map PyData.int)) = decide (xs = ys) := eqvAll_ints xs ys
theorem nV_map (os : List Nat) : nV os = (os.map fun (i : Nat) => (i : Int)).map V.int := by
  unfold nV
  rw [List.map_map]
  rfl
theorem cast_inj {xs ys : List Nat} : (xs.map fun (i : Nat) => (i : Int)) = (ys.map fun (i : Nat) => (i : Int)) ↔ xs = ys := by
  constructor
  · intro h
    have h2 := congrArg (List.map Int.toNat) h
    rw [List.map_map, List.map_map] at h2
    have e : ∀ l : List Nat, l.map (Int.toNat ∘ fun (i : Nat) => (i : Int)) = l := fun l => by
      calc _ = l.map id := List.map_congr_left fun i _ => by simp
        _ = l := List.map_id l
    rw [e, e] at h2
    exact h2
  · intro h
    rw [h]
end L2
namespace L2
open PySem PySem.Spec PyProof.Rows
theorem cut_take (xs : List V) (k : Nat) : cutV xs none (some (k : Int)) = xs.take k := by
  unfold cutV
  rw [HT.sIx_none, HT.sIx_nat, List.drop_zero, Nat.sub_zero]
  by_cases h : k ≤ xs.length
  · rw [Nat.min_eq_left h]
  · rw [Nat.min_eq_right (by omega), List.take_of_length_le (Nat.le_refl _), List.take_of_length_le (by omega)]
theorem cut_drop (xs : List V) (k : Nat) : cutV xs (some (k : Int)) none = xs.drop k := by
  unfold cutV
  rw [HT.sIx_none, HT.sIx_nat]
  by_cases h : k ≤ xs.length
  · rw [Nat.min_eq_left h]
    exact List.take_of_length_le (by rw [List.length_drop]; exact Nat.le_refl _)
  · rw [Nat.min_eq_right (by omega), List.drop_of_length_le (Nat.le_refl _), List.drop_of_length_le (by omega), List.take_nil]
/-- an item is put in where all ahead are ahead of it and all behind behind it -/
theorem put_stab {f : Nat → Int} {i pl : Nat} {os : List Nat} (s : Stab f i os) (h1 : ∀ x ∈ os.take pl, Lx f x i) (h2 : ∀ x ∈ os.drop pl, Lx f i x) : Stab f (i + 1) (os.take pl ++ [i] ++ os.drop pl) := by
  have e : os.take pl ++ os.drop pl = os := List.take_append_drop pl os
  constructor
  · have p1 : (os.take pl ++ [i] ++ os.drop pl).Perm ((os.take pl ++ os.drop pl) ++ [i]) := by
      rw [List.append_assoc, List.append_assoc]
      exact List.Perm.append_left _ List.perm_append_comm
    rw [e] at p1
    refine p1.trans ?_
    rw [List.range_succ]
    exact s.perm.append_right [i]
  · have so := s.sort
    rw [← e, List.pairwise_append] at so
    rw [List.append_assoc, List.pairwise_append]
    refine ⟨so.1, List.pairwise_cons.mpr ⟨h2, so.2.1⟩, fun x hx y hy => ?_⟩
    rcases List.mem_cons.mp hy with rfl | hy
    · exact h1 x hx
    · exact so.2.2 x hx y hy
end L2

/-! a comprehension over zip of two lists that are equally long -/
namespace L2
open PySem PySem.Spec PyProof.Rows
theorem lc_zip2 {K : PySem.W.Frag} {a b : Addr} {xs ys : List V} {g : TG} {tt : TT} {te : TE} {vs : List Nat} {σ : L2.St} {H1 : Hp} {D : Addr} {Qd : Hp → Prop} (le : xs.length = ys.length) (Pv : Nat → Hp → Prop) (h0 : Pv 0 (upd H1 D (.lst []))) (hl : ∀ i H, Pv i H → SqL K H a xs ∧ SqL K H b ys)
    (hs : ∀ i x y H T, xs[i]? = some x → ys[i]? = some y → Pv i H → H T = none → g (.ref T) (wipe σ vs) (upd H T (.tup [x, y])) fun σ2 H2 => wipe σ2 vs = wipe σ vs ∧ tt σ2 H2 fun c H3 =>
      if c = true then te σ2 H3 fun y H4 => ∃ acc, H4 D = some (.lst acc) ∧ acc.length < sizeLine ∧ Pv (i + 1) (upd H4 D (.lst (acc ++ [y]))) else Pv (i + 1) H3) (hd : ∀ H, Pv xs.length H → Qd H) :
    ∃ W : Nat → Nat → Hp → Prop, (∃ m, W 0 m (upd H1 D (.lst []))) ∧ ∀ i m H, W i m H →
      ((Itz K a b).stop i H ∧ Qd H) ∨ ((Itz K a b).go i H ∧ ∃ Nx : Hp → Prop, (∀ H', Nx H' → ∃ m', m' < m ∧ W (i + 1) m' H') ∧ ∀ x H', (Itz K a b).yld i H x H' → g x (wipe σ vs) H' fun σ2 H2 => wipe σ2 vs = wipe σ vs ∧ tt σ2 H2 fun c H3 =>
        if c = true then te σ2 H3 fun y H4 => ∃ acc, H4 D = some (.lst acc) ∧ acc.length < sizeLine ∧ Nx (upd H4 D (.lst (acc ++ [y]))) else Nx H3) := by
  refine ⟨fun i m H => m = xs.length - i ∧ i ≤ xs.length ∧ Pv i H, ⟨xs.length, by simp, Nat.zero_le _, h0⟩, ?_⟩
  rintro i m H ⟨rfl, hi, p⟩
  obtain ⟨qa, qb⟩ := hl i H p
  by_cases hlt : i < xs.length
  · refine .inr ⟨⟨xs, ys, xs[i], ys[i], qa, qb, by simp [hlt], by simp [← le, hlt]⟩, Pv (i + 1), fun H' p' => ⟨xs.length - (i + 1), by omega, rfl, hlt, p'⟩, fun x H' y => ?_⟩
    obtain ⟨T, u, v, e, nT, eH, f, f2⟩ := y
    subst e eH
    exact hs i u v _ T (f xs qa) (f2 ys qb) p nT
  · have e : i = xs.length := by omega
    subst e
    exact .inl ⟨⟨xs, ys, qa, qb, .inl (Nat.le_refl _)⟩, hd H p⟩
end L2

/-! sorted(xs, key=lambda x: g[x]), g a list of ints that is captured -/
namespace L2
open PySem PySem.Spec PyProof.Rows PySem.W LamX
section
variable {prog : Program} {w : World} {A : Around} {s : Shared}
/-- the lambda called with an index: it gives the item, and the heap only grows -/
theorem lam_key {qual : Str} {params : Arguments} {scope : Scope} {cl : List (Str × Addr)} {pm ctv : Value} {f c' c p : Addr} {g x : Str} {xp gp pos : Pos} {its : List Value} {i : Nat} {n : Int} {t t2 : Tok}
    (hroom : A.depth < recursionLimit) (lim : s.heap.NoLimit)
    (of1 : s.heap.get? f = some (kla_obj "<lambda>" qual params (.Subscript (.Name g gp) (.Name x xp) pos) scope cl pm c' ctv)) (hcd : s.heap.CodeRec (.ref c') qual)
    (hbind : ∀ v : Value, bindArgs (kla_fn "<lambda>" qual params (.Subscript (.Name g gp) (.Name x xp) pos) scope cl pm (.ref c') ctv) ⟨[v], []⟩ = pure [(x, v)])
    (hk : scope.kind = .function) (hco : scope.isCoroutine = false) (hgen : scope.isGenerator = false) (hcell : ∀ y ∈ scope.names, y.2 ≠ .cell) (hx : scope.names.lookup x = some .local) (hg : scope.names.lookup g = some .free)
    (hc : cl.lookup g = some c) (hcc : s.heap.IsCell c (some (.ref p))) (hl : s.heap.IsList p its.toArray) (hi : its[i]? = some (.int n t2))
    (hsz : its.length ≤ sizeLine)
    (d1 : (x == ("__debug__" : Str)) = false) (d2 : (g == ("__debug__" : Str)) = false) (d3 : (g == ("__classdict__" : Str)) = false) :
    wpAny (model prog w) A (call (.ref f) [.int (i : Int) t]) (KeyPure (.int n) s) (fun _ _ => False) s := by
  refine wpAny_call ?_
  refine kla_callFunE hroom of1 rfl hco hgen rfl hcd ?_
  rw [hbind]
  refine wpAny_pure (wpAny_newFunctionEnv hcell (fun y hy => by rw [List.mem_singleton.mp hy]; exact hx) (fun h₁ hns hsb => ⟨lim.fresh _ hsb, ?_⟩) hk)
  show codeAny _ _ (.expr _ (envX qual scope s.heap.objs.size f (.ref c') cl)) _ _
  have kp : ∀ b o, s.heap.get? b = some o → h₁.get? b = some o := fun b o e => hsb.extBut b o (Nat.ne_of_lt (Heap.lt_size e)) (Heap.get?_push_of_some _ e)
  have hcc1 : h₁.IsCell c (some (.ref p)) := by
    obtain ⟨o, ho, hd⟩ := hcc
    exact ⟨o, kp _ _ ho, hd⟩
  have hl1 : h₁.IsList p its.toArray := by
    obtain ⟨o, ho, hd⟩ := hl
    exact ⟨o, kp _ _ ho, hd⟩
  refine kla_codeExpr ?_
  refine PySem.wpAny_Subscript_Name (T := "list") slot_list_getitem.lookup ?_
  refine wpAny_Name (wpAny_loadName_free (c := c) (v := .ref p) hk hg hc hcc1 ?_ d3) d2
  refine wpAny_Name (wpAny_loadName_local (m := fun y => ([(x, Value.int (i : Int) t)]).reverse.lookup y) hk hx hns (v := .int (i : Int) t) ?_ ?_) d1
  · show List.lookup x [(x, _)] = _
    simp [List.lookup]
  have li : i < its.length := (List.getElem?_eq_some_iff.mp hi).1
  have h63 := line63
  refine ⟨hl1.typeIs, getItem_listL hl1 (by omega) (by omega) (by rw [Int.toNat_natCast]; exact hi) ⟨h₁, _, rfl, kp, Reads.int _ _⟩⟩
end
theorem key_each : ∀ {us : List Value} {ns : List Int}, IntsAre us ns → EachIs (fun v a => ∃ t, v = Value.int a t) us ns
  | _, _, .nil => .nil
  | _, _, .cons n t h => .cons ⟨t, rfl⟩ (key_each h)
theorem key_ints : ∀ {us : List Value} {ns : List Int}, EachIs (fun v a => ∃ t, v = Value.int a t) us ns → IntsAre us ns
  | _, _, .nil => .nil
  | _, _, .cons ⟨t, e⟩ h => by
    subst e
    exact .cons _ t (key_ints h)
theorem SqL.extN {K : PySem.W.Frag} {H H' : Hp} {a : Addr} {xs : List V} (e : ExtN H H') (h : SqL K H a xs) : SqL K H' a xs := by
  rcases h with (h | ⟨o, h⟩) | h
  · exact .inl (.inl (e _ _ h fun ps z => by cases z))
  · exact .inl (.inr ⟨o, e _ _ h fun ps z => by cases z⟩)
  · exact .inr h
def gSortKL (K : PySem.W.Frag) (T : List (Addr × Str)) (j : Nat) (σ : L2.St) (Q : VK) : VK := fun v H1 => Tabs T H1 ∧ ∃ (l p : Addr) (ns ms : List Int), v = .ref l ∧ σ[j]? = some (some (.ref p)) ∧ SqL K H1 l (ns.map V.int) ∧ SqL K H1 p (ms.map V.int) ∧ (∀ n ∈ ns, 0 ≤ n ∧ n < (ms.length : Int)) ∧
  ∀ (H2 : Hp) (r : Addr), ExtN H1 H2 → Tabs T H2 → H2 r = none → Q (.ref r) (upd H2 r (.lst ((ns.mergeSort fun a b => decide (ms.getD a.toNat 0 ≤ ms.getD b.toNat 0)).map V.int)))
def tSortKL (K : PySem.W.Frag) (T : List (Addr × Str)) (j : Nat) (te : TE) : TE := fun σ H Q => te σ H (gSortKL K T j σ Q)
section
variable {X : Cx}
theorem pe_sortedKL {T : List (Addr × Str)} {j : Nat} {te : TE} {e : Expr} {g x : Str} {params : Arguments} {scope : Scope} {c P : Addr} {sp pos lpos kpos gp xp bp : Pos} (hr : Room 2 X.A)
    (hg : Gl X "sorted") (hm : X.mg "sorted" = none) (hpa : PA X [e] (tCons te tNil))
    (TB : TabB X.base X.mg c P) (hcode : X.env.code = .ref c) (hmT : (P, X.env.qual ++ "<lambda>") ∈ T) (hu : ∀ p ∈ T, p.1 = P → p.2 = X.env.qual ++ "<lambda>")
    (hfree : ∀ y ∈ scope.names, y.2 = .free → X.env.scope.names.lookup y.1 = some .cell ∨ X.env.scope.names.lookup y.1 = some .free) (hdef : defaultsOf params X.env = ([], []))
    (hk : scope.kind = .function) (hco : scope.isCoroutine = false) (hgen : scope.isGenerator = false) (hcell : ∀ y ∈ scope.names, y.2 ≠ .cell) (hx : scope.names.lookup x = some .local) (hgf : scope.names.lookup g = some .free)
    (hgN : X.N[j]? = some g) (hgc : X.env.scope.names.lookup g = some .cell)
    (hbind : ∀ (q : Str) (cl : List (Str × Addr)) (pm cv ctv v : Value), bindArgs (kla_fn "<lambda>" q params (.Subscript (.Name g gp) (.Name x xp) bp) scope cl pm cv ctv) ⟨[v], []⟩ = pure [(x, v)])
    (hst : backTo pos (starEach [e] X.env) = (false, eval e X.env) :: backTo pos (starEach [] X.env) := by rfl) (hpl : (backTo pos (starEach [e] X.env)).any (·.1) = false := by rfl)
    (d1 : (x == ("__debug__" : Str)) = false := by decide) (d2 : (g == ("__debug__" : Str)) = false := by decide) (d3 : (g == ("__classdict__" : Str)) = false := by decide) :
    PE X (.Call (.Name "sorted" sp) [e] [⟨some (Str.ofString "key"), .Lambda params (.Subscript (.Name g gp) (.Name x xp) bp) scope lpos, kpos⟩] pos) (tSortKL X.K T j te) := by
  refine ⟨fun pins s σ H Q I h => ?_⟩
  refine wpAny_Call_Name_kw (ld_blt I hg hm (show bootBuiltins "sorted" = some (.builtin "sorted") by decide +kernel) ?_)
  refine PyProof.Rows.callWith_kw (thn (hpa.run pos pins s σ H (fun vs H1 => match vs with | [v] => gSortKL X.K T j σ Q v H1 | _ => False) I ?_) fun us s1 ⟨vs, H1, I1, r1, q1⟩ => ?_) hst hpl
  · exact h
  match vs, q1, r1 with
  | [v], q1, r1 =>
  obtain ⟨hT, l, p, ns, ms, rfl, hj, hl, hp, hb, q⟩ := (show gSortKL X.K T j σ Q v H1 from q1)
  obtain rfl := Vals.ref1 r1
  have hfC : ∀ y ∈ scope.names, y.2 = .free → ∃ c, X.env.cells.lookup y.1 = some c := fun y hy e => (hfree y hy e).elim (fun z => I1.ok.has _ (.inl z)) fun z => I1.ok.has _ (.inr z)
  refine wpAny_evalAll_cons (wpAny_bind (lam_make2 I1 TB hcode hmT hu hT hdef hfC fun f c' pm' ctv H2 s2 I2 eN T2 hf hfn hfr hco' => wpAny_bind (wpAny_standAt (wpAny_pure ?_))))
  refine wpAny_evalAll_nil ?_
  show wpAny _ _ (call (.builtin "sorted") [.ref l] [(Str.ofString "key", .ref f)]) _ _ _
  obtain ⟨its, rv, hpl2, hz⟩ := I2.list (hl.extN eN)
  obtain ⟨mts, mv, hml, hmz⟩ := I2.list (hp.extN eN)
  have hz : ns.length ≤ sizeLine := by rw [List.length_map] at hz; exact hz
  have hei := key_each rv.ints
  refine sorted_key_data (b := false) (fun a : Int => .int (ms.getD a.toNat 0)) hpl2.isList hei (AllAlike.of fun _ _ => by simp [alike]) (Sortable.others fun _ => ⟨(fun z => by cases z), (fun _ z => by cases z)⟩) hz (fun a _ => ?_) (ksk_s1 _ _) (fun _ => ksk_l1 _ _) (fun _ => ksk_t1 _ _) (fun v a hva ha h tk kp => ?_) fun out c2 h' tk kp fresh hD lout eo => ?_
  · have := hr.un
    show X.A.units + 2 + 0 < cLine
    omega
  · obtain ⟨t, rfl⟩ := hva
    obtain ⟨b0, b1⟩ := hb a ha
    obtain ⟨i, rfl⟩ : ∃ i : Nat, a = (i : Int) := ⟨a.toNat, (Int.toNat_of_nonneg b0).symm⟩
    have hi : i < ms.length := by omega
    obtain ⟨m, hn, hlk⟩ := I2.loc
    obtain ⟨u, ru, lk⟩ := hlk j g (.ref p) hgN hj (.inr (.inl hgc))
    obtain rfl : u = Value.ref p := ru
    have hgc2 : X.env.kindOf g = some .cell := hgc
    obtain ⟨c0, hc0, hcc⟩ : ∃ c0, X.env.cells.lookup g = some c0 ∧ s2.heap.IsCell c0 (some (.ref p)) := by
      rcases lk with ⟨z, _⟩ | ⟨_, c0, a1, a2⟩
      · rw [hgc2] at z
        cases z
      · exact ⟨c0, a1, a2⟩
    have hcl : (cloFrom X.env.cells scope.names []).lookup g = some c0 := NdefX.clo_has hfC (PySem.mem_of_lookup hgf) hc0
    have hmi : (ms.map V.int)[i]? = some (V.int (ms.getD i 0)) := by
      rw [List.getElem?_map, List.getElem?_eq_getElem hi]
      simp [List.getD_eq_getElem?_getD, List.getElem?_eq_getElem hi]
    obtain ⟨wv, ew, t2, rfl⟩ := mv.get hmi
    obtain ⟨⟨oc, vs', tq, k1, k2, k3⟩, _, _⟩ := I2.hok c' _ hco'
    rw [Int.toNat_natCast]
    refine lam_key (c := c0) (p := p) (its := mts) (t2 := t2) hr.in1.in1.depth ?_ (kp _ _ hf) ⟨c', oc, vs', tq, rfl, kp _ _ k1, k2, k3⟩ (fun v => hbind _ _ _ _ _ v) hk hco hgen hcell hx hgf hcl ?_ ?_ ew ?_ d1 d2 d3
    · exact I2.nolimit.keeps kp
    · obtain ⟨o, ho, hd⟩ := hcc
      exact ⟨o, kp _ _ ho, hd⟩
    · obtain ⟨o, ho, hd⟩ := hml.isList
      exact ⟨o, kp _ _ ho, hd⟩
    · rw [← mv.length]
      exact hmz
  · rw [dataLe_int] at eo
    have hlen : ((ns.mergeSort fun a b => decide (ms.getD a.toNat 0 ≤ ms.getD b.toNat 0)).map V.int).length ≤ sizeLine := by
      rw [List.length_map, List.length_mergeSort]
      exact hz
    exact ⟨.ref _, _, I2.laid (o := .lst ((ns.mergeSort fun a b => decide (ms.getD a.toNat 0 ≤ ms.getD b.toNat 0)).map V.int)) (t' := tk) kp (Nat.le_succ _) ⟨hlen, out, c2, vals_of_ints (key_ints eo), hD⟩, rfl, q _ _ eN T2 (I2.hok.fresh (Nat.le_succ _))⟩
/-- the names of the lambda and of the def that makes it -/
def keyScB (sc scope : Scope) (x g : Str) : Bool :=
  decide (scope.kind = .function) && !scope.isCoroutine && !scope.isGenerator && scope.names.all (fun y => !decide (y.2 = .cell)) && decide (scope.names.lookup x = some .local) && decide (scope.names.lookup g = some .free) && decide (sc.names.lookup g = some .cell) &&
    scope.names.all fun y => !decide (y.2 = .free) || decide (sc.names.lookup y.1 = some .cell) || decide (sc.names.lookup y.1 = some .free)
/-- .. with one table -/
theorem pe_sortedK1 {j : Nat} {te : TE} {e : Expr} {g x q : Str} {params : Arguments} {scope : Scope} {c P : Addr} {sp pos lpos kpos gp xp bp : Pos} (hr : Room 2 X.A)
    (hg : Gl X "sorted") (hm : X.mg "sorted" = none) (hpa : PA X [e] (tCons te tNil)) (TB : TabB X.base X.mg c P) (hcode : X.env.code = .ref c) (hq : X.env.qual ++ "<lambda>" = q) (hsc : keyScB X.env.scope scope x g = true) (hdef : defaultsOf params X.env = ([], []))
    (hgN : X.N[j]? = some g)
    (hbind : ∀ (q : Str) (cl : List (Str × Addr)) (pm cv ctv v : Value), bindArgs (kla_fn "<lambda>" q params (.Subscript (.Name g gp) (.Name x xp) bp) scope cl pm cv ctv) ⟨[v], []⟩ = pure [(x, v)])
    (hst : backTo pos (starEach [e] X.env) = (false, eval e X.env) :: backTo pos (starEach [] X.env) := by rfl) (hpl : (backTo pos (starEach [e] X.env)).any (·.1) = false := by rfl)
    (d1 : (x == ("__debug__" : Str)) = false := by decide) (d2 : (g == ("__debug__" : Str)) = false := by decide) (d3 : (g == ("__classdict__" : Str)) = false := by decide) :
    PE X (.Call (.Name "sorted" sp) [e] [⟨some (Str.ofString "key"), .Lambda params (.Subscript (.Name g gp) (.Name x xp) bp) scope lpos, kpos⟩] pos) (tSortKL X.K [(P, q)] j te) := by
  unfold keyScB at hsc
  simp only [Bool.and_eq_true, Bool.or_eq_true, Bool.not_eq_true', decide_eq_true_eq, decide_eq_false_iff_not, List.all_eq_true] at hsc
  obtain ⟨⟨⟨⟨⟨⟨⟨h1, h2⟩, h3⟩, h4⟩, h5⟩, h6⟩, h7⟩, h8⟩ := hsc
  exact pe_sortedKL hr hg hm hpa TB hcode (List.mem_singleton.mpr (by rw [hq])) (fun p hp _ => by rw [List.mem_singleton.mp hp, hq]) (fun y hy e => (h8 y hy).elim (fun z => z.elim (fun z => absurd e z) .inl) .inr) hdef h1 h2 h3 h4 h5 h6 hgN h7 hbind hst hpl d1 d2 d3
end
section
variable {P : Program} {w : World} {K : PySem.W.Frag} {mg : Str → Option Value} {base : Heap}
/-- a def whose code object is known -/
theorem Fun.okC {x qual : Str} {st : Stmt} {f c : Addr} {fd : FuncData} {N ps : List Str} {k : Nat} {sp : Sp} (F : Fun K x qual st f fd) (hc : fd.code = .ref c) (S : FnScope N ps (defScope st)) (len : ∀ vs H Q E, sp vs H Q E → vs.length = ps.length)
    (hbody : ∀ (A : Around) (outer : List Env) (s : Shared) (H : Hp) (vs : List V) (Q : VK) (E : XK), Room k (A.deeper (envOfC qual (defScope st) s.heap.objs.size f (.ref c))) → sp vs H Q E →
      ∃ t, PSs (cxOf CX0 P w K mg base N qual (defScope st) f (.ref c) A outer s H E).nox (defBody st) t ∧ t { nx := fun _ H' => Q .non H', rt := Q } (start N vs) H) : FnOk P w K mg base CX0 (k + 1) f fd ps sp := by
  obtain ⟨oc, od, kV, doc, pm, an, cdv, ct, osl, rfl, lk, hcd⟩ := F.ex
  have e : cdv = .ref c := hc
  subst e
  refine fn_of lk hcd S len fun A outer s H vs Q E hr hsp => ?_
  obtain ⟨t, h, q⟩ := hbody A outer s H vs Q E hr hsp
  exact ⟨t, h.nox, q⟩
end
end L2

/-! a lambda of one parameter that is handed to a def with other things -/
namespace L2
open PySem PySem.Spec PyProof.Rows PySem.W LamX
/-- one parameter, no other name of its own: captured ones and globals -/
structure LamS1 (sc scope : Scope) (x : Str) : Prop where
  kind : scope.kind = .function
  co : scope.isCoroutine = false
  gen : scope.isGenerator = false
  own : ∀ y ∈ scope.names, y.2 ≠ .cell
  loc : ∀ y ∈ scope.names, y.2 = .local → y.1 = x
  hx : scope.names.lookup x = some .local
  free : ∀ y ∈ scope.names, y.2 = .free → sc.names.lookup y.1 = some .cell ∨ sc.names.lookup y.1 = some .free
def lamS1B (sc scope : Scope) (x : Str) : Bool :=
  decide (scope.kind = .function) && !scope.isCoroutine && !scope.isGenerator && decide (scope.names.lookup x = some .local) && scope.names.all fun y => !decide (y.2 = .cell) && (!decide (y.2 = .local) || decide (y.1 = x)) && (!decide (y.2 = .free) || decide (sc.names.lookup y.1 = some .cell) || decide (sc.names.lookup y.1 = some .free))
theorem lamS1_by {sc scope : Scope} {x : Str} (h : lamS1B sc scope x = true) : LamS1 sc scope x := by
  unfold lamS1B at h
  simp only [Bool.and_eq_true, Bool.or_eq_true, Bool.not_eq_true', decide_eq_true_eq, decide_eq_false_iff_not, List.all_eq_true] at h
  obtain ⟨⟨⟨⟨h1, h2⟩, h3⟩, h5⟩, h4⟩ := h
  refine ⟨h1, h2, h3, fun y hy => (h4 y hy).1.1, fun y hy e => ?_, h5, fun y hy e => ?_⟩
  · rcases (h4 y hy).1.2 with z | z
    · exact absurd e z
    · exact z
  · rcases (h4 y hy).2 with (z | z) | z
    · exact absurd e z
    · exact .inl z
    · exact .inr z
theorem LamS1.has {X : Cx} {scope : Scope} {x : Str} (L : LamS1 X.env.scope scope x) (ok : X.Ok) : ∀ y ∈ scope.names, y.2 = .free → ∃ c, X.env.cells.lookup y.1 = some c := fun y hy e => by
  rcases L.free y hy e with k | k
  · exact ok.has _ (.inl k)
  · exact ok.has _ (.inr k)
/-- the context of the lambda's body: the names of the def that made it, and the parameter behind them -/
def lamCx1 (X : Cx) (A : Around) (outer : List Env) (s : Shared) (H : Hp) (E : XK) (scope : Scope) (x : Str) (f c' : Addr) : Cx := { lamCx X A outer s H E scope f c' with N := X.N ++ [x] }
section
variable {X : Cx} {pins : List (Addr × Obj)} {σ : L2.St} {H HZ : Hp} {s s1 : Shared}
theorem lam_start1 {A : Around} {outer : List Env} {E : XK} {scope : Scope} {x : Str} {v : V} {u : Value} {f c' : Addr} {h₁ : Heap} {tk : Nat} (I : Inv X pins σ H s) (L : LamS1 X.env.scope scope x) (hxN : x ∉ X.N) (r : L2.RelV v u) (e0 : Env0 X.prog X.w X.K X.mg X.base A outer s1 HZ) (hd : A.handled = none)
    (un : Un (frs X.stack) [] H HZ s.heap s1.heap) (hns : h₁.Ns s1.heap.objs.size fun y => ([(x, u)] : List (Str × Value)).reverse.lookup y) (kp : ∀ b o, s1.heap.get? b = some o → h₁.get? b = some o) :
    Inv (lamCx1 X A outer s1 HZ E scope x f c') [] (σ ++ [some v]) HZ { s1 with heap := h₁, toks := tk } := by
  have hfree := L.has I.ok
  have cm : ∀ {y c}, (cloFrom X.env.cells scope.names []).lookup y = some c → X.env.cells.lookup y = some c := fun {y c} e => by
    rcases cloFrom_mem (PySem.mem_of_lookup e) with hm | ⟨h1, h2⟩
    · cases hm
    · obtain ⟨c1, hc⟩ := hfree _ h1 rfl
      have hc : X.env.cells.lookup y = some c1 := hc
      have e2 : c = c1 := by
        rw [h2, hc] <;> rfl
      rw [e2]
      exact hc
  have look : ∀ {y}, scope.names.lookup y = some .free → ∃ c, (cloFrom X.env.cells scope.names []).lookup y = some c := fun {y} hl => by
    have hy : (y, NameKind.free) ∈ scope.names := PySem.mem_of_lookup hl
    exact mem_lookup (cloFrom_has (cells := X.env.cells) (acc := []) hy)
  have cellK : ∀ {c : Addr} {v : Option Value}, H c = none → s.heap.IsCell c v → h₁.IsCell c v := fun {c v} n ⟨o, ho, hd⟩ => by
    obtain ⟨sl, q⟩ := un.any ho n (by simp)
    exact ⟨_, kp _ _ q, hd⟩
  have noA : ∀ b : Addr, b ∉ (lamCx1 X A outer s1 HZ E scope x f c').ex := fun b z => absurd (show b ∈ ([] : List Addr) from z) (by simp)
  have ln := I.len
  refine ⟨⟨e0.mod, L.kind, rfl, rfl, Nat.le_refl _, fun y z c e1 e2 => I.ok.inj y z c (cm e1) (cm e2), fun y hy => ?_, fun y c z _ => ?_, fun _ => hd, Around.frames_deeper e0.frames, .inr ⟨rfl, rfl⟩, fun b z => absurd z (noA b), e0.bs, e0.bsz, fun b _ _ => noA b,
      fun b z => absurd z (noA b), e0.funs, e0.frf⟩,
    rfl, e0.bare, Un.kept kp, ⟨_, hns, fun i y v' e1 e2 e3 => ?_⟩, fun y c e => ?_, e0.hok.fresh (Nat.le_refl _), fun y c e => ?_, fun q hq => absurd (show q ∈ ([] : List (Addr × Obj)) ++ [] from hq) (by simp), e0.hok.kept kp, ?_⟩
  · have hy : scope.names.lookup y = some .cell ∨ scope.names.lookup y = some .free := hy
    rcases hy with hy | hy
    · exact absurd rfl (L.own _ (PySem.mem_of_lookup hy))
    · exact look hy
  · have z : false = true := z
    cases z
  · have e1 : (X.N ++ [x])[i]? = some y := e1
    have e3 : Vis scope y := e3
    by_cases hi : i < X.N.length
    · rw [List.getElem?_append_left hi] at e1
      rw [List.getElem?_append_left (by omega)] at e2
      have nx : y ≠ x := fun z => hxN (z ▸ List.mem_of_getElem? e1)
      rcases e3 with k | k | k
      · exact absurd (L.loc _ (PySem.mem_of_lookup k) rfl) nx
      · exact absurd rfl (L.own _ (PySem.mem_of_lookup k))
      · obtain ⟨m, hn, hl⟩ := I.loc
        have hvis : Vis X.env.scope y := (L.free _ (PySem.mem_of_lookup k) rfl).elim (fun k => .inr (.inl k)) (fun k => .inr (.inr k))
        obtain ⟨w', r, q⟩ := hl i y v' e1 e2 hvis
        obtain ⟨c2, h2⟩ := look k
        refine ⟨w', r, .inr ⟨.inr k, c2, h2, ?_⟩⟩
        have c1 := cm h2
        rcases q with ⟨k', _⟩ | ⟨_, c3, e', z⟩
        · have k' : X.env.scope.names.lookup y = some .local := k'
          rcases L.free _ (PySem.mem_of_lookup k) rfl with k2 | k2 <;> rw [show X.env.scope.names.lookup y = _ from k2] at k' <;> cases k'
        · rw [c1] at e'
          cases e'
          exact cellK (I.freeC y _ c1) z
    · rw [List.getElem?_append_right (by omega)] at e1
      rw [List.getElem?_append_right (by omega)] at e2
      obtain hz : i - X.N.length = 0 := by
        cases h : i - X.N.length with
        | zero => rfl
        | succ j => rw [h] at e1; simp at e1
      rw [hz] at e1
      rw [ln, hz] at e2
      obtain rfl : x = y := Option.some.inj e1
      obtain rfl : v = v' := Option.some.inj (Option.some.inj e2)
      refine ⟨u, r, .inl ⟨L.hx, ?_⟩⟩
      show List.lookup x [(x, u)] = some u
      simp [List.lookup]
  · obtain ⟨w', z⟩ := I.cell y c (cm e)
    exact ⟨w', cellK (I.freeC y c (cm e)) z⟩
  · obtain ⟨v, o, ho, hd⟩ := I.cell y c (cm e)
    exact un.free c o ho (I.freeC y c (cm e)) (by simp)
  · show (σ ++ [some v]).length = (X.N ++ [x]).length
    rw [List.length_append, List.length_append, ln]
    rfl
/-- x(e), in the def that got the lambda: Z is that def's context, entered at s -/
theorem pe_act1 {CXg : CXT} {Eg : XK} {Ng : List Str} {qg : Str} {sg : Scope} {g f c' : Addr} {cdg pm ctv : Value} {params : Arguments} {body : Expr} {scope : Scope} {k i : Nat} {a x : Str} {pn : List (Addr × Obj)} {xe : Value → Shared → Prop} {W : WX} {E : XK} {tb te : TE} {e : Expr} {p1 p2 : Pos}
    (I : Inv X pins σ H s) (L : LamS1 X.env.scope scope x) (hxN : x ∉ X.N) (hf : s.heap.get? f = some (PySem.W.kla_obj "<lambda>" (X.env.qual ++ "<lambda>") params body scope (cloFrom X.env.cells scope.names []) pm c' ctv)) (hfn : H f = none) (hfr : f ∉ frs X.stack)
    (hbind : ∀ u : Value, bindArgs (PySem.W.kla_fn "<lambda>" (X.env.qual ++ "<lambda>") params body scope (cloFrom X.env.cells scope.names []) pm (.ref c') ctv) ⟨[u], []⟩ = pure [(x, u)])
    (tk : Takes ((cxOf CXg X.prog X.w X.K X.mg X.base Ng qg sg g cdg X.A X.stack s H Eg).tr pn xe) W) (hW : ∀ cls d σ' H', E cls d H' → W cls d σ' H') (hr : Room (k + 1) (X.A.deeper (envOfC qg sg s.heap.objs.size g cdg)))
    (hbody : ∀ (A : Around) (outer : List Env) (s : Shared) (H : Hp), Room k (A.deeper (lamEnv X scope s.heap.objs.size f c')) → PE (lamCx1 X A outer s H E scope x f c') body tb)
    (hN : Ng[i]? = some a) (hv : Vis sg a) (he : PE ((cxOf CXg X.prog X.w X.K X.mg X.base Ng qg sg g cdg X.A X.stack s H Eg).tr pn xe) e te) (hd : (a == ("__debug__" : Str)) = false := by decide) (hcd : (a == ("__classdict__" : Str)) = false := by decide)
    (hs : starEach [e] ((cxOf CXg X.prog X.w X.K X.mg X.base Ng qg sg g cdg X.A X.stack s H Eg).tr pn xe).env = (false, eval e ((cxOf CXg X.prog X.w X.K X.mg X.base Ng qg sg g cdg X.A X.stack s H Eg).tr pn xe).env) :: starEach [] ((cxOf CXg X.prog X.w X.K X.mg X.base Ng qg sg g cdg X.A X.stack s H Eg).tr pn xe).env := by rfl)
    (hpl : (backTo p2 (starEach [] ((cxOf CXg X.prog X.w X.K X.mg X.base Ng qg sg g cdg X.A X.stack s H Eg).tr pn xe).env)).any (·.1) = false := by rfl) :
    PE ((cxOf CXg X.prog X.w X.K X.mg X.base Ng qg sg g cdg X.A X.stack s H Eg).tr pn xe) (.Call (.Name a p1) [e] [] p2)
      (fun σZ HZ Q => σZ[i]? = some (some (.ref f)) ∧ te σZ HZ fun v H1 => H1 c' = some (CodeO c' (X.env.qual ++ "<lambda>")) ∧ tb (σ ++ [some v]) H1 Q) := by
  refine ⟨fun pinsZ sZ σZ HZ Q IZ h => ?_⟩
  obtain ⟨hsl, ht⟩ := h
  refine wpAny_Call_Name_kw (thn ((pe_var (pos := p1) (i := i) hN hv hd hcd).run pinsZ sZ σZ HZ (fun v H1 => v = .ref f ∧ H1 = HZ) IZ ⟨.ref f, hsl, rfl, rfl⟩) fun u s1 ⟨v, H1, I1, r1, q1⟩ => ?_)
  obtain ⟨ev, eH⟩ := q1
  subst ev
  rw [eH] at I1
  obtain rfl : u = Value.ref f := r1
  have of1 := fun (s2 : Shared) (H2 : Hp) (I2 : Inv ((cxOf CXg X.prog X.w X.K X.mg X.base Ng qg sg g cdg X.A X.stack s H Eg).tr pn xe) pinsZ σZ H2 s2) => I2.base.keep f _ hf hfn hfr (fun z => nomatch (show f ∈ ([] : List Addr) from z))
  refine PySem.W.callWith_F (first := []) ⟨_, _, _, _, of1 s1 HZ I1⟩ (thn ((pa_cons he pa_nil hs).run p2 pinsZ s1 σZ HZ (fun vs H2 => match vs with | [v] => H2 c' = some (CodeO c' (X.env.qual ++ "<lambda>")) ∧ tb (σ ++ [some v]) H2 Q | _ => False) I1 ?_) fun us s2 ⟨vs, H2, I2, r, q⟩ => ?_) hs hpl
  · exact ht
  match vs, q, r with
  | [v], q, r =>
  obtain ⟨u, rfl, rv⟩ : ∃ u, us = [u] ∧ L2.RelV v u := by
    cases r with
    | cons r1 r2 => cases r2; exact ⟨_, rfl, r1⟩
  have of2 := of1 s2 H2 I2
  refine ⟨⟨_, _, _, _, of2⟩, ?_⟩
  show wpAny _ _ (call (.ref f) [u]) _ _ _
  obtain ⟨hc, hb⟩ := q
  have un : Un (frs X.stack) [] H H2 s.heap s2.heap := I2.base
  obtain ⟨⟨oc, ws, t, hoc, hdc, hvc⟩, _, _⟩ := I2.hok c' _ hc
  have rc : codeAny (model X.prog X.w) (X.A.deeper (envOfC qg sg s.heap.objs.size g cdg)) (.call (.ref f) ⟨[u], []⟩) (CR (L2.CX X.prog X.w) (envOfC qg sg s.heap.objs.size g cdg :: X.stack) X.prog X.w H2 s2 Q E) s2 := by
    refine PySem.W.kla_callFunE hr.depth of2 rfl L.co L.gen rfl ⟨c', oc, ws, t, rfl, hoc, hdc, hvc⟩ ?_
    rw [hbind]
    refine wpAny_pure (wpAny_newFunctionEnv (fun y hy => L.own y hy) (fun y hy => by rw [List.mem_singleton.mp hy]; exact L.hx) (fun h₁ hns hsb => ⟨I2.nolimit.fresh _ hsb, ?_⟩) L.kind)
    show codeAny _ _ (.expr body (lamEnv X scope s2.heap.objs.size f c')) _ _
    have kp : ∀ b o, s2.heap.get? b = some o → h₁.get? b = some o := fun b o e => hsb.extBut b o (Nat.ne_of_lt (Heap.lt_size e)) (Heap.get?_push_of_some _ e)
    have J : Inv (lamCx1 X (X.A.deeper (envOfC qg sg s.heap.objs.size g cdg)) (envOfC qg sg s.heap.objs.size g cdg :: X.stack) s2 H2 E scope x f c') [] (σ ++ [some v]) H2 { s2 with heap := h₁, toks := s2.toks + ([(x, u)] : List (Str × Value)).length } :=
      lam_start1 I L hxN rv I2.env0 hr.hd un hns kp
    refine PySem.W.kla_codeExpr (wpAny_mono ((hbody _ _ s2 H2 (hr.deeper _)).run [] _ _ H2 Q J hb) (fun v s' hq => ?_) fun e s' hq => hq)
    obtain ⟨w', H', J', rv, q⟩ := hq
    exact ⟨w', H', J'.os, J'.bare, J'.base, J'.hok, rv, q⟩
  have hx : Passes (L2.CX X.prog X.w) ((cxOf CXg X.prog X.w X.K X.mg X.base Ng qg sg g cdg X.A X.stack s H Eg).tr pn xe) E := passes_call tk hW
  refine wpAny_call (codeAny_mono rc fun r s' hq => ?_)
  cases r with
  | error e => exact hx pinsZ σZ H2 s2 e s' I2 hq
  | ok fl =>
    cases fl with
    | ret u => exact I2.after hq
    | next => exact False.elim hq
    | brk => exact False.elim hq
    | cont => exact False.elim hq
end
/-- a def of three parameters that calls the third one -/
def GivesTo3 (P : Program) (w : World) (K : PySem.W.Frag) (mg : Str → Option Value) (base : Heap) (k : Nat) (Ng : List Str) (x : Str) (sg : Scope) (g : Addr) (bg : List Stmt) (a : Str) (TT : V → V → (V → Hp → VK → Prop) → Hp → VK → Prop) : Prop :=
  ∀ (q : Str) (cdg : Value) (A : Around) (outer : List Env) (f c' : Addr) (s : Shared) (H : Hp) (Q : VK) (v1 v2 : V) (tl : V → Hp → VK → Prop), Room k (A.deeper (envOfC x sg s.heap.objs.size g cdg)) →
    (∀ (e : Expr) (te : TE) (p1 p2 : Pos), PE (cxOf C8.CX0 P w K mg base Ng x sg g cdg A outer s H C8.E0).nox e te → (starEach [e] (cxOf C8.CX0 P w K mg base Ng x sg g cdg A outer s H C8.E0).nox.env = (false, eval e (cxOf C8.CX0 P w K mg base Ng x sg g cdg A outer s H C8.E0).nox.env) :: starEach [] (cxOf C8.CX0 P w K mg base Ng x sg g cdg A outer s H C8.E0).nox.env) →
      PE (cxOf C8.CX0 P w K mg base Ng x sg g cdg A outer s H C8.E0).nox (.Call (.Name a p1) [e] [] p2) (fun σZ HZ Q => σZ[2]? = some (some (.ref f)) ∧ te σZ HZ fun v H1 => H1 c' = some (CodeO c' q) ∧ tl v H1 Q)) →
    H c' = some (CodeO c' q) → TT v1 v2 tl H Q →
    ∃ t, PSs (cxOf C8.CX0 P w K mg base Ng x sg g cdg A outer s H C8.E0).nox bg t ∧ t { nx := fun _ H' => Q .non H', rt := Q } (L2.start Ng [v1, v2, .ref f]) H
def tLam3 (T : List (Addr × Str)) (TT : V → V → (V → Hp → VK → Prop) → Hp → VK → Prop) (t1 t2 t : TE) : TE := fun σ H Q => t1 σ H fun v1 H1 => t2 σ H1 fun v2 H2 => Tabs T H2 ∧ ∀ H3, ExtN H2 H3 → Tabs T H3 → TT v1 v2 (fun v H' Q' => t (σ ++ [some v]) H' Q') H3 Q
section
variable {X : Cx}
/-- x(e1, e2, lambda y: body) -/
theorem pe_lam3 {T : List (Addr × Str)} {TT : V → V → (V → Hp → VK → Prop) → Hp → VK → Prop} {x y a n1 n2 : Str} {st : Stmt} {g c P : Addr} {k : Nat} {fd : FuncData} {Ng : List Str} {e1 e2 : Expr} {t1 t2 : TE}
    {params : Arguments} {body : Expr} {scope : Scope} {t : TE} {p lpos pos : Pos} (F : Fun X.K x x st g fd) (hg : Gl X x) (hm : X.mg x = some (.ref g)) (hk : PySem.W.keepIn X.K (.ref g) = true)
    (hb : L2.Binds X.K fd [n1, n2, a] []) (Sg : FnScope Ng [n1, n2, a] (defScope st)) (hNg : Ng[2]? = some a) (hva : Vis (defScope st) a)
    (hG : GivesTo3 X.prog X.w X.K X.mg X.base (k + 1) Ng x (defScope st) g (defBody st) a TT) (h1 : PE X e1 t1) (h2 : PE X e2 t2)
    (TB : TabB X.base X.mg c P) (hcode : X.env.code = .ref c) (hmT : (P, X.env.qual ++ "<lambda>") ∈ T) (hu : ∀ p ∈ T, p.1 = P → p.2 = X.env.qual ++ "<lambda>") (hr : Room (k + 2) X.A) (L : LamS1 X.env.scope scope y) (hyN : y ∉ X.N) (hdef : defaultsOf params X.env = ([], []))
    (hbind : ∀ (q : Str) (cl : List (Str × Addr)) (pm cv ctv v : Value), bindArgs (PySem.W.kla_fn "<lambda>" q params body scope cl pm cv ctv) ⟨[v], []⟩ = pure [(y, v)])
    (hbody : ∀ (A : Around) (outer : List Env) (s : Shared) (H : Hp) (f c' : Addr), Room k (A.deeper (lamEnv X scope s.heap.objs.size f c')) → PE (lamCx1 X A outer s H (fun _ _ _ => False) scope y f c') body t)
    (hst : starEach (e1 :: [e2, .Lambda params body scope lpos]) X.env = (false, eval e1 X.env) :: starEach [e2, .Lambda params body scope lpos] X.env := by rfl) (hst2 : starEach (e2 :: [.Lambda params body scope lpos]) X.env = (false, eval e2 X.env) :: starEach [.Lambda params body scope lpos] X.env := by rfl)
    (hpl : (backTo pos (starEach [e2, .Lambda params body scope lpos] X.env)).any (·.1) = false := by rfl)
    (hdb : (x == ("__debug__" : Str)) = false := by decide) (hd : (a == ("__debug__" : Str)) = false := by decide) (hcd : (a == ("__classdict__" : Str)) = false := by decide) :
    PE X (.Call (.Name x p) [e1, e2, .Lambda params body scope lpos] [] pos) (tLam3 T TT t1 t2 t) := by
  refine ⟨fun pins s σ H Q I h => ?_⟩
  refine wpAny_Call_Name_kw (ld_glob I hg hm ?_ hdb)
  refine PySem.W.callWith_K (h₀ := X.base) I.ok.mod.kin hk ?_ hst hpl
  rw [hst]
  show wpAny _ _ (spliced ((false, eval e1 X.env) :: backTo pos (starEach [e2, .Lambda params body scope lpos] X.env))) _ _ s
  refine Calls.spliced_cons (thn (h1.run pins s σ H _ I h) fun u1 s1 ⟨v1, H1, I1, r1, q1⟩ => ?_)
  rw [hst2]
  show wpAny _ _ (spliced ((false, eval e2 X.env) :: backTo pos (starEach [.Lambda params body scope lpos] X.env))) _ _ s1
  refine Calls.spliced_cons (thn (h2.run pins s1 σ H1 _ I1 q1) fun u2 s2 ⟨v2, H2, I2, r2, q2⟩ => ?_)
  obtain ⟨hT, q2⟩ := q2
  show wpAny _ _ (spliced ((false, eval (.Lambda params body scope lpos) X.env) :: backTo pos (starEach [] X.env))) _ _ s2
  refine Calls.spliced_cons (lam_make2 I2 TB hcode hmT hu hT hdef (L.has I2.ok) fun f c' pm' ctv H3 s3 I3 eN T3 hf hfn hfr hco => ?_)
  refine Calls.spliced_nil ⟨I3.kIn, ?_⟩
  obtain ⟨oc, od, kV, doc, pm, an, cdv, ct, osl, rfl, lk, hcg⟩ := F.ex
  have rc : codeAny (model X.prog X.w) X.A (.call (.ref g) ⟨[u1, u2, .ref f], []⟩) (CR C8.CX0 X.stack X.prog X.w H3 s3 Q C8.E0) s3 := by
    refine run_ofS (N := Ng) (ps := [n1, n2, a]) (us := [u1, u2, .ref f]) (vs := [v1, v2, .ref f]) lk hcg Sg hr I3.env0 (hb s3 [u1, u2, .ref f] I3.kIn rfl) (.cons r1 (.cons r2 (.cons rfl .nil))) rfl fun hr' => ?_
    refine Exists.elim (hG _ cdv X.A X.stack f c' s3 H3 Q v1 v2 (fun v H' Q' => t (σ ++ [some v]) H' Q') hr' (fun e te p1 p2 he hs => ?_) hco (q2 H3 eN T3)) fun t' h' => ⟨t', h'.1.nox, h'.2⟩
    exact pe_act1 (i := 2) (pn := []) (xe := fun _ _ => False) (W := fun _ _ _ _ => False) (E := fun _ _ _ => False) I3 L hyN hf hfn hfr (fun u => hbind _ _ _ _ _ u) takes0 (fun _ _ _ _ z => z) hr' (fun A outer s H hr2 => hbody A outer s H f c' hr2) hNg hva he hd hcd hs rfl
  refine wpAny_call (codeAny_mono rc fun r s2 hq => ?_)
  cases r with
  | error e => exact (show False from hq).elim
  | ok fl =>
    cases fl with
    | ret u => exact I3.after hq
    | next => exact False.elim hq
    | brk => exact False.elim hq
    | cont => exact False.elim hq
end
/-- of several defs that the slot may hold -/
def tCallR (i : Nat) (S : Addr → Sp → Prop) (t : TA) : TE := fun σ H Q => ∃ f sp, σ[i]? = some (some (.ref f)) ∧ S f sp ∧ t σ H fun vs H1 => sp vs H1 Q (fun _ _ _ => False)
theorem pe_callR {X : Cx} {k i : Nat} {x : Str} {p pos : Pos} {e : Expr} {es : List Expr} {t : TA} {S : Addr → Sp → Prop} (A : ∀ f sp, S f sp → Held X.prog X.w X.K X.mg X.base k f sp) (hr : Room k X.A) (hN : X.N[i]? = some x) (hv : Vis X.env.scope x) (ha : PA X (e :: es) t)
    (hdb : (x == ("__debug__" : Str)) = false := by decide) (hcd : (x == ("__classdict__" : Str)) = false := by decide)
    (he : starEach (e :: es) X.env = (false, eval e X.env) :: starEach es X.env := by rfl) (hpl : (backTo pos (starEach es X.env)).any (·.1) = false := by rfl) : PE X (.Call (.Name x p) (e :: es) [] pos) (tCallR i S t) := by
  refine ⟨fun pins s σ H Q I h => ?_⟩
  obtain ⟨f, sp, hs, hS, ht⟩ := h
  obtain ⟨fd, ps, F, hk, hb⟩ := (A f sp hS).ex
  refine (pe_callL (i := i) (f := f) (sp := sp) (dvs := []) (E := fun _ _ _ => False) F hr hN hv hk hb .nil (fun _ _ _ _ _ _ _ z => z.elim) ha hdb hcd he hpl).run pins s σ H Q I ⟨hs, ?_⟩
  have e0 : (fun (vs : List V) (H1 : Hp) => sp (vs ++ []) H1 Q (fun _ _ _ => False)) = fun vs H1 => sp vs H1 Q (fun _ _ _ => False) := by
    funext vs H1
    rw [List.append_nil]
  show t σ H (fun vs H1 => sp (vs ++ []) H1 Q (fun _ _ _ => False))
  rw [e0]
  exact ht
/-- .. by keywords alone -/
structure HeldK (P : Program) (w : World) (K : PySem.W.Frag) (mg : Str → Option Value) (base : Heap) (k : Nat) (f : Addr) (sp : Sp) (ks : List Str) (gV : List V → List V → List V) : Prop where
  ex : ∃ (fd : FuncData) (ps : List Str) (g : List Value → List Value → List Value), FnOk P w K mg base (fun _ _ _ _ _ _ => False) k f fd ps sp ∧ PySem.W.keepIn K (.ref f) = true ∧ KBn K fd ps 0 ks g gV
theorem pe_callRK {X : Cx} {k i : Nat} {x : Str} {p pos : Pos} {kws : List Keyword} {ks : List Str} {tk : TA} {S : Addr → Sp → (List V → List V → List V) → Prop} (A : ∀ f sp gV, S f sp gV → HeldK X.prog X.w X.K X.mg X.base k f sp ks gV) (hr : Room k X.A) (hN : X.N[i]? = some x) (hv : Vis X.env.scope x)
    (hkw : PK X kws tk) (hall : (backToKw pos (keywordEach kws X.env)).all (·.1.isSome) = true := by rfl) (hks : (backToKw pos (keywordEach kws X.env)).filterMap (·.1) = ks := by rfl)
    (hdb : (x == ("__debug__" : Str)) = false := by decide) (hcd : (x == ("__classdict__" : Str)) = false := by decide)
    (hpl : ((backTo pos (starEach [] X.env)).any (·.1) || (backToKw pos (keywordEach kws X.env)).any (·.1.isNone)) = false := by rfl) :
    PE X (.Call (.Name x p) [] kws pos) (fun σ H Q => ∃ f sp gV, σ[i]? = some (some (.ref f)) ∧ S f sp gV ∧ tk σ H fun zs H2 => zs.length = ks.length ∧ sp (gV [] zs) H2 Q (fun _ _ _ => False)) := by
  refine ⟨fun pins s σ H Q I h => ?_⟩
  obtain ⟨f, sp, gV, hs, hS, ht⟩ := h
  obtain ⟨fd, ps, g, F, hk, hb⟩ := (A f sp gV hS).ex
  refine wpAny_Call_Name_kw (thn ((pe_var (pos := p) hN hv hdb hcd).run pins s σ H (fun v H1 => v = .ref f ∧ H1 = H) I ⟨.ref f, hs, rfl, rfl⟩) fun u s1 ⟨v, H1, I1, r1, q1⟩ => ?_)
  obtain ⟨rfl, rfl⟩ := q1
  cases r1
  refine PySem.W.callWith_KW0 (h₀ := X.base) I1.ok.mod.kin hk hall ?_ hpl
  refine thn (hkw.run pos pins s1 σ _ _ I1 ht) fun ws s2 ⟨zs, H2, I2, rz, l2, q2⟩ => ⟨I2.kIn, ?_⟩
  rw [hks]
  exact run_fnN F hr hb (fun _ _ _ _ _ _ _ z => z.elim) I2 .nil rz rfl l2 q2
theorem fac {α : Type} {P : α → Prop} {x : α} {l : List α} (h : P x) (t : ∀ p ∈ l, P p) : ∀ p ∈ x :: l, P p := fun p hp => by
  rcases List.mem_cons.mp hp with e | hp
  · rw [e]; exact h
  · exact t p hp
theorem fan {α : Type} {P : α → Prop} : ∀ p ∈ ([] : List α), P p := fun p hp => by cases hp
end L2

namespace L2
open PySem PySem.Spec PyProof.Rows
/-! ### o[lo:hi] = another list -/
def gSlice (to : TE) (tl th : TO) : TG := fun v σ H Q => to σ H fun o H1 => tl σ H1 fun lo H2 => th σ H2 fun hi H3 =>
  ∃ (l b : Addr) (xs ys : List V) (a c : Int), o = .ref l ∧ v = .ref b ∧ lo = some a ∧ hi = some c ∧ H3 l = some (.lst xs) ∧ H3 b = some (.lst ys) ∧ l ≠ b ∧ 0 ≤ a ∧ a ≤ c ∧ c ≤ xs.length ∧ xs.length + ys.length ≤ sizeLine ∧
    Q σ (upd H3 l (.lst (xs.take a.toNat ++ ys ++ xs.drop c.toNat)))
theorem part_int {u : Value} {i : Int} (h : IsPart u (some i)) : RelV (.int i) u := by
  cases h
  exact ⟨_, rfl⟩
theorem pg_slice {X : Cx} {o : Expr} {lo hi : Option Expr} {to : TE} {tl th : TO} {p2 pos : Pos} (ho : PE X o to) (hl : PO X lo tl) (hu : PO X hi th)
    (ha : ∀ v, assign (.Subscript o (.Slice lo hi none p2) pos) X.env v = (do
      let ov ← holding [v] (eval o X.env)
      let iv ← holding [v, ov] (eval (.Slice lo hi none p2) X.env)
      standAt pos
      holding [v, ov, iv] (setItem ov iv v)
      release [iv, v, ov] []) := by intro _; rfl) : PG X (.Subscript o (.Slice lo hi none p2) pos) (gSlice to tl th) := by
  refine ⟨fun pins s σ H v u Q I r h => ?_⟩
  rw [ha]
  refine wpAny_bind (wpAny_holding (thn (ho.run pins s σ H _ I h) fun ov s1 ⟨x, H1, I1, r1, q1⟩ => ?_))
  refine wpAny_bind (wpAny_holding (wpAny_Slice (thn (hl.run pins s1 σ H1 _ I1 q1) fun vl s2 ⟨l, H2, I2, pl, q2⟩ => thn (hu.run pins s2 σ H2 _ I2 q2) fun vu s3 ⟨w', H3, I3, pu, q3⟩ => ?_)))
  rw [evalPart_none]
  refine wpAny_pure ?_
  have I4 : Inv X pins σ H3 { s3 with heap := s3.heap.push { cls := .type "slice", data := .fields #[vl, vu, .none] } } := I3.kept (t' := s3.toks) fun b ob q => Heap.get?_push_of_some _ q
  obtain ⟨li, b, xs, ys, a, c, rfl, rfl, rfl, rfl, hX, hB, ne, h0, hac, hc, hz, q⟩ := q3
  cases r1
  cases r
  refine wpAny_bind (wpAny_standAt (wpAny_bind (wpAny_holding ?_)))
  refine set_slice I4 hX hB ne (Heap.IsSliceOf.new ..) (part_int pl) (part_int pu) h0 hac hc hz fun s5 I5 => ?_
  exact wpAny_release ⟨σ, _, I5, q⟩
end L2
namespace L2
open PySem PySem.Spec PyProof.Rows
/-! ### how a run is found: the state, step by step -/
structure RF where
  row : List Nat
  pl : Nat
  eq : Nat
  st : Nat
  wt : Option (Nat × Nat)
  ln : Option Nat
namespace RF
def turned (row : List Nat) (lo hi : Nat) : List Nat := row.take lo ++ ((row.drop lo).take (hi - lo)).reverse ++ row.drop hi
def turn (f : RF) (lo : Nat) : RF := { f with row := turned f.row lo f.pl }
def finish (s : Nat) (f : RF) : RF := { f with ln := some (f.pl - s), wt := none }
def turnEq (f : RF) : RF := if 0 < f.eq then { f.turn (f.pl - f.eq - 1) with eq := 0 } else f
def askUp (s e : Nat) (f : RF) : RF := if f.pl < e then { f with wt := some (f.row.getD f.pl 0, f.row.getD (f.pl - 1) 0) } else finish s f
def rise (s e : Nat) (f : RF) : RF := askUp s e { (turnEq f).turn s with st := 5 }
def ask (s e : Nat) (f : RF) : RF := if f.pl < e then { f with wt := some (f.row.getD f.pl 0, f.row.getD (f.pl - 1) 0) } else if f.st = 3 then rise s e f else finish s f
def goOn (s e : Nat) (f : RF) : RF := ask s e { f with pl := f.pl + 1 }
def fall (s e : Nat) (f : RF) : RF := goOn s e { f with st := 3 }
def take1 (s e : Nat) (b : Bool) (f : RF) : RF := if b = false then goOn s e f else if f.pl = s + 1 then fall s e f else { f with st := 2, wt := some (f.row.getD s 0, f.row.getD (f.pl - 1) 0) }
def take2 (s e : Nat) (b : Bool) (f : RF) : RF := if b = true then finish s f else fall s e (f.turn s)
def take3 (s e : Nat) (b : Bool) (f : RF) : RF := if b = true then goOn s e (turnEq f) else { f with st := 4, wt := some (f.row.getD (f.pl - 1) 0, f.row.getD f.pl 0) }
def take4 (s e : Nat) (b : Bool) (f : RF) : RF := if b = true then rise s e f else goOn s e { f with eq := f.eq + 1, st := 3 }
def take5 (s e : Nat) (b : Bool) (f : RF) : RF := if b = true then finish s f else goOn s e f
def take (s e : Nat) (b : Bool) (f : RF) : RF := if f.st = 1 then take1 s e b f else if f.st = 2 then take2 s e b f else if f.st = 3 then take3 s e b f else if f.st = 4 then take4 s e b f else take5 s e b f
def init (row : List Nat) (s e : Nat) : RF := ask s e { row := row, pl := s + 1, eq := 0, st := 1, wt := none, ln := none }
/-- what holds between the steps -/
structure WF (s e : Nat) (f : RF) : Prop where
  sp : s < f.pl
  pe : f.pl ≤ e
  er : e ≤ f.row.length
  eq : f.eq + s < f.pl
  rl : f.row.length ≤ 2000
theorem turned_len {row : List Nat} {lo hi : Nat} (h : lo ≤ hi) (h2 : hi ≤ row.length) : (turned row lo hi).length = row.length := by
  unfold turned
  rw [List.length_append, List.length_append, List.length_take, List.length_reverse, List.length_take, List.length_drop, List.length_drop]
  omega
variable {s e : Nat} {f : RF}
theorem WF.turn (w : WF s e f) {lo : Nat} (h : lo ≤ f.pl) : WF s e (f.turn lo) := by
  obtain ⟨a, b, c, d, g⟩ := w
  have l : (f.turn lo).row.length = f.row.length := turned_len h (by omega)
  exact ⟨a, b, by rw [l]; exact c, d, by rw [l]; exact g⟩
theorem WF.turnEq (w : WF s e f) : WF s e f.turnEq := by
  unfold RF.turnEq
  split
  · have w2 := w.turn (lo := f.pl - f.eq - 1) (by omega)
    exact ⟨w2.sp, w2.pe, w2.er, by show 0 + s < f.pl; have := w.sp; omega, w2.rl⟩
  · exact w
theorem turnEq_pl (f : RF) : f.turnEq.pl = f.pl := by
  unfold RF.turnEq
  split <;> rfl
theorem turnEq_st (f : RF) : f.turnEq.st = f.st := by
  unfold RF.turnEq
  split <;> rfl
end RF
def lenV : Option Nat → V
  | none => .non
  | some n => .int (n : Int)
def flds (r : Addr) (s e : Nat) (f : RF) (wv : V) : List (Str × V) :=
  [("row", .ref r), ("start", .int (s : Int)), ("end", .int (e : Int)), ("place", .int (f.pl : Int)), ("equal", .int (f.eq : Int)), ("step", .int (f.st : Int)), ("waiting", wv), ("length", lenV f.ln)]
def WaitAt (H : Hp) (wv : V) : Option (Nat × Nat) → Prop
  | none => wv = .non
  | some (i, j) => ∃ t, wv = .ref t ∧ H t = some (.tup [.int (i : Int), .int (j : Int)])
theorem WaitAt.keep {H H' : Hp} {wv : V} {o : Option (Nat × Nat)} (h : WaitAt H wv o) (k : ∀ t i j, H t = some (.tup [.int i, .int j]) → H' t = some (.tup [.int i, .int j])) : WaitAt H' wv o := by
  cases o with
  | none => exact h
  | some p =>
    obtain ⟨t, e, ht⟩ := h
    exact ⟨t, e, k _ _ _ ht⟩
theorem WaitAt.upd {H : Hp} {wv : V} {o : Option (Nat × Nat)} {x : Addr} {u v : HO} (h : WaitAt H wv o) (hx : H x = some u) (hn : ∀ i j, u ≠ .tup [.int i, .int j]) : WaitAt (L2.upd H x v) wv o :=
  h.keep fun t i j ht => by
    rw [upd_ne (ne_of ht hx (fun e => hn i j e.symm))]
    exact ht
/-- the finder at x, its row at r -/
def FAt (C : Addr) (H : Hp) (x r : Addr) (s e : Nat) (f : RF) : Prop := x ≠ r ∧ ∃ dx wv, H x = some (.ins C dx (flds r s e f wv)) ∧ WaitAt H wv f.wt ∧ H r = some (.lst (nV f.row))
/-- all but x and r stands -/
def Fr2 (x r : Addr) (H H' : Hp) : Prop := ∀ b o, b ≠ x → b ≠ r → H b = some o → H' b = some o
theorem Fr2.refl (x r : Addr) (H : Hp) : Fr2 x r H H := fun _ _ _ _ h => h
theorem Fr2.trans {x r : Addr} {H H1 H2 : Hp} (a : Fr2 x r H H1) (b : Fr2 x r H1 H2) : Fr2 x r H H2 := fun c o n m h => b c o n m (a c o n m h)
theorem Fr2.of {x r : Addr} {H H' : Hp} (a : Same H H') : Fr2 x r H H' := fun c o _ _ h => a c o h
theorem Fr2.putx {x r : Addr} {H : Hp} {u : HO} : Fr2 x r H (L2.upd H x u) := fun c o n _ h => by rw [upd_ne n]; exact h
theorem Fr2.putr {x r : Addr} {H : Hp} {u : HO} : Fr2 x r H (L2.upd H r u) := fun c o _ m h => by rw [upd_ne m]; exact h
theorem FAt.same {C : Addr} {H H' : Hp} {x r : Addr} {s e : Nat} {f : RF} (h : FAt C H x r s e f) (k : Same H H') : FAt C H' x r s e f := by
  obtain ⟨n, dx, wv, hx, hw, hr⟩ := h
  exact ⟨n, dx, wv, k _ _ hx, hw.keep (fun _ _ _ => k _ _), k _ _ hr⟩
end L2

namespace L2
open PySem PySem.Spec PyProof.Rows
theorem cut_mid (xs : List V) (a b : Nat) (h : a ≤ b) (hb : b ≤ xs.length) : cutV xs (some (a : Int)) (some (b : Int)) = (xs.drop a).take (b - a) := by
  unfold cutV
  rw [HT.sIx_nat, HT.sIx_nat, Nat.min_eq_left hb, Nat.min_eq_left (Nat.le_trans h hb)]
theorem nV_turned (row : List Nat) (lo hi : Nat) : (nV row).take lo ++ (((nV row).drop lo).take (hi - lo)).reverse ++ (nV row).drop hi = nV (RF.turned row lo hi) := by
  unfold RF.turned
  simp only [List.map_append, List.map_take, List.map_drop, List.map_reverse]
theorem nV_get {row : List Nat} {i : Nat} (h : i < row.length) : atI (nV row) (i : Int) = some (.int ((row.getD i 0 : Nat) : Int)) := by
  refine atI_nat ?_
  rw [List.getElem?_map, List.getElem?_eq_getElem h]
  simp [List.getD_eq_getElem?_getD, List.getElem?_eq_getElem h]
theorem FAt.put {C x r : Addr} {H : Hp} {s e : Nat} {f f' : RF} {dx : Addr} {wv wv' : V} (h : FAt C H x r s e f) (hx : H x = some (.ins C dx (flds r s e f wv))) (er : f'.row = f.row) (hw : WaitAt H wv' f'.wt) {w : List (Str × V)} (ew : w = flds r s e f' wv') :
    FAt C (upd H x (.ins C dx w)) x r s e f' := by
  obtain ⟨n, _, _, _, _, hr⟩ := h
  subst ew
  refine ⟨n, dx, wv', upd_same, hw.upd hx (fun i j e => by cases e), ?_⟩
  rw [upd_ne n.symm, er]
  exact hr
/-- an attribute is set -/
theorem FAt.set {C x r : Addr} {H : Hp} {s e : Nat} {f : RF} {dx : Addr} {wv : V} (h : FAt C H x r s e f) (hx : H x = some (.ins C dx (flds r s e f wv))) (f' : RF) (wv' : V) (er : f'.row = f.row) (hw : WaitAt H wv' f'.wt) {w : List (Str × V)} (ew : w = flds r s e f' wv') :
    FAt C (upd H x (.ins C dx w)) x r s e f' ∧ upd H x (.ins C dx w) x = some (.ins C dx (flds r s e f' wv')) ∧ Fr2 x r H (upd H x (.ins C dx w)) := by
  subst ew
  exact ⟨h.put hx er hw rfl, upd_same, Fr2.putx⟩
theorem FAt.wait {C x r : Addr} {H : Hp} {s e : Nat} {f : RF} {dx : Addr} {wv : V} (h : FAt C H x r s e f) (hx : H x = some (.ins C dx (flds r s e f wv))) : WaitAt H wv f.wt := by
  obtain ⟨_, dx2, wv2, hx2, hw, _⟩ := h
  rw [hx] at hx2
  have e1 : flds r s e f wv = flds r s e f wv2 := (HO.ins.inj (Option.some.inj hx2)).2.2
  have e3 : some wv = some wv2 := congrArg (fun l : List (Str × V) => l.lookup ("waiting" : Str)) e1
  rw [Option.some.inj e3]
  exact hw
theorem FAt.putRow {C x r : Addr} {H : Hp} {s e : Nat} {f : RF} (h : FAt C H x r s e f) {row : List Nat} {w : List V} (ew : w = nV row) :
    FAt C (upd H r (.lst w)) x r s e { f with row := row } := by
  obtain ⟨n, dx, wv, hx, hw, hr⟩ := h
  subst ew
  refine ⟨n, dx, wv, ?_, hw.upd hr (fun i j e => by cases e), upd_same⟩
  rw [upd_ne n]
  exact hx
def spF0 (C : Addr) (pre : Nat → Nat → RF → Prop) (fn : Nat → Nat → RF → RF) : Sp := fun vs H Q _ => ∃ (x r : Addr) (s e : Nat) (f : RF), vs = [.ref x] ∧ FAt C H x r s e f ∧ RF.WF s e f ∧ pre s e f ∧ ∀ H', FAt C H' x r s e (fn s e f) → Fr2 x r H H' → Q .non H'
def spG (C : Addr) (fn : Nat → Nat → RF → RF) : Sp := fun vs H Q _ => ∃ (x r : Addr) (s e : Nat) (f : RF), vs = [.ref x] ∧ FAt C H x r s e f ∧ RF.WF s e { f with pl := f.pl + 1 } ∧ ∀ H', FAt C H' x r s e (fn s e f) → Fr2 x r H H' → Q .non H'
def spInit (C : Addr) : Sp := fun vs H Q _ => ∃ (x dx r : Addr) (s e : Nat) (row : List Nat), vs = [.ref x, .ref r, .int (s : Int), .int (e : Int)] ∧ H x = some (.ins C dx []) ∧ H r = some (.lst (nV row)) ∧ x ≠ r ∧ s < e ∧ e ≤ row.length ∧ row.length ≤ 2000 ∧ ∀ H', FAt C H' x r s e (RF.init row s e) → Fr2 x r H H' → Q .non H'
def spF1 (C : Addr) (pre : Nat → Nat → RF → Prop) (fn : Nat → Nat → Bool → RF → RF) : Sp := fun vs H Q _ => ∃ (x r : Addr) (s e : Nat) (f : RF) (b : Bool), vs = [.ref x, .bl b] ∧ FAt C H x r s e f ∧ RF.WF s e f ∧ pre s e f ∧ ∀ H', FAt C H' x r s e (fn s e b f) → Fr2 x r H H' → Q .non H'
def spTurn (C : Addr) : Sp := fun vs H Q _ => ∃ (x r : Addr) (s e lo : Nat) (f : RF), vs = [.ref x, .int (lo : Int)] ∧ FAt C H x r s e f ∧ RF.WF s e f ∧ lo ≤ f.pl ∧ ∀ H', FAt C H' x r s e (f.turn lo) → Fr2 x r H H' → Q .non H'
theorem dnF {n m : Nat} (h : n ≠ m) : V.bl (decide (V.int (n : Int) = V.int (m : Int))) = .bl false := by
  refine congrArg V.bl (decide_eq_false fun e => h ?_)
  have := V.int.inj e
  omega
theorem dnT {n m : Nat} (h : n = m) : V.bl (decide (V.int (n : Int) = V.int (m : Int))) = .bl true := congrArg V.bl (decide_eq_true (by rw [h]))
def noP (_ _ : Nat) (_ : RF) : Prop := True
namespace RF
variable {s e : Nat} {f : RF}
theorem WF.rowSame (w : WF s e f) {f' : RF} (h1 : f'.row = f.row) (h2 : f'.pl = f.pl) (h3 : f'.eq = f.eq) : WF s e f' := by
  obtain ⟨a, b, c, d, g⟩ := w
  exact ⟨by rw [h2]; exact a, by rw [h2]; exact b, by rw [h1]; exact c, by rw [h2, h3]; exact d, by rw [h1]; exact g⟩
theorem WF.finish (w : WF s e f) : WF s e (f.finish s) := w.rowSame rfl rfl rfl
theorem WF.askUp (w : WF s e f) : WF s e (f.askUp s e) := by
  unfold RF.askUp
  split
  · exact w.rowSame rfl rfl rfl
  · exact w.finish
theorem WF.pre5 (w : WF s e f) : WF s e { ((RF.turnEq f).turn s : RF) with st := 5 } := by
  have w1 := w.turnEq
  exact (w1.turn (Nat.le_of_lt w1.sp)).rowSame rfl rfl rfl
theorem WF.rise (w : WF s e f) : WF s e (f.rise s e) := w.pre5.askUp
theorem WF.ask (w : WF s e f) : WF s e (f.ask s e) := by
  unfold RF.ask
  split
  · exact w.rowSame rfl rfl rfl
  · split
    · exact w.rise
    · exact w.finish
theorem WF.next (w : WF s e f) (h : f.pl < e) : WF s e { f with pl := f.pl + 1 } := by
  obtain ⟨a, b, c, d, g⟩ := w
  exact ⟨by show s < f.pl + 1; omega, h, c, by show f.eq + s < f.pl + 1; omega, g⟩
theorem WF.goOn (w : WF s e f) (h : f.pl < e) : WF s e (f.goOn s e) := (w.next h).ask
theorem WF.st (w : WF s e f) (k : Nat) : WF s e { f with st := k } := w.rowSame rfl rfl rfl
theorem WF.fall (w : WF s e f) (h : f.pl < e) : WF s e (f.fall s e) := (w.st 3).goOn h
theorem WF.eq1 (w : WF s e f) (h : f.pl < e) : WF s e { f with eq := f.eq + 1, pl := f.pl + 1, st := 3 } := by
  obtain ⟨a, b, c, d, g⟩ := w
  exact ⟨by show s < f.pl + 1; omega, h, c, by show f.eq + 1 + s < f.pl + 1; omega, g⟩
theorem WF.take (w : WF s e f) (h : f.pl < e) (b : Bool) : WF s e (f.take s e b) := by
  unfold RF.take
  split
  · unfold RF.take1
    split
    · exact w.goOn h
    · split
      · exact w.fall h
      · exact w.rowSame rfl rfl rfl
  · split
    · unfold RF.take2
      split
      · exact w.finish
      · exact (w.turn (Nat.le_of_lt w.sp)).fall h
    · split
      · unfold RF.take3
        split
        · exact w.turnEq.goOn (by rw [turnEq_pl]; exact h)
        · exact w.rowSame rfl rfl rfl
      · split
        · unfold RF.take4
          split
          · exact w.rise
          · exact (w.eq1 h).ask
        · unfold RF.take5
          split
          · exact w.finish
          · exact w.goOn h
/-- what waits is asked ahead of the end -/
def Ahead (e : Nat) (f : RF) : Prop := f.wt ≠ none → f.pl < e
theorem ahead_fin : Ahead e (f.finish s) := fun h => absurd rfl h
theorem ahead_askUp : Ahead e (f.askUp s e) := by
  unfold RF.askUp
  split
  · rename_i h
    exact fun _ => h
  · exact ahead_fin
theorem ahead_ask : Ahead e (f.ask s e) := by
  unfold RF.ask
  split
  · rename_i h
    exact fun _ => h
  · split
    · exact ahead_askUp
    · exact ahead_fin
theorem ahead_take (h : f.pl < e) (b : Bool) : Ahead e (f.take s e b) := by
  unfold RF.take
  split
  · unfold RF.take1
    split
    · exact ahead_ask
    · split
      · exact ahead_ask
      · exact fun _ => h
  · split
    · unfold RF.take2
      split
      · exact ahead_fin
      · exact ahead_ask
    · split
      · unfold RF.take3
        split
        · exact ahead_ask
        · exact fun _ => h
      · split
        · unfold RF.take4
          split
          · exact ahead_askUp
          · exact ahead_ask
        · unfold RF.take5
          split
          · exact ahead_fin
          · exact ahead_ask
end RF
end L2

namespace L2
open PySem PySem.Spec PyProof.Rows
namespace RF
variable {s e : Nat} {f : RF}
/-! rows stay rows of the same items -/
theorem turned_perm {row : List Nat} {lo hi : Nat} (h : lo ≤ hi) : (turned row lo hi).Perm row := by
  unfold turned
  have e1 : row = row.take lo ++ (row.drop lo).take (hi - lo) ++ row.drop hi := by
    have a1 : row.drop hi = (row.drop lo).drop (hi - lo) := by
      rw [List.drop_drop]
      congr 1
      omega
    rw [a1, List.append_assoc, List.take_append_drop, List.take_append_drop]
  have e2 : (row.take lo ++ ((row.drop lo).take (hi - lo)).reverse ++ row.drop hi).Perm (row.take lo ++ (row.drop lo).take (hi - lo) ++ row.drop hi) :=
    List.Perm.append_right _ (List.Perm.append_left _ (List.reverse_perm _))
  exact e2.trans (by rw [← e1])
theorem turn_perm (lo : Nat) (h : lo ≤ f.pl) : (f.turn lo).row.Perm f.row := turned_perm h
theorem turnEq_perm : f.turnEq.row.Perm f.row := by
  unfold RF.turnEq
  split
  · exact turned_perm (by omega)
  · exact List.Perm.refl _
theorem askUp_row : (f.askUp s e).row = f.row := by
  unfold RF.askUp
  split <;> rfl
theorem rise_perm (w : WF s e f) : (f.rise s e).row.Perm f.row := by
  unfold RF.rise
  rw [askUp_row]
  have w1 := w.turnEq
  exact (turn_perm s (Nat.le_of_lt w1.sp)).trans turnEq_perm
theorem ask_perm (w : WF s e f) : (f.ask s e).row.Perm f.row := by
  unfold RF.ask
  split
  · exact List.Perm.refl _
  · split
    · exact rise_perm w
    · exact List.Perm.refl _
theorem take_perm (w : WF s e f) (h : f.pl < e) (b : Bool) : (f.take s e b).row.Perm f.row := by
  unfold RF.take
  split
  · unfold RF.take1
    split
    · exact ask_perm (w.next h)
    · split
      · exact ask_perm ((w.st 3).next h)
      · exact List.Perm.refl _
  · split
    · unfold RF.take2
      split
      · exact List.Perm.refl _
      · exact (ask_perm (((w.turn (Nat.le_of_lt w.sp)).st 3).next h)).trans (turn_perm s (Nat.le_of_lt w.sp))
    · split
      · unfold RF.take3
        split
        · exact (ask_perm (w.turnEq.next (by rw [turnEq_pl]; exact h))).trans turnEq_perm
        · exact List.Perm.refl _
      · split
        · unfold RF.take4
          split
          · exact rise_perm w
          · exact ask_perm (w.eq1 h)
        · unfold RF.take5
          split
          · exact List.Perm.refl _
          · exact ask_perm (w.next h)
/-! a measure: how many questions may still come -/
def stw (k : Nat) : Nat := if k = 1 then 1 else if k = 3 then 2 else if k = 4 then 1 else 0
theorem stw_le (k : Nat) : stw k ≤ 2 := by
  unfold stw
  split
  · omega
  · split
    · omega
    · split <;> omega
def mu (e : Nat) (f : RF) : Nat := if f.wt = none then 0 else 1 + 3 * (e - f.pl) + stw f.st
theorem mu_le (e : Nat) (f : RF) : mu e f ≤ 1 + 3 * (e - f.pl) + stw f.st := by
  unfold mu
  split <;> omega
theorem mu_fin : mu e (f.finish s) = 0 := rfl
theorem mu_askUp : mu e (f.askUp s e) ≤ 1 + 3 * (e - f.pl) + stw f.st := by
  unfold RF.askUp
  split
  · exact mu_le e _
  · rw [mu_fin]
    omega
theorem rise_pl : (f.turnEq.turn s).pl = f.pl := turnEq_pl f
theorem mu_rise : mu e (f.rise s e) ≤ 1 + 3 * (e - f.pl) := by
  unfold RF.rise
  refine Nat.le_trans mu_askUp ?_
  show 1 + 3 * (e - (f.turnEq.turn s).pl) + 0 ≤ _
  rw [rise_pl]
  omega
theorem mu_ask : mu e (f.ask s e) ≤ 1 + 3 * (e - f.pl) + stw f.st := by
  unfold RF.ask
  split
  · exact mu_le e _
  · split
    · have := mu_rise (s := s) (e := e) (f := f)
      omega
    · rw [mu_fin]
      omega
theorem mu_goOn : mu e (f.goOn s e) ≤ 1 + 3 * (e - (f.pl + 1)) + stw f.st := mu_ask
theorem mu_fall : mu e (f.fall s e) ≤ 1 + 3 * (e - (f.pl + 1)) + 2 := mu_ask
theorem mu_take (hw : f.wt ≠ none) (h : f.pl < e) (b : Bool) : mu e (f.take s e b) < mu e f := by
  have h0 : mu e f = 1 + 3 * (e - f.pl) + stw f.st := by
    unfold mu
    rw [if_neg hw]
  rw [h0]
  unfold RF.take
  split
  · rename_i h1
    rw [show stw f.st = 1 by rw [h1]; rfl]
    unfold RF.take1
    split
    · have := mu_goOn (s := s) (e := e) (f := f)
      rw [show stw f.st = 1 by rw [h1]; rfl] at this
      omega
    · split
      · have := mu_fall (s := s) (e := e) (f := f)
        omega
      · have := mu_le e { f with st := 2, wt := some (f.row.getD s 0, f.row.getD (f.pl - 1) 0) }
        have e2 : stw ({ f with st := 2, wt := some (f.row.getD s 0, f.row.getD (f.pl - 1) 0) } : RF).st = 0 := rfl
        rw [e2] at this
        have e3 : ({ f with st := 2, wt := some (f.row.getD s 0, f.row.getD (f.pl - 1) 0) } : RF).pl = f.pl := rfl
        rw [e3] at this
        omega
  · split
    · rename_i h1
      unfold RF.take2
      split
      · rw [mu_fin]
        omega
      · have := mu_fall (s := s) (e := e) (f := f.turn s)
        have e3 : (f.turn s).pl = f.pl := rfl
        rw [e3] at this
        omega
    · split
      · rename_i h1
        rw [show stw f.st = 2 by rw [h1]; rfl]
        unfold RF.take3
        split
        · have := mu_goOn (s := s) (e := e) (f := f.turnEq)
          rw [turnEq_pl, turnEq_st, show stw f.st = 2 by rw [h1]; rfl] at this
          omega
        · have := mu_le e { f with st := 4, wt := some (f.row.getD (f.pl - 1) 0, f.row.getD f.pl 0) }
          have e2 : stw ({ f with st := 4, wt := some (f.row.getD (f.pl - 1) 0, f.row.getD f.pl 0) } : RF).st = 1 := rfl
          rw [e2] at this
          have e3 : ({ f with st := 4, wt := some (f.row.getD (f.pl - 1) 0, f.row.getD f.pl 0) } : RF).pl = f.pl := rfl
          rw [e3] at this
          omega
      · split
        · rename_i h1
          rw [show stw f.st = 1 by rw [h1]; rfl]
          unfold RF.take4
          split
          · have := mu_rise (s := s) (e := e) (f := f)
            omega
          · have := mu_goOn (s := s) (e := e) (f := { f with eq := f.eq + 1, st := 3 })
            have e2 : stw ({ f with eq := f.eq + 1, st := 3 } : RF).st = 2 := rfl
            rw [e2] at this
            have e3 : ({ f with eq := f.eq + 1, st := 3 } : RF).pl = f.pl := rfl
            rw [e3] at this
            omega
        · unfold RF.take5
          split
          · rw [mu_fin]
            omega
          · have := mu_goOn (s := s) (e := e) (f := f)
            omega
/-! what waits are two items of the row -/
def Two (f : RF) : Prop := ∀ q, f.wt = some q → ∃ k l, q = (f.row.getD k 0, f.row.getD l 0) ∧ k < f.row.length ∧ l < f.row.length ∧ k ≠ l
theorem two_none (h : f.wt = none) : Two f := fun q e => by rw [h] at e; cases e
theorem two_mk {f : RF} {k l : Nat} (h : f.wt = some (f.row.getD k 0, f.row.getD l 0)) (h1 : k < f.row.length) (h2 : l < f.row.length) (h3 : k ≠ l) : Two f := fun q e => by
  rw [h] at e
  exact ⟨k, l, (Option.some.inj e).symm, h1, h2, h3⟩
theorem two_up {f' : RF} (a : 0 < f'.pl) (c : e ≤ f'.row.length) : Two (f'.askUp s e) := by
  unfold RF.askUp
  split
  · rename_i h
    exact two_mk (k := f'.pl) (l := f'.pl - 1) rfl (by show f'.pl < f'.row.length; omega) (by show f'.pl - 1 < f'.row.length; omega) (by omega)
  · exact two_none rfl
theorem two_rise (w : WF s e f) : Two (f.rise s e) := by
  have w2 := w.pre5
  exact two_up (Nat.lt_of_le_of_lt (Nat.zero_le _) w2.sp) w2.er
theorem two_ask (w : WF s e f) : Two (f.ask s e) := by
  have := w.sp; have := w.er
  unfold RF.ask
  split
  · rename_i h
    exact two_mk (k := f.pl) (l := f.pl - 1) rfl (by show f.pl < f.row.length; omega) (by show f.pl - 1 < f.row.length; omega) (by omega)
  · split
    · exact two_rise w
    · exact two_none rfl
theorem two_take (w : WF s e f) (h : f.pl < e) (b : Bool) : Two (f.take s e b) := by
  have b1 := w.sp; have b2 := w.er
  unfold RF.take
  split
  · unfold RF.take1
    split
    · exact two_ask (w.next h)
    · split
      · exact two_ask ((w.st 3).next h)
      · exact two_mk (k := s) (l := f.pl - 1) rfl (by show s < f.row.length; omega) (by show f.pl - 1 < f.row.length; omega) (by omega)
  · split
    · unfold RF.take2
      split
      · exact two_none rfl
      · exact two_ask (((w.turn (Nat.le_of_lt w.sp)).st 3).next h)
    · split
      · unfold RF.take3
        split
        · exact two_ask (w.turnEq.next (by rw [turnEq_pl]; exact h))
        · exact two_mk (k := f.pl - 1) (l := f.pl) rfl (by show f.pl - 1 < f.row.length; omega) (by show f.pl < f.row.length; omega) (by omega)
      · split
        · unfold RF.take4
          split
          · exact two_rise w
          · exact two_ask (w.eq1 h)
        · unfold RF.take5
          split
          · exact two_none rfl
          · exact two_ask (w.next h)
/-! the length is there when nothing waits -/
def Len (s : Nat) (f : RF) : Prop := (f.wt = none → f.ln = some (f.pl - s)) ∧ (f.wt ≠ none → f.ln = none)
theorem len_fin : Len s (f.finish s) := ⟨fun _ => rfl, fun h => absurd rfl h⟩
theorem len_some {f : RF} {q : Nat × Nat} (h : f.wt = some q) (h2 : f.ln = none) : Len s f := ⟨fun e => (by rw [h] at e; cases e), fun _ => h2⟩
theorem turnEq_ln (f : RF) : f.turnEq.ln = f.ln := by
  unfold RF.turnEq
  split <;> rfl
theorem len_up {f' : RF} (h : f'.ln = none) : Len s (f'.askUp s e) := by
  unfold RF.askUp
  split
  · exact len_some rfl h
  · exact len_fin
theorem len_rise (h : f.ln = none) : Len s (f.rise s e) := len_up (by show f.turnEq.ln = none; rw [turnEq_ln]; exact h)
theorem len_ask {f : RF} (h : f.ln = none) : Len s (f.ask s e) := by
  unfold RF.ask
  split
  · exact len_some rfl h
  · split
    · exact len_rise h
    · exact len_fin
theorem len_take (h : f.ln = none) (b : Bool) : Len s (f.take s e b) := by
  unfold RF.take
  split
  · unfold RF.take1
    split
    · exact len_ask h
    · split
      · exact len_ask h
      · exact len_some rfl h
  · split
    · unfold RF.take2
      split
      · exact len_fin
      · exact len_ask h
    · split
      · unfold RF.take3
        split
        · exact len_ask (by show f.turnEq.ln = none; rw [turnEq_ln]; exact h)
        · exact len_some rfl h
      · split
        · unfold RF.take4
          split
          · exact len_rise h
          · exact len_ask h
        · unfold RF.take5
          split
          · exact len_fin
          · exact len_ask h
/-! all that holds while a run is found -/
structure Good (s e : Nat) (row0 : List Nat) (f : RF) : Prop where
  wf : WF s e f
  ah : Ahead e f
  pm : f.row.Perm row0
  tw : Two f
  le : Len s f
/-- an item of a row of all n -/
theorem item_lt {row row0 : List Nat} {n k : Nat} (h : row.Perm row0) (h0 : row0.Perm (List.range n)) (hk : k < row.length) : row.getD k 0 < n := by
  refine List.mem_range.mp ((h.trans h0).mem_iff.mp ?_)
  rw [List.getD_eq_getElem?_getD, List.getElem?_eq_getElem hk]
  exact List.getElem_mem hk
theorem Good.items {row0 : List Nat} {n : Nat} (g : Good s e row0 f) (h0 : row0.Perm (List.range n)) {q : Nat × Nat} (h : f.wt = some q) : q.1 < n ∧ q.2 < n ∧ q.1 ≠ q.2 := by
  obtain ⟨k, l, rfl, h1, h2, h3⟩ := g.tw q h
  refine ⟨item_lt g.pm h0 h1, item_lt g.pm h0 h2, fun e => h3 ?_⟩
  have nd : f.row.Nodup := (g.pm.trans h0).nodup_iff.mpr List.nodup_range
  have e2 : f.row.getD k 0 = f.row.getD l 0 := e
  rw [List.getD_eq_getElem?_getD, List.getD_eq_getElem?_getD, List.getElem?_eq_getElem h1, List.getElem?_eq_getElem h2] at e2
  exact (List.getElem_inj nd).mp e2
theorem Good.take {row0 : List Nat} (g : Good s e row0 f) (h : f.wt ≠ none) (b : Bool) : Good s e row0 (f.take s e b) :=
  ⟨g.wf.take (g.ah h) b, ahead_take (g.ah h) b, (take_perm g.wf (g.ah h) b).trans g.pm, two_take g.wf (g.ah h) b, len_take (g.le.2 h) b⟩
theorem Good.init {row : List Nat} (h1 : s < e) (h2 : e ≤ row.length) (h3 : row.length ≤ 2000) : Good s e row (RF.init row s e) := by
  have w : WF s e { row := row, pl := s + 1, eq := 0, st := 1, wt := none, ln := none } := ⟨by show s < s + 1; omega, by show s + 1 ≤ e; omega, h2, by show 0 + s < s + 1; omega, h3⟩
  exact ⟨w.ask, ahead_ask, ask_perm w, two_ask w, len_ask rfl⟩
/-- one question more, answered as ls says -/
def stp (ls : Nat × Nat → Bool) (s e : Nat) (f : RF) : RF := match f.wt with
  | none => f
  | some q => f.take s e (ls q)
def stps (ls : Nat × Nat → Bool) (s e : Nat) (f : RF) : Nat → RF
  | 0 => f
  | n + 1 => stp ls s e (stps ls s e f n)
theorem Good.stp {row0 : List Nat} (ls : Nat × Nat → Bool) (g : Good s e row0 f) : Good s e row0 (f.stp ls s e) := by
  unfold RF.stp
  split
  · exact g
  · rename_i q h
    exact g.take (by rw [h]; exact Option.some_ne_none _) _
theorem Good.stps {row0 : List Nat} (ls : Nat × Nat → Bool) (g : Good s e row0 f) : ∀ n, Good s e row0 (f.stps ls s e n)
  | 0 => g
  | n + 1 => (Good.stps ls g n).stp ls
theorem stps_next {ls : Nat × Nat → Bool} {n : Nat} {q : Nat × Nat} (h : (f.stps ls s e n).wt = some q) : f.stps ls s e (n + 1) = (f.stps ls s e n).take s e (ls q) := by
  show RF.stp ls s e (f.stps ls s e n) = _
  unfold RF.stp
  rw [h]
theorem stps_end {ls : Nat × Nat → Bool} {n : Nat} (h : (f.stps ls s e n).wt = none) : f.stps ls s e (n + 1) = f.stps ls s e n := by
  show RF.stp ls s e (f.stps ls s e n) = _
  unfold RF.stp
  rw [h]
theorem stps_stay {ls : Nat × Nat → Bool} {n : Nat} (h : (f.stps ls s e n).wt = none) : ∀ k, f.stps ls s e (n + k) = f.stps ls s e n
  | 0 => rfl
  | k + 1 => by
    have ih := stps_stay h k
    show RF.stps ls s e f ((n + k) + 1) = _
    rw [stps_end (by rw [ih]; exact h), ih]
/-- the first n questions -/
def asks (ls : Nat × Nat → Bool) (s e : Nat) (f : RF) (n : Nat) : List (Nat × Nat) := (List.range n).map fun i => ((f.stps ls s e i).wt).getD (0, 0)
theorem asks_len (ls : Nat × Nat → Bool) (n : Nat) : (f.asks ls s e n).length = n := by
  unfold asks
  rw [List.length_map, List.length_range]
theorem asks_next {ls : Nat × Nat → Bool} {n : Nat} {q : Nat × Nat} (h : (f.stps ls s e n).wt = some q) : f.asks ls s e (n + 1) = f.asks ls s e n ++ [q] := by
  unfold asks
  rw [List.range_succ, List.map_append, List.map_singleton, h]
  rfl
theorem asks_at {ls : Nat × Nat → Bool} {n i : Nat} (h : i < n) : (f.asks ls s e n)[i]? = some (((f.stps ls s e i).wt).getD (0, 0)) := by
  unfold asks
  rw [List.getElem?_map, List.getElem?_range h]
  rfl
end RF
/-- by the keys -/
def less (ns : List Int) (q : Nat × Nat) : Bool := decide (ns.getD q.1 0 < ns.getD q.2 0)
/-- questions, tuples of two items each, in a list -/
def PairAt (H : Hp) (v : V) (q : Nat × Nat) : Prop := ∃ t, v = .ref t ∧ H t = some (.tup [.int (q.1 : Int), .int (q.2 : Int)])
def QAt (H : Hp) (l : Addr) (qs : List (Nat × Nat)) : Prop := ∃ ts : List V, H l = some (.lst ts) ∧ ts.length = qs.length ∧ ∀ (i : Nat) (v : V) (q : Nat × Nat), ts[i]? = some v → qs[i]? = some q → PairAt H v q
theorem PairAt.keep {H H' : Hp} {v : V} {q : Nat × Nat} (h : PairAt H v q) (k : ∀ t i j, H t = some (.tup [.int i, .int j]) → H' t = some (.tup [.int i, .int j])) : PairAt H' v q := by
  obtain ⟨t, e, g⟩ := h
  exact ⟨t, e, k _ _ _ g⟩
theorem QAt.keep {H H' : Hp} {l : Addr} {qs : List (Nat × Nat)} (h : QAt H l qs) (kl : ∀ x, H l = some x → H' l = some x) (k : ∀ t i j, H t = some (.tup [.int i, .int j]) → H' t = some (.tup [.int i, .int j])) : QAt H' l qs := by
  obtain ⟨ts, g, n, a⟩ := h
  exact ⟨ts, kl _ g, n, fun i v q h1 h2 => (a i v q h1 h2).keep k⟩
theorem QAt.same {H H' : Hp} {l : Addr} {qs : List (Nat × Nat)} (h : QAt H l qs) (k : Same H H') : QAt H' l qs := h.keep (fun _ => k _ _) (fun _ _ _ => k _ _)
theorem QAt.nil {H : Hp} {l : Addr} (h : H l = some (.lst [])) : QAt H l [] := ⟨[], h, rfl, fun i v q h1 => by simp at h1⟩
theorem QAt.push {H : Hp} {l : Addr} {qs : List (Nat × Nat)} {ts : List V} (h : H l = some (.lst ts)) (hq : QAt H l qs) {v : V} {q : Nat × Nat} (hv : PairAt H v q) : QAt (upd H l (.lst (ts ++ [v]))) l (qs ++ [q]) := by
  obtain ⟨ts', g, n, a⟩ := hq
  rw [h] at g
  cases g
  have k : ∀ t i j, H t = some (.tup [.int i, .int j]) → upd H l (.lst (ts ++ [v])) t = some (.tup [.int i, .int j]) := fun t i j ht => by
    rw [upd_ne (ne_of ht h (fun e => by cases e))]
    exact ht
  refine ⟨ts ++ [v], upd_same, by simp [n], fun i v' q' h1 h2 => ?_⟩
  by_cases hi : i < ts.length
  · rw [List.getElem?_append_left hi] at h1
    rw [List.getElem?_append_left (by omega)] at h2
    exact (a i v' q' h1 h2).keep k
  · rw [List.getElem?_append_right (by omega)] at h1
    rw [List.getElem?_append_right (by omega)] at h2
    have e0 : i - ts.length = 0 := by
      cases e1 : i - ts.length with
      | zero => rfl
      | succ m =>
        rw [e1] at h1
        simp at h1
    have e0' : i - qs.length = 0 := by omega
    rw [e0] at h1
    rw [e0'] at h2
    cases h1
    cases h2
    exact hv.keep k
end L2

namespace L2
open PySem PySem.Spec PyProof.Rows
/-! ### the law's own walk -/
structure WS where
  row : List Nat
  pl : Nat
  eq : Nat
  st : Nat
namespace WS
def fallRow (w : WS) : List Nat := RF.turned (if 0 < w.eq then RF.turned w.row (w.pl - w.eq - 1) w.pl else w.row) 0 w.pl
def fall (w : WS) : WS := { w with row := fallRow w }
def ans (b : Bool) (w : WS) : WS :=
  if w.st = 1 ∧ b = true then { w with st := if 1 < w.pl then 2 else 3, pl := w.pl + (if w.pl = 1 then 1 else 0) }
  else if w.st = 2 ∧ b = true then { w with st := 0 }
  else if w.st = 2 then { w with row := RF.turned w.row 0 w.pl, st := 3, pl := w.pl + 1 }
  else if w.st = 3 ∧ b = true then { w with row := if 0 < w.eq then RF.turned w.row (w.pl - w.eq - 1) w.pl else w.row, eq := 0, pl := w.pl + 1 }
  else if w.st = 3 then { w with st := 4 }
  else if w.st = 4 ∧ b = true then { w with row := fallRow w, st := 5 }
  else if w.st = 4 then { w with st := 3, eq := w.eq + 1, pl := w.pl + 1 }
  else if b = true then { w with st := 0 }
  else { w with pl := w.pl + 1 }
def lk (size : Nat) (w : WS) : Option (Nat × Nat) :=
  if w.st = 2 then some (w.row.getD 0 0, w.row.getD (w.pl - 1) 0)
  else if w.st = 4 then some (w.row.getD (w.pl - 1) 0, w.row.getD w.pl 0)
  else if w.pl < size then some (w.row.getD w.pl 0, w.row.getD (w.pl - 1) 0) else none
/-- the walk's state behind a look that finds no question -/
def past (size : Nat) (w : WS) : WS := if w.st = 3 then { w with row := fallRow w, st := 5 } else { w with st := 0 }
/-- how the walk stands to the finder: 3 a question waits, 2 and 1 and 0 the end is told in so many turns -/
def At (size : Nat) (w : WS) (f : RF) : Nat → Prop
  | 3 => ∃ q, f.wt = some q ∧ w.row = f.row ∧ w.pl = f.pl ∧ w.st = f.st ∧ 1 ≤ w.st ∧ w.st ≤ 5 ∧ (w.st ≠ 5 → w.eq = f.eq) ∧ lk size w = some q
  | 2 => f.wt = none ∧ w.st = 3 ∧ size ≤ w.pl ∧ w.pl = f.pl ∧ fallRow w = f.row
  | 1 => f.wt = none ∧ (w.st = 1 ∨ w.st = 5) ∧ size ≤ w.pl ∧ w.pl = f.pl ∧ w.row = f.row
  | 0 => f.wt = none ∧ w.st = 0 ∧ w.pl = f.pl ∧ w.row = f.row
  | _ => False
theorem at_ask {size : Nat} {w : WS} {f : RF} (h1 : w.row = f.row) (h2 : w.pl = f.pl) (h3 : w.st = f.st) (h4 : w.st = 1 ∨ w.st = 3 ∨ w.st = 5) (h5 : w.st ≠ 5 → w.eq = f.eq) : ∃ t, t ≤ 3 ∧ At size w (f.ask 0 size) t := by
  unfold RF.ask
  by_cases hp : f.pl < size
  · rw [if_pos hp]
    refine ⟨3, Nat.le_refl _, _, rfl, h1, h2, h3, by omega, by omega, h5, ?_⟩
    unfold lk
    rw [if_neg (by omega), if_neg (by omega), if_pos (by omega), h1, h2]
  · rw [if_neg hp]
    by_cases h : f.st = 3
    · rw [if_pos h]
      have e1 : f.rise 0 size = RF.finish 0 { (f.turnEq.turn 0 : RF) with st := 5 } := by
        unfold RF.rise RF.askUp
        rw [if_neg (by show ¬ f.turnEq.pl < size; rw [RF.turnEq_pl]; exact hp)]
      rw [e1]
      refine ⟨2, by omega, rfl, by omega, by omega, ?_, ?_⟩
      · show w.pl = f.turnEq.pl
        rw [RF.turnEq_pl, h2]
      · show fallRow w = RF.turned f.turnEq.row 0 f.turnEq.pl
        rw [RF.turnEq_pl]
        unfold fallRow RF.turnEq
        rw [h1, h2, h5 (by omega)]
        by_cases h0 : 0 < f.eq
        · rw [if_pos h0, if_pos h0]
          rfl
        · rw [if_neg h0, if_neg h0]
    · rw [if_neg h]
      exact ⟨1, by omega, rfl, by omega, by omega, h2, h1⟩
theorem at_ans {size : Nat} {w : WS} {f : RF} (hf : 0 < f.pl) (h : At size w f 3) (b : Bool) : ∃ t, t ≤ 3 ∧ At size (w.ans b) (f.take 0 size b) t := by
  obtain ⟨q, hq, h1, h2, h3, h4, h5, h6, h7⟩ := h
  unfold ans RF.take
  by_cases s1 : w.st = 1
  · rw [if_pos (show f.st = 1 by omega)]
    unfold RF.take1
    cases b with
    | false =>
      rw [if_neg (by simp), if_neg (by simp), if_neg (by omega), if_neg (by simp), if_neg (by omega), if_neg (by simp), if_neg (by omega), if_neg (by simp), if_pos rfl]
      exact at_ask (w := { w with pl := w.pl + 1 }) (f := { f with pl := f.pl + 1 }) h1 (by show w.pl + 1 = f.pl + 1; omega) h3 (.inl s1) h6
    | true =>
      rw [if_pos ⟨s1, rfl⟩, if_neg (show ¬ (true = false) by decide)]
      by_cases hp : f.pl = 0 + 1
      · rw [if_pos hp, if_neg (show ¬ 1 < w.pl by omega), if_pos (show w.pl = 1 by omega)]
        exact at_ask (w := { w with st := 3, pl := w.pl + 1 }) (f := { f with st := 3, pl := f.pl + 1 }) h1 (by show w.pl + 1 = f.pl + 1; omega) rfl (.inr (.inl rfl)) (fun _ => h6 (by omega))
      · rw [if_neg hp, if_pos (show 1 < w.pl by omega), if_neg (show ¬ w.pl = 1 by omega)]
        refine ⟨3, Nat.le_refl _, _, rfl, h1, h2, rfl, by show 1 ≤ 2; omega, by show 2 ≤ 5; omega, fun _ => h6 (by omega), ?_⟩
        unfold lk
        rw [if_pos rfl, h1, Nat.add_zero, h2]
  rw [if_neg (fun e => s1 e.1), if_neg (show ¬ f.st = 1 by omega)]
  by_cases s2 : w.st = 2
  · rw [if_pos (show f.st = 2 by omega)]
    unfold RF.take2
    cases b with
    | true =>
      rw [if_pos ⟨s2, rfl⟩, if_pos rfl]
      exact ⟨0, by omega, rfl, rfl, h2, h1⟩
    | false =>
      rw [if_neg (by simp), if_pos s2, if_neg (by simp)]
      exact at_ask (w := { w with row := RF.turned w.row 0 w.pl, st := 3, pl := w.pl + 1 }) (f := { (f.turn 0 : RF) with st := 3, pl := (f.turn 0).pl + 1 }) (by show RF.turned w.row 0 w.pl = RF.turned f.row 0 f.pl; rw [h1, h2]) (by show w.pl + 1 = f.pl + 1; omega) rfl (.inr (.inl rfl)) (fun _ => h6 (by omega))
  rw [if_neg (fun e => s2 e.1), if_neg s2, if_neg (show ¬ f.st = 2 by omega)]
  by_cases s3 : w.st = 3
  · rw [if_pos (show f.st = 3 by omega)]
    unfold RF.take3
    cases b with
    | true =>
      rw [if_pos ⟨s3, rfl⟩, if_pos rfl]
      refine at_ask (w := { w with row := if 0 < w.eq then RF.turned w.row (w.pl - w.eq - 1) w.pl else w.row, eq := 0, pl := w.pl + 1 }) (f := { (f.turnEq : RF) with pl := f.turnEq.pl + 1 }) ?_ (by show w.pl + 1 = f.turnEq.pl + 1; rw [RF.turnEq_pl, h2]) (by show w.st = f.turnEq.st; rw [RF.turnEq_st, h3]) (.inr (.inl s3)) (fun _ => ?_)
      · show (if 0 < w.eq then RF.turned w.row (w.pl - w.eq - 1) w.pl else w.row) = f.turnEq.row
        unfold RF.turnEq
        rw [h1, h2, h6 (by omega)]
        by_cases h0 : 0 < f.eq
        · rw [if_pos h0, if_pos h0]
          rfl
        · rw [if_neg h0, if_neg h0]
      · show 0 = f.turnEq.eq
        unfold RF.turnEq
        by_cases h0 : 0 < f.eq
        · rw [if_pos h0]
        · rw [if_neg h0]
          omega
    | false =>
      rw [if_neg (by simp), if_pos s3, if_neg (by simp)]
      refine ⟨3, Nat.le_refl _, _, rfl, h1, h2, rfl, by show 1 ≤ 4; omega, by show 4 ≤ 5; omega, fun _ => h6 (by omega), ?_⟩
      unfold lk
      rw [if_neg (by show ¬ 4 = 2; decide), if_pos rfl, h1, h2]
  rw [if_neg (fun e => s3 e.1), if_neg s3, if_neg (show ¬ f.st = 3 by omega)]
  by_cases s4 : w.st = 4
  · rw [if_pos (show f.st = 4 by omega)]
    unfold RF.take4
    cases b with
    | true =>
      rw [if_pos ⟨s4, rfl⟩, if_pos rfl]
      have e1 : f.rise 0 size = RF.ask 0 size { (f.turnEq.turn 0 : RF) with st := 5 } := by
        unfold RF.rise RF.askUp RF.ask
        rw [if_neg (show ¬ ({ (f.turnEq.turn 0 : RF) with st := 5 } : RF).st = 3 by show ¬ 5 = 3; decide)]
      rw [e1]
      refine at_ask (w := { w with row := fallRow w, st := 5 }) (f := { (f.turnEq.turn 0 : RF) with st := 5 }) ?_ (by show w.pl = f.turnEq.pl; rw [RF.turnEq_pl, h2]) rfl (.inr (.inr rfl)) (fun e => absurd rfl e)
      show fallRow w = RF.turned f.turnEq.row 0 f.turnEq.pl
      rw [RF.turnEq_pl]
      unfold fallRow RF.turnEq
      rw [h1, h2, h6 (by omega)]
      by_cases h0 : 0 < f.eq
      · rw [if_pos h0, if_pos h0]
        rfl
      · rw [if_neg h0, if_neg h0]
    | false =>
      rw [if_neg (by simp), if_pos s4, if_neg (by simp)]
      exact at_ask (w := { w with st := 3, eq := w.eq + 1, pl := w.pl + 1 }) (f := { f with eq := f.eq + 1, st := 3, pl := f.pl + 1 }) h1 (by show w.pl + 1 = f.pl + 1; omega) rfl (.inr (.inl rfl)) (fun _ => by show w.eq + 1 = f.eq + 1; rw [h6 (by omega)])
  rw [if_neg (fun e => s4 e.1), if_neg s4, if_neg (show ¬ f.st = 4 by omega)]
  unfold RF.take5
  cases b with
  | true =>
    rw [if_pos rfl, if_pos rfl]
    exact ⟨0, by omega, rfl, rfl, h2, h1⟩
  | false =>
    rw [if_neg (by simp), if_neg (by simp)]
    exact at_ask (w := { w with pl := w.pl + 1 }) (f := { f with pl := f.pl + 1 }) h1 (by show w.pl + 1 = f.pl + 1; omega) h3 (.inr (.inr (by show w.st = 5; omega))) h6
/-- what the walk keeps between its steps -/
structure Ok (w : WS) : Prop where
  p1 : 0 < w.pl
  pl : w.pl ≤ w.row.length
  eq : w.eq < w.pl
  rl : w.row.length ≤ 2000
theorem fallRow_len {w : WS} (o : Ok w) : (fallRow w).length = w.row.length := by
  have := o.pl; have := o.eq
  unfold fallRow
  by_cases h0 : 0 < w.eq
  · rw [if_pos h0]
    have l1 : (RF.turned w.row (w.pl - w.eq - 1) w.pl).length = w.row.length := RF.turned_len (by omega) o.pl
    rw [RF.turned_len (Nat.zero_le _) (by omega), l1]
  · rw [if_neg h0]
    exact RF.turned_len (Nat.zero_le _) o.pl
theorem Ok.past {w : WS} (o : Ok w) (size : Nat) : Ok (past size w) ∧ (WS.past size w).row.length = w.row.length := by
  obtain ⟨a, b, c, d⟩ := id o
  unfold WS.past
  split
  · have l := fallRow_len o
    exact ⟨⟨a, by show w.pl ≤ (fallRow w).length; omega, c, by show (fallRow w).length ≤ 2000; omega⟩, l⟩
  · exact ⟨⟨a, b, c, d⟩, rfl⟩
theorem Ok.ans {w : WS} (o : Ok w) (h : w.pl < w.row.length) (b : Bool) : Ok (w.ans b) ∧ (w.ans b).row.length = w.row.length := by
  obtain ⟨p1, p2, p3, p4⟩ := id o
  have lf := fallRow_len o
  have l0 : (RF.turned w.row 0 w.pl).length = w.row.length := RF.turned_len (Nat.zero_le _) p2
  have l1 : (if 0 < w.eq then RF.turned w.row (w.pl - w.eq - 1) w.pl else w.row).length = w.row.length := by
    split
    · exact RF.turned_len (by omega) p2
    · rfl
  unfold WS.ans
  split
  · refine ⟨⟨?_, ?_, ?_, p4⟩, rfl⟩
    · show 0 < w.pl + _
      omega
    · show w.pl + (if w.pl = 1 then 1 else 0) ≤ w.row.length
      split <;> omega
    · show w.eq < w.pl + _
      omega
  split
  · exact ⟨⟨p1, p2, p3, p4⟩, rfl⟩
  split
  · exact ⟨⟨by show 0 < w.pl + 1; omega, by show w.pl + 1 ≤ (RF.turned w.row 0 w.pl).length; omega, by show w.eq < w.pl + 1; omega, by show (RF.turned w.row 0 w.pl).length ≤ 2000; omega⟩, l0⟩
  split
  · exact ⟨⟨by show 0 < w.pl + 1; omega, by show w.pl + 1 ≤ (if 0 < w.eq then RF.turned w.row (w.pl - w.eq - 1) w.pl else w.row).length; omega, by show 0 < w.pl + 1; omega, by show (if 0 < w.eq then RF.turned w.row (w.pl - w.eq - 1) w.pl else w.row).length ≤ 2000; omega⟩, l1⟩
  split
  · exact ⟨⟨p1, p2, p3, p4⟩, rfl⟩
  split
  · exact ⟨⟨p1, by show w.pl ≤ (fallRow w).length; omega, p3, by show (fallRow w).length ≤ 2000; omega⟩, lf⟩
  split
  · exact ⟨⟨by show 0 < w.pl + 1; omega, by show w.pl + 1 ≤ w.row.length; omega, by show w.eq + 1 < w.pl + 1; omega, p4⟩, rfl⟩
  split
  · exact ⟨⟨p1, p2, p3, p4⟩, rfl⟩
  · exact ⟨⟨by show 0 < w.pl + 1; omega, by show w.pl + 1 ≤ w.row.length; omega, by show w.eq < w.pl + 1; omega, p4⟩, rfl⟩
end WS
namespace RF
/-- told the answers bs one after another -/
def fed (size : Nat) (bs : List Bool) : Nat → RF
  | 0 => RF.init (List.range size) 0 size
  | k + 1 => match (fed size bs k).wt with
    | none => fed size bs k
    | some _ => (fed size bs k).take 0 size (bs.getD k false)
theorem fed_next {size : Nat} {bs : List Bool} {k : Nat} {q : Nat × Nat} (h : (fed size bs k).wt = some q) : fed size bs (k + 1) = (fed size bs k).take 0 size (bs.getD k false) := by
  show (match (fed size bs k).wt with
    | none => fed size bs k
    | some _ => (fed size bs k).take 0 size (bs.getD k false)) = _
  rw [h]
theorem fed_end {size : Nat} {bs : List Bool} {k : Nat} (h : (fed size bs k).wt = none) : fed size bs (k + 1) = fed size bs k := by
  show (match (fed size bs k).wt with
    | none => fed size bs k
    | some _ => (fed size bs k).take 0 size (bs.getD k false)) = _
  rw [h]
theorem fed_stay {size : Nat} {bs : List Bool} {n : Nat} (h : (fed size bs n).wt = none) : ∀ k, fed size bs (n + k) = fed size bs n
  | 0 => rfl
  | k + 1 => by
    have ih := fed_stay h k
    show fed size bs ((n + k) + 1) = _
    rw [fed_end (by rw [ih]; exact h), ih]
theorem fed_good {size : Nat} (h1 : 0 < size) (h2 : size ≤ 2000) (bs : List Bool) : ∀ k, Good 0 size (List.range size) (fed size bs k)
  | 0 => Good.init h1 (by rw [List.length_range]; exact Nat.le_refl _) (by rw [List.length_range]; exact h2)
  | k + 1 => by
    have ih := fed_good h1 h2 bs k
    cases h : (fed size bs k).wt with
    | none => rw [fed_end h]; exact ih
    | some q => rw [fed_next h]; exact ih.take (by rw [h]; exact Option.some_ne_none _) _
def askB (size : Nat) (bs : List Bool) (n : Nat) : List (Nat × Nat) := (List.range n).map fun i => ((fed size bs i).wt).getD (0, 0)
theorem askB_len (size : Nat) (bs : List Bool) (n : Nat) : (askB size bs n).length = n := by
  unfold askB
  rw [List.length_map, List.length_range]
theorem askB_next {size : Nat} {bs : List Bool} {n : Nat} {q : Nat × Nat} (h : (fed size bs n).wt = some q) : askB size bs (n + 1) = askB size bs n ++ [q] := by
  unfold askB
  rw [List.range_succ, List.map_append, List.map_singleton, h]
  rfl
end RF
theorem QAt.ne {H : Hp} {l r : Addr} {qs : List (Nat × Nat)} {row : List Nat} (h : QAt H l qs) (hr : H r = some (.lst (nV row))) (n : row ≠ []) : r ≠ l := by
  intro e
  obtain ⟨ts, h1, h2, h3⟩ := h
  rw [← e, hr] at h1
  cases row with
  | nil => exact n rfl
  | cons x rest =>
    have e2 : ts = nV (x :: rest) := (HO.lst.inj (Option.some.inj h1)).symm
    cases qs with
    | nil => rw [e2] at h2; cases h2
    | cons q qs =>
      obtain ⟨t, e3, _⟩ := h3 0 (.int (x : Int)) q (by rw [e2]; rfl) rfl
      cases e3
end L2

namespace L2
open PySem PySem.Spec PyProof.Rows
namespace RF
/-! ### a run at s is a run at 0, moved by s -/
def shRow (s : Nat) (row : List Nat) : List Nat := List.range s ++ row.map (fun i => s + i)
def sh (s : Nat) (g : RF) : RF := { row := shRow s g.row, pl := s + g.pl, eq := g.eq, st := g.st, wt := g.wt.map (fun q => (s + q.1, s + q.2)), ln := g.ln }
variable {s size : Nat} {g : RF}
theorem shRow_len (s : Nat) (row : List Nat) : (shRow s row).length = s + row.length := by
  unfold shRow
  rw [List.length_append, List.length_range, List.length_map]
theorem shRow_range (s n : Nat) : shRow s (List.range n) = List.range (s + n) := by
  unfold shRow
  rw [List.range_add]
theorem turned_sh (s lo hi : Nat) (row : List Nat) : turned (shRow s row) (s + lo) (s + hi) = shRow s (turned row lo hi) := by
  unfold turned shRow
  have l : (List.range s).length = s := List.length_range
  have e1 : (List.range s ++ row.map (fun i => s + i)).take (s + lo) = List.range s ++ (row.take lo).map (fun i => s + i) := by
    rw [List.take_append, List.take_of_length_le (by omega), l, Nat.add_sub_cancel_left, List.map_take]
  have e2 : ∀ k, (List.range s ++ row.map (fun i => s + i)).drop (s + k) = (row.drop k).map (fun i => s + i) := fun k => by
    rw [List.drop_append, List.drop_of_length_le (by omega), l, Nat.add_sub_cancel_left, List.map_drop]
    rfl
  rw [e1, e2, e2, show s + hi - (s + lo) = hi - lo by omega]
  simp only [List.map_append, List.map_reverse, List.map_take, List.append_assoc]
theorem getD_sh {row : List Nat} {k : Nat} (h : k < row.length) : (shRow s row).getD (s + k) 0 = s + row.getD k 0 := by
  unfold shRow
  rw [List.getD_eq_getElem?_getD, List.getD_eq_getElem?_getD, List.getElem?_append_right (by rw [List.length_range]; omega), List.length_range, Nat.add_sub_cancel_left, List.getElem?_map, List.getElem?_eq_getElem h]
  rfl
theorem ext {f g : RF} (h1 : f.row = g.row) (h2 : f.pl = g.pl) (h3 : f.eq = g.eq) (h4 : f.st = g.st) (h5 : f.wt = g.wt) (h6 : f.ln = g.ln) : f = g := by
  cases f
  cases g
  cases h1
  cases h2
  cases h3
  cases h4
  cases h5
  cases h6
  rfl
theorem sh_turn (lo : Nat) : (sh s g).turn (s + lo) = sh s (g.turn lo) := ext (turned_sh s lo g.pl g.row) rfl rfl rfl rfl rfl
theorem sh_turnEq (w : WF 0 size g) : (sh s g).turnEq = sh s g.turnEq := by
  unfold RF.turnEq
  by_cases h : 0 < g.eq
  · have := w.eq
    rw [if_pos h, if_pos (show 0 < (sh s g).eq from h)]
    have e : (sh s g).pl - (sh s g).eq - 1 = s + (g.pl - g.eq - 1) := by show s + g.pl - g.eq - 1 = _; omega
    rw [e, sh_turn]
    rfl
  · rw [if_neg h, if_neg (show ¬ 0 < (sh s g).eq from h)]
theorem sh_fin : (sh s g).finish s = sh s (g.finish 0) := ext rfl rfl rfl rfl rfl (by show some (s + g.pl - s) = some (g.pl - 0); rw [Nat.add_sub_cancel_left]; rfl)
theorem sh_w {g' : RF} {k l : Nat} (h1 : k < g'.row.length) (h2 : l < g'.row.length) : ({ sh s g' with wt := some ((sh s g').row.getD (s + k) 0, (sh s g').row.getD (s + l) 0) } : RF) = sh s { g' with wt := some (g'.row.getD k 0, g'.row.getD l 0) } := by
  refine ext rfl rfl rfl rfl ?_ rfl
  show some ((shRow s g'.row).getD (s + k) 0, (shRow s g'.row).getD (s + l) 0) = some (s + g'.row.getD k 0, s + g'.row.getD l 0)
  rw [getD_sh h1, getD_sh h2]
theorem sh_up {g' : RF} (a : 0 < g'.pl) (c : size ≤ g'.row.length) : (sh s g').askUp s (s + size) = sh s (g'.askUp 0 size) := by
  unfold RF.askUp
  by_cases h : g'.pl < size
  · rw [if_pos h, if_pos (show (sh s g').pl < s + size by show s + g'.pl < s + size; omega)]
    have e : (sh s g').pl - 1 = s + (g'.pl - 1) := by show s + g'.pl - 1 = _; omega
    rw [e]
    exact sh_w (by omega) (by omega)
  · rw [if_neg h, if_neg (show ¬ (sh s g').pl < s + size by show ¬ s + g'.pl < s + size; omega)]
    exact sh_fin
theorem sh_rise (w : WF 0 size g) : (sh s g).rise s (s + size) = sh s (g.rise 0 size) := by
  unfold RF.rise
  have w2 := w.pre5
  have e : ({ ((sh s g).turnEq.turn s : RF) with st := 5 } : RF) = sh s { (g.turnEq.turn 0 : RF) with st := 5 } := by
    have e1 : (sh s g).turnEq.turn s = sh s (g.turnEq.turn 0) := by
      rw [sh_turnEq w]
      exact sh_turn 0
    rw [e1]
    rfl
  rw [e]
  exact sh_up (Nat.lt_of_le_of_lt (Nat.zero_le _) w2.sp) w2.er
theorem sh_ask (w : WF 0 size g) : (sh s g).ask s (s + size) = sh s (g.ask 0 size) := by
  have b1 := w.sp; have b2 := w.er
  unfold RF.ask
  by_cases h : g.pl < size
  · rw [if_pos h, if_pos (show (sh s g).pl < s + size by show s + g.pl < s + size; omega)]
    have e : (sh s g).pl - 1 = s + (g.pl - 1) := by show s + g.pl - 1 = _; omega
    rw [e]
    exact sh_w (by omega) (by omega)
  · rw [if_neg h, if_neg (show ¬ (sh s g).pl < s + size by show ¬ s + g.pl < s + size; omega)]
    by_cases h3 : g.st = 3
    · rw [if_pos h3, if_pos (show (sh s g).st = 3 from h3)]
      exact sh_rise w
    · rw [if_neg h3, if_neg (show ¬ (sh s g).st = 3 from h3)]
      exact sh_fin
theorem sh_goOn (w : WF 0 size { g with pl := g.pl + 1 }) : (sh s g).goOn s (s + size) = sh s (g.goOn 0 size) := by
  unfold RF.goOn
  rw [← sh_ask w]
  rfl
theorem sh_take (w : WF 0 size g) (h : g.pl < size) (b : Bool) : (sh s g).take s (s + size) b = sh s (g.take 0 size b) := by
  have b1 := w.sp; have b2 := w.er
  unfold RF.take
  show (if g.st = 1 then _ else if g.st = 2 then _ else if g.st = 3 then _ else if g.st = 4 then _ else _) = sh s (if g.st = 1 then _ else if g.st = 2 then _ else if g.st = 3 then _ else if g.st = 4 then _ else _)
  by_cases s1 : g.st = 1
  · rw [if_pos s1, if_pos s1]
    unfold RF.take1
    cases b with
    | false =>
      rw [if_pos rfl, if_pos rfl]
      exact sh_goOn (w.next h)
    | true =>
      rw [if_neg (show ¬ (true = false) by decide), if_neg (show ¬ (true = false) by decide)]
      by_cases hp : g.pl = 0 + 1
      · rw [if_pos hp, if_pos (show (sh s g).pl = s + 1 by show s + g.pl = s + 1; omega)]
        exact sh_goOn (g := { g with st := 3 }) ((w.st 3).next h)
      · rw [if_neg hp, if_neg (show ¬ (sh s g).pl = s + 1 by show ¬ s + g.pl = s + 1; omega)]
        have e : (sh s g).pl - 1 = s + (g.pl - 1) := by show s + g.pl - 1 = _; omega
        rw [e]
        exact sh_w (g' := { g with st := 2 }) (k := 0) (l := g.pl - 1) (by show 0 < g.row.length; omega) (by show g.pl - 1 < g.row.length; omega)
  rw [if_neg s1, if_neg s1]
  by_cases s2 : g.st = 2
  · rw [if_pos s2, if_pos s2]
    unfold RF.take2
    cases b with
    | true =>
      rw [if_pos rfl, if_pos rfl]
      exact sh_fin
    | false =>
      rw [if_neg (show ¬ (false = true) by decide), if_neg (show ¬ (false = true) by decide)]
      have e : (sh s g).turn s = sh s (g.turn 0) := sh_turn 0
      rw [e]
      exact sh_goOn (g := { (g.turn 0 : RF) with st := 3 }) (((w.turn (Nat.le_of_lt w.sp)).st 3).next h)
  rw [if_neg s2, if_neg s2]
  by_cases s3 : g.st = 3
  · rw [if_pos s3, if_pos s3]
    unfold RF.take3
    cases b with
    | true =>
      rw [if_pos rfl, if_pos rfl, sh_turnEq w]
      exact sh_goOn (w.turnEq.next (by rw [turnEq_pl]; exact h))
    | false =>
      rw [if_neg (show ¬ (false = true) by decide), if_neg (show ¬ (false = true) by decide)]
      have e : (sh s g).pl - 1 = s + (g.pl - 1) := by show s + g.pl - 1 = _; omega
      rw [e]
      exact sh_w (g' := { g with st := 4 }) (k := g.pl - 1) (l := g.pl) (by show g.pl - 1 < g.row.length; omega) (by show g.pl < g.row.length; omega)
  rw [if_neg s3, if_neg s3]
  by_cases s4 : g.st = 4
  · rw [if_pos s4, if_pos s4]
    unfold RF.take4
    cases b with
    | true =>
      rw [if_pos rfl, if_pos rfl]
      exact sh_rise w
    | false =>
      rw [if_neg (show ¬ (false = true) by decide), if_neg (show ¬ (false = true) by decide)]
      exact sh_goOn (g := { g with eq := g.eq + 1, st := 3 }) (w.eq1 h)
  rw [if_neg s4, if_neg s4]
  unfold RF.take5
  cases b with
  | true =>
    rw [if_pos rfl, if_pos rfl]
    exact sh_fin
  | false =>
    rw [if_neg (show ¬ (false = true) by decide), if_neg (show ¬ (false = true) by decide)]
    exact sh_goOn (w.next h)
theorem sh_init (h : 0 < size) (h2 : size ≤ 2000) : RF.init (List.range (s + size)) s (s + size) = sh s (RF.init (List.range size) 0 size) := by
  unfold RF.init
  have w : WF 0 size { row := List.range size, pl := 0 + 1, eq := 0, st := 1, wt := none, ln := none } := ⟨by show 0 < 0 + 1; omega, by show 0 + 1 ≤ size; omega, by show size ≤ (List.range size).length; rw [List.length_range]; exact Nat.le_refl _, by show 0 + 0 < 0 + 1; omega, by show (List.range size).length ≤ 2000; rw [List.length_range]; exact h2⟩
  rw [← sh_ask w]
  congr 1
  exact ext (shRow_range s size).symm rfl rfl rfl rfl rfl
/-! behind the place nothing has moved -/
def Tail (n : Nat) (f : RF) : Prop := ∀ k, f.pl ≤ k → f.row.drop k = (List.range n).drop k
theorem turned_tail {row : List Nat} {lo hi k : Nat} (h : lo ≤ hi) (h2 : hi ≤ row.length) (hk : hi ≤ k) : (turned row lo hi).drop k = row.drop k := by
  unfold turned
  have l : (row.take lo ++ ((row.drop lo).take (hi - lo)).reverse).length = hi := by
    rw [List.length_append, List.length_take, List.length_reverse, List.length_take, List.length_drop]
    omega
  rw [List.drop_append, List.drop_of_length_le (by omega), l, List.drop_drop, List.nil_append]
  congr 1
  omega
section
variable {n : Nat} {f : RF} {e : Nat}
theorem tail_turn {lo : Nat} (t : Tail n f) (h : lo ≤ f.pl) (h2 : f.pl ≤ f.row.length) : Tail n (f.turn lo) := fun k hk => (turned_tail h h2 hk).trans (t k hk)
theorem tail_turnEq (t : Tail n f) (h2 : f.pl ≤ f.row.length) : Tail n f.turnEq := by
  unfold RF.turnEq
  split
  · exact fun k hk => tail_turn t (by omega) h2 k hk
  · exact t
theorem tail_up (t : Tail n f) : Tail n (f.askUp s e) := by
  unfold RF.askUp
  split
  · exact t
  · exact t
theorem tail_rise (w : WF s e f) (t : Tail n f) : Tail n (f.rise s e) := by
  have w1 := w.turnEq
  have h2 : f.pl ≤ f.row.length := Nat.le_trans w.pe w.er
  have t1 : Tail n f.turnEq := tail_turnEq t h2
  exact tail_up (f := { (f.turnEq.turn s : RF) with st := 5 }) (tail_turn t1 (Nat.le_of_lt w1.sp) (Nat.le_trans w1.pe w1.er))
theorem tail_ask (w : WF s e f) (t : Tail n f) : Tail n (f.ask s e) := by
  unfold RF.ask
  split
  · exact t
  · split
    · exact tail_rise w t
    · exact t
theorem tail_next (t : Tail n f) : Tail n { f with pl := f.pl + 1 } := fun k hk => t k (Nat.le_of_succ_le hk)
theorem tail_take (w : WF s e f) (h : f.pl < e) (t : Tail n f) (b : Bool) : Tail n (f.take s e b) := by
  have h2 : f.pl ≤ f.row.length := Nat.le_trans w.pe w.er
  unfold RF.take
  split
  · unfold RF.take1
    split
    · exact tail_ask (w.next h) (tail_next t)
    · split
      · exact tail_ask ((w.st 3).next h) (tail_next t)
      · exact t
  · split
    · unfold RF.take2
      split
      · exact t
      · exact tail_ask (((w.turn (Nat.le_of_lt w.sp)).st 3).next h) (tail_next (tail_turn t (Nat.le_of_lt w.sp) h2))
    · split
      · unfold RF.take3
        split
        · exact tail_ask (w.turnEq.next (by rw [turnEq_pl]; exact h)) (tail_next (tail_turnEq t h2))
        · exact t
      · split
        · unfold RF.take4
          split
          · exact tail_rise w t
          · exact tail_ask (w.eq1 h) (tail_next t)
        · unfold RF.take5
          split
          · exact t
          · exact tail_ask (w.next h) (tail_next t)
end
theorem fed_tail {size : Nat} (h1 : 0 < size) (h2 : size ≤ 2000) (bs : List Bool) : ∀ k, Tail size (fed size bs k)
  | 0 => by
    have w : WF 0 size { row := List.range size, pl := 0 + 1, eq := 0, st := 1, wt := none, ln := none } := ⟨by show 0 < 0 + 1; omega, by show 0 + 1 ≤ size; omega, by show size ≤ (List.range size).length; rw [List.length_range]; exact Nat.le_refl _, by show 0 + 0 < 0 + 1; omega, by show (List.range size).length ≤ 2000; rw [List.length_range]; exact h2⟩
    exact tail_ask w (fun k _ => rfl)
  | k + 1 => by
    have ih := fed_tail h1 h2 bs k
    have g := fed_good h1 h2 bs k
    cases h : (fed size bs k).wt with
    | none => rw [fed_end h]; exact ih
    | some q => rw [fed_next h]; exact tail_take g.wf (g.ah (by rw [h]; exact Option.some_ne_none _)) ih _
theorem fed_congr {size : Nat} {bs cs : List Bool} : ∀ {k : Nat}, (∀ i, i < k → bs.getD i false = cs.getD i false) → fed size bs k = fed size cs k
  | 0, _ => rfl
  | k + 1, h => by
    have ih := fed_congr (size := size) (k := k) (fun i hi => h i (by omega))
    cases e : (fed size bs k).wt with
    | none => rw [fed_end e, fed_end (by rw [← ih]; exact e), ih]
    | some q => rw [fed_next e, fed_next (q := q) (by rw [← ih]; exact e), ih, h k (by omega)]
/-- the steps by the keys are the steps by their answers, moved -/
theorem stps_fed {ls : Nat × Nat → Bool} {s size N : Nat} (h1 : 0 < size) (h2 : size ≤ 2000) (hw : ∀ i, i < N → ((RF.init (List.range (s + size)) s (s + size)).stps ls s (s + size) i).wt ≠ none) :
    ∀ k, k ≤ N → (RF.init (List.range (s + size)) s (s + size)).stps ls s (s + size) k = sh s (fed size (((RF.init (List.range (s + size)) s (s + size)).asks ls s (s + size) N).map ls) k)
  | 0, _ => sh_init h1 h2
  | k + 1, hk => by
    have ih := stps_fed h1 h2 hw k (by omega)
    cases e : ((RF.init (List.range (s + size)) s (s + size)).stps ls s (s + size) k).wt with
    | none => exact absurd e (hw k (by omega))
    | some q =>
      rw [stps_next e]
      rw [ih] at e
      have e0 : ∃ q0, (fed size (((RF.init (List.range (s + size)) s (s + size)).asks ls s (s + size) N).map ls) k).wt = some q0 := by
        cases e1 : (fed size (((RF.init (List.range (s + size)) s (s + size)).asks ls s (s + size) N).map ls) k).wt with
        | none =>
          exfalso
          have e2 : (sh s (fed size (((RF.init (List.range (s + size)) s (s + size)).asks ls s (s + size) N).map ls) k)).wt = none := by
            show Option.map _ _ = none
            rw [e1]
            rfl
          rw [e2] at e
          cases e
        | some q0 => exact ⟨q0, rfl⟩
      obtain ⟨q0, e0⟩ := e0
      have g := fed_good h1 h2 (((RF.init (List.range (s + size)) s (s + size)).asks ls s (s + size) N).map ls) k
      rw [fed_next e0, ih, ← sh_take g.wf (g.ah (by rw [e0]; exact Option.some_ne_none _))]
      congr 1
      rw [List.getD_eq_getElem?_getD, List.getElem?_map, asks_at (by omega), ih, e]
      rfl
theorem range_drop (k n : Nat) (h : k ≤ n) : (List.range n).drop k = (List.range (n - k)).map (fun i => k + i) := by
  have e : List.range n = List.range k ++ (List.range (n - k)).map (fun i => k + i) := by
    rw [← List.range_add]
    congr 1
    omega
  rw [e, List.drop_append, List.drop_of_length_le (by rw [List.length_range]; exact Nat.le_refl _), List.length_range, Nat.sub_self]
  rfl
/-- the whole row, told by what lies ahead, the run and the rest -/
theorem row_split {s size : Nat} {g : RF} (w : WF 0 size g) (t : Tail size g) : (sh s g).row = List.range s ++ ((sh s g).row.drop s).take g.pl ++ (List.range (size - g.pl)).map (fun i => s + g.pl + i) := by
  have l : (List.range s).length = s := List.length_range
  have e1 : (sh s g).row.drop s = g.row.map (fun i => s + i) := by
    show (List.range s ++ g.row.map (fun i => s + i)).drop s = _
    rw [List.drop_append, List.drop_of_length_le (by omega), l, Nat.sub_self]
    rfl
  rw [e1, List.append_assoc]
  show List.range s ++ g.row.map (fun i => s + i) = _
  congr 1
  have e2 : g.row = g.row.take g.pl ++ (List.range (size - g.pl)).map (fun i => g.pl + i) := by
    rw [← range_drop _ _ w.pe, ← t _ (Nat.le_refl _), List.take_append_drop]
  rw [← List.map_take]
  conv => lhs; rw [e2]
  rw [List.map_append, List.map_map]
  congr 1
  exact List.map_congr_left fun i _ => by show s + (g.pl + i) = s + g.pl + i; omega
end RF
end L2

namespace L2
open PySem PySem.Spec PyProof.Rows
/-! ### for over a list or a tuple -/
section
variable {X : Cx} {tg : Expr} {pins : List (Addr × Obj)} {σ : L2.St} {H : Hp} {s : Shared} {a : Addr} {xs : List V} {R : It → Hp → Prop}
theorem lone_fresh (I : Inv X pins σ H s) : ∀ b ∈ [s.heap.objs.size], FpOk X pins H b := fun b hb => by
  rw [List.mem_singleton.mp hb]
  exact I.fpOk (Nat.le_refl _) (I.hok.fresh (Nat.le_refl _))
theorem walk_list (I : Inv X pins σ H s) (h : SqL X.K H a xs) (q : R (Itl X.K a) H) : wpAny (model X.prog X.w) X.A (pyIter (.ref a)) (PIE X pins σ tg R) X.xe s := by
  obtain ⟨items, _, isl, _⟩ := I.list h
  exact wpAny_pyIter_list isl.isList ⟨_, [_], _, _, H, rfl, I.kept (t' := s.toks) (fun _ _ e => Heap.get?_push_of_some _ e), turn_list a _, ⟨_, Heap.get?_push_size _ rfl, rfl, rfl⟩, lone_fresh I, q⟩
theorem walk_tup (I : Inv X pins σ H s) (h : SqT X.K H a xs) (q : R (Itt X.K a) H) : wpAny (model X.prog X.w) X.A (pyIter (.ref a)) (PIE X pins σ tg R) X.xe s := by
  obtain ⟨items, _, ist, _⟩ := I.tuple h
  have ist' : s.heap.IsTuple a items.toArray := ist
  exact wpAny_pyIter_tuple ist' ⟨_, [_], _, _, H, rfl, I.kept (t' := s.toks) (fun _ _ e => Heap.get?_push_of_some _ e), turn_tuple a _, ⟨_, Heap.get?_push_size _ rfl, rfl, rfl⟩, lone_fresh I, q⟩
def iLT (K : PySem.W.Frag) (tl : TE) : TI := fun σ H R => tl σ H fun x H1 => ∃ (a : Addr) (xs : List V), x = .ref a ∧ ((SqL K H1 a xs ∧ R (Itl K a) H1) ∨ (SqT K H1 a xs ∧ R (Itt K a) H1))
theorem pi_lt {l : Expr} {tl : TE} (hl : PE X l tl) : PI X tg l (iLT X.K tl) :=
  ⟨fun pins s σ H R I h => thn (hl.run pins s σ H _ I h) fun v s1 ⟨x, H1, I1, r1, a, xs, e, q⟩ => by
    subst e
    cases r1
    rcases q with ⟨hs, q⟩ | ⟨hs, q⟩
    · exact walk_list I1 hs q
    · exact walk_tup I1 hs q⟩
end
/-- for over the entries, whichever of the two it is -/
theorem for_lt {K : PySem.W.Frag} {a : Addr} {xs : List V} {g : TG} {tb : TS} {D : Ends} {σ : L2.St} {H : Hp} (Pv : Nat → L2.St → Hp → Prop) (h0 : Pv 0 σ H) (h : (∀ i σ' H', Pv i σ' H' → SqL K H' a xs) ∨ (∀ i σ' H', Pv i σ' H' → SqT K H' a xs))
    (hs : ∀ i x σ H, xs[i]? = some x → Pv i σ H → g x σ H fun σ2 H2 => tb { D with nx := Pv (i + 1), ct := Pv (i + 1), bk := D.nx } σ2 H2) (hd : ∀ σ H, Pv xs.length σ H → D.nx σ H) :
    (SqL K H a xs ∧ ∃ W : Nat → Nat → L2.St → Hp → Prop, (∃ m, W 0 m σ H) ∧ ∀ i m σ H, W i m σ H →
      ((Itl K a).stop i H ∧ D.nx σ H) ∨ ((Itl K a).go i H ∧ ∃ N : L2.St → Hp → Prop, (∀ σ' H', N σ' H' → ∃ m', m' < m ∧ W (i + 1) m' σ' H') ∧ ∀ x H', (Itl K a).yld i H x H' → g x σ H' fun σ2 H2 => tb { D with nx := N, ct := N, bk := D.nx } σ2 H2)) ∨
    (SqT K H a xs ∧ ∃ W : Nat → Nat → L2.St → Hp → Prop, (∃ m, W 0 m σ H) ∧ ∀ i m σ H, W i m σ H →
      ((Itt K a).stop i H ∧ D.nx σ H) ∨ ((Itt K a).go i H ∧ ∃ N : L2.St → Hp → Prop, (∀ σ' H', N σ' H' → ∃ m', m' < m ∧ W (i + 1) m' σ' H') ∧ ∀ x H', (Itt K a).yld i H x H' → g x σ H' fun σ2 H2 => tb { D with nx := N, ct := N, bk := D.nx } σ2 H2)) := by
  rcases h with h | h
  · exact .inl ⟨h _ _ _ h0, for_list Pv h0 (fun i σ' H' _ p => h i σ' H' p) hs hd⟩
  · exact .inr ⟨h _ _ _ h0, for_tup Pv h0 (fun i σ' H' _ p => h i σ' H' p) hs hd⟩
theorem rg_nat (n : Nat) : rgV 0 (n : Int) = nV (List.range n) := by
  unfold rgV
  rw [show ((n : Int) - 0).toNat = n by omega]
  exact List.map_congr_left fun i _ => congrArg V.int (by omega)
theorem rgOk_nat {n : Nat} (h : n ≤ 2000) : RgOk 0 (n : Int) := ⟨by omega, by omega, by omega, by omega, by omega⟩
end L2

namespace L2
open PySem PySem.Spec PyProof.Rows
/-! ### Base.__init__(self, ..) where Base is a class of the program that has no own one -/
section
variable {X : Cx} {e : Expr} {es : List Expr} {ta : TA} {x : Str} {B : Addr} {p1 p2 pos : Pos}
theorem pe_baseinit {pl : Sem Bool} (hg : Gl X x) (hm : X.mg x = some (.ref B)) (rd1 : PySem.W.readsIn X.K B (.type "type") = true) (rd2 : PySem.W.specialIn X.K (.ref B) "__getattribute__" = some (some (.builtin "type.__getattribute__"))) (vV : PySem.W.findCls X.K (.ref B) (.type "type") "__init__" = some (.val (.builtin "ValueError.__init__"))) (ha : PA X (e :: es) ta)
    (hc : eval (.Call (.Attribute (.Name x p1) "__init__" p2) (e :: es) [] pos) X.env = (do
      let base ← eval (.Name x p1) X.env
      standAt p2.atName
      let (f, first) ← holding [base] (getMethod base "__init__" pl)
      callWith pos f first (backTo pos (starEach (e :: es) X.env)) (backToKw pos (keywordEach [] X.env))) := by rfl)
    (hdb : (x == ("__debug__" : Str)) = false := by decide) (he : starEach (e :: es) X.env = (false, eval e X.env) :: starEach es X.env := by rfl) (hpl : (backTo pos (starEach es X.env)).any (·.1) = false := by rfl) :
    PE X (.Call (.Attribute (.Name x p1) "__init__" p2) (e :: es) [] pos) (tVeI X.K ta) := by
  refine ⟨fun pins s σ H Q I h => PySem.W.methodCall_KW (ld_glob I hg hm ?_ hdb) hc⟩
  refine PySem.W.method_cls I.kIn rd2 (PySem.W.cls_value I.kIn rd1 vV (by decide +kernel) ?_)
  show wpAny _ _ (callWith pos (Value.builtin "ValueError.__init__") [] (backTo pos (starEach (e :: es) X.env)) []) _ _ _
  refine PyProof.Rows.callWith_method1 (thn (ha.run pos pins _ σ H _ (I.tok _) h) fun us s1 ⟨vs, H1, I1, rel, a, C, ws, ev, hl, T, ea, q⟩ => ?_) he hpl
  subst ev
  cases rel with
  | @cons _ w0 _ wr r0 rs =>
    have ew : w0 = Value.ref a := r0
    subst ew
    have short : wr.length ≤ sizeLine := by
      have := Paired.length rs
      rw [sizeLine_eq]
      omega
    exact oinit_ok T I1 ea short fun s' J => ⟨.non, H1, J, rfl, q⟩
end
/-! ### what the text says of an error's class, and of the class above -/
structure ExC (K : PySem.W.Frag) (mg : Str → Option Value) (C fI : Addr) (x f : Str) : Prop where
  g : mg x = some (.ref C)
  ox : OexC K C
  ii : PySem.W.findIn K (.ref C) "__init__" = some (some (.ref fI))
  ti : PySem.W.typeIn K (.ref fI) = some (.type "function")
  no : PySem.W.findIn K (.ref C) f = some none
  xf : XfC K C
  te : PySem.W.exmOne K (.ref C) (.ref C) = some true
structure ExB (K : PySem.W.Frag) (mg : Str → Option Value) (B : Addr) (x : Str) : Prop where
  g : mg x = some (.ref B)
  r1 : PySem.W.readsIn K B (.type "type") = true
  r2 : PySem.W.specialIn K (.ref B) "__getattribute__" = some (some (.builtin "type.__getattribute__"))
  vi : PySem.W.findCls K (.ref B) (.type "type") "__init__" = some (.val (.builtin "ValueError.__init__"))
theorem exm_own {K : PySem.W.Frag} {S : Addr} (h1 : PySem.W.subIn K (.ref S) (.type "BaseException") = some true) (h2 : PySem.W.isClsIn K S = true) (h3 : PySem.W.typeIn K (.ref S) = some (.type "type")) (h4 : PySem.W.subIn K (.ref S) (.ref S) = some true) :
    PySem.W.exmOne K (.ref S) (.ref S) = some true := by
  have h2' : (PySem.W.clsIn K S).isSome = true := h2
  unfold PySem.W.exmOne
  simp [PySem.W.kitCls, h1, h2', h3, h4]
theorem exC_mk {K : PySem.W.Frag} {h : Heap} {mg : Str → Option Value} {C B fI : Addr} {x f : Str} (X : K.In h) (G : h.Ns mainGlobals mg)
    {nm q : Str} {N : Addr} {bs : List Value} {sn : List Str} {sub : List Value} {ab : Bool} {col : Option Bool} {dd : Option Addr} {m0 m1 m2 m3 m5 : Option Value}
    (aC : PySem.W.nsIn K mainGlobals x = some (some (.ref C)))
    (xL : K.lookup C = some (excClassObj nm q C N bs [.ref B, .type "ValueError", .type "Exception", .type "BaseException", .type "object"] true sn sub ab col dd m0 m1 m2 m3 m5 "ValueError.__new__"))
    (sa : PySem.W.findIn K (.ref C) "__setattr__" = some (some (.builtin "object.__setattr__"))) (ga : PySem.W.findIn K (.ref C) "__getattribute__" = some (some (.builtin "BaseException.__getattribute__"))) (gg : PySem.W.findIn K (.ref C) "__getattr__" = some none)
    (nb : PySem.W.findIn K (.ref C) f = some none) (ii : PySem.W.findIn K (.ref C) "__init__" = some (some (.ref fI))) (ti : PySem.W.typeIn K (.ref fI) = some (.type "function")) (kC : PySem.W.keepIn K (.ref C) = true)
    (eC : PySem.W.subIn K (.ref C) (.type "BaseException") = some true) (tC : PySem.W.typeIn K (.ref C) = some (.type "type")) (hC : PySem.W.hasDictIn K C = true) (iC : PySem.W.isClsIn K C = true) (sC : PySem.W.subIn K (.ref C) (.ref C) = some true) :
    ExC K mg C fI x f :=
  ⟨PySem.W.mg_of X G aC, ⟨⟨_, _, _, _, _, _, _, _, _, _, _, _, _, _, _, xL, rfl⟩, sa, eC, tC, kC⟩, ii, ti, nb, ⟨ga, gg, eC, hC⟩, exm_own eC iC tC sC⟩
/-- what __init__ of such an error does: the value is kept under f -/
def spErr (C : Addr) (f : Str) : Sp := fun vs H Q _ => ∃ (e : Addr) (v : V), vs = [.ref e, v] ∧ H e = some (exo e C none) ∧ ∀ dx, H dx = none → dx ≠ e → Q .non (upd (upd H dx (exd dx [(f, v)])) e (exo e C (some dx)))
end L2

namespace L2
open PySem PySem.Spec PyProof.Rows
/-! ### several except clauses, with a name or without -/
/-- behind a clause with a name the slot is empty -/
def endsAs (D : Ends) : Option Nat → Ends
  | none => D
  | some i => { nx := fun σ' H' => D.nx (σ'.set i none) H', rt := D.rt, bk := fun σ' H' => D.bk (σ'.set i none) H', ct := fun σ' H' => D.ct (σ'.set i none) H' }
def slotAs (σ : L2.St) (a : Addr) : Option Nat → L2.St
  | none => σ
  | some i => σ.set i (some (.ref a))
/-- what a row of clauses wishes of an exception -/
def wRow (K : PySem.W.Frag) (Wo : WX) (D : Ends) : List (Value × Option Nat × (Addr → Value → Option Addr → TS)) → WX
  | [] => Wo
  | (c, i, ts) :: r => fun cls d σ H => ∃ y, PySem.W.exmOne K cls c = some y ∧ (y = true → ∀ a, H a = none → ts a cls d (endsAs D i) (slotAs σ a i) H) ∧ (y = false → wRow K Wo D r cls d σ H)
inductive Clauses (X : Cx) : List ExceptHandler → List (Value × Option Nat × (Addr → Value → Option Addr → TS)) → Prop
  | nil : Clauses X [] []
  | plain {x : Str} {c : Value} {ts : Addr → Value → Option Addr → TS} {z : Stmt} {zs : List Stmt} {p q : Pos} {hs : List ExceptHandler} {l : List (Value × Option Nat × (Addr → Value → Option Addr → TS))} (hc : Names X x c)
      (su : ∀ (a : Addr) (oe : Obj) (cls : Value) (d : Option Addr) (pn : List (Addr × Obj)), Zc cls d oe → (∃ vs, oe.data = .fields vs) → PSs (X.suite a ((a, oe) :: pn)) (z :: zs) (ts a cls d)) (r : Clauses X hs l) :
      Clauses X (.ExceptHandler (some (.Name x p)) none (z :: zs) q :: hs) ((c, none, ts) :: l)
  | named {x n : Str} {i : Nat} {c : Value} {ts : Addr → Value → Option Addr → TS} {z : Stmt} {zs : List Stmt} {p q : Pos} {hs : List ExceptHandler} {l : List (Value × Option Nat × (Addr → Value → Option Addr → TS))} (hN : X.N.Nodup) (hi : X.N[i]? = some n) (hk : X.env.kindOf n = some .local) (hc : Names X x c)
      (su : ∀ (a : Addr) (oe : Obj) (cls : Value) (d : Option Addr) (pn : List (Addr × Obj)), Zc cls d oe → (∃ vs, oe.data = .fields vs) → PSs (X.suite a ((a, oe) :: pn)) (z :: zs) (ts a cls d)) (r : Clauses X hs l) :
      Clauses X (.ExceptHandler (some (.Name x p)) (some n) (z :: zs) q :: hs) ((c, some i, ts) :: l)
section
variable {X : Cx} {body : List Stmt} {h0 : ExceptHandler} {hds : List ExceptHandler} {l : List (Value × Option Nat × (Addr → Value → Option Addr → TS))} {pos : Pos} {tb : WX → TS} {Wo : WX}
theorem ps_try_row (hst : X.stack = X.env :: X.outer) (hfm : X.env.frame = some X.env.locals) (tk : Takes X Wo)
    (hb : ∀ (W : WX) (pn : List (Addr × Obj)) (xe : Value → Shared → Prop), Takes (X.tr pn xe) W → PassesOwn (model X.prog X.w) X.A X.env xe → PSs (X.tr pn xe) body (tb W))
    (hh : Clauses X (h0 :: hds) l) : PS X (.Try body (h0 :: hds) [] [] pos) (fun D σ H => tb (wRow X.K Wo D l) D σ H) := by
  constructor
  intro pins s σ H D I h
  have hok := I.ok
  have hfrm : X.A.frames = some (X.env :: X.outer) := by rw [hok.frames, hst]
  refine wpAny_Try_except ?_
  have run := (hb (wRow X.K Wo D l) (X.pn ++ pins) (fun e t1 => wpAny (model X.prog X.w) X.A (noteFrame e X.env) (fun _ t2 => wpAny (model X.prog X.w) X.A (setFlight e none)
    (fun _ t3 => wpAny (model X.prog X.w) X.A (handleBy e X.env (h0 :: hds)) (SP X pins D) X.xe t3) X.xe t2) X.xe t1) (fun u s' xx => ?_) PassesOwn.looking).run [] s σ H D (I.toTry _) h
  · refine wpAny_mono run (fun f s1 hsp => ?_) (fun e s1 he => he)
    cases f with
    | ret u => obtain ⟨v, σ1, H1, J, r, q⟩ := hsp; exact ⟨v, σ1, H1, J.ofTry hok, r, q⟩
    | next => obtain ⟨σ1, H1, J, q⟩ := hsp; exact wpAny_execs_nil ⟨σ1, H1, J.ofTry hok, q⟩
    | cont => obtain ⟨σ1, H1, J, q⟩ := hsp; exact ⟨σ1, H1, J.ofTry hok, q⟩
    | brk => obtain ⟨σ1, H1, J, q⟩ := hsp; exact ⟨σ1, H1, J.ofTry hok, q⟩
  -- an exception has come out
  obtain ⟨a, B, sI, pins1, σ1, H1, cls, d, rfl, J0, nb, up, sky, na, os, ag, wi⟩ := xx
  have J : Inv X pins σ1 H1 sI := J0.ofTry hok
  have sky1 : Sky B (X.env :: X.outer) a (Zc cls d) X.env.locals s'.heap := by rw [← hst]; exact sky
  show wpAny (model X.prog X.w) X.A (noteFrame (.ref a) X.env) _ _ _
  refine Sky.land Zc.steady hfrm hfm sky1 fun h3 fl3 up3 => ?_
  have J3 : Inv X pins σ1 H1 { s' with heap := h3 } := J.landed nb fl3.1 (up.trans up3) os ag
  obtain ⟨oe3, vs3, he3, hz3, hd3⟩ := fl3.there
  have far : a ∉ frs (X.env :: X.outer) := fun hm => by
    obtain ⟨_, o1, e1, hnf⟩ := fl3.2.2.1.mem hm
    rw [he3] at e1
    cases e1
    exact hnf _ hd3
  have nL : a ≠ X.env.locals := fun z => far (List.mem_filterMap.mpr ⟨X.env, List.mem_cons_self, by rw [hfm, z]⟩)
  have nF : a ∉ X.fs := fun hm => by
    obtain ⟨e, he, q⟩ := List.mem_filterMap.mp hm
    exact far (List.mem_filterMap.mpr ⟨e, List.mem_cons_of_mem _ he, q⟩)
  have S3 := J3.suite he3 hd3 na nL nF
  have LT : PySem.W.Looks (model X.prog X.w) h3 (typeOf (.ref a)) cls := fun A Q E s k q => wpAny_typeOf_ref (k _ _ he3) (by rw [hz3.1]; exact q)
  have look : ∀ {x : Str} {c : Value} {p : Pos}, Names X x c → ∀ {Q E : Value → Shared → Prop}, Q c { s' with heap := h3 } → wpAny (model X.prog X.w) (X.A.mark (some (.ref a))) (eval (.Name x p) X.env) Q E { s' with heap := h3 } := by
    intro x c p hc Q E q
    obtain ⟨hg, hdbg, hm | ⟨hm, hv, hnn⟩⟩ := hc
    · exact ld_glob (X := X.suite a ((a, oe3) :: (X.pn ++ pins))) S3 hg hm q hdbg
    · exact ld_blt (X := X.suite a ((a, oe3) :: (X.pn ++ pins))) S3 hg hm hv q hnn hdbg
  have go : ∀ {hs1 : List ExceptHandler} {l1 : List (Value × Option Nat × (Addr → Value → Option Addr → TS))}, Clauses X hs1 l1 → wRow X.K Wo D l1 cls d σ1 H1 →
      wpAny (model X.prog X.w) X.A (handleBy (.ref a) X.env hs1) (SP X pins D) X.xe { s' with heap := h3 } := by
    intro hs1 l1 hk
    induction hk with
    | nil =>
      intro wi
      refine wpAny_handleBy_nil ?_
      obtain ⟨_, _, _, oe, vs, T, oT, ts1, he, hz, hd, h1, hr⟩ := id fl3
      unfold PySem.passOn
      refine wpAny_bind (wpAny_field he hd h1 ?_)
      rw [if_neg (show ¬ ((Value.ref T == Value.none) = true) from by simp)]
      have out : wpAny (model X.prog X.w) X.A (setFlight (.ref a) X.env.frame) (fun _ t4 => wpAny (model X.prog X.w) X.A (throw (.ref a) : Sem Flow) (SP X pins D) X.xe t4) X.xe { s' with heap := h3 } := by
        rw [hfm]
        exact HandSPX.setFlight_upZ fl3 fun h4 hh4 up4 => wpAny_throw (tk _ _ ⟨a, B, sI, pins, σ1, H1, cls, d, rfl, J, nb, (up.trans up3).trans up4, .inr (.inr (by rw [hst]; exact hh4)), na, os, ag, wi⟩)
      first
        | exact wpAny_bind (wpAny_pure (wpAny_bind out))
        | exact wpAny_bind out
    | plain hc su r ih =>
      rintro ⟨y, hy, yes, no⟩
      refine wpAny_handleBy_cons (codeAny_handlers_test ?_) (by intro q; cases q)
      refine look hc ((PySem.W.exm_one (M := model X.prog X.w) J3.kIn LT hy).here ?_)
      cases y with
      | false => exact ih (no rfl)
      | true =>
        refine codeAny_handlers_suite (HandSPX.lands_againZ fl3 fun h4 fl4 up4 => ?_)
        obtain ⟨oe4, vs4, he4, hz4, hd4⟩ := fl4.there
        have J4 : Inv X pins σ1 H1 { s' with heap := h4 } := J.landed nb fl4.1 ((up.trans up3).trans up4) os ag
        refine wpAny_mono ((su a oe4 cls d (X.pn ++ pins) hz4 ⟨_, hd4⟩).run [] _ _ H1 _ (J4.suite he4 hd4 na nL nF) (yes rfl a na)) (fun f s6 hsp => ?_) (fun _ _ z => False.elim z)
        cases f with
        | ret u => obtain ⟨v6, σ6, H6, S6, r6, q6⟩ := hsp; exact ⟨_, _, _, S6.unsuite hok, r6, q6⟩
        | next => obtain ⟨σ6, H6, S6, q6⟩ := hsp; exact ⟨_, _, S6.unsuite hok, q6⟩
        | cont => obtain ⟨σ6, H6, S6, q6⟩ := hsp; exact ⟨_, _, S6.unsuite hok, q6⟩
        | brk => obtain ⟨σ6, H6, S6, q6⟩ := hsp; exact ⟨_, _, S6.unsuite hok, q6⟩
    | @named x n i c ts z zs p q hs2 l2 hN hi hkk hc su r ih =>
      rintro ⟨y, hy, yes, no⟩
      refine wpAny_handleBy_cons (codeAny_handlers_test ?_) (by intro q; cases q)
      refine look hc ((PySem.W.exm_one (M := model X.prog X.w) J3.kIn LT hy).here ?_)
      cases y with
      | false => exact ih (no rfl)
      | true =>
        refine codeAny_handlers_suite_as (HandSPX.lands_againZ fl3 fun h4 fl4 up4 => ?_)
        obtain ⟨oe4, vs4, he4, hz4, hd4⟩ := fl4.there
        have J4 : Inv X pins σ1 H1 { s' with heap := h4 } := J.landed nb fl4.1 ((up.trans up3).trans up4) os ag
        refine store_ok (X := X.suite a ((a, oe4) :: (X.pn ++ pins))) (v := .ref a) (J4.suite he4 hd4 na nL nF) hN hi (.inl hkk) rfl (fun s5 S5 => ?_) (.inr hkk)
        refine wpAny_mono ((su a oe4 cls d (X.pn ++ pins) hz4 ⟨_, hd4⟩).run [] s5 _ H1 _ S5 (yes rfl a na)) (fun f s6 hsp => ?_) (fun _ _ z => False.elim z)
        have fin : ∀ {σ6 : L2.St} {H6 : Hp} {Q : Shared → Prop}, Inv (X.suite a ((a, oe4) :: (X.pn ++ pins))) [] σ6 H6 s6 → (∀ s7, Inv X pins (σ6.set i none) H6 s7 → Q s7) →
            wpAny (model X.prog X.w) X.A (do bindName X.env n .none; unbindBehindTheSuite X.env n q) (fun _ s7 => Q s7) X.xe s6 := fun S6 hq => gone_ok (S6.unsuite hok) hN hi hkk hq
        cases f with
        | ret u => obtain ⟨v6, σ6, H6, S6, r6, q6⟩ := hsp; exact fin S6 fun s7 J7 => ⟨_, _, _, J7, r6, q6⟩
        | next => obtain ⟨σ6, H6, S6, q6⟩ := hsp; exact fin S6 fun s7 J7 => ⟨_, _, J7, q6⟩
        | cont => obtain ⟨σ6, H6, S6, q6⟩ := hsp; exact fin S6 fun s7 J7 => ⟨_, _, J7, q6⟩
        | brk => obtain ⟨σ6, H6, S6, q6⟩ := hsp; exact fin S6 fun s7 J7 => ⟨_, _, J7, q6⟩
  exact go hh wi
end
end L2

/-! lambdas without a parameter, or with one that has a default of 0, as values that are kept -/
namespace L2
open PySem PySem.Spec PyProof.Rows PySem.W LamX
/-- what a lambda's object says -/
structure LamD where
  q : Str
  params : Arguments
  body : Expr
  scope : Scope
  cl : List (Str × Addr)
def FunO (f : Addr) (L : LamD) (dV : Value) (c' : Addr) : HO := .ext fun h => ∃ doc pm ctv, h.get? f = some (kdv_obj "<lambda>" L.q L.params (.expr L.body) L.scope L.cl dV doc pm c' ctv)
theorem funO_ne {f c' : Addr} {L : LamD} {dV : Value} (ps : Array Value) : FunO f L dV c' ≠ .tbl ps := fun z => by
  unfold FunO at z
  cases z
/-- at f stands a lambda -/
def LamAt (H : Hp) (f : Addr) (L : LamD) : Prop := ∃ c' dV, H f = some (FunO f L dV c') ∧ H c' = some (CodeO c' L.q) ∧ ((L.params.defaults = [] ∧ dV = .none) ∨ (L.params.defaults ≠ [] ∧ ∃ t0, dV = .ref t0 ∧ H t0 = some (.tup [.int 0])))
theorem LamAt.ext {H H' : Hp} {f : Addr} {L : LamD} (e : ExtN H H') (h : LamAt H f L) : LamAt H' f L := by
  obtain ⟨c', dV, h1, h2, h3⟩ := h
  refine ⟨c', dV, e _ _ h1 funO_ne, e _ _ h2 codeO_ne, h3.imp id fun ⟨n, t0, h4, h5⟩ => ⟨n, t0, h4, e _ _ h5 fun ps z => by cases z⟩⟩
theorem LamAt.same {H H' : Hp} {f : Addr} {L : LamD} (e : Same H H') (h : LamAt H f L) : LamAt H' f L := h.ext (.of e)
section
variable {X : Cx} {pins : List (Addr × Obj)} {σ : L2.St} {H : Hp} {s : Shared}
/-- the lambda is made: its code object is new, or found in the table -/
theorem tail_makeO {T : List (Addr × Str)} {c P : Addr} {q : Str} {params : Arguments} {body : Expr} {scope : Scope} {pos : Pos} {dV : Value} {clos : List (Str × Addr)} {E : Value → Shared → Prop} {Q : Value → Shared → Prop} (I : Inv X pins σ H s) (TB : TabB X.base X.mg c P) (hcode : X.env.code = .ref c)
    (hm : (P, q) ∈ T) (hu : ∀ p ∈ T, p.1 = P → p.2 = q) (hT : Tabs T H) (hcl : closureFor scope X.env = pure clos)
    (h : ∀ (f c' : Addr) (H1 : Hp) (s' : Shared), Inv X pins σ H1 s' → ExtN H H1 → Tabs T H1 → s.heap.objs.size ≤ f → H1 f = some (FunO f ⟨q, params, body, scope, clos⟩ dV c') → H1 c' = some (CodeO c' q) → Q (.ref f) s') :
    wpAny (model X.prog X.w) X.A (makeTail "<lambda>" q params (.expr body) scope X.env dV .none none pos pos.line) Q E s := by
  obtain ⟨ps, hP, ht, ha⟩ := hT _ hm
  have bP : s.heap.BuiltinsAt X.mg P := TB.bm.keeps I.bk
  have hP' : s.heap.get? P = some { cls := .none, data := .fields ps } := I.hok P _ hP
  cases hc : codeAmong pos ps.toList with
  | none =>
    refine kdv_makeTail (mg := X.mg) (c := c) (P := P) (ps := ps) hcl I.ok.glob (I.mod.glob.keeps I.bk) hcode (TB.code.keeps I.bk) hP' ht hc TB.gP bP fun c' ctv doc h' tk hx hge hlt hrec htb => ?_
    obtain ⟨c2, oc, vs, t, e2, hoc, hd, hv⟩ := hrec
    cases e2
    have hsz : s.heap.objs.size ≤ h'.objs.size := Nat.le_trans hge (Nat.le_of_lt hlt)
    have nC : H c' = none := I.hok.fresh hge
    have I1 := inv_table (t' := tk) (more := #[rawInt pos.line, rawInt pos.col, .ref c']) (h' := h') I hP hx htb hge ⟨oc, vs, t, hoc, hd, hv⟩
    generalize hH1 : upd (upd H P (.tbl (ps ++ #[rawInt pos.line, rawInt pos.col, .ref c']))) c' (CodeO c' q) = H1 at I1
    have hE : ExtN H H1 := fun b o e n => by
      rw [← hH1, upd_ne (ne_of_none e nC), upd_ne (fun z => n ps (Option.some.inj (e.symm.trans (by rw [z]; exact hP))))]
      exact e
    have hc1 : H1 c' = some (CodeO c' q) := by rw [← hH1, upd_same]
    have fF : H1 h'.objs.size = none := I1.hok.fresh (Nat.le_refl _)
    have I2 := I1.laid (t' := tk) (h' := h'.push (kdv_obj "<lambda>" q params (.expr body) scope clos dV doc ((X.mg "__name__").getD .none) c' ctv)) (a := h'.objs.size) (o := FunO h'.objs.size ⟨q, params, body, scope, clos⟩ dV c') (fun b o e => Heap.get?_push_of_some _ e) (Nat.le_refl _)
      ⟨⟨_, _, _, Heap.get?_push_size _ rfl⟩, ⟨_, Heap.get?_push_size _ rfl⟩, fun h1 h2 ⟨doc, pm, ctv, e⟩ st => ⟨doc, pm, ctv, st _ e⟩⟩
    have s12 : ∀ b o, H1 b = some o → upd H1 h'.objs.size (FunO h'.objs.size ⟨q, params, body, scope, clos⟩ dV c') b = some o := fun b o e => by rw [upd_ne (ne_of_none e fF)]; exact e
    have eL : (ps ++ #[rawInt pos.line, rawInt pos.col, .ref c']).toList = ps.toList ++ [rawInt pos.line, rawInt pos.col, .ref c'] := by simp
    refine h h'.objs.size c' _ _ I2 (hE.trans (.of s12)) (fun p hp => TabS.ext ?_ s12) hsz upd_same (s12 _ _ hc1)
    by_cases hb : p.1 = P
    · rw [hu p hp hb, hb]
      refine ⟨_, by rw [← hH1, upd_ne (ne_of_none hP nC), upd_same], by rw [eL]; exact PySem.TriplesOk_snoc _ _ _ _ ht, fun p' cv hcv => ?_⟩
      rw [eL] at hcv
      rcases among_app _ ht hcv with z | z
      · obtain ⟨c0, e1, e2⟩ := ha p' cv z
        exact ⟨c0, e1, hE _ _ e2 codeO_ne⟩
      · exact ⟨c', z, hc1⟩
    · obtain ⟨ps', a1, a2, a3⟩ := hT p hp
      refine ⟨ps', by rw [← hH1, upd_ne (ne_of_none a1 nC), upd_ne hb]; exact a1, a2, fun p' cv hcv => ?_⟩
      obtain ⟨c0, e1, e2⟩ := a3 p' cv hcv
      exact ⟨c0, e1, hE _ _ e2 codeO_ne⟩
  | some cv =>
    obtain ⟨c', e, hco⟩ := ha pos cv hc
    subst e
    refine kdv_makeTailHit (mg := X.mg) (c := c) (P := P) (ps := ps) hcl I.ok.glob (I.mod.glob.keeps I.bk) hcode (TB.code.keeps I.bk) hP' ht hc bP fun ctv doc h' tk hx hsz => ?_
    have fF : H h'.objs.size = none := I.hok.fresh hsz
    have I2 := I.laid (t' := tk) (h' := h'.push (kdv_obj "<lambda>" q params (.expr body) scope clos dV doc ((X.mg "__name__").getD .none) c' ctv)) (a := h'.objs.size) (o := FunO h'.objs.size ⟨q, params, body, scope, clos⟩ dV c') (fun b o e => Heap.get?_push_of_some _ (hx b o e)) hsz
      ⟨⟨_, _, _, Heap.get?_push_size _ rfl⟩, ⟨_, Heap.get?_push_size _ rfl⟩, fun h1 h2 ⟨doc, pm, ctv, e⟩ st => ⟨doc, pm, ctv, st _ e⟩⟩
    have s12 : ∀ b o, H b = some o → upd H h'.objs.size (FunO h'.objs.size ⟨q, params, body, scope, clos⟩ dV c') b = some o := fun b o e => by rw [upd_ne (ne_of_none e fF)]; exact e
    exact h h'.objs.size c' _ _ I2 (.of s12) (hT.ext s12) hsz upd_same (s12 _ _ hco)
end
/-- the lambda that X's text writes there -/
def lamD (X : Cx) (params : Arguments) (body : Expr) (scope : Scope) : LamD := ⟨X.env.qual ++ "<lambda>", params, body, scope, cloFrom X.env.cells scope.names []⟩
/-- the reading of a lambda: a new object that is kept -/
def tLamO (T : List (Addr × Str)) (L : LamD) : TE := fun σ H Q => Tabs T H ∧ ∀ (H1 : Hp) (f : Addr), ExtN H H1 → Tabs T H1 → H f = none → LamAt H1 f L → Q (.ref f) H1
section
variable {X : Cx}
/-- lambda: body; lambda x=0: body -/
theorem pe_lamO {T : List (Addr × Str)} {c P : Addr} {params : Arguments} {body : Expr} {scope : Scope} {pos : Pos} (TB : TabB X.base X.mg c P) (hcode : X.env.code = .ref c) (hmT : (P, X.env.qual ++ "<lambda>") ∈ T) (hu : ∀ p ∈ T, p.1 = P → p.2 = X.env.qual ++ "<lambda>")
    (hfree : ∀ y ∈ scope.names, y.2 = .free → X.env.scope.names.lookup y.1 = some .cell ∨ X.env.scope.names.lookup y.1 = some .free)
    (hk0 : params.kw_defaults = []) (hdef : params.defaults = [] ∨ ∃ j pc, params.defaults = [.Constant (.int 0) j pc]) : PE X (.Lambda params body scope pos) (tLamO T (lamD X params body scope)) := by
  refine ⟨fun pins s σ H Q I h => ?_⟩
  obtain ⟨hT, h⟩ := h
  have hfC : ∀ y ∈ scope.names, y.2 = .free → ∃ c, X.env.cells.lookup y.1 = some c := fun y hy e => (hfree y hy e).elim (fun z => I.ok.has _ (.inl z)) fun z => I.ok.has _ (.inr z)
  rcases hdef with hd | ⟨j, pc, hd⟩
  · refine kla_eval (by rw [defaultsOf_eq, hk0, hd]; rfl) ?_
    rw [makeFunction_eq]
    simp only [List.zip_nil_right, List.filterMap_nil, List.isEmpty_nil, if_true, pure_bind]
    refine tail_makeO I TB hcode hmT hu hT (closure_ok hfC) fun f c' H1 s' I1 e1 T1 hf h1 h2 => ?_
    exact ⟨.ref f, H1, I1, rfl, h H1 f e1 T1 (I.hok.fresh hf) ⟨c', .none, h1, h2, .inl ⟨hd, rfl⟩⟩⟩
  · refine kdv_lam (by rw [hd]; rfl) hk0 ?_
    rw [hd]
    refine kdv_all1 (thn (pe_int.run pins s σ H (fun v H1 => v = .int 0 ∧ H1 = H) I ⟨rfl, rfl⟩) fun u s1 ⟨v, H1, I1, r1, q1⟩ => kdv_all0 ?_)
    obtain ⟨rfl, rfl⟩ := q1
    rw [makeFunction_eq]
    simp only [List.zip_nil_right, List.filterMap_nil, List.isEmpty_nil, if_true, pure_bind, List.isEmpty_cons, Bool.false_eq_true, if_false]
    refine wpAny_bind (wpAny_newTextTuple ?_)
    have nT : H1 s1.heap.objs.size = none := I1.hok.fresh (Nat.le_refl _)
    have I2 := I1.laid (t' := s1.toks) (h' := s1.heap.push { cls := .type "tuple", data := .seq [u].toArray }) (a := s1.heap.objs.size) (o := .tup [.int 0]) (fun b o e => Heap.get?_push_of_some _ e) (Nat.le_refl _) ⟨by decide, [u], .cons r1 .nil, _, Heap.get?_push_size _ rfl, rfl, _, rfl⟩
    have s12 : ∀ b o, H1 b = some o → upd H1 s1.heap.objs.size (.tup [.int 0]) b = some o := fun b o e => by rw [upd_ne (ne_of_none e nT)]; exact e
    refine tail_makeO I2 TB hcode hmT hu (hT.ext s12) (closure_ok hfC) fun f c' H3 s' I3 e3 T3 hf h1 h2 => ?_
    refine ⟨.ref f, H3, I3, rfl, h H3 f ((ExtN.of s12).trans e3) T3 (I1.hok.fresh ?_) ⟨c', _, h1, h2, .inr ⟨by show params.defaults ≠ []; rw [hd]; exact List.cons_ne_nil _ _, _, rfl, e3 _ _ upd_same fun ps z => by cases z⟩⟩⟩
    exact Nat.le_trans (by rw [Heap.size_push]; omega) hf
end
/-- a lambda of X's text that is called without arguments: what its body does -/
inductive LamGood (X : Cx) (k : Nat) (params : Arguments) (body : Expr) (scope : Scope) : (XK → TE) → Prop
  | plain {t : XK → TE} (L : LamS X.env.scope scope) (hdef : params.defaults = [])
      (hbind : ∀ (q : Str) (cl : List (Str × Addr)) (doc pm cv ctv : Value), bindArgs (kdv_fn "<lambda>" q params (.expr body) scope cl .none doc pm cv ctv) ⟨[], []⟩ = pure [])
      (hbody : ∀ (A : Around) (outer : List Env) (s : Shared) (H : Hp) (E : XK) (f c' : Addr), Room k (A.deeper (lamEnv X scope s.heap.objs.size f c')) → PE (lamCx X A outer s H E scope f c') body (t E)) : LamGood X k params body scope t
  | dflt {x : Str} {t : XK → TE} (L : LamS1 X.env.scope scope x) (hxN : x ∉ X.N) (hdef : params.defaults ≠ [])
      (hbind : ∀ (q : Str) (cl : List (Str × Addr)) (t0 : Addr) (doc pm cv ctv : Value), ∃ k, bindArgs (kdv_fn "<lambda>" q params (.expr body) scope cl (.ref t0) doc pm cv ctv) ⟨[], []⟩ = seqItems? (.ref t0) >>= k ∧ ∀ v : Value, k (some #[v]) = pure [(x, v)])
      (hbody : ∀ (A : Around) (outer : List Env) (s : Shared) (H : Hp) (E : XK) (f c' : Addr), Room k (A.deeper (lamEnv X scope s.heap.objs.size f c')) → PE (lamCx1 X A outer s H E scope x f c') body (t E)) : LamGood X k params body scope (fun E σ H Q => t E (σ ++ [some (.int 0)]) H Q)
section
variable {X : Cx} {pins : List (Addr × Obj)} {σ : L2.St} {H : Hp} {s : Shared}
/-- x(), in a def that got the lambda: I is the maker's, who waits since s -/
theorem pe_actO {CXg : CXT} {Eg : XK} {Ng : List Str} {qg : Str} {sg : Scope} {g f : Addr} {cdg : Value} {params : Arguments} {body : Expr} {scope : Scope} {k i : Nat} {a : Str} {pn : List (Addr × Obj)} {xe : Value → Shared → Prop} {W : WX} {t : XK → TE} {p1 p2 : Pos}
    (I : Inv X pins σ H s) (LG : LamGood X k params body scope t)
    (tk : Takes ((cxOf CXg X.prog X.w X.K X.mg X.base Ng qg sg g cdg X.A X.stack s H Eg).tr pn xe) W) (hr : Room (k + 1) (X.A.deeper (envOfC qg sg s.heap.objs.size g cdg)))
    (hN : Ng[i]? = some a) (hv : Vis sg a) (hd : (a == ("__debug__" : Str)) = false := by decide) (hcd : (a == ("__classdict__" : Str)) = false := by decide) :
    PE ((cxOf CXg X.prog X.w X.K X.mg X.base Ng qg sg g cdg X.A X.stack s H Eg).tr pn xe) (.Call (.Name a p1) [] [] p2)
      (fun σZ HZ Q => σZ[i]? = some (some (.ref f)) ∧ LamAt HZ f (lamD X params body scope) ∧ ∃ E : XK, (∀ cls d H', E cls d H' → W cls d σZ H') ∧ t E σ HZ Q) := by
  refine ⟨fun pinsZ sZ σZ HZ Q IZ h => ?_⟩
  obtain ⟨hs, ⟨c', dV, hf, hc, hdv⟩, E, hW, ht⟩ := h
  refine wpAny_Call_Name_kw (thn ((pe_var (pos := p1) (i := i) hN hv hd hcd).run pinsZ sZ σZ HZ (fun v H1 => v = .ref f ∧ H1 = HZ) IZ ⟨.ref f, hs, rfl, rfl⟩) fun u s1 ⟨v, H1, I1, r1, q1⟩ => ?_)
  obtain ⟨ev, eH⟩ := q1
  subst ev
  rw [eH] at I1
  obtain rfl : u = Value.ref f := r1
  obtain ⟨⟨doc, pm, ctv, of1⟩, _, _⟩ := I1.hok f _ hf
  obtain ⟨⟨oc, vs, tt, hoc, hdc, hvc⟩, _, _⟩ := I1.hok c' _ hc
  refine PySem.W.callWith_F0 ⟨_, _, _, _, of1⟩ ?_
  have un : Un (frs X.stack) [] H HZ s.heap s1.heap := I1.base
  suffices rc : codeAny (model X.prog X.w) (X.A.deeper (envOfC qg sg s.heap.objs.size g cdg)) (.call (.ref f) ⟨[], []⟩) (CR (L2.CX X.prog X.w) (envOfC qg sg s.heap.objs.size g cdg :: X.stack) X.prog X.w HZ s1 Q E) s1 by
    refine wpAny_call (codeAny_mono rc fun r s' hq => ?_)
    cases r with
    | error e => exact tk e s' (XE.of_call I1 (fun cls d H' h => hW cls d H' h) hq)
    | ok fl =>
      cases fl with
      | ret u => exact I1.after hq
      | next => exact False.elim hq
      | brk => exact False.elim hq
      | cont => exact False.elim hq
  cases LG with
  | plain L hdef hbind hbody =>
    obtain ⟨_, rfl⟩ | ⟨nd, _⟩ := hdv
    · refine PySem.W.kla_callFunE hr.depth of1 rfl L.co L.gen rfl ⟨c', oc, vs, tt, rfl, hoc, hdc, hvc⟩ (BindsTo.of_eq (binds := []) (hbind _ _ _ _ _ _) _ _ _ _ ?_)
      refine wpAny_newFunctionEnv (fun y hy => (L.own y hy).2) (fun y hy => absurd hy (by simp)) (fun h₁ hns hsb => ⟨I1.nolimit.fresh _ hsb, ?_⟩) L.kind
      show codeAny _ _ (.expr body (lamEnv X scope s1.heap.objs.size f c')) _ _
      have kp : ∀ b o, s1.heap.get? b = some o → h₁.get? b = some o := fun b o e => hsb.extBut b o (Nat.ne_of_lt (Heap.lt_size e)) (Heap.get?_push_of_some _ e)
      have J : Inv (lamCx X (X.A.deeper (envOfC qg sg s.heap.objs.size g cdg)) (envOfC qg sg s.heap.objs.size g cdg :: X.stack) s1 HZ E scope f c') [] σ HZ { s1 with heap := h₁, toks := s1.toks + ([] : List (Str × Value)).length } :=
        lam_start2 I L I1.env0 hr.hd un hns kp
      refine PySem.W.kla_codeExpr (wpAny_mono ((hbody _ _ s1 HZ E _ _ (hr.deeper _)).run [] _ _ HZ Q J ht) (fun v s' hq => ?_) fun e s' hq => hq)
      obtain ⟨w', H', J', rv, q⟩ := hq
      exact ⟨w', H', J'.os, J'.bare, J'.base, J'.hok, rv, q⟩
    · exact absurd hdef nd
  | @dflt x t' L hxN hdef hbind hbody =>
    obtain ⟨nd, _⟩ | ⟨_, t0, rfl, h0⟩ := hdv
    · exact absurd nd hdef
    · obtain ⟨_, its, rv0, o0, g1, g2, n0, g3⟩ := (show ObjOk X.prog X.w HZ s1.heap t0 (.tup [.int 0]) from I1.hok t0 _ h0)
      obtain ⟨v, rfl, rv⟩ : ∃ v, its = [v] ∧ L2.RelV (.int 0) v := by
        cases rv0 with
        | cons r1 r2 => cases r2; exact ⟨_, rfl, r1⟩
      obtain ⟨kk, hb1, hb2⟩ := hbind (X.env.qual ++ "<lambda>") (cloFrom X.env.cells scope.names []) t0 doc pm (.ref c') ctv
      refine PySem.W.kla_callFunE hr.depth of1 rfl L.co L.gen rfl ⟨c', oc, vs, tt, rfl, hoc, hdc, hvc⟩ (BindsTo.of_defaults (binds := [(x, v)]) rfl g1 g3 hb1 (hb2 v) _ _ _ _ ?_)
      refine wpAny_newFunctionEnv (fun y hy => L.own y hy) (fun y hy => by rw [List.mem_singleton.mp hy]; exact L.hx) (fun h₁ hns hsb => ⟨I1.nolimit.fresh _ hsb, ?_⟩) L.kind
      show codeAny _ _ (.expr body (lamEnv X scope s1.heap.objs.size f c')) _ _
      have kp : ∀ b o, s1.heap.get? b = some o → h₁.get? b = some o := fun b o e => hsb.extBut b o (Nat.ne_of_lt (Heap.lt_size e)) (Heap.get?_push_of_some _ e)
      have J : Inv (lamCx1 X (X.A.deeper (envOfC qg sg s.heap.objs.size g cdg)) (envOfC qg sg s.heap.objs.size g cdg :: X.stack) s1 HZ E scope x f c') [] (σ ++ [some (.int 0)]) HZ { s1 with heap := h₁, toks := s1.toks + ([(x, v)] : List (Str × Value)).length } :=
        lam_start1 I L hxN rv I1.env0 hr.hd un hns kp
      refine PySem.W.kla_codeExpr (wpAny_mono ((hbody _ _ s1 HZ E _ _ (hr.deeper _)).run [] _ _ HZ Q J ht) (fun v s' hq => ?_) fun e s' hq => hq)
      obtain ⟨w', H', J', rv, q⟩ := hq
      exact ⟨w', H', J'.os, J'.bare, J'.base, J'.hok, rv, q⟩
end
/-- a def of one parameter that calls it -/
def GivesTo1 (P : Program) (w : World) (K : PySem.W.Frag) (mg : Str → Option Value) (base : Heap) (k : Nat) (Ng : List Str) (x : Str) (sg : Scope) (g : Addr) (bg : List Stmt) (a : Str) (TT : (XK → Hp → VK → Prop) → Hp → VK → Prop) : Prop :=
  ∀ (cdg : Value) (A : Around) (outer : List Env) (f : Addr) (L : LamD) (s : Shared) (H : Hp) (Q : VK) (tl : XK → Hp → VK → Prop), Room k (A.deeper (envOfC x sg s.heap.objs.size g cdg)) →
    (∀ (W : WX) (pn : List (Addr × Obj)) (xe : Value → Shared → Prop) (p1 p2 : Pos), Takes ((cxOf C8.CX0 P w K mg base Ng x sg g cdg A outer s H C8.E0).tr pn xe) W →
      PE ((cxOf C8.CX0 P w K mg base Ng x sg g cdg A outer s H C8.E0).tr pn xe) (.Call (.Name a p1) [] [] p2) (fun σZ HZ Q => σZ[0]? = some (some (.ref f)) ∧ LamAt HZ f L ∧ ∃ E : XK, (∀ cls d H', E cls d H' → W cls d σZ H') ∧ tl E HZ Q)) →
    LamAt H f L → TT tl H Q →
    ∃ t, PSs (cxOf C8.CX0 P w K mg base Ng x sg g cdg A outer s H C8.E0).nox bg t ∧ t { nx := fun _ H' => Q .non H', rt := Q } (L2.start Ng [.ref f]) H
section
variable {X : Cx}
/-- the call of such a def with a lambda that is kept: told of the very state -/
theorem run_lamO {pins : List (Addr × Obj)} {σ : L2.St} {H : Hp} {s : Shared} {Q : VK} {TT : (XK → Hp → VK → Prop) → Hp → VK → Prop} {x a : Str} {st : Stmt} {g f : Addr} {k : Nat} {fd : FuncData} {Ng : List Str} {params : Arguments} {body : Expr} {scope : Scope} {t : XK → TE}
    (F : Fun X.K x x st g fd) (hb : L2.Binds X.K fd [a] []) (Sg : FnScope Ng [a] (defScope st)) (hNg : Ng[0]? = some a) (hva : Vis (defScope st) a) (hG : GivesTo1 X.prog X.w X.K X.mg X.base (k + 1) Ng x (defScope st) g (defBody st) a TT)
    (LG : LamGood X k params body scope t) (hr : Room (k + 2) X.A) (I : Inv X pins σ H s) (hL : LamAt H f (lamD X params body scope)) (h : TT (fun E H' Q' => t E σ H' Q') H Q)
    (hd : (a == ("__debug__" : Str)) = false := by decide) (hcd : (a == ("__classdict__" : Str)) = false := by decide) :
    codeAny (model X.prog X.w) X.A (.call (.ref g) ⟨[.ref f], []⟩) (CR C8.CX0 X.stack X.prog X.w H s Q C8.E0) s := by
  obtain ⟨oc, od, kV, doc, pm, an, cdv, ct, osl, rfl, lk, hcg⟩ := F.ex
  refine run_ofS (N := Ng) (ps := [a]) (us := [.ref f]) (vs := [.ref f]) lk hcg Sg hr I.env0 (hb s [.ref f] I.kIn rfl) (.cons rfl .nil) rfl fun hr' => ?_
  refine Exists.elim (hG cdv X.A X.stack f _ s H Q (fun E H' Q' => t E σ H' Q') hr' (fun W pn xe p1 p2 tk => ⟨fun pinsZ sZ σZ HZ QZ IZ hz => ?_⟩) hL h) fun t' h' => ⟨t', h'.1.nox, h'.2⟩
  obtain ⟨z1, z2, E, hW, z3⟩ := hz
  exact (pe_actO (i := 0) I LG tk hr' hNg hva hd hcd).run pinsZ sZ σZ HZ QZ IZ ⟨z1, z2, E, hW, z3⟩
/-- x(lambda: body) -/
def tLamG (T : List (Addr × Str)) (TT : (XK → Hp → VK → Prop) → Hp → VK → Prop) (t : XK → TE) : TE := fun σ H Q => Tabs T H ∧ ∀ H1, ExtN H H1 → Tabs T H1 → TT (fun E H' Q' => t E σ H' Q') H1 Q
theorem pe_lamcallG {T : List (Addr × Str)} {TT : (XK → Hp → VK → Prop) → Hp → VK → Prop} {x a : Str} {st : Stmt} {g c P : Addr} {k : Nat} {fd : FuncData} {Ng : List Str} {params : Arguments} {body : Expr} {scope : Scope} {t : XK → TE} {p lpos pos : Pos}
    (F : Fun X.K x x st g fd) (hg : Gl X x) (hm : X.mg x = some (.ref g)) (hk : PySem.W.keepIn X.K (.ref g) = true) (hb : L2.Binds X.K fd [a] []) (Sg : FnScope Ng [a] (defScope st)) (hNg : Ng[0]? = some a) (hva : Vis (defScope st) a)
    (hG : GivesTo1 X.prog X.w X.K X.mg X.base (k + 1) Ng x (defScope st) g (defBody st) a TT)
    (TB : TabB X.base X.mg c P) (hcode : X.env.code = .ref c) (hmT : (P, X.env.qual ++ "<lambda>") ∈ T) (hu : ∀ p ∈ T, p.1 = P → p.2 = X.env.qual ++ "<lambda>") (hr : Room (k + 2) X.A)
    (hfree : ∀ y ∈ scope.names, y.2 = .free → X.env.scope.names.lookup y.1 = some .cell ∨ X.env.scope.names.lookup y.1 = some .free) (hk0 : params.kw_defaults = []) (hdef : params.defaults = [] ∨ ∃ j pc, params.defaults = [.Constant (.int 0) j pc]) (LG : LamGood X k params body scope t)
    (hdb : (x == ("__debug__" : Str)) = false := by decide) (hd : (a == ("__debug__" : Str)) = false := by decide) (hcd : (a == ("__classdict__" : Str)) = false := by decide) :
    PE X (.Call (.Name x p) [.Lambda params body scope lpos] [] pos) (tLamG T TT t) := by
  refine ⟨fun pins s σ H Q I h => ?_⟩
  obtain ⟨hT, h⟩ := h
  refine wpAny_Call_Name_kw (ld_glob I hg hm ?_ hdb)
  refine PySem.W.callWith_K (h₀ := X.base) I.ok.mod.kin hk ?_ (by rfl) (by rfl)
  show wpAny _ _ (spliced ((false, eval (.Lambda params body scope lpos) X.env) :: backTo pos (starEach [] X.env))) _ _ s
  refine Calls.spliced_cons (thn ((pe_lamO (pos := lpos) TB hcode hmT hu hfree hk0 hdef).run pins s σ H (fun v H1 => ∃ f, v = .ref f ∧ ExtN H H1 ∧ Tabs T H1 ∧ LamAt H1 f (lamD X params body scope)) I ⟨hT, fun H1 f e1 T1 _ hL => ⟨f, rfl, e1, T1, hL⟩⟩) fun u s1 ⟨v, H1, I1, r1, f, ev, e1, T1, hL⟩ => ?_)
  subst ev
  obtain rfl : u = Value.ref f := r1
  refine Calls.spliced_nil ⟨I1.kIn, ?_⟩
  refine wpAny_call (codeAny_mono (run_lamO F hb Sg hNg hva hG LG hr I1 hL (h H1 e1 T1) hd hcd) fun r s2 hq => ?_)
  cases r with
  | error e => exact (show False from hq).elim
  | ok fl =>
    cases fl with
    | ret u => exact I1.after hq
    | next => exact False.elim hq
    | brk => exact False.elim hq
    | cont => exact False.elim hq
end
/-- what a callee lets out goes on -/
theorem passY {X : Cx} {E : XK} (hs : X.stack = X.env :: X.outer) (hf : X.env.frame = some X.env.locals) (hex : X.ex = []) {E₁ : Value → Shared → Prop} (hx : X.xe = fun e s' => wpAny (model X.prog X.w) X.A (leaving X.env e) (fun _ s'' => L2.CX X.prog X.w X.outer X.H_0 X.s_0 E e s'') E₁ s') : Passes (L2.CX X.prog X.w) X E :=
  passes_call (takes_of hs hf hex hx) fun _ _ _ _ h => h
/-- isinstance(e, c), e a caught error with a dict of its own -/
def rIsX (K : PySem.W.Frag) (cls : Value) (d : Option Addr) (a : Addr) : List V → Hp → VK → Prop := fun xs H Q => ∃ (D dx : Addr) (fs : List (Str × V)) (c : V) (cv : Value) (b : Bool), cls = .ref D ∧ ExcC K D ∧ d = some dx ∧ H dx = some (.xd fs) ∧ xs = [.ref a, c] ∧ ClsV c cv ∧ PySem.W.kitOne K (.ref D) cv = some b ∧ Q (.bl b) H
theorem call_isX {X : Cx} {a : Addr} {cls : Value} {d : Option Addr} {oe : Obj} {pn : List (Addr × Obj)} (hz : Zc cls d oe) (hf : ∃ vs, oe.data = .fields vs) : CallR (X.suite a ((a, oe) :: pn)) (.builtin "isinstance") (rIsX X.K cls d a) := by
  intro pins s σ H xs us Q I r h
  obtain ⟨D, dx, fs, c, cv, b, rfl, C, rfl, hdx, rfl, hcv, e, q⟩ := h
  cases r with
  | cons rx rr =>
    cases rr with
    | cons rt rr =>
      cases rr
      cases rx
      have ec := hcv.eq rt
      subst ec
      obtain ⟨hget, _⟩ := I.pin (a, oe) (List.mem_append.mpr (.inl List.mem_cons_self))
      obtain ⟨vs, hv⟩ := hf
      obtain ⟨mA, ⟨od, es, ep, ho, _⟩, _⟩ := (show ObjOk X.prog X.w H s.heap dx (.xd fs) from I.hok dx _ hdx)
      have J : PySem.W.InstAt s.heap a oe D (some od) := by
        obtain ⟨oc, ood, oda, osl⟩ := oe
        obtain ⟨h1, h2⟩ := hz
        dsimp only at h1 h2 hv
        subst h1 h2 hv
        exact ⟨hget, rfl, rfl, ho⟩
      have hcl : (PySem.W.clsIn X.K D).isSome = true := by
        obtain ⟨cd, hc, _⟩ := any_some C.hd
        rw [hc]
        rfl
      exact PySem.W.kia_one (PySem.W.kitx_exc hcl C.hg C.hk C.hs C.ha C.hn C.ht C.hm) I.kIn J e (fun z => nomatch z) fun tk => ⟨.bl b, H, I.kept (t' := tk) fun _ _ z => z, rfl, q⟩
end L2

namespace L2
open PySem PySem.Spec PyProof.Rows
/-! ### a def that has defaults -/
structure FunV (K : PySem.W.Frag) (x qual : Str) (st : Stmt) (f : Addr) (fd : FuncData) : Prop where
  ex : ∃ (oc : Value) (od : Option Addr) (dV kV doc pm : Value) (an : Option Addr) (cdv ct : Value) (osl : Array (Option Value)),
    fd = PySem.W.fnOf x qual (defArgs st) (defBody st) (defScope st) dV kV doc pm an cdv ct ∧ K.lookup f = some ⟨oc, od, .func fd, osl⟩ ∧ PySem.W.codeIn K cdv qual = true
section
variable {P : Program} {w : World} {K : PySem.W.Frag} {mg : Str → Option Value} {base : Heap}
theorem FunV.ok {x qual : Str} {st : Stmt} {f : Addr} {fd : FuncData} {N ps : List Str} {k : Nat} {sp : Sp} (F : FunV K x qual st f fd) (S : FnScope N ps (defScope st)) (len : ∀ vs H Q E, sp vs H Q E → vs.length = ps.length)
    (hbody : ∀ (cdv : Value) (A : Around) (outer : List Env) (s : Shared) (H : Hp) (vs : List V) (Q : VK) (E : XK), Room k (A.deeper (envOfC qual (defScope st) s.heap.objs.size f cdv)) → sp vs H Q E →
      ∃ t, PSs (cxOf CX0 P w K mg base N qual (defScope st) f cdv A outer s H E).nox (defBody st) t ∧ t { nx := fun _ H' => Q .non H', rt := Q } (start N vs) H) : FnOk P w K mg base CX0 (k + 1) f fd ps sp := by
  obtain ⟨oc, od, dV, kV, doc, pm, an, cdv, ct, osl, rfl, lk, hcd⟩ := F.ex
  refine fn_of lk hcd S len fun A outer s H vs Q E hr hsp => ?_
  obtain ⟨t, h, q⟩ := hbody cdv A outer s H vs Q E hr hsp
  exact ⟨t, h.nox, q⟩
theorem FunV.okX {x qual : Str} {st : Stmt} {f : Addr} {fd : FuncData} {N ps : List Str} {k : Nat} {sp : Sp} (F : FunV K x qual st f fd) (S : FnScope N ps (defScope st)) (len : ∀ vs H Q E, sp vs H Q E → vs.length = ps.length)
    (hbody : ∀ (cdv : Value) (A : Around) (outer : List Env) (s : Shared) (H : Hp) (vs : List V) (Q : VK) (E : XK), Room k (A.deeper (envOfC qual (defScope st) s.heap.objs.size f cdv)) → sp vs H Q E →
      ∃ t, PSs (cxOf (L2.CX P w) P w K mg base N qual (defScope st) f cdv A outer s H E) (defBody st) t ∧ t { nx := fun _ H' => Q .non H', rt := Q } (start N vs) H) : FnOk P w K mg base (L2.CX P w) (k + 1) f fd ps sp := by
  obtain ⟨oc, od, dV, kV, doc, pm, an, cdv, ct, osl, rfl, lk, hcd⟩ := F.ex
  exact fn_of lk hcd S len fun A outer s H vs Q E hr hsp => hbody cdv A outer s H vs Q E hr hsp
theorem funV_mk {x qual : Str} {st : Stmt} {f : Addr} {oc : Value} {od an : Option Addr} {osl : Array (Option Value)} {dV kV doc pm cdv ct : Value} (l : K.lookup f = some ⟨oc, od, .func (PySem.W.fnOf x qual (defArgs st) (defBody st) (defScope st) dV kV doc pm an cdv ct), osl⟩)
    (c : PySem.W.codeIn K cdv qual = true) : FunV K x qual st f (PySem.W.fnOf x qual (defArgs st) (defBody st) (defScope st) dV kV doc pm an cdv ct) := ⟨oc, od, dV, kV, doc, pm, an, cdv, ct, osl, rfl, l, c⟩
/-- how the arguments bind where the last defaults fill up: dvs the defaults, j of them are written -/
theorem bindsV {x qual : Str} {st : Stmt} {f T : Addr} {oc oT : Value} {od odT an : Option Addr} {osl slT : Array (Option Value)} {kV doc pm cdv ct : Value} {its : List Value} {nT : Nat} {ps : List Str} {dvs : List V}
    (l : K.lookup f = some ⟨oc, od, .func (PySem.W.fnOf x qual (defArgs st) (defBody st) (defScope st) (.ref T) kV doc pm an cdv ct), osl⟩)
    (c : PySem.W.codeIn K cdv qual = true) (kp : PySem.W.keepIn K (.ref f) = true) (lT : K.lookup T = some ⟨oT, odT, .seq its.toArray nT, slT⟩) (rT : Vals dvs its) (n j : Nat) (hd : dvs ≠ []) (hn : n + (dvs.length - j) = ps.length)
    (h : ∀ (T : Addr) (kV doc pm : Value) (an : Option Addr) (cdv ct : Value) (us its : List Value), us.length = n → its.length = dvs.length →
      ∃ k, bindArgs (PySem.W.fnOf x qual (defArgs st) (defBody st) (defScope st) (.ref T) kV doc pm an cdv ct) ⟨us, []⟩ = seqItems? (.ref T) >>= k ∧ k (some its.toArray) = pure (ps.zip (us ++ its.drop j))) :
    ∃ ds, Vals (dvs.drop j) ds ∧ Binds K (PySem.W.fnOf x qual (defArgs st) (defBody st) (defScope st) (.ref T) kV doc pm an cdv ct) ps ds := by
  have F : FunD K x qual (defArgs st) (defBody st) (defScope st) dvs [] f _ := ⟨⟨_, _, _, _, _, _, _, _, _, _, rfl, l, c, .inr ⟨hd, T, _, its, nT, rfl, lT, rfl, rT⟩, .inl rfl⟩, kp⟩
  exact F.binds1 (ps := ps) n j hd hn h
theorem Binds.none {fd : FuncData} {ps : List Str} {ds : List Value} (r : Vals [] ds) (b : Binds K fd ps ds) : Binds K fd ps [] := by
  cases r
  exact b
end
end L2

namespace L2
open PySem PySem.Spec PyProof.Rows
/-! ### least lengths -/
/-- how often a number is halved until it is below 64 -/
def lk (n : Nat) : Nat := n.log2 - 5
/-- whether one of the i lowest figures is 1 -/
def ro (n i : Nat) : Nat := if n % 2 ^ i = 0 then 0 else 1
def lenD (n : Nat) : Nat := n / 2 ^ lk n + ro n (lk n)
theorem lk_small {n : Nat} (h : n < 64) : lk n = 0 := by
  unfold lk
  by_cases e : n = 0
  · rw [e]; decide
  · have : n.log2 < 6 := (Nat.log2_lt e).mpr (by omega)
    omega
theorem lk_end (n : Nat) : n / 2 ^ lk n < 64 := by
  by_cases h : n < 64
  · rw [lk_small h]
    omega
  · have e : n ≠ 0 := by omega
    have h1 : n < 2 ^ (n.log2 + 1) := (Nat.log2_lt e).mp (Nat.lt_succ_self _)
    have h2 : 6 ≤ n.log2 := (Nat.le_log2 e).mpr (by omega)
    rw [Nat.div_lt_iff_lt_mul (Nat.two_pow_pos _)]
    have e2 : n.log2 + 1 = 6 + lk n := by unfold lk; omega
    rw [e2, Nat.pow_add] at h1
    exact h1
theorem lk_before {n i : Nat} (h : i < lk n) : 64 ≤ n / 2 ^ i := by
  have e : n ≠ 0 := fun e => by
    rw [e] at h
    have z : lk 0 = 0 := by decide
    omega
  rw [Nat.le_div_iff_mul_le (Nat.two_pow_pos _)]
  have h1 : 2 ^ n.log2 ≤ n := Nat.log2_self_le e
  have h2 : 6 + i ≤ n.log2 := by unfold lk at h; omega
  calc 64 * 2 ^ i = 2 ^ (6 + i) := by rw [Nat.pow_add]
    _ ≤ 2 ^ n.log2 := Nat.pow_le_pow_right (by decide) h2
    _ ≤ n := h1
theorem lk_low {n : Nat} (h : 64 ≤ n) : 32 ≤ n / 2 ^ lk n := by
  have e : n ≠ 0 := by omega
  rw [Nat.le_div_iff_mul_le (Nat.two_pow_pos _)]
  have h1 : 2 ^ n.log2 ≤ n := Nat.log2_self_le e
  have h2 : 6 ≤ n.log2 := (Nat.le_log2 e).mpr (by omega)
  calc 32 * 2 ^ lk n = 2 ^ (5 + lk n) := by rw [Nat.pow_add]
    _ ≤ 2 ^ n.log2 := Nat.pow_le_pow_right (by decide) (by unfold lk; omega)
    _ ≤ n := h1
theorem ro_le (n i : Nat) : ro n i ≤ 1 := by unfold ro; split <;> decide
theorem ro_zero (n : Nat) : ro n 0 = 0 := by unfold ro; rw [Nat.pow_zero, Nat.mod_one]; rfl
theorem ro_step (n i : Nat) : ro n (i + 1) = if n / 2 ^ i % 2 = 1 then 1 else ro n i := by
  unfold ro
  have h := Nat.mod_pow_succ (b := 2) (k := i) (x := n)
  have h2 : n / 2 ^ i % 2 < 2 := Nat.mod_lt _ (by decide)
  have hp : 0 < 2 ^ i := Nat.two_pow_pos _
  rw [h]
  by_cases e : n / 2 ^ i % 2 = 1
  · rw [if_pos e, e, if_neg (by omega)]
  · rw [if_neg e, show n / 2 ^ i % 2 = 0 by omega, Nat.mul_zero, Nat.add_zero]
theorem lenD_small {n : Nat} (h : n < 64) : lenD n = n := by
  unfold lenD
  rw [lk_small h, ro_zero, Nat.pow_zero, Nat.div_one, Nat.add_zero]
theorem lenD_mid {n : Nat} (h : 64 ≤ n) : 32 ≤ lenD n ∧ lenD n ≤ 64 := by
  have h1 := lk_low h
  have h2 := lk_end n
  have h3 := ro_le n (lk n)
  unfold lenD
  omega
theorem lenD_dbl {n : Nat} (h : 64 ≤ n) : lenD (2 * n) = lenD n := by
  have e : n ≠ 0 := by omega
  have hl : (2 * n).log2 = n.log2 + 1 := by
    have a1 : n < 2 ^ (n.log2 + 1) := (Nat.log2_lt e).mp (Nat.lt_succ_self _)
    have a2 : 2 ^ n.log2 ≤ n := Nat.log2_self_le e
    have b1 : (2 * n).log2 < n.log2 + 2 := (Nat.log2_lt (by omega)).mpr (by rw [Nat.pow_succ]; omega)
    have b2 : n.log2 + 1 ≤ (2 * n).log2 := (Nat.le_log2 (by omega)).mpr (by rw [Nat.pow_succ]; omega)
    omega
  have h2 : 6 ≤ n.log2 := (Nat.le_log2 e).mpr (by omega)
  have hk : lk (2 * n) = lk n + 1 := by unfold lk; omega
  unfold lenD ro
  rw [hk, Nat.pow_succ, Nat.mul_comm (2 ^ lk n) 2, Nat.mul_div_mul_left _ _ (by decide : 0 < 2), Nat.mul_mod_mul_left]
  congr 1
  by_cases z : n % 2 ^ lk n = 0
  · rw [if_pos z, if_pos (by omega)]
  · rw [if_neg z, if_neg (by omega)]
theorem ro_due (n i : Nat) : (if (n : Int) = (n : Int) / 2 ^ i * 2 ^ i then (0 : Int) else 1) = (ro n i : Int) := by
  unfold ro
  have hp : 0 < 2 ^ i := Nat.two_pow_pos _
  have e : ((n : Int) / 2 ^ i * 2 ^ i) = ((n / 2 ^ i * 2 ^ i : Nat) : Int) := by
    rw [Int.natCast_mul, Int.natCast_ediv, Int.natCast_pow]
    rfl
  rw [e]
  have h := Nat.div_add_mod n (2 ^ i)
  rw [Nat.mul_comm] at h
  by_cases z : n % 2 ^ i = 0
  · rw [if_pos z, if_pos (by omega)]
    rfl
  · rw [if_neg z, if_neg (by omega)]
    rfl
/-- whether a value is an int and no bool -/
def IntQ (K : PySem.W.Frag) (H : Hp) (v : V) (b : Bool) : Prop := ∃ t b1 b2, TyX K H v t ∧ PySem.W.kitOne K t (.type "int") = some b1 ∧ PySem.W.kitOne K t (.type "bool") = some b2 ∧ b = (b1 && !b2)
theorem IntQ.int {K : PySem.W.Frag} {H : Hp} (i : Int) : IntQ K H (.int i) true := ⟨_, true, false, .base (.int i), kit_ty (by decide +kernel), kit_ty (by decide +kernel), rfl⟩
theorem IntQ.bl {K : PySem.W.Frag} {H : Hp} (i : Bool) : IntQ K H (.bl i) false := ⟨_, true, true, .base (.bl i), kit_ty (by decide +kernel), kit_ty (by decide +kernel), rfl⟩
theorem IntQ.non {K : PySem.W.Frag} {H : Hp} : IntQ K H .non false := ⟨_, false, false, .base .non, kit_ty (by decide +kernel), kit_ty (by decide +kernel), rfl⟩
theorem IntQ.str {K : PySem.W.Frag} {H : Hp} (x : Str) : IntQ K H (.str x) false := ⟨_, false, false, .base (.str x), kit_ty (by decide +kernel), kit_ty (by decide +kernel), rfl⟩
theorem IntQ.lst {K : PySem.W.Frag} {H : Hp} {a : Addr} {xs : List V} (h : H a = some (.lst xs)) : IntQ K H (.ref a) false := ⟨_, false, false, .base (.lst h), kit_ty (by decide +kernel), kit_ty (by decide +kernel), rfl⟩
theorem IntQ.tup {K : PySem.W.Frag} {H : Hp} {a : Addr} {xs : List V} (h : H a = some (.tup xs)) : IntQ K H (.ref a) false := ⟨_, false, false, .base (.tup h), kit_ty (by decide +kernel), kit_ty (by decide +kernel), rfl⟩
theorem IntQ.dK {K : PySem.W.Frag} {H : Hp} {a : Addr} {xs : List (Key × V)} (h : H a = some (.dK xs)) : IntQ K H (.ref a) false := ⟨_, false, false, .base (.dK h), kit_ty (by decide +kernel), kit_ty (by decide +kernel), rfl⟩
/-- whether a value is an int within bounds -/
def InB (K : PySem.W.Frag) (H : Hp) (v : V) (lo : Int) (m : V) (ok : Bool) : Prop := (IntQ K H v false ∧ ok = false) ∨ (∃ i, v = .int i ∧ ((m = .non ∧ ok = decide (lo ≤ i)) ∨ ∃ hi, m = .int hi ∧ ok = (decide (lo ≤ i) && decide (i ≤ hi))))
theorem InB.yes {K : PySem.W.Frag} {H : Hp} {i lo hi : Int} (h1 : lo ≤ i) (h2 : i ≤ hi) : InB K H (.int i) lo (.int hi) true := .inr ⟨i, rfl, .inr ⟨hi, rfl, by rw [decide_eq_true h1, decide_eq_true h2]; rfl⟩⟩
theorem InB.odd {K : PySem.W.Frag} {H : Hp} {v m : V} {lo : Int} (h : IntQ K H v false) : InB K H v lo m false := .inl ⟨h, rfl⟩
theorem InB.low {K : PySem.W.Frag} {H : Hp} {i lo hi : Int} (h1 : i < lo) : InB K H (.int i) lo (.int hi) false := .inr ⟨i, rfl, .inr ⟨hi, rfl, by rw [decide_eq_false (by omega)]; rfl⟩⟩
theorem InB.high {K : PySem.W.Frag} {H : Hp} {i lo hi : Int} (h1 : hi < i) : InB K H (.int i) lo (.int hi) false := .inr ⟨i, rfl, .inr ⟨hi, rfl, by rw [decide_eq_false (show ¬ i ≤ hi by omega), Bool.and_false]⟩⟩
end L2

/-! values of any kind, and what checks say of them -/
namespace L2
open PySem PySem.Spec PyProof.Rows LamX
/-- a value and its type's name -/
inductive AnyV (H : Hp) : V → String → Prop
  | non : AnyV H .non "NoneType"
  | bl (b : Bool) : AnyV H (.bl b) "bool"
  | int (i : Int) : AnyV H (.int i) "int"
  | str (x : Str) : AnyV H (.str x) "str"
  | lst {p : Addr} {xs : List V} (h : H p = some (.lst xs)) : AnyV H (.ref p) "list"
  | tup {p : Addr} {xs : List V} (h : H p = some (.tup xs)) : AnyV H (.ref p) "tuple"
  | dK {p : Addr} {xs : List (Key × V)} (h : H p = some (.dK xs)) : AnyV H (.ref p) "dict"
theorem AnyV.ext {H H' : Hp} {v : V} {T : String} (e : ExtN H H') (h : AnyV H v T) : AnyV H' v T := by
  cases h with
  | non => exact .non
  | bl b => exact .bl b
  | int i => exact .int i
  | str x => exact .str x
  | lst h => exact .lst (e _ _ h fun ps z => by cases z)
  | tup h => exact .tup (e _ _ h fun ps z => by cases z)
  | dK h => exact .dK (e _ _ h fun ps z => by cases z)
theorem AnyV.same {H H' : Hp} {v : V} {T : String} (e : Same H H') (h : AnyV H v T) : AnyV H' v T := h.ext (.of e)
theorem AnyV.ty {K : PySem.W.Frag} {H : Hp} {v : V} {T : String} (h : AnyV H v T) : TyX K H v (.type T) := by
  cases h with
  | non => exact .base .non
  | bl b => exact .base (.bl b)
  | int i => exact .base (.int i)
  | str x => exact .base (.str x)
  | lst h => exact .base (.lst h)
  | tup h => exact .base (.tup h)
  | dK h => exact .base (.dK h)
/-- is the value a whole number, not a bool -/
def isI : V → Bool
  | .int _ => true
  | _ => false
theorem AnyV.intQ {K : PySem.W.Frag} {H : Hp} {v : V} {T : String} (h : AnyV H v T) : IntQ K H v (isI v) := by
  cases h with
  | non => exact .non
  | bl b => exact .bl b
  | int i => exact .int i
  | str x => exact .str x
  | lst h => exact .lst h
  | tup h => exact .tup h
  | dK h => exact .dK h
/-- .. within bounds -/
def leH : Option Int → Int → Bool
  | none, _ => true
  | some h, i => decide (i ≤ h)
def inR (lo : Int) (hi : Option Int) : V → Bool
  | .int i => decide (lo ≤ i) && leH hi i
  | _ => false
def hiV : Option Int → V
  | none => .non
  | some h => .int h
theorem AnyV.inB {K : PySem.W.Frag} {H : Hp} {v : V} {T : String} (h : AnyV H v T) (lo : Int) (hi : Option Int) : InB K H v lo (hiV hi) (inR lo hi v) := by
  cases h with
  | non => exact .odd .non
  | bl b => exact .odd (.bl b)
  | str x => exact .odd (.str x)
  | lst h => exact .odd (.lst h)
  | tup h => exact .odd (.tup h)
  | dK h => exact .odd (.dK h)
  | int i =>
    refine .inr ⟨i, rfl, ?_⟩
    cases hi with
    | none => exact .inl ⟨rfl, by show (decide (lo ≤ i) && true) = _; rw [Bool.and_true]⟩
    | some z => exact .inr ⟨z, rfl, rfl⟩
theorem inR_int {lo : Int} {hi : Option Int} {v : V} (h : inR lo hi v = true) : ∃ i, v = .int i ∧ lo ≤ i ∧ ∀ z, hi = some z → i ≤ z := by
  cases v with
  | int i =>
    have h : (decide (lo ≤ i) && leH hi i) = true := h
    obtain ⟨h1, h2⟩ := Bool.and_eq_true_iff.mp h
    refine ⟨i, rfl, of_decide_eq_true h1, fun z e => ?_⟩
    subst e
    exact of_decide_eq_true h2
  | _ => cases h
theorem inR_yes {lo hi i : Int} (h1 : lo ≤ i) (h2 : i ≤ hi) : inR lo (some hi) (.int i) = true := by
  show (decide (lo ≤ i) && decide (i ≤ hi)) = true
  rw [decide_eq_true h1, decide_eq_true h2]
  rfl
theorem inR_low {lo i : Int} {hi : Option Int} (h1 : i < lo) : inR lo hi (.int i) = false := by
  show (decide (lo ≤ i) && _) = false
  rw [decide_eq_false (by omega)]
  rfl
theorem inR_high {lo hi i : Int} (h1 : hi < i) : inR lo (some hi) (.int i) = false := by
  show (decide (lo ≤ i) && decide (i ≤ hi)) = false
  rw [show decide (i ≤ hi) = false from decide_eq_false (by omega), Bool.and_false]
/-- an error of the class C is let out, which keeps v under f -/
def Rz (E : XK) (H : Hp) (C : Addr) (f : Str) (v : V) : Prop := ∀ (dx : Addr) (H' : Hp), Same H H' → H dx = none → H' dx = some (.xd [(f, v)]) → E (.ref C) (some dx) H'
theorem Rz.same {E : XK} {H H1 : Hp} {C : Addr} {f : Str} {v : V} (s : Same H H1) (h : Rz E H C f v) : Rz E H1 C f v := fun dx H' s' n e => h dx H' (s.trans s') (by
  cases q : H dx with
  | none => rfl
  | some o => rw [s _ _ q] at n; cases n) e
/-- a list or a tuple -/
def RowAt (H : Hp) (p : Addr) (xs : List V) : Prop := H p = some (.lst xs) ∨ H p = some (.tup xs)
theorem RowAt.ext {H H' : Hp} {p : Addr} {xs : List V} (e : ExtN H H') (h : RowAt H p xs) : RowAt H' p xs := h.imp (fun h => e _ _ h fun ps z => by cases z) fun h => e _ _ h fun ps z => by cases z
theorem RowAt.same {H H' : Hp} {p : Addr} {xs : List V} (e : Same H H') (h : RowAt H p xs) : RowAt H' p xs := h.imp (e _ _) (e _ _)
/-- what is told of a row whose entries a test must let by: the first place that it does not, or -1 -/
inductive RowQ (ok : Hp → V → Bool → Prop) (H : Hp) (v : V) (lo hi : Int) : Option Int → Prop
  | odd {T : String} (h : AnyV H v T) (n1 : T ≠ "list") (n2 : T ≠ "tuple") : RowQ ok H v lo hi (some (-1))
  | len {p : Addr} {xs : List V} (e : v = .ref p) (h : RowAt H p xs) (hl : ¬ (lo ≤ (xs.length : Int) ∧ (xs.length : Int) ≤ hi)) : RowQ ok H v lo hi (some (-1))
  | item {p : Addr} {xs : List V} {i : Nat} {x : V} (e : v = .ref p) (h : RowAt H p xs) (hl : lo ≤ (xs.length : Int) ∧ (xs.length : Int) ≤ hi) (hx : xs[i]? = some x) (bad : ok H x false) (good : ∀ (j : Nat) (y : V), j < i → xs[j]? = some y → ok H y true) : RowQ ok H v lo hi (some (i : Int))
  | fine {p : Addr} {xs : List V} (e : v = .ref p) (h : RowAt H p xs) (hl : lo ≤ (xs.length : Int) ∧ (xs.length : Int) ≤ hi) (good : ∀ (j : Nat) (y : V), xs[j]? = some y → ok H y true) : RowQ ok H v lo hi none
theorem RowQ.ext {ok : Hp → V → Bool → Prop} (st : ∀ {H H' : Hp} {v : V} {b : Bool}, ExtN H H' → ok H v b → ok H' v b) {H H' : Hp} {v : V} {lo hi : Int} {r : Option Int} (e : ExtN H H') (h : RowQ ok H v lo hi r) : RowQ ok H' v lo hi r := by
  cases h with
  | odd h n1 n2 => exact .odd (h.ext e) n1 n2
  | len e1 h hl => exact .len e1 (h.ext e) hl
  | item e1 h hl hx bad good => exact .item e1 (h.ext e) hl hx (st e bad) fun j y hj hy => st e (good j y hj hy)
  | fine e1 h hl good => exact .fine e1 (h.ext e) hl fun j y hy => st e (good j y hy)
theorem RowQ.go {ok : Hp → V → Bool → Prop} {H : Hp} {v : V} {lo hi : Int} {r : Option Int} (h : RowQ ok H v lo hi r) : (∃ T, AnyV H v T ∧ T ≠ "list" ∧ T ≠ "tuple" ∧ r = some (-1)) ∨ (∃ p xs, v = .ref p ∧ RowAt H p xs ∧ ¬ (lo ≤ (xs.length : Int) ∧ (xs.length : Int) ≤ hi) ∧ r = some (-1)) ∨
    ∃ p xs, v = .ref p ∧ RowAt H p xs ∧ (lo ≤ (xs.length : Int) ∧ (xs.length : Int) ≤ hi) ∧ (∀ (j : Nat) (y : V), xs[j]? = some y → (∀ i, r = some i → (j : Int) ≤ i) → (ok H y true ∧ r ≠ some (j : Int)) ∨ (ok H y false ∧ r = some (j : Int))) ∧ ∀ i, r = some i → 0 ≤ i ∧ i < (xs.length : Int) := by
  cases h with
  | odd h n1 n2 => exact .inl ⟨_, h, n1, n2, rfl⟩
  | len e h hl => exact .inr (.inl ⟨_, _, e, h, hl, rfl⟩)
  | @item p xs i x e h hl hx bad good =>
    refine .inr (.inr ⟨p, xs, e, h, hl, fun j y hy up => ?_, fun z hz => ?_⟩)
    · have := up _ rfl
      rcases Nat.lt_or_ge j i with c | c
      · exact .inl ⟨good j y c hy, fun z => by have := Option.some.inj z; omega⟩
      · obtain rfl : j = i := by omega
        rw [hx] at hy
        rw [← Option.some.inj hy]
        exact .inr ⟨bad, rfl⟩
    · obtain rfl := Option.some.inj hz
      have := (List.getElem?_eq_some_iff.mp hx).1
      omega
  | @fine p xs e h hl good => exact .inr (.inr ⟨p, xs, e, h, hl, fun j y hy _ => .inl ⟨good j y hy, fun z => by cases z⟩, fun z hz => by cases hz⟩)
/-- an entry that is a whole number, or is none -/
def okInt (H : Hp) (v : V) (b : Bool) : Prop := ∃ T, AnyV H v T ∧ b = isI v
theorem okInt.ext {H H' : Hp} {v : V} {b : Bool} (e : ExtN H H') (h : okInt H v b) : okInt H' v b := h.imp fun _ h => ⟨h.1.ext e, h.2⟩
abbrev KeysQ := RowQ okInt
theorem keysExt {H H' : Hp} {v : V} {lo hi : Int} {r : Option Int} (e : ExtN H H') (h : KeysQ H v lo hi r) : KeysQ H' v lo hi r := RowQ.ext (ok := okInt) (fun {H1 H2 v b} e h => okInt.ext (H := H1) (H' := H2) (v := v) (b := b) e h) e h
theorem kit_lt {K : PySem.W.Frag} {H : Hp} {v : V} {T : String} (h : AnyV H v T) (n1 : T ≠ "list") (n2 : T ≠ "tuple") : PySem.W.kitAny K (.type T) [.type "list", .type "tuple"] = some false := by
  have go : ∀ T : String, kitB T "list" = some false → kitB T "tuple" = some false → PySem.W.kitAny K (.type T) [.type "list", .type "tuple"] = some false := fun T h1 h2 => kitAny_cons (b := false) (kit_ty h1) (fun _ => kitAny_cons (b := false) (kit_ty h2) (fun _ => kitAny_nil) fun z => nomatch z) fun z => nomatch z
  cases h with
  | non => exact go _ (by decide +kernel) (by decide +kernel)
  | bl b => exact go _ (by decide +kernel) (by decide +kernel)
  | int i => exact go _ (by decide +kernel) (by decide +kernel)
  | str x => exact go _ (by decide +kernel) (by decide +kernel)
  | lst h => exact absurd rfl n1
  | tup h => exact absurd rfl n2
  | dK h => exact go _ (by decide +kernel) (by decide +kernel)
theorem kit_row {K : PySem.W.Frag} {H : Hp} {p : Addr} {xs : List V} (h : RowAt H p xs) : ∃ t, TyX K H (.ref p) t ∧ PySem.W.kitAny K t [.type "list", .type "tuple"] = some true := by
  rcases h with hl | ht
  · exact ⟨_, .base (.lst hl), kitAny_cons (b := true) (kit_ty (by decide +kernel)) (fun z => nomatch z) (fun _ => rfl)⟩
  · exact ⟨_, .base (.tup ht), kitAny_cons (b := false) (kit_ty (by decide +kernel)) (fun _ => kitAny_cons (b := true) (kit_ty (by decide +kernel)) (fun z => nomatch z) (fun _ => rfl)) (fun z => nomatch z)⟩
/-- what two error classes are to each other -/
structure ExS (K : PySem.W.Frag) (C1 C2 : Addr) (b : Bool) : Prop where
  kit : PySem.W.kitOne K (.ref C1) (.ref C2) = some b
  exm : PySem.W.exmOne K (.ref C1) (.ref C2) = some b
theorem exS_mk {K : PySem.W.Frag} {C1 C2 : Addr} {b : Bool} (eB : PySem.W.subIn K (.ref C2) (.type "BaseException") = some true) (t : PySem.W.typeIn K (.ref C2) = some (.type "type")) (hc : PySem.W.isClsIn K C2 = true) (ss : PySem.W.subIn K (.ref C2) (.ref C2) = some true) (s : PySem.W.subIn K (.ref C1) (.ref C2) = some b) : ExS K C1 C2 b := by
  have hc' : (PySem.W.clsIn K C2).isSome = true := hc
  have k1 : PySem.W.kitCls K (.ref C1) (.ref C2) = some b := by
    unfold PySem.W.kitCls
    simp [hc', t, s]
  constructor
  · unfold PySem.W.kitOne
    split
    · rename_i e
      have e : C1 = C2 := Value.ref.inj (beq_iff_eq.mp e)
      rw [e, ss] at s
      exact s
    · exact k1
  · unfold PySem.W.exmOne
    simp [eB, k1]
section
variable {X : Cx} {a : Addr} {cls : Value} {d : Option Addr} {oe : Obj} {pn : List (Addr × Obj)}
/-- e.f of a caught error, its class told in the reading -/
theorem pe_xfA {e : Expr} {te : TE} {pos : Pos} {n : Str} (hz : Zc cls d oe) (hf : ∃ vs, oe.data = .fields vs) (he : PE (X.suite a ((a, oe) :: pn)) e te) (hb : attributeBase e n X.env (eval e X.env) = eval e X.env := by rfl) :
    PE (X.suite a ((a, oe) :: pn)) (.Attribute e n pos) (fun σ H Q => ∃ C, XfC X.K C ∧ PySem.W.findIn X.K (.ref C) n = some none ∧ tXf a cls d C n te σ H Q) :=
  ⟨fun pins s σ H Q I ⟨C, T, hno, h⟩ => (pe_xf T hno hz hf he hb).run pins s σ H Q I h⟩
end
section
variable {P : Program} {w : World} {K : PySem.W.Frag} {mg : Str → Option Value} {base : Heap}
/-- a def whose code object is known, and that errors may leave -/
theorem Fun.okXC {x qual : Str} {st : Stmt} {f c : Addr} {fd : FuncData} {N ps : List Str} {k : Nat} {sp : Sp} (F : Fun K x qual st f fd) (hc : fd.code = .ref c) (S : FnScope N ps (defScope st)) (len : ∀ vs H Q E, sp vs H Q E → vs.length = ps.length)
    (hbody : ∀ (A : Around) (outer : List Env) (s : Shared) (H : Hp) (vs : List V) (Q : VK) (E : XK), Room k (A.deeper (envOfC qual (defScope st) s.heap.objs.size f (.ref c))) → sp vs H Q E →
      ∃ t, PSs (cxOf (L2.CX P w) P w K mg base N qual (defScope st) f (.ref c) A outer s H E) (defBody st) t ∧ t { nx := fun _ H' => Q .non H', rt := Q } (start N vs) H) : FnOk P w K mg base (L2.CX P w) (k + 1) f fd ps sp := by
  obtain ⟨oc, od, kV, doc, pm, an, cdv, ct, osl, rfl, lk, hcd⟩ := F.ex
  have e : cdv = .ref c := hc
  subst e
  exact fn_of lk hcd S len fun A outer s H vs Q E hr hsp => hbody A outer s H vs Q E hr hsp
/-- a def that a slot may hold, and that errors may leave -/
structure HeldX (P : Program) (w : World) (K : PySem.W.Frag) (mg : Str → Option Value) (base : Heap) (k : Nat) (f : Addr) (sp : Sp) : Prop where
  ex : ∃ (fd : FuncData) (ps : List Str), FnOk P w K mg base (L2.CX P w) k f fd ps sp ∧ PySem.W.keepIn K (.ref f) = true ∧ L2.Binds K fd ps []
end
theorem pe_callRX {X : Cx} {E : XK} {k i : Nat} {x : Str} {p pos : Pos} {e : Expr} {es : List Expr} {t : TA} {S : Addr → Sp → Prop} (A : ∀ f sp, S f sp → HeldX X.prog X.w X.K X.mg X.base k f sp) (hr : Room k X.A) (hN : X.N[i]? = some x) (hv : Vis X.env.scope x) (hx : Passes (L2.CX X.prog X.w) X E) (ha : PA X (e :: es) t)
    (hdb : (x == ("__debug__" : Str)) = false := by decide) (hcd : (x == ("__classdict__" : Str)) = false := by decide)
    (he : starEach (e :: es) X.env = (false, eval e X.env) :: starEach es X.env := by rfl) (hpl : (backTo pos (starEach es X.env)).any (·.1) = false := by rfl) :
    PE X (.Call (.Name x p) (e :: es) [] pos) (fun σ H Q => ∃ f sp, σ[i]? = some (some (.ref f)) ∧ S f sp ∧ t σ H fun vs H1 => sp vs H1 Q E) := by
  refine ⟨fun pins s σ H Q I h => ?_⟩
  obtain ⟨f, sp, hs, hS, ht⟩ := h
  obtain ⟨fd, ps, F, hk, hb⟩ := (A f sp hS).ex
  refine (pe_callL (i := i) (f := f) (sp := sp) (dvs := []) (E := E) F hr hN hv hk hb .nil hx ha hdb hcd he hpl).run pins s σ H Q I ⟨hs, ?_⟩
  have e0 : (fun (vs : List V) (H1 : Hp) => sp (vs ++ []) H1 Q E) = fun vs H1 => sp vs H1 Q E := by
    funext vs H1
    rw [List.append_nil]
  show t σ H (fun vs H1 => sp (vs ++ []) H1 Q E)
  rw [e0]
  exact ht
/-- the lambda's captured names are the maker's -/
def freeB (sc scope : Scope) : Bool := scope.names.all fun y => !decide (y.2 = .free) || decide (sc.names.lookup y.1 = some .cell) || decide (sc.names.lookup y.1 = some .free)
theorem free_by {sc scope : Scope} (h : freeB sc scope = true) : ∀ y ∈ scope.names, y.2 = .free → sc.names.lookup y.1 = some .cell ∨ sc.names.lookup y.1 = some .free := fun y hy e => by
  unfold freeB at h
  have := List.all_eq_true.mp h y hy
  simp only [Bool.or_eq_true, Bool.not_eq_true', decide_eq_true_eq, decide_eq_false_iff_not] at this
  rcases this with (z | z) | z
  · exact absurd e z
  · exact .inl z
  · exact .inr z
end L2

namespace L2
open PySem PySem.Spec PyProof.Rows
namespace RF
/-! ### how many questions there may be: two less than twice the items -/
variable {e : Nat} {f : RF}
def ph (st pl n : Nat) : Nat := if st = 5 then n else if st = 4 then 2 * n else if st = 3 then 2 * n + 1 else if st = 2 then 2 * n else if pl = 1 then 2 * n else 2 * n + 1
def phi (e : Nat) (f : RF) : Nat := if f.wt = none then 0 else ph f.st f.pl (e - f.pl)
theorem phi_none (h : f.wt = none) : phi e f = 0 := if_pos h
theorem phi_some {q : Nat × Nat} (h : f.wt = some q) : phi e f = ph f.st f.pl (e - f.pl) := if_neg (by rw [h]; exact Option.some_ne_none _)
theorem phi_ask {f : RF} {b : Nat} (h : f.pl < e → ph f.st f.pl (e - f.pl) ≤ b) : phi e (f.ask 0 e) ≤ b := by
  unfold RF.ask
  split
  · rename_i hp
    rw [phi_some (q := (f.row.getD f.pl 0, f.row.getD (f.pl - 1) 0)) rfl]
    exact h hp
  · rename_i hp
    split
    · have : phi e (f.rise 0 e) = 0 := by
        unfold RF.rise RF.askUp
        rw [if_neg (by show ¬ f.turnEq.pl < e; rw [turnEq_pl]; exact hp)]
        exact phi_none rfl
      omega
    · rw [phi_none (f := f.finish 0) rfl]
      exact Nat.zero_le _
theorem phi_take {q : Nat × Nat} (hw : f.wt = some q) (h0 : 0 < f.pl) (h : f.pl < e) (hs : 1 ≤ f.st ∧ f.st ≤ 5) (b : Bool) : phi e (f.take 0 e b) < phi e f := by
  rw [phi_some hw]
  unfold RF.take
  by_cases s1 : f.st = 1
  · rw [if_pos s1]
    have hb : ph f.st f.pl (e - f.pl) = if f.pl = 1 then 2 * (e - f.pl) else 2 * (e - f.pl) + 1 := by rw [s1]; rfl
    unfold RF.take1
    split
    · have : phi e (f.goOn 0 e) ≤ 2 * (e - f.pl) - 1 := phi_ask fun hp => by
        have hp' : f.pl + 1 < e := hp
        show ph f.st (f.pl + 1) (e - (f.pl + 1)) ≤ _
        rw [s1]
        show (if f.pl + 1 = 1 then 2 * (e - (f.pl + 1)) else 2 * (e - (f.pl + 1)) + 1) ≤ _
        rw [if_neg (by omega)]
        omega
      rw [hb]
      split <;> omega
    · split
      · rename_i hp1
        have : phi e (f.fall 0 e) ≤ 2 * (e - f.pl) - 1 := phi_ask fun hp => by
          have hp' : f.pl + 1 < e := hp
          show 2 * (e - (f.pl + 1)) + 1 ≤ _
          omega
        rw [hb, if_pos (by omega)]
        omega
      · rename_i hp1
        rw [phi_some (f := { f with st := 2, wt := some (f.row.getD 0 0, f.row.getD (f.pl - 1) 0) }) rfl, hb, if_neg (by omega)]
        show 2 * (e - f.pl) < _
        omega
  rw [if_neg s1]
  by_cases s2 : f.st = 2
  · rw [if_pos s2]
    have hb : ph f.st f.pl (e - f.pl) = 2 * (e - f.pl) := by rw [s2]; rfl
    unfold RF.take2
    split
    · rw [phi_none (f := f.finish 0) rfl, hb]
      omega
    · have : phi e ((f.turn 0).fall 0 e) ≤ 2 * (e - f.pl) - 1 := phi_ask fun hp => by
        have hp' : f.pl + 1 < e := hp
        show 2 * (e - (f.pl + 1)) + 1 ≤ _
        omega
      rw [hb]
      omega
  rw [if_neg s2]
  by_cases s3 : f.st = 3
  · rw [if_pos s3]
    have hb : ph f.st f.pl (e - f.pl) = 2 * (e - f.pl) + 1 := by rw [s3]; rfl
    unfold RF.take3
    split
    · have : phi e (f.turnEq.goOn 0 e) ≤ 2 * (e - f.pl) - 1 := phi_ask fun hp => by
        have hp' : f.turnEq.pl + 1 < e := hp
        rw [turnEq_pl] at hp'
        show ph f.turnEq.st (f.turnEq.pl + 1) (e - (f.turnEq.pl + 1)) ≤ _
        rw [turnEq_st, turnEq_pl, s3]
        show 2 * (e - (f.pl + 1)) + 1 ≤ _
        omega
      rw [hb]
      omega
    · rw [phi_some (f := { f with st := 4, wt := some (f.row.getD (f.pl - 1) 0, f.row.getD f.pl 0) }) rfl, hb]
      show 2 * (e - f.pl) < _
      omega
  rw [if_neg s3]
  by_cases s4 : f.st = 4
  · rw [if_pos s4]
    have hb : ph f.st f.pl (e - f.pl) = 2 * (e - f.pl) := by rw [s4]; rfl
    unfold RF.take4
    split
    · have e1 : f.rise 0 e = RF.ask 0 e { (f.turnEq.turn 0 : RF) with st := 5 } := by
        unfold RF.rise RF.askUp RF.ask
        rw [if_neg (show ¬ ({ (f.turnEq.turn 0 : RF) with st := 5 } : RF).st = 3 by show ¬ 5 = 3; decide)]
      have : phi e (f.rise 0 e) ≤ e - f.pl := by
        rw [e1]
        exact phi_ask fun hp => by
          show e - f.turnEq.pl ≤ _
          rw [turnEq_pl]
          exact Nat.le_refl _
      rw [hb]
      omega
    · have : phi e (({ f with eq := f.eq + 1, st := 3 } : RF).goOn 0 e) ≤ 2 * (e - f.pl) - 1 := phi_ask fun hp => by
        have hp' : f.pl + 1 < e := hp
        show 2 * (e - (f.pl + 1)) + 1 ≤ _
        omega
      rw [hb]
      omega
  rw [if_neg s4]
  have s5 : f.st = 5 := by omega
  have hb : ph f.st f.pl (e - f.pl) = e - f.pl := by rw [s5]; rfl
  unfold RF.take5
  split
  · rw [phi_none (f := f.finish 0) rfl, hb]
    omega
  · have : phi e (f.goOn 0 e) ≤ e - f.pl - 1 := phi_ask fun hp => by
      have hp' : f.pl + 1 < e := hp
      show ph f.st (f.pl + 1) (e - (f.pl + 1)) ≤ _
      rw [s5]
      show e - (f.pl + 1) ≤ _
      omega
    rw [hb]
    omega
/-- the step is one of the five -/
def St5 (f : RF) : Prop := 1 ≤ f.st ∧ f.st ≤ 5
theorem st5_ask {f : RF} (h : St5 f) : St5 (f.ask 0 e) := by
  unfold RF.ask
  split
  · exact h
  · split
    · unfold RF.rise RF.askUp
      split
      · exact ⟨by show 1 ≤ 5; decide, by show 5 ≤ 5; decide⟩
      · exact ⟨by show 1 ≤ 5; decide, by show 5 ≤ 5; decide⟩
    · exact h
theorem st5_rise : St5 (f.rise 0 e) := by
  unfold RF.rise RF.askUp
  split
  · exact ⟨by show 1 ≤ 5; decide, by show 5 ≤ 5; decide⟩
  · exact ⟨by show 1 ≤ 5; decide, by show 5 ≤ 5; decide⟩
theorem st5_three {f : RF} (h : f.st = 3) : St5 f := ⟨by omega, by omega⟩
theorem st5_take (h : St5 f) (b : Bool) : St5 (f.take 0 e b) := by
  unfold RF.take
  split
  · unfold RF.take1
    split
    · exact st5_ask h
    · split
      · exact st5_ask (st5_three rfl)
      · exact ⟨by show 1 ≤ 2; decide, by show 2 ≤ 5; decide⟩
  · split
    · unfold RF.take2
      split
      · exact h
      · exact st5_ask (st5_three rfl)
    · split
      · rename_i h3
        unfold RF.take3
        split
        · exact st5_ask (st5_three (by show f.turnEq.st = 3; rw [turnEq_st]; exact h3))
        · exact ⟨by show 1 ≤ 4; decide, by show 4 ≤ 5; decide⟩
      · split
        · unfold RF.take4
          split
          · exact st5_rise
          · exact st5_ask (st5_three rfl)
        · unfold RF.take5
          split
          · exact h
          · exact st5_ask h
theorem fed_st5 {size : Nat} {bs : List Bool} : ∀ k, St5 (fed size bs k)
  | 0 => st5_ask ⟨by show 1 ≤ 1; decide, by show 1 ≤ 5; decide⟩
  | k + 1 => by
    have ih := fed_st5 (size := size) (bs := bs) k
    cases h : (fed size bs k).wt with
    | none => rw [fed_end h]; exact ih
    | some q => rw [fed_next h]; exact st5_take ih _
theorem phi_zero {size : Nat} {bs : List Bool} (h : 0 < size) : phi size (fed size bs 0) ≤ 2 * (size - 1) := phi_ask fun hp => by
  show (if 0 + 1 = 1 then 2 * (size - (0 + 1)) else 2 * (size - (0 + 1)) + 1) ≤ _
  rw [if_pos rfl]
  omega
theorem fed_phi {size : Nat} (h1 : 0 < size) (h2 : size ≤ 2000) (bs : List Bool) : ∀ k, (∀ i, i < k → (fed size bs i).wt ≠ none) → k + phi size (fed size bs k) ≤ 2 * (size - 1)
  | 0, _ => by
    have := phi_zero (bs := bs) h1
    omega
  | k + 1, h => by
    have ih := fed_phi h1 h2 bs k (fun i hi => h i (by omega))
    have g := fed_good h1 h2 bs k
    cases e0 : (fed size bs k).wt with
    | none => exact absurd e0 (h k (by omega))
    | some q =>
      have := phi_take e0 g.wf.sp (g.ah (by rw [e0]; exact Option.some_ne_none _)) (fed_st5 k) (bs.getD k false)
      rw [← fed_next e0] at this
      omega
/-- at most two questions less than twice the items -/
theorem fed_few {size : Nat} (h1 : 0 < size) (h2 : size ≤ 2000) (bs : List Bool) {k : Nat} (h : ∀ i, i < k → (fed size bs i).wt ≠ none) : k ≤ 2 * (size - 1) := by
  have := fed_phi h1 h2 bs k h
  omega
/-- a run of two items, where there are two -/
def Long (e : Nat) (f : RF) : Prop := 2 ≤ f.pl ∨ (f.pl = 1 ∧ f.st = 1 ∧ f.wt ≠ none) ∨ e ≤ 1
theorem ask_pl {f : RF} : (f.ask 0 e).pl = f.pl := by
  unfold RF.ask
  split
  · rfl
  · split
    · unfold RF.rise RF.askUp
      split
      · exact turnEq_pl f
      · exact turnEq_pl f
    · rfl
theorem go_pl {f : RF} : f.pl ≤ (f.goOn 0 e).pl := by
  have e1 : (f.goOn 0 e).pl = f.pl + 1 := ask_pl
  omega
theorem fall_pl {f : RF} : f.pl ≤ (f.fall 0 e).pl := by
  have e1 : (f.fall 0 e).pl = f.pl + 1 := ask_pl
  omega
theorem take_pl (b : Bool) : f.pl ≤ (f.take 0 e b).pl := by
  unfold RF.take
  split
  · unfold RF.take1
    split
    · exact go_pl
    · split
      · exact fall_pl
      · exact Nat.le_refl _
  · split
    · unfold RF.take2
      split
      · exact Nat.le_refl _
      · exact fall_pl (f := f.turn 0)
    · split
      · unfold RF.take3
        split
        · refine Nat.le_trans (Nat.le_succ _) (Nat.le_of_eq ?_)
          have e1 : (f.turnEq.goOn 0 e).pl = f.turnEq.pl + 1 := ask_pl
          rw [e1, turnEq_pl]
        · exact Nat.le_refl _
      · split
        · unfold RF.take4
          split
          · have e1 : (f.rise 0 e).pl = f.pl := by
              unfold RF.rise RF.askUp
              split
              · exact turnEq_pl f
              · exact turnEq_pl f
            exact Nat.le_of_eq e1.symm
          · exact go_pl (f := { f with eq := f.eq + 1, st := 3 })
        · unfold RF.take5
          split
          · exact Nat.le_refl _
          · exact go_pl
theorem fed_long {size : Nat} {bs : List Bool} : ∀ k, Long size (fed size bs k)
  | 0 => by
    by_cases h : size ≤ 1
    · exact .inr (.inr h)
    · refine .inr (.inl ⟨ask_pl, ?_, ?_⟩)
      · show (RF.ask 0 size _).st = 1
        unfold RF.ask
        rw [if_pos (by show 0 + 1 < size; omega)]
      · show (RF.ask 0 size _).wt ≠ none
        unfold RF.ask
        rw [if_pos (by show 0 + 1 < size; omega)]
        exact Option.some_ne_none _
  | k + 1 => by
    have ih := fed_long (size := size) (bs := bs) k
    cases h : (fed size bs k).wt with
    | none => rw [fed_end h]; exact ih
    | some q =>
      rw [fed_next h]
      rcases ih with ih | ⟨i1, i2, _⟩ | ih
      · exact .inl (Nat.le_trans ih (take_pl _))
      · refine .inl ?_
        unfold RF.take
        rw [if_pos i2]
        unfold RF.take1
        rw [if_pos (show (fed size bs k).pl = 0 + 1 by omega)]
        split
        · have e1 : ((fed size bs k).goOn 0 size).pl = (fed size bs k).pl + 1 := ask_pl
          omega
        · have e1 : ((fed size bs k).fall 0 size).pl = (fed size bs k).pl + 1 := ask_pl
          omega
      · exact .inr (.inr ih)
theorem fed_two {size : Nat} (h1 : 0 < size) (h2 : size ≤ 2000) {bs : List Bool} {k : Nat} (h : (fed size bs k).wt = none) : min 2 size ≤ (fed size bs k).pl := by
  have g := (fed_good h1 h2 bs k).wf.sp
  rcases fed_long (size := size) (bs := bs) k with l | ⟨_, _, l⟩ | l
  · omega
  · exact absurd h l
  · omega
end RF
end L2

namespace L2
open PySem PySem.Spec PyProof.Rows
/-! ### what told_run tells, as data -/
def pD (q : Nat × Nat) : PyData := .tuple [.int (q.1 : Int), .int (q.2 : Int)]
def lnD : Option Nat → PyData
  | none => .none
  | some n => .int (n : Int)
def toldD (ln : Option Nat) (row : List Nat) (qs : List (Nat × Nat)) : PyData := .tuple [lnD ln, .list ((row.map fun (i : Nat) => (i : Int)).map PyData.int), .list (qs.map pD)]
theorem canLay_pairs : ∀ qs : List (Nat × Nat), PyData.canLayAll0 (qs.map pD) = true
  | [] => rfl
  | q :: r => by
    show (PyData.canLay0 (pD q) && PyData.canLayAll0 (r.map pD)) = true
    rw [canLay_pairs r]
    rfl
theorem depth_pairs : ∀ qs : List (Nat × Nat), PyData.depthAll (qs.map pD) ≤ 1
  | [] => Nat.zero_le _
  | q :: r => by
    show max (PyData.depth (pD q)) (PyData.depthAll (r.map pD)) ≤ 1
    have h1 : PyData.depth (pD q) = 1 := rfl
    have h2 := depth_pairs r
    omega
theorem shaped_told (ln : Option Nat) (row : List Nat) (qs : List (Nat × Nat)) : SeqAt.shaped (toldD ln row qs) = true := by
  unfold SeqAt.shaped
  rw [Bool.and_eq_true]
  constructor
  · show (PyData.canLay0 (lnD ln) && (PyData.canLayAll0 ((row.map fun (i : Nat) => (i : Int)).map PyData.int) && (PyData.canLayAll0 (qs.map pD) && true))) = true
    rw [canLay_ints, canLay_pairs]
    cases ln <;> rfl
  · refine decide_eq_true ?_
    show max (PyData.depth (lnD ln)) (max (PyData.depthAll ((row.map fun (i : Nat) => (i : Int)).map PyData.int) + 1) (max (PyData.depthAll (qs.map pD) + 1) 0)) + 1 ≤ 64
    have h1 : PyData.depth (lnD ln) = 0 := by cases ln <;> rfl
    have h2 := depth_pairs qs
    rw [depth_ints, h1]
    omega
theorem eqv_told (ln : Option Nat) (row : List Nat) (qs : List (Nat × Nat)) : PyData.eqv (toldD ln row qs) (toldD ln row qs) = true := SeqAt.eqv_refl _ (SeqAt.canLay_of_shaped (shaped_told ln row qs))
theorem dpAll_pairs {K : PySem.W.Frag} {H : Hp} : ∀ {ts : List V} {qs : List (Nat × Nat)}, ts.length = qs.length → (∀ (i : Nat) (v : V) (q : Nat × Nat), ts[i]? = some v → qs[i]? = some q → PairAt H v q) → DpAll K H ts (qs.map pD)
  | [], [], _, _ => .nil
  | v :: ts, q :: qs, hl, h => by
    obtain ⟨t, e, ht⟩ := h 0 v q rfl rfl
    subst e
    refine .cons (.tup (L2.st_of ht) (.cons (.int _) (.cons (.int _) .nil))) (dpAll_pairs (by simpa using hl) fun i v' q' h1 h2 => h (i + 1) v' q' h1 h2)
theorem dp_told {K : PySem.W.Frag} {H : Hp} {t r l : Addr} {ln : Option Nat} {row : List Nat} {qs : List (Nat × Nat)} (ht : H t = some (.tup [lenV ln, .ref r, .ref l])) (hr : H r = some (.lst (nV row))) (hq : QAt H l qs) : Dp K H (.ref t) (toldD ln row qs) := by
  obtain ⟨ts, h1, h2, h3⟩ := hq
  refine .tup (L2.st_of ht) (.cons ?_ (.cons ?_ (.cons (.lst (L2.sq_of h1) (dpAll_pairs h2 h3)) .nil)))
  · cases ln with
    | none => exact .non
    | some n => exact .int _
  · exact dp_ints (by rw [← nV_map]; exact L2.sq_of hr)
/-- a sorted row of the same ints is one -/
theorem sorted_one : ∀ {a b : List Int}, a.Perm b → a.Pairwise (· ≤ ·) → b.Pairwise (· ≤ ·) → a = b
  | [], b, p, _, _ => (List.nil_perm.mp p).symm
  | x :: a, b, p, ha, hb => by
    cases b with
    | nil => exact absurd p.length_eq (by simp)
    | cons y b =>
      have ha' := List.pairwise_cons.mp ha
      have hb' := List.pairwise_cons.mp hb
      have e : x = y := by
        have h1 : x ∈ y :: b := p.mem_iff.mp List.mem_cons_self
        have h2 : y ∈ x :: a := p.mem_iff.mpr List.mem_cons_self
        rcases List.mem_cons.mp h1 with h1 | h1
        · exact h1
        · rcases List.mem_cons.mp h2 with h2 | h2
          · exact h2.symm
          · have := hb'.1 x h1
            have := ha'.1 y h2
            omega
      subst e
      rw [sorted_one (List.perm_cons x |>.mp p) ha'.2 hb'.2]
theorem range_sorted (n : Nat) : ((List.range n).map fun (i : Nat) => (i : Int)).Pairwise (· ≤ ·) := by
  rw [List.pairwise_map]
  exact List.Pairwise.imp (fun h => by omega) (List.pairwise_lt_range (n := n))
end L2

/-! defs that are called where nothing is being shown: repr of lists and tuples -/
namespace L2
open PySem PySem.Spec PyProof.Rows
/-- a promise that is kept where no repr is under way -/
structure FnG (P : Program) (w : World) (K : PySem.W.Frag) (mg : Str → Option Value) (base : Heap) (CX : CXT) (k : Nat) (f : Addr) (fd : FuncData) (ps : List Str) (sp : Sp) : Prop where
  ln : ∀ vs H Q E, sp vs H Q E → vs.length = ps.length
  go : ∀ {A : Around} {outer : List Env} {s : Shared} {H : Hp} {ar : Args} {us : List Value} {vs : List V} {Q : VK} {E : XK}, A.guards = some [] → Room k A → Env0 P w K mg base A outer s H → BindsTo s fd ar (ps.zip us) → Vals vs us → sp vs H Q E →
    codeAny (model P w) A (.call (.ref f) ar) (CR CX outer P w H s Q E) s
theorem FnG.of {P : Program} {w : World} {K : PySem.W.Frag} {mg : Str → Option Value} {base : Heap} {CX : CXT} {k : Nat} {f : Addr} {fd : FuncData} {ps : List Str} {sp : Sp} (F : FnOk P w K mg base CX k f fd ps sp) : FnG P w K mg base CX k f fd ps sp :=
  ⟨F.len, fun _ r e b v h => F.run _ _ _ _ _ _ _ _ _ r e b v h⟩
section
variable {P : Program} {w : World} {K : PySem.W.Frag} {mg : Str → Option Value} {base : Heap} {CX : CXT} {k : Nat} {f : Addr} {N ps : List Str} {sp : Sp}
theorem fnG_body {x qual : Str} {dfs : Arguments} {bd : List Stmt} {sc : Scope} {dV kV doc pm cdv ct oc : Value} {an od : Option Addr} {osl : Array (Option Value)}
    (at_ : K.lookup f = some ⟨oc, od, .func (PySem.W.fnOf x qual dfs bd sc dV kV doc pm an cdv ct), osl⟩) (cd : PySem.W.codeIn K cdv qual = true) (S : FnScope N ps sc) (ln : ∀ vs H Q E, sp vs H Q E → vs.length = ps.length)
    (bdy : ∀ (A : Around) (outer : List Env) (s : Shared) (H : Hp) (vs : List V) (Q : VK) (E : XK), A.guards = some [] → Room k (A.deeper (envOfC qual sc s.heap.objs.size f cdv)) → sp vs H Q E →
      ∃ t, PSs (cxOf CX P w K mg base N qual sc f cdv A outer s H E) bd t ∧ t { nx := fun _ H' => Q .non H', rt := Q } (L2.start N vs) H) :
    FnG P w K mg base CX (k + 1) f (PySem.W.fnOf x qual dfs bd sc dV kV doc pm an cdv ct) ps sp := by
  refine ⟨ln, fun {A outer s H ar us vs Q E} gd room ev bt vv hs => ?_⟩
  have keepB : ∀ b o, base.get? b = some o → s.heap.get? b = some o := fun b o e => (ev.bs b o e).1
  have inK := ev.mod.kin.keeps keepB
  have free := ev.mod.nolimit.keeps keepB
  have kinds : ∀ y ∈ ps.zip us, sc.names.lookup y.1 = some .local ∨ (sc.names.lookup y.1 = some .cell ∧ ((cellsFrom (s.heap.objs.size + 1) sc.names []).lookup y.1).isSome = true) := by
    rintro ⟨n, v⟩ m
    exact (S.par n (List.of_mem_zip m).1).imp id fun q => ⟨q, PySem.W.cellsFrom_some _ _ _ (.inl q)⟩
  refine codeAny_call_function room.depth (inK _ _ at_) rfl S.co S.gen rfl (PySem.W.codeRec_of inK cd) (bt _ _ _ _ (wpAny_newFunctionEnv_cells S.kind kinds fun env ee s1 xx => ?_))
  cases ee
  refine ⟨free.keeps xx.toInCall.keep, codeAny_func ?_⟩
  obtain ⟨t, run, want⟩ := bdy A outer s H vs Q E gd (room.deeper _) hs
  have inv0 := inv_start (CX := CX) (E := E) S room.hd ev (ln _ _ _ _ hs) vv xx
  have done : ∀ {σ' : L2.St} {H' : Hp} {v : V} {u : Value} {s' : Shared}, Inv (cxOf CX P w K mg base N qual sc f cdv A outer s H E) [] σ' H' s' → L2.RelV v u → Q v H' → CE outer P w H s Q u s' := fun J rv q => ⟨_, _, J.os, J.bare, J.base, J.hok, rv, q⟩
  refine wpAny_mono (run.run [] s1 (L2.start N vs) H _ inv0 want) (fun fl s' res => ?_) fun _ _ z => z
  match fl, res with
  | .ret u, ⟨v, σ', H', J, rv, q⟩ => exact done J rv q
  | .next, ⟨σ', H', J, q⟩ => exact done (v := .non) (u := .none) J rfl q
  | .brk, ⟨_, _, _, q⟩ => exact q.elim
  | .cont, ⟨_, _, _, q⟩ => exact q.elim
theorem Fun.okG {x qual : Str} {st : Stmt} {fd : FuncData} (F : Fun K x qual st f fd) (S : FnScope N ps (defScope st)) (ln : ∀ vs H Q E, sp vs H Q E → vs.length = ps.length)
    (bdy : ∀ (cdv : Value) (A : Around) (outer : List Env) (s : Shared) (H : Hp) (vs : List V) (Q : VK) (E : XK), A.guards = some [] → Room k (A.deeper (envOfC qual (defScope st) s.heap.objs.size f cdv)) → sp vs H Q E →
      ∃ t, PSs (cxOf CX0 P w K mg base N qual (defScope st) f cdv A outer s H E).nox (defBody st) t ∧ t { nx := fun _ H' => Q .non H', rt := Q } (L2.start N vs) H) : FnG P w K mg base CX0 (k + 1) f fd ps sp := by
  obtain ⟨oc, od, kV, doc, pm, an, cdv, ct, osl, rfl, at_, cd⟩ := F.ex
  refine fnG_body at_ cd S ln fun A outer s H vs Q E gd room hs => ?_
  obtain ⟨t, h1, h2⟩ := bdy cdv A outer s H vs Q E gd room hs
  exact ⟨t, h1.nox, h2⟩
end
section
variable {X : Cx} {CX : CXT} {k : Nat} {f : Addr} {fd : FuncData} {ps : List Str} {sp : Sp} {E : XK} {dvs : List V} {ds : List Value}
theorem run_fnG {pins : List (Addr × Obj)} {σ : L2.St} {H : Hp} {s : Shared} {Q : VK} {us : List Value} {vs : List V} (F : FnG X.prog X.w X.K X.mg X.base CX k f fd ps sp) (gd : X.A.guards = some []) (room : Room k X.A) (bb : Binds X.K fd ps ds) (dd : Vals dvs ds)
    (px : Passes CX X E) (I : Inv X pins σ H s) (vv : Vals vs us) (hs : sp (vs ++ dvs) H Q E) : wpAny (model X.prog X.w) X.A (call (.ref f) us) (EP X pins σ Q) X.xe s := by
  have all := vv.append dd
  have same : (us ++ ds).length = ps.length := all.length.symm.trans (F.ln _ _ _ _ hs)
  refine wpAny_call (codeAny_mono (F.go (outer := X.stack) gd room I.env0 (bb s us I.kIn same) all hs) fun r s' res => ?_)
  match r, res with
  | .error e, res => exact px pins σ H s e s' I res
  | .ok (.ret u), res => exact I.after res
  | .ok .next, res => exact (show False from res).elim
  | .ok .brk, res => exact (show False from res).elim
  | .ok .cont, res => exact (show False from res).elim
theorem pe_callG {x : Str} {p pos : Pos} {e : Expr} {es : List Expr} {t : TA} (F : FnG X.prog X.w X.K X.mg X.base CX k f fd ps sp) (gd : X.A.guards = some []) (room : Room k X.A) (gl : Gl X x) (at_ : X.mg x = some (.ref f)) (kp : PySem.W.keepIn X.K (.ref f) = true)
    (bb : Binds X.K fd ps ds) (dd : Vals dvs ds) (px : Passes CX X E) (ha : PA X (e :: es) t) (nd : (x == ("__debug__" : Str)) = false := by decide) (h1 : starEach (e :: es) X.env = (false, eval e X.env) :: starEach es X.env := by rfl)
    (h2 : (backTo pos (starEach es X.env)).any (·.1) = false := by rfl) : PE X (.Call (.Name x p) (e :: es) [] pos) (tCall sp dvs E t) :=
  ⟨fun pins s σ H Q I h => wpAny_Call_Name_kw (ld_glob I gl at_ (PySem.W.callWith_K (h₀ := X.base) I.ok.mod.kin kp (thn (ha.run pos pins s σ H _ I h) fun us s1 ⟨vs, H1, I1, r, q⟩ => ⟨I1.kIn, run_fnG F gd room bb dd px I1 r q⟩) h1 h2) nd)⟩
/-- repr of an object that is data -/
def rReprD (K : PySem.W.Frag) : List V → Hp → VK → Prop := fun vs H Q => ∃ (p : Addr) (d : PyData), vs = [.ref p] ∧ Dp K H (.ref p) d ∧ d.showable = true ∧ d.hasDict = false ∧ d.depth ≤ 64 ∧ d.shown.length ≤ sizeLine ∧ Q (.str d.shown) H
theorem call_reprD (gd : X.A.guards = some []) (hu : X.A.units + 65 < cLine) : CallR X (.builtin "repr") (rReprD X.K) := by
  intro pins s σ H xs us Q I r h
  obtain ⟨p, d, rfl, hd, h1, h2, h3, h4, q⟩ := h
  obtain ⟨u, rfl, r1⟩ := vals1 r
  obtain ⟨as, rd⟩ := Dp.reads I d _ u hd r1
  cases r1
  refine repr_of_reads' rd h1 (fun z => by rw [h2] at z; cases z) gd (by omega) (fun _ _ e => e) (fun h' u tk keep => ⟨.str _, H, I.kept keep, ⟨_, rfl⟩, q⟩) h4
end
end L2
namespace L2
open PySem PySem.Spec PyProof.Rows
/-- the call of the law: the promise of a def that may show lists -/
theorem callG {P : Program} {w : World} {K : PySem.W.Frag} {mg mb : Str → Option Value} {CX : CXT} {k : Nat} {fa a : Addr} {fd : FuncData} {x : Str} {sp : Sp} {s1 : Shared} {us : List Value} {ns : List Int}
    (inK : K.In s1.heap) (top : s1.heap.Ns mainGlobals mg) (blt : s1.heap.Ns builtinsNs mb) (boot : ∀ y : Str, y ≠ "__name__" → mb y = bootBuiltins y) (free : s1.heap.NoLimit) (gen0 : s1.gens = #[])
    (scr : s1.heap.get? a = some { cls := .type "list", data := .seq us.toArray }) (isI : IntsAre us ns) (small : ns.length ≤ sizeLine) (room : Room k callerA)
    (F : ∀ base : Heap, K.In base → base.Ns mainGlobals mg → FnG P w K mg base CX k fa fd [x] sp) (bt : ∀ (s : Shared) (u : Value), BindsTo s fd ⟨[u], []⟩ [(x, u)])
    (want : ∀ H : Hp, Only H → SqL K H a (ns.map V.int) → sp [.ref a] H (fun v _ => v = .bl true) fun _ _ _ => False) (noX : ∀ H e s', CX [] H s1 (fun _ _ _ => False) e s' → False) :
    codeAny (model P w) callerA (.call (.ref fa) ⟨[.ref a], []⟩) (fun r s' => r = .ok (.ret (.bool true)) ∧ OldK s1.heap s'.heap ∧ s'.os = s1.os ∧ AllBare s'.gens) s1 := by
  have vv := vals_ints isI
  have lu := isI.length
  have main : ∀ H : Hp, Only H → SqL K H a (ns.map V.int) → HOk P w H s1.heap → (∀ b, H b ≠ none → b = a) → (H a ≠ none → K.lookup a = none) →
      codeAny (model P w) callerA (.call (.ref fa) ⟨[.ref a], []⟩) (fun r s' => r = .ok (.ret (.bool true)) ∧ OldK s1.heap s'.heap ∧ s'.os = s1.os ∧ AllBare s'.gens) s1 := by
    intro H only sq ok one out
    have hid : ∀ {b : Addr} {o : Obj}, s1.heap.get? b = some o → H b = none → (hidT s1.heap H).get? b = some o := fun e n => hidT_get e n
    have hidN : ∀ {b : Addr} {m : Str → Option Value}, s1.heap.Ns b m → (hidT s1.heap H).Ns b m := by
      rintro b m ⟨o, es, ep, e, d, r⟩
      refine ⟨o, es, ep, hid e ?_, d, r⟩
      match q : H b with
      | none => rfl
      | some u =>
        obtain rfl := one b (by rw [q]; exact Option.some_ne_none _)
        rw [scr] at e
        cases e
        exact absurd (show Data.seq us.toArray _ = Data.dict es ep from d) Data.noConfusion
    have kin : K.In (hidT s1.heap H) := fun b o e => hid (inK b o e) (by
      match q : H b with
      | none => rfl
      | some u =>
        obtain rfl := one b (by rw [q]; exact Option.some_ne_none _)
        rw [out (by rw [q]; exact Option.some_ne_none _)] at e
        cases e)
    obtain ⟨mc, f1, f2⟩ := free
    have ev : Env0 P w K mg (hidT s1.heap H) callerA [] s1 H := ⟨rfl, ⟨kin, hidN top, ⟨mb, hidN blt, boot⟩, ⟨mc, hidN f1, f2⟩⟩, fun b o e => of_hidT e, Nat.le_of_eq (hidT_size _ _), trivial, fun b hb => absurd (show b ∈ ([] : List Addr) from hb) List.not_mem_nil, ok, .of_eq gen0⟩
    refine codeAny_mono ((F _ kin (hidN top)).go (us := [.ref a]) (vs := [.ref a]) rfl room ev (bt s1 (.ref a)) (.cons rfl .nil) (want H only sq)) fun r s' res => ?_
    match r, res with
    | .error e, res => exact (noX H e s' res).elim
    | .ok .next, res => exact (show False from res).elim
    | .ok .brk, res => exact (show False from res).elim
    | .ok .cont, res => exact (show False from res).elim
    | .ok (.ret u), ⟨v, H', os, bare, un, ok', rv, q⟩ =>
      obtain rfl : v = .bl true := q
      obtain rfl : u = Value.bool true := rv
      refine ⟨rfl, OldK.of_keep fun b o e => ?_, os, bare⟩
      match q : H b with
      | none => exact un.keep b o e q (fun z => absurd (show b ∈ ([] : List Addr) from z) List.not_mem_nil) List.not_mem_nil
      | some u =>
        rcases only b with z | ⟨ob, xs, z⟩
        · rw [q] at z
          cases z
        · have e1 := (ok b _ z).1
          have e2 := (ok' b _ (un.frzs b ob _ z)).1
          rw [e] at e1
          cases e1
          exact e2
  match own : K.lookup a with
  | some o =>
    have e := inK a o own
    rw [scr] at e
    cases e
    exact main (fun _ => none) (fun _ => .inl rfl) (.inr ⟨_, us.toArray, _, own, rfl, rfl, rfl, by rw [List.size_toArray, lu]; exact small, by simpa using vv⟩) (fun b u z => nomatch (show (none : Option HO) = some u from z)) (fun b z => absurd rfl z) fun z => absurd rfl z
  | none =>
    refine main (fun b => if b = a then some (.frz { cls := .type "list", data := .seq us.toArray } (.lst (ns.map V.int))) else none) (fun b => ?_) (.inl (.inr ⟨{ cls := .type "list", data := .seq us.toArray }, if_pos rfl⟩)) (fun b u z => ?_) (fun b z => ?_) fun _ => own
    all_goals by_cases same : b = a
    · exact .inr ⟨_, _, if_pos same⟩
    · exact .inl (if_neg same)
    · have z2 := (if_pos same).symm.trans z
      cases z2
      subst same
      exact ⟨scr, by rw [List.length_map]; exact small, us, _, vv, scr⟩
    · have z2 := (if_neg same).symm.trans z
      cases z2
    · exact same
    · exact absurd (if_neg same) z
theorem walkG {l : PySem.W.OpenLaw} {n k : Nat} {q : Program} {loose : List Str} {XP : (Str → Option Value) → Heap → Prop} {YP : World → Heap → Prop} {d : DefRec} {K : Params → PySem.W.Frag} {CX : World → CXT} {sp : World → Sp} {x : Str}
    (most : l.most = some n) (small : n ≤ sizeLine) (nodef : d.params.defaults = []) (room : Room k callerA) (inK : ∀ (w : World) (h : Heap), YP w h → (K w.params).In h)
    (F : ∀ (w : World) (mg : Str → Option Value) (fa : Addr) (h : Heap), (K w.params).In h → h.Ns mainGlobals mg → mg d.name = some (.ref fa) → ∃ fd : FuncData, (∀ (s : Shared) (u : Value), BindsTo s fd ⟨[u], []⟩ [(x, u)]) ∧
      ∀ base : Heap, (K w.params).In base → base.Ns mainGlobals mg → FnG l.prog w (K w.params) mg base (CX w) k fa fd [x] (sp w))
    (want : ∀ (w : World) (H : Hp) (a : Addr) (ns : List Int), ns.length ≤ n → Only H → SqL (K w.params) H a (ns.map V.int) → sp w [.ref a] H (fun v _ => v = .bl true) fun _ _ _ => False)
    (noX : ∀ (w : World) (H : Hp) (s : Shared) (e : Value) (s' : Shared), CX w [] H s (fun _ _ _ => False) e s' → False) : PySem.W.WalkO q loose XP YP l.row.toRowW d [] (fun f vs => PySem.call f vs) := by
  refine Att.attach_call most nodef fun w s0 s1 mg mb fa o pm cd doc a vs ns G Y h1 h2 h3 at_ scr isI len gen0 => ?_
  obtain ⟨fd, bt, keep⟩ := F w mg fa _ (inK w _ Y) G.T.g at_
  exact callG (inK w _ Y) G.T.g G.T.b G.T.builtins G.T.nolimit gen0 scr isI (Nat.le_trans len small) room keep bt (fun H only sq => want w H a ns len only sq) fun H e s' => noX w H s1 e s'
end L2

/-! data in lists, what it shows -/
namespace L2
open PySem PySem.Spec PyProof.Rows
theorem dpAll_of {α : Type} {K : PySem.W.Frag} {H : Hp} (f : α → PyData) : ∀ {ts : List V} {as : List α}, ts.length = as.length → (∀ (i : Nat) (v : V) (a : α), ts[i]? = some v → as[i]? = some a → Dp K H v (f a)) → DpAll K H ts (as.map f)
  | [], [], _, _ => .nil
  | [], _ :: _, h, _ => by cases h
  | _ :: _, [], h, _ => by cases h
  | v :: ts, a :: as, hl, h => .cons (h 0 v a rfl rfl) (dpAll_of f (by simpa using hl) fun i v' a' h1 h2 => h (i + 1) v' a' h1 h2)
theorem canLay_of {α : Type} (f : α → PyData) (h : ∀ a, PyData.canLay0 (f a) = true) : ∀ (as : List α), PyData.canLayAll0 (as.map f) = true
  | [] => rfl
  | a :: as => by
    show (PyData.canLay0 (f a) && PyData.canLayAll0 (as.map f)) = true
    rw [h, canLay_of f h as]
    rfl
theorem depth_of {α : Type} (f : α → PyData) {n : Nat} (h : ∀ a, PyData.depth (f a) ≤ n) : ∀ (as : List α), PyData.depthAll (as.map f) ≤ n
  | [] => Nat.zero_le _
  | a :: as => Nat.max_le.mpr ⟨h a, depth_of f h as⟩
theorem shaped_of {d : PyData} (h1 : PyData.canLay0 d = true) (h2 : PyData.depth d ≤ 64) : SeqAt.shaped d = true := by
  unfold SeqAt.shaped
  exact Bool.and_eq_true_iff.mpr ⟨h1, decide_eq_true h2⟩
theorem eqv_same {d : PyData} (h : SeqAt.shaped d = true) : PyData.eqv d d = true := SeqAt.eqv_refl _ (SeqAt.canLay_of_shaped h)
/-! ints, shown -/
theorem showable_ints : ∀ (ns : List Int), (∀ n ∈ ns, n.natAbs.log2 < 1920) → PyData.showableAll (ns.map PyData.int) = true
  | [], _ => rfl
  | n :: ns, h => by
    show (decide (n.natAbs.log2 < 1920) && PyData.showableAll (ns.map PyData.int)) = true
    rw [decide_eq_true (h n (List.mem_cons_self ..)), showable_ints ns fun m hm => h m (List.mem_cons_of_mem _ hm)]
    rfl
theorem noDict_ints : ∀ (ns : List Int), PyData.hasDictAll (ns.map PyData.int) = false
  | [] => rfl
  | n :: ns => by
    show (false || PyData.hasDictAll (ns.map PyData.int)) = false
    rw [noDict_ints ns]
    rfl
theorem shown_ints_len : ∀ (ns : List Int), (∀ n ∈ ns, n.natAbs.log2 < 1920) → ((PyData.shownAll (ns.map PyData.int)).map (·.length)).sum ≤ 1921 * ns.length ∧ (PyData.shownAll (ns.map PyData.int)).length = ns.length
  | [], _ => ⟨Nat.le_refl _, rfl⟩
  | n :: ns, h => by
    obtain ⟨a1, a2⟩ := shown_ints_len ns fun m hm => h m (List.mem_cons_of_mem _ hm)
    have b : (PyData.shown (.int n)).length ≤ 1921 := int_text_len_1921 (h n (List.mem_cons_self ..))
    constructor
    · show (PyData.shown (.int n)).length + ((PyData.shownAll (ns.map PyData.int)).map (·.length)).sum ≤ 1921 * (ns.length + 1)
      omega
    · show (PyData.shownAll (ns.map PyData.int)).length + 1 = ns.length + 1
      rw [a2]
theorem show_ints {ns : List Int} (hl : ns.length ≤ 8000) (h : ∀ n ∈ ns, n.natAbs.log2 < 1920) : (PyData.list (ns.map PyData.int)).showable = true ∧ (PyData.list (ns.map PyData.int)).hasDict = false ∧ (PyData.list (ns.map PyData.int)).depth ≤ 64 ∧ (PyData.list (ns.map PyData.int)).shown.length ≤ sizeLine := by
  obtain ⟨a1, a2⟩ := shown_ints_len ns h
  refine ⟨showable_ints ns h, noDict_ints ns, ?_, ?_⟩
  · show PyData.depthAll (ns.map PyData.int) + 1 ≤ 64
    rw [depth_ints]
    decide
  · show (listText (PyData.shownAll (ns.map PyData.int))).length ≤ sizeLine
    refine Nat.le_trans (listText_len_le _) (Nat.le_trans ?_ (by decide : 15400003 ≤ sizeLine))
    rw [a2]
    omega
end L2

/-! pairs of a word and a value, in lists -/
namespace L2
open PySem PySem.Spec PyProof.Rows LamX
abbrev pdW (w : Str) (x : PyData) : PyData := .tuple [.str w, x]
/-- a value that is its own data -/
inductive Lone : V → PyData → Prop
  | non : Lone .non .none
  | bl (b : Bool) : Lone (.bl b) (.bool b)
  | int (i : Int) : Lone (.int i) (.int i)
  | str (x : Str) (h : PyData.canLay0 (.str x) = true) : Lone (.str x) (.str x)
theorem Lone.dp {K : PySem.W.Frag} {H : Hp} {v : V} {x : PyData} (h : Lone v x) : Dp K H v x := by
  cases h with
  | non => exact .non
  | bl b => exact .bl b
  | int i => exact .int i
  | str z _ => exact .str z
theorem Lone.canLay {v : V} {x : PyData} (h : Lone v x) : x.canLay0 = true := by
  cases h with
  | str z h => exact h
  | _ => rfl
theorem Lone.depth {v : V} {x : PyData} (h : Lone v x) : x.depth = 0 := by
  cases h <;> rfl
theorem dp_word {K : PySem.W.Frag} {H : Hp} {t : Addr} {w : Str} {v : V} {x : PyData} (h : H t = some (.tup [.str w, v])) (hv : Lone v x) : Dp K H (.ref t) (pdW w x) := .tup (L2.st_of h) (.cons (.str w) (.cons hv.dp .nil))
theorem dpAll_rep {K : PySem.W.Frag} {H : Hp} {d : PyData} : ∀ {rs : List V}, (∀ r ∈ rs, Dp K H r d) → DpAll K H rs (List.replicate rs.length d)
  | [], _ => .nil
  | r :: rs, h => .cons (h r List.mem_cons_self) (dpAll_rep fun z hz => h z (List.mem_cons_of_mem _ hz))
theorem dp_said {K : PySem.W.Frag} {H : Hp} {D : Addr} {rs : List V} {n : Nat} {w : Str} {v : V} {x : PyData} (hD : H D = some (.lst rs)) (hl : rs.length = n) (hr : ∀ r ∈ rs, ∃ t, r = .ref t ∧ H t = some (.tup [.str w, v])) (hv : Lone v x) : Dp K H (.ref D) (.list (List.replicate n (pdW w x))) := by
  subst hl
  exact .lst (L2.sq_of hD) (dpAll_rep fun r h => by
    obtain ⟨t, rfl, ht⟩ := hr r h
    exact dp_word ht hv)
theorem canLay_rep {d : PyData} (h : d.canLay0 = true) : ∀ n, PyData.canLayAll0 (List.replicate n d) = true
  | 0 => rfl
  | n + 1 => by
    show (d.canLay0 && PyData.canLayAll0 (List.replicate n d)) = true
    rw [h, canLay_rep h n]
    rfl
theorem depth_rep {d : PyData} {m : Nat} (h : d.depth ≤ m) : ∀ n, PyData.depthAll (List.replicate n d) ≤ m
  | 0 => Nat.zero_le _
  | n + 1 => Nat.max_le.mpr ⟨h, depth_rep h n⟩
theorem canLay_word {w : Str} {v : V} {x : PyData} (hw : PyData.canLay0 (.str w) = true) (hv : Lone v x) : (pdW w x).canLay0 = true := by
  show (PyData.canLay0 (.str w) && (PyData.canLay0 x && true)) = true
  rw [hw, hv.canLay]
  rfl
theorem depth_word {w : Str} {v : V} {x : PyData} (hv : Lone v x) : (pdW w x).depth ≤ 2 := by
  show max 0 (max x.depth 0) + 1 ≤ 2
  rw [hv.depth]
  decide
theorem shaped_word {w : Str} {v : V} {x : PyData} (hw : PyData.canLay0 (.str w) = true) (hv : Lone v x) : SeqAt.shaped (pdW w x) = true := shaped_of (canLay_word hw hv) (Nat.le_trans (depth_word hv) (by decide))
theorem shaped_said {w : Str} {v : V} {x : PyData} (hw : PyData.canLay0 (.str w) = true) (hv : Lone v x) (n : Nat) : SeqAt.shaped (.list (List.replicate n (pdW w x))) = true := by
  refine shaped_of (canLay_rep (canLay_word hw hv) n) ?_
  have := depth_rep (d := pdW w x) (m := 2) (depth_word hv) n
  show PyData.depthAll _ + 1 ≤ 64
  omega
theorem flat_one {v : V} : ∀ n : Nat, (List.replicate n [v]).flatten = List.replicate n v
  | 0 => rfl
  | n + 1 => by
    rw [List.replicate_succ, List.flatten_cons, flat_one n]
    rfl
/-- the other side: n times one pair -/
theorem dp_saidR {K : PySem.W.Frag} {H : Hp} {D t : Addr} {n : Nat} {w : Str} {v : V} {x : PyData} (hD : H D = some (.lst (List.replicate n [V.ref t]).flatten)) (ht : H t = some (.tup [.str w, v])) (hv : Lone v x) : Dp K H (.ref D) (.list (List.replicate n (pdW w x))) := by
  rw [flat_one] at hD
  exact dp_said hD List.length_replicate (fun r hr => ⟨t, List.eq_of_mem_replicate hr, ht⟩) hv
theorem ne_said {w : Str} {v : V} {x : PyData} (hw : PyData.canLay0 (.str w) = true) (hv : Lone v x) (n : Nat) : V.bl (!PyData.eqv (.list (List.replicate n (pdW w x))) (.list (List.replicate n (pdW w x)))) = V.bl false := by
  rw [eqv_same (shaped_said hw hv n)]
  rfl
theorem ne_word {w : Str} {v : V} {x : PyData} (hw : PyData.canLay0 (.str w) = true) (hv : Lone v x) : V.bl (!PyData.eqv (pdW w x) (pdW w x)) = V.bl false := by
  rw [eqv_same (shaped_word hw hv)]
  rfl
end L2
namespace L2
open PySem PySem.Spec PyProof.Rows LamX
theorem take_int {ns : List Int} {at_ j : Nat} {odd : V} {rest : List V} {y : V} (ha : at_ ≤ ns.length) (hj : j < at_) (hy : ((ns.map V.int).take at_ ++ odd :: rest)[j]? = some y) : ∃ z, y = .int z := by
  rw [List.getElem?_append_left (by rw [List.length_take, List.length_map]; omega), List.getElem?_take_of_lt hj, List.getElem?_map] at hy
  cases e : ns[j]? with
  | none => rw [e] at hy; cases hy
  | some z => rw [e] at hy; exact ⟨z, (Option.some.inj hy).symm⟩
/-- one thing put in that is no whole number -/
theorem keys_put {H : Hp} {p : Addr} {ns : List Int} {at_ : Nat} {odd : V} {To : String} {rest xs : List V} {lo hi : Int} (h : RowAt H p xs) (e : xs = (ns.map V.int).take at_ ++ odd :: rest) (ha : at_ ≤ ns.length) (h0 : lo ≤ 0) (hl : ((at_ + rest.length + 1 : Nat) : Int) ≤ hi) (ho : AnyV H odd To) (hi_ : isI odd = false) : KeysQ H (.ref p) lo hi (some (at_ : Int)) := by
  subst e
  have lt : ((ns.map V.int).take at_).length = at_ := by rw [List.length_take, List.length_map]; omega
  refine .item rfl h ?_ (x := odd) ?_ ⟨To, ho, hi_.symm⟩ fun j y hj hy => ?_
  · rw [List.length_append, lt, List.length_cons]
    omega
  · rw [List.getElem?_append_right (by omega), lt, Nat.sub_self]
    rfl
  · obtain ⟨z, rfl⟩ := take_int ha hj hy
    exact ⟨_, .int z, rfl⟩
theorem keys_rep {H : Hp} {p : Addr} {k : Nat} {i : Int} (h : RowAt H p (List.replicate k (V.int i))) (hk : 2000 < k) : KeysQ H (.ref p) 0 2000 (some (-1)) := .len rfl h (by rw [List.length_replicate]; omega)
end L2
namespace L2
open PySem PySem.Spec PyProof.Rows LamX
/-- which error a call lets out, by its class, field and word -/
def EErr (L : List (Addr × Str × Str)) (Q : VK) : XK := fun cls d H' => ∃ dx C f w v, d = some dx ∧ (C, f, w) ∈ L ∧ cls = .ref C ∧ H' dx = some (.xd [(f, v)]) ∧ ∀ t H'', Same H' H'' → H'' t = some (.tup [.str w, v]) → Q (.ref t) H''
theorem eErr {L : List (Addr × Str × Str)} {Q : VK} {C : Addr} {f w : Str} {v : V} {H : Hp} (h : (C, f, w) ∈ L) (q : ∀ t H', Same H H' → H' t = some (.tup [.str w, v]) → Q (.ref t) H') : Rz (EErr L Q) H C f v := fun dx H' s _ e => ⟨dx, C, f, w, v, rfl, h, rfl, e, fun t H'' s2 ht => q t H'' (s.trans s2) ht⟩
/-- .. and what is told if none comes -/
def TTerr (L : List (Addr × Str × Str)) (end_ : V) : (XK → Hp → VK → Prop) → Hp → VK → Prop := fun tl H Q => tl (EErr L Q) H fun _ H' => Q end_ H'
/-- an answer, or none -/
def okBool (H : Hp) (v : V) (b : Bool) : Prop := ∃ T, AnyV H v T ∧ b = decide (T = "bool")
theorem okBool.ext {H H' : Hp} {v : V} {b : Bool} (e : ExtN H H') (h : okBool H v b) : okBool H' v b := h.imp fun _ h => ⟨h.1.ext e, h.2⟩
abbrev AnsQ := RowQ okBool
theorem ansExt {H H' : Hp} {v : V} {lo hi : Int} {r : Option Int} (e : ExtN H H') (h : AnsQ H v lo hi r) : AnsQ H' v lo hi r := RowQ.ext (ok := okBool) (fun {H1 H2 v b} e h => okBool.ext (H := H1) (H' := H2) (v := v) (b := b) e h) e h
theorem AnyV.kitBool {K : PySem.W.Frag} {H : Hp} {v : V} {T : String} (h : AnyV H v T) : PySem.W.kitOne K (.type T) (.type "bool") = some (decide (T = "bool")) := by
  cases h <;> exact kit_ty (by decide +kernel)
end L2

/-! lambdas that stand in lists, called one by one in a comprehension of the def that made them -/
namespace L2
open PySem PySem.Spec PyProof.Rows PySem.W LamX
/-- at f stands a lambda of X's text: t is what its body does -/
def LamRun (X : Cx) (k : Nat) (t : XK → TE) (f : Addr) (H : Hp) : Prop := ∃ params body scope, LamAt H f (lamD X params body scope) ∧ LamGood X k params body scope t
theorem LamRun.ext {X : Cx} {k : Nat} {t : XK → TE} {f : Addr} {H H' : Hp} (e : ExtN H H') (h : LamRun X k t f H) : LamRun X k t f H' := by
  obtain ⟨a, b, c, h1, h2⟩ := h
  exact ⟨a, b, c, h1.ext e, h2⟩
def tLamR (X : Cx) (k : Nat) (T : List (Addr × Str)) (t : XK → TE) : TE := fun σ H Q => Tabs T H ∧ ∀ (H1 : Hp) (f : Addr), ExtN H H1 → Tabs T H1 → LamRun X k t f H1 → Q (.ref f) H1
section
variable {X : Cx}
theorem pe_lamR {k : Nat} {T : List (Addr × Str)} {c P : Addr} {params : Arguments} {body : Expr} {scope : Scope} {pos : Pos} {t : XK → TE} (TB : TabB X.base X.mg c P) (hcode : X.env.code = .ref c) (hmT : (P, X.env.qual ++ "<lambda>") ∈ T) (hu : ∀ p ∈ T, p.1 = P → p.2 = X.env.qual ++ "<lambda>")
    (hfree : ∀ y ∈ scope.names, y.2 = .free → X.env.scope.names.lookup y.1 = some .cell ∨ X.env.scope.names.lookup y.1 = some .free)
    (hk0 : params.kw_defaults = []) (hdef : params.defaults = [] ∨ ∃ j pc, params.defaults = [.Constant (.int 0) j pc]) (LG : LamGood X k params body scope t) : PE X (.Lambda params body scope pos) (tLamR X k T t) :=
  ⟨fun pins s σ H Q I h => (pe_lamO TB hcode hmT hu hfree hk0 hdef).run pins s σ H Q I ⟨h.1, fun H1 f e1 T1 _ hL => h.2 H1 f e1 T1 ⟨_, _, _, hL, LG⟩⟩⟩
/-- x(e), e a kept lambda of this def -/
theorem pe_callLamR {TT : (XK → Hp → VK → Prop) → Hp → VK → Prop} {x a : Str} {st : Stmt} {g : Addr} {k : Nat} {fd : FuncData} {Ng : List Str} {e : Expr} {te : TE} {p pos : Pos}
    (F : Fun X.K x x st g fd) (hg : Gl X x) (hm : X.mg x = some (.ref g)) (hk : PySem.W.keepIn X.K (.ref g) = true) (hb : L2.Binds X.K fd [a] []) (Sg : FnScope Ng [a] (defScope st)) (hNg : Ng[0]? = some a) (hva : Vis (defScope st) a)
    (hG : GivesTo1 X.prog X.w X.K X.mg X.base (k + 1) Ng x (defScope st) g (defBody st) a TT) (hr : Room (k + 2) X.A) (he : PE X e te)
    (hst : starEach [e] X.env = (false, eval e X.env) :: starEach [] X.env := by rfl) (hpl : (backTo pos (starEach [] X.env)).any (·.1) = false := by rfl)
    (hdb : (x == ("__debug__" : Str)) = false := by decide) (hd : (a == ("__debug__" : Str)) = false := by decide) (hcd : (a == ("__classdict__" : Str)) = false := by decide) :
    PE X (.Call (.Name x p) [e] [] pos) (fun σ H Q => te σ H fun v H1 => ∃ f t, v = .ref f ∧ LamRun X k t f H1 ∧ TT (fun E H' Q' => t E σ H' Q') H1 Q) := by
  refine ⟨fun pins s σ H Q I h => ?_⟩
  refine wpAny_Call_Name_kw (ld_glob I hg hm ?_ hdb)
  refine PySem.W.callWith_K (h₀ := X.base) I.ok.mod.kin hk ?_ hst hpl
  refine thn ((pa_cons he pa_nil hst).run pos pins s σ H (fun vs H1 => match vs with | [v] => ∃ f t, v = .ref f ∧ LamRun X k t f H1 ∧ TT (fun E H' Q' => t E σ H' Q') H1 Q | _ => False) I h) fun us s1 ⟨vs, H1, I1, r, q⟩ => ?_
  match vs, q, r with
  | [v], q, r =>
  obtain ⟨f, t, rfl, ⟨params, body, scope, hL, LG⟩, q⟩ := q
  obtain rfl := Vals.ref1 r
  refine ⟨I1.kIn, wpAny_call (codeAny_mono (run_lamO F hb Sg hNg hva hG LG hr I1 hL q hd hcd) fun r s2 hq => ?_)⟩
  cases r with
  | error e => exact (show False from hq).elim
  | ok fl =>
    cases fl with
    | ret u => exact I1.after hq
    | next => exact False.elim hq
    | brk => exact False.elim hq
    | cont => exact False.elim hq
/-- what a block's turns know: the def that waits, and the walk's own objects -/
structure Held0 (X : Cx) (pins : List (Addr × Obj)) (σ : L2.St) (H : Hp) (s : Shared) (fp : List Addr) : Prop where
  inv : Inv X pins σ H s
  fps : ∀ b ∈ fp, FpOk X pins H b ∧ b < s.heap.objs.size
theorem Held0.back {pins : List (Addr × Obj)} {σ : L2.St} {H H' : Hp} {s s' : Shared} {fp : List Addr} {scope : Scope} {ce : Env} {pins' : List (Addr × Obj)} {σ' : L2.St} (B : Held0 X pins σ H s fp) (I : Inv (X.blk s H scope ce fp) pins' σ' H' s') : Inv X pins σ H' s' :=
  B.inv.call' (ch := fp) I.os I.base I.hok I.bare fun b hb => ⟨(B.fps b hb).1.2.2.2.1, (B.fps b hb).1.2.1, (B.fps b hb).1.2.2.2.2.1, (B.fps b hb).1.2.2.2.2.2⟩
/-- .. in a comprehension's block -/
abbrev tLamB (X : Cx) (k : Nat) (TT : (XK → Hp → VK → Prop) → Hp → VK → Prop) (σ : L2.St) (te : TE) : TE := fun σB HB Q => te σB HB fun v H1 => ∃ f t, v = .ref f ∧ LamRun X k t f H1 ∧ TT (fun E H' Q' => t E σ H' Q') H1 Q
theorem pe_callLamB {TT : (XK → Hp → VK → Prop) → Hp → VK → Prop} {x a : Str} {st : Stmt} {g : Addr} {k : Nat} {fd : FuncData} {Ng : List Str} {e : Expr} {te : TE} {p pos : Pos} {pins : List (Addr × Obj)} {σ : L2.St} {H : Hp} {s : Shared} {fp : List Addr} {scope : Scope} {ce : Env}
    (B : Held0 X pins σ H s fp) (F : Fun X.K x x st g fd) (hg : Gl (X.blk s H scope ce fp) x) (hm : X.mg x = some (.ref g)) (hk : PySem.W.keepIn X.K (.ref g) = true) (hb : L2.Binds X.K fd [a] []) (Sg : FnScope Ng [a] (defScope st)) (hNg : Ng[0]? = some a) (hva : Vis (defScope st) a)
    (hG : GivesTo1 X.prog X.w X.K X.mg X.base (k + 1) Ng x (defScope st) g (defBody st) a TT) (hr : Room (k + 2) X.A) (he : PE (X.blk s H scope ce fp) e te)
    (hst : starEach [e] ce = (false, eval e ce) :: starEach [] ce := by rfl) (hpl : (backTo pos (starEach [] ce)).any (·.1) = false := by rfl)
    (hdb : (x == ("__debug__" : Str)) = false := by decide) (hd : (a == ("__debug__" : Str)) = false := by decide) (hcd : (a == ("__classdict__" : Str)) = false := by decide) :
    PE (X.blk s H scope ce fp) (.Call (.Name x p) [e] [] pos) (tLamB X k TT σ te) := by
  refine ⟨fun pinsB sB σB HB Q IB h => ?_⟩
  refine wpAny_Call_Name_kw (ld_glob IB hg hm ?_ hdb)
  refine PySem.W.callWith_K (h₀ := X.base) IB.ok.mod.kin hk ?_ hst hpl
  refine thn ((pa_cons he pa_nil hst).run pos pinsB sB σB HB (fun vs H1 => match vs with | [v] => ∃ f t, v = .ref f ∧ LamRun X k t f H1 ∧ TT (fun E H' Q' => t E σ H' Q') H1 Q | _ => False) IB h) fun us s1 ⟨vs, H1, I1, r, q⟩ => ?_
  match vs, q, r with
  | [v], q, r =>
  obtain ⟨f, t, rfl, ⟨params, body, scope, hL, LG⟩, q⟩ := q
  obtain rfl := Vals.ref1 r
  have rc := run_lamO (X := X) F hb Sg hNg hva hG LG hr (B.back I1) hL q hd hcd
  refine ⟨I1.kIn, wpAny_call (codeAny_mono rc fun r s2 hq => ?_)⟩
  cases r with
  | error e => exact (show False from hq).elim
  | ok fl =>
    cases fl with
    | ret u => exact I1.after hq
    | next => exact False.elim hq
    | brk => exact False.elim hq
    | cont => exact False.elim hq
end
section
variable {X : Cx}
/-- a comprehension whose turns know the def that waits -/
theorem pe_lcH {elt tg iter : Expr} {scope : Scope} {own : List (Str × Nat)} {pos : Pos} {wi : TI} {g : TG} {te : L2.St → TE} (hc : X.calm = true) (hN : X.N.Nodup) (hi : PI X tg iter wi) (ok : BlkOk X.N X.env.scope scope own)
    (hg : ∀ (s : Shared) (H : Hp) (C : Addr) (cl : List (Str × Addr)) (fp : List Addr), PG (X.blk s H scope (compEnvC scope cl C X.env) fp) tg g)
    (he : ∀ (pins : List (Addr × Obj)) (σ : L2.St) (s : Shared) (H : Hp) (C : Addr) (cl : List (Str × Addr)) (fp : List Addr), Held0 X pins σ H s fp → PE (X.blk s H scope (compEnvC scope cl C X.env) fp) elt (te σ)) (hs : ∀ x, foldedSetIterable iter X.env x = pure x := by intro _; rfl) :
    PE X (.ListComp elt [⟨tg, iter, [], 0⟩] scope pos) (fun σ H Q => tLc wi g tYes (te σ) (own.map (·.2)) σ H Q) := by
  constructor
  intro pins s σ H Q I h
  have cells : ∀ y ∈ scope.names, y.2 = .free → ∃ c, X.env.cells.lookup y.1 = some c := fun y hy e => (ok.free y hy e).elim (fun k => I.ok.has _ (.inl k)) fun k => I.ok.has _ (.inr k)
  rw [eval_ListComp]
  refine wpAny_comprehension_free (use := none) rfl hs (closure_ok cells) ok.kind (fun y hy e => (ok.uniq y hy).trans (by rw [e])) (thn (hi.run pins s σ H _ I h) fun _ _ hx => thn hx fun _ s2 h2 => ?_)
  obtain ⟨it, fp, tn, J, H2, rfl, I2, T, st2, f2, q⟩ := h2
  refine wpAny_newObj_type (newEnv_comp ?_) (by show 0 ≤ sizeLine; decide)
  have nD : H2 s2.heap.objs.size = none := I2.hok.fresh (Nat.le_refl _)
  obtain ⟨W, ⟨m0, w0⟩, turn⟩ := q _ nD
  have I3 := I2.laid (t' := s2.toks) (h' := s2.heap.push { cls := .type "list", data := .seq ([] : List Value).toArray }) (a := s2.heap.objs.size) (o := .lst []) (fun b o e => Heap.get?_push_of_some _ e) (Nat.le_refl _) ⟨Nat.zero_le _, [], 0, .nil, Heap.get?_push_size _ rfl⟩
  have B3 : ∀ b ∈ fp, FpOk X pins (upd H2 s2.heap.objs.size (.lst [])) b ∧ b < (s2.heap.push { cls := .type "list", data := .seq ([] : List Value).toArray }).objs.size := fun b hb => by
    obtain ⟨o, e, _⟩ := T.obj _ _ st2 b hb
    have l := Heap.lt_size e
    exact ⟨⟨(upd_ne (Nat.ne_of_lt l)).trans (f2 b hb).1, (f2 b hb).2⟩, by rw [Heap.size_push]; exact Nat.lt_succ_of_lt l⟩
  have t3 : tn 0 (s2.heap.push { cls := .type "list", data := .seq ([] : List Value).toArray }) := T.keep _ _ _ st2 fun b _ o e => Heap.get?_push_of_some _ e
  generalize hs3 : ({ s2 with heap := s2.heap.push { cls := .type "list", data := .seq ([] : List Value).toArray } } : Shared) = s3 at I3
  have e3 : s3.heap = s2.heap.push { cls := .type "list", data := .seq ([] : List Value).toArray } := by rw [← hs3]
  rw [← e3] at B3 t3
  generalize hDD : s2.heap.objs.size = D at nD w0 turn I3 B3 ⊢
  generalize hH3 : upd H2 D (.lst []) = H3 at I3 B3 w0
  have HB : Held0 X pins σ H3 s3 fp := ⟨I3, B3⟩
  have I4 := block_start I3 ok hN B3
  have pg := hg s3 H3 s3.heap.objs.size (cellsFrom (s3.heap.objs.size + 1) scope.names (cloFrom X.env.cells scope.names [])) fp
  have pe := he pins σ s3 H3 s3.heap.objs.size (cellsFrom (s3.heap.objs.size + 1) scope.names (cloFrom X.env.cells scope.names [])) fp HB
  show codeAny _ _ (.compStart (.ListComp elt [⟨tg, iter, [], 0⟩] scope pos) 0 (.ref it) (.ref D) (compEnvC scope (cellsFrom (s3.heap.objs.size + 1) scope.names (cloFrom X.env.cells scope.names [])) s3.heap.objs.size X.env)) (compPost (model X.prog X.w) X.A X.xe none _ (.ref D) s3.heap.objs.size) { s3 with heap := pushCells (s3.heap.push { cls := .type "dict", data := .dict #[] }) scope.names }
  generalize hce : compEnvC scope (cellsFrom (s3.heap.objs.size + 1) scope.names (cloFrom X.env.cells scope.names [])) s3.heap.objs.size X.env = ce at I4 pg pe ⊢
  have cL : ce.locals = s3.heap.objs.size := by rw [← hce]; rfl
  have t4 : tn 0 (pushCells (s3.heap.push { cls := .type "dict", data := .dict #[] }) scope.names) := T.keep _ _ _ t3 fun b _ o e => pushCells_keeps _ _ _ _ (Heap.get?_push_of_some _ e)
  generalize hs4 : ({ s3 with heap := pushCells (s3.heap.push { cls := .type "dict", data := .dict #[] }) scope.names } : Shared) = s4 at I4 ⊢
  have t4 : tn 0 s4.heap := by rw [← hs4]; exact t4
  have stay : ∀ {σ' : L2.St} {H' : Hp} {s' : Shared}, Inv (X.blk s3 H3 scope ce fp) [] σ' H' s' → (∀ b ∈ fp, H' b = none) → ∀ b ∈ fp, FpOk (X.blk s3 H3 scope ce fp) [] H' b := fun {σ' H' s'} I' hn b hb =>
    ⟨hn b hb, (I'.ok.exf b hb).1, I'.ok.exfs b hb, .inl hb, fun x c e => (I'.ok.exf b hb).2 x c e, fun p hp => absurd (show p ∈ ([] : List (Addr × Obj)) ++ [] from hp) (by simp)⟩
  have go : codeAny (model X.prog X.w) X.A (.compLoop (.ListComp elt [⟨tg, iter, [], 0⟩] scope pos) 0 (.ref it) (.ref D) ce) (compPost (model X.prog X.w) X.A X.xe none (EP X pins σ Q) (.ref D) s3.heap.objs.size) s4 := by
    refine compLoop_any (fun n s' => ∃ i H', Inv (X.blk s3 H3 scope ce fp) [] (wipe σ (own.map (·.2))) H' s' ∧ tn i s'.heap ∧ (∀ b ∈ fp, H' b = none) ∧ W i n H') (fun n s5 => ?_) m0 ⟨0, H3, I4, t4, fun b hb => (B3 b hb).1.1, w0⟩
    rintro ⟨i, H5, I5, t5, n5, w5⟩
    rcases turn i n H5 w5 with ⟨stop, done⟩ | ⟨go, Nx, hNx, step⟩
    · refine thnF (T.done (X.blk s3 H3 scope ce fp) rfl rfl rfl hc i [] s5 _ H5 (fun _ _ => False) I5 (stay I5 n5) t5 stop) fun r s6 ⟨hr, I6⟩ => ?_
      subst hr
      have I7 := HB.back I6
      have nC : H5 s3.heap.objs.size = none := cL ▸ (show H5 ce.locals = none from I6.free)
      obtain ⟨m, hn, _⟩ := I6.loc
      have hn : s6.heap.Ns ce.locals m := hn
      rw [cL] at hn
      obtain ⟨k0, k1, k2, k3, k4, k5⟩ := I3.fpOk (Nat.le_refl _) nC
      exact ⟨m, hn, fun h' sb => ⟨.ref D, H5, I7.turned (t' := s6.toks) (fun b o hb e => (sb.2 b hb).trans e) k0 k1 k3 k4 k5, rfl, done⟩⟩
    · refine thnF (T.item (X.blk s3 H3 scope ce fp) rfl rfl rfl hc i [] s5 _ H5 (fun _ _ => False) I5 (stay I5 n5) t5 go) fun r s6 ⟨u, hr, h6⟩ => ?_
      subst hr
      refine thnF h6 fun _ s7 ⟨x, H7, I7, r7, y7, t7, n7⟩ => ?_
      refine thnF (pg.run _ s7 _ H7 x u _ (I7.pinned (stay I7 n7) (T.obj _ _ t7)) r7 (step x H7 y7)) fun _ s8 ⟨σ8, H8, I8, hw8, q8⟩ => ?_
      refine thnF ((pts_nil (X := X.blk s3 H3 scope ce fp)).run _ s8 σ8 H8 _ I8 q8) fun b s9 ⟨H9, I9, q9⟩ => ?_
      have fin : ∀ {s' : Shared} {H' : Hp}, Inv (X.blk s3 H3 scope ce fp) ([] ++ pinsAt fp s7.heap) σ8 H' s' → Nx H' → ∃ m, m < n ∧ ∃ i H', Inv (X.blk s3 H3 scope ce fp) [] (wipe σ (own.map (·.2))) H' s' ∧ tn i s'.heap ∧ (∀ b ∈ fp, H' b = none) ∧ W i m H' := fun {s' H'} I' nx => by
        obtain ⟨m', hm, w'⟩ := hNx H' nx
        have pin : ∀ b ∈ fp, ∀ o, s7.heap.get? b = some o → s'.heap.get? b = some o ∧ H' b = none := fun b hb o e => ⟨(I'.pin (b, o) (List.mem_append_right _ (List.mem_append_right _ (mem_pinsAt hb e)))).1, (I'.pin (b, o) (List.mem_append_right _ (List.mem_append_right _ (mem_pinsAt hb e)))).2.1⟩
        refine ⟨m', hm, i + 1, H', (I'.unpinned (pins := [])).weak ?_ (fun j v e => ?_), T.keep _ _ _ t7 fun b hb o e => (pin b hb o e).1, fun b hb => ?_, w'⟩
        · rw [← hw8, wipe_length]
        · rw [← hw8] at e
          exact (wipe_some e).1
        · obtain ⟨o, e, _⟩ := T.obj _ _ t7 b hb
          exact (pin b hb o e).2
      cases b with
      | false =>
        simp only [Bool.false_eq_true, if_false] at q9 ⊢
        exact fin I9 q9
      | true =>
        simp only [if_true] at q9 ⊢
        refine thnF (pe.run _ s9 σ8 H9 _ I9 q9) fun z s10 ⟨yv, H10, I10, r10, acc, hD10, hz10, nx⟩ => ?_
        exact app_ok (X := X.blk s3 H3 scope ce fp) I10 hD10 hz10 r10 fun s11 I11 => fin I11 nx
  exact codeAny_compStart_list go (T.self X.A 0 _ _ _ t4 go)
end
end L2
namespace L2
open PySem PySem.Spec PyProof.Rows PySem.W LamX
theorem tabsPut {TT : List (Addr × Str)} {H : Hp} {D : Addr} {xs : List V} {o : HO} (t : Tabs TT H) (hs : H D = some (.lst xs)) : Tabs TT (upd H D o) := fun p hp => by
  obtain ⟨ps, h1, h2, h3⟩ := t p hp
  refine ⟨ps, ?_, h2, fun pos cv hc => ?_⟩
  · rw [upd_ne (fun e => by rw [e, hs] at h1; cases h1)]
    exact h1
  · obtain ⟨c, e1, e2⟩ := h3 pos cv hc
    refine ⟨c, e1, ?_⟩
    rw [upd_ne (fun e => ?_)]
    · exact e2
    · rw [e, hs] at e2
      have e3 := Option.some.inj e2
      unfold LamX.CodeO at e3
      cases e3
theorem LamRun.put {X : Cx} {k : Nat} {t : XK → TE} {f : Addr} {H : Hp} {D : Addr} {xs : List V} {o : HO} (h : LamRun X k t f H) (h4 : H D = some (.lst xs)) : LamRun X k t f (upd H D o) := by
  obtain ⟨p1, p2, p3, ⟨c', dV, z1, z2, z3⟩, z4⟩ := h
  have nf : ∀ {b : Addr} {q : HO}, H b = some q → (∀ xs, q ≠ .lst xs) → upd H D o b = some q := fun {b q} h n => by
    rw [upd_ne (fun q => by rw [q, h4] at h; exact n _ (Option.some.inj h).symm)]
    exact h
  exact ⟨p1, p2, p3, ⟨c', dV, nf z1 (fun xs y => by unfold FunO at y; cases y), nf z2 (fun xs y => by unfold LamX.CodeO at y; cases y), z3.imp id fun ⟨n, t0, y1, y2⟩ => ⟨n, t0, y1, nf y2 fun xs y => by cases y⟩⟩, z4⟩
/-- what calls have told so far, one by one -/
def SaidInv (T : List (Addr × Str)) (H5 : Hp) (D : Addr) (w : Str) (v : V) (i : Nat) (H' : Hp) : Prop := ExtN H5 H' ∧ Tabs T H' ∧ ∃ ts : List V, H' D = some (.lst ts) ∧ ts.length = i ∧ ∀ r ∈ ts, ∃ t, r = .ref t ∧ H' t = some (.tup [.str w, v])
theorem SaidInv.init {T : List (Addr × Str)} {H5 : Hp} {D : Addr} {w : Str} {v : V} (hD : H5 D = none) (T5 : Tabs T H5) : SaidInv T H5 D w v 0 (upd H5 D (.lst [])) := ⟨.of (same_upd hD), T5.ext (same_upd hD), [], upd_same, rfl, fun r h => by cases h⟩
theorem SaidInv.next {T : List (Addr × Str)} {H5 H' H'' : Hp} {D t : Addr} {w : Str} {v : V} {i : Nat} (h5 : H5 D = none) (I : SaidInv T H5 D w v i H') (e : ExtN H' H'') (T2 : Tabs T H'') (ht : H'' t = some (.tup [.str w, v])) (hi : i < 1000) : ∃ acc, H'' D = some (.lst acc) ∧ acc.length < sizeLine ∧ SaidInv T H5 D w v (i + 1) (upd H'' D (.lst (acc ++ [.ref t]))) := by
  obtain ⟨e1, _, ts, hD, lt, hts⟩ := I
  have hD2 := e _ _ hD fun ps z => by cases z
  have nD : ∀ {z : Addr}, H'' z = some (.tup [.str w, v]) → z ≠ D := fun h q => by rw [q, hD2] at h; cases h
  refine ⟨ts, hD2, Nat.lt_trans (by omega : ts.length < 1000) (by decide), fun b o h n => ?_, tabsPut T2 hD2, ts ++ [.ref t], upd_same, by rw [List.length_append, lt]; rfl, fun r hr => ?_⟩
  · rw [upd_ne (ne_of_none h h5)]
    exact e _ _ (e1 _ _ h n) n
  · rcases List.mem_append.mp hr with hr | hr
    · obtain ⟨z, rfl, hz⟩ := hts r hr
      have hz2 := e _ _ hz fun ps z => by cases z
      exact ⟨z, rfl, by rw [upd_ne (nD hz2)]; exact hz2⟩
    · rw [List.mem_singleton.mp hr]
      exact ⟨t, rfl, by rw [upd_ne (nD ht)]; exact ht⟩
theorem eq_said {w : Str} {v : V} {x : PyData} (hw : PyData.canLay0 (.str w) = true) (hv : Lone v x) (n : Nat) : V.bl (PyData.eqv (.list (List.replicate n (pdW w x))) (.list (List.replicate n (pdW w x)))) = V.bl true := by
  rw [eqv_same (shaped_said hw hv n)]
theorem eq_word {w : Str} {v : V} {x : PyData} (hw : PyData.canLay0 (.str w) = true) (hv : Lone v x) : V.bl (PyData.eqv (pdW w x) (pdW w x)) = V.bl true := by
  rw [eqv_same (shaped_word hw hv)]
end L2

/-! a comprehension of draws, each with a property -/
namespace L2
open PySem PySem.Spec PyProof.Rows
theorem lc_intsP {te : TE} {σ : L2.St} {H1 : Hp} {D p : Addr} {n j : Nat} {vs : List Nat} {Qd : Hp → Prop} (Pr : Int → Prop) (hn : n ≤ 1000000) (hs : Src H1 p) (hD : H1 D = none)
    (hw : ∀ v, wipe ((wipe σ vs).set j v) vs = wipe σ vs)
    (he : ∀ (k : Nat) (H3 : Hp) (R : VK), k < n → Dn p H1 H3 → (∀ (v : Int) (H4 : Hp), Pr v → Dn p H3 H4 → R (.int v) H4) → te ((wipe σ vs).set j (some (.int (0 + (k : Nat))))) H3 R)
    (hd : ∀ (ms : List Int) (H' : Hp), ms.length = n → (∀ v ∈ ms, Pr v) → Dn p H1 H' → H' D = some (.lst (ms.map V.int)) → Qd H') :
    ∃ W : Nat → Nat → Hp → Prop, (∃ m, W 0 m (L2.upd H1 D (.lst []))) ∧ ∀ i m H, W i m H →
      ((Itr 0 n).stop i H ∧ Qd H) ∨ ((Itr 0 n).go i H ∧ ∃ Nx : Hp → Prop, (∀ H', Nx H' → ∃ m', m' < m ∧ W (i + 1) m' H') ∧ ∀ x H', (Itr 0 n).yld i H x H' → gName j x (wipe σ vs) H' fun σ2 H2 => wipe σ2 vs = wipe σ vs ∧ tYes σ2 H2 fun b H3 =>
        if b = true then te σ2 H3 fun y H4 => ∃ acc, H4 D = some (.lst acc) ∧ acc.length < sizeLine ∧ Nx (L2.upd H4 D (.lst (acc ++ [y]))) else Nx H3) := by
  have nD : D ≠ p := hs.ne hD
  refine lc_range (lo := 0) (n := n) (fun i H => ∃ ms : List Int, ms.length = i ∧ (∀ v ∈ ms, Pr v) ∧ Dn p H1 H ∧ H D = some (.lst (ms.map V.int))) ⟨[], rfl, fun v h => by simp at h, (Dn.refl hs).new hD, upd_same⟩ ?_ ?_
  · rintro i H hi ⟨ms, hl, hp, dr, hh⟩
    refine ⟨hw _, ?_⟩
    refine he i H _ hi dr fun v H4 pv d4 => ?_
    have h4 := d4.1 _ _ nD hh
    refine ⟨_, h4, ?_, ms ++ [v], by simp [hl], fun z hz => ?_, ?_, ?_⟩
    · rw [List.length_map, hl]
      exact Nat.lt_of_le_of_lt (Nat.le_trans (Nat.le_of_lt hi) hn) (by decide)
    · rcases List.mem_append.mp hz with h | h
      · exact hp z h
      · rw [List.mem_singleton.mp h]
        exact pv
    · have dd := dr.trans d4
      refine ⟨fun b o nb e => ?_, dd.2.upd nD⟩
      rw [upd_ne (ne_of_none e hD)]
      exact dd.1 b o nb e
    · rw [show (ms ++ [v]).map V.int = ms.map V.int ++ [V.int v] from by simp]
      exact upd_same
  · rintro H ⟨ms, hl, hp, dr, hh⟩
    exact hd ms H hl hp dr hh
/-- tuple(x), whatever the frame is -/
def rTupOf (K : PySem.W.Frag) : List V → Hp → VK → Prop := fun xs H Q => ∃ p ys, xs = [V.ref p] ∧ ((SqL K H p ys ∧ ∀ l, H l = none → Q (.ref l) (upd H l (.tup ys))) ∨ (SqT K H p ys ∧ Q (.ref p) H))
theorem seqN {K : PySem.W.Frag} {H H' : Hp} {a : Addr} {xs : List V} (e : LamX.ExtN H H') (h : SqL K H a xs) : SqL K H' a xs := by
  rcases h with (h | ⟨o, h⟩) | h
  · exact .inl (.inl (e _ _ h fun ps z => by cases z))
  · exact .inl (.inr ⟨o, e _ _ h fun ps z => by cases z⟩)
  · exact .inr h
theorem lc_boolsD {te : TE} {σ : L2.St} {H1 : Hp} {D p : Addr} {n j : Nat} {vs : List Nat} {Qd : Hp → Prop} (hn : n ≤ 1000000) (hs : Src H1 p) (hD : H1 D = none)
    (hw : ∀ v, wipe ((wipe σ vs).set j v) vs = wipe σ vs)
    (he : ∀ (k : Nat) (H3 : Hp) (R : VK), k < n → Dn p H1 H3 → (∀ (v : Bool) (H4 : Hp), Dn p H3 H4 → R (.bl v) H4) → te ((wipe σ vs).set j (some (.int (0 + (k : Nat))))) H3 R)
    (hd : ∀ (ms : List Bool) (H' : Hp), ms.length = n → Dn p H1 H' → H' D = some (.lst (ms.map V.bl)) → Qd H') :
    ∃ W : Nat → Nat → Hp → Prop, (∃ m, W 0 m (L2.upd H1 D (.lst []))) ∧ ∀ i m H, W i m H →
      ((Itr 0 n).stop i H ∧ Qd H) ∨ ((Itr 0 n).go i H ∧ ∃ Nx : Hp → Prop, (∀ H', Nx H' → ∃ m', m' < m ∧ W (i + 1) m' H') ∧ ∀ x H', (Itr 0 n).yld i H x H' → gName j x (wipe σ vs) H' fun σ2 H2 => wipe σ2 vs = wipe σ vs ∧ tYes σ2 H2 fun b H3 =>
        if b = true then te σ2 H3 fun y H4 => ∃ acc, H4 D = some (.lst acc) ∧ acc.length < sizeLine ∧ Nx (L2.upd H4 D (.lst (acc ++ [y]))) else Nx H3) := by
  have nD : D ≠ p := hs.ne hD
  refine lc_range (lo := 0) (n := n) (fun i H => ∃ ms : List Bool, ms.length = i ∧ Dn p H1 H ∧ H D = some (.lst (ms.map V.bl))) ⟨[], rfl, (Dn.refl hs).new hD, upd_same⟩ ?_ ?_
  · rintro i H hi ⟨ms, hl, dr, hh⟩
    refine ⟨hw _, ?_⟩
    refine he i H _ hi dr fun v H4 d4 => ?_
    have h4 := d4.1 _ _ nD hh
    refine ⟨_, h4, ?_, ms ++ [v], by simp [hl], ?_, ?_⟩
    · rw [List.length_map, hl]
      exact Nat.lt_of_le_of_lt (Nat.le_trans (Nat.le_of_lt hi) hn) (by decide)
    · have dd := dr.trans d4
      refine ⟨fun b o nb e => ?_, dd.2.upd nD⟩
      rw [upd_ne (ne_of_none e hD)]
      exact dd.1 b o nb e
    · rw [show (ms ++ [v]).map V.bl = ms.map V.bl ++ [V.bl v] from by simp]
      exact upd_same
  · rintro H ⟨ms, hl, dr, hh⟩
    exact hd ms H hl dr hh
end L2

/-! readings of a row with something put in: xs[:i] + ys + xs[j:] -/
namespace L2
open PySem PySem.Spec PyProof.Rows LamX
section
variable {K : PySem.W.Frag} {σ : St} {H : Hp} {Q : VK}
/-- a part that is a number -/
def PartIs (σ : St) (t : TO) (o : Option Int) : Prop := ∀ H Q, Q o H → t σ H Q
theorem partNone : PartIs σ tNoPart none := fun _ _ q => q
theorem partVar {j : Nat} {i : Int} (h : σ[j]? = some (some (.int i))) : PartIs σ (tPart (tVar j)) (some i) := fun _ _ q => ⟨_, h, _, rfl, q⟩
/-- a slice of a list -/
theorem sl_go {i : Nat} {m : Addr} {xs : List V} {lo hi : TO} {l u : Option Int} (h1 : σ[i]? = some (some (.ref m))) (hm : H m = some (.lst xs)) (hl : PartIs σ lo l) (hu : PartIs σ hi u)
    (q : ∀ p H', H p = none → Same H H' → H' p = some (.lst (cutV xs l u)) → Q (.ref p) H') : tSl (rSlL K) (tVar i) lo hi σ H Q :=
  ⟨_, h1, hl _ _ (hu _ _ ⟨m, xs, rfl, L2.sq_of hm, fun p hp => q p _ hp (same_upd hp) upd_same⟩)⟩
/-- a displayed list of things that lie in the slots -/
def LstIs (σ : St) (t : TE) (ys : List V) : Prop := ∀ (H : Hp) (Q : VK), (∀ p H', Same H H' → H' p = some (.lst ys) → Q (.ref p) H') → t σ H Q
theorem cat_go {ta tb : TE} {xs ys : List V} {H : Hp} {Q : VK} (ha : ∀ Q1 : VK, (∀ p H', Same H H' → H' p = some (.lst xs) → Q1 (.ref p) H') → ta σ H Q1) (hb : ∀ (H1 : Hp) (Q1 : VK), Same H H1 → (∀ p H', Same H1 H' → H' p = some (.lst ys) → Q1 (.ref p) H') → tb σ H1 Q1)
    (sz : xs.length + ys.length ≤ sizeLine) (q : ∀ p H', H p = none → Same H H' → H' p = some (.lst (xs ++ ys)) → Q (.ref p) H') : tOp (rCatS K) ta tb σ H Q :=
  ha _ fun p1 H1 s1 k1 => hb H1 _ s1 fun p2 H2 s2 k2 => ⟨p1, p2, _, _, rfl, rfl, L2.sq_of (s2 _ _ k1), L2.sq_of k2, sz, fun p3 hp3 => q p3 _ ((s1.trans s2).free hp3) ((s1.trans s2).trans (same_upd hp3)) upd_same⟩
theorem cat3r {i : Nat} {m : Addr} {xs ys : List V} {k j : Nat} {tl : TE} {hi lo : TO} (h1 : σ[i]? = some (some (.ref m))) (hm : H m = some (.lst xs)) (hu : PartIs σ hi (some (k : Int))) (hlo : PartIs σ lo (some (j : Int))) (hl : ∀ (H1 : Hp) (Q1 : VK), Same H H1 → (∀ p H', Same H1 H' → H' p = some (.lst ys) → Q1 (.ref p) H') → tl σ H1 Q1)
    (sz : xs.length + ys.length + xs.length ≤ sizeLine) (q : ∀ p H', H p = none → Same H H' → H' p = some (.lst (xs.take k ++ ys ++ xs.drop j)) → Q (.ref p) H') :
    tOp (rCatS K) (tOp (rCatS K) (tSl (rSlL K) (tVar i) tNoPart hi) tl) (tSl (rSlL K) (tVar i) lo tNoPart) σ H Q := by
  have t1 : (xs.take k).length ≤ xs.length := by rw [List.length_take]; exact Nat.min_le_right _ _
  have t2 : (xs.drop j).length ≤ xs.length := by rw [List.length_drop]; exact Nat.sub_le _ _
  refine cat_go (xs := xs.take k ++ ys) (ys := xs.drop j) (fun Q1 q1 => cat_go (xs := xs.take k) (ys := ys) (fun Q2 q2 => sl_go h1 hm partNone hu fun p H' _ s e => q2 p H' s (by rw [← cut_take]; exact e)) (fun H1 Q2 s2 q2 => hl H1 Q2 s2 q2) (by omega) fun p H' _ => q1 p H')
    (fun H1 Q2 s1 q2 => sl_go h1 (s1 _ _ hm) hlo partNone fun p H' _ s e => q2 p H' s (by rw [← cut_drop]; exact e)) (by rw [List.length_append]; omega) q
theorem cat3 {i : Nat} {m : Addr} {xs ys : List V} {k j : Nat} {tl : TE} {hi lo : TO} (h1 : σ[i]? = some (some (.ref m))) (hm : H m = some (.lst xs)) (hu : PartIs σ hi (some (k : Int))) (hlo : PartIs σ lo (some (j : Int))) (hl : LstIs σ tl ys)
    (sz : xs.length + ys.length + xs.length ≤ sizeLine) (q : ∀ p H', H p = none → Same H H' → H' p = some (.lst (xs.take k ++ ys ++ xs.drop j)) → Q (.ref p) H') :
    tOp (rCatS K) (tOp (rCatS K) (tSl (rSlL K) (tVar i) tNoPart hi) tl) (tSl (rSlL K) (tVar i) lo tNoPart) σ H Q :=
  cat3r h1 hm hu hlo (fun H1 Q1 _ q1 => hl H1 Q1 q1) sz q
/-- xs + ys, xs a row in a slot -/
theorem cat2 {i : Nat} {m : Addr} {xs ys : List V} {tl : TE} (h1 : σ[i]? = some (some (.ref m))) (hm : H m = some (.lst xs)) (hl : LstIs σ tl ys) (sz : xs.length + ys.length ≤ sizeLine)
    (q : ∀ p H', H p = none → Same H H' → H' p = some (.lst (xs ++ ys)) → Q (.ref p) H') : tOp (rCatS K) (tVar i) tl σ H Q :=
  ⟨_, h1, hl _ _ fun p2 H2 s2 k2 => ⟨m, p2, _, _, rfl, rfl, L2.sq_of (s2 _ _ hm), L2.sq_of k2, sz, fun p3 hp3 => q p3 _ (s2.free hp3) (s2.trans (same_upd hp3)) upd_same⟩⟩
theorem lst1 {j : Nat} {v : V} (h : σ[j]? = some (some v)) : LstIs σ (tLst (tCons (tVar j) tNil)) [v] := fun H Q q => ⟨_, h, by show 1 ≤ sizeLine; decide, fun p hp => q p _ (same_upd hp) upd_same⟩
/-! ### displayed rows, item by item -/
def Stb (G : V → Hp → Prop) : Prop := ∀ v H H', Same H H' → G v H → G v H'
/-- each of the n things is one of G -/
def AllG (σ : St) (ta : TA) (G : V → Hp → Prop) (n : Nat) (H : Hp) : Prop := ∀ Q : List V → Hp → Prop, (∀ vs H', Same H H' → vs.length = n → (∀ y ∈ vs, G y H') → Q vs H') → ta σ H Q
def OneG (σ : St) (te : TE) (G : V → Hp → Prop) (H : Hp) : Prop := ∀ Q : VK, (∀ v H', Same H H' → G v H' → Q v H') → te σ H Q
theorem all_nil {G : V → Hp → Prop} {H : Hp} : AllG σ tNil G 0 H := fun Q q => q [] H (Same.refl H) rfl fun y hy => nomatch hy
theorem all_cons {G : V → Hp → Prop} (st : Stb G) {n : Nat} {te : TE} {ta : TA} {H : Hp} (h : OneG σ te G H) (t : ∀ H1, Same H H1 → AllG σ ta G n H1) : AllG σ (tCons te ta) G (n + 1) H := fun Q q =>
  h _ fun v H1 s1 g1 => t H1 s1 _ fun vs H2 s2 l2 g2 => q (v :: vs) H2 (s1.trans s2) (by rw [List.length_cons, l2]) fun y hy => by
    rcases List.mem_cons.mp hy with rfl | hy
    · exact st _ _ _ s2 g1
    · exact g2 y hy
theorem lst_all {G : V → Hp → Prop} (st : Stb G) {n : Nat} {ta : TA} (h : AllG σ ta G n H) (hn : n ≤ sizeLine) (q : ∀ p vs H', H p = none → Same H H' → H' p = some (.lst vs) → vs.length = n → (∀ y ∈ vs, G y H') → Q (.ref p) H') : tLst ta σ H Q :=
  h _ fun vs H1 s1 l1 g1 => ⟨by rw [l1]; exact hn, fun p hp => q p vs _ (s1.free hp) (s1.trans (same_upd hp)) upd_same l1 fun y hy => st _ _ _ (same_upd hp) (g1 y hy)⟩
theorem tup_all {G : V → Hp → Prop} (st : Stb G) {n : Nat} {ta : TA} (h : AllG σ ta G n H) (hn : n ≤ sizeLine) (q : ∀ p vs H', H p = none → Same H H' → H' p = some (.tup vs) → vs.length = n → (∀ y ∈ vs, G y H') → Q (.ref p) H') : tTup ta σ H Q :=
  h _ fun vs H1 s1 l1 g1 => ⟨by rw [l1]; exact hn, fun p hp => q p vs _ (s1.free hp) (s1.trans (same_upd hp)) upd_same l1 fun y hy => st _ _ _ (same_upd hp) (g1 y hy)⟩
/-- the same, each thing at its place told: what the row is, exactly -/
theorem lst_now {ta : TA} {xs : List V} (h : ∀ Q : List V → Hp → Prop, (∀ H', Same H H' → Q xs H') → ta σ H Q) (hn : xs.length ≤ sizeLine) (q : ∀ p H', Same H H' → H' p = some (.lst xs) → Q (.ref p) H') : tLst ta σ H Q :=
  h _ fun H1 s1 => ⟨hn, fun p hp => q p _ (s1.trans (same_upd hp)) upd_same⟩
theorem rep_of {te tn : TE} {xs : List V} {n : Int} (ht : ∀ Q1 : VK, (∀ p H', Same H H' → H' p = some (.lst xs) → Q1 (.ref p) H') → te σ H Q1) (hn : ∀ (H1 : Hp) (Q1 : VK), Q1 (.int n) H1 → tn σ H1 Q1) (h0 : 0 ≤ n) (h63 : n < 2 ^ 63) (sz : xs.length * n.toNat ≤ sizeLine)
    (q : ∀ p H', Same H H' → H' p = some (.lst (List.replicate n.toNat xs).flatten) → Q (.ref p) H') : tOp rRep te tn σ H Q :=
  ht _ fun p H1 s1 k1 => hn _ _ ⟨p, n, xs, rfl, rfl, k1, by omega, h63, sz, fun p2 hp => q p2 _ (s1.trans (same_upd hp)) upd_same⟩
/-- a pair: a thing, and where it is wrong -/
def PairG (R : V → Int → Hp → Prop) : V → Hp → Prop := fun y H => ∃ t v i, y = .ref t ∧ H t = some (.tup [v, .int i]) ∧ R v i H
theorem pair_stb {R : V → Int → Hp → Prop} (st : ∀ v i H H', Same H H' → R v i H → R v i H') : Stb (PairG R) := fun y H H' s h => by
  obtain ⟨t, v, i, e, ht, r⟩ := h
  exact ⟨t, v, i, e, s _ _ ht, st _ _ _ _ s r⟩
theorem pair_one {R : V → Int → Hp → Prop} (st : ∀ v i H H', Same H H' → R v i H → R v i H') {te tb : TE} {i : Int} {H : Hp} (h : OneG σ te (fun v H => R v i H) H) (hb : ∀ (H1 : Hp) (Q1 : VK), Q1 (.int i) H1 → tb σ H1 Q1) : OneG σ (tTup (tCons te (tCons tb tNil))) (PairG R) H := fun Q q =>
  h _ fun v H1 s1 r1 => hb _ _ ⟨by show 2 ≤ sizeLine; decide, fun t ht => q _ _ (s1.trans (same_upd ht)) ⟨t, v, i, rfl, upd_same, st _ _ _ _ (same_upd ht) r1⟩⟩
theorem mem_rep {n : Nat} {xs : List V} {y : V} (h : y ∈ (List.replicate n xs).flatten) : y ∈ xs := by
  obtain ⟨l, hl, hy⟩ := List.mem_flatten.mp h
  rw [List.mem_replicate] at hl
  rw [hl.2] at hy
  exact hy
theorem len_rep {n : Nat} {xs : List V} : (List.replicate n xs).flatten.length = n * xs.length := by
  induction n with
  | zero => simp
  | succ n ih => rw [List.replicate_succ, List.flatten_cons, List.length_append, ih, Nat.succ_mul, Nat.add_comm]
theorem lst2 {j : Nat} {v : V} (h : σ[j]? = some (some v)) : LstIs σ (tLst (tCons (tVar j) (tCons (tC .non) tNil))) [v, .non] := fun H Q q => ⟨_, h, by show 2 ≤ sizeLine; decide, fun p hp => q p _ (same_upd hp) upd_same⟩
theorem ne_len {H : Hp} {p q : Addr} {xs ys : List V} (h : H p = some (.lst xs)) (g : H q = some (.lst ys)) (n : xs.length ≠ ys.length) : p ≠ q := fun e => by
  rw [e, g] at h
  cases h
  exact n rfl
/-- xs * n -/
theorem rep_go {i : Nat} {m : Addr} {xs : List V} {n : Int} {tn : TE} (h1 : σ[i]? = some (some (.ref m))) (hm : H m = some (.lst xs)) (hn : ∀ (H1 : Hp) (Q1 : VK), Q1 (.int n) H1 → tn σ H1 Q1) (h0 : 0 ≤ n) (h63 : n < 2 ^ 63) (sz : xs.length * n.toNat ≤ sizeLine)
    (q : ∀ p H', Same H H' → H' p = some (.lst (List.replicate n.toNat xs).flatten) → Q (.ref p) H') : tOp rRep (tVar i) tn σ H Q :=
  ⟨_, h1, hn _ _ ⟨m, n, xs, rfl, rfl, hm, by omega, h63, sz, fun p hp => q p _ (same_upd hp) upd_same⟩⟩
/-! ### what a source's drawing leaves -/
theorem any_dn {H H' : Hp} {p : Addr} {v : V} {T : String} (hs : Src H p) (d : Dn p H H') (h : AnyV H v T) : AnyV H' v T := by
  have g : ∀ {b : Addr} {o : HO}, H b = some o → (∀ xs, o ≠ .lst xs) → H' b = some o := fun {b o} e n => d.1 b o (fun z => by
    obtain ⟨x, y, z0, _, e2⟩ := hs
    rw [z, e2] at e
    cases e
    exact n _ rfl) e
  cases h with
  | non => exact .non
  | bl b => exact .bl b
  | int i => exact .int i
  | str x => exact .str x
  | @lst q xs h =>
    by_cases c : q = p
    · obtain ⟨x, y, z, _, e⟩ := d.2
      rw [c]
      exact .lst e
    · exact .lst (d.1 _ _ c h)
  | tup h => exact .tup (g h fun _ z => nomatch z)
  | dK h => exact .dK (g h fun _ z => nomatch z)
theorem row_dn {H H' : Hp} {p q : Addr} {xs : List V} (d : Dn p H H') (n : q ≠ p) (h : RowAt H q xs) : RowAt H' q xs := h.imp (d.1 _ _ n) (d.1 _ _ n)
theorem keys_dn {H H' : Hp} {p : Addr} {v : V} {lo hi : Int} {r : Option Int} (hs : Src H p) (d : Dn p H H') (n : v ≠ .ref p) (h : KeysQ H v lo hi r) : KeysQ H' v lo hi r := by
  have g : ∀ {x : V} {b : Bool}, okInt H x b → okInt H' x b := fun h => h.imp fun _ h => ⟨any_dn hs d h.1, h.2⟩
  cases h with
  | odd h n1 n2 => exact .odd (any_dn hs d h) n1 n2
  | len e1 h hl => exact .len e1 (row_dn d (fun z => n (by rw [e1, z])) h) hl
  | item e1 h hl hx bad good => exact .item e1 (row_dn d (fun z => n (by rw [e1, z])) h) hl hx (g bad) fun j y hj hy => g (good j y hj hy)
  | fine e1 h hl good => exact .fine e1 (row_dn d (fun z => n (by rw [e1, z])) h) hl fun j y hy => g (good j y hy)
/-! ### one construct at a time -/
theorem st_name {i : Nat} {v : V} {σ : St} {H : Hp} {Q : St → Hp → Prop} (h : Q (σ.set i (some v)) H) : gName i v σ H Q := h
theorem st_seq {t u : TS} {D : Ends} {σ : St} {H : Hp} (h : t { D with nx := u D } σ H) : tSeq t u D σ H := h
theorem st_asg {te : TE} {g : TG} {D : Ends} {σ : St} {H : Hp} (h : te σ H fun x H1 => g x σ H1 D.nx) : tAsg te g D σ H := h
theorem st_ret {te : TE} {D : Ends} {σ : St} {H : Hp} (h : te σ H D.rt) : tRet te D σ H := h
theorem st_op {r : R2} {ta tb : TE} {σ : St} {H : Hp} {Q : VK} (h : ta σ H fun x H1 => tb σ H1 fun y H2 => r x y H2 Q) : tOp r ta tb σ H Q := h
theorem st_call {sp : Sp} {dvs : List V} {E : XK} {t : TA} {σ : St} {H : Hp} {Q : VK} (h : t σ H fun vs H1 => sp (vs ++ dvs) H1 Q E) : tCall sp dvs E t σ H Q := h
theorem st_cb {r : List V → Hp → VK → Prop} {t : TA} {σ : St} {H : Hp} {Q : VK} (h : t σ H fun vs H1 => r vs H1 Q) : tCB r t σ H Q := h
theorem st_cons {ta : TE} {tr : TA} {σ : St} {H : Hp} {Q : List V → Hp → Prop} (h : ta σ H fun x H1 => tr σ H1 fun xs H2 => Q (x :: xs) H2) : tCons ta tr σ H Q := h
theorem st_lst {t : TA} {σ : St} {H : Hp} {Q : VK} (h : t σ H fun xs H1 => xs.length ≤ sizeLine ∧ ∀ p, H1 p = none → Q (.ref p) (upd H1 p (.lst xs))) : tLst t σ H Q := h
theorem st_tup {t : TA} {σ : St} {H : Hp} {Q : VK} (h : t σ H fun xs H1 => xs.length ≤ sizeLine ∧ ∀ p, H1 p = none → Q (.ref p) (upd H1 p (.tup xs))) : tTup t σ H Q := h
theorem st_expr {te : TE} {D : Ends} {σ : St} {H : Hp} (h : te σ H fun _ H1 => D.nx σ H1) : tDrop te D σ H := h
theorem st_next {D : Ends} {σ : St} {H : Hp} (h : D.nx σ H) : tNext D σ H := h
theorem st_if {c : TT} {t u : TS} {D : Ends} {σ : St} {H : Hp} (h : c σ H fun b H1 => if b = true then t D σ H1 else u D σ H1) : tIfS c t u D σ H := h
theorem st_or {t u : TT} {σ : St} {H : Hp} {Q : Bool → Hp → Prop} (h : t σ H fun c H1 => if c = true then Q true H1 else u σ H1 Q) : tOr t u σ H Q := h
theorem st_test {te : TE} {σ : St} {H : Hp} {Q : Bool → Hp → Prop} (h : te σ H fun x H' => ∃ k, x = .bl k ∧ Q k H') : tTest te σ H Q := h
theorem st_bm {K : PySem.W.Frag} {r : V → List V → Hp → VK → Prop} {i : Nat} {t : TA} {σ : St} {H : Hp} {Q : VK} {l : Addr} {xs : List V} (e : σ[i]? = some (some (.ref l))) (hl : H l = some (.lst xs)) (h : t σ H fun vs H1 => r (.ref l) vs H1 Q) : tBM K "list" r (tVar i) t σ H Q :=
  ⟨_, e, .inl ⟨rfl, _, L2.sq_of hl⟩, h⟩
theorem st_var {i : Nat} {v : V} {σ : St} {H : Hp} {Q : VK} (e : σ[i]? = some (some v)) (h : Q v H) : tVar i σ H Q := ⟨_, e, h⟩
end
end L2

/-! an attribute as one of several targets; objects with any fields -/
namespace L2
open PySem PySem.Spec PyProof.Rows LamX
def gFld (K : PySem.W.Frag) (to : TE) (f : Str) : TG := fun v σ H Q => to σ H fun x H2 => ∃ a C dx fs, x = .ref a ∧ H2 a = some (.ins C dx fs) ∧ Cls K C ∧ NoAttr K C f ∧ fs.length < 1000 ∧ Q σ (upd H2 a (.ins C dx (putF f v fs)))
theorem pg_fld {X : Cx} {o : Expr} {to : TE} {f : Str} {pos : Pos} (ho : PE X o to) : PG X (.Attribute o f pos) (gFld X.K to f) := by
  refine ⟨fun pins s σ H v u Q I r h => ?_⟩
  rw [assign_Attribute]
  refine wpAny_bind (wpAny_holding (thn (ho.run pins s σ H _ I h) fun ov s1 ⟨x, H1, I1, r1, a, C, dx, fs, ex, ea, c, n, l, q⟩ => ?_))
  subst ex
  obtain rfl : ov = Value.ref a := r1
  refine wpAny_bind (wpAny_standAt (wpAny_bind (wpAny_holding (setattr_ok I1 ea c n l r fun s3 I3 => ?_))))
  exact wpAny_release ⟨σ, _, I3, q⟩
/-- the test `a if c else b` -/
theorem pt_ifExp {X : Cx} {c a b : Expr} {tA ta tb : TT} {pos : Pos} (hc : PT X c tA) (ha : PT X a ta) (hb : PT X b tb) : PT X (.IfExp c a b pos) (fun σ H Q => tA σ H fun k H1 => if k = true then ta σ H1 Q else tb σ H1 Q) := by
  refine ⟨fun pins s σ H Q I h => ?_⟩
  show wpAny (model X.prog X.w) X.A (do if ← PySem.isTrue c X.env (eval c X.env) then PySem.isTrue a X.env (eval a X.env) else PySem.isTrue b X.env (eval b X.env)) (TP X pins σ Q) X.xe s
  refine wpAny_bind (thn (hc.run pins s σ H _ I h) fun d s1 ⟨H1, I1, q1⟩ => ?_)
  cases d with
  | true => exact ha.run pins s1 σ H1 Q I1 q1
  | false => exact hb.run pins s1 σ H1 Q I1 q1
end L2

namespace L2
open PySem PySem.Spec PyProof.Rows
namespace RF
/-- given the answers bs one after another, from any state on -/
def gv (s e : Nat) (f : RF) (bs : List Bool) : Nat → RF
  | 0 => f
  | k + 1 => match (gv s e f bs k).wt with
    | none => gv s e f bs k
    | some _ => (gv s e f bs k).take s e (bs.getD k false)
theorem gv_next {s e : Nat} {f : RF} {bs : List Bool} {k : Nat} {q : Nat × Nat} (h : (gv s e f bs k).wt = some q) : gv s e f bs (k + 1) = (gv s e f bs k).take s e (bs.getD k false) := by
  show (match (gv s e f bs k).wt with
    | none => gv s e f bs k
    | some _ => (gv s e f bs k).take s e (bs.getD k false)) = _
  rw [h]
theorem gv_end {s e : Nat} {f : RF} {bs : List Bool} {k : Nat} (h : (gv s e f bs k).wt = none) : gv s e f bs (k + 1) = gv s e f bs k := by
  show (match (gv s e f bs k).wt with
    | none => gv s e f bs k
    | some _ => (gv s e f bs k).take s e (bs.getD k false)) = _
  rw [h]
theorem gv_good {s e : Nat} {f : RF} {row : List Nat} (g : Good s e row f) (bs : List Bool) : ∀ k, Good s e row (gv s e f bs k)
  | 0 => g
  | k + 1 => by
    have ih := gv_good g bs k
    cases h : (gv s e f bs k).wt with
    | none => rw [gv_end h]; exact ih
    | some q => rw [gv_next h]; exact ih.take (by rw [h]; exact Option.some_ne_none _) _
def gvq (s e : Nat) (f : RF) (bs : List Bool) (n : Nat) : List (Nat × Nat) := (List.range n).map fun i => ((gv s e f bs i).wt).getD (0, 0)
theorem gvq_len (s e : Nat) (f : RF) (bs : List Bool) (n : Nat) : (gvq s e f bs n).length = n := by
  unfold gvq
  rw [List.length_map, List.length_range]
theorem gvq_next {s e : Nat} {f : RF} {bs : List Bool} {n : Nat} {q : Nat × Nat} (h : (gv s e f bs n).wt = some q) : gvq s e f bs (n + 1) = gvq s e f bs n ++ [q] := by
  unfold gvq
  rw [List.range_succ, List.map_append, List.map_singleton, h]
  rfl
theorem gv_fed (size : Nat) (bs : List Bool) : ∀ k, gv 0 size (RF.init (List.range size) 0 size) bs k = fed size bs k
  | 0 => rfl
  | k + 1 => by
    have ih := gv_fed size bs k
    cases h : (fed size bs k).wt with
    | none => rw [fed_end h, gv_end (by rw [ih]; exact h), ih]
    | some q => rw [fed_next h, gv_next (by rw [ih]; exact h), ih]
theorem gvq_ask (size : Nat) (bs : List Bool) (n : Nat) : gvq 0 size (RF.init (List.range size) 0 size) bs n = askB size bs n := by
  unfold gvq askB
  exact List.map_congr_left fun i _ => by rw [gv_fed]
theorem gv_stps {s e : Nat} {f : RF} {ls : Nat × Nat → Bool} {bs : List Bool} : ∀ {k : Nat}, (∀ i q, i < k → (f.stps ls s e i).wt = some q → bs.getD i false = ls q) → gv s e f bs k = f.stps ls s e k
  | 0, _ => rfl
  | k + 1, h => by
    have ih := gv_stps (k := k) fun i q hi hq => h i q (by omega) hq
    cases hw : (f.stps ls s e k).wt with
    | none => rw [stps_end hw, gv_end (by rw [ih]; exact hw), ih]
    | some q => rw [stps_next hw, gv_next (by rw [ih]; exact hw), ih, h k q (by omega) hw]
end RF
/-- answers: a list or a tuple of bools -/
def AnsAt (H : Hp) (p : Addr) (bs : List Bool) : Prop := H p = some (.lst (bs.map V.bl)) ∨ H p = some (.tup (bs.map V.bl))
theorem AnsAt.same {H H' : Hp} {p : Addr} {bs : List Bool} (e : Same H H') (h : AnsAt H p bs) : AnsAt H' p bs := h.imp (e _ _) (e _ _)
theorem ans_item {bs : List Bool} {i : Nat} {x : V} (h : (bs.map V.bl)[i]? = some x) : ∃ z, bs[i]? = some z ∧ x = .bl z := by
  rw [List.getElem?_map] at h
  cases e : bs[i]? with
  | none => rw [e] at h; cases h
  | some z => rw [e] at h; exact ⟨z, rfl, (Option.some.inj h).symm⟩
theorem AnsAt.free {H : Hp} {p z : Addr} {bs : List Bool} (h : AnsAt H p bs) (n : H z = none) : p ≠ z := fun e => by
  rw [← e] at n
  rcases h with h | h
  · rw [h] at n; cases n
  · rw [h] at n; cases n
end L2

namespace L2
open PySem PySem.Spec PyProof.Rows
/-! ### placing: the state, step by step -/
structure PF where
  row : List Nat
  pl : Nat
  lo : Nat
  hi : Nat
  mid : Nat
  wt : Option (Nat × Nat)
namespace PF
def moved (row : List Nat) (lo pl : Nat) : List Nat := row.take lo ++ row.getD pl 0 :: ((row.drop lo).take (pl - lo) ++ row.drop (pl + 1))
def askM (f : PF) : PF := { f with mid := (f.lo + f.hi) / 2, wt := some (f.row.getD f.pl 0, f.row.getD ((f.lo + f.hi) / 2) 0) }
def begin (e : Nat) (f : PF) : PF := if f.pl < e then askM { f with lo := 0, hi := f.pl, wt := none } else { f with wt := none }
def put (e : Nat) (f : PF) : PF := begin e { f with row := moved f.row f.lo f.pl, pl := f.pl + 1 }
def half (b : Bool) (f : PF) : PF := if b = true then { f with hi := f.mid } else { f with lo := f.mid + 1 }
def take (e : Nat) (b : Bool) (f : PF) : PF := if (half b f).lo < (half b f).hi then askM (half b f) else put e (half b f)
def init (row : List Nat) (e rd : Nat) : PF := begin e { row := row, pl := max rd 1, lo := 0, hi := 0, mid := 0, wt := none }
/-- amid an item -/
structure Act (e : Nat) (f : PF) : Prop where
  pe : f.pl < e
  hp : f.hi ≤ f.pl
  lh : f.lo < f.hi
  md : f.mid = (f.lo + f.hi) / 2
  wq : f.wt = some (f.row.getD f.pl 0, f.row.getD f.mid 0)
structure Good (e : Nat) (row0 : List Nat) (f : PF) : Prop where
  len : f.row.length = e
  e64 : e ≤ 64
  p1 : 1 ≤ f.pl
  pm : f.row.Perm row0
  act : f.wt ≠ none → Act e f
  fin : f.wt = none → e ≤ f.pl
theorem moved_perm {row : List Nat} {lo pl : Nat} (h1 : lo ≤ pl) (h2 : pl < row.length) : (moved row lo pl).Perm row := by
  have e1 : row.take lo ++ ((row.drop lo).take (pl - lo) ++ row.getD pl 0 :: row.drop (pl + 1)) = row := by
    have a1 : row.drop pl = row.getD pl 0 :: row.drop (pl + 1) := by
      rw [List.drop_eq_getElem_cons h2]
      simp [List.getD_eq_getElem?_getD, List.getElem?_eq_getElem h2]
    have a2 : (row.drop lo).drop (pl - lo) = row.drop pl := by
      rw [List.drop_drop]
      congr 1
      omega
    rw [← a1, ← a2, List.take_append_drop, List.take_append_drop]
  unfold moved
  refine List.Perm.trans ?_ (List.Perm.of_eq e1)
  refine List.Perm.append_left _ ?_
  exact List.perm_middle.symm
theorem moved_len {row : List Nat} {lo pl : Nat} (h1 : lo ≤ pl) (h2 : pl < row.length) : (moved row lo pl).length = row.length := (moved_perm h1 h2).length_eq
theorem Good.begin {e : Nat} {row0 : List Nat} {f : PF} (l : f.row.length = e) (h64 : e ≤ 64) (p : 1 ≤ f.pl) (pm : f.row.Perm row0) : Good e row0 (begin e f) := by
  unfold PF.begin
  by_cases h : f.pl < e
  · rw [if_pos h]
    exact ⟨l, h64, p, pm, fun _ => ⟨h, Nat.le_refl _, p, rfl, rfl⟩, fun z => by cases z⟩
  · rw [if_neg h]
    exact ⟨l, h64, p, pm, fun z => absurd rfl z, fun _ => by show e ≤ f.pl; omega⟩
theorem Good.put {e : Nat} {row0 : List Nat} {f : PF} (l : f.row.length = e) (h64 : e ≤ 64) (h1 : f.lo ≤ f.pl) (h2 : f.pl < e) (pm : f.row.Perm row0) : Good e row0 (put e f) :=
  Good.begin (by show (moved f.row f.lo f.pl).length = e; rw [moved_len h1 (by omega)]; exact l) h64 (by show 1 ≤ f.pl + 1; omega) ((moved_perm h1 (by omega)).trans pm)
theorem half_row (b : Bool) (f : PF) : (half b f).row = f.row := by unfold half; split <;> rfl
theorem half_pl (b : Bool) (f : PF) : (half b f).pl = f.pl := by unfold half; split <;> rfl
theorem half_in {e : Nat} {f : PF} (a : Act e f) (b : Bool) : (half b f).lo ≤ (half b f).hi ∧ (half b f).hi ≤ f.pl := by
  have h1 := a.hp; have h2 := a.lh; have h3 := a.md
  unfold half
  split
  · exact ⟨by show f.lo ≤ f.mid; omega, by show f.mid ≤ f.pl; omega⟩
  · exact ⟨by show f.mid + 1 ≤ f.hi; omega, h1⟩
theorem Good.take {e : Nat} {row0 : List Nat} {f : PF} (g : Good e row0 f) (h : f.wt ≠ none) (b : Bool) : Good e row0 (take e b f) := by
  have a := g.act h
  obtain ⟨i1, i2⟩ := half_in a b
  unfold PF.take
  split
  · rename_i hl
    exact ⟨by show (half b f).row.length = e; rw [half_row]; exact g.len, g.e64, by show 1 ≤ (half b f).pl; rw [half_pl]; exact g.p1, by show (half b f).row.Perm row0; rw [half_row]; exact g.pm,
      fun _ => ⟨by show (half b f).pl < e; rw [half_pl]; exact a.pe, by show (half b f).hi ≤ (half b f).pl; rw [half_pl]; exact i2, hl, rfl, rfl⟩, fun z => by cases z⟩
  · exact Good.put (by rw [half_row]; exact g.len) g.e64 (by rw [half_pl]; omega) (by rw [half_pl]; exact a.pe) (by rw [half_row]; exact g.pm)
theorem Good.init {row : List Nat} {e rd : Nat} (l : row.length = e) (h64 : e ≤ 64) : Good e row (init row e rd) := Good.begin l h64 (Nat.le_max_right _ _) (List.Perm.refl _)
/-- by the keys -/
def stp (ls : Nat × Nat → Bool) (e : Nat) (f : PF) : PF := match f.wt with
  | none => f
  | some q => f.take e (ls q)
def stps (ls : Nat × Nat → Bool) (e : Nat) (f : PF) : Nat → PF
  | 0 => f
  | n + 1 => stp ls e (stps ls e f n)
theorem stps_next {ls : Nat × Nat → Bool} {e : Nat} {f : PF} {n : Nat} {q : Nat × Nat} (h : (f.stps ls e n).wt = some q) : f.stps ls e (n + 1) = (f.stps ls e n).take e (ls q) := by
  show PF.stp ls e (f.stps ls e n) = _
  unfold PF.stp
  rw [h]
theorem stps_end {ls : Nat × Nat → Bool} {e : Nat} {f : PF} {n : Nat} (h : (f.stps ls e n).wt = none) : f.stps ls e (n + 1) = f.stps ls e n := by
  show PF.stp ls e (f.stps ls e n) = _
  unfold PF.stp
  rw [h]
theorem Good.stps {e : Nat} {row0 : List Nat} {f : PF} (ls : Nat × Nat → Bool) (g : Good e row0 f) : ∀ n, Good e row0 (f.stps ls e n)
  | 0 => g
  | n + 1 => by
    have ih := Good.stps ls g n
    cases h : (f.stps ls e n).wt with
    | none => rw [stps_end h]; exact ih
    | some q => rw [stps_next h]; exact ih.take (by rw [h]; exact Option.some_ne_none _) _
def asks (ls : Nat × Nat → Bool) (e : Nat) (f : PF) (n : Nat) : List (Nat × Nat) := (List.range n).map fun i => ((f.stps ls e i).wt).getD (0, 0)
theorem asks_len (ls : Nat × Nat → Bool) (e : Nat) (f : PF) (n : Nat) : (f.asks ls e n).length = n := by
  unfold asks
  rw [List.length_map, List.length_range]
theorem asks_next {ls : Nat × Nat → Bool} {e : Nat} {f : PF} {n : Nat} {q : Nat × Nat} (h : (f.stps ls e n).wt = some q) : f.asks ls e (n + 1) = f.asks ls e n ++ [q] := by
  unfold asks
  rw [List.range_succ, List.map_append, List.map_singleton, h]
  rfl
theorem asks_at {ls : Nat × Nat → Bool} {e : Nat} {f : PF} {n i : Nat} (h : i < n) : (f.asks ls e n)[i]? = some (((f.stps ls e i).wt).getD (0, 0)) := by
  unfold asks
  rw [List.getElem?_map, List.getElem?_range h]
  rfl
/-- by answers of any kind -/
def gv (e : Nat) (f : PF) (bs : List Bool) : Nat → PF
  | 0 => f
  | k + 1 => match (gv e f bs k).wt with
    | none => gv e f bs k
    | some _ => (gv e f bs k).take e (bs.getD k false)
theorem gv_next {e : Nat} {f : PF} {bs : List Bool} {k : Nat} {q : Nat × Nat} (h : (gv e f bs k).wt = some q) : gv e f bs (k + 1) = (gv e f bs k).take e (bs.getD k false) := by
  show (match (gv e f bs k).wt with
    | none => gv e f bs k
    | some _ => (gv e f bs k).take e (bs.getD k false)) = _
  rw [h]
theorem gv_end {e : Nat} {f : PF} {bs : List Bool} {k : Nat} (h : (gv e f bs k).wt = none) : gv e f bs (k + 1) = gv e f bs k := by
  show (match (gv e f bs k).wt with
    | none => gv e f bs k
    | some _ => (gv e f bs k).take e (bs.getD k false)) = _
  rw [h]
theorem gv_stay {e : Nat} {f : PF} {bs : List Bool} {n : Nat} (h : (gv e f bs n).wt = none) : ∀ k, gv e f bs (n + k) = gv e f bs n
  | 0 => rfl
  | k + 1 => by
    have ih := gv_stay h k
    show gv e f bs ((n + k) + 1) = _
    rw [gv_end (by rw [ih]; exact h), ih]
theorem Good.gv {e : Nat} {row0 : List Nat} {f : PF} (g : Good e row0 f) (bs : List Bool) : ∀ k, Good e row0 (gv e f bs k)
  | 0 => g
  | k + 1 => by
    have ih := Good.gv g bs k
    cases h : (PF.gv e f bs k).wt with
    | none => rw [gv_end h]; exact ih
    | some q => rw [gv_next h]; exact ih.take (by rw [h]; exact Option.some_ne_none _) _
def gvq (e : Nat) (f : PF) (bs : List Bool) (n : Nat) : List (Nat × Nat) := (List.range n).map fun i => ((gv e f bs i).wt).getD (0, 0)
theorem gvq_len (e : Nat) (f : PF) (bs : List Bool) (n : Nat) : (gvq e f bs n).length = n := by
  unfold gvq
  rw [List.length_map, List.length_range]
theorem gvq_next {e : Nat} {f : PF} {bs : List Bool} {n : Nat} {q : Nat × Nat} (h : (gv e f bs n).wt = some q) : gvq e f bs (n + 1) = gvq e f bs n ++ [q] := by
  unfold gvq
  rw [List.range_succ, List.map_append, List.map_singleton, h]
  rfl
theorem gv_congr {e : Nat} {f : PF} {bs cs : List Bool} : ∀ {k : Nat}, (∀ i, i < k → bs.getD i false = cs.getD i false) → gv e f bs k = gv e f cs k
  | 0, _ => rfl
  | k + 1, h => by
    have ih := gv_congr (e := e) (f := f) (k := k) fun i hi => h i (by omega)
    cases hw : (gv e f bs k).wt with
    | none => rw [gv_end hw, gv_end (by rw [← ih]; exact hw), ih]
    | some q => rw [gv_next hw, gv_next (q := q) (by rw [← ih]; exact hw), ih, h k (by omega)]
theorem gv_stps {e : Nat} {f : PF} {ls : Nat × Nat → Bool} {bs : List Bool} : ∀ {k : Nat}, (∀ i q, i < k → (f.stps ls e i).wt = some q → bs.getD i false = ls q) → gv e f bs k = f.stps ls e k
  | 0, _ => rfl
  | k + 1, h => by
    have ih := gv_stps (k := k) fun i q hi hq => h i q (by omega) hq
    cases hw : (f.stps ls e k).wt with
    | none => rw [stps_end hw, gv_end (by rw [ih]; exact hw), ih]
    | some q => rw [stps_next hw, gv_next (q := q) (by rw [ih]; exact hw), ih, h k q (by omega) hw]
/-! how many questions -/
def bl (m : Nat) : Nat := if m = 0 then 0 else m.log2 + 1
theorem bl_half {m m' : Nat} (h : 0 < m) (h2 : m' ≤ m / 2) : bl m' + 1 ≤ bl m := by
  unfold bl
  rw [if_neg (by omega : m ≠ 0)]
  by_cases e : m' = 0
  · rw [if_pos e]
    omega
  · rw [if_neg e]
    have a1 : 2 ^ m'.log2 ≤ m' := Nat.log2_self_le e
    have : m'.log2 + 1 ≤ m.log2 := (Nat.le_log2 (by omega)).mpr (by rw [Nat.pow_succ]; omega)
    omega
theorem bl_63 {m : Nat} (h : m ≤ 63) : bl m ≤ 6 := by
  unfold bl
  split
  · omega
  · rename_i e
    have : m.log2 < 6 := (Nat.log2_lt e).mpr (by omega)
    omega
def phi (e : Nat) (f : PF) : Nat := if f.wt = none then 0 else bl (f.hi - f.lo) + 6 * (e - 1 - f.pl)
theorem phi_begin {e : Nat} {f : PF} (h64 : e ≤ 64) (h : 1 ≤ f.pl) : phi e (begin e f) ≤ 6 * (e - f.pl) := by
  unfold PF.begin
  by_cases hp : f.pl < e
  · rw [if_pos hp]
    unfold phi
    rw [if_neg (by intro z; cases z)]
    show bl (f.pl - 0) + 6 * (e - 1 - f.pl) ≤ _
    have := bl_63 (m := f.pl - 0) (by omega)
    omega
  · rw [if_neg hp]
    unfold phi
    rw [if_pos rfl]
    omega
theorem phi_take {e : Nat} {row0 : List Nat} {f : PF} (g : Good e row0 f) (h : f.wt ≠ none) (b : Bool) : phi e (take e b f) + 1 ≤ phi e f := by
  have a := g.act h
  have h1 := a.hp; have h2 := a.lh; have h3 := a.md; have h4 := a.pe; have h5 := g.e64
  have e1 : phi e f = bl (f.hi - f.lo) + 6 * (e - 1 - f.pl) := by unfold phi; rw [if_neg h]
  have hb : 1 ≤ bl (f.hi - f.lo) := by unfold bl; rw [if_neg (by omega)]; omega
  rw [e1]
  unfold PF.take
  split
  · rename_i hl
    have e2 : phi e (askM (half b f)) = bl ((half b f).hi - (half b f).lo) + 6 * (e - 1 - (half b f).pl) := by
      unfold phi
      rw [if_neg (by intro z; cases z)]
      rfl
    rw [e2, half_pl]
    have : bl ((half b f).hi - (half b f).lo) + 1 ≤ bl (f.hi - f.lo) := by
      refine bl_half (by omega) ?_
      unfold half
      split
      · show f.mid - f.lo ≤ _; omega
      · show f.hi - (f.mid + 1) ≤ _; omega
    omega
  · have : phi e (put e (half b f)) ≤ 6 * (e - ((half b f).pl + 1)) := phi_begin (f := { half b f with row := moved (half b f).row (half b f).lo (half b f).pl, pl := (half b f).pl + 1 }) h5 (by show 1 ≤ (half b f).pl + 1; omega)
    rw [half_pl] at this
    omega
theorem phi_init {row : List Nat} {e rd : Nat} (h64 : e ≤ 64) : phi e (init row e rd) ≤ 6 * (e - 1) := by
  have := phi_begin (e := e) (f := { row := row, pl := max rd 1, lo := 0, hi := 0, mid := 0, wt := none }) h64 (Nat.le_max_right _ _)
  have h2 : 1 ≤ max rd 1 := Nat.le_max_right _ _
  show phi e (begin e _) ≤ _
  refine Nat.le_trans this ?_
  show 6 * (e - max rd 1) ≤ 6 * (e - 1)
  omega
theorem phi_gv {e : Nat} {row0 : List Nat} {f : PF} (g : Good e row0 f) (bs : List Bool) : ∀ k, (∀ i, i < k → (gv e f bs i).wt ≠ none) → k + phi e (gv e f bs k) ≤ phi e f
  | 0, _ => by show 0 + phi e f ≤ phi e f; omega
  | k + 1, h => by
    have ih := phi_gv g bs k fun i hi => h i (by omega)
    have hk := h k (by omega)
    obtain ⟨q, hq⟩ := Option.ne_none_iff_exists'.mp hk
    have := phi_take (g.gv bs k) hk (bs.getD k false)
    rw [gv_next hq]
    omega
theorem few {row : List Nat} {e rd : Nat} {bs : List Bool} (l : row.length = e) (h64 : e ≤ 64) {k : Nat} (h : ∀ i, i < k → (gv e (init row e rd) bs i).wt ≠ none) : k ≤ 6 * (e - 1) := by
  have h1 := phi_gv (Good.init (rd := rd) l h64) bs k h
  have h2 := phi_init (row := row) (e := e) (rd := rd) h64
  omega
theorem Good.pmRange {e n : Nat} {row : List Nat} {f : PF} (g : Good e row f) (pm : row.Perm (List.range n)) : Good e (List.range n) f := ⟨g.len, g.e64, g.p1, g.pm.trans pm, g.act, g.fin⟩
theorem Good.items {e n : Nat} {f : PF} (g : Good e (List.range n) f) {q : Nat × Nat} (h : f.wt = some q) : q.1 < n ∧ q.2 < n ∧ q.1 ≠ q.2 := by
  have hne : f.wt ≠ none := by rw [h]; exact Option.some_ne_none _
  have a := g.act hne
  have h1 := a.hp; have h2 := a.lh; have h3 := a.md; have h4 := a.pe; have h5 := g.len
  rw [a.wq] at h
  have eq := (Option.some.inj h).symm
  subst eq
  have gd : ∀ i, i < f.row.length → f.row.getD i 0 = f.row[i]! := fun i hi => by simp [List.getD_eq_getElem?_getD, List.getElem?_eq_getElem hi, hi]
  have mem : ∀ i, i < f.row.length → f.row.getD i 0 < n := fun i hi => by
    have : f.row.getD i 0 ∈ f.row := by
      rw [List.getD_eq_getElem?_getD, List.getElem?_eq_getElem hi]
      exact List.getElem_mem hi
    exact List.mem_range.mp (g.pm.mem_iff.mp this)
  refine ⟨mem _ (by omega), mem _ (by omega), fun e0 => ?_⟩
  have nd : f.row.Nodup := g.pm.nodup_iff.mpr List.nodup_range
  have e1 : f.row[f.pl]'(by omega) = f.row[f.mid]'(by omega) := by
    have a1 : f.row.getD f.pl 0 = f.row[f.pl]'(by omega) := by rw [List.getD_eq_getElem?_getD, List.getElem?_eq_getElem (by omega)]; rfl
    have a2 : f.row.getD f.mid 0 = f.row[f.mid]'(by omega) := by rw [List.getD_eq_getElem?_getD, List.getElem?_eq_getElem (by omega)]; rfl
    rw [← a1, ← a2]
    exact e0
  have := (List.getElem_inj nd).mp e1
  omega
end PF
/-! ### the placer in the heap -/
def fldsP (r : Addr) (e : Nat) (f : PF) (wv : V) : List (Str × V) :=
  [("row", .ref r), ("start", .int 0), ("end", .int (e : Int)), ("place", .int (f.pl : Int)), ("low", .int (f.lo : Int)), ("high", .int (f.hi : Int)), ("middle", .int (f.mid : Int)), ("waiting", wv)]
def PAt (C : Addr) (H : Hp) (x r : Addr) (e : Nat) (f : PF) : Prop := x ≠ r ∧ ∃ dx wv, H x = some (.ins C dx (fldsP r e f wv)) ∧ WaitAt H wv f.wt ∧ H r = some (.lst (nV f.row))
theorem PAt.same {C : Addr} {H H' : Hp} {x r : Addr} {e : Nat} {f : PF} (h : PAt C H x r e f) (k : Same H H') : PAt C H' x r e f := by
  obtain ⟨n, dx, wv, hx, hw, hr⟩ := h
  exact ⟨n, dx, wv, k _ _ hx, hw.keep (fun _ _ _ => k _ _), k _ _ hr⟩
theorem PAt.set {C x r : Addr} {H : Hp} {e : Nat} {f : PF} {dx : Addr} {wv : V} (h : PAt C H x r e f) (hx : H x = some (.ins C dx (fldsP r e f wv))) (f' : PF) (wv' : V) (er : f'.row = f.row) (hw : WaitAt H wv' f'.wt) {w : List (Str × V)} (ew : w = fldsP r e f' wv') :
    PAt C (upd H x (.ins C dx w)) x r e f' ∧ upd H x (.ins C dx w) x = some (.ins C dx (fldsP r e f' wv')) ∧ Fr2 x r H (upd H x (.ins C dx w)) := by
  obtain ⟨n, _, _, _, _, hr⟩ := h
  subst ew
  refine ⟨⟨n, dx, wv', upd_same, hw.upd hx (fun i j e => by cases e), ?_⟩, upd_same, Fr2.putx⟩
  rw [upd_ne n.symm, er]
  exact hr
theorem PAt.putRow {C x r : Addr} {H : Hp} {e : Nat} {f : PF} (h : PAt C H x r e f) {row : List Nat} {w : List V} (ew : w = nV row) : PAt C (upd H r (.lst w)) x r e { f with row := row } := by
  obtain ⟨n, dx, wv, hx, hw, hr⟩ := h
  subst ew
  refine ⟨n, dx, wv, ?_, hw.upd hr (fun i j e => by cases e), upd_same⟩
  rw [upd_ne n]
  exact hx
end L2

namespace L2
open PySem PySem.Spec PyProof.Rows
/-! ### what placing tells, as data -/
def plD (b : Bool) (row : List Nat) (qs : List (Nat × Nat)) : PyData := .tuple [.bool b, .list ((row.map fun (i : Nat) => (i : Int)).map PyData.int), .list (qs.map pD)]
theorem shaped_pl (b : Bool) (row : List Nat) (qs : List (Nat × Nat)) : SeqAt.shaped (plD b row qs) = true := by
  unfold SeqAt.shaped
  rw [Bool.and_eq_true]
  constructor
  · show (PyData.canLay0 (.bool b) && (PyData.canLayAll0 ((row.map fun (i : Nat) => (i : Int)).map PyData.int) && (PyData.canLayAll0 (qs.map pD) && true))) = true
    rw [canLay_ints, canLay_pairs]
    rfl
  · refine decide_eq_true ?_
    show max (PyData.depth (.bool b)) (max (PyData.depthAll ((row.map fun (i : Nat) => (i : Int)).map PyData.int) + 1) (max (PyData.depthAll (qs.map pD) + 1) 0)) + 1 ≤ 64
    have h1 : PyData.depth (.bool b) = 0 := rfl
    have h2 := depth_pairs qs
    rw [depth_ints, h1]
    omega
theorem eqv_pl (b : Bool) (row : List Nat) (qs : List (Nat × Nat)) : PyData.eqv (plD b row qs) (plD b row qs) = true := SeqAt.eqv_refl _ (SeqAt.canLay_of_shaped (shaped_pl b row qs))
theorem dp_pl {K : PySem.W.Frag} {H : Hp} {t r l : Addr} {b : Bool} {row : List Nat} {qs : List (Nat × Nat)} (ht : H t = some (.tup [.bl b, .ref r, .ref l])) (hr : H r = some (.lst (nV row))) (hq : QAt H l qs) : Dp K H (.ref t) (plD b row qs) := by
  obtain ⟨ts, h1, h2, h3⟩ := hq
  exact .tup (L2.st_of ht) (.cons (.bl _) (.cons (dp_ints (by rw [← nV_map]; exact L2.sq_of hr)) (.cons (.lst (L2.sq_of h1) (dpAll_pairs h2 h3)) .nil)))
/-- taken out at one place, put in at another one -/
theorem ins_moved {row : List Nat} {lo pl : Nat} (h1 : lo ≤ pl) (h2 : pl < row.length) : ((nV row).eraseIdx pl).take lo ++ [.int ((row.getD pl 0 : Nat) : Int)] ++ ((nV row).eraseIdx pl).drop lo = nV (PF.moved row lo pl) := by
  have l1 : ((nV row).take pl).length = pl := by rw [List.length_take, List.length_map]; omega
  rw [List.eraseIdx_eq_take_drop_succ, List.take_append_of_le_length (by omega), List.drop_append_of_le_length (by omega), List.take_take, Nat.min_eq_left h1, List.drop_take]
  unfold PF.moved
  simp only [List.map_append, List.map_take, List.map_drop, List.map_cons, List.append_assoc, List.singleton_append]
namespace PF
theorem mid_eq {e : Nat} {f : PF} (a : Act e f) : f.lo + (f.hi - f.lo) / 2 = f.mid := by
  have h1 := a.lh; have h2 := a.md
  omega
/-- at the start of an item -/
def Fresh (f : PF) : Prop := f.wt ≠ none → f.lo = 0 ∧ f.hi = f.pl
theorem fresh_begin (e : Nat) (f : PF) : Fresh (begin e f) ∧ (begin e f).pl = f.pl ∧ (begin e f).row = f.row := by
  unfold PF.begin
  by_cases h : f.pl < e
  · rw [if_pos h]
    exact ⟨fun _ => ⟨rfl, rfl⟩, rfl, rfl⟩
  · rw [if_neg h]
    exact ⟨fun z => absurd rfl z, rfl, rfl⟩
theorem fresh_put (e : Nat) (f : PF) : Fresh (put e f) ∧ (put e f).pl = f.pl + 1 ∧ (put e f).row = moved f.row f.lo f.pl := fresh_begin e { f with row := moved f.row f.lo f.pl, pl := f.pl + 1 }
end PF
end L2

/-! how heaps are kept: the deed as a machine, and step by step -/
namespace L2
open PySem PySem.Spec PyProof.Rows
structure HD where
  row : List Nat
  new : Option Nat
  given : Option Nat
  wt : Option (Nat × Nat)
  tops : List Nat
  top : Nat
  place : Nat
  phase : Nat
namespace HD
def par (p : Nat) : Nat := (p - 1) / 2
def swap (l : List Nat) (i j : Nat) : List Nat := (l.set i (l.getD j 0)).set j (l.getD i 0)
theorem swap_len (l : List Nat) (i j : Nat) : (swap l i j).length = l.length := by unfold swap; rw [List.length_set, List.length_set]
def chg (f : HD) (o : Nat) : HD := { f with row := swap f.row f.place o, place := o }
def rise1 (f : HD) : HD := if f.top < f.place then { f with phase := 3, wt := some (f.row.getD f.place 0, f.row.getD (par f.place) 0) } else { f with phase := 3 }
def sink (f : HD) : HD :=
  if 2 * f.place + 2 < f.row.length then { f with phase := 2, wt := some (f.row.getD (2 * f.place + 1) 0, f.row.getD (2 * f.place + 2) 0) }
  else rise1 (if 2 * f.place + 1 < f.row.length then chg { f with phase := 2 } (2 * f.place + 1) else { f with phase := 2 })
def begin (f : HD) : HD := match f.tops.getLast? with
  | none => f
  | some t => sink { f with tops := f.tops.dropLast, top := t, place := t }
def rise (f : HD) : HD := if f.top < f.place then rise1 f else begin { f with phase := 3 }
def first (f : HD) (item : Nat) : HD := begin { f with given := some (f.row.getD 0 0), row := f.row.set 0 item, tops := [0] }
def pop (f : HD) : HD := if f.row.length = 1 then { f with row := [], given := some (f.row.getD 0 0) } else first { f with row := f.row.dropLast } (f.row.getD (f.row.length - 1) 0)
def weigh (f : HD) (n : Nat) : HD := if f.row = [] then { f with given := some n } else { f with phase := 1, wt := some (f.row.getD 0 0, n) }
def weight (f : HD) (b : Bool) (n : Nat) : HD := if b then first f n else { f with given := some n }
def take (f : HD) (b : Bool) : HD :=
  let g := { f with wt := none }
  if f.phase = 1 then weight g b (f.new.getD 0)
  else if f.phase = 2 then sink (chg g (if b then 2 * f.place + 1 else 2 * f.place + 2))
  else if b then rise (chg g (par f.place)) else begin g
def ini (row : List Nat) (new : Option Nat) : HD := ⟨row, new, none, none, [], 0, 0, 2⟩
/-- the deeds, by their number: heapify, push, pop, replace, pushpop -/
def init (w : Nat) (row : List Nat) (new : Option Nat) : HD :=
  let n := new.getD 0
  match w with
  | 0 => begin { ini row new with tops := List.range (row.length / 2) }
  | 1 => rise { ini (row ++ [n]) new with place := row.length }
  | 2 => pop (ini row new)
  | 3 => first (ini row new) n
  | _ => weigh (ini row new) n
/-! what always holds -/
structure Ok (f : HD) : Prop where
  len : f.row.length ≤ 2501
  tops : ∀ t ∈ f.tops, 2 * t + 1 < f.row.length
  wt : f.wt ≠ none → (f.phase = 1 ∧ f.row ≠ [] ∧ f.new ≠ none) ∨ (f.phase = 2 ∧ f.top ≤ f.place ∧ 2 * f.place + 2 < f.row.length) ∨ (f.phase = 3 ∧ f.top < f.place ∧ f.place < f.row.length)
/-- ready to sink -/
structure SinkOk (f : HD) : Prop where
  len : f.row.length ≤ 2501
  wt : f.wt = none
  tops : ∀ t ∈ f.tops, 2 * t + 1 < f.row.length
  low : f.top ≤ f.place
  pl : f.place < f.row.length
  way : f.tops = [] ∨ 2 * f.place + 1 < f.row.length ∨ f.top < f.place
theorem chg_len (f : HD) (o : Nat) : (chg f o).row.length = f.row.length := swap_len _ _ _
theorem Ok.rise1 {f : HD} (l : f.row.length ≤ 2501) (t : ∀ t ∈ f.tops, 2 * t + 1 < f.row.length) (p : f.place < f.row.length) (w : f.wt = none) : Ok (rise1 f) := by
  unfold HD.rise1
  by_cases h : f.top < f.place
  · rw [if_pos h]
    exact ⟨l, t, fun _ => .inr (.inr ⟨rfl, h, p⟩)⟩
  · rw [if_neg h]
    exact ⟨l, t, fun z => absurd w z⟩
theorem SinkOk.ok {f : HD} (h : SinkOk f) : Ok (sink f) := by
  unfold sink
  by_cases c : 2 * f.place + 2 < f.row.length
  · rw [if_pos c]
    exact ⟨h.len, h.tops, fun _ => .inr (.inl ⟨rfl, h.low, c⟩)⟩
  · rw [if_neg c]
    by_cases d : 2 * f.place + 1 < f.row.length
    · rw [if_pos d]
      refine Ok.rise1 (f := chg { f with phase := 2 } (2 * f.place + 1)) ?_ ?_ ?_ h.wt
      · rw [chg_len]; exact h.len
      · rw [chg_len]; exact h.tops
      · rw [chg_len]; exact d
    · rw [if_neg d]
      exact Ok.rise1 (f := { f with phase := 2 }) h.len h.tops h.pl h.wt
/-- the tops from which is begun -/
def TopsOk (f : HD) : Prop := (∀ t ∈ f.tops, 2 * t + 1 < f.row.length) ∨ (f.tops.length ≤ 1 ∧ ∀ t ∈ f.tops, t < f.row.length)
theorem sinkOk_begin {f : HD} {t : Nat} (l : f.row.length ≤ 2501) (w : f.wt = none) (h : TopsOk f) (e : f.tops.getLast? = some t) : SinkOk { f with tops := f.tops.dropLast, top := t, place := t } := by
  have hm : t ∈ f.tops := List.mem_of_getLast? e
  rcases h with h | ⟨h1, h2⟩
  · exact ⟨l, w, fun x hx => h x (List.dropLast_subset _ hx), Nat.le_refl _, by have := h t hm; show t < f.row.length; omega, .inr (.inl (h t hm))⟩
  · have hd : f.tops.dropLast = [] := List.eq_nil_of_length_eq_zero (by rw [List.length_dropLast]; omega)
    refine ⟨l, w, fun x hx => ?_, Nat.le_refl _, h2 t hm, .inl hd⟩
    have hx : x ∈ f.tops.dropLast := hx
    rw [hd] at hx
    cases hx
theorem begin_nil {f : HD} (h : f.tops = []) : begin f = f := by unfold begin; rw [h]; rfl
theorem begin_some {f : HD} {t : Nat} (h : f.tops.getLast? = some t) : begin f = sink { f with tops := f.tops.dropLast, top := t, place := t } := by unfold begin; rw [h]
theorem Ok.begin {f : HD} (l : f.row.length ≤ 2501) (w : f.wt = none) (h : TopsOk f) : Ok (begin f) := by
  cases e : f.tops.getLast? with
  | none => rw [begin_nil (List.getLast?_eq_none_iff.mp e)]; exact ⟨l, fun t ht => (by rw [List.getLast?_eq_none_iff.mp e] at ht; cases ht), fun z => absurd w z⟩
  | some t => rw [begin_some e]; exact (sinkOk_begin l w h e).ok
theorem Ok.rise {f : HD} (l : f.row.length ≤ 2501) (t : ∀ t ∈ f.tops, 2 * t + 1 < f.row.length) (p : f.place < f.row.length) (w : f.wt = none) : Ok (HD.rise f) := by
  unfold HD.rise
  by_cases h : f.top < f.place
  · rw [if_pos h]
    exact Ok.rise1 l t p w
  · rw [if_neg h]
    exact Ok.begin (f := { f with phase := 3 }) l w (.inl t)
theorem Ok.first {f : HD} (l : f.row.length ≤ 2501) (n : f.row ≠ []) (w : f.wt = none) (item : Nat) : Ok (first f item) := by
  have l0 : 0 < f.row.length := List.length_pos_iff.mpr n
  exact Ok.begin (f := { f with given := some (f.row.getD 0 0), row := f.row.set 0 item, tops := [0] }) (by rw [List.length_set]; exact l) w (.inr ⟨Nat.le_refl 1, fun t ht => by
    rw [List.mem_singleton.mp ht, List.length_set]
    exact l0⟩)
theorem sinkOk_take {f : HD} (h : Ok f) (hp : f.phase = 2) (w : f.wt ≠ none) (b : Bool) : SinkOk (chg { f with wt := none } (if b then 2 * f.place + 1 else 2 * f.place + 2)) := by
  rcases h.wt w with ⟨z, _⟩ | ⟨_, h1, h2⟩ | ⟨z, _⟩
  · omega
  · have el : (chg { f with wt := none } (if b then 2 * f.place + 1 else 2 * f.place + 2)).row.length = f.row.length := chg_len _ _
    have ep : (chg { f with wt := none } (if b then 2 * f.place + 1 else 2 * f.place + 2)).place = if b then 2 * f.place + 1 else 2 * f.place + 2 := rfl
    have g : f.top < (if b then 2 * f.place + 1 else 2 * f.place + 2) ∧ (if b then 2 * f.place + 1 else 2 * f.place + 2) < f.row.length := by cases b <;> constructor <;> simp <;> omega
    refine ⟨by rw [el]; exact h.len, rfl, ?_, ?_, ?_, .inr (.inr ?_)⟩
    · rw [el]
      exact h.tops
    · rw [ep]; exact Nat.le_of_lt g.1
    · rw [ep, el]; exact g.2
    · rw [ep]; exact g.1
  · omega
theorem Ok.take {f : HD} (h : Ok f) (w : f.wt ≠ none) (b : Bool) : Ok (take f b) := by
  unfold HD.take
  rcases h.wt w with ⟨z, n, _⟩ | ⟨z, _⟩ | ⟨z, h1, h2⟩
  · simp only [z, if_true]
    unfold weight
    by_cases c : b = true
    · rw [if_pos c]
      exact Ok.first (f := { f with wt := none }) h.len n rfl _
    · rw [if_neg c]
      exact ⟨h.len, h.tops, fun z => absurd rfl z⟩
  · rw [if_neg (by omega), if_pos z]
    exact (sinkOk_take h z w b).ok
  · rw [if_neg (by omega), if_neg (by omega)]
    by_cases c : b = true
    · rw [if_pos c]
      refine Ok.rise (f := chg { f with wt := none } (par f.place)) ?_ ?_ ?_ rfl
      · rw [chg_len]; exact h.len
      · rw [chg_len]; exact h.tops
      · rw [chg_len]; show (f.place - 1) / 2 < f.row.length; omega
    · rw [if_neg c]
      exact Ok.begin (f := { f with wt := none }) h.len rfl (.inl h.tops)
theorem Ok.pop {f : HD} (l : f.row.length ≤ 2501) (n : f.row ≠ []) (w : f.wt = none) (t : f.tops = []) : Ok (pop f) := by
  have l0 : 0 < f.row.length := List.length_pos_iff.mpr n
  unfold HD.pop
  by_cases c : f.row.length = 1
  · rw [if_pos c]
    exact ⟨Nat.zero_le _, fun t' h => (by rw [show ({ f with row := [], given := some (f.row.getD 0 0) } : HD).tops = f.tops from rfl, t] at h; cases h), fun z => absurd w z⟩
  · rw [if_neg c]
    refine Ok.first (f := { f with row := f.row.dropLast }) ?_ ?_ w _
    · show f.row.dropLast.length ≤ 2501; rw [List.length_dropLast]; omega
    · intro e
      have e : f.row.dropLast.length = 0 := by rw [show f.row.dropLast = [] from e]; rfl
      rw [List.length_dropLast] at e
      omega
theorem Ok.weigh {f : HD} (l : f.row.length ≤ 2501) (w : f.wt = none) (t : f.tops = []) {n : Nat} (e : f.new = some n) : Ok (weigh f n) := by
  unfold HD.weigh
  by_cases c : f.row = []
  · rw [if_pos c]
    exact ⟨l, fun t' h => (by rw [show ({ f with given := some n } : HD).tops = f.tops from rfl, t] at h; cases h), fun z => absurd w z⟩
  · rw [if_neg c]
    exact ⟨l, fun t' h => (by rw [show ({ f with phase := 1, wt := some (f.row.getD 0 0, n) } : HD).tops = f.tops from rfl, t] at h; cases h), fun _ => .inl ⟨rfl, c, by show f.new ≠ none; rw [e]; exact Option.some_ne_none _⟩⟩
/-- what a deed needs -/
def Pre (wd : Nat) (row : List Nat) (new : Option Nat) : Prop := row.length ≤ 2500 ∧ (wd = 2 ∨ wd = 3 → row ≠ []) ∧ (wd = 1 ∨ 3 ≤ wd → new ≠ none)
theorem Ok.init {wd : Nat} {row : List Nat} {new : Option Nat} (h : Pre wd row new) : Ok (init wd row new) := by
  obtain ⟨l, h1, h2⟩ := h
  have nl : ∀ {p : Nat → Prop}, ∀ t ∈ ([] : List Nat), p t := fun t ht => by cases ht
  match wd with
  | 0 => exact Ok.begin (f := { ini row new with tops := List.range (row.length / 2) }) (Nat.le_trans l (by decide)) rfl (.inl fun t ht => by
      have ht : t < row.length / 2 := List.mem_range.mp ht
      show 2 * t + 1 < row.length
      omega)
  | 1 => exact Ok.rise (f := { ini (row ++ [new.getD 0]) new with place := row.length }) (by show (row ++ [new.getD 0]).length ≤ 2501; rw [List.length_append]; show row.length + 1 ≤ 2501; omega) (fun t ht => by cases ht) (by show row.length < (row ++ [new.getD 0]).length; rw [List.length_append]; exact Nat.lt_succ_self _) rfl
  | 2 => exact Ok.pop (f := ini row new) (Nat.le_trans l (by decide)) (h1 (.inl rfl)) rfl rfl
  | 3 => exact Ok.first (f := ini row new) (Nat.le_trans l (by decide)) (h1 (.inr rfl)) rfl _
  | n + 4 =>
    cases e : new with
    | none => exact absurd e (h2 (.inr (Nat.le_add_left 3 _)))
    | some x => exact Ok.weigh (f := ini row (some x)) (Nat.le_trans l (by decide)) rfl rfl rfl
/-! it ends -/
def phi (f : HD) : Nat := match f.wt with
  | none => 0
  | some _ => 26 * f.tops.length + (if f.phase = 1 then 27 else if f.phase = 2 then 26 - Nat.log2 (f.place + 1) else 1 + Nat.log2 (f.place + 1))
theorem lg_le {p : Nat} (h : p < 2501) : Nat.log2 (p + 1) ≤ 11 := by
  have : p + 1 < 2 ^ 12 := by omega
  have := (Nat.log2_lt (show p + 1 ≠ 0 by omega)).mpr this
  omega
theorem lg_kid (p b : Nat) (hb : b = 1 ∨ b = 2) : Nat.log2 (2 * p + b + 1) = Nat.log2 (p + 1) + 1 := by
  rw [Nat.log2_def, if_pos (by omega)]
  congr 2
  omega
theorem lg_par {p : Nat} (h : 0 < p) : Nat.log2 (par p + 1) + 1 = Nat.log2 (p + 1) := by
  rw [Nat.log2_def (p + 1), if_pos (by omega)]
  congr 2
  unfold par
  omega
theorem phi_none {f : HD} (h : f.wt = none) : phi f = 0 := by unfold phi; rw [h]
theorem phi_rise1 {f : HD} (w : f.wt = none) : phi (rise1 f) ≤ 26 * f.tops.length + 1 + Nat.log2 (f.place + 1) := by
  unfold rise1
  by_cases c : f.top < f.place
  · rw [if_pos c]
    show 26 * f.tops.length + (1 + Nat.log2 (f.place + 1)) ≤ _
    omega
  · rw [if_neg c, phi_none (by exact w)]
    exact Nat.zero_le _
theorem phi_sink {f : HD} (w : f.wt = none) (p : f.place < f.row.length) (l : f.row.length ≤ 2501) : phi (sink f) ≤ 26 * f.tops.length + (26 - Nat.log2 (f.place + 1)) := by
  have lp : Nat.log2 (f.place + 1) ≤ 11 := lg_le (by omega)
  unfold sink
  by_cases c : 2 * f.place + 2 < f.row.length
  · rw [if_pos c]
    exact Nat.le_refl _
  · rw [if_neg c]
    by_cases d : 2 * f.place + 1 < f.row.length
    · rw [if_pos d]
      have := phi_rise1 (f := chg { f with phase := 2 } (2 * f.place + 1)) w
      have e2 : Nat.log2 (2 * f.place + 1 + 1) ≤ 11 := lg_le (by omega)
      have e3 : (chg { f with phase := 2 } (2 * f.place + 1)).tops = f.tops := rfl
      have e4 : (chg { f with phase := 2 } (2 * f.place + 1)).place = 2 * f.place + 1 := rfl
      rw [e3, e4] at this
      omega
    · rw [if_neg d]
      have := phi_rise1 (f := { f with phase := 2 }) w
      have e3 : ({ f with phase := 2 } : HD).tops = f.tops := rfl
      have e4 : ({ f with phase := 2 } : HD).place = f.place := rfl
      rw [e3, e4] at this
      omega
theorem phi_begin {f : HD} (w : f.wt = none) (l : f.row.length ≤ 2501) (h : TopsOk f) : phi (begin f) ≤ 26 * f.tops.length := by
  cases e : f.tops.getLast? with
  | none => rw [begin_nil (List.getLast?_eq_none_iff.mp e), phi_none w]; exact Nat.zero_le _
  | some t =>
    rw [begin_some e]
    have so := sinkOk_begin l w h e
    have := phi_sink (f := { f with tops := f.tops.dropLast, top := t, place := t }) w so.pl l
    have e3 : ({ f with tops := f.tops.dropLast, top := t, place := t } : HD).tops.length = f.tops.length - 1 := List.length_dropLast
    rw [e3] at this
    have : f.tops ≠ [] := fun z => by rw [z] at e; cases e
    have := List.length_pos_iff.mpr this
    omega
theorem phi_rise {f : HD} (w : f.wt = none) (l : f.row.length ≤ 2501) (h : TopsOk f) : phi (rise f) ≤ 26 * f.tops.length + 1 + Nat.log2 (f.place + 1) := by
  unfold rise
  by_cases c : f.top < f.place
  · rw [if_pos c]; exact phi_rise1 w
  · rw [if_neg c]
    have := phi_begin (f := { f with phase := 3 }) w l h
    have e3 : ({ f with phase := 3 } : HD).tops = f.tops := rfl
    rw [e3] at this
    omega
theorem phi_first {f : HD} (l : f.row.length ≤ 2501) (n : f.row ≠ []) (w : f.wt = none) (item : Nat) : phi (first f item) ≤ 26 := by
  have l0 : 0 < f.row.length := List.length_pos_iff.mpr n
  exact phi_begin (f := { f with given := some (f.row.getD 0 0), row := f.row.set 0 item, tops := [0] }) w (by rw [List.length_set]; exact l) (.inr ⟨Nat.le_refl 1, fun t ht => by
    rw [List.mem_singleton.mp ht, List.length_set]
    exact l0⟩)
theorem phi_take {f : HD} (h : Ok f) (w : f.wt ≠ none) (b : Bool) : phi (take f b) < phi f := by
  obtain ⟨q, hq⟩ := Option.ne_none_iff_exists'.mp w
  have e0 : phi f = 26 * f.tops.length + (if f.phase = 1 then 27 else if f.phase = 2 then 26 - Nat.log2 (f.place + 1) else 1 + Nat.log2 (f.place + 1)) := by unfold phi; rw [hq]
  rw [e0]
  unfold HD.take
  dsimp only
  rcases h.wt w with ⟨z, n, _⟩ | ⟨z, h0, h3⟩ | ⟨z, h1, h2⟩
  · simp only [if_pos z]
    unfold weight
    by_cases c : b = true
    · rw [if_pos c]
      have := phi_first (f := { f with wt := none }) h.len n rfl (f.new.getD 0)
      omega
    · rw [if_neg c, phi_none rfl]
      omega
  · have z1 : ¬ f.phase = 1 := by omega
    simp only [if_neg z1, if_pos z]
    have so := sinkOk_take h z w b
    have lp : Nat.log2 (f.place + 1) ≤ 11 := lg_le (by have := h.len; omega)
    have e4 : Nat.log2 ((chg { f with wt := none } (if b then 2 * f.place + 1 else 2 * f.place + 2)).place + 1) = Nat.log2 (f.place + 1) + 1 := by
      cases b
      · exact lg_kid f.place 2 (.inr rfl)
      · exact lg_kid f.place 1 (.inl rfl)
    have := phi_sink so.wt so.pl so.len
    rw [e4] at this
    have e3 : (chg { f with wt := none } (if b then 2 * f.place + 1 else 2 * f.place + 2)).tops = f.tops := rfl
    rw [e3] at this
    omega
  · have z1 : ¬ f.phase = 1 := by omega
    have z2 : ¬ f.phase = 2 := by omega
    simp only [if_neg z1, if_neg z2]
    by_cases c : b = true
    · rw [if_pos c]
      have := phi_rise (f := chg { f with wt := none } (par f.place)) rfl (by rw [chg_len]; exact h.len) (.inl (by rw [chg_len]; exact h.tops))
      have e3 : (chg { f with wt := none } (par f.place)).tops = f.tops := rfl
      have e4 : (chg { f with wt := none } (par f.place)).place = par f.place := rfl
      rw [e3, e4] at this
      have := lg_par (p := f.place) (by omega)
      omega
    · rw [if_neg c]
      have := phi_begin (f := { f with wt := none }) rfl h.len (.inl h.tops)
      have e3 : ({ f with wt := none } : HD).tops = f.tops := rfl
      rw [e3] at this
      omega
theorem phi_init {wd : Nat} {row : List Nat} {new : Option Nat} (h : Pre wd row new) : phi (init wd row new) ≤ 13 * row.length + 27 := by
  obtain ⟨l, h1, h2⟩ := h
  match wd with
  | 0 =>
    have := phi_begin (f := { ini row new with tops := List.range (row.length / 2) }) rfl (Nat.le_trans l (by decide)) (.inl fun t ht => by
      have ht : t < row.length / 2 := List.mem_range.mp ht
      show 2 * t + 1 < row.length
      omega)
    have e : ({ ini row new with tops := List.range (row.length / 2) } : HD).tops.length = row.length / 2 := List.length_range
    rw [e] at this
    show phi (begin { ini row new with tops := List.range (row.length / 2) }) ≤ _
    omega
  | 1 =>
    have := phi_rise (f := { ini (row ++ [new.getD 0]) new with place := row.length }) rfl (by show (row ++ [new.getD 0]).length ≤ 2501; rw [List.length_append]; show row.length + 1 ≤ 2501; omega) (.inl fun t ht => by cases ht)
    have lp : Nat.log2 (row.length + 1) ≤ 11 := lg_le (by omega)
    show phi (rise { ini (row ++ [new.getD 0]) new with place := row.length }) ≤ _
    have e : ({ ini (row ++ [new.getD 0]) new with place := row.length } : HD).tops.length = 0 := rfl
    have e2 : ({ ini (row ++ [new.getD 0]) new with place := row.length } : HD).place = row.length := rfl
    rw [e, e2] at this
    omega
  | 2 =>
    show phi (pop (ini row new)) ≤ _
    have n := h1 (.inl rfl)
    have l0 : 0 < row.length := List.length_pos_iff.mpr n
    unfold pop
    by_cases c : (ini row new).row.length = 1
    · rw [if_pos c, phi_none rfl]; exact Nat.zero_le _
    · rw [if_neg c]
      have := phi_first (f := { ini row new with row := row.dropLast }) (by show row.dropLast.length ≤ 2501; rw [List.length_dropLast]; omega) (by
        intro e
        have e : row.dropLast.length = 0 := by rw [show row.dropLast = [] from e]; rfl
        rw [List.length_dropLast] at e
        have c : row.length ≠ 1 := c
        omega) rfl ((ini row new).row.getD ((ini row new).row.length - 1) 0)
      exact Nat.le_trans this (by omega)
  | 3 => exact Nat.le_trans (phi_first (f := ini row new) (Nat.le_trans l (by decide)) (h1 (.inr rfl)) rfl _) (by omega)
  | n + 4 =>
    show phi (weigh (ini row new) (new.getD 0)) ≤ _
    unfold weigh
    by_cases c : (ini row new).row = []
    · rw [if_pos c, phi_none rfl]; exact Nat.zero_le _
    · rw [if_neg c]
      show 26 * 0 + 27 ≤ _
      omega
end HD
namespace HD
abbrev Out := List Nat × Option Nat × Option (Nat × Nat) × List (Nat × Nat)
/-- answers are taken while a question waits -/
def runL (f : HD) : List Bool → HD × List (Nat × Nat)
  | [] => (f, [])
  | b :: bs => match f.wt with
    | none => (f, [])
    | some q => ((runL (f.take b) bs).1, q :: (runL (f.take b) bs).2)
def out (f : HD) (asked : List (Nat × Nat)) (rest : List Bool) : Out :=
  ((runL f rest).1.row, (if (runL f rest).1.wt = none then (runL f rest).1.given else none), (runL f rest).1.wt, asked ++ (runL f rest).2)
def mach (f : HD) (as : List Bool) (asked : List (Nat × Nat)) : Out := out f asked (as.drop asked.length)
theorem runL_done {f : HD} (h : f.wt = none) (l : List Bool) : runL f l = (f, []) := by
  cases l with
  | nil => rfl
  | cons b bs => unfold runL; rw [h]
theorem mach_done {f : HD} (h : f.wt = none) (as : List Bool) (asked : List (Nat × Nat)) : mach f as asked = (f.row, f.given, none, asked) := by
  unfold mach out
  rw [runL_done h]
  simp [h]
theorem drop_none {as : List Bool} {k : Nat} (h : as[k]? = none) : as.drop k = [] := List.drop_eq_nil_of_le (List.getElem?_eq_none_iff.mp h)
theorem drop_some {as : List Bool} {k : Nat} {b : Bool} (h : as[k]? = some b) : as.drop k = b :: as.drop (k + 1) := by
  obtain ⟨h1, h2⟩ := List.getElem?_eq_some_iff.mp h
  rw [List.drop_eq_getElem_cons h1, h2]
theorem mach_wait {f : HD} {q : Nat × Nat} (h : f.wt = some q) {as : List Bool} {asked : List (Nat × Nat)} (e : as[asked.length]? = none) : mach f as asked = (f.row, none, some q, asked) := by
  unfold mach out
  rw [drop_none e]
  show (f.row, (if f.wt = none then f.given else none), f.wt, asked ++ []) = _
  rw [h]
  simp
theorem runL_cons {f : HD} {q : Nat × Nat} (h : f.wt = some q) (b : Bool) (bs : List Bool) : runL f (b :: bs) = ((runL (f.take b) bs).1, q :: (runL (f.take b) bs).2) := by
  rw [runL, h]
theorem mach_step {f : HD} {q : Nat × Nat} (h : f.wt = some q) {as : List Bool} {asked : List (Nat × Nat)} {b : Bool} (e : as[asked.length]? = some b) : mach f as asked = mach (f.take b) as (asked ++ [q]) := by
  unfold mach out
  rw [drop_some e, List.length_append, runL_cons h]
  simp
/-! the law's own steps -/
structure LS where
  row : List Nat
  asked : List (Nat × Nat)
def LS.ask (s : LS) (q : Nat × Nat) : LS := { s with asked := s.asked ++ [q] }
def lup (as : List Bool) : Nat → Nat → Nat → LS → Bool × LS
  | 0, _, _, s => (true, s)
  | n + 1, low, p, s => if p ≤ low then (true, s) else
    match as[s.asked.length]? with
    | none => (false, s.ask (s.row.getD p 0, s.row.getD (par p) 0))
    | some false => (true, s.ask (s.row.getD p 0, s.row.getD (par p) 0))
    | some true => lup as n low (par p) { s.ask (s.row.getD p 0, s.row.getD (par p) 0) with row := swap s.row p (par p) }
def ldn (as : List Bool) : Nat → Nat → LS → Option Nat × LS
  | 0, p, s => (some p, s)
  | n + 1, p, s => if 2 * p + 2 < s.row.length then
      match as[s.asked.length]? with
      | none => (none, s.ask (s.row.getD (2 * p + 1) 0, s.row.getD (2 * p + 2) 0))
      | some b => ldn as n (if b then 2 * p + 1 else 2 * p + 2) { s.ask (s.row.getD (2 * p + 1) 0, s.row.getD (2 * p + 2) 0) with row := swap s.row p (if b then 2 * p + 1 else 2 * p + 2) }
    else if 2 * p + 1 < s.row.length then ldn as n (2 * p + 1) { s with row := swap s.row p (2 * p + 1) }
    else (some p, s)
def ldown (as : List Bool) (low : Nat) (s : LS) : Bool × LS :=
  match ldn as s.row.length low s with
  | (none, s') => (false, s')
  | (some p, s') => lup as s'.row.length low p s'
def lheap (as : List Bool) : Nat → LS → Bool × LS
  | 0, s => (true, s)
  | k + 1, s => match ldown as k s with
    | (false, s') => (false, s')
    | (true, s') => lheap as k s'
def lfirst (as : List Bool) (item : Nat) (s : LS) : Option Nat × Bool × LS := (some (s.row.getD 0 0), ldown as 0 { s with row := s.row.set 0 item })
def lgo (as : List Bool) (wd n : Nat) (s : LS) : Option Nat × Bool × LS :=
  match wd with
  | 0 => (none, lheap as (s.row.length / 2) s)
  | 1 => (none, lup as (s.row.length + 1) 0 s.row.length { s with row := s.row ++ [n] })
  | 2 => if s.row.length = 1 then (some (s.row.getD 0 0), true, { s with row := [] }) else lfirst as (s.row.getD (s.row.length - 1) 0) { s with row := s.row.dropLast }
  | 3 => lfirst as n s
  | _ => if s.row = [] then (some n, true, s) else
    match as[s.asked.length]? with
    | none => (none, false, s.ask (s.row.getD 0 0, n))
    | some false => (some n, true, s.ask (s.row.getD 0 0, n))
    | some true => lfirst as n (s.ask (s.row.getD 0 0, n))
def lout (r : Option Nat × Bool × LS) : Out := if r.2.1 = true then (r.2.2.row, r.1, none, r.2.2.asked) else (r.2.2.row, none, r.2.2.asked.getLast?, r.2.2.asked.dropLast)
def wait (s : LS) : Out := (s.row, none, s.asked.getLast?, s.asked.dropLast)
theorem wait_ask (s : LS) (q : Nat × Nat) : wait (s.ask q) = (s.row, none, some q, s.asked) := by simp [wait, LS.ask]
theorem begin_mach {g h : HD} (w1 : g.wt = none) (w2 : h.wt = none) (e1 : g.row = h.row) (e2 : g.tops = h.tops) (e3 : g.given = h.given) (e4 : g.new = h.new) (as : List Bool) (asked : List (Nat × Nat)) : mach (begin g) as asked = mach (begin h) as asked := by
  obtain ⟨a1, a2, a3, a4, a5, a6, a7, a8⟩ := g
  obtain ⟨b1, b2, b3, b4, b5, b6, b7, b8⟩ := h
  cases w1; cases w2; cases e1; cases e2; cases e3; cases e4
  cases e : a5.getLast? with
  | none =>
    obtain rfl := List.getLast?_eq_none_iff.mp e
    rw [begin_nil rfl, begin_nil rfl, mach_done rfl, mach_done rfl]
  | some t => rw [begin_some (f := ⟨a1, a2, a3, none, a5, a6, a7, a8⟩) e, begin_some (f := ⟨a1, a2, a3, none, a5, b6, b7, b8⟩) e]; rfl
theorem up_mach (as : List Bool) : ∀ (n : Nat) (low p : Nat) (s : LS) (g : HD), g.row = s.row → g.place = p → g.top = low → g.wt = none → p ≤ n →
    (((lup as n low p s).1 = false → mach (rise g) as s.asked = wait (lup as n low p s).2) ∧
     ((lup as n low p s).1 = true → mach (rise g) as s.asked = mach (begin { g with row := (lup as n low p s).2.row }) as (lup as n low p s).2.asked))
  | n, low, p, s, g, h1, h2, h3, h4, h5 => by
    have stop : p ≤ low → mach (rise g) as s.asked = mach (begin { g with row := s.row }) as s.asked := fun c => by
      unfold rise
      rw [if_neg (by rw [h2, h3]; omega)]
      exact begin_mach (g := { g with phase := 3 }) (h := { g with row := s.row }) h4 h4 h1 rfl rfl rfl as s.asked
    cases n with
    | zero =>
      refine ⟨fun z => (by unfold lup at z; cases z), fun _ => ?_⟩
      unfold lup
      exact stop (by omega)
    | succ n =>
      unfold lup
      by_cases c : p ≤ low
      · rw [if_pos c]
        exact ⟨fun z => (by cases z), fun _ => stop c⟩
      · rw [if_neg c]
        have er : rise g = { g with phase := 3, wt := some (s.row.getD p 0, s.row.getD (par p) 0) } := by
          unfold rise rise1
          rw [if_pos (by rw [h2, h3]; omega), if_pos (by rw [h2, h3]; omega), h1, h2]
        cases e : as[s.asked.length]? with
        | none =>
          refine ⟨fun _ => ?_, fun z => by cases z⟩
          rw [er, mach_wait rfl e]
          exact Eq.trans (by rw [h1]) (wait_ask s _).symm
        | some b =>
          rw [er, mach_step (q := (s.row.getD p 0, s.row.getD (par p) 0)) rfl e]
          cases b with
          | false =>
            refine ⟨fun z => (by cases z), fun _ => ?_⟩
            refine begin_mach (g := { g with phase := 3, wt := none }) (h := { g with row := s.row }) rfl h4 h1 rfl rfl rfl as _
          | true =>
            have := up_mach as n low (par p) { s.ask (s.row.getD p 0, s.row.getD (par p) 0) with row := swap s.row p (par p) } (chg { g with phase := 3, wt := none } (par p)) (by show swap g.row g.place (par p) = _; rw [h1, h2]) rfl h3 rfl (by unfold par; omega)
            have et : ({ g with phase := 3, wt := some (s.row.getD p 0, s.row.getD (par p) 0) } : HD).take true = rise (chg { g with phase := 3, wt := none } (par p)) := by
              show rise (chg { g with phase := 3, wt := none } (par g.place)) = _
              rw [h2]
            rw [et]
            refine ⟨this.1, fun z => (this.2 z).trans ?_⟩
            exact begin_mach (g := { chg { g with phase := 3, wt := none } (par p) with row := (lup as n low (par p) { s.ask (s.row.getD p 0, s.row.getD (par p) 0) with row := swap s.row p (par p) }).2.row }) (h := { g with row := (lup as n low (par p) { s.ask (s.row.getD p 0, s.row.getD (par p) 0) with row := swap s.row p (par p) }).2.row }) rfl h4 rfl rfl rfl rfl as _
theorem sink_phase (g : HD) (k : Nat) : sink { g with phase := k } = sink g := rfl
theorem rise1_phase (g : HD) (k : Nat) : rise1 { g with phase := k } = rise1 g := rfl
theorem dn_mach (as : List Bool) : ∀ (n : Nat) (p : Nat) (s : LS) (g : HD), g.row = s.row → g.place = p → g.wt = none → s.row.length ≤ n + p →
    (((ldn as n p s).1 = none → mach (sink g) as s.asked = wait (ldn as n p s).2) ∧
     (∀ r, (ldn as n p s).1 = some r → mach (sink g) as s.asked = mach (rise1 { g with row := (ldn as n p s).2.row, place := r }) as (ldn as n p s).2.asked ∧ p ≤ r ∧ (r = p → ¬ 2 * p + 1 < s.row.length)))
  | n, p, s, g, h1, h2, h4, h5 => by
    have stop : ¬ 2 * p + 1 < s.row.length → mach (sink g) as s.asked = mach (rise1 { g with row := s.row, place := p }) as s.asked := fun c => by
      unfold sink
      rw [if_neg (by rw [h1, h2]; omega), if_neg (by rw [h1, h2]; omega), rise1_phase]
      subst h2
      rw [← h1]
    cases n with
    | zero =>
      refine ⟨fun z => (by unfold ldn at z; cases z), fun r hr => ?_⟩
      unfold ldn at hr ⊢
      cases hr
      exact ⟨stop (by omega), Nat.le_refl _, fun _ => by omega⟩
    | succ n =>
      unfold ldn
      by_cases c : 2 * p + 2 < s.row.length
      · rw [if_pos c]
        have er : sink g = { g with phase := 2, wt := some (s.row.getD (2 * p + 1) 0, s.row.getD (2 * p + 2) 0) } := by
          unfold sink
          rw [if_pos (by rw [h1, h2]; exact c), h1, h2]
        cases e : as[s.asked.length]? with
        | none =>
          refine ⟨fun _ => ?_, fun r z => (by cases z)⟩
          rw [er, mach_wait rfl e]
          exact Eq.trans (by rw [h1]) (wait_ask s _).symm
        | some b =>
          rw [er, mach_step (q := (s.row.getD (2 * p + 1) 0, s.row.getD (2 * p + 2) 0)) rfl e]
          have et : ({ g with phase := 2, wt := some (s.row.getD (2 * p + 1) 0, s.row.getD (2 * p + 2) 0) } : HD).take b = sink (chg { g with phase := 2, wt := none } (if b then 2 * p + 1 else 2 * p + 2)) := by
            show sink (chg { g with phase := 2, wt := none } (if b then 2 * g.place + 1 else 2 * g.place + 2)) = _
            rw [h2]
          rw [et]
          dsimp only
          generalize hm : (if b then 2 * p + 1 else 2 * p + 2) = m
          have mp : p < m := by subst hm; cases b <;> simp <;> omega
          have := dn_mach as n m { s.ask (s.row.getD (2 * p + 1) 0, s.row.getD (2 * p + 2) 0) with row := swap s.row p m } (chg { g with phase := 2, wt := none } m) (by show swap g.row g.place m = _; rw [h1, h2]) rfl rfl (by show (swap s.row p m).length ≤ n + m; rw [swap_len]; omega)
          refine ⟨this.1, fun r hr => ⟨((this.2 r hr).1).trans ?_, by have := (this.2 r hr).2.1; omega, fun z => by have := (this.2 r hr).2.1; omega⟩⟩
          obtain ⟨a1, a2, a3, a4, a5, a6, a7, a8⟩ := g
          cases h4
          rfl
      · rw [if_neg c]
        by_cases k : 2 * p + 1 < s.row.length
        · rw [if_pos k]
          have er : sink g = rise1 (chg { g with phase := 2 } (2 * p + 1)) := by
            unfold sink
            rw [if_neg (by rw [h1, h2]; exact c), if_pos (by rw [h1, h2]; exact k), h2]
          have el : ldn as n (2 * p + 1) { s with row := swap s.row p (2 * p + 1) } = (some (2 * p + 1), { s with row := swap s.row p (2 * p + 1) }) := by
            cases n with
            | zero => rfl
            | succ n =>
              have l : ({ s with row := swap s.row p (2 * p + 1) } : LS).row.length = s.row.length := swap_len _ _ _
              unfold ldn
              rw [if_neg (by rw [l]; omega), if_neg (by rw [l]; omega)]
          rw [el]
          refine ⟨fun z => (by cases z), fun r hr => ?_⟩
          cases hr
          refine ⟨?_, by omega, fun z => by omega⟩
          rw [er]
          obtain ⟨a1, a2, a3, a4, a5, a6, a7, a8⟩ := g
          cases h1; cases h2
          rfl
        · rw [if_neg k]
          refine ⟨fun z => (by cases z), fun r hr => ?_⟩
          cases hr
          exact ⟨stop k, Nat.le_refl _, fun _ => k⟩
theorem lup_len (as : List Bool) : ∀ (n low p : Nat) (s : LS), (lup as n low p s).2.row.length = s.row.length
  | 0, _, _, _ => rfl
  | n + 1, low, p, s => by
    unfold lup
    split
    · rfl
    · split
      · rfl
      · rfl
      · rw [lup_len as n]; exact swap_len _ _ _
theorem ldn_len (as : List Bool) : ∀ (n p : Nat) (s : LS), (ldn as n p s).2.row.length = s.row.length
  | 0, _, _ => rfl
  | n + 1, p, s => by
    unfold ldn
    split
    · split
      · rfl
      · rw [ldn_len as n]; exact swap_len _ _ _
    · split
      · rw [ldn_len as n]; exact swap_len _ _ _
      · rfl
theorem ldown_len (as : List Bool) (low : Nat) (s : LS) : (ldown as low s).2.row.length = s.row.length := by
  unfold ldown
  have := ldn_len as s.row.length low s
  split
  · rename_i s' e; rw [e] at this; exact this
  · rename_i p s' e; rw [e] at this; rw [lup_len]; exact this
theorem ldn_lt (as : List Bool) : ∀ (n p : Nat) (s : LS) (r : Nat), p < s.row.length → (ldn as n p s).1 = some r → r < s.row.length
  | 0, p, s, r, h, e => by unfold ldn at e; cases e; exact h
  | n + 1, p, s, r, h, e => by
    unfold ldn at e
    split at e
    · rename_i c
      split at e
      · cases e
      · rename_i b _
        have := ldn_lt as n _ _ r (by show _ < (swap s.row p _).length; rw [swap_len]; cases b <;> simp <;> omega) e
        have t : r < (swap s.row p (if b then 2 * p + 1 else 2 * p + 2)).length := this
        rw [swap_len] at t
        exact t
    · split at e
      · rename_i k
        have := ldn_lt as n _ _ r (by show _ < (swap s.row p _).length; rw [swap_len]; exact k) e
        have t : r < (swap s.row p (2 * p + 1)).length := this
        rw [swap_len] at t
        exact t
      · cases e; exact h
theorem down_mach (as : List Bool) (low : Nat) (s : LS) (g : HD) (h1 : g.row = s.row) (h2 : g.place = low) (h3 : g.top = low) (h4 : g.wt = none) (h5 : low < s.row.length) (h6 : g.tops = [] ∨ 2 * low + 1 < s.row.length) :
    (((ldown as low s).1 = false → mach (sink g) as s.asked = wait (ldown as low s).2) ∧
     ((ldown as low s).1 = true → mach (sink g) as s.asked = mach (begin { g with row := (ldown as low s).2.row }) as (ldown as low s).2.asked)) := by
  have D := dn_mach as s.row.length low s g h1 h2 h4 (by omega)
  have L := ldn_lt as s.row.length low s
  have N := ldn_len as s.row.length low s
  unfold ldown
  generalize ldn as s.row.length low s = r at D L N ⊢
  obtain ⟨o, s'⟩ := r
  cases o with
  | none => exact ⟨fun _ => D.1 rfl, fun z => by cases z⟩
  | some p =>
    obtain ⟨D1, D2, D3⟩ := D.2 p rfl
    have pl := L p h5 rfl
    have N : s'.row.length = s.row.length := N
    have er : rise1 { g with row := s'.row, place := p } = rise { g with row := s'.row, place := p } := by
      unfold rise
      by_cases c : g.top < p
      · rw [if_pos (by exact c)]
      · rw [if_neg (by exact c)]
        have : p = low := by omega
        have t0 : g.tops = [] := by
          rcases h6 with h | h
          · exact h
          · exact absurd h (D3 this)
        rw [begin_nil (by exact t0)]
        unfold rise1
        rw [if_neg (by exact c)]
    have U := up_mach as s'.row.length low p s' { g with row := s'.row, place := p } rfl rfl h3 h4 (by omega)
    have D1 : mach (sink g) as s.asked = mach (rise1 { g with row := s'.row, place := p }) as s'.asked := D1
    rw [D1, er]
    refine ⟨U.1, fun z => (U.2 z).trans ?_⟩
    exact begin_mach (g := { g with row := (lup as s'.row.length low p s').2.row, place := p }) (h := { g with row := (lup as s'.row.length low p s').2.row }) h4 h4 rfl rfl rfl rfl as _
theorem heap_mach (as : List Bool) : ∀ (k : Nat) (s : LS) (g : HD), g.row = s.row → g.tops = List.range k → g.wt = none → (∀ t, t < k → 2 * t + 1 < s.row.length) →
    (((lheap as k s).1 = false → mach (begin g) as s.asked = wait (lheap as k s).2) ∧
     ((lheap as k s).1 = true → mach (begin g) as s.asked = ((lheap as k s).2.row, g.given, none, (lheap as k s).2.asked)))
  | 0, s, g, h1, h2, h4, h5 => by
    refine ⟨fun z => (by unfold lheap at z; cases z), fun _ => ?_⟩
    rw [begin_nil (by rw [h2]; rfl), mach_done h4, h1]
    rfl
  | k + 1, s, g, h1, h2, h4, h5 => by
    have el : g.tops.getLast? = some k := by rw [h2, List.range_succ]; simp
    have ed : g.tops.dropLast = List.range k := by rw [h2, List.range_succ]; simp
    rw [begin_some el]
    have D := down_mach as k s { g with tops := g.tops.dropLast, top := k, place := k } h1 rfl rfl h4 (by have := h5 k (Nat.lt_succ_self k); omega) (.inr (h5 k (Nat.lt_succ_self k)))
    have N := ldown_len as k s
    unfold lheap
    generalize ldown as k s = r at D N ⊢
    obtain ⟨b, s'⟩ := r
    have N : s'.row.length = s.row.length := N
    cases b with
    | false => exact ⟨fun _ => D.1 rfl, fun z => by cases z⟩
    | true =>
      have H := heap_mach as k s' { g with tops := g.tops.dropLast, top := k, place := k, row := s'.row } rfl ed h4 (fun t ht => by rw [N]; exact h5 t (by omega))
      have D2 := D.2 rfl
      rw [D2]
      exact H
theorem lheap_len (as : List Bool) : ∀ (k : Nat) (s : LS), (lheap as k s).2.row.length = s.row.length
  | 0, _ => rfl
  | k + 1, s => by
    have N := ldown_len as k s
    unfold lheap
    split
    · rename_i s' e; rw [e] at N; exact N
    · rename_i s' e; rw [e] at N; rw [lheap_len as k]; exact N
theorem lout_of {o : Option Nat} {b : Bool} {s : LS} {m : Out} (h1 : b = false → m = wait s) (h2 : b = true → m = (s.row, o, none, s.asked)) : lout (o, b, s) = m := by
  cases b with
  | false => rw [h1 rfl]; rfl
  | true => rw [h2 rfl]; rfl
theorem first_mach (as : List Bool) (s : LS) (f : HD) (item : Nat) (h1 : f.row = s.row) (h4 : f.wt = none) (n : s.row ≠ []) : lout (lfirst as item s) = mach (first f item) as s.asked := by
  have l0 : 0 < s.row.length := List.length_pos_iff.mpr n
  have D := down_mach as 0 { s with row := s.row.set 0 item } { f with given := some (f.row.getD 0 0), row := f.row.set 0 item, tops := [], top := 0, place := 0 } (by show f.row.set 0 item = _; rw [h1]) rfl rfl h4 (by show 0 < (s.row.set 0 item).length; rw [List.length_set]; exact l0) (.inl rfl)
  unfold first
  rw [begin_some (t := 0) rfl]
  unfold lfirst
  refine lout_of (fun z => D.1 z) (fun z => (D.2 z).trans ?_)
  obtain ⟨a1, a2, a3, a4, a5, a6, a7, a8⟩ := f
  cases h1; cases h4
  rw [begin_nil rfl, mach_done rfl]
  rfl
theorem go_mach (as : List Bool) (wd n : Nat) (row : List Nat) (new : Option Nat) (hn : 1 ≤ wd → wd ≠ 2 → new = some n) (hp : wd = 2 ∨ wd = 3 → row ≠ []) : lout (lgo as wd n ⟨row, []⟩) = mach (init wd row new) as [] := by
  match wd with
  | 0 =>
    have H := heap_mach as (row.length / 2) ⟨row, []⟩ { ini row new with tops := List.range (row.length / 2) } rfl rfl rfl (fun t ht => by show 2 * t + 1 < row.length; omega)
    exact lout_of H.1 H.2
  | 1 =>
    have e := hn (Nat.le_refl 1) (by decide)
    have U := up_mach as (row.length + 1) 0 row.length ⟨row ++ [n], []⟩ { ini (row ++ [new.getD 0]) new with place := row.length } (by rw [e]; rfl) rfl rfl rfl (Nat.le_succ _)
    refine lout_of U.1 (fun z => (U.2 z).trans ?_)
    rw [begin_nil rfl, mach_done rfl]
    rfl
  | 2 =>
    show lout (if row.length = 1 then (some (row.getD 0 0), true, ⟨[], []⟩) else lfirst as (row.getD (row.length - 1) 0) ⟨row.dropLast, []⟩) = mach (pop (ini row new)) as []
    unfold pop
    have n0 := List.length_pos_iff.mpr (hp (.inl rfl))
    by_cases c : row.length = 1
    · rw [if_pos c, if_pos (by exact c), mach_done rfl]
      rfl
    · rw [if_neg c, if_neg (by exact c)]
      exact first_mach as ⟨row.dropLast, []⟩ { ini row new with row := row.dropLast } _ rfl rfl fun z => by
        have z : row.dropLast.length = 0 := by rw [show row.dropLast = [] from z]; rfl
        rw [List.length_dropLast] at z
        omega
  | 3 =>
    have e := hn (by decide) (by decide)
    show lout (lfirst as n ⟨row, []⟩) = mach (first (ini row new) (new.getD 0)) as []
    rw [e]
    exact first_mach as ⟨row, []⟩ (ini row (some n)) n rfl rfl (hp (.inr rfl))
  | k + 4 =>
    have e := hn (by omega) (by omega)
    show lout (if row = [] then (some n, true, ⟨row, []⟩) else
      match as[0]? with
      | none => (none, false, (LS.mk row []).ask (row.getD 0 0, n))
      | some false => (some n, true, (LS.mk row []).ask (row.getD 0 0, n))
      | some true => lfirst as n ((LS.mk row []).ask (row.getD 0 0, n))) = mach (weigh (ini row new) (new.getD 0)) as []
    rw [e]
    unfold weigh
    by_cases c : row = []
    · rw [if_pos c, if_pos (by exact c), mach_done rfl]
      rfl
    · rw [if_neg c, if_neg (by exact c)]
      cases h : as[0]? with
      | none => rw [mach_wait (q := (row.getD 0 0, n)) rfl (by exact h)]; rfl
      | some b =>
        rw [mach_step (q := (row.getD 0 0, n)) rfl (by exact h)]
        cases b with
        | false => show _ = mach { ini row (some n) with phase := 1, wt := none, given := some n } as [(row.getD 0 0, n)]; rw [mach_done rfl]; rfl
        | true => exact first_mach as ⟨row, [(row.getD 0 0, n)]⟩ { ini row (some n) with phase := 1, wt := none } n rfl rfl c
/-! honest answers -/
def less (ns : List Int) (q : Nat × Nat) : Bool := decide (ns.getD q.1 0 < ns.getD q.2 0)
def stps (o : Nat × Nat → Bool) (f : HD) : Nat → HD
  | 0 => f
  | n + 1 => match (stps o f n).wt with
    | none => stps o f n
    | some q => (stps o f n).take (o q)
def asks (o : Nat × Nat → Bool) (f : HD) : Nat → List (Nat × Nat)
  | 0 => []
  | n + 1 => match (stps o f n).wt with
    | none => asks o f n
    | some q => asks o f n ++ [q]
theorem stps_next {o : Nat × Nat → Bool} {f : HD} {n : Nat} {q : Nat × Nat} (h : (stps o f n).wt = some q) : stps o f (n + 1) = (stps o f n).take (o q) := by
  show (match (stps o f n).wt with | none => stps o f n | some q => (stps o f n).take (o q)) = _
  rw [h]
theorem asks_next {o : Nat × Nat → Bool} {f : HD} {n : Nat} {q : Nat × Nat} (h : (stps o f n).wt = some q) : asks o f (n + 1) = asks o f n ++ [q] := by
  show (match (stps o f n).wt with | none => asks o f n | some q => asks o f n ++ [q]) = _
  rw [h]
theorem Ok.stps {o : Nat × Nat → Bool} {f : HD} (h : Ok f) : ∀ n, Ok (HD.stps o f n)
  | 0 => h
  | n + 1 => by
    cases e : (HD.stps o f n).wt with
    | none =>
      show Ok (match (HD.stps o f n).wt with | none => HD.stps o f n | some q => (HD.stps o f n).take (o q))
      rw [e]
      exact Ok.stps h n
    | some q => rw [stps_next e]; exact (Ok.stps h n).take (by rw [e]; exact Option.some_ne_none _) _
theorem stps_mach {o : Nat × Nat → Bool} {f : HD} : ∀ n, mach f ((asks o f n).map o) [] = ((stps o f n).row, (if (stps o f n).wt = none then (stps o f n).given else none), (stps o f n).wt, asks o f n) := by
  intro n
  have key : ∀ n (l : List Bool), (∀ i, i < n → (stps o f i).wt ≠ none) → runL f ((asks o f n).map o ++ l) = ((runL (stps o f n) l).1, asks o f n ++ (runL (stps o f n) l).2) := by
    intro n
    induction n with
    | zero => intro l _; rfl
    | succ n ih =>
      intro l hb
      obtain ⟨q, hq⟩ := Option.ne_none_iff_exists'.mp (hb n (Nat.lt_succ_self n))
      rw [asks_next hq, stps_next hq, List.map_append, List.append_assoc, ih _ fun i hi => hb i (Nat.lt_succ_of_lt hi)]
      show ((runL (stps o f n) (o q :: l)).1, asks o f n ++ (runL (stps o f n) (o q :: l)).2) = _
      rw [runL_cons hq]
      simp
  have red : ∃ m, m ≤ n ∧ (∀ i, i < m → (stps o f i).wt ≠ none) ∧ stps o f n = stps o f m ∧ asks o f n = asks o f m := by
    induction n with
    | zero => exact ⟨0, Nat.le_refl _, fun i h => absurd h (Nat.not_lt_zero _), rfl, rfl⟩
    | succ n ih =>
      obtain ⟨m, h1, h2, h3, h4⟩ := ih
      cases e : (stps o f n).wt with
      | none =>
        refine ⟨m, Nat.le_succ_of_le h1, h2, ?_, ?_⟩
        · show (match (stps o f n).wt with | none => stps o f n | some q => (stps o f n).take (o q)) = _
          rw [e]; exact h3
        · show (match (stps o f n).wt with | none => asks o f n | some q => asks o f n ++ [q]) = _
          rw [e]; exact h4
      | some q =>
        refine ⟨m + 1, Nat.succ_le_succ h1, fun i hi => ?_, ?_, ?_⟩
        · rcases Nat.lt_succ_iff_lt_or_eq.mp hi with h | h
          · exact h2 i h
          · rw [h, ← h3, e]; exact Option.some_ne_none _
        · rw [stps_next e, stps_next (by rw [← h3]; exact e), h3]
        · rw [asks_next e, asks_next (by rw [← h3]; exact e), h4]
  obtain ⟨m, h1, h2, h3, h4⟩ := red
  rw [h3, h4]
  have := key m [] h2
  rw [List.append_nil] at this
  unfold mach out
  rw [show ([] : List (Nat × Nat)).length = 0 from rfl, List.drop_zero, this]
  show (_, _, _, [] ++ (asks o f m ++ [])) = _
  rw [List.append_nil, List.nil_append]
  rfl
theorem asks_len {o : Nat × Nat → Bool} {f : HD} : ∀ {n : Nat}, (∀ i, i < n → (stps o f i).wt ≠ none) → (asks o f n).length = n
  | 0, _ => rfl
  | n + 1, h => by
    obtain ⟨q, hq⟩ := Option.ne_none_iff_exists'.mp (h n (Nat.lt_succ_self n))
    rw [asks_next hq, List.length_append, asks_len fun i hi => h i (Nat.lt_succ_of_lt hi)]
    rfl
theorem phi_stps {o : Nat × Nat → Bool} {f : HD} (h : Ok f) : ∀ {n : Nat}, (∀ i, i < n → (stps o f i).wt ≠ none) → phi (stps o f n) + n ≤ phi f
  | 0, _ => Nat.le_refl _
  | n + 1, hb => by
    have hw := hb n (Nat.lt_succ_self n)
    obtain ⟨q, hq⟩ := Option.ne_none_iff_exists'.mp hw
    have := phi_stps h fun i hi => hb i (Nat.lt_succ_of_lt hi)
    have := phi_take (h.stps (o := o) n) hw (o q)
    rw [stps_next hq]
    omega
end HD


namespace HD
/-! the items asked about -/
theorem mem_swap {l : List Nat} {i j v : Nat} (hi : i < l.length) (hj : j < l.length) (h : v ∈ swap l i j) : v ∈ l := by
  unfold swap at h
  rcases List.mem_or_eq_of_mem_set h with h | h
  · rcases List.mem_or_eq_of_mem_set h with h | h
    · exact h
    · rw [h, List.getD_eq_getElem?_getD, List.getElem?_eq_getElem hj]; exact List.getElem_mem hj
  · rw [h, List.getD_eq_getElem?_getD, List.getElem?_eq_getElem hi]; exact List.getElem_mem hi
theorem getD_lt {l : List Nat} {i N : Nat} (h : ∀ v ∈ l, v < N) (hi : i < l.length) : l.getD i 0 < N := by
  rw [List.getD_eq_getElem?_getD, List.getElem?_eq_getElem hi]
  exact h _ (List.getElem_mem hi)
structure Its (N : Nat) (f : HD) : Prop where
  row : ∀ v ∈ f.row, v < N
  new : f.phase = 1 → f.new.getD 0 < N
  wt : ∀ q, f.wt = some q → q.1 < N ∧ q.2 < N
theorem Its.rise1 {N : Nat} {f : HD} (h : ∀ v ∈ f.row, v < N) (p : f.place < f.row.length) (w : f.wt = none) : Its N (HD.rise1 f) := by
  unfold HD.rise1
  by_cases c : f.top < f.place
  · rw [if_pos c]
    exact ⟨h, fun z => absurd (show (3 : Nat) = 1 from z) (by decide), fun q hq => by cases hq; exact ⟨getD_lt h p, getD_lt h (by show (f.place - 1) / 2 < f.row.length; omega)⟩⟩
  · rw [if_neg c]
    exact ⟨h, fun z => absurd (show (3 : Nat) = 1 from z) (by decide), fun q hq => by have hq : f.wt = some q := hq; rw [w] at hq; cases hq⟩
theorem Its.sink {N : Nat} {f : HD} (h : ∀ v ∈ f.row, v < N) (so : SinkOk f) : Its N (HD.sink f) := by
  unfold HD.sink
  by_cases c : 2 * f.place + 2 < f.row.length
  · rw [if_pos c]
    exact ⟨h, fun z => absurd (show (2 : Nat) = 1 from z) (by decide), fun q hq => by cases hq; exact ⟨getD_lt h (by omega), getD_lt h c⟩⟩
  · rw [if_neg c]
    by_cases k : 2 * f.place + 1 < f.row.length
    · rw [if_pos k]
      exact Its.rise1 (f := chg { f with phase := 2 } (2 * f.place + 1)) (fun v hv => h v (mem_swap so.pl k hv)) (by rw [chg_len]; exact k) so.wt
    · rw [if_neg k]
      exact Its.rise1 (f := { f with phase := 2 }) h so.pl so.wt
theorem Its.begin {N : Nat} {f : HD} (h : Its N f) (l : f.row.length ≤ 2501) (w : f.wt = none) (t : TopsOk f) : Its N (HD.begin f) := by
  cases e : f.tops.getLast? with
  | none => rw [begin_nil (List.getLast?_eq_none_iff.mp e)]; exact h
  | some k => rw [begin_some e]; exact Its.sink h.row (sinkOk_begin l w t e)
theorem Its.rise {N : Nat} {f : HD} (h : ∀ v ∈ f.row, v < N) (l : f.row.length ≤ 2501) (w : f.wt = none) (t : TopsOk f) (p : f.place < f.row.length) : Its N (HD.rise f) := by
  unfold HD.rise
  by_cases c : f.top < f.place
  · rw [if_pos c]; exact Its.rise1 h p w
  · rw [if_neg c]
    exact Its.begin (f := { f with phase := 3 }) ⟨h, fun z => absurd (show (3 : Nat) = 1 from z) (by decide), fun q hq => by have hq : f.wt = some q := hq; rw [w] at hq; cases hq⟩ l w t
theorem Its.first {N : Nat} {f : HD} (h : Its N f) (l : f.row.length ≤ 2501) (n : f.row ≠ []) (w : f.wt = none) {item : Nat} (hi : item < N) : Its N (HD.first f item) := by
  have l0 : 0 < f.row.length := List.length_pos_iff.mpr n
  exact Its.begin (f := { f with given := some (f.row.getD 0 0), row := f.row.set 0 item, tops := [0] }) ⟨fun v hv => by
    rcases List.mem_or_eq_of_mem_set hv with hv | hv
    · exact h.row v hv
    · rw [hv]; exact hi, h.new, h.wt⟩ (by rw [List.length_set]; exact l) w (.inr ⟨Nat.le_refl 1, fun t ht => by
    rw [List.mem_singleton.mp ht, List.length_set]
    exact l0⟩)
theorem Its.take {N : Nat} {f : HD} (i : Its N f) (h : Ok f) (w : f.wt ≠ none) (b : Bool) : Its N (HD.take f b) := by
  have i0 : Its N { f with wt := none } := ⟨i.row, i.new, fun q hq => by cases hq⟩
  unfold HD.take
  dsimp only
  rcases h.wt w with ⟨z, n, _⟩ | ⟨z, z1, z2⟩ | ⟨z, h1, h2⟩
  · simp only [if_pos z]
    unfold weight
    by_cases c : b = true
    · rw [if_pos c]
      exact Its.first i0 h.len n rfl (i.new z)
    · rw [if_neg c]
      exact ⟨i.row, i.new, fun q hq => by cases hq⟩
  · have z3 : ¬ f.phase = 1 := by omega
    simp only [if_neg z3, if_pos z]
    have so := sinkOk_take h z w b
    refine Its.sink (fun v hv => i.row v (mem_swap (i := f.place) (j := (if b then 2 * f.place + 1 else 2 * f.place + 2)) (by omega) ?_ hv)) so
    cases b <;> simp <;> omega
  · have z3 : ¬ f.phase = 1 := by omega
    have z4 : ¬ f.phase = 2 := by omega
    simp only [if_neg z3, if_neg z4]
    have pp : par f.place < f.row.length := by unfold par; omega
    by_cases c : b = true
    · rw [if_pos c]
      refine Its.rise (f := chg { f with wt := none } (par f.place)) (fun v hv => i.row v (mem_swap (i := f.place) (j := par f.place) h2 pp hv)) ?_ rfl (.inl ?_) ?_
      · rw [chg_len]; exact h.len
      · rw [chg_len]; exact h.tops
      · rw [chg_len]; exact pp
    · rw [if_neg c]
      exact Its.begin i0 h.len rfl (.inl h.tops)
theorem Its.init {N wd : Nat} {row : List Nat} {new : Option Nat} (h : Pre wd row new) (hr : ∀ v ∈ row, v < N) (hn : wd = 1 ∨ 3 ≤ wd → new.getD 0 < N) : Its N (HD.init wd row new) := by
  obtain ⟨l, h1, h2⟩ := h
  have i0 : Its N (ini row new) := ⟨hr, fun z => absurd (show (2 : Nat) = 1 from z) (by decide), fun q hq => by cases hq⟩
  match wd with
  | 0 => exact Its.begin (f := { ini row new with tops := List.range (row.length / 2) }) ⟨hr, fun z => absurd (show (2 : Nat) = 1 from z) (by decide), fun q hq => by cases hq⟩ (Nat.le_trans l (by decide)) rfl (.inl fun t ht => by
      have ht : t < row.length / 2 := List.mem_range.mp ht
      show 2 * t + 1 < row.length
      omega)
  | 1 => exact Its.rise (f := { ini (row ++ [new.getD 0]) new with place := row.length }) (fun v hv => by
      rcases List.mem_append.mp hv with hv | hv
      · exact hr v hv
      · rw [List.mem_singleton.mp hv]; exact hn (.inl rfl)) (by show (row ++ [new.getD 0]).length ≤ 2501; rw [List.length_append]; show row.length + 1 ≤ 2501; omega) rfl (.inl fun t ht => by cases ht) (by show row.length < (row ++ [new.getD 0]).length; rw [List.length_append]; exact Nat.lt_succ_self _)
  | 2 =>
    have n := h1 (.inl rfl)
    have l0 : 0 < row.length := List.length_pos_iff.mpr n
    show Its N (pop (ini row new))
    unfold pop
    by_cases c : (ini row new).row.length = 1
    · rw [if_pos c]
      exact ⟨fun v hv => (by cases hv), fun z => absurd (show (2 : Nat) = 1 from z) (by decide), fun q hq => by cases hq⟩
    · rw [if_neg c]
      refine Its.first (f := { ini row new with row := row.dropLast }) ⟨fun v hv => hr v (List.dropLast_subset _ hv), fun z => absurd (show (2 : Nat) = 1 from z) (by decide), fun q hq => by cases hq⟩ (by show row.dropLast.length ≤ 2501; rw [List.length_dropLast]; omega) (fun e => ?_) rfl (getD_lt hr (by show row.length - 1 < row.length; omega))
      have e : row.dropLast.length = 0 := by rw [show row.dropLast = [] from e]; rfl
      rw [List.length_dropLast] at e
      have c : row.length ≠ 1 := c
      omega
  | 3 => exact Its.first i0 (Nat.le_trans l (by decide)) (h1 (.inr rfl)) rfl (hn (.inr (Nat.le_refl 3)))
  | n + 4 =>
    show Its N (weigh (ini row new) (new.getD 0))
    have hk := hn (.inr (Nat.le_add_left 3 _))
    unfold weigh
    by_cases c : (ini row new).row = []
    · rw [if_pos c]
      exact ⟨hr, fun z => absurd (show (2 : Nat) = 1 from z) (by decide), fun q hq => by cases hq⟩
    · rw [if_neg c]
      exact ⟨hr, fun _ => hk, fun q hq => by cases hq; exact ⟨getD_lt hr (List.length_pos_iff.mpr c), hk⟩⟩
theorem Its.stps {N : Nat} {o : Nat × Nat → Bool} {f : HD} (h : Ok f) (i : Its N f) : ∀ n, Its N (HD.stps o f n)
  | 0 => i
  | n + 1 => by
    cases e : (HD.stps o f n).wt with
    | none =>
      show Its N (match (HD.stps o f n).wt with | none => HD.stps o f n | some q => (HD.stps o f n).take (o q))
      rw [e]
      exact Its.stps h i n
    | some q => rw [stps_next e]; exact (Its.stps h i n).take (h.stps n) (by rw [e]; exact Option.some_ne_none _) _
theorem stps_uniq {o : Nat × Nat → Bool} {f : HD} {n m : Nat} (h1 : (HD.stps o f n).wt = none) (h2 : ∀ i, i < n → (HD.stps o f i).wt ≠ none) (g1 : (HD.stps o f m).wt = none) (g2 : ∀ i, i < m → (HD.stps o f i).wt ≠ none) : n = m := by
  rcases Nat.lt_trichotomy n m with h | h | h
  · exact absurd h1 (g2 n h)
  · exact h
  · exact absurd g1 (h2 m h)
theorem take_new (f : HD) (b : Bool) : (f.take b).new = f.new := by
  have sr : ∀ g : HD, (rise1 g).new = g.new := fun g => by unfold rise1; split <;> rfl
  have ss : ∀ g : HD, (sink g).new = g.new := fun g => by
    unfold sink
    split
    · rfl
    · rw [sr]; split <;> rfl
  have sb : ∀ g : HD, (begin g).new = g.new := fun g => by
    unfold begin
    split
    · rfl
    · rw [ss]
  have sR : ∀ g : HD, (rise g).new = g.new := fun g => by unfold rise; split; exact sr g; exact sb _
  unfold take
  dsimp only
  split
  · unfold weight; split
    · exact sb _
    · rfl
  · split
    · exact ss _
    · split
      · exact sR _
      · exact sb _
end HD
/-! ### the deed's object -/
def oV : Option Nat → V
  | none => .non
  | some n => .int (n : Int)
def fldsD (r tp : Addr) (f : HD) (wv : V) : List (Str × V) :=
  [("row", .ref r), ("new", oV f.new), ("given", oV f.given), ("waiting", wv), ("tops", .ref tp), ("top", .int (f.top : Int)), ("place", .int (f.place : Int)), ("phase", .int (f.phase : Int))]
def HAt (C : Addr) (H : Hp) (x r tp : Addr) (f : HD) : Prop := tp ≠ r ∧ ∃ dx wv, H x = some (.ins C dx (fldsD r tp f wv)) ∧ WaitAt H wv f.wt ∧ H r = some (.lst (nV f.row)) ∧ H tp = some (.lst (nV f.tops))
section
variable {C x r tp : Addr} {H H' : Hp} {f : HD}
theorem HAt.same (h : HAt C H x r tp f) (k : Same H H') : HAt C H' x r tp f := by
  obtain ⟨n, dx, wv, h1, h2, h3, h4⟩ := h
  exact ⟨n, dx, wv, k _ _ h1, h2.keep (fun _ _ _ => k _ _), k _ _ h3, k _ _ h4⟩
theorem HAt.nxr (h : HAt C H x r tp f) : x ≠ r := fun e => by
  obtain ⟨n, dx, wv, h1, h2, h3, h4⟩ := h
  rw [e, h3] at h1
  cases h1
theorem HAt.nxt (h : HAt C H x r tp f) : x ≠ tp := fun e => by
  obtain ⟨n, dx, wv, h1, h2, h3, h4⟩ := h
  rw [e, h4] at h1
  cases h1
/-- fields set: row and tops stay -/
theorem HAt.set {dx : Addr} {wv : V} (h : HAt C H x r tp f) (hx : H x = some (.ins C dx (fldsD r tp f wv))) (f' : HD) (wv' : V) (er : f'.row = f.row) (et : f'.tops = f.tops) (hw : WaitAt H wv' f'.wt) {w : List (Str × V)} (ew : w = fldsD r tp f' wv') :
    HAt C (upd H x (.ins C dx w)) x r tp f' ∧ upd H x (.ins C dx w) x = some (.ins C dx (fldsD r tp f' wv')) ∧ (∀ b o, b ≠ x → H b = some o → upd H x (.ins C dx w) b = some o) := by
  have nr := h.nxr
  have nt := h.nxt
  obtain ⟨n, dx0, wv0, h1, h2, h3, h4⟩ := h
  subst ew
  refine ⟨⟨n, dx, wv', upd_same, hw.upd hx (fun i j e => by cases e), by rw [upd_ne nr.symm, er]; exact h3, by rw [upd_ne nt.symm, et]; exact h4⟩, upd_same, fun b o nb hb => by rw [upd_ne nb]; exact hb⟩
theorem HAt.putRow (h : HAt C H x r tp f) {row : List Nat} {w : List V} (ew : w = nV row) : HAt C (upd H r (.lst w)) x r tp { f with row := row } := by
  have nr := h.nxr
  obtain ⟨n, dx, wv, h1, h2, h3, h4⟩ := h
  subst ew
  exact ⟨n, dx, wv, by rw [upd_ne nr]; exact h1, h2.upd h3 (fun i j e => by cases e), upd_same, by rw [upd_ne n]; exact h4⟩
theorem HAt.putTops (h : HAt C H x r tp f) {ts : List Nat} {w : List V} (ew : w = nV ts) : HAt C (upd H tp (.lst w)) x r tp { f with tops := ts } := by
  have nt := h.nxt
  obtain ⟨n, dx, wv, h1, h2, h3, h4⟩ := h
  subst ew
  exact ⟨n, dx, wv, by rw [upd_ne nt]; exact h1, h2.upd h4 (fun i j e => by cases e), by rw [upd_ne n.symm]; exact h3, upd_same⟩
/-- another list of tops -/
theorem HAt.newTops {dx tp' : Addr} {wv : V} (h : HAt C H x r tp f) (hx : H x = some (.ins C dx (fldsD r tp f wv))) (hw : WaitAt H wv f.wt) {ts : List Nat} (nr : tp' ≠ r) (nx : tp' ≠ x) (ht : H tp' = some (.lst (nV ts))) {w : List (Str × V)} (ew : w = fldsD r tp' { f with tops := ts } wv) :
    HAt C (upd H x (.ins C dx w)) x r tp' { f with tops := ts } := by
  have nxr := h.nxr
  obtain ⟨n, dx0, wv0, h1, h2, h3, h4⟩ := h
  subst ew
  exact ⟨nr, dx, wv, upd_same, hw.upd hx (fun i j e => by cases e), by rw [upd_ne nxr.symm]; exact h3, by rw [upd_ne nx]; exact ht⟩
end
/-- all but the object, its row and its tops stays; what stood is not the new tops -/
def Fr3 (x r tp tp' : Addr) (H H' : Hp) : Prop := ∀ b o, b ≠ x → b ≠ r → b ≠ tp → H b = some o → H' b = some o ∧ b ≠ tp'
section
variable {x r tp tp' tp'' : Addr} {H H1 H2 : Hp}
theorem Fr3.refl : Fr3 x r tp tp H H := fun _ _ _ _ n h => ⟨h, n⟩
theorem Fr3.trans (a : Fr3 x r tp tp' H H1) (b : Fr3 x r tp' tp'' H1 H2) : Fr3 x r tp tp'' H H2 := fun c o n1 n2 n3 h => by
  obtain ⟨h1, n4⟩ := a c o n1 n2 n3 h
  exact b c o n1 n2 n4 h1
theorem Fr3.of (s : Same H H1) : Fr3 x r tp tp H H1 := fun b o _ _ n h => ⟨s b o h, n⟩
theorem Fr3.ofx (s : ∀ b o, b ≠ x → H b = some o → H1 b = some o) : Fr3 x r tp tp H H1 := fun b o n1 _ n h => ⟨s b o n1 h, n⟩
theorem Fr3.putr {o : HO} : Fr3 x r tp tp H (upd H r o) := fun b o _ n2 n h => ⟨by rw [upd_ne n2]; exact h, n⟩
theorem Fr3.putt {o : HO} : Fr3 x r tp tp H (upd H tp o) := fun b o _ n2 n h => ⟨by rw [upd_ne n]; exact h, n⟩
end
section
variable {K : PySem.W.Frag} {σ : St} {H : Hp} {Q : VK} {x C dx : Addr} {fs : List (Str × V)}
/-- a field of the object in a slot -/
theorem fg {i : Nat} {f : Str} {v : V} (e : σ[i]? = some (some (.ref x))) (hx : H x = some (.ins C dx fs)) (cl : Cls K C) (n : NoAttr K C f) (l : fs.lookup f = some v) (q : Q v H) : tFld K (tVar i) f σ H Q := ⟨_, e, x, C, dx, _, v, rfl, hx, cl, n, l, q⟩
end
/-! ### what is told, as data -/
def dnD (row : List Nat) (g : Option Nat) (qs : List (Nat × Nat)) : PyData := .tuple [.list ((row.map fun (i : Nat) => (i : Int)).map PyData.int), lnD g, .list (qs.map pD)]
theorem shaped_dn (row : List Nat) (g : Option Nat) (qs : List (Nat × Nat)) : SeqAt.shaped (dnD row g qs) = true := by
  unfold SeqAt.shaped
  rw [Bool.and_eq_true]
  constructor
  · show (PyData.canLayAll0 ((row.map fun (i : Nat) => (i : Int)).map PyData.int) && (PyData.canLay0 (lnD g) && (PyData.canLayAll0 (qs.map pD) && true))) = true
    rw [canLay_ints, canLay_pairs]
    cases g <;> rfl
  · refine decide_eq_true ?_
    show max (PyData.depthAll ((row.map fun (i : Nat) => (i : Int)).map PyData.int) + 1) (max (PyData.depth (lnD g)) (max (PyData.depthAll (qs.map pD) + 1) 0)) + 1 ≤ 64
    have h1 : PyData.depth (lnD g) = 0 := by cases g <;> rfl
    have h2 := depth_pairs qs
    rw [depth_ints, h1]
    omega
theorem eqv_dn (row : List Nat) (g : Option Nat) (qs : List (Nat × Nat)) : PyData.eqv (dnD row g qs) (dnD row g qs) = true := SeqAt.eqv_refl _ (SeqAt.canLay_of_shaped (shaped_dn row g qs))
theorem dp_dn {K : PySem.W.Frag} {H : Hp} {t r l : Addr} {row : List Nat} {g : Option Nat} {qs : List (Nat × Nat)} (ht : H t = some (.tup [.ref r, oV g, .ref l])) (hr : H r = some (.lst (nV row))) (hq : QAt H l qs) : Dp K H (.ref t) (dnD row g qs) := by
  obtain ⟨ts, h1, h2, h3⟩ := hq
  refine .tup (L2.st_of ht) (.cons (dp_ints (by rw [← nV_map]; exact L2.sq_of hr)) (.cons ?_ (.cons (.lst (L2.sq_of h1) (dpAll_pairs h2 h3)) .nil)))
  cases g with
  | none => exact .non
  | some n => exact .int _
def qD : Option (Nat × Nat) → PyData
  | none => .none
  | some q => pD q
def tdD (row : List Nat) (g : Option Nat) (q : Option (Nat × Nat)) (qs : List (Nat × Nat)) : PyData := .tuple [.list ((row.map fun (i : Nat) => (i : Int)).map PyData.int), lnD g, qD q, .list (qs.map pD)]
theorem shaped_td (row : List Nat) (g : Option Nat) (q : Option (Nat × Nat)) (qs : List (Nat × Nat)) : SeqAt.shaped (tdD row g q qs) = true := by
  unfold SeqAt.shaped
  rw [Bool.and_eq_true]
  constructor
  · show (PyData.canLayAll0 ((row.map fun (i : Nat) => (i : Int)).map PyData.int) && (PyData.canLay0 (lnD g) && (PyData.canLay0 (qD q) && (PyData.canLayAll0 (qs.map pD) && true)))) = true
    rw [canLay_ints, canLay_pairs]
    cases g <;> cases q <;> rfl
  · refine decide_eq_true ?_
    show max (PyData.depthAll ((row.map fun (i : Nat) => (i : Int)).map PyData.int) + 1) (max (PyData.depth (lnD g)) (max (PyData.depth (qD q)) (max (PyData.depthAll (qs.map pD) + 1) 0))) + 1 ≤ 64
    have h1 : PyData.depth (lnD g) = 0 := by cases g <;> rfl
    have h3 : PyData.depth (qD q) ≤ 1 := by cases q <;> first | exact Nat.zero_le _ | exact Nat.le_refl _
    have h2 := depth_pairs qs
    rw [depth_ints, h1]
    omega
theorem eqv_td (row : List Nat) (g : Option Nat) (q : Option (Nat × Nat)) (qs : List (Nat × Nat)) : PyData.eqv (tdD row g q qs) (tdD row g q qs) = true := SeqAt.eqv_refl _ (SeqAt.canLay_of_shaped (shaped_td row g q qs))
theorem dp_td {K : PySem.W.Frag} {H : Hp} {t r l : Addr} {wv : V} {row : List Nat} {g : Option Nat} {q : Option (Nat × Nat)} {qs : List (Nat × Nat)} (ht : H t = some (.tup [.ref r, oV g, wv, .ref l])) (hr : H r = some (.lst (nV row))) (hw : WaitAt H wv q) (hq : QAt H l qs) : Dp K H (.ref t) (tdD row g q qs) := by
  obtain ⟨ts, h1, h2, h3⟩ := hq
  refine .tup (L2.st_of ht) (.cons (dp_ints (by rw [← nV_map]; exact L2.sq_of hr)) (.cons ?_ (.cons ?_ (.cons (.lst (L2.sq_of h1) (dpAll_pairs h2 h3)) .nil))))
  · cases g with
    | none => exact .non
    | some n => exact .int _
  · cases q with
    | none => cases hw; exact .non
    | some q =>
      obtain ⟨i, j⟩ := q
      obtain ⟨t, e, h⟩ := hw
      subst e
      exact .tup (L2.st_of h) (.cons (.int _) (.cons (.int _) .nil))
end L2

/-! sources of draws that count: at most b draws so far -/
namespace L2
open PySem PySem.Spec PyProof.Rows
def okS (x y z : Int) (b : Nat) : Prop := 0 ≤ x ∧ 0 ≤ y ∧ y < 2 ^ 31 ∧ 0 ≤ z ∧ z ≤ b
def SrcB (H : Hp) (p : Addr) (b : Nat) : Prop := ∃ x y z : Int, okS x y z b ∧ H p = some (.lst [.int x, .int y, .int z])
theorem SrcB.ne {H : Hp} {p q : Addr} {b : Nat} (h : SrcB H p b) (n : H q = none) : q ≠ p := fun e => by
  obtain ⟨x, y, z, _, hp⟩ := h
  rw [← e, n] at hp
  cases hp
theorem SrcB.at {H H' : Hp} {p : Addr} {b : Nat} (h : SrcB H p b) (e : H' p = H p) : SrcB H' p b := by
  obtain ⟨x, y, z, k, hp⟩ := h
  exact ⟨x, y, z, k, e.trans hp⟩
theorem SrcB.upd {H : Hp} {p q : Addr} {o : HO} {b : Nat} (h : SrcB H p b) (n : q ≠ p) : SrcB (L2.upd H q o) p b := h.at (upd_ne (Ne.symm n))
theorem SrcB.new {H : Hp} {p q : Addr} {o : HO} {b : Nat} (h : SrcB H p b) (n : H q = none) : SrcB (L2.upd H q o) p b := h.upd (h.ne n)
theorem SrcB.same {H H' : Hp} {p : Addr} {b : Nat} (h : SrcB H p b) (e : Same H H') : SrcB H' p b := by
  obtain ⟨x, y, z, k, hp⟩ := h
  exact ⟨x, y, z, k, e _ _ hp⟩
theorem SrcB.mono {H : Hp} {p : Addr} {b c : Nat} (h : SrcB H p b) (l : b ≤ c) : SrcB H p c := by
  obtain ⟨x, y, z, ⟨k1, k2, k3, k4, k5⟩, hp⟩ := h
  exact ⟨x, y, z, ⟨k1, k2, k3, k4, by omega⟩, hp⟩
/-- what draws leave: all but the source stands, the source is one -/
def DnB (p : Addr) (b : Nat) (H H' : Hp) : Prop := SB p H H' ∧ SrcB H' p b
theorem DnB.put {p : Addr} {H : Hp} {x y z : Int} {b : Nat} (h : okS x y z b) : DnB p b H (L2.upd H p (.lst [.int x, .int y, .int z])) := ⟨SB.put, x, y, z, h, upd_same⟩
theorem DnB.trans {p : Addr} {H H1 H2 : Hp} {b c : Nat} (a : DnB p b H H1) (k : DnB p c H1 H2) : DnB p c H H2 := ⟨a.1.trans k.1, k.2⟩
theorem DnB.new {p q : Addr} {H H' : Hp} {o : HO} {b : Nat} (a : DnB p b H H') (n : H' q = none) : DnB p b H (L2.upd H' q o) := ⟨a.1.trans (SB.new n), a.2.new n⟩
theorem DnB.same {p : Addr} {H H' H2 : Hp} {b : Nat} (a : DnB p b H H') (e : Same H' H2) : DnB p b H H2 := ⟨a.1.trans (SB.of e), a.2.same e⟩
theorem DnB.refl {p : Addr} {H : Hp} {b : Nat} (h : SrcB H p b) : DnB p b H H := ⟨SB.refl p H, h⟩
theorem DnB.mono {p : Addr} {H H' : Hp} {b c : Nat} (a : DnB p b H H') (l : b ≤ c) : DnB p c H H' := ⟨a.1, a.2.mono l⟩
theorem DnB.free {p q : Addr} {H H' : Hp} {b : Nat} (a : DnB p b H H') (n : H' q = none) : H q = none := a.1.free (a.2.ne n) n
theorem DnB.push {p l : Addr} {H H' : Hp} {o : HO} {b : Nat} (hl : H l = none) (n : l ≠ p) (d : DnB p b H H') : DnB p b H (L2.upd H' l o) := by
  refine ⟨fun c u nb e => ?_, d.2.upd n⟩
  rw [upd_ne (ne_of_none e hl)]
  exact d.1 c u nb e
/-- a comprehension over range(n) each of whose items is an int, reckoned by k draws -/
theorem lc_intsB {te : TE} {σ : L2.St} {H1 : Hp} {D p : Addr} {n j b k : Nat} {vs : List Nat} {Qd : Hp → Prop} {G : Int → Prop} (hn : n ≤ 1000000) (hs : SrcB H1 p b) (hD : H1 D = none)
    (hw : ∀ v, wipe ((wipe σ vs).set j v) vs = wipe σ vs)
    (he : ∀ (i : Nat) (H3 : Hp) (R : VK), i < n → DnB p (b + i * k) H1 H3 → (∀ (v : Int) (H4 : Hp), G v → DnB p (b + i * k + k) H3 H4 → R (.int v) H4) → te ((wipe σ vs).set j (some (.int (0 + (i : Nat))))) H3 R)
    (hd : ∀ (ms : List Int) (H' : Hp), ms.length = n → (∀ v ∈ ms, G v) → DnB p (b + n * k) H1 H' → H' D = some (.lst (ms.map V.int)) → Qd H') :
    ∃ W : Nat → Nat → Hp → Prop, (∃ m, W 0 m (L2.upd H1 D (.lst []))) ∧ ∀ i m H, W i m H →
      ((Itr 0 n).stop i H ∧ Qd H) ∨ ((Itr 0 n).go i H ∧ ∃ Nx : Hp → Prop, (∀ H', Nx H' → ∃ m', m' < m ∧ W (i + 1) m' H') ∧ ∀ x H', (Itr 0 n).yld i H x H' → gName j x (wipe σ vs) H' fun σ2 H2 => wipe σ2 vs = wipe σ vs ∧ tYes σ2 H2 fun b H3 =>
        if b = true then te σ2 H3 fun y H4 => ∃ acc, H4 D = some (.lst acc) ∧ acc.length < sizeLine ∧ Nx (L2.upd H4 D (.lst (acc ++ [y]))) else Nx H3) := by
  have nD : D ≠ p := hs.ne hD
  refine lc_range (lo := 0) (n := n) (fun i H => ∃ ms : List Int, ms.length = i ∧ (∀ v ∈ ms, G v) ∧ DnB p (b + i * k) H1 H ∧ H D = some (.lst (ms.map V.int))) ⟨[], rfl, (fun v h => by cases h), by rw [Nat.zero_mul]; exact (DnB.refl hs).new hD, upd_same⟩ ?_ ?_
  · rintro i H hi ⟨ms, hl, hg, dr, hh⟩
    refine ⟨hw _, ?_⟩
    refine he i H _ hi dr fun v H4 gv d4 => ?_
    have h4 := d4.1 _ _ nD hh
    refine ⟨_, h4, ?_, ms ++ [v], by simp [hl], ?_, ?_, ?_⟩
    · rw [List.length_map, hl]
      exact Nat.lt_of_le_of_lt (Nat.le_trans (Nat.le_of_lt hi) hn) (by decide)
    · intro u hu
      rcases List.mem_append.mp hu with hu | hu
      · exact hg u hu
      · rw [List.mem_singleton.mp hu]; exact gv
    · have dd := dr.trans d4
      refine ⟨fun c o nb e => ?_, ?_⟩
      · rw [upd_ne (ne_of_none e hD)]
        exact dd.1 c o nb e
      · rw [Nat.succ_mul, ← Nat.add_assoc]
        exact dd.2.upd nD
    · rw [map_snoc]
      exact upd_same
  · rintro H ⟨ms, hl, hg, dr, hh⟩
    exact hd ms H hl hg dr hh
end L2

namespace L2
open PySem PySem.Spec PyProof.Rows
namespace RF
/-- the rows of answers of one length that lead to no end before -/
def ended (size : Nat) (bs : List Bool) : Bool := (fed size bs bs.length).wt.isNone
def openR (size : Nat) : Nat → List (List Bool)
  | 0 => [[]]
  | g + 1 => (openR size g).flatMap fun bs => if ended size bs then [] else [bs ++ [false], bs ++ [true]]
/-- the ends that have been found -/
def fnd (size : Nat) : Nat → List (List Bool)
  | 0 => []
  | g + 1 => fnd size g ++ (openR size g).filter (ended size)
def lens (size : Nat) : List Nat := (fnd size (2 * size + 1)).map List.length
def nxt (size : Nat) (bs : List Bool) : List (List Bool) := if ended size bs then [] else [bs ++ [false], bs ++ [true]]
theorem openR_mem {n : Nat} : ∀ {g : Nat} {bs : List Bool}, bs ∈ openR n g → bs.length = g ∧ ∀ i, i < g → (fed n bs i).wt ≠ none
  | 0, bs, h => by
    rw [show bs = [] from List.mem_singleton.mp h]
    exact ⟨rfl, fun i h => absurd h (Nat.not_lt_zero _)⟩
  | g + 1, bs, h => by
    obtain ⟨cs, hc, hb⟩ := List.mem_flatMap.mp h
    obtain ⟨l1, l2⟩ := openR_mem hc
    have key : ∀ b : Bool, ended n cs = false → bs = cs ++ [b] → bs.length = g + 1 ∧ ∀ i, i < g + 1 → (fed n bs i).wt ≠ none := fun b hn e => by
      subst e
      refine ⟨by rw [List.length_append, l1]; rfl, fun i hi => ?_⟩
      have ec : fed n (cs ++ [b]) i = fed n cs i := fed_congr fun x hx => by
        rw [List.getD_eq_getElem?_getD, List.getD_eq_getElem?_getD, List.getElem?_append_left (by omega)]
      rw [ec]
      by_cases e : i = g
      · unfold ended at hn
        rw [l1, ← e] at hn
        intro z
        rw [z] at hn
        cases hn
      · exact l2 i (by omega)
    by_cases hn : ended n cs = true
    · rw [if_pos hn] at hb
      cases hb
    · rw [if_neg hn] at hb
      have hn : ended n cs = false := by
        cases e : ended n cs with
        | false => rfl
        | true => exact absurd e hn
      rcases List.mem_cons.mp hb with e | hb
      · exact key false hn e
      · exact key true hn (List.mem_singleton.mp hb)
theorem openR_last {n : Nat} (z0 : 0 < n) (z1 : n ≤ 2000) : openR n (2 * n + 1) = [] := by
  cases e : openR n (2 * n + 1) with
  | nil => rfl
  | cons bs r =>
    have h : bs ∈ openR n (2 * n + 1) := by rw [e]; exact List.mem_cons_self ..
    obtain ⟨_, h2⟩ := openR_mem h
    have := fed_few z0 z1 bs h2
    omega
theorem flat_le (n : Nat) : ∀ L : List (List Bool), (L.flatMap (nxt n)).length ≤ 2 * L.length
  | [] => Nat.le_refl _
  | bs :: r => by
    have ih := flat_le n r
    rw [List.flatMap_cons, List.length_append, List.length_cons]
    have : (nxt n bs).length ≤ 2 := by
      unfold nxt
      split
      · exact Nat.zero_le _
      · exact Nat.le_refl 2
    omega
theorem openR_le (n : Nat) : ∀ g, (openR n g).length ≤ 2 ^ g
  | 0 => Nat.le_refl _
  | g + 1 => by
    have ih := openR_le n g
    have := flat_le n (openR n g)
    have e : (openR n (g + 1)).length ≤ 2 * (openR n g).length := this
    rw [Nat.pow_succ]
    omega
theorem fnd_le (n : Nat) : ∀ g, (fnd n g).length ≤ 2 ^ g
  | 0 => Nat.zero_le _
  | g + 1 => by
    have ih := fnd_le n g
    have h1 := openR_le n g
    have h2 := List.length_filter_le (ended n) (openR n g)
    show (fnd n g ++ (openR n g).filter (ended n)).length ≤ _
    rw [List.length_append, Nat.pow_succ]
    omega
end RF
/-- tuples stay -/
def TK (H H' : Hp) : Prop := ∀ t xs, H t = some (.tup xs) → H' t = some (.tup xs)
theorem TK.of {H H' : Hp} (s : Same H H') : TK H H' := fun t xs h => s _ _ h
theorem TK.trans {H H1 H2 : Hp} (a : TK H H1) (b : TK H1 H2) : TK H H2 := fun t xs h => b _ _ (a _ _ h)
theorem TK.put {H : Hp} {p : Addr} {xs ys : List V} (h : H p = some (.lst xs)) : TK H (upd H p (.lst ys)) := fun t zs ht => by
  rw [upd_ne (fun e => by rw [e, h] at ht; cases ht)]
  exact ht
/-- a list whose entries are told by a row -/
def LAt {β : Type} (R : Hp → V → β → Prop) (H : Hp) (p : Addr) (L : List β) : Prop := ∃ ts : List V, H p = some (.lst ts) ∧ ts.length = L.length ∧ ∀ (i : Nat) (v : V) (b : β), ts[i]? = some v → L[i]? = some b → R H v b
def RowT (H : Hp) (v : V) (bs : List Bool) : Prop := ∃ t, v = .ref t ∧ H t = some (.tup (bs.map V.bl))
def EndT (H : Hp) (v : V) (bs : List Bool) : Prop := ∃ t rt st, v = .ref t ∧ H t = some (.tup [.ref rt, .ref st]) ∧ H rt = some (.tup (bs.map V.bl))
theorem RowT.keep {H H' : Hp} {v : V} {bs : List Bool} (k : TK H H') (h : RowT H v bs) : RowT H' v bs := by
  obtain ⟨t, e, ht⟩ := h
  exact ⟨t, e, k _ _ ht⟩
theorem EndT.keep {H H' : Hp} {v : V} {bs : List Bool} (k : TK H H') (h : EndT H v bs) : EndT H' v bs := by
  obtain ⟨t, rt, st, e, ht, hr⟩ := h
  exact ⟨t, rt, st, e, k _ _ ht, k _ _ hr⟩
theorem LAt.keep {β : Type} {R : Hp → V → β → Prop} {H H' : Hp} {p : Addr} {L : List β} (hR : ∀ v b, R H v b → R H' v b) (hp : ∀ x, H p = some x → H' p = some x) (h : LAt R H p L) : LAt R H' p L := by
  obtain ⟨ts, h1, h2, h3⟩ := h
  exact ⟨ts, hp _ h1, h2, fun i v b e1 e2 => hR _ _ (h3 i v b e1 e2)⟩
theorem LAt.nil {β : Type} {R : Hp → V → β → Prop} {H : Hp} {p : Addr} (h : H p = some (.lst [])) : LAt R H p [] := ⟨[], h, rfl, fun i v b e => by simp at e⟩
theorem LAt.more {β : Type} {R : Hp → V → β → Prop} {H : Hp} {p : Addr} {L M : List β} {ts zs : List V} (hts : H p = some (.lst ts)) (h : LAt R H p L) (hR : ∀ v b, R H v b → R (upd H p (.lst (ts ++ zs))) v b) (hl : zs.length = M.length)
    (hz : ∀ (i : Nat) (v : V) (b : β), zs[i]? = some v → M[i]? = some b → R (upd H p (.lst (ts ++ zs))) v b) : LAt R (upd H p (.lst (ts ++ zs))) p (L ++ M) := by
  obtain ⟨ts', h1, h2, h3⟩ := h
  rw [hts] at h1
  cases h1
  refine ⟨ts ++ zs, upd_same, by rw [List.length_append, List.length_append, h2, hl], fun i v b e1 e2 => ?_⟩
  rcases Nat.lt_or_ge i ts.length with hi | hi
  · rw [List.getElem?_append_left hi] at e1
    rw [List.getElem?_append_left (by omega)] at e2
    exact hR _ _ (h3 i v b e1 e2)
  · rw [List.getElem?_append_right hi] at e1
    rw [List.getElem?_append_right (by omega), ← h2] at e2
    exact hz _ v b e1 e2
/-- the most questions, and that all ends together are one -/
def topR (n : Nat) : Nat := 2 * n - 2 - if n = 2 then 1 else 0
theorem lens_right : ∀ n, n < 7 → 0 < n → ((RF.lens n).map fun l => 2 ^ (topR n - l)).sum = 2 ^ topR n ∧ topR n ∈ RF.lens n ∧ ∀ l ∈ RF.lens n, l ≤ topR n := by decide +kernel
end L2

namespace L2
open PySem PySem.Spec PyProof.Rows
/-- len, said of one K (for a comprehension) -/
def rLenK (K : PySem.W.Frag) : List V → Hp → VK → Prop := fun xs H Q => ∃ p ys, xs = [.ref p] ∧ (SqL K H p ys ∨ SqT K H p ys) ∧ Q (.int ys.length) H
end L2

namespace K88
open PySem PySem.Spec PyProof.Rows L2
def topS (i : Nat) : Stmt := PySem.Challenge.pw_askedorder_k88_heaps_by_any_answers.main.body.getD i (.Pass ⟨0, 0, 0, 0⟩)
abbrev s_ask_honestly : Stmt := topS 1
abbrev N_ask_honestly : List Str := ["machine", "keys", "questions", "one", "other"]
abbrev P_ask_honestly : List Str := ["machine", "keys"]
theorem sc_ask_honestly : FnScope N_ask_honestly P_ask_honestly (defScope s_ask_honestly) := ⟨rfl, rfl, rfl, by decide +kernel, rfl, by decide +kernel, by decide +kernel⟩
abbrev s_give_answers : Stmt := topS 2
abbrev N_give_answers : List Str := ["machine", "answers", "questions", "answer"]
abbrev P_give_answers : List Str := ["machine", "answers"]
theorem sc_give_answers : FnScope N_give_answers P_give_answers (defScope s_give_answers) := ⟨rfl, rfl, rfl, by decide +kernel, rfl, by decide +kernel, by decide +kernel⟩
abbrev s_InvalidKeys___init__ : Stmt := inClass (topS 5) 0
abbrev N_InvalidKeys___init__ : List Str := ["self", "index"]
abbrev P_InvalidKeys___init__ : List Str := ["self", "index"]
theorem sc_InvalidKeys___init__ : FnScope N_InvalidKeys___init__ P_InvalidKeys___init__ (defScope s_InvalidKeys___init__) := ⟨rfl, rfl, rfl, by decide +kernel, rfl, by decide +kernel, by decide +kernel⟩
abbrev s_InvalidAnswers___init__ : Stmt := inClass (topS 6) 0
abbrev N_InvalidAnswers___init__ : List Str := ["self", "index"]
abbrev P_InvalidAnswers___init__ : List Str := ["self", "index"]
theorem sc_InvalidAnswers___init__ : FnScope N_InvalidAnswers___init__ P_InvalidAnswers___init__ (defScope s_InvalidAnswers___init__) := ⟨rfl, rfl, rfl, by decide +kernel, rfl, by decide +kernel, by decide +kernel⟩
abbrev s_is_integer : Stmt := topS 11
abbrev N_is_integer : List Str := ["value"]
abbrev P_is_integer : List Str := ["value"]
theorem sc_is_integer : FnScope N_is_integer P_is_integer (defScope s_is_integer) := ⟨rfl, rfl, rfl, by decide +kernel, rfl, by decide +kernel, by decide +kernel⟩
abbrev s_is_within : Stmt := topS 12
abbrev N_is_within : List Str := ["value", "least", "most"]
abbrev P_is_within : List Str := ["value", "least", "most"]
theorem sc_is_within : FnScope N_is_within P_is_within (defScope s_is_within) := ⟨rfl, rfl, rfl, by decide +kernel, rfl, by decide +kernel, by decide +kernel⟩
abbrev s_check_keys : Stmt := topS 13
abbrev N_check_keys : List Str := ["keys", "fewest", "most", "index", "key"]
abbrev P_check_keys : List Str := ["keys", "fewest", "most"]
theorem sc_check_keys : FnScope N_check_keys P_check_keys (defScope s_check_keys) := ⟨rfl, rfl, rfl, by decide +kernel, rfl, by decide +kernel, by decide +kernel⟩
abbrev s_check_answers : Stmt := topS 14
abbrev N_check_answers : List Str := ["answers", "index", "answer"]
abbrev P_check_answers : List Str := ["answers"]
theorem sc_check_answers : FnScope N_check_answers P_check_answers (defScope s_check_answers) := ⟨rfl, rfl, rfl, by decide +kernel, rfl, by decide +kernel, by decide +kernel⟩
abbrev s_check_number : Stmt := topS 15
abbrev N_check_number : List Str := ["name", "value", "least", "most"]
abbrev P_check_number : List Str := ["name", "value", "least", "most"]
theorem sc_check_number : FnScope N_check_number P_check_number (defScope s_check_number) := ⟨rfl, rfl, rfl, by decide +kernel, rfl, by decide +kernel, by decide +kernel⟩
abbrev s_HeapDeed___init__ : Stmt := inClass (topS 21) 0
abbrev N_HeapDeed___init__ : List Str := ["self", "deed", "row", "new"]
abbrev P_HeapDeed___init__ : List Str := ["self", "deed", "row", "new"]
theorem sc_HeapDeed___init__ : FnScope N_HeapDeed___init__ P_HeapDeed___init__ (defScope s_HeapDeed___init__) := ⟨rfl, rfl, rfl, by decide +kernel, rfl, by decide +kernel, by decide +kernel⟩
abbrev s_HeapDeed_take : Stmt := inClass (topS 21) 1
abbrev N_HeapDeed_take : List Str := ["self", "is_less"]
abbrev P_HeapDeed_take : List Str := ["self", "is_less"]
theorem sc_HeapDeed_take : FnScope N_HeapDeed_take P_HeapDeed_take (defScope s_HeapDeed_take) := ⟨rfl, rfl, rfl, by decide +kernel, rfl, by decide +kernel, by decide +kernel⟩
abbrev s_HeapDeed__pop : Stmt := inClass (topS 21) 2
abbrev N_HeapDeed__pop : List Str := ["self", "last"]
abbrev P_HeapDeed__pop : List Str := ["self"]
theorem sc_HeapDeed__pop : FnScope N_HeapDeed__pop P_HeapDeed__pop (defScope s_HeapDeed__pop) := ⟨rfl, rfl, rfl, by decide +kernel, rfl, by decide +kernel, by decide +kernel⟩
abbrev s_HeapDeed__replace_first : Stmt := inClass (topS 21) 3
abbrev N_HeapDeed__replace_first : List Str := ["self", "item"]
abbrev P_HeapDeed__replace_first : List Str := ["self", "item"]
theorem sc_HeapDeed__replace_first : FnScope N_HeapDeed__replace_first P_HeapDeed__replace_first (defScope s_HeapDeed__replace_first) := ⟨rfl, rfl, rfl, by decide +kernel, rfl, by decide +kernel, by decide +kernel⟩
abbrev s_HeapDeed__weigh : Stmt := inClass (topS 21) 4
abbrev N_HeapDeed__weigh : List Str := ["self"]
abbrev P_HeapDeed__weigh : List Str := ["self"]
theorem sc_HeapDeed__weigh : FnScope N_HeapDeed__weigh P_HeapDeed__weigh (defScope s_HeapDeed__weigh) := ⟨rfl, rfl, rfl, by decide +kernel, rfl, by decide +kernel, by decide +kernel⟩
abbrev s_HeapDeed__take_weight : Stmt := inClass (topS 21) 5
abbrev N_HeapDeed__take_weight : List Str := ["self", "is_less"]
abbrev P_HeapDeed__take_weight : List Str := ["self", "is_less"]
theorem sc_HeapDeed__take_weight : FnScope N_HeapDeed__take_weight P_HeapDeed__take_weight (defScope s_HeapDeed__take_weight) := ⟨rfl, rfl, rfl, by decide +kernel, rfl, by decide +kernel, by decide +kernel⟩
abbrev s_HeapDeed__begin_next_sink : Stmt := inClass (topS 21) 6
abbrev N_HeapDeed__begin_next_sink : List Str := ["self"]
abbrev P_HeapDeed__begin_next_sink : List Str := ["self"]
theorem sc_HeapDeed__begin_next_sink : FnScope N_HeapDeed__begin_next_sink P_HeapDeed__begin_next_sink (defScope s_HeapDeed__begin_next_sink) := ⟨rfl, rfl, rfl, by decide +kernel, rfl, by decide +kernel, by decide +kernel⟩
abbrev s_HeapDeed__sink : Stmt := inClass (topS 21) 7
abbrev N_HeapDeed__sink : List Str := ["self", "left"]
abbrev P_HeapDeed__sink : List Str := ["self"]
theorem sc_HeapDeed__sink : FnScope N_HeapDeed__sink P_HeapDeed__sink (defScope s_HeapDeed__sink) := ⟨rfl, rfl, rfl, by decide +kernel, rfl, by decide +kernel, by decide +kernel⟩
abbrev s_HeapDeed__rise : Stmt := inClass (topS 21) 8
abbrev N_HeapDeed__rise : List Str := ["self"]
abbrev P_HeapDeed__rise : List Str := ["self"]
theorem sc_HeapDeed__rise : FnScope N_HeapDeed__rise P_HeapDeed__rise (defScope s_HeapDeed__rise) := ⟨rfl, rfl, rfl, by decide +kernel, rfl, by decide +kernel, by decide +kernel⟩
abbrev s_HeapDeed__parent : Stmt := inClass (topS 21) 9
abbrev N_HeapDeed__parent : List Str := ["self"]
abbrev P_HeapDeed__parent : List Str := ["self"]
theorem sc_HeapDeed__parent : FnScope N_HeapDeed__parent P_HeapDeed__parent (defScope s_HeapDeed__parent) := ⟨rfl, rfl, rfl, by decide +kernel, rfl, by decide +kernel, by decide +kernel⟩
abbrev s_HeapDeed__change_places : Stmt := inClass (topS 21) 10
abbrev N_HeapDeed__change_places : List Str := ["self", "other"]
abbrev P_HeapDeed__change_places : List Str := ["self", "other"]
theorem sc_HeapDeed__change_places : FnScope N_HeapDeed__change_places P_HeapDeed__change_places (defScope s_HeapDeed__change_places) := ⟨rfl, rfl, rfl, by decide +kernel, rfl, by decide +kernel, by decide +kernel⟩
abbrev s_deed_done : Stmt := topS 24
abbrev N_deed_done : List Str := ["deed", "keys", "key", "done", "questions"]
abbrev P_deed_done : List Str := ["deed", "keys", "key"]
theorem sc_deed_done : FnScope N_deed_done P_deed_done (defScope s_deed_done) := ⟨rfl, rfl, rfl, by decide +kernel, rfl, by decide +kernel, by decide +kernel⟩
abbrev s_deed_told : Stmt := topS 25
abbrev N_deed_told : List Str := ["deed", "many", "answers", "begun", "questions", "given"]
abbrev P_deed_told : List Str := ["deed", "many", "answers"]
theorem sc_deed_told : FnScope N_deed_told P_deed_told (defScope s_deed_told) := ⟨rfl, rfl, rfl, by decide +kernel, rfl, by decide +kernel, by decide +kernel⟩
abbrev s_begun : Stmt := topS 26
abbrev N_begun : List Str := ["deed", "many"]
abbrev P_begun : List Str := ["deed", "many"]
theorem sc_begun : FnScope N_begun P_begun (defScope s_begun) := ⟨rfl, rfl, rfl, by decide +kernel, rfl, by decide +kernel, by decide +kernel⟩
abbrev s_has_new_item : Stmt := topS 27
abbrev N_has_new_item : List Str := ["deed"]
abbrev P_has_new_item : List Str := ["deed"]
theorem sc_has_new_item : FnScope N_has_new_item P_has_new_item (defScope s_has_new_item) := ⟨rfl, rfl, rfl, by decide +kernel, rfl, by decide +kernel, by decide +kernel⟩
abbrev s_check_deed : Stmt := topS 28
abbrev N_check_deed : List Str := ["deed"]
abbrev P_check_deed : List Str := ["deed"]
theorem sc_check_deed : FnScope N_check_deed P_check_deed (defScope s_check_deed) := ⟨rfl, rfl, rfl, by decide +kernel, rfl, by decide +kernel, by decide +kernel⟩
abbrev s_check_not_empty : Stmt := topS 29
abbrev N_check_not_empty : List Str := ["deed", "many"]
abbrev P_check_not_empty : List Str := ["deed", "many"]
theorem sc_check_not_empty : FnScope N_check_not_empty P_check_not_empty (defScope s_check_not_empty) := ⟨rfl, rfl, rfl, by decide +kernel, rfl, by decide +kernel, by decide +kernel⟩
abbrev s_well : Stmt := topS 31
abbrev N_well : List Str := ["cell"]
abbrev P_well : List Str := ["cell"]
theorem sc_well : FnScope N_well P_well (defScope s_well) := ⟨rfl, rfl, rfl, by decide +kernel, rfl, by decide +kernel, by decide +kernel⟩
abbrev s_draw : Stmt := topS 32
abbrev N_draw : List Str := ["well", "many", "digit", "number"]
abbrev P_draw : List Str := ["well", "many"]
theorem sc_draw : FnScope N_draw P_draw (defScope s_draw) := ⟨rfl, rfl, rfl, by decide +kernel, rfl, by decide +kernel, by decide +kernel⟩
abbrev s_pick : Stmt := topS 33
abbrev N_pick : List Str := ["well", "some"]
abbrev P_pick : List Str := ["well", "some"]
theorem sc_pick : FnScope N_pick P_pick (defScope s_pick) := ⟨rfl, rfl, rfl, by decide +kernel, rfl, by decide +kernel, by decide +kernel⟩
abbrev s_ask : Stmt := topS 34
abbrev N_ask : List Str := ["log", "one", "other"]
abbrev P_ask : List Str := ["log", "one", "other"]
theorem sc_ask : FnScope N_ask P_ask (defScope s_ask) := ⟨rfl, rfl, rfl, by decide +kernel, rfl, by decide +kernel, by decide +kernel⟩
abbrev s_up : Stmt := topS 35
abbrev N_up : List Str := ["row", "low", "at", "log", "turn", "above", "is_less"]
abbrev P_up : List Str := ["row", "low", "at", "log"]
theorem sc_up : FnScope N_up P_up (defScope s_up) := ⟨rfl, rfl, rfl, by decide +kernel, rfl, by decide +kernel, by decide +kernel⟩
abbrev s_down : Stmt := topS 36
abbrev N_down : List Str := ["row", "low", "log", "at", "turn", "below", "place", "after", "is_less"]
abbrev P_down : List Str := ["row", "low", "log"]
theorem sc_down : FnScope N_down P_down (defScope s_down) := ⟨rfl, rfl, rfl, by decide +kernel, rfl, by decide +kernel, by decide +kernel⟩
abbrev s_first : Stmt := topS 37
abbrev N_first : List Str := ["row", "item", "log", "first"]
abbrev P_first : List Str := ["row", "item", "log"]
theorem sc_first : FnScope N_first P_first (defScope s_first) := ⟨rfl, rfl, rfl, by decide +kernel, rfl, by decide +kernel, by decide +kernel⟩
abbrev s_go : Stmt := topS 38
abbrev N_go : List Str := ["word", "row", "log", "many", "at", "last", "is_less"]
abbrev P_go : List Str := ["word", "row", "log"]
theorem sc_go : FnScope N_go P_go (defScope s_go) := ⟨rfl, rfl, rfl, by decide +kernel, rfl, by decide +kernel, by decide +kernel⟩
abbrev s_deed : Stmt := topS 39
abbrev N_deed : List Str := ["word", "many", "answers", "row", "log", "given", "is_done"]
abbrev P_deed : List Str := ["word", "many", "answers"]
theorem sc_deed : FnScope N_deed P_deed (defScope s_deed) := ⟨rfl, rfl, rfl, by decide +kernel, rfl, by decide +kernel, by decide +kernel⟩
abbrev s_honest : Stmt := topS 40
abbrev N_honest : List Str := ["word", "marks", "many", "answers", "turn", "row", "given", "question", "log"]
abbrev P_honest : List Str := ["word", "marks"]
theorem sc_honest : FnScope N_honest P_honest (defScope s_honest) := ⟨rfl, rfl, rfl, by decide +kernel, rfl, by decide +kernel, by decide +kernel⟩
abbrev s_words : Stmt := topS 41
abbrev N_words : List Str := []
abbrev P_words : List Str := []
theorem sc_words : FnScope N_words P_words (defScope s_words) := ⟨rfl, rfl, rfl, by decide +kernel, rfl, by decide +kernel, by decide +kernel⟩
abbrev s_word : Stmt := topS 42
abbrev N_word : List Str := ["ask", "e"]
abbrev P_word : List Str := ["ask"]
theorem sc_word : FnScope N_word P_word (defScope s_word) := ⟨rfl, rfl, rfl, by decide +kernel, rfl, by decide +kernel, by decide +kernel⟩
abbrev s_items_right : Stmt := topS 43
abbrev N_items_right : List Str := ["word", "many", "found", "order", "given", "question", "log", "due", "missing", "item"]
abbrev P_items_right : List Str := ["word", "many", "found"]
theorem sc_items_right : FnScope N_items_right P_items_right (defScope s_items_right) := ⟨rfl, rfl, rfl, by decide +kernel, rfl, by decide +kernel, by decide +kernel⟩
abbrev s_right : Stmt := topS 44
abbrev N_right : List Str := ["well", "word", "many", "side", "answers", "turn", "due", "found"]
abbrev P_right : List Str := ["well", "word", "many"]
theorem sc_right : FnScope N_right P_right (defScope s_right) := ⟨rfl, rfl, rfl, by decide +kernel, rfl, by decide +kernel, by decide +kernel⟩
abbrev s_honest_right : Stmt := topS 45
abbrev N_honest_right : List Str := ["well", "word", "many", "marks", "item", "order", "given", "log", "answers", "one", "other", "mark"]
abbrev P_honest_right : List Str := ["well", "word", "many"]
theorem sc_honest_right : FnScope N_honest_right P_honest_right (defScope s_honest_right) := ⟨rfl, rfl, rfl, by decide +kernel, rfl, by decide +kernel, by decide +kernel⟩
abbrev s_law : Stmt := topS 46
abbrev N_law : List Str := ["script", "at", "cell", "well", "word", "many"]
abbrev P_law : List Str := ["script"]
theorem sc_law : FnScope N_law P_law (defScope s_law) := ⟨rfl, rfl, rfl, by decide +kernel, rfl, by decide +kernel, by decide +kernel⟩
def lq_right : Str := "_law_right.<locals>.<lambda>"
structure Ad where
  (lc_right lp_right : Addr) (ask_honestly : Addr) (give_answers : Addr) (InvalidKeys___init__ : Addr) (InvalidAnswers___init__ : Addr) (is_integer : Addr) (is_within : Addr) (check_keys : Addr) (check_answers : Addr) (check_number : Addr) (HeapDeed___init__ : Addr) (HeapDeed_take : Addr) (HeapDeed__pop : Addr) (HeapDeed__replace_first : Addr) (HeapDeed__weigh : Addr) (HeapDeed__take_weight : Addr) (HeapDeed__begin_next_sink : Addr) (HeapDeed__sink : Addr) (HeapDeed__rise : Addr) (HeapDeed__parent : Addr) (HeapDeed__change_places : Addr) (deed_done : Addr) (deed_told : Addr) (begun : Addr) (has_new_item : Addr) (check_deed : Addr) (check_not_empty : Addr) (well : Addr) (draw : Addr) (pick : Addr) (ask : Addr) (up : Addr) (down : Addr) (first : Addr) (go : Addr) (deed : Addr) (honest : Addr) (words : Addr) (word : Addr) (items_right : Addr) (right : Addr) (honest_right : Addr) (law : Addr) (t_MOST_KEYS_heaps : Tok) (t_RISING : Tok) (t_SINKING : Tok) (t_WEIGHING : Tok) (u_DEEDS : Addr) (c_HeapDeed : Addr) (c_InvalidKeys : Addr) (c_InvalidAnswers : Addr) (c_SortError : Addr)
def LT (a : Ad) : List (Addr × Str) := [(a.lp_right, lq_right)]
structure Fd where
  (ask_honestly : FuncData) (give_answers : FuncData) (InvalidKeys___init__ : FuncData) (InvalidAnswers___init__ : FuncData) (is_integer : FuncData) (is_within : FuncData) (check_keys : FuncData) (check_answers : FuncData) (check_number : FuncData) (HeapDeed___init__ : FuncData) (HeapDeed_take : FuncData) (HeapDeed__pop : FuncData) (HeapDeed__replace_first : FuncData) (HeapDeed__weigh : FuncData) (HeapDeed__take_weight : FuncData) (HeapDeed__begin_next_sink : FuncData) (HeapDeed__sink : FuncData) (HeapDeed__rise : FuncData) (HeapDeed__parent : FuncData) (HeapDeed__change_places : FuncData) (deed_done : FuncData) (deed_told : FuncData) (begun : FuncData) (has_new_item : FuncData) (check_deed : FuncData) (check_not_empty : FuncData) (well : FuncData) (draw : FuncData) (pick : FuncData) (ask : FuncData) (up : FuncData) (down : FuncData) (first : FuncData) (go : FuncData) (deed : FuncData) (honest : FuncData) (words : FuncData) (word : FuncData) (items_right : FuncData) (right : FuncData) (honest_right : FuncData) (law : FuncData)
/-- what the top has written -/
structure Txt (K : PySem.W.Frag) (mg : Str → Option Value) (a : Ad) (d : Fd) : Prop where
  g_ask_honestly : mg "ask_honestly" = some (.ref a.ask_honestly)
  k_ask_honestly : PySem.W.keepIn K (.ref a.ask_honestly) = true
  f_ask_honestly : Fun K "ask_honestly" "ask_honestly" s_ask_honestly a.ask_honestly d.ask_honestly
  b_ask_honestly : Binds K d.ask_honestly P_ask_honestly []
  g_give_answers : mg "give_answers" = some (.ref a.give_answers)
  k_give_answers : PySem.W.keepIn K (.ref a.give_answers) = true
  f_give_answers : Fun K "give_answers" "give_answers" s_give_answers a.give_answers d.give_answers
  b_give_answers : Binds K d.give_answers P_give_answers []
  f_InvalidKeys___init__ : Fun K "__init__" "InvalidKeys.__init__" s_InvalidKeys___init__ a.InvalidKeys___init__ d.InvalidKeys___init__
  b_InvalidKeys___init__ : Binds K d.InvalidKeys___init__ P_InvalidKeys___init__ []
  f_InvalidAnswers___init__ : Fun K "__init__" "InvalidAnswers.__init__" s_InvalidAnswers___init__ a.InvalidAnswers___init__ d.InvalidAnswers___init__
  b_InvalidAnswers___init__ : Binds K d.InvalidAnswers___init__ P_InvalidAnswers___init__ []
  g_is_integer : mg "is_integer" = some (.ref a.is_integer)
  k_is_integer : PySem.W.keepIn K (.ref a.is_integer) = true
  f_is_integer : Fun K "is_integer" "is_integer" s_is_integer a.is_integer d.is_integer
  b_is_integer : Binds K d.is_integer P_is_integer []
  g_is_within : mg "is_within" = some (.ref a.is_within)
  k_is_within : PySem.W.keepIn K (.ref a.is_within) = true
  f_is_within : Fun K "is_within" "is_within" s_is_within a.is_within d.is_within
  b_is_within : Binds K d.is_within P_is_within []
  g_check_keys : mg "check_keys" = some (.ref a.check_keys)
  k_check_keys : PySem.W.keepIn K (.ref a.check_keys) = true
  f_check_keys : FunV K "check_keys" "check_keys" s_check_keys a.check_keys d.check_keys
  b_check_keys : Binds K d.check_keys P_check_keys []
  g_check_answers : mg "check_answers" = some (.ref a.check_answers)
  k_check_answers : PySem.W.keepIn K (.ref a.check_answers) = true
  f_check_answers : Fun K "check_answers" "check_answers" s_check_answers a.check_answers d.check_answers
  b_check_answers : Binds K d.check_answers P_check_answers []
  g_check_number : mg "check_number" = some (.ref a.check_number)
  k_check_number : PySem.W.keepIn K (.ref a.check_number) = true
  f_check_number : FunV K "check_number" "check_number" s_check_number a.check_number d.check_number
  b_check_number : Binds K d.check_number P_check_number []
  m_HeapDeed___init__ : Meth K a.c_HeapDeed "__init__" a.HeapDeed___init__
  f_HeapDeed___init__ : Fun K "__init__" "HeapDeed.__init__" s_HeapDeed___init__ a.HeapDeed___init__ d.HeapDeed___init__
  b_HeapDeed___init__ : Binds K d.HeapDeed___init__ P_HeapDeed___init__ []
  m_HeapDeed_take : Meth K a.c_HeapDeed "take" a.HeapDeed_take
  f_HeapDeed_take : Fun K "take" "HeapDeed.take" s_HeapDeed_take a.HeapDeed_take d.HeapDeed_take
  b_HeapDeed_take : Binds K d.HeapDeed_take P_HeapDeed_take []
  m_HeapDeed__pop : Meth K a.c_HeapDeed "_pop" a.HeapDeed__pop
  f_HeapDeed__pop : Fun K "_pop" "HeapDeed._pop" s_HeapDeed__pop a.HeapDeed__pop d.HeapDeed__pop
  b_HeapDeed__pop : Binds K d.HeapDeed__pop P_HeapDeed__pop []
  m_HeapDeed__replace_first : Meth K a.c_HeapDeed "_replace_first" a.HeapDeed__replace_first
  f_HeapDeed__replace_first : Fun K "_replace_first" "HeapDeed._replace_first" s_HeapDeed__replace_first a.HeapDeed__replace_first d.HeapDeed__replace_first
  b_HeapDeed__replace_first : Binds K d.HeapDeed__replace_first P_HeapDeed__replace_first []
  m_HeapDeed__weigh : Meth K a.c_HeapDeed "_weigh" a.HeapDeed__weigh
  f_HeapDeed__weigh : Fun K "_weigh" "HeapDeed._weigh" s_HeapDeed__weigh a.HeapDeed__weigh d.HeapDeed__weigh
  b_HeapDeed__weigh : Binds K d.HeapDeed__weigh P_HeapDeed__weigh []
  m_HeapDeed__take_weight : Meth K a.c_HeapDeed "_take_weight" a.HeapDeed__take_weight
  f_HeapDeed__take_weight : Fun K "_take_weight" "HeapDeed._take_weight" s_HeapDeed__take_weight a.HeapDeed__take_weight d.HeapDeed__take_weight
  b_HeapDeed__take_weight : Binds K d.HeapDeed__take_weight P_HeapDeed__take_weight []
  m_HeapDeed__begin_next_sink : Meth K a.c_HeapDeed "_begin_next_sink" a.HeapDeed__begin_next_sink
  f_HeapDeed__begin_next_sink : Fun K "_begin_next_sink" "HeapDeed._begin_next_sink" s_HeapDeed__begin_next_sink a.HeapDeed__begin_next_sink d.HeapDeed__begin_next_sink
  b_HeapDeed__begin_next_sink : Binds K d.HeapDeed__begin_next_sink P_HeapDeed__begin_next_sink []
  m_HeapDeed__sink : Meth K a.c_HeapDeed "_sink" a.HeapDeed__sink
  f_HeapDeed__sink : Fun K "_sink" "HeapDeed._sink" s_HeapDeed__sink a.HeapDeed__sink d.HeapDeed__sink
  b_HeapDeed__sink : Binds K d.HeapDeed__sink P_HeapDeed__sink []
  m_HeapDeed__rise : Meth K a.c_HeapDeed "_rise" a.HeapDeed__rise
  f_HeapDeed__rise : Fun K "_rise" "HeapDeed._rise" s_HeapDeed__rise a.HeapDeed__rise d.HeapDeed__rise
  b_HeapDeed__rise : Binds K d.HeapDeed__rise P_HeapDeed__rise []
  m_HeapDeed__parent : Meth K a.c_HeapDeed "_parent" a.HeapDeed__parent
  f_HeapDeed__parent : Fun K "_parent" "HeapDeed._parent" s_HeapDeed__parent a.HeapDeed__parent d.HeapDeed__parent
  b_HeapDeed__parent : Binds K d.HeapDeed__parent P_HeapDeed__parent []
  m_HeapDeed__change_places : Meth K a.c_HeapDeed "_change_places" a.HeapDeed__change_places
  f_HeapDeed__change_places : Fun K "_change_places" "HeapDeed._change_places" s_HeapDeed__change_places a.HeapDeed__change_places d.HeapDeed__change_places
  b_HeapDeed__change_places : Binds K d.HeapDeed__change_places P_HeapDeed__change_places []
  g_deed_done : mg "deed_done" = some (.ref a.deed_done)
  k_deed_done : PySem.W.keepIn K (.ref a.deed_done) = true
  f_deed_done : FunV K "deed_done" "deed_done" s_deed_done a.deed_done d.deed_done
  b_deed_done : Binds K d.deed_done P_deed_done []
  g_deed_told : mg "deed_told" = some (.ref a.deed_told)
  k_deed_told : PySem.W.keepIn K (.ref a.deed_told) = true
  f_deed_told : Fun K "deed_told" "deed_told" s_deed_told a.deed_told d.deed_told
  b_deed_told : Binds K d.deed_told P_deed_told []
  g_begun : mg "_begun" = some (.ref a.begun)
  k_begun : PySem.W.keepIn K (.ref a.begun) = true
  f_begun : Fun K "_begun" "_begun" s_begun a.begun d.begun
  b_begun : Binds K d.begun P_begun []
  g_has_new_item : mg "_has_new_item" = some (.ref a.has_new_item)
  k_has_new_item : PySem.W.keepIn K (.ref a.has_new_item) = true
  f_has_new_item : Fun K "_has_new_item" "_has_new_item" s_has_new_item a.has_new_item d.has_new_item
  b_has_new_item : Binds K d.has_new_item P_has_new_item []
  g_check_deed : mg "_check_deed" = some (.ref a.check_deed)
  k_check_deed : PySem.W.keepIn K (.ref a.check_deed) = true
  f_check_deed : Fun K "_check_deed" "_check_deed" s_check_deed a.check_deed d.check_deed
  b_check_deed : Binds K d.check_deed P_check_deed []
  g_check_not_empty : mg "_check_not_empty" = some (.ref a.check_not_empty)
  k_check_not_empty : PySem.W.keepIn K (.ref a.check_not_empty) = true
  f_check_not_empty : Fun K "_check_not_empty" "_check_not_empty" s_check_not_empty a.check_not_empty d.check_not_empty
  b_check_not_empty : Binds K d.check_not_empty P_check_not_empty []
  g_well : mg "_law_well" = some (.ref a.well)
  k_well : PySem.W.keepIn K (.ref a.well) = true
  f_well : Fun K "_law_well" "_law_well" s_well a.well d.well
  b_well : Binds K d.well P_well []
  g_draw : mg "_law_draw" = some (.ref a.draw)
  k_draw : PySem.W.keepIn K (.ref a.draw) = true
  f_draw : Fun K "_law_draw" "_law_draw" s_draw a.draw d.draw
  b_draw : Binds K d.draw P_draw []
  g_pick : mg "_law_pick" = some (.ref a.pick)
  k_pick : PySem.W.keepIn K (.ref a.pick) = true
  f_pick : Fun K "_law_pick" "_law_pick" s_pick a.pick d.pick
  b_pick : Binds K d.pick P_pick []
  g_ask : mg "_law_ask" = some (.ref a.ask)
  k_ask : PySem.W.keepIn K (.ref a.ask) = true
  f_ask : Fun K "_law_ask" "_law_ask" s_ask a.ask d.ask
  b_ask : Binds K d.ask P_ask []
  g_up : mg "_law_up" = some (.ref a.up)
  k_up : PySem.W.keepIn K (.ref a.up) = true
  f_up : Fun K "_law_up" "_law_up" s_up a.up d.up
  b_up : Binds K d.up P_up []
  g_down : mg "_law_down" = some (.ref a.down)
  k_down : PySem.W.keepIn K (.ref a.down) = true
  f_down : Fun K "_law_down" "_law_down" s_down a.down d.down
  b_down : Binds K d.down P_down []
  g_first : mg "_law_first" = some (.ref a.first)
  k_first : PySem.W.keepIn K (.ref a.first) = true
  f_first : Fun K "_law_first" "_law_first" s_first a.first d.first
  b_first : Binds K d.first P_first []
  g_go : mg "_law_go" = some (.ref a.go)
  k_go : PySem.W.keepIn K (.ref a.go) = true
  f_go : Fun K "_law_go" "_law_go" s_go a.go d.go
  b_go : Binds K d.go P_go []
  g_deed : mg "_law_deed" = some (.ref a.deed)
  k_deed : PySem.W.keepIn K (.ref a.deed) = true
  f_deed : Fun K "_law_deed" "_law_deed" s_deed a.deed d.deed
  b_deed : Binds K d.deed P_deed []
  g_honest : mg "_law_honest" = some (.ref a.honest)
  k_honest : PySem.W.keepIn K (.ref a.honest) = true
  f_honest : Fun K "_law_honest" "_law_honest" s_honest a.honest d.honest
  b_honest : Binds K d.honest P_honest []
  g_words : mg "_law_words" = some (.ref a.words)
  k_words : PySem.W.keepIn K (.ref a.words) = true
  f_words : Fun K "_law_words" "_law_words" s_words a.words d.words
  b_words : Binds K d.words P_words []
  g_word : mg "_law_word" = some (.ref a.word)
  k_word : PySem.W.keepIn K (.ref a.word) = true
  f_word : Fun K "_law_word" "_law_word" s_word a.word d.word
  b_word : Binds K d.word P_word []
  g_items_right : mg "_law_items_right" = some (.ref a.items_right)
  k_items_right : PySem.W.keepIn K (.ref a.items_right) = true
  f_items_right : Fun K "_law_items_right" "_law_items_right" s_items_right a.items_right d.items_right
  b_items_right : Binds K d.items_right P_items_right []
  g_right : mg "_law_right" = some (.ref a.right)
  k_right : PySem.W.keepIn K (.ref a.right) = true
  f_right : Fun K "_law_right" "_law_right" s_right a.right d.right
  b_right : Binds K d.right P_right []
  g_honest_right : mg "_law_honest_right" = some (.ref a.honest_right)
  k_honest_right : PySem.W.keepIn K (.ref a.honest_right) = true
  f_honest_right : Fun K "_law_honest_right" "_law_honest_right" s_honest_right a.honest_right d.honest_right
  b_honest_right : Binds K d.honest_right P_honest_right []
  g_law : mg "law" = some (.ref a.law)
  k_law : PySem.W.keepIn K (.ref a.law) = true
  f_law : Fun K "law" "law" s_law a.law d.law
  b_law : Binds K d.law P_law []
  lc_right : d.right.code = .ref a.lc_right
  g_MOST_KEYS_heaps : mg "MOST_KEYS_heaps" = some (.int 2500 a.t_MOST_KEYS_heaps)
  g_RISING : mg "RISING" = some (.int 3 a.t_RISING)
  g_SINKING : mg "SINKING" = some (.int 2 a.t_SINKING)
  g_WEIGHING : mg "WEIGHING" = some (.int 1 a.t_WEIGHING)
  g_DEEDS : mg "DEEDS" = some (.ref a.u_DEEDS)
  ut_DEEDS : ∀ H : Hp, SqT K H a.u_DEEDS [.str "heapify", .str "push", .str "pop", .str "replace", .str "pushpop"]
  z_abs : mg "abs" = none
  z_bool : mg "bool" = none
  z_enumerate : mg "enumerate" = none
  z_int : mg "int" = none
  z_isinstance : mg "isinstance" = none
  z_len : mg "len" = none
  z_list : mg "list" = none
  z_max : mg "max" = none
  z_range : mg "range" = none
  z_sorted : mg "sorted" = none
  z_str : mg "str" = none
  z_tuple : mg "tuple" = none
  x_InvalidKeys : ExC K mg a.c_InvalidKeys a.InvalidKeys___init__ "InvalidKeys" "index"
  x_InvalidAnswers : ExC K mg a.c_InvalidAnswers a.InvalidAnswers___init__ "InvalidAnswers" "index"
  xb : ExB K mg a.c_SortError "SortError"
  s_InvalidKeys_InvalidKeys : ExS K a.c_InvalidKeys a.c_InvalidKeys true
  s_InvalidKeys_InvalidAnswers : ExS K a.c_InvalidKeys a.c_InvalidAnswers false
  s_InvalidKeys_SortError : ExS K a.c_InvalidKeys a.c_SortError true
  s_InvalidAnswers_InvalidKeys : ExS K a.c_InvalidAnswers a.c_InvalidKeys false
  s_InvalidAnswers_InvalidAnswers : ExS K a.c_InvalidAnswers a.c_InvalidAnswers true
  s_InvalidAnswers_SortError : ExS K a.c_InvalidAnswers a.c_SortError true
  ec_InvalidKeys : ExcC K a.c_InvalidKeys
  ec_InvalidAnswers : ExcC K a.c_InvalidAnswers
  cl_HeapDeed : Cls K a.c_HeapDeed
  g_HeapDeed : mg "HeapDeed" = some (.ref a.c_HeapDeed)
  mk_HeapDeed : Mk K a.c_HeapDeed a.HeapDeed___init__
  n_row : NoAttr K a.c_HeapDeed "row"
  n_new : NoAttr K a.c_HeapDeed "new"
  n_given : NoAttr K a.c_HeapDeed "given"
  n_waiting : NoAttr K a.c_HeapDeed "waiting"
  n_tops : NoAttr K a.c_HeapDeed "tops"
  n_top : NoAttr K a.c_HeapDeed "top"
  n_place : NoAttr K a.c_HeapDeed "place"
  n_phase : NoAttr K a.c_HeapDeed "phase"
/-! keywords -/
end K88

namespace K88
open PySem PySem.Spec PyProof.Rows L2
/-- a method that changes the deed -/
def spH0 (C : Addr) (pre : HD → Prop) (fn : HD → HD) : Sp := fun vs H Q _ => ∃ x r tp f, vs = [.ref x] ∧ HAt C H x r tp f ∧ pre f ∧ ∀ H' tp', HAt C H' x r tp' (fn f) → Fr3 x r tp tp' H H' → Q .non H'
def spHpar (C : Addr) : Sp := fun vs H Q _ => ∃ x r tp f, vs = [.ref x] ∧ HAt C H x r tp f ∧ 1 ≤ f.place ∧ Q (.int (HD.par f.place : Nat)) H
def spHchg (C : Addr) : Sp := fun vs H Q _ => ∃ x r tp f, ∃ o : Nat, vs = [.ref x, .int (o : Int)] ∧ HAt C H x r tp f ∧ f.place < f.row.length ∧ o < f.row.length ∧ ∀ H', HAt C H' x r tp (f.chg o) → Fr3 x r tp tp H H' → Q .non H'
def spH1 (C : Addr) (pre : HD → Nat → Prop) (fn : HD → Nat → HD) : Sp := fun vs H Q _ => ∃ x r tp f, ∃ o : Nat, vs = [.ref x, .int (o : Int)] ∧ HAt C H x r tp f ∧ pre f o ∧ ∀ H' tp', HAt C H' x r tp' (fn f o) → Fr3 x r tp tp' H H' → Q .non H'
def spHtake (C : Addr) (fn : HD → Bool → HD) (pre : HD → Prop) : Sp := fun vs H Q _ => ∃ x r tp f b, vs = [.ref x, .bl b] ∧ HAt C H x r tp f ∧ pre f ∧ ∀ H' tp', HAt C H' x r tp' (fn f b) → Fr3 x r tp tp' H H' → Q .non H'
theorem nV_put {l : List Nat} {i v : Nat} : (nV l).set i (.int (v : Int)) = nV (l.set i v) := by
  show (l.map fun (n : Nat) => V.int (n : Int)).set i ((fun (n : Nat) => V.int (n : Int)) v) = _
  rw [← List.map_set]
theorem ix_ok {l : List Nat} {i : Nat} (h : i < l.length) : ixN (nV l).length (i : Int) = some i := by
  unfold ixN
  rw [if_pos (Int.natCast_nonneg _), if_pos (by rw [List.length_map]; exact Int.ofNat_lt.mpr h), Int.toNat_natCast]
section
variable {P : Program} {w : World} {K : PySem.W.Frag} {mg : Str → Option Value} {base : Heap} {a : Ad} {d : Fd}
theorem ok_parent (T : Txt K mg a d) : FnOk P w K mg base CX0 1 a.HeapDeed__parent d.HeapDeed__parent P_HeapDeed__parent (spHpar a.c_HeapDeed) := by
  refine T.f_HeapDeed__parent.ok sc_HeapDeed__parent (fun vs H Q E h => ?_) (fun cdv A outer s0 H vs Q E hr h => ?_)
  · obtain ⟨x, r, tp, f, rfl, _⟩ := h
    rfl
  · obtain ⟨x, r, tp, f, rfl, hF, p1, q⟩ := h
    refine ⟨_, (pss_one (ps_ret (pe_op op_fdivW (pe_op op_sub (pe_fld (pv 0) rfl) pe_int) pe_int))), ?_⟩
    obtain ⟨n, dx, wv, hx, hw, hrw, htp⟩ := id hF
    refine ⟨_, rfl, x, a.c_HeapDeed, dx, _, _, rfl, hx, T.cl_HeapDeed, T.n_place, rfl, ?_⟩
    refine ⟨_, _, rfl, rfl, _, _, rfl, rfl, wide_div (b := 64) (by decide) (by decide) (by decide) (by decide), ?_⟩
    have e : ((f.place : Int) - 1) / 2 = ((HD.par f.place : Nat) : Int) := by unfold HD.par; omega
    show Q (.int (((f.place : Int) - 1) / 2)) H
    rw [e]
    exact q
theorem ok_chg (T : Txt K mg a d) : FnOk P w K mg base CX0 1 a.HeapDeed__change_places d.HeapDeed__change_places P_HeapDeed__change_places (spHchg a.c_HeapDeed) := by
  refine T.f_HeapDeed__change_places.ok sc_HeapDeed__change_places (fun vs H Q E h => ?_) (fun cdv A outer s0 H vs Q E hr h => ?_)
  · obtain ⟨x, r, tp, f, o, rfl, _⟩ := h
    rfl
  · obtain ⟨x, r, tp, f, o, rfl, hF, pl, ol, q⟩ := h
    refine ⟨_, (pss_cons (ps_asg (pe_tup (pa_cons (pe_ix ix_list (pe_fld (pv 0) rfl) (pv 1) (fun _ _ => rfl)) (pa_cons (pe_ix ix_list (pe_fld (pv 0) rfl) (pe_fld (pv 0) rfl) (fun _ _ => rfl)) pa_nil))) (pg_tup rfl (pgs_cons (pg_sub (pe_fld (pv 0) rfl) (pe_fld (pv 0) rfl) set_list) (pgs_cons (pg_sub (pe_fld (pv 0) rfl) (pv 1) set_list) pgs_nil))))
    (pss_one (ps_fld (pv 0) (pv 1) rfl))), ?_⟩
    obtain ⟨n, dx, wv, hx, hw, hrw, htp⟩ := id hF
    refine ⟨_, rfl, x, a.c_HeapDeed, dx, _, _, rfl, hx, T.cl_HeapDeed, T.n_row, rfl, ?_⟩
    refine ⟨_, rfl, r, _, _, _, rfl, rfl, L2.sq_of hrw, nV_get ol, ?_⟩
    refine ⟨_, rfl, x, a.c_HeapDeed, dx, _, _, rfl, hx, T.cl_HeapDeed, T.n_row, rfl, ?_⟩
    refine ⟨_, rfl, x, a.c_HeapDeed, dx, _, _, rfl, hx, T.cl_HeapDeed, T.n_place, rfl, ?_⟩
    refine ⟨r, _, _, _, rfl, rfl, L2.sq_of hrw, nV_get pl, ?_⟩
    refine ⟨by show 2 ≤ sizeLine; decide, fun t ht => ?_⟩
    have s1 := same_upd (o := .tup [.int ((f.row.getD o 0 : Nat) : Int), .int ((f.row.getD f.place 0 : Nat) : Int)]) ht
    have k1 : upd H t (.tup [.int ((f.row.getD o 0 : Nat) : Int), .int ((f.row.getD f.place 0 : Nat) : Int)]) t = some (.tup [.int ((f.row.getD o 0 : Nat) : Int), .int ((f.row.getD f.place 0 : Nat) : Int)]) := upd_same
    generalize upd H t (.tup [.int ((f.row.getD o 0 : Nat) : Int), .int ((f.row.getD f.place 0 : Nat) : Int)]) = H1 at s1 k1 ⊢
    have F1 := hF.same s1
    have hx1 := s1 _ _ hx
    have hr1 := s1 _ _ hrw
    refine ⟨t, _, rfl, L2.st_of k1, rfl, _, _, rfl, ?_⟩
    refine ⟨_, rfl, x, a.c_HeapDeed, dx, _, _, rfl, hx1, T.cl_HeapDeed, T.n_row, rfl, ?_⟩
    refine ⟨_, rfl, x, a.c_HeapDeed, dx, _, _, rfl, hx1, T.cl_HeapDeed, T.n_place, rfl, ?_⟩
    refine ⟨r, _, _, _, rfl, rfl, hr1, ix_ok pl, _, _, rfl, ?_⟩
    rw [nV_put]
    have F2 := F1.putRow (row := f.row.set f.place (f.row.getD o 0)) rfl
    have hx2 : upd H1 r (.lst (nV (f.row.set f.place (f.row.getD o 0)))) x = some (.ins a.c_HeapDeed dx (fldsD r tp f wv)) := by rw [upd_ne hF.nxr]; exact hx1
    have hr2 : upd H1 r (.lst (nV (f.row.set f.place (f.row.getD o 0)))) r = some (.lst (nV (f.row.set f.place (f.row.getD o 0)))) := upd_same
    have fr2 : Fr3 x r tp tp H (upd H1 r (.lst (nV (f.row.set f.place (f.row.getD o 0))))) := (Fr3.of s1).trans .putr
    generalize upd H1 r (.lst (nV (f.row.set f.place (f.row.getD o 0)))) = H2 at F2 hx2 hr2 fr2 ⊢
    refine ⟨_, rfl, x, a.c_HeapDeed, dx, _, _, rfl, hx2, T.cl_HeapDeed, T.n_row, rfl, ?_⟩
    refine ⟨_, rfl, r, _, _, _, rfl, rfl, hr2, ix_ok (by rw [List.length_set]; exact ol), ?_⟩
    rw [nV_put]
    have F3 := F2.putRow (row := (f.row.set f.place (f.row.getD o 0)).set o (f.row.getD f.place 0)) rfl
    have hx3 : upd H2 r (.lst (nV ((f.row.set f.place (f.row.getD o 0)).set o (f.row.getD f.place 0)))) x = some (.ins a.c_HeapDeed dx (fldsD r tp f wv)) := by rw [upd_ne hF.nxr]; exact hx2
    have fr3 : Fr3 x r tp tp H (upd H2 r (.lst (nV ((f.row.set f.place (f.row.getD o 0)).set o (f.row.getD f.place 0))))) := fr2.trans .putr
    generalize upd H2 r (.lst (nV ((f.row.set f.place (f.row.getD o 0)).set o (f.row.getD f.place 0)))) = H3 at F3 hx3 fr3 ⊢
    obtain ⟨_, dx3, wv3, hx3', hw3, _, _⟩ := id F3
    refine ⟨rfl, _, rfl, _, rfl, x, a.c_HeapDeed, dx3, _, rfl, hx3', T.cl_HeapDeed, T.n_place, by show 8 < 1000; decide, ?_⟩
    obtain ⟨F4, hx4, fr4⟩ := F3.set hx3' (f.chg o) wv3 rfl rfl hw3 (w := putF "place" (.int (o : Int)) (fldsD r tp { { f with row := f.row.set f.place (f.row.getD o 0) } with row := (f.row.set f.place (f.row.getD o 0)).set o (f.row.getD f.place 0) } wv3)) rfl
    exact q _ F4 (fr3.trans (.ofx fr4))
end

end K88

namespace K88
open PySem PySem.Spec PyProof.Rows L2
/-- the law's row and its log: the answers, and what was asked -/
def LAt (H : Hp) (r lg aa qa : Addr) (as : List Bool) (s : HD.LS) : Prop := H r = some (.lst (nV s.row)) ∧ H lg = some (.lst [.ref aa, .ref qa]) ∧ H aa = some (.lst (as.map V.bl)) ∧ QAt H qa s.asked ∧ lg ≠ qa ∧ aa ≠ qa ∧ r ≠ lg ∧ r ≠ aa ∧ r ≠ qa
theorem LAt.same {H H' : Hp} {r lg aa qa : Addr} {as : List Bool} {s : HD.LS} (h : LAt H r lg aa qa as s) (k : Same H H') : LAt H' r lg aa qa as s := by
  obtain ⟨h1, h2, h3, h4, h5⟩ := h
  exact ⟨k _ _ h1, k _ _ h2, k _ _ h3, h4.same k, h5⟩
theorem LAt.putRow {H : Hp} {r lg aa qa : Addr} {as : List Bool} {s : HD.LS} (h : LAt H r lg aa qa as s) {row : List Nat} {w : List V} (e : w = nV row) : LAt (upd H r (.lst w)) r lg aa qa as { s with row := row } := by
  obtain ⟨h1, h2, h3, h4, h5, h6, h7, h8, h9⟩ := h
  subst e
  refine ⟨upd_same, by rw [upd_ne h7.symm]; exact h2, by rw [upd_ne h8.symm]; exact h3, h4.keep (fun x e => by rw [upd_ne h9.symm]; exact e) (fun t i j e => ?_), h5, h6, h7, h8, h9⟩
  rw [upd_ne (fun z => by rw [z, h1] at e; cases e)]
  exact e
def ansV : Option Bool → V
  | none => .non
  | some b => .bl b
def spAskL : Sp := fun vs H Q _ => ∃ (r lg aa qa : Addr) (as : List Bool) (s : HD.LS) (i j : Nat), vs = [.ref lg, .int (i : Int), .int (j : Int)] ∧ LAt H r lg aa qa as s ∧ s.asked.length ≤ as.length ∧ as.length ≤ 50000 ∧
  ∀ H', LAt H' r lg aa qa as (s.ask (i, j)) → Fr2 r qa H H' → Q (ansV as[s.asked.length]?) H'
def spUp : Sp := fun vs H Q _ => ∃ (r lg aa qa : Addr) (as : List Bool) (s : HD.LS) (low p : Nat), vs = [.ref r, .int (low : Int), .int (p : Int), .ref lg] ∧ LAt H r lg aa qa as s ∧ s.asked.length ≤ as.length ∧ as.length ≤ 50000 ∧ p < s.row.length ∧ s.row.length ≤ 2501 ∧
  ∀ H', LAt H' r lg aa qa as (HD.lup as s.row.length low p s).2 → ((HD.lup as s.row.length low p s).1 = true → (HD.lup as s.row.length low p s).2.asked.length ≤ as.length) → Fr2 r qa H H' → Q (.bl (HD.lup as s.row.length low p s).1) H'
section
variable {P : Program} {w : World} {K : PySem.W.Frag} {mg : Str → Option Value} {base : Heap} {a : Ad} {d : Fd}
theorem ok_lask (T : Txt K mg a d) : FnOk P w K mg base CX0 1 a.ask d.ask P_ask spAskL := by
  refine T.f_ask.ok sc_ask (fun vs H Q E h => ?_) (fun cdv A outer s0 H vs Q E hr h => ?_)
  · obtain ⟨r, lg, aa, qa, as, s, i, j, rfl, _⟩ := h
    rfl
  · obtain ⟨r, lg, aa, qa, as, s, i, j, rfl, hL, la, ha, q⟩ := h
    refine ⟨_, (pss_cons (ps_expr (pe_bm PySem.F.plainAttrs_list PySem.F.slot_list_append PySem.F.type_list_append mt_append (pe_ix ix_list (pv 0) pe_int (fun _ _ => rfl)) (pa_cons (pe_tup (pa_cons (pv 1) (pa_cons (pv 2) pa_nil))) pa_nil)))
    (pss_cons (ps_if (pt_cmpR op_gt (pe_callB call_len_seq (by rfl) T.z_len PySem.boot_len (pa_cons (pe_ix ix_list (pv 0) pe_int (fun _ _ => rfl)) pa_nil)) (pe_callB call_len_seq (by rfl) T.z_len PySem.boot_len (pa_cons (pe_ix ix_list (pv 0) pe_int (fun _ _ => rfl)) pa_nil)) (nomark _)) (pss_one (ps_ret pe_non)) pss_nil)
    (pss_one (ps_ret (pe_ix ix_list (pe_ix ix_list (pv 0) pe_int (fun _ _ => rfl)) (pe_op op_sub (pe_callB call_len_seq (by rfl) T.z_len PySem.boot_len (pa_cons (pe_ix ix_list (pv 0) pe_int (fun _ _ => rfl)) pa_nil)) pe_int) (fun _ _ => rfl)))))), ?_⟩
    obtain ⟨h1, h2, h3, h4, h5, h6, h7, h8, h9⟩ := id hL
    obtain ⟨ts, hts, lts, hpa⟩ := id h4
    have g1 : atI [V.ref aa, V.ref qa] 1 = some (.ref qa) := atI_nat (j := 1) rfl
    have g0 : atI [V.ref aa, V.ref qa] 0 = some (.ref aa) := atI_nat (j := 0) rfl
    refine ⟨_, rfl, lg, _, _, _, rfl, rfl, L2.sq_of h2, g1, .inl ⟨rfl, _, L2.sq_of hts⟩, _, rfl, _, rfl, by show 2 ≤ sizeLine; decide, fun t ht => ?_⟩
    have s1 := same_upd (o := .tup [.int (i : Int), .int (j : Int)]) ht
    have hT : upd H t (.tup [.int (i : Int), .int (j : Int)]) t = some (.tup [.int (i : Int), .int (j : Int)]) := upd_same
    generalize upd H t (.tup [.int (i : Int), .int (j : Int)]) = H1 at s1 hT ⊢
    refine ⟨qa, ts, _, rfl, rfl, s1 _ _ hts, by rw [lts]; exact Nat.lt_of_le_of_lt (Nat.le_trans la ha) (by decide), ?_⟩
    have q2 := QAt.push (s1 _ _ hts) (h4.same s1) (q := (i, j)) ⟨t, rfl, hT⟩
    have L2' : LAt (upd H1 qa (.lst (ts ++ [.ref t]))) r lg aa qa as (s.ask (i, j)) := ⟨by rw [upd_ne h9]; exact s1 _ _ h1, by rw [upd_ne h5]; exact s1 _ _ h2, by rw [upd_ne h6]; exact s1 _ _ h3, q2, h5, h6, h7, h8, h9⟩
    have fr : Fr2 r qa H (upd H1 qa (.lst (ts ++ [.ref t]))) := (Fr2.of s1).trans Fr2.putr
    have k2 : upd H1 qa (.lst (ts ++ [.ref t])) qa = some (.lst (ts ++ [.ref t])) := upd_same
    generalize upd H1 qa (.lst (ts ++ [.ref t])) = H2 at L2' fr k2 ⊢
    obtain ⟨e1, e2, e3, e4, _⟩ := id L2'
    have lq : (ts ++ [V.ref t]).length = s.asked.length + 1 := by rw [List.length_append, lts]; rfl
    have lb : (as.map V.bl).length = as.length := List.length_map _
    refine ⟨_, rfl, lg, _, _, _, rfl, rfl, L2.sq_of e2, g1, qa, _, rfl, .inl (L2.sq_of k2), _, rfl, lg, _, _, _, rfl, rfl, L2.sq_of e2, g0, aa, _, rfl, .inl (L2.sq_of e3), _, _, rfl, rfl, decide (as.length < s.asked.length + 1), congrArg V.bl (by rw [lq, lb]; simp only [Int.ofNat_lt]), ?_⟩
    by_cases c : as.length < s.asked.length + 1
    · rw [decide_eq_true c]
      refine iteT ?_
      have e : as[s.asked.length]? = none := List.getElem?_eq_none_iff.mpr (by omega)
      have q := q H2 L2' fr
      rw [e] at q
      exact q
    · rw [decide_eq_false c]
      refine iteF ?_
      have lt : s.asked.length < as.length := by omega
      have e : as[s.asked.length]? = some as[s.asked.length] := List.getElem?_eq_getElem lt
      have q := q H2 L2' fr
      rw [e] at q
      refine ⟨_, rfl, lg, _, _, _, rfl, rfl, L2.sq_of e2, g0, _, rfl, lg, _, _, _, rfl, rfl, L2.sq_of e2, g1, qa, _, rfl, .inl (L2.sq_of k2), _, _, rfl, rfl, ?_⟩
      have ei : (((ts ++ [V.ref t]).length : Nat) : Int) - 1 = ((s.asked.length : Nat) : Int) := by rw [lq]; omega
      dsimp only
      rw [ei]
      exact ⟨aa, _, _, _, rfl, rfl, L2.sq_of e3, atI_nat (by rw [List.getElem?_map, e]; rfl), q⟩
theorem lup_asked (as : List Bool) : ∀ (n low p : Nat) (s : HD.LS), s.asked.length ≤ as.length → (HD.lup as n low p s).1 = true → (HD.lup as n low p s).2.asked.length ≤ as.length
  | 0, _, _, s, h, _ => h
  | n + 1, low, p, s, h, e => by
    unfold HD.lup at e ⊢
    split at e
    · rename_i c; rw [if_pos c]; exact h
    · rename_i c
      rw [if_neg c]
      cases k : as[s.asked.length]? with
      | none => rw [k] at e; cases e
      | some b =>
        have lt : s.asked.length < as.length := (List.getElem?_eq_some_iff.mp k).1
        rw [k] at e
        cases b with
        | false => show (s.asked ++ [_]).length ≤ as.length; rw [List.length_append]; exact lt
        | true => exact lup_asked as n low _ _ (by show (s.asked ++ [_]).length ≤ as.length; rw [List.length_append]; exact lt) e
theorem ok_lup (T : Txt K mg a d) : FnOk P w K mg base CX0 2 a.up d.up P_up spUp := by
  have G_ask : FnOk P w K mg base CX0 1 a.ask d.ask P_ask spAskL := ok_lask T
  refine T.f_up.ok sc_up (fun vs H Q E h => ?_) (fun cdv A outer s0 H vs Q E hr h => ?_)
  · obtain ⟨r, lg, aa, qa, as, s, low, p, rfl, _⟩ := h
    rfl
  · obtain ⟨r, lg, aa, qa, as, s, low, p, rfl, hL, la, ha, hp, hl, q⟩ := h
    refine ⟨_, (pss_cons (ps_for PassesOwn.never rfl (pi_range1 (by rfl) T.z_range (pa_cons (pe_callB call_len_seq (by rfl) T.z_len PySem.boot_len (pa_cons (pv 0) pa_nil)) pa_nil)) (pg_name (i := 4) sc_up.nd rfl (Or.inl rfl))
      (pss_cons (ps_if (pt_cmpR op_le (pv 2) (pv 1) (nomark _)) (pss_one (ps_ret pe_bl)) pss_nil)
        (pss_cons (ps_set (i := 5) sc_up.nd rfl (Or.inl rfl) (pe_op op_sub (pe_op op_fdivW (pe_op op_add (pv 2) pe_int) pe_int) pe_int))
        (pss_cons (ps_set (i := 6) sc_up.nd rfl (Or.inl rfl) (pe_call G_ask (hr.mono (by decide)) (by rfl) T.g_ask T.k_ask T.b_ask .nil pass0 (pa_cons (pv 3) (pa_cons (pe_ix ix_list (pv 0) (pv 2) (fun _ _ => rfl)) (pa_cons (pe_ix ix_list (pv 0) (pv 5) (fun _ _ => rfl)) pa_nil)))))
        (pss_cons (ps_if (pt_cmpR op_isN (pv 6) pe_non (nomark _)) (pss_one (ps_ret pe_bl)) pss_nil)
        (pss_cons (ps_if (pt_not (pt_val (pv 6))) (pss_one (ps_ret pe_bl)) pss_nil)
        (pss_cons (ps_asg (pe_tup (pa_cons (pe_ix ix_list (pv 0) (pv 5) (fun _ _ => rfl)) (pa_cons (pe_ix ix_list (pv 0) (pv 2) (fun _ _ => rfl)) pa_nil))) (pg_tup rfl (pgs_cons (pg_sub (pv 0) (pv 2) set_list) (pgs_cons (pg_sub (pv 0) (pv 5) set_list) pgs_nil))))
        (pss_one (ps_set (i := 2) sc_up.nd rfl (Or.inl rfl) (pv 5))))))))))
    (pss_one (ps_ret pe_bl))), ?_⟩
    have hok := lup_asked as s.row.length low p s la
    obtain ⟨h1, _⟩ := id hL
    have ln : (nV s.row).length = s.row.length := List.length_map _
    refine ⟨_, rfl, r, _, rfl, .inl (L2.sq_of h1), ((s.row.length : Nat) : Int), by rw [ln], by omega, by omega, for_range (lo := 0) (n := s.row.length) (fun i σ H' => ∃ (p' : Nat) (s' : HD.LS) (u v x : Option V), σ = [some (.ref r), some (.int (low : Int)), some (.int (p' : Int)), some (.ref lg), u, v, x] ∧ LAt H' r lg aa qa as s' ∧ s'.asked.length ≤ as.length ∧ p' < s'.row.length ∧ s'.row.length = s.row.length ∧ Fr2 r qa H H' ∧ HD.lup as s.row.length low p s = HD.lup as (s.row.length - i) low p' s')
      ⟨p, s, none, none, none, rfl, hL, la, hp, rfl, Fr2.refl _ _ _, rfl⟩ ?_ ?_⟩
    · rintro i σ H1 hi ⟨p', s', u, v, x, rfl, L1, la', hp', hl', fr1, e⟩
      obtain ⟨m, hm⟩ : ∃ m, s.row.length - i = m + 1 := ⟨s.row.length - i - 1, by omega⟩
      have hm' : m = s.row.length - (i + 1) := by omega
      rw [hm] at e
      subst hm'
      obtain ⟨g1, _⟩ := id L1
      refine ⟨_, rfl, _, rfl, _, _, rfl, rfl, decide (p' ≤ low), congrArg V.bl (by simp only [Int.ofNat_le]), ?_⟩
      by_cases c : p' ≤ low
      · rw [decide_eq_true c]
        refine iteT ?_
        have e2 : HD.lup as (s.row.length - (i + 1) + 1) low p' s' = (true, s') := by unfold HD.lup; rw [if_pos c]
        rw [e2] at e
        rw [e] at q hok
        exact q H1 L1 hok fr1
      · rw [decide_eq_false c]
        refine iteF ?_
        refine ⟨_, rfl, _, _, rfl, rfl, _, _, rfl, rfl, wide_div (b := 64) (by decide) (by decide) (by decide) (by decide), _, _, rfl, rfl, ?_⟩
        have ep : ((p' : Int) + 1) / 2 - 1 = ((HD.par p' : Nat) : Int) := by unfold HD.par; omega
        have pl : HD.par p' < s'.row.length := by unfold HD.par; omega
        dsimp only
        rw [ep]
        refine ⟨_, rfl, _, rfl, _, rfl, r, _, _, _, rfl, rfl, L2.sq_of g1, nV_get hp', _, rfl, _, rfl, r, _, _, _, rfl, rfl, L2.sq_of g1, nV_get pl, r, lg, aa, qa, as, s', _, _, rfl, L1, la', ha, fun H2 L2' fr2 => ?_⟩
        have e3 : HD.lup as (s.row.length - (i + 1) + 1) low p' s' = (match as[s'.asked.length]? with
            | none => (false, s'.ask (s'.row.getD p' 0, s'.row.getD (HD.par p') 0))
            | some false => (true, s'.ask (s'.row.getD p' 0, s'.row.getD (HD.par p') 0))
            | some true => HD.lup as (s.row.length - (i + 1)) low (HD.par p') { s'.ask (s'.row.getD p' 0, s'.row.getD (HD.par p') 0) with row := HD.swap s'.row p' (HD.par p') }) := by
          rw [HD.lup, if_neg c]
          try rfl
        rw [e3] at e
        have fr12 := fr1.trans fr2
        cases k : as[s'.asked.length]? with
        | none =>
          rw [k] at e
          refine ⟨_, rfl, rfl, true, rfl, iteT ?_⟩
          rw [e] at q hok
          exact q H2 L2' hok fr12
        | some b =>
          have lt : s'.asked.length < as.length := (List.getElem?_eq_some_iff.mp k).1
          rw [k] at e
          refine ⟨_, rfl, rfl, false, rfl, iteF ?_⟩
          cases b with
          | false =>
            refine ⟨_, rfl, false, rfl, iteT ?_⟩
            rw [e] at q hok
            exact q H2 L2' hok fr12
          | true =>
            refine ⟨_, rfl, true, rfl, iteF ?_⟩
            obtain ⟨k1, _⟩ := id L2'
            have k1 : H2 r = some (.lst (nV s'.row)) := k1
            refine ⟨_, rfl, _, rfl, r, _, _, _, rfl, rfl, L2.sq_of k1, nV_get pl, _, rfl, _, rfl, r, _, _, _, rfl, rfl, L2.sq_of k1, nV_get hp', by show 2 ≤ sizeLine; decide, fun t ht => ?_⟩
            have s3 := same_upd (o := .tup [.int ((s'.row.getD (HD.par p') 0 : Nat) : Int), .int ((s'.row.getD p' 0 : Nat) : Int)]) ht
            have hT : upd H2 t (.tup [.int ((s'.row.getD (HD.par p') 0 : Nat) : Int), .int ((s'.row.getD p' 0 : Nat) : Int)]) t = some (.tup [.int ((s'.row.getD (HD.par p') 0 : Nat) : Int), .int ((s'.row.getD p' 0 : Nat) : Int)]) := upd_same
            generalize upd H2 t (.tup [.int ((s'.row.getD (HD.par p') 0 : Nat) : Int), .int ((s'.row.getD p' 0 : Nat) : Int)]) = H3 at s3 hT ⊢
            have L3 := L2'.same s3
            have k3 := s3 _ _ k1
            refine ⟨t, _, rfl, L2.st_of hT, rfl, _, _, rfl, _, rfl, _, rfl, r, _, _, _, rfl, rfl, k3, ix_ok hp', ?_⟩
            rw [nV_put]
            have L4 := L3.putRow (row := s'.row.set p' (s'.row.getD (HD.par p') 0)) rfl
            have k4 : upd H3 r (.lst (nV (s'.row.set p' (s'.row.getD (HD.par p') 0)))) r = some (.lst (nV (s'.row.set p' (s'.row.getD (HD.par p') 0)))) := upd_same
            have fr4 : Fr2 r qa H (upd H3 r (.lst (nV (s'.row.set p' (s'.row.getD (HD.par p') 0))))) := (fr12.trans (.of s3)).trans Fr2.putx
            generalize upd H3 r (.lst (nV (s'.row.set p' (s'.row.getD (HD.par p') 0)))) = H4 at L4 k4 fr4 ⊢
            refine ⟨_, _, rfl, _, rfl, _, rfl, r, _, _, _, rfl, rfl, k4, ix_ok (by rw [List.length_set]; exact pl), ?_⟩
            rw [nV_put]
            have L5 := L4.putRow (row := (s'.row.set p' (s'.row.getD (HD.par p') 0)).set (HD.par p') (s'.row.getD p' 0)) rfl
            have fr5 : Fr2 r qa H (upd H4 r (.lst (nV ((s'.row.set p' (s'.row.getD (HD.par p') 0)).set (HD.par p') (s'.row.getD p' 0))))) := fr4.trans Fr2.putx
            refine ⟨rfl, _, rfl, HD.par p', { s'.ask (s'.row.getD p' 0, s'.row.getD (HD.par p') 0) with row := HD.swap s'.row p' (HD.par p') }, _, _, _, rfl, L5, ?_, ?_, ?_, fr5, e⟩
            · show (s'.asked ++ [_]).length ≤ as.length
              rw [List.length_append]
              exact lt
            · show HD.par p' < (HD.swap s'.row p' (HD.par p')).length
              rw [HD.swap_len]
              exact pl
            · show (HD.swap s'.row p' (HD.par p')).length = s.row.length
              rw [HD.swap_len]
              exact hl'
    · rintro σ H1 ⟨p', s', u, v, x, rfl, L1, la', hp', hl', fr1, e⟩
      rw [Nat.sub_self] at e
      have e : HD.lup as s.row.length low p s = (true, s') := e
      rw [e] at q hok
      exact q H1 L1 hok fr1
end

end K88

namespace K88
open PySem PySem.Spec PyProof.Rows L2
def spDown : Sp := fun vs H Q _ => ∃ (r lg aa qa : Addr) (as : List Bool) (s : HD.LS) (low : Nat), vs = [.ref r, .int (low : Int), .ref lg] ∧ LAt H r lg aa qa as s ∧ s.asked.length ≤ as.length ∧ as.length ≤ 50000 ∧ low < s.row.length ∧ s.row.length ≤ 2501 ∧
  ∀ H', LAt H' r lg aa qa as (HD.ldown as low s).2 → ((HD.ldown as low s).1 = true → (HD.ldown as low s).2.asked.length ≤ as.length) → Fr2 r qa H H' → Q (.bl (HD.ldown as low s).1) H'
theorem ldn_asked (as : List Bool) : ∀ (n p : Nat) (s : HD.LS), s.asked.length ≤ as.length → ∀ r, (HD.ldn as n p s).1 = some r → (HD.ldn as n p s).2.asked.length ≤ as.length
  | 0, _, s, h, _, _ => h
  | n + 1, p, s, h, r, e => by
    unfold HD.ldn at e ⊢
    split at e
    · rename_i c
      rw [if_pos c]
      cases k : as[s.asked.length]? with
      | none => rw [k] at e; cases e
      | some b =>
        have lt : s.asked.length < as.length := (List.getElem?_eq_some_iff.mp k).1
        rw [k] at e
        exact ldn_asked as n _ _ (by show (s.asked ++ [_]).length ≤ as.length; rw [List.length_append]; exact lt) r e
    · rename_i c
      rw [if_neg c]
      split at e
      · rename_i c2
        rw [if_pos c2]
        exact ldn_asked as n _ _ (by exact h) r e
      · rename_i c2
        rw [if_neg c2]
        exact h
theorem ldown_asked (as : List Bool) (low : Nat) (s : HD.LS) (h : s.asked.length ≤ as.length) (e : (HD.ldown as low s).1 = true) : (HD.ldown as low s).2.asked.length ≤ as.length := by
  have D := ldn_asked as s.row.length low s h
  unfold HD.ldown at e ⊢
  generalize HD.ldn as s.row.length low s = r at D e ⊢
  obtain ⟨o, s'⟩ := r
  cases o with
  | none => cases e
  | some p => exact lup_asked as _ _ _ _ (D p rfl) e
/-- the children that there are -/
def kids (p n : Nat) : List Nat := ([2 * p + 1, 2 * p + 2].filter fun k => decide (k < n))
theorem kids_two {p n : Nat} (h : 2 * p + 2 < n) : kids p n = [2 * p + 1, 2 * p + 2] := by
  unfold kids
  simp [h, show 2 * p + 1 < n by omega]
theorem kids_one {p n : Nat} (h : ¬ 2 * p + 2 < n) (k : 2 * p + 1 < n) : kids p n = [2 * p + 1] := by
  unfold kids
  simp [h, k]
theorem kids_none {p n : Nat} (k : ¬ 2 * p + 1 < n) : kids p n = [] := by
  unfold kids
  simp [show ¬ 2 * p + 2 < n by omega, k]
section
variable {P : Program} {w : World} {K : PySem.W.Frag} {mg : Str → Option Value} {base : Heap} {a : Ad} {d : Fd}
theorem ok_ldown (T : Txt K mg a d) : FnOk P w K mg base CX0 3 a.down d.down P_down spDown := by
  have G_ask : FnOk P w K mg base CX0 1 a.ask d.ask P_ask spAskL := ok_lask T
  have G_up : FnOk P w K mg base CX0 2 a.up d.up P_up spUp := ok_lup T
  refine T.f_down.ok sc_down (fun vs H Q E h => ?_) (fun cdv A outer s0 H vs Q E hr h => ?_)
  · obtain ⟨r, lg, aa, qa, as, s, low, rfl, _⟩ := h
    rfl
  · obtain ⟨r, lg, aa, qa, as, s, low, rfl, hL, la, ha, hp, hl, q⟩ := h
    refine ⟨_, (pss_cons (ps_set (i := 3) sc_down.nd rfl (Or.inl rfl) (pv 1))
    (pss_cons (ps_for PassesOwn.never rfl (pi_range1 (by rfl) T.z_range (pa_cons (pe_callB call_len_seq (by rfl) T.z_len PySem.boot_len (pa_cons (pv 0) pa_nil)) pa_nil)) (pg_name (i := 4) sc_down.nd rfl (Or.inl rfl))
      (pss_cons (ps_setLc (i := 5) (own := [("place", 6)]) (g := gName 6)  rfl sc_down.nd rfl rfl (sw_true rfl rfl rfl (by decide +kernel)) (pi_tup (pe_tup (pa_cons (pe_op op_add (pe_op op_mul pe_int (pv 3)) pe_int) (pa_cons (pe_op op_add (pe_op op_mul pe_int (pv 3)) pe_int) pa_nil)))) (blkOk_by (N := N_down) (sc := defScope s_down) (by decide +kernel)) (fun _ _ _ _ _ => pg_name (i := 6) sc_down.nd rfl (Or.inl rfl)) (fun _ _ _ _ _ => (pts_one (pt_cmpR op_lt (pv 6) (pe_callB (show CallR _ _ (rLenK K) from call_len_seq) (by rfl) T.z_len PySem.boot_len (pa_cons (pv 0) pa_nil)) (nomark _)))) (fun _ _ _ _ _ => (pv 6)))
        (pss_cons (ps_if (pt_cmpR (op_eqD hr.units) (pv 5) (pe_lst pa_nil) (nomark _)) (pss_one ps_break) pss_nil)
        (pss_cons (ps_set (i := 7) sc_down.nd rfl (Or.inl rfl) (pe_ix ix_list (pv 5) pe_int (fun _ _ => rfl)))
        (pss_cons (ps_if (pt_cmpR op_eq (pe_callB call_len_seq (by rfl) T.z_len PySem.boot_len (pa_cons (pv 5) pa_nil)) pe_int (nomark _)) (pss_cons (ps_set (i := 8) sc_down.nd rfl (Or.inl rfl) (pe_call G_ask (hr.mono (by decide)) (by rfl) T.g_ask T.k_ask T.b_ask .nil pass0 (pa_cons (pv 2) (pa_cons (pe_ix ix_list (pv 0) (pe_ix ix_list (pv 5) pe_int (fun _ _ => rfl)) (fun _ _ => rfl)) (pa_cons (pe_ix ix_list (pv 0) (pe_ix ix_list (pv 5) pe_int (fun _ _ => rfl)) (fun _ _ => rfl)) pa_nil)))))
          (pss_cons (ps_if (pt_cmpR op_isN (pv 8) pe_non (nomark _)) (pss_one (ps_ret pe_bl)) pss_nil)
          (pss_one (ps_set (i := 7) sc_down.nd rfl (Or.inl rfl) (pe_ifExp (pt_val (pv 8)) (pe_ix ix_list (pv 5) pe_int (fun _ _ => rfl)) (pe_ix ix_list (pv 5) pe_int (fun _ _ => rfl))))))) pss_nil)
        (pss_cons (ps_asg (pe_tup (pa_cons (pe_ix ix_list (pv 0) (pv 7) (fun _ _ => rfl)) (pa_cons (pe_ix ix_list (pv 0) (pv 3) (fun _ _ => rfl)) pa_nil))) (pg_tup rfl (pgs_cons (pg_sub (pv 0) (pv 3) set_list) (pgs_cons (pg_sub (pv 0) (pv 7) set_list) pgs_nil))))
        (pss_one (ps_set (i := 3) sc_down.nd rfl (Or.inl rfl) (pv 7)))))))))
    (pss_one (ps_ret (pe_call G_up (hr.mono (by decide)) (by rfl) T.g_up T.k_up T.b_up .nil pass0 (pa_cons (pv 0) (pa_cons (pv 1) (pa_cons (pv 3) (pa_cons (pv 2) pa_nil))))))))), ?_⟩
    have hok := ldown_asked as low s la
    have hdn := ldn_asked as s.row.length low s la
    obtain ⟨h1, _⟩ := id hL
    have ln : (nV s.row).length = s.row.length := List.length_map _
    refine ⟨_, rfl, ?_⟩
    dsimp only
    refine ⟨_, rfl, r, _, rfl, .inl (L2.sq_of h1), ((s.row.length : Nat) : Int), by rw [ln], by omega, by omega, ?_⟩
    have fin : ∀ (H' : Hp) (p' : Nat) (s' : HD.LS), LAt H' r lg aa qa as s' → p' < s'.row.length → s'.row.length = s.row.length → Fr2 r qa H H' → HD.ldn as s.row.length low s = (some p', s') → spUp [.ref r, .int (low : Int), .int (p' : Int), .ref lg] H' Q E := fun H' p' s' L' hp' hl' fr' e => by
      have la' : s'.asked.length ≤ as.length := by have := hdn p' (by rw [e]); rw [e] at this; exact this
      have ed : HD.ldown as low s = HD.lup as s'.row.length low p' s' := by unfold HD.ldown; rw [e]
      rw [ed] at q hok
      exact ⟨r, lg, aa, qa, as, s', low, p', rfl, L', la', ha, hp', by omega, fun H2 L2' _ fr2 => q H2 L2' hok (fr'.trans fr2)⟩
    refine for_range (lo := 0) (n := s.row.length) (fun i σ H' => ∃ (p' : Nat) (s' : HD.LS) (u4 u5 u6 u7 u8 : Option V), σ = [some (.ref r), some (.int (low : Int)), some (.ref lg), some (.int (p' : Int)), u4, u5, u6, u7, u8] ∧ LAt H' r lg aa qa as s' ∧ s'.asked.length ≤ as.length ∧ p' < s'.row.length ∧ s'.row.length = s.row.length ∧ Fr2 r qa H H' ∧ HD.ldn as s.row.length low s = HD.ldn as (s.row.length - i) p' s')
      ⟨low, s, none, none, none, none, none, rfl, hL, la, hp, rfl, Fr2.refl _ _ _, rfl⟩ ?_ ?_
    · rintro i_ σ H1 hi ⟨p', s', u4, u5, u6, u7, u8, rfl, L1, la', hp', hl', fr1, e⟩
      obtain ⟨m, hm⟩ : ∃ m, s.row.length - i_ = m + 1 := ⟨s.row.length - i_ - 1, by omega⟩
      have hm' : m = s.row.length - (i_ + 1) := by omega
      rw [hm] at e
      subst hm'
      obtain ⟨g1, _⟩ := id L1
      have ln' : (nV s'.row).length = s'.row.length := List.length_map _
      have ei1 : 2 * (p' : Int) + 1 = ((2 * p' + 1 : Nat) : Int) := by omega
      have ei2 : 2 * (p' : Int) + 2 = ((2 * p' + 2 : Nat) : Int) := by omega
      refine ⟨_, rfl, _, _, rfl, rfl, .inl ⟨by decide, by decide⟩, _, _, rfl, rfl, _, rfl, _, _, rfl, rfl, .inl ⟨by decide, by decide⟩, _, _, rfl, rfl, by show 2 ≤ sizeLine; decide, fun tp htp => ?_⟩
      dsimp only
      rw [ei1, ei2]
      have s2 := same_upd (o := .tup [.int ((2 * p' + 1 : Nat) : Int), .int ((2 * p' + 2 : Nat) : Int)]) htp
      have kT : upd H1 tp (.tup [.int ((2 * p' + 1 : Nat) : Int), .int ((2 * p' + 2 : Nat) : Int)]) tp = some (.tup [.int ((2 * p' + 1 : Nat) : Int), .int ((2 * p' + 2 : Nat) : Int)]) := upd_same
      generalize upd H1 tp (.tup [.int ((2 * p' + 1 : Nat) : Int), .int ((2 * p' + 2 : Nat) : Int)]) = H2 at s2 kT ⊢
      have g2 := s2 _ _ g1
      refine ⟨tp, rfl, ⟨_, L2.st_of kT⟩, fun D hD => ?_⟩
      have nDr : r ≠ D := fun e => by rw [← e, g2] at hD; cases hD
      refine lc_tup (K := K) (a := tp) (xs := [.int ((2 * p' + 1 : Nat) : Int), .int ((2 * p' + 2 : Nat) : Int)]) (fun i H' => Same H2 H' ∧ H' D = some (.lst (nV (([2 * p' + 1, 2 * p' + 2].take i).filter fun k => decide (k < s'.row.length))))) ⟨same_upd hD, upd_same⟩ (fun i H' _ h => L2.st_of (h.1 _ _ kT)) ?_ ?_
      · rintro i y H3 hy ⟨s3, hD3⟩
        obtain ⟨k, rfl, ek⟩ : ∃ k : Nat, y = .int (k : Int) ∧ [2 * p' + 1, 2 * p' + 2][i]? = some k := by
          have hy : (nV [2 * p' + 1, 2 * p' + 2])[i]? = some y := hy
          rw [List.getElem?_map] at hy
          cases e : [2 * p' + 1, 2 * p' + 2][i]? with
          | none => rw [e] at hy; cases hy
          | some k => rw [e] at hy; exact ⟨k, (Option.some.inj hy).symm, rfl⟩
        refine ⟨rfl, _, rfl, _, rfl, r, _, rfl, .inl (L2.sq_of (s3 _ _ g2)), _, _, rfl, rfl, decide (k < s'.row.length), congrArg V.bl (by rw [ln']; simp only [Int.ofNat_lt]), ?_⟩
        have et : ([2 * p' + 1, 2 * p' + 2].take (i + 1)).filter (fun k => decide (k < s'.row.length)) = ([2 * p' + 1, 2 * p' + 2].take i).filter (fun k => decide (k < s'.row.length)) ++ (if k < s'.row.length then [k] else []) := by
          rw [List.take_add_one, ek, List.filter_append]
          by_cases c : k < s'.row.length
          · rw [if_pos c]; simp [c]
          · rw [if_neg c]; simp [c]
        by_cases c : k < s'.row.length
        · rw [decide_eq_true c]
          refine iteT ⟨_, rfl, _, hD3, ?_, fun b o h => ?_, ?_⟩
          · refine Nat.lt_of_le_of_lt (?_ : _ ≤ 2) (by decide)
            rw [List.length_map]
            exact Nat.le_trans (List.length_filter_le _ _) (by rw [List.length_take]; exact Nat.min_le_right _ _)
          · rw [upd_ne (ne_of_none h hD)]
            exact s3 _ _ h
          · rw [et, if_pos c, upd_same]
            simp [nV]
        · rw [decide_eq_false c]
          refine iteF ⟨s3, ?_⟩
          rw [et, if_neg c, List.append_nil]
          exact hD3
      · rintro H3 ⟨s3, hD3⟩
        have hD3 : H3 D = some (.lst (nV (kids p' s'.row.length))) := hD3
        have L3 := (L1.same s2).same s3
        have g3 := s3 _ _ g2
        have fr3 : Fr2 r qa H H3 := (fr1.trans (.of s2)).trans (.of s3)
        refine ⟨_, rfl, Nat.zero_le _, fun ze hze => ?_⟩
        have s4 := same_upd (o := .lst []) hze
        have z4 : upd H3 ze (.lst []) ze = some (.lst []) := upd_same
        generalize upd H3 ze (.lst []) = H4 at s4 z4 ⊢
        have L4 := L3.same s4
        have g4 := s4 _ _ g3
        have hD4 := s4 _ _ hD3
        have fr4 : Fr2 r qa H H4 := fr3.trans (.of s4)
        by_cases c2 : 2 * p' + 2 < s'.row.length
        · rw [kids_two c2] at hD4
          have D4 : H4 D = some (.lst [.int ((2 * p' + 1 : Nat) : Int), .int ((2 * p' + 2 : Nat) : Int)]) := hD4
          refine ⟨_, .list [], dp_ints (ns := [((2 * p' + 1 : Nat) : Int), ((2 * p' + 2 : Nat) : Int)]) (L2.sq_of D4), .lst (L2.sq_of z4) .nil, shaped_ints _, by decide, false, rfl, iteF ?_⟩
          have b0 : atI [V.int ((2 * p' + 1 : Nat) : Int), V.int ((2 * p' + 2 : Nat) : Int)] 0 = some (.int ((2 * p' + 1 : Nat) : Int)) := atI_nat (j := 0) rfl
          have b1 : atI [V.int ((2 * p' + 1 : Nat) : Int), V.int ((2 * p' + 2 : Nat) : Int)] 1 = some (.int ((2 * p' + 2 : Nat) : Int)) := atI_nat (j := 1) rfl
          refine ⟨_, rfl, D, _, _, _, rfl, rfl, L2.sq_of D4, b0, ?_⟩
          refine ⟨_, rfl, D, _, rfl, .inl (L2.sq_of D4), rfl, true, rfl, iteT ?_⟩
          refine ⟨_, rfl, _, rfl, _, rfl, D, _, _, _, rfl, rfl, L2.sq_of D4, b0, r, _, _, _, rfl, rfl, L2.sq_of g4, nV_get (by omega), _, rfl, _, rfl, D, _, _, _, rfl, rfl, L2.sq_of D4, b1, r, _, _, _, rfl, rfl, L2.sq_of g4, nV_get c2, r, lg, aa, qa, as, s', _, _, rfl, L4, la', ha, fun H5 L5 fr5 => ?_⟩
          have D5 : H5 D = some (.lst [.int ((2 * p' + 1 : Nat) : Int), .int ((2 * p' + 2 : Nat) : Int)]) := by
            refine fr5 _ _ nDr.symm (fun e => ?_) D4
            obtain ⟨ts, hts, _⟩ := (L1.same s2).2.2.2.1
            rw [e, hts] at hD
            cases hD
          have fr5 : Fr2 r qa H H5 := fr4.trans fr5
          obtain ⟨k5, _⟩ := id L5
          have k5 : H5 r = some (.lst (nV s'.row)) := k5
          have e3 : HD.ldn as (s.row.length - (i_ + 1) + 1) p' s' = (match as[s'.asked.length]? with
              | none => (none, s'.ask (s'.row.getD (2 * p' + 1) 0, s'.row.getD (2 * p' + 2) 0))
              | some b => HD.ldn as (s.row.length - (i_ + 1)) (if b then 2 * p' + 1 else 2 * p' + 2) { s'.ask (s'.row.getD (2 * p' + 1) 0, s'.row.getD (2 * p' + 2) 0) with row := HD.swap s'.row p' (if b then 2 * p' + 1 else 2 * p' + 2) }) := by
            rw [HD.ldn, if_pos c2]
            try rfl
          rw [e3] at e
          cases k : as[s'.asked.length]? with
          | none =>
            rw [k] at e
            refine ⟨_, rfl, rfl, true, rfl, iteT ?_⟩
            have ed : HD.ldown as low s = (false, s'.ask (s'.row.getD (2 * p' + 1) 0, s'.row.getD (2 * p' + 2) 0)) := by unfold HD.ldown; rw [e]
            rw [ed] at q hok
            exact q H5 L5 hok fr5
          | some b =>
            have lt : s'.asked.length < as.length := (List.getElem?_eq_some_iff.mp k).1
            rw [k] at e
            refine ⟨_, rfl, rfl, false, rfl, iteF ?_⟩
            cases b with
            | true =>
              refine ⟨_, rfl, true, rfl, iteT ⟨_, rfl, D, _, _, _, rfl, rfl, L2.sq_of D5, b0, ?_⟩⟩
              refine ⟨_, rfl, _, rfl, r, _, _, _, rfl, rfl, L2.sq_of k5, nV_get (show 2 * p' + 1 < s'.row.length by omega), _, rfl, _, rfl, r, _, _, _, rfl, rfl, L2.sq_of k5, nV_get hp', by show 2 ≤ sizeLine; decide, fun t ht => ?_⟩
              have s6 := same_upd (o := .tup [.int ((s'.row.getD (2 * p' + 1) 0 : Nat) : Int), .int ((s'.row.getD p' 0 : Nat) : Int)]) ht
              have hT : upd H5 t (.tup [.int ((s'.row.getD (2 * p' + 1) 0 : Nat) : Int), .int ((s'.row.getD p' 0 : Nat) : Int)]) t = some (.tup [.int ((s'.row.getD (2 * p' + 1) 0 : Nat) : Int), .int ((s'.row.getD p' 0 : Nat) : Int)]) := upd_same
              generalize upd H5 t (.tup [.int ((s'.row.getD (2 * p' + 1) 0 : Nat) : Int), .int ((s'.row.getD p' 0 : Nat) : Int)]) = H6 at s6 hT ⊢
              have L6 := L5.same s6
              have k6 := s6 _ _ k5
              refine ⟨t, _, rfl, L2.st_of hT, rfl, _, _, rfl, _, rfl, _, rfl, r, _, _, _, rfl, rfl, k6, ix_ok hp', ?_⟩
              rw [nV_put]
              have L7 := L6.putRow (row := s'.row.set p' (s'.row.getD (2 * p' + 1) 0)) rfl
              have k7 : upd H6 r (.lst (nV (s'.row.set p' (s'.row.getD (2 * p' + 1) 0)))) r = some (.lst (nV (s'.row.set p' (s'.row.getD (2 * p' + 1) 0)))) := upd_same
              have fr7 : Fr2 r qa H (upd H6 r (.lst (nV (s'.row.set p' (s'.row.getD (2 * p' + 1) 0))))) := (fr5.trans (.of s6)).trans Fr2.putx
              generalize upd H6 r (.lst (nV (s'.row.set p' (s'.row.getD (2 * p' + 1) 0)))) = H7 at L7 k7 fr7 ⊢
              refine ⟨_, _, rfl, _, rfl, _, rfl, r, _, _, _, rfl, rfl, k7, ix_ok (by rw [List.length_set]; exact (show 2 * p' + 1 < s'.row.length by omega)), ?_⟩
              rw [nV_put]
              have L8 := L7.putRow (row := (s'.row.set p' (s'.row.getD (2 * p' + 1) 0)).set (2 * p' + 1) (s'.row.getD p' 0)) rfl
              have fr8 : Fr2 r qa H (upd H7 r (.lst (nV ((s'.row.set p' (s'.row.getD (2 * p' + 1) 0)).set (2 * p' + 1) (s'.row.getD p' 0))))) := fr7.trans Fr2.putx
              exact ⟨rfl, _, rfl, 2 * p' + 1, { s'.ask (s'.row.getD (2 * p' + 1) 0, s'.row.getD (2 * p' + 2) 0) with row := HD.swap s'.row p' (2 * p' + 1) }, _, _, _, _, _, rfl, L8, by show (s'.asked ++ [_]).length ≤ as.length; rw [List.length_append]; exact lt, by show 2 * p' + 1 < (HD.swap s'.row p' (2 * p' + 1)).length; rw [HD.swap_len]; omega, by show (HD.swap s'.row p' (2 * p' + 1)).length = s.row.length; rw [HD.swap_len]; exact hl', fr8, e⟩
            | false =>
              refine ⟨_, rfl, false, rfl, iteF ⟨_, rfl, D, _, _, _, rfl, rfl, L2.sq_of D5, b1, ?_⟩⟩
              refine ⟨_, rfl, _, rfl, r, _, _, _, rfl, rfl, L2.sq_of k5, nV_get c2, _, rfl, _, rfl, r, _, _, _, rfl, rfl, L2.sq_of k5, nV_get hp', by show 2 ≤ sizeLine; decide, fun t ht => ?_⟩
              have s6 := same_upd (o := .tup [.int ((s'.row.getD (2 * p' + 2) 0 : Nat) : Int), .int ((s'.row.getD p' 0 : Nat) : Int)]) ht
              have hT : upd H5 t (.tup [.int ((s'.row.getD (2 * p' + 2) 0 : Nat) : Int), .int ((s'.row.getD p' 0 : Nat) : Int)]) t = some (.tup [.int ((s'.row.getD (2 * p' + 2) 0 : Nat) : Int), .int ((s'.row.getD p' 0 : Nat) : Int)]) := upd_same
              generalize upd H5 t (.tup [.int ((s'.row.getD (2 * p' + 2) 0 : Nat) : Int), .int ((s'.row.getD p' 0 : Nat) : Int)]) = H6 at s6 hT ⊢
              have L6 := L5.same s6
              have k6 := s6 _ _ k5
              refine ⟨t, _, rfl, L2.st_of hT, rfl, _, _, rfl, _, rfl, _, rfl, r, _, _, _, rfl, rfl, k6, ix_ok hp', ?_⟩
              rw [nV_put]
              have L7 := L6.putRow (row := s'.row.set p' (s'.row.getD (2 * p' + 2) 0)) rfl
              have k7 : upd H6 r (.lst (nV (s'.row.set p' (s'.row.getD (2 * p' + 2) 0)))) r = some (.lst (nV (s'.row.set p' (s'.row.getD (2 * p' + 2) 0)))) := upd_same
              have fr7 : Fr2 r qa H (upd H6 r (.lst (nV (s'.row.set p' (s'.row.getD (2 * p' + 2) 0))))) := (fr5.trans (.of s6)).trans Fr2.putx
              generalize upd H6 r (.lst (nV (s'.row.set p' (s'.row.getD (2 * p' + 2) 0)))) = H7 at L7 k7 fr7 ⊢
              refine ⟨_, _, rfl, _, rfl, _, rfl, r, _, _, _, rfl, rfl, k7, ix_ok (by rw [List.length_set]; exact c2), ?_⟩
              rw [nV_put]
              have L8 := L7.putRow (row := (s'.row.set p' (s'.row.getD (2 * p' + 2) 0)).set (2 * p' + 2) (s'.row.getD p' 0)) rfl
              have fr8 : Fr2 r qa H (upd H7 r (.lst (nV ((s'.row.set p' (s'.row.getD (2 * p' + 2) 0)).set (2 * p' + 2) (s'.row.getD p' 0))))) := fr7.trans Fr2.putx
              exact ⟨rfl, _, rfl, 2 * p' + 2, { s'.ask (s'.row.getD (2 * p' + 1) 0, s'.row.getD (2 * p' + 2) 0) with row := HD.swap s'.row p' (2 * p' + 2) }, _, _, _, _, _, rfl, L8, by show (s'.asked ++ [_]).length ≤ as.length; rw [List.length_append]; exact lt, by show 2 * p' + 2 < (HD.swap s'.row p' (2 * p' + 2)).length; rw [HD.swap_len]; exact c2, by show (HD.swap s'.row p' (2 * p' + 2)).length = s.row.length; rw [HD.swap_len]; exact hl', fr8, e⟩
        · by_cases c1 : 2 * p' + 1 < s'.row.length
          · rw [kids_one c2 c1] at hD4
            have D5 : H4 D = some (.lst [.int ((2 * p' + 1 : Nat) : Int)]) := hD4
            refine ⟨_, .list [], dp_ints (ns := [((2 * p' + 1 : Nat) : Int)]) (L2.sq_of D5), .lst (L2.sq_of z4) .nil, shaped_ints _, by decide, false, rfl, iteF ?_⟩
            have b0 : atI [V.int ((2 * p' + 1 : Nat) : Int)] 0 = some (.int ((2 * p' + 1 : Nat) : Int)) := atI_nat (j := 0) rfl
            refine ⟨_, rfl, D, _, _, _, rfl, rfl, L2.sq_of D5, b0, ?_⟩
            refine ⟨_, rfl, D, _, rfl, .inl (L2.sq_of D5), rfl, false, rfl, iteF ?_⟩
            have L5 := L4
            have k5 := g4
            have fr5 := fr4
            refine ⟨_, rfl, _, rfl, r, _, _, _, rfl, rfl, L2.sq_of k5, nV_get c1, _, rfl, _, rfl, r, _, _, _, rfl, rfl, L2.sq_of k5, nV_get hp', by show 2 ≤ sizeLine; decide, fun t ht => ?_⟩
            have s6 := same_upd (o := .tup [.int ((s'.row.getD (2 * p' + 1) 0 : Nat) : Int), .int ((s'.row.getD p' 0 : Nat) : Int)]) ht
            have hT : upd H4 t (.tup [.int ((s'.row.getD (2 * p' + 1) 0 : Nat) : Int), .int ((s'.row.getD p' 0 : Nat) : Int)]) t = some (.tup [.int ((s'.row.getD (2 * p' + 1) 0 : Nat) : Int), .int ((s'.row.getD p' 0 : Nat) : Int)]) := upd_same
            generalize upd H4 t (.tup [.int ((s'.row.getD (2 * p' + 1) 0 : Nat) : Int), .int ((s'.row.getD p' 0 : Nat) : Int)]) = H6 at s6 hT ⊢
            have L6 := L5.same s6
            have k6 := s6 _ _ k5
            refine ⟨t, _, rfl, L2.st_of hT, rfl, _, _, rfl, _, rfl, _, rfl, r, _, _, _, rfl, rfl, k6, ix_ok hp', ?_⟩
            rw [nV_put]
            have L7 := L6.putRow (row := s'.row.set p' (s'.row.getD (2 * p' + 1) 0)) rfl
            have k7 : upd H6 r (.lst (nV (s'.row.set p' (s'.row.getD (2 * p' + 1) 0)))) r = some (.lst (nV (s'.row.set p' (s'.row.getD (2 * p' + 1) 0)))) := upd_same
            have fr7 : Fr2 r qa H (upd H6 r (.lst (nV (s'.row.set p' (s'.row.getD (2 * p' + 1) 0))))) := (fr5.trans (.of s6)).trans Fr2.putx
            generalize upd H6 r (.lst (nV (s'.row.set p' (s'.row.getD (2 * p' + 1) 0)))) = H7 at L7 k7 fr7 ⊢
            refine ⟨_, _, rfl, _, rfl, _, rfl, r, _, _, _, rfl, rfl, k7, ix_ok (by rw [List.length_set]; exact c1), ?_⟩
            rw [nV_put]
            have L8 := L7.putRow (row := (s'.row.set p' (s'.row.getD (2 * p' + 1) 0)).set (2 * p' + 1) (s'.row.getD p' 0)) rfl
            have fr8 : Fr2 r qa H (upd H7 r (.lst (nV ((s'.row.set p' (s'.row.getD (2 * p' + 1) 0)).set (2 * p' + 1) (s'.row.getD p' 0))))) := fr7.trans Fr2.putx
            have e3 : HD.ldn as (s.row.length - (i_ + 1) + 1) p' s' = HD.ldn as (s.row.length - (i_ + 1)) (2 * p' + 1) { s' with row := HD.swap s'.row p' (2 * p' + 1) } := by
              rw [HD.ldn, if_neg c2, if_pos c1]
            rw [e3] at e
            exact ⟨rfl, _, rfl, 2 * p' + 1, { s' with row := HD.swap s'.row p' (2 * p' + 1) }, _, _, _, _, _, rfl, L8, la', by show 2 * p' + 1 < (HD.swap s'.row p' (2 * p' + 1)).length; rw [HD.swap_len]; exact c1, by show (HD.swap s'.row p' (2 * p' + 1)).length = s.row.length; rw [HD.swap_len]; exact hl', fr8, e⟩
          · rw [kids_none c1] at hD4
            refine ⟨_, .list [], dp_ints (ns := []) (L2.sq_of hD4), .lst (L2.sq_of z4) .nil, shaped_ints _, by decide, true, rfl, iteT ?_⟩
            have e3 : HD.ldn as (s.row.length - (i_ + 1) + 1) p' s' = (some p', s') := by
              rw [HD.ldn, if_neg c2, if_neg c1]
            rw [e3] at e
            refine ⟨_, rfl, _, rfl, _, rfl, _, rfl, ?_⟩
            exact fin H4 p' s' L4 hp' hl' fr4 e
    · rintro σ H1 ⟨p', s', u4, u5, u6, u7, u8, rfl, L1, la', hp', hl', fr1, e⟩
      rw [Nat.sub_self] at e
      have e : HD.ldn as s.row.length low s = (some p', s') := e
      refine ⟨_, rfl, _, rfl, _, rfl, _, rfl, ?_⟩
      exact fin H1 p' s' L1 hp' hl' fr1 e
end

end K88

namespace K88
open PySem PySem.Spec PyProof.Rows L2
section
variable {P : Program} {w : World} {K : PySem.W.Frag} {mg : Str → Option Value} {base : Heap} {a : Ad} {d : Fd}
theorem tops_at {ts : List Nat} {t : Nat} (h : ts.getLast? = some t) : (nV ts)[(nV ts).length - 1]? = some (.int (t : Int)) ∧ ts ≠ [] := by
  have n : ts ≠ [] := fun e => by rw [e] at h; cases h
  refine ⟨?_, n⟩
  rw [List.length_map, List.getElem?_map, ← List.getLast?_eq_getElem?, h]
  rfl
theorem nV_last (l : List Nat) : (nV l).dropLast = nV l.dropLast := by simp [nV, List.map_dropLast]
theorem ok_begin0 (T : Txt K mg a d) : FnOk P w K mg base CX0 2 a.HeapDeed__begin_next_sink d.HeapDeed__begin_next_sink P_HeapDeed__begin_next_sink (spH0 a.c_HeapDeed (fun f => f.tops = []) id) := by
  have G_HeapDeed__sink : FnOk P w K mg base CX0 1 a.HeapDeed__sink d.HeapDeed__sink P_HeapDeed__sink (fun _ _ _ _ => False) := T.f_HeapDeed__sink.ok sc_HeapDeed__sink (fun _ _ _ _ h => h.elim) (fun _ _ _ _ _ _ _ _ _ h => h.elim)
  refine T.f_HeapDeed__begin_next_sink.ok sc_HeapDeed__begin_next_sink (fun vs H Q E h => ?_) (fun cdv A outer s0 H vs Q E hr h => ?_)
  · obtain ⟨x, r, tp, f, rfl, _⟩ := h
    rfl
  · obtain ⟨x, r, tp, f, rfl, hF, ht, q⟩ := h
    refine ⟨_, (pss_one (ps_if (pt_truth (pe_fld (pv 0) rfl) (by intro _; rfl)) (pss_cons (ps_asg2 (pe_bm0 PySem.F.plainAttrs_list PySem.F.slot_list_pop PySem.F.type_list_pop mt_pop (pe_fld (pv 0) rfl)) (pg_fld (pv 0)) (pg_fld (pv 0)))
      (pss_one (ps_expr (pe_meth0 (pv 0) T.cl_HeapDeed T.m_HeapDeed__sink G_HeapDeed__sink (hr.mono (by decide)) T.b_HeapDeed__sink .nil pass0)))) pss_nil)), ?_⟩
    obtain ⟨n, dx, wv, hx, hw, hrw, htp⟩ := id hF
    refine ⟨_, rfl, x, a.c_HeapDeed, dx, _, _, rfl, hx, T.cl_HeapDeed, T.n_tops, rfl, false, .inl ⟨_, L2.sq_of htp, by rw [ht]; rfl⟩, iteF (q H tp hF .refl)⟩
theorem ok_rise1 (T : Txt K mg a d) : FnOk P w K mg base CX0 3 a.HeapDeed__rise d.HeapDeed__rise P_HeapDeed__rise (spH0 a.c_HeapDeed (fun f => f.wt = none ∧ f.place < f.row.length ∧ (f.top < f.place ∨ f.tops = [])) HD.rise1) := by
  have G_HeapDeed__parent : FnOk P w K mg base CX0 1 a.HeapDeed__parent d.HeapDeed__parent P_HeapDeed__parent (spHpar a.c_HeapDeed) := ok_parent T
  have G_HeapDeed__begin_next_sink : FnOk P w K mg base CX0 2 a.HeapDeed__begin_next_sink d.HeapDeed__begin_next_sink P_HeapDeed__begin_next_sink (spH0 a.c_HeapDeed (fun f => f.tops = []) id) := ok_begin0 T
  refine T.f_HeapDeed__rise.ok sc_HeapDeed__rise (fun vs H Q E h => ?_) (fun cdv A outer s0 H vs Q E hr h => ?_)
  · obtain ⟨x, r, tp, f, rfl, _⟩ := h
    rfl
  · obtain ⟨x, r, tp, f, rfl, hF, hp, q⟩ := h
    refine ⟨_, (pss_cons (ps_fld (pv 0) (pe_glob (v := .int 3) rfl T.g_RISING ⟨_, rfl⟩) rfl)
    (pss_one (ps_if (pt_cmpR op_gt (pe_fld (pv 0) rfl) (pe_fld (pv 0) rfl) (nomark _)) (pss_one (ps_fld (pv 0) (pe_tup (pa_cons (pe_ix ix_list (pe_fld (pv 0) rfl) (pe_fld (pv 0) rfl) (fun _ _ => rfl)) (pa_cons (pe_ix ix_list (pe_fld (pv 0) rfl) (pe_meth0 (pv 0) T.cl_HeapDeed T.m_HeapDeed__parent G_HeapDeed__parent (hr.mono (by decide)) T.b_HeapDeed__parent .nil pass0) (fun _ _ => rfl)) pa_nil))) rfl)) (pss_one (ps_expr (pe_meth0 (pv 0) T.cl_HeapDeed T.m_HeapDeed__begin_next_sink G_HeapDeed__begin_next_sink (hr.mono (by decide)) T.b_HeapDeed__begin_next_sink .nil pass0)))))), ?_⟩
    obtain ⟨n, dx, wv, hx, hw, hrw, htp⟩ := id hF
    refine ⟨_, rfl, x, a.c_HeapDeed, dx, _, rfl, hx, T.cl_HeapDeed, T.n_phase, by show 8 < 1000; decide, ?_⟩
    obtain ⟨F_1, hx_1, fr_1⟩ := hF.set hx { f with phase := 3 } wv rfl rfl hw (w := putF "phase" (.int 3) (fldsD r tp f wv)) rfl
    try dsimp only
    generalize upd H x (.ins a.c_HeapDeed dx (putF "phase" (.int 3) (fldsD r tp f wv))) = H_1 at F_1 hx_1 fr_1 ⊢
    have fr_1' : Fr3 x r tp tp _ _ := .ofx fr_1
    have hr1 : H_1 r = some (.lst (nV f.row)) := by
      obtain ⟨_, _, _, _, _, z, _⟩ := id F_1
      exact z
    refine ⟨_, rfl, x, a.c_HeapDeed, dx, _, _, rfl, hx_1, T.cl_HeapDeed, T.n_place, rfl, _, rfl, x, a.c_HeapDeed, dx, _, _, rfl, hx_1, T.cl_HeapDeed, T.n_top, rfl, _, _, rfl, rfl, decide (f.top < f.place), congrArg V.bl (by simp), ?_⟩
    by_cases c : f.top < f.place
    · rw [decide_eq_true c]
      refine iteT ?_
      refine ⟨_, rfl, x, a.c_HeapDeed, dx, _, _, rfl, hx_1, T.cl_HeapDeed, T.n_row, rfl, _, rfl, x, a.c_HeapDeed, dx, _, _, rfl, hx_1, T.cl_HeapDeed, T.n_place, rfl, r, _, _, _, rfl, rfl, L2.sq_of hr1, nV_get (by exact hp.2.1), ?_⟩
      refine ⟨_, rfl, x, a.c_HeapDeed, dx, _, _, rfl, hx_1, T.cl_HeapDeed, T.n_row, rfl, _, rfl, x, dx, _, rfl, hx_1, rfl, x, r, tp, { f with phase := 3 }, rfl, F_1, (by show 1 ≤ f.place; omega), ?_⟩
      refine ⟨r, _, _, _, rfl, rfl, L2.sq_of hr1, nV_get (by show (f.place - 1) / 2 < f.row.length; have := hp.2.1; omega), ?_⟩
      refine ⟨by show 2 ≤ sizeLine; decide, fun t ht => ?_⟩
      have s1 := same_upd (o := .tup [.int ((f.row.getD f.place 0 : Nat) : Int), .int ((f.row.getD (HD.par f.place) 0 : Nat) : Int)]) ht
      have hT : upd H_1 t (.tup [.int ((f.row.getD f.place 0 : Nat) : Int), .int ((f.row.getD (HD.par f.place) 0 : Nat) : Int)]) t = some (.tup [.int ((f.row.getD f.place 0 : Nat) : Int), .int ((f.row.getD (HD.par f.place) 0 : Nat) : Int)]) := upd_same
      try dsimp only
      generalize upd H_1 t (.tup [.int ((f.row.getD f.place 0 : Nat) : Int), .int ((f.row.getD (HD.par f.place) 0 : Nat) : Int)]) = H2 at s1 hT ⊢
      have F2 := F_1.same s1
      have hx2 := s1 _ _ hx_1
      refine ⟨_, rfl, x, a.c_HeapDeed, dx, _, rfl, hx2, T.cl_HeapDeed, T.n_waiting, by show 8 < 1000; decide, ?_⟩
      obtain ⟨F3, hx3, fr3⟩ := F2.set hx2 { f with phase := 3, wt := some (f.row.getD f.place 0, f.row.getD (HD.par f.place) 0) } (.ref t) rfl rfl ⟨t, rfl, hT⟩ (w := putF "waiting" (.ref t) (fldsD r tp { f with phase := 3 } wv)) rfl
      have e : HD.rise1 f = { f with phase := 3, wt := some (f.row.getD f.place 0, f.row.getD (HD.par f.place) 0) } := by
        unfold HD.rise1; rw [if_pos c]
      exact q _ tp (by rw [e]; exact F3) ((fr_1'.trans (.of s1)).trans (.ofx fr3))
    · rw [decide_eq_false c]
      refine iteF ?_
      exact ⟨_, rfl, x, dx, _, rfl, hx_1, rfl, x, r, tp, { f with phase := 3 }, rfl, F_1, (hp.2.2.resolve_left c), fun H' tp' F' fr' => q H' tp' (by
        have e : HD.rise1 f = { f with phase := 3 } := by unfold HD.rise1; rw [if_neg c]
        rw [e]; exact F') (fr_1'.trans fr')⟩
theorem ok_sink (T : Txt K mg a d) : FnOk P w K mg base CX0 4 a.HeapDeed__sink d.HeapDeed__sink P_HeapDeed__sink (spH0 a.c_HeapDeed (HD.SinkOk) HD.sink) := by
  have G_HeapDeed__change_places : FnOk P w K mg base CX0 1 a.HeapDeed__change_places d.HeapDeed__change_places P_HeapDeed__change_places (spHchg a.c_HeapDeed) := ok_chg T
  have G_HeapDeed__rise : FnOk P w K mg base CX0 3 a.HeapDeed__rise d.HeapDeed__rise P_HeapDeed__rise (spH0 a.c_HeapDeed (fun f => f.wt = none ∧ f.place < f.row.length ∧ (f.top < f.place ∨ f.tops = [])) HD.rise1) := ok_rise1 T
  refine T.f_HeapDeed__sink.ok sc_HeapDeed__sink (fun vs H Q E h => ?_) (fun cdv A outer s0 H vs Q E hr h => ?_)
  · obtain ⟨x, r, tp, f, rfl, _⟩ := h
    rfl
  · obtain ⟨x, r, tp, f, rfl, hF, so, q⟩ := h
    refine ⟨_, (pss_cons (ps_fld (pv 0) (pe_glob (v := .int 2) rfl T.g_SINKING ⟨_, rfl⟩) rfl)
    (pss_cons (ps_set (i := 1) sc_HeapDeed__sink.nd rfl (Or.inl rfl) (pe_op op_add (pe_op op_mul pe_int (pe_fld (pv 0) rfl)) pe_int))
    (pss_cons (ps_if (pt_cmpR op_lt (pe_op op_add (pv 1) pe_int) (pe_callB call_len_seq (by rfl) T.z_len PySem.boot_len (pa_cons (pe_fld (pv 0) rfl) pa_nil)) (nomark _)) (pss_cons (ps_fld (pv 0) (pe_tup (pa_cons (pe_ix ix_list (pe_fld (pv 0) rfl) (pv 1) (fun _ _ => rfl)) (pa_cons (pe_ix ix_list (pe_fld (pv 0) rfl) (pe_op op_add (pv 1) pe_int) (fun _ _ => rfl)) pa_nil))) rfl)
      (pss_one ps_retN)) pss_nil)
    (pss_cons (ps_if (pt_cmpR op_lt (pv 1) (pe_callB call_len_seq (by rfl) T.z_len PySem.boot_len (pa_cons (pe_fld (pv 0) rfl) pa_nil)) (nomark _)) (pss_one (ps_expr (pe_meth (pv 0) T.cl_HeapDeed T.m_HeapDeed__change_places G_HeapDeed__change_places (hr.mono (by decide)) T.b_HeapDeed__change_places .nil pass0 (pa_cons (pv 1) pa_nil)))) pss_nil)
    (pss_one (ps_expr (pe_meth0 (pv 0) T.cl_HeapDeed T.m_HeapDeed__rise G_HeapDeed__rise (hr.mono (by decide)) T.b_HeapDeed__rise .nil pass0))))))), ?_⟩
    obtain ⟨n, dx, wv, hx, hw, hrw, htp⟩ := id hF
    refine ⟨_, rfl, x, a.c_HeapDeed, dx, _, rfl, hx, T.cl_HeapDeed, T.n_phase, by show 8 < 1000; decide, ?_⟩
    obtain ⟨F_2, hx_2, fr_2⟩ := hF.set hx { f with phase := 2 } wv rfl rfl hw (w := putF "phase" (.int 2) (fldsD r tp f wv)) rfl
    try dsimp only
    generalize upd H x (.ins a.c_HeapDeed dx (putF "phase" (.int 2) (fldsD r tp f wv))) = H_2 at F_2 hx_2 fr_2 ⊢
    have fr_2' : Fr3 x r tp tp _ _ := .ofx fr_2
    have hr1 : H_2 r = some (.lst (nV f.row)) := by
      obtain ⟨_, _, _, _, _, z, _⟩ := id F_2
      exact z
    refine ⟨_, rfl, x, a.c_HeapDeed, dx, _, _, rfl, hx_2, T.cl_HeapDeed, T.n_place, rfl, _, _, rfl, rfl, .inl ⟨by decide, by decide⟩, _, _, rfl, rfl, ?_⟩
    dsimp only
    have e1 : 2 * (f.place : Int) + 1 = ((2 * f.place + 1 : Nat) : Int) := by omega
    have e2 : ((2 * f.place + 1 : Nat) : Int) + 1 = ((2 * f.place + 2 : Nat) : Int) := by omega
    rw [e1]
    have ln : (nV f.row).length = f.row.length := List.length_map _
    refine ⟨_, rfl, _, _, rfl, rfl, _, rfl, x, a.c_HeapDeed, dx, _, _, rfl, hx_2, T.cl_HeapDeed, T.n_row, rfl, r, _, rfl, .inl (L2.sq_of hr1), _, _, rfl, rfl, decide (2 * f.place + 2 < f.row.length), congrArg V.bl (by rw [ln, e2]; simp only [Int.ofNat_lt]), ?_⟩
    by_cases c : 2 * f.place + 2 < f.row.length
    · rw [decide_eq_true c]
      refine iteT ?_
      refine ⟨_, rfl, x, a.c_HeapDeed, dx, _, _, rfl, hx_2, T.cl_HeapDeed, T.n_row, rfl, _, rfl, r, _, _, _, rfl, rfl, L2.sq_of hr1, nV_get (by omega), ?_⟩
      refine ⟨_, rfl, x, a.c_HeapDeed, dx, _, _, rfl, hx_2, T.cl_HeapDeed, T.n_row, rfl, _, rfl, _, _, rfl, rfl, ?_⟩
      dsimp only
      rw [e2]
      refine ⟨r, _, _, _, rfl, rfl, L2.sq_of hr1, nV_get c, ?_⟩
      refine ⟨by show 2 ≤ sizeLine; decide, fun t ht => ?_⟩
      have s1 := same_upd (o := .tup [.int ((f.row.getD (2 * f.place + 1) 0 : Nat) : Int), .int ((f.row.getD (2 * f.place + 2) 0 : Nat) : Int)]) ht
      have hT : upd H_2 t (.tup [.int ((f.row.getD (2 * f.place + 1) 0 : Nat) : Int), .int ((f.row.getD (2 * f.place + 2) 0 : Nat) : Int)]) t = some (.tup [.int ((f.row.getD (2 * f.place + 1) 0 : Nat) : Int), .int ((f.row.getD (2 * f.place + 2) 0 : Nat) : Int)]) := upd_same
      generalize upd H_2 t (.tup [.int ((f.row.getD (2 * f.place + 1) 0 : Nat) : Int), .int ((f.row.getD (2 * f.place + 2) 0 : Nat) : Int)]) = H2 at s1 hT ⊢
      have F2 := F_2.same s1
      have hx2 := s1 _ _ hx_2
      refine ⟨_, rfl, x, a.c_HeapDeed, dx, _, rfl, hx2, T.cl_HeapDeed, T.n_waiting, by show 8 < 1000; decide, ?_⟩
      obtain ⟨F3, hx3, fr3⟩ := F2.set hx2 { f with phase := 2, wt := some (f.row.getD (2 * f.place + 1) 0, f.row.getD (2 * f.place + 2) 0) } (.ref t) rfl rfl ⟨t, rfl, hT⟩ (w := putF "waiting" (.ref t) (fldsD r tp { f with phase := 2 } wv)) rfl
      have e : HD.sink f = { f with phase := 2, wt := some (f.row.getD (2 * f.place + 1) 0, f.row.getD (2 * f.place + 2) 0) } := by unfold HD.sink; rw [if_pos c]
      exact q _ tp (by rw [e]; exact F3) ((fr_2'.trans (.of s1)).trans (.ofx fr3))
    · rw [decide_eq_false c]
      refine iteF ?_
      refine ⟨_, rfl, _, rfl, x, a.c_HeapDeed, dx, _, _, rfl, hx_2, T.cl_HeapDeed, T.n_row, rfl, r, _, rfl, .inl (L2.sq_of hr1), _, _, rfl, rfl, decide (2 * f.place + 1 < f.row.length), congrArg V.bl (by rw [ln]; simp only [Int.ofNat_lt]), ?_⟩
      by_cases c2 : 2 * f.place + 1 < f.row.length
      · rw [decide_eq_true c2]
        refine iteT ?_
        refine ⟨_, rfl, x, dx, _, rfl, hx_2, rfl, _, rfl, x, r, tp, { f with phase := 2 }, 2 * f.place + 1, rfl, F_2, so.pl, c2, fun H4 F4 fr4 => ?_⟩
        obtain ⟨_, dx4, wv4, hx4, _, _, _⟩ := id F4
        refine ⟨_, rfl, x, dx4, _, rfl, hx4, rfl, x, r, tp, _, rfl, F4, ⟨so.wt, by rw [HD.chg_len]; exact c2, .inl (by show f.top < 2 * f.place + 1; have := so.low; omega)⟩, fun H' tp' F' fr' => q H' tp' ?_ ((fr_2'.trans fr4).trans fr')⟩
        have e : HD.sink f = HD.rise1 (HD.chg { f with phase := 2 } (2 * f.place + 1)) := by unfold HD.sink; rw [if_neg c, if_pos c2]
        rw [e]
        exact F'
      · rw [decide_eq_false c2]
        refine iteF ?_
        refine ⟨_, rfl, x, dx, _, rfl, hx_2, rfl, x, r, tp, { f with phase := 2 }, rfl, F_2, ⟨so.wt, so.pl, so.way.elim (fun h => .inr h) fun h => h.elim (fun h => absurd h c2) (fun h => .inl h)⟩, fun H' tp' F' fr' => q H' tp' ?_ (fr_2'.trans fr')⟩
        have e : HD.sink f = HD.rise1 { f with phase := 2 } := by unfold HD.sink; rw [if_neg c, if_neg c2]
        rw [e]
        exact F'
theorem ok_begin (T : Txt K mg a d) : FnOk P w K mg base CX0 5 a.HeapDeed__begin_next_sink d.HeapDeed__begin_next_sink P_HeapDeed__begin_next_sink (spH0 a.c_HeapDeed (fun f => f.row.length ≤ 2501 ∧ f.wt = none ∧ HD.TopsOk f) HD.begin) := by
  have G_HeapDeed__sink : FnOk P w K mg base CX0 4 a.HeapDeed__sink d.HeapDeed__sink P_HeapDeed__sink (spH0 a.c_HeapDeed (HD.SinkOk) HD.sink) := ok_sink T
  refine T.f_HeapDeed__begin_next_sink.ok sc_HeapDeed__begin_next_sink (fun vs H Q E h => ?_) (fun cdv A outer s0 H vs Q E hr h => ?_)
  · obtain ⟨x, r, tp, f, rfl, _⟩ := h
    rfl
  · obtain ⟨x, r, tp, f, rfl, hF, hp, q⟩ := h
    refine ⟨_, (pss_one (ps_if (pt_truth (pe_fld (pv 0) rfl) (by intro _; rfl)) (pss_cons (ps_asg2 (pe_bm0 PySem.F.plainAttrs_list PySem.F.slot_list_pop PySem.F.type_list_pop mt_pop (pe_fld (pv 0) rfl)) (pg_fld (pv 0)) (pg_fld (pv 0)))
      (pss_one (ps_expr (pe_meth0 (pv 0) T.cl_HeapDeed T.m_HeapDeed__sink G_HeapDeed__sink (hr.mono (by decide)) T.b_HeapDeed__sink .nil pass0)))) pss_nil)), ?_⟩
    obtain ⟨n, dx, wv, hx, hw, hrw, htp⟩ := id hF
    cases e : f.tops.getLast? with
    | none =>
      have e0 := List.getLast?_eq_none_iff.mp e
      refine ⟨_, rfl, x, a.c_HeapDeed, dx, _, _, rfl, hx, T.cl_HeapDeed, T.n_tops, rfl, false, .inl ⟨_, L2.sq_of htp, by rw [e0]; rfl⟩, iteF (q H tp ?_ .refl)⟩
      rw [HD.begin_nil e0]
      exact hF
    | some t =>
      obtain ⟨et, n0⟩ := tops_at e
      refine ⟨_, rfl, x, a.c_HeapDeed, dx, _, _, rfl, hx, T.cl_HeapDeed, T.n_tops, rfl, true, .inl ⟨_, L2.sq_of htp, by cases h : f.tops with | nil => exact absurd h n0 | cons _ _ => rfl⟩, iteT ?_⟩
      refine ⟨_, rfl, x, a.c_HeapDeed, dx, _, _, rfl, hx, T.cl_HeapDeed, T.n_tops, rfl, .inl ⟨rfl, _, L2.sq_of htp⟩, tp, _, _, rfl, rfl, htp, et, ?_⟩
      have F1 := hF.putTops (ts := f.tops.dropLast) (nV_last _)
      have hx1 : upd H tp (.lst (nV f.tops).dropLast) x = some (.ins a.c_HeapDeed dx (fldsD r tp f wv)) := by rw [upd_ne hF.nxt]; exact hx
      have fr1 : Fr3 x r tp tp H (upd H tp (.lst (nV f.tops).dropLast)) := .putt
      generalize upd H tp (.lst (nV f.tops).dropLast) = H1 at F1 hx1 fr1 ⊢
      obtain ⟨_, dx1, wv1, hx1', hw1, _, _⟩ := id F1
      refine ⟨_, rfl, x, a.c_HeapDeed, dx1, _, rfl, hx1', T.cl_HeapDeed, T.n_top, by show 8 < 1000; decide, ?_⟩
      obtain ⟨F2, hx2, fr2⟩ := F1.set hx1' { f with tops := f.tops.dropLast, top := t } wv1 rfl rfl hw1 (w := putF "top" (.int (t : Int)) (fldsD r tp { f with tops := f.tops.dropLast } wv1)) rfl
      generalize upd H1 x (.ins a.c_HeapDeed dx1 (putF "top" (.int (t : Int)) (fldsD r tp { f with tops := f.tops.dropLast } wv1))) = H2 at F2 hx2 fr2 ⊢
      have hw2 : WaitAt H2 wv1 f.wt := by
        obtain ⟨_, _, wv9, hx9, hw9, _, _⟩ := id F2
        rw [hx2] at hx9
        cases hx9
        exact hw9
      refine ⟨_, rfl, x, a.c_HeapDeed, dx1, _, rfl, hx2, T.cl_HeapDeed, T.n_place, by show 8 < 1000; decide, ?_⟩
      obtain ⟨F3, hx3, fr3⟩ := F2.set hx2 { f with tops := f.tops.dropLast, top := t, place := t } wv1 rfl rfl hw2 (w := putF "place" (.int (t : Int)) (fldsD r tp { f with tops := f.tops.dropLast, top := t } wv1)) rfl
      generalize upd H2 x (.ins a.c_HeapDeed dx1 (putF "place" (.int (t : Int)) (fldsD r tp { f with tops := f.tops.dropLast, top := t } wv1))) = H3 at F3 hx3 fr3 ⊢
      refine ⟨_, rfl, x, dx1, _, rfl, hx3, rfl, x, r, tp, _, rfl, F3, HD.sinkOk_begin hp.1 hp.2.1 hp.2.2 e, fun H' tp' F' fr' => q H' tp' ?_ (((fr1.trans (.ofx fr2)).trans (.ofx fr3)).trans fr')⟩
      rw [HD.begin_some e]
      exact F'
theorem ok_rise (T : Txt K mg a d) : FnOk P w K mg base CX0 6 a.HeapDeed__rise d.HeapDeed__rise P_HeapDeed__rise (spH0 a.c_HeapDeed (fun f => f.row.length ≤ 2501 ∧ f.wt = none ∧ (∀ t ∈ f.tops, 2 * t + 1 < f.row.length) ∧ f.place < f.row.length) HD.rise) := by
  have G_HeapDeed__parent : FnOk P w K mg base CX0 1 a.HeapDeed__parent d.HeapDeed__parent P_HeapDeed__parent (spHpar a.c_HeapDeed) := ok_parent T
  have G_HeapDeed__begin_next_sink : FnOk P w K mg base CX0 5 a.HeapDeed__begin_next_sink d.HeapDeed__begin_next_sink P_HeapDeed__begin_next_sink (spH0 a.c_HeapDeed (fun f => f.row.length ≤ 2501 ∧ f.wt = none ∧ HD.TopsOk f) HD.begin) := ok_begin T
  refine T.f_HeapDeed__rise.ok sc_HeapDeed__rise (fun vs H Q E h => ?_) (fun cdv A outer s0 H vs Q E hr h => ?_)
  · obtain ⟨x, r, tp, f, rfl, _⟩ := h
    rfl
  · obtain ⟨x, r, tp, f, rfl, hF, hp, q⟩ := h
    refine ⟨_, (pss_cons (ps_fld (pv 0) (pe_glob (v := .int 3) rfl T.g_RISING ⟨_, rfl⟩) rfl)
    (pss_one (ps_if (pt_cmpR op_gt (pe_fld (pv 0) rfl) (pe_fld (pv 0) rfl) (nomark _)) (pss_one (ps_fld (pv 0) (pe_tup (pa_cons (pe_ix ix_list (pe_fld (pv 0) rfl) (pe_fld (pv 0) rfl) (fun _ _ => rfl)) (pa_cons (pe_ix ix_list (pe_fld (pv 0) rfl) (pe_meth0 (pv 0) T.cl_HeapDeed T.m_HeapDeed__parent G_HeapDeed__parent (hr.mono (by decide)) T.b_HeapDeed__parent .nil pass0) (fun _ _ => rfl)) pa_nil))) rfl)) (pss_one (ps_expr (pe_meth0 (pv 0) T.cl_HeapDeed T.m_HeapDeed__begin_next_sink G_HeapDeed__begin_next_sink (hr.mono (by decide)) T.b_HeapDeed__begin_next_sink .nil pass0)))))), ?_⟩
    obtain ⟨n, dx, wv, hx, hw, hrw, htp⟩ := id hF
    refine ⟨_, rfl, x, a.c_HeapDeed, dx, _, rfl, hx, T.cl_HeapDeed, T.n_phase, by show 8 < 1000; decide, ?_⟩
    obtain ⟨F_3, hx_3, fr_3⟩ := hF.set hx { f with phase := 3 } wv rfl rfl hw (w := putF "phase" (.int 3) (fldsD r tp f wv)) rfl
    try dsimp only
    generalize upd H x (.ins a.c_HeapDeed dx (putF "phase" (.int 3) (fldsD r tp f wv))) = H_3 at F_3 hx_3 fr_3 ⊢
    have fr_3' : Fr3 x r tp tp _ _ := .ofx fr_3
    have hr1 : H_3 r = some (.lst (nV f.row)) := by
      obtain ⟨_, _, _, _, _, z, _⟩ := id F_3
      exact z
    refine ⟨_, rfl, x, a.c_HeapDeed, dx, _, _, rfl, hx_3, T.cl_HeapDeed, T.n_place, rfl, _, rfl, x, a.c_HeapDeed, dx, _, _, rfl, hx_3, T.cl_HeapDeed, T.n_top, rfl, _, _, rfl, rfl, decide (f.top < f.place), congrArg V.bl (by simp), ?_⟩
    by_cases c : f.top < f.place
    · rw [decide_eq_true c]
      refine iteT ?_
      refine ⟨_, rfl, x, a.c_HeapDeed, dx, _, _, rfl, hx_3, T.cl_HeapDeed, T.n_row, rfl, _, rfl, x, a.c_HeapDeed, dx, _, _, rfl, hx_3, T.cl_HeapDeed, T.n_place, rfl, r, _, _, _, rfl, rfl, L2.sq_of hr1, nV_get (by exact hp.2.2.2), ?_⟩
      refine ⟨_, rfl, x, a.c_HeapDeed, dx, _, _, rfl, hx_3, T.cl_HeapDeed, T.n_row, rfl, _, rfl, x, dx, _, rfl, hx_3, rfl, x, r, tp, { f with phase := 3 }, rfl, F_3, (by show 1 ≤ f.place; omega), ?_⟩
      refine ⟨r, _, _, _, rfl, rfl, L2.sq_of hr1, nV_get (by show (f.place - 1) / 2 < f.row.length; have := hp.2.2.2; omega), ?_⟩
      refine ⟨by show 2 ≤ sizeLine; decide, fun t ht => ?_⟩
      have s1 := same_upd (o := .tup [.int ((f.row.getD f.place 0 : Nat) : Int), .int ((f.row.getD (HD.par f.place) 0 : Nat) : Int)]) ht
      have hT : upd H_3 t (.tup [.int ((f.row.getD f.place 0 : Nat) : Int), .int ((f.row.getD (HD.par f.place) 0 : Nat) : Int)]) t = some (.tup [.int ((f.row.getD f.place 0 : Nat) : Int), .int ((f.row.getD (HD.par f.place) 0 : Nat) : Int)]) := upd_same
      try dsimp only
      generalize upd H_3 t (.tup [.int ((f.row.getD f.place 0 : Nat) : Int), .int ((f.row.getD (HD.par f.place) 0 : Nat) : Int)]) = H2 at s1 hT ⊢
      have F2 := F_3.same s1
      have hx2 := s1 _ _ hx_3
      refine ⟨_, rfl, x, a.c_HeapDeed, dx, _, rfl, hx2, T.cl_HeapDeed, T.n_waiting, by show 8 < 1000; decide, ?_⟩
      obtain ⟨F3, hx3, fr3⟩ := F2.set hx2 { f with phase := 3, wt := some (f.row.getD f.place 0, f.row.getD (HD.par f.place) 0) } (.ref t) rfl rfl ⟨t, rfl, hT⟩ (w := putF "waiting" (.ref t) (fldsD r tp { f with phase := 3 } wv)) rfl
      have e : HD.rise f = { f with phase := 3, wt := some (f.row.getD f.place 0, f.row.getD (HD.par f.place) 0) } := by
        unfold HD.rise HD.rise1; rw [if_pos c, if_pos c]
      exact q _ tp (by rw [e]; exact F3) ((fr_3'.trans (.of s1)).trans (.ofx fr3))
    · rw [decide_eq_false c]
      refine iteF ?_
      exact ⟨_, rfl, x, dx, _, rfl, hx_3, rfl, x, r, tp, { f with phase := 3 }, rfl, F_3, ⟨hp.1, hp.2.1, .inl hp.2.2.1⟩, fun H' tp' F' fr' => q H' tp' (by
        have e : HD.rise f = HD.begin { f with phase := 3 } := by unfold HD.rise; rw [if_neg c]
        rw [e]; exact F') (fr_3'.trans fr')⟩
end

end K88

namespace K88
open PySem PySem.Spec PyProof.Rows L2
def dW : Nat → Str
  | 0 => "heapify"
  | 1 => "push"
  | 2 => "pop"
  | 3 => "replace"
  | _ => "pushpop"
theorem wd_cases {wd : Nat} (h : wd ≤ 4) : wd = 0 ∨ wd = 1 ∨ wd = 2 ∨ wd = 3 ∨ wd = 4 := by omega
def spHinit (C : Addr) : Sp := fun vs H Q _ => ∃ x dx r wd row new, vs = [.ref x, .str (dW wd), .ref r, oV new] ∧ wd ≤ 4 ∧ H x = some (.ins C dx []) ∧ H r = some (.lst (nV row)) ∧ HD.Pre wd row new ∧
  ∀ H' tp, HAt C H' x r tp (HD.init wd row new) → (∀ b o, b ≠ x → b ≠ r → H b = some o → H' b = some o ∧ b ≠ tp) → Q .non H'
section
variable {P : Program} {w : World} {K : PySem.W.Frag} {mg : Str → Option Value} {base : Heap} {a : Ad} {d : Fd}
theorem ok_first (T : Txt K mg a d) : FnOk P w K mg base CX0 6 a.HeapDeed__replace_first d.HeapDeed__replace_first P_HeapDeed__replace_first (spH1 a.c_HeapDeed (fun f _ => f.row.length ≤ 2501 ∧ f.row ≠ [] ∧ f.wt = none) (HD.first)) := by
  have G_HeapDeed__begin_next_sink : FnOk P w K mg base CX0 5 a.HeapDeed__begin_next_sink d.HeapDeed__begin_next_sink P_HeapDeed__begin_next_sink (spH0 a.c_HeapDeed (fun f => f.row.length ≤ 2501 ∧ f.wt = none ∧ HD.TopsOk f) HD.begin) := ok_begin T
  refine T.f_HeapDeed__replace_first.ok sc_HeapDeed__replace_first (fun vs H Q E h => ?_) (fun cdv A outer s0 H vs Q E hr h => ?_)
  · obtain ⟨x, r, tp, f, o, rfl, _⟩ := h
    rfl
  · obtain ⟨x, r, tp, f, o, rfl, hF, hp, q⟩ := h
    refine ⟨_, (pss_cons (ps_fld (pv 0) (pe_ix ix_list (pe_fld (pv 0) rfl) pe_int (fun _ _ => rfl)) rfl)
    (pss_cons (ps_asg (pv 1) (pg_sub (pe_fld (pv 0) rfl) pe_int set_list))
    (pss_cons (ps_fld (pv 0) (pe_lst (pa_cons pe_int pa_nil)) rfl)
    (pss_one (ps_expr (pe_meth0 (pv 0) T.cl_HeapDeed T.m_HeapDeed__begin_next_sink G_HeapDeed__begin_next_sink (hr.mono (by decide)) T.b_HeapDeed__begin_next_sink .nil pass0)))))), ?_⟩
    obtain ⟨n, dx, wv, hx, hw, hrw, htp⟩ := id hF
    have l0 : 0 < f.row.length := List.length_pos_iff.mpr hp.2.1
    refine ⟨_, rfl, x, a.c_HeapDeed, dx, _, _, rfl, hx, T.cl_HeapDeed, T.n_row, rfl, r, _, 0, _, rfl, rfl, L2.sq_of hrw, nV_get (i := 0) l0, ?_⟩
    refine ⟨_, rfl, x, a.c_HeapDeed, dx, _, rfl, hx, T.cl_HeapDeed, T.n_given, by show 8 < 1000; decide, ?_⟩
    obtain ⟨F_4, hx_4, fr_4⟩ := hF.set hx { f with given := some (f.row.getD 0 0) } wv rfl rfl hw (w := putF "given" (.int ((f.row.getD 0 0 : Nat) : Int)) (fldsD r tp f wv)) rfl
    try dsimp only
    generalize upd H x (.ins a.c_HeapDeed dx (putF "given" (.int ((f.row.getD 0 0 : Nat) : Int)) (fldsD r tp f wv))) = H_4 at F_4 hx_4 fr_4 ⊢
    have fr_4' : Fr3 x r tp tp _ _ := .ofx fr_4
    have hr1 : H_4 r = some (.lst (nV f.row)) := by
      obtain ⟨_, _, _, _, _, z, _⟩ := id F_4
      exact z
    refine ⟨_, rfl, _, rfl, x, a.c_HeapDeed, dx, _, _, rfl, hx_4, T.cl_HeapDeed, T.n_row, rfl, r, _, 0, 0, rfl, rfl, hr1, ix_ok (i := 0) l0, ?_⟩
    rw [nV_put]
    have F2 := F_4.putRow (row := f.row.set 0 o) rfl
    have hx2 : upd H_4 r (.lst (nV (f.row.set 0 o))) x = some (.ins a.c_HeapDeed dx (fldsD r tp { f with given := some (f.row.getD 0 0) } wv)) := by rw [upd_ne hF.nxr]; exact hx_4
    have fr2 : Fr3 x r tp tp H (upd H_4 r (.lst (nV (f.row.set 0 o)))) := fr_4'.trans .putr
    generalize upd H_4 r (.lst (nV (f.row.set 0 o))) = H2 at F2 hx2 fr2 ⊢
    refine ⟨by show 1 ≤ sizeLine; decide, fun tp' htp' => ?_⟩
    have s3 := same_upd (o := .lst [.int 0]) htp'
    have k3 : upd H2 tp' (.lst [.int 0]) tp' = some (.lst (nV [0])) := upd_same
    have nx' : tp' ≠ x := fun e => by rw [e, hx2] at htp'; cases htp'
    have nr' : tp' ≠ r := fun e => by
      obtain ⟨_, _, _, _, _, z, _⟩ := id F2
      rw [e, z] at htp'; cases htp'
    have old : ∀ b o, H2 b = some o → b ≠ tp' := fun b o h e => by rw [e, htp'] at h; cases h
    generalize upd H2 tp' (.lst [.int 0]) = H3 at s3 k3 ⊢
    have F3 := F2.same s3
    have hx3 := s3 _ _ hx2
    have hw3 : WaitAt H3 wv f.wt := by
      obtain ⟨_, _, wv9, hx9, hw9, _, _⟩ := id F3
      rw [hx3] at hx9
      cases hx9
      exact hw9
    refine ⟨_, rfl, x, a.c_HeapDeed, dx, _, rfl, hx3, T.cl_HeapDeed, T.n_tops, by show 8 < 1000; decide, ?_⟩
    have F4 := F3.newTops hx3 hw3 (ts := [0]) nr' nx' k3 (w := putF "tops" (.ref tp') (fldsD r tp { f with given := some (f.row.getD 0 0) } wv)) rfl
    have hx4 : upd H3 x (.ins a.c_HeapDeed dx (putF "tops" (.ref tp') (fldsD r tp { f with given := some (f.row.getD 0 0) } wv))) x = some (.ins a.c_HeapDeed dx (fldsD r tp' { f with given := some (f.row.getD 0 0), row := f.row.set 0 o, tops := [0] } wv)) := upd_same
    have fr4 : Fr3 x r tp tp' H (upd H3 x (.ins a.c_HeapDeed dx (putF "tops" (.ref tp') (fldsD r tp { f with given := some (f.row.getD 0 0) } wv)))) := fun b oo n1 n2 n3 h => by
      have h2 := (fr2 b oo n1 n2 n3 h).1
      exact ⟨by rw [upd_ne n1]; exact s3 _ _ h2, old _ _ h2⟩
    generalize upd H3 x (.ins a.c_HeapDeed dx (putF "tops" (.ref tp') (fldsD r tp { f with given := some (f.row.getD 0 0) } wv))) = H4 at F4 hx4 fr4 ⊢
    exact ⟨_, rfl, x, dx, _, rfl, hx4, rfl, x, r, tp', _, rfl, F4, ⟨by show (f.row.set 0 o).length ≤ 2501; rw [List.length_set]; exact hp.1, hp.2.2, .inr ⟨Nat.le_refl 1, fun t ht => by rw [List.mem_singleton.mp ht]; show 0 < (f.row.set 0 o).length; rw [List.length_set]; exact l0⟩⟩, fun H' t2 F' fr' => q H' t2 F' (fr4.trans fr')⟩
theorem pop_at {l : List Nat} (h : l ≠ []) : (nV l)[(nV l).length - 1]? = some (.int ((l.getD (l.length - 1) 0 : Nat) : Int)) := by
  have l0 : 0 < l.length := List.length_pos_iff.mpr h
  rw [List.length_map, List.getElem?_map, List.getElem?_eq_getElem (by omega)]
  simp [List.getD_eq_getElem?_getD, List.getElem?_eq_getElem (show l.length - 1 < l.length by omega)]
theorem ok_pop (T : Txt K mg a d) : FnOk P w K mg base CX0 7 a.HeapDeed__pop d.HeapDeed__pop P_HeapDeed__pop (spH0 a.c_HeapDeed (fun f => f.row.length ≤ 2501 ∧ f.row ≠ [] ∧ f.wt = none) HD.pop) := by
  have G_HeapDeed__replace_first : FnOk P w K mg base CX0 6 a.HeapDeed__replace_first d.HeapDeed__replace_first P_HeapDeed__replace_first (spH1 a.c_HeapDeed (fun f _ => f.row.length ≤ 2501 ∧ f.row ≠ [] ∧ f.wt = none) (HD.first)) := ok_first T
  refine T.f_HeapDeed__pop.ok sc_HeapDeed__pop (fun vs H Q E h => ?_) (fun cdv A outer s0 H vs Q E hr h => ?_)
  · obtain ⟨x, r, tp, f, rfl, _⟩ := h
    rfl
  · obtain ⟨x, r, tp, f, rfl, hF, hp, q⟩ := h
    refine ⟨_, (pss_cons (ps_set (i := 1) sc_HeapDeed__pop.nd rfl (Or.inl rfl) (pe_bm0 PySem.F.plainAttrs_list PySem.F.slot_list_pop PySem.F.type_list_pop mt_pop (pe_fld (pv 0) rfl)))
    (pss_one (ps_if (pt_truth (pe_fld (pv 0) rfl) (by intro _; rfl)) (pss_one (ps_expr (pe_meth (pv 0) T.cl_HeapDeed T.m_HeapDeed__replace_first G_HeapDeed__replace_first (hr.mono (by decide)) T.b_HeapDeed__replace_first .nil pass0 (pa_cons (pv 1) pa_nil)))) (pss_one (ps_fld (pv 0) (pv 1) rfl))))), ?_⟩
    obtain ⟨n, dx, wv, hx, hw, hrw, htp⟩ := id hF
    have l0 : 0 < f.row.length := List.length_pos_iff.mpr hp.2.1
    refine ⟨_, rfl, x, a.c_HeapDeed, dx, _, _, rfl, hx, T.cl_HeapDeed, T.n_row, rfl, .inl ⟨rfl, _, L2.sq_of hrw⟩, r, _, _, rfl, rfl, hrw, pop_at hp.2.1, ?_⟩
    have F1 := hF.putRow (row := f.row.dropLast) (nV_last _)
    have hx1 : upd H r (.lst (nV f.row).dropLast) x = some (.ins a.c_HeapDeed dx (fldsD r tp f wv)) := by rw [upd_ne hF.nxr]; exact hx
    have hr1 : upd H r (.lst (nV f.row).dropLast) r = some (.lst (nV f.row.dropLast)) := by rw [nV_last]; exact upd_same
    have fr1 : Fr3 x r tp tp H (upd H r (.lst (nV f.row).dropLast)) := .putr
    generalize upd H r (.lst (nV f.row).dropLast) = H1 at F1 hx1 hr1 fr1 ⊢
    by_cases c : f.row.length = 1
    · have e0 : f.row.dropLast = [] := List.eq_nil_of_length_eq_zero (by rw [List.length_dropLast]; omega)
      refine ⟨_, rfl, x, a.c_HeapDeed, dx, _, _, rfl, hx1, T.cl_HeapDeed, T.n_row, rfl, false, .inl ⟨_, L2.sq_of hr1, by rw [e0]; rfl⟩, iteF ?_⟩
      obtain ⟨_, dx9, wv9, hx9, hw9, _, _⟩ := id F1
      refine ⟨_, rfl, _, rfl, x, a.c_HeapDeed, dx9, _, rfl, hx9, T.cl_HeapDeed, T.n_given, by show 8 < 1000; decide, ?_⟩
      obtain ⟨F2, hx2, fr2⟩ := F1.set hx9 { f with row := f.row.dropLast, given := some (f.row.getD (f.row.length - 1) 0) } wv9 rfl rfl hw9 (w := putF "given" (.int ((f.row.getD (f.row.length - 1) 0 : Nat) : Int)) (fldsD r tp { f with row := f.row.dropLast } wv9)) rfl
      refine q _ tp ?_ (fr1.trans (.ofx fr2))
      have e : HD.pop f = { f with row := f.row.dropLast, given := some (f.row.getD (f.row.length - 1) 0) } := by unfold HD.pop; rw [if_pos c, e0, c]
      rw [e]
      exact F2
    · have n0 : f.row.dropLast ≠ [] := fun e => by
        have := List.length_dropLast (xs := f.row)
        rw [e] at this
        have : f.row.length - 1 = 0 := this.symm
        omega
      refine ⟨_, rfl, x, a.c_HeapDeed, dx, _, _, rfl, hx1, T.cl_HeapDeed, T.n_row, rfl, true, .inl ⟨_, L2.sq_of hr1, by cases h : f.row.dropLast with | nil => exact absurd h n0 | cons _ _ => rfl⟩, iteT ?_⟩
      refine ⟨_, rfl, x, dx, _, rfl, hx1, rfl, _, rfl, x, r, tp, _, _, rfl, F1, ⟨by show f.row.dropLast.length ≤ 2501; rw [List.length_dropLast]; have := hp.1; omega, n0, hp.2.2⟩, fun H' tp' F' fr' => q H' tp' ?_ (fr1.trans fr')⟩
      have e : HD.pop f = HD.first { f with row := f.row.dropLast } (f.row.getD (f.row.length - 1) 0) := by unfold HD.pop; rw [if_neg c]
      rw [e]
      exact F'
theorem ok_weigh (T : Txt K mg a d) : FnOk P w K mg base CX0 1 a.HeapDeed__weigh d.HeapDeed__weigh P_HeapDeed__weigh (spH0 a.c_HeapDeed (fun f => f.new ≠ none ∧ f.wt = none) (fun f => HD.weigh f (f.new.getD 0))) := by
  refine T.f_HeapDeed__weigh.ok sc_HeapDeed__weigh (fun vs H Q E h => ?_) (fun cdv A outer s0 H vs Q E hr h => ?_)
  · obtain ⟨x, r, tp, f, rfl, _⟩ := h
    rfl
  · obtain ⟨x, r, tp, f, rfl, hF, hp, q⟩ := h
    refine ⟨_, (pss_one (ps_if (pt_truth (pe_fld (pv 0) rfl) (by intro _; rfl)) (pss_cons (ps_fld (pv 0) (pe_glob (v := .int 1) rfl T.g_WEIGHING ⟨_, rfl⟩) rfl)
      (pss_one (ps_fld (pv 0) (pe_tup (pa_cons (pe_ix ix_list (pe_fld (pv 0) rfl) pe_int (fun _ _ => rfl)) (pa_cons (pe_fld (pv 0) rfl) pa_nil))) rfl))) (pss_one (ps_fld (pv 0) (pe_fld (pv 0) rfl) rfl)))), ?_⟩
    obtain ⟨n, dx, wv, hx, hw, hrw, htp⟩ := id hF
    obtain ⟨k, hk⟩ := Option.ne_none_iff_exists'.mp hp.1
    have q : ∀ H' tp', HAt a.c_HeapDeed H' x r tp' (HD.weigh f k) → Fr3 x r tp tp' H H' → Q .non H' := fun H' tp' h1 h2 => q H' tp' (by show HAt _ _ _ _ _ (HD.weigh f (f.new.getD 0)); rw [hk]; exact h1) h2
    by_cases c : f.row = []
    · refine ⟨_, rfl, x, a.c_HeapDeed, dx, _, _, rfl, hx, T.cl_HeapDeed, T.n_row, rfl, false, .inl ⟨_, L2.sq_of hrw, by rw [c]; rfl⟩, iteF ?_⟩
      refine ⟨_, rfl, x, a.c_HeapDeed, dx, _, _, rfl, hx, T.cl_HeapDeed, T.n_new, rfl, _, rfl, x, a.c_HeapDeed, dx, _, rfl, hx, T.cl_HeapDeed, T.n_given, by show 8 < 1000; decide, ?_⟩
      obtain ⟨F2, hx2, fr2⟩ := hF.set hx { f with given := some k } wv rfl rfl hw (w := putF "given" (oV f.new) (fldsD r tp f wv)) (congrArg (fun z => putF "given" z (fldsD r tp f wv)) (show oV f.new = oV (some k) by rw [hk]))
      refine q _ tp ?_ (.ofx fr2)
      have e : HD.weigh f k = { f with given := some k } := by unfold HD.weigh; rw [if_pos c]
      rw [e]
      exact F2
    · have l0 : 0 < f.row.length := List.length_pos_iff.mpr c
      refine ⟨_, rfl, x, a.c_HeapDeed, dx, _, _, rfl, hx, T.cl_HeapDeed, T.n_row, rfl, true, .inl ⟨_, L2.sq_of hrw, by cases h : f.row with | nil => exact absurd h c | cons _ _ => rfl⟩, iteT ?_⟩
      refine ⟨_, rfl, x, a.c_HeapDeed, dx, _, rfl, hx, T.cl_HeapDeed, T.n_phase, by show 8 < 1000; decide, ?_⟩
      obtain ⟨F_5, hx_5, fr_5⟩ := hF.set hx { f with phase := 1 } wv rfl rfl hw (w := putF "phase" (.int 1) (fldsD r tp f wv)) rfl
      try dsimp only
      generalize upd H x (.ins a.c_HeapDeed dx (putF "phase" (.int 1) (fldsD r tp f wv))) = H_5 at F_5 hx_5 fr_5 ⊢
      have fr_5' : Fr3 x r tp tp _ _ := .ofx fr_5
      have hr1 : H_5 r = some (.lst (nV f.row)) := by
        obtain ⟨_, _, _, _, _, z, _⟩ := id F_5
        exact z
      refine ⟨_, rfl, x, a.c_HeapDeed, dx, _, _, rfl, hx_5, T.cl_HeapDeed, T.n_row, rfl, r, _, 0, _, rfl, rfl, L2.sq_of hr1, nV_get (i := 0) l0, ?_⟩
      refine ⟨_, rfl, x, a.c_HeapDeed, dx, _, _, rfl, hx_5, T.cl_HeapDeed, T.n_new, rfl, by show 2 ≤ sizeLine; decide, fun t ht => ?_⟩
      have ek : oV f.new = .int (k : Int) := by rw [hk]; rfl
      try rw [ek]
      have s1 := same_upd (o := .tup [.int ((f.row.getD 0 0 : Nat) : Int), .int (k : Int)]) ht
      have hT : upd H_5 t (.tup [.int ((f.row.getD 0 0 : Nat) : Int), .int (k : Int)]) t = some (.tup [.int ((f.row.getD 0 0 : Nat) : Int), .int (k : Int)]) := upd_same
      generalize upd H_5 t (.tup [.int ((f.row.getD 0 0 : Nat) : Int), .int (k : Int)]) = H2 at s1 hT ⊢
      have F2 := F_5.same s1
      have hx2 := s1 _ _ hx_5
      refine ⟨_, rfl, x, a.c_HeapDeed, dx, _, rfl, hx2, T.cl_HeapDeed, T.n_waiting, by show 8 < 1000; decide, ?_⟩
      obtain ⟨F3, hx3, fr3⟩ := F2.set hx2 { f with phase := 1, wt := some (f.row.getD 0 0, k) } (.ref t) rfl rfl ⟨t, rfl, hT⟩ (w := putF "waiting" (.ref t) (fldsD r tp { f with phase := 1 } wv)) rfl
      have e : HD.weigh f k = { f with phase := 1, wt := some (f.row.getD 0 0, k) } := by unfold HD.weigh; rw [if_neg c]
      exact q _ tp (by rw [e]; exact F3) ((fr_5'.trans (.of s1)).trans (.ofx fr3))
theorem ok_weight (T : Txt K mg a d) : FnOk P w K mg base CX0 7 a.HeapDeed__take_weight d.HeapDeed__take_weight P_HeapDeed__take_weight (spHtake a.c_HeapDeed (fun f b => HD.weight f b (f.new.getD 0)) (fun f => f.row.length ≤ 2501 ∧ f.row ≠ [] ∧ f.wt = none ∧ f.new ≠ none)) := by
  have G_HeapDeed__replace_first : FnOk P w K mg base CX0 6 a.HeapDeed__replace_first d.HeapDeed__replace_first P_HeapDeed__replace_first (spH1 a.c_HeapDeed (fun f _ => f.row.length ≤ 2501 ∧ f.row ≠ [] ∧ f.wt = none) (HD.first)) := ok_first T
  refine T.f_HeapDeed__take_weight.ok sc_HeapDeed__take_weight (fun vs H Q E h => ?_) (fun cdv A outer s0 H vs Q E hr h => ?_)
  · obtain ⟨x, r, tp, f, b, rfl, _⟩ := h
    rfl
  · obtain ⟨x, r, tp, f, b, rfl, hF, hp, q⟩ := h
    refine ⟨_, (pss_one (ps_if (pt_val (pv 1)) (pss_one (ps_expr (pe_meth (pv 0) T.cl_HeapDeed T.m_HeapDeed__replace_first G_HeapDeed__replace_first (hr.mono (by decide)) T.b_HeapDeed__replace_first .nil pass0 (pa_cons (pe_fld (pv 0) rfl) pa_nil)))) (pss_one (ps_fld (pv 0) (pe_fld (pv 0) rfl) rfl)))), ?_⟩
    obtain ⟨n, dx, wv, hx, hw, hrw, htp⟩ := id hF
    obtain ⟨k, hk⟩ := Option.ne_none_iff_exists'.mp hp.2.2.2
    have ek : oV f.new = .int (k : Int) := by rw [hk]; rfl
    have q : ∀ H' tp', HAt a.c_HeapDeed H' x r tp' (HD.weight f b k) → Fr3 x r tp tp' H H' → Q .non H' := fun H' tp' h1 h2 => q H' tp' (by show HAt _ _ _ _ _ (HD.weight f b (f.new.getD 0)); rw [hk]; exact h1) h2
    cases b with
    | true =>
      refine ⟨_, rfl, true, rfl, iteT ?_⟩
      exact ⟨_, rfl, x, dx, _, rfl, hx, rfl, _, rfl, x, a.c_HeapDeed, dx, _, _, rfl, hx, T.cl_HeapDeed, T.n_new, rfl, x, r, tp, f, k, by rw [ek]; rfl, hF, ⟨hp.1, hp.2.1, hp.2.2.1⟩, q⟩
    | false =>
      refine ⟨_, rfl, false, rfl, iteF ?_⟩
      refine ⟨_, rfl, x, a.c_HeapDeed, dx, _, _, rfl, hx, T.cl_HeapDeed, T.n_new, rfl, _, rfl, x, a.c_HeapDeed, dx, _, rfl, hx, T.cl_HeapDeed, T.n_given, by show 8 < 1000; decide, ?_⟩
      obtain ⟨F2, hx2, fr2⟩ := hF.set hx { f with given := some k } wv rfl rfl hw (w := putF "given" (oV f.new) (fldsD r tp f wv)) (congrArg (fun z => putF "given" z (fldsD r tp f wv)) (show oV f.new = oV (some k) by rw [hk]))
      exact q _ tp F2 (.ofx fr2)
theorem ok_take (T : Txt K mg a d) : FnOk P w K mg base CX0 8 a.HeapDeed_take d.HeapDeed_take P_HeapDeed_take (spHtake a.c_HeapDeed HD.take (fun f => HD.Ok f ∧ f.wt ≠ none)) := by
  have G_HeapDeed__take_weight : FnOk P w K mg base CX0 7 a.HeapDeed__take_weight d.HeapDeed__take_weight P_HeapDeed__take_weight (spHtake a.c_HeapDeed (fun f b => HD.weight f b (f.new.getD 0)) (fun f => f.row.length ≤ 2501 ∧ f.row ≠ [] ∧ f.wt = none ∧ f.new ≠ none)) := ok_weight T
  have G_HeapDeed__change_places : FnOk P w K mg base CX0 1 a.HeapDeed__change_places d.HeapDeed__change_places P_HeapDeed__change_places (spHchg a.c_HeapDeed) := ok_chg T
  have G_HeapDeed__sink : FnOk P w K mg base CX0 4 a.HeapDeed__sink d.HeapDeed__sink P_HeapDeed__sink (spH0 a.c_HeapDeed (HD.SinkOk) HD.sink) := ok_sink T
  have G_HeapDeed__parent : FnOk P w K mg base CX0 1 a.HeapDeed__parent d.HeapDeed__parent P_HeapDeed__parent (spHpar a.c_HeapDeed) := ok_parent T
  have G_HeapDeed__rise : FnOk P w K mg base CX0 6 a.HeapDeed__rise d.HeapDeed__rise P_HeapDeed__rise (spH0 a.c_HeapDeed (fun f => f.row.length ≤ 2501 ∧ f.wt = none ∧ (∀ t ∈ f.tops, 2 * t + 1 < f.row.length) ∧ f.place < f.row.length) HD.rise) := ok_rise T
  have G_HeapDeed__begin_next_sink : FnOk P w K mg base CX0 5 a.HeapDeed__begin_next_sink d.HeapDeed__begin_next_sink P_HeapDeed__begin_next_sink (spH0 a.c_HeapDeed (fun f => f.row.length ≤ 2501 ∧ f.wt = none ∧ HD.TopsOk f) HD.begin) := ok_begin T
  refine T.f_HeapDeed_take.ok sc_HeapDeed_take (fun vs H Q E h => ?_) (fun cdv A outer s0 H vs Q E hr h => ?_)
  · obtain ⟨x, r, tp, f, b, rfl, _⟩ := h
    rfl
  · obtain ⟨x, r, tp, f, b, rfl, hF, ⟨ok, hwn⟩, q⟩ := h
    refine ⟨_, (pss_cons (ps_fld (pv 0) pe_non rfl)
    (pss_one (ps_if (pt_cmpR op_eq (pe_fld (pv 0) rfl) (pe_glob (v := .int 1) rfl T.g_WEIGHING ⟨_, rfl⟩) (nomark _)) (pss_one (ps_expr (pe_meth (pv 0) T.cl_HeapDeed T.m_HeapDeed__take_weight G_HeapDeed__take_weight (hr.mono (by decide)) T.b_HeapDeed__take_weight .nil pass0 (pa_cons (pv 1) pa_nil)))) (pss_one (ps_if (pt_cmpR op_eq (pe_fld (pv 0) rfl) (pe_glob (v := .int 2) rfl T.g_SINKING ⟨_, rfl⟩) (nomark _)) (pss_cons (ps_expr (pe_meth (pv 0) T.cl_HeapDeed T.m_HeapDeed__change_places G_HeapDeed__change_places (hr.mono (by decide)) T.b_HeapDeed__change_places .nil pass0 (pa_cons (pe_ifExp (pt_val (pv 1)) (pe_op op_add (pe_op op_mul pe_int (pe_fld (pv 0) rfl)) pe_int) (pe_op op_add (pe_op op_mul pe_int (pe_fld (pv 0) rfl)) pe_int)) pa_nil)))
        (pss_one (ps_expr (pe_meth0 (pv 0) T.cl_HeapDeed T.m_HeapDeed__sink G_HeapDeed__sink (hr.mono (by decide)) T.b_HeapDeed__sink .nil pass0)))) (pss_one (ps_if (pt_val (pv 1)) (pss_cons (ps_expr (pe_meth (pv 0) T.cl_HeapDeed T.m_HeapDeed__change_places G_HeapDeed__change_places (hr.mono (by decide)) T.b_HeapDeed__change_places .nil pass0 (pa_cons (pe_meth0 (pv 0) T.cl_HeapDeed T.m_HeapDeed__parent G_HeapDeed__parent (hr.mono (by decide)) T.b_HeapDeed__parent .nil pass0) pa_nil)))
          (pss_one (ps_expr (pe_meth0 (pv 0) T.cl_HeapDeed T.m_HeapDeed__rise G_HeapDeed__rise (hr.mono (by decide)) T.b_HeapDeed__rise .nil pass0)))) (pss_one (ps_expr (pe_meth0 (pv 0) T.cl_HeapDeed T.m_HeapDeed__begin_next_sink G_HeapDeed__begin_next_sink (hr.mono (by decide)) T.b_HeapDeed__begin_next_sink .nil pass0)))))))))), ?_⟩
    obtain ⟨n, dx, wv, hx, hw, hrw, htp⟩ := id hF
    refine ⟨_, rfl, x, a.c_HeapDeed, dx, _, rfl, hx, T.cl_HeapDeed, T.n_waiting, by show 8 < 1000; decide, ?_⟩
    obtain ⟨F_6, hx_6, fr_6⟩ := hF.set hx { f with wt := none } .non rfl rfl rfl (w := putF "waiting" .non (fldsD r tp f wv)) rfl
    try dsimp only
    generalize upd H x (.ins a.c_HeapDeed dx (putF "waiting" .non (fldsD r tp f wv))) = H_6 at F_6 hx_6 fr_6 ⊢
    have fr_6' : Fr3 x r tp tp _ _ := .ofx fr_6
    refine ⟨_, rfl, x, a.c_HeapDeed, dx, _, _, rfl, hx_6, T.cl_HeapDeed, T.n_phase, rfl, rfl, decide (f.phase = 1), congrArg V.bl (by simp; omega), ?_⟩
    rcases ok.wt hwn with ⟨z, nr, nn⟩ | ⟨z, z1, z2⟩ | ⟨z, z1, z2⟩
    · rw [decide_eq_true z]
      refine iteT ?_
      refine ⟨_, rfl, x, dx, _, rfl, hx_6, rfl, _, rfl, x, r, tp, _, b, rfl, F_6, ⟨ok.len, nr, rfl, nn⟩, fun H' tp' F' fr' => q H' tp' ?_ (fr_6'.trans fr')⟩
      have e : f.take b = HD.weight { f with wt := none } b (f.new.getD 0) := by unfold HD.take; dsimp only; rw [if_pos z]
      rw [e]
      exact F'
    · rw [decide_eq_false (show ¬ f.phase = 1 by omega)]
      refine iteF ?_
      refine ⟨_, rfl, x, a.c_HeapDeed, dx, _, _, rfl, hx_6, T.cl_HeapDeed, T.n_phase, rfl, rfl, decide (f.phase = 2), congrArg V.bl (by simp; omega), ?_⟩
      rw [decide_eq_true z]
      refine iteT ?_
      have so := HD.sinkOk_take ok z hwn b
      have e : f.take b = HD.sink (HD.chg { f with wt := none } (if b then 2 * f.place + 1 else 2 * f.place + 2)) := by unfold HD.take; dsimp only; rw [if_neg (by omega), if_pos z]
      cases b with
      | true =>
        refine ⟨_, rfl, x, dx, _, rfl, hx_6, rfl, _, rfl, true, rfl, iteT ?_⟩
        refine ⟨_, rfl, x, a.c_HeapDeed, dx, _, _, rfl, hx_6, T.cl_HeapDeed, T.n_place, rfl, _, _, rfl, rfl, .inl ⟨by decide, by decide⟩, _, _, rfl, rfl, x, r, tp, { f with wt := none }, 2 * f.place + 1, congrArg (fun z : Int => [V.ref x, V.int z]) (show 2 * (f.place : Int) + 1 = ((2 * f.place + 1 : Nat) : Int) by omega), F_6, (by show f.place < f.row.length; omega), (by show 2 * f.place + 1 < f.row.length; omega), fun H4 F4 fr4 => ?_⟩
        obtain ⟨_, dx4, wv4, hx4, _, _, _⟩ := id F4
        exact ⟨_, rfl, x, dx4, _, rfl, hx4, rfl, x, r, tp, _, rfl, F4, so, fun H' tp' F' fr' => q H' tp' (by rw [e]; exact F') ((fr_6'.trans fr4).trans fr')⟩
      | false =>
        refine ⟨_, rfl, x, dx, _, rfl, hx_6, rfl, _, rfl, false, rfl, iteF ?_⟩
        refine ⟨_, rfl, x, a.c_HeapDeed, dx, _, _, rfl, hx_6, T.cl_HeapDeed, T.n_place, rfl, _, _, rfl, rfl, .inl ⟨by decide, by decide⟩, _, _, rfl, rfl, x, r, tp, { f with wt := none }, 2 * f.place + 2, congrArg (fun z : Int => [V.ref x, V.int z]) (show 2 * (f.place : Int) + 2 = ((2 * f.place + 2 : Nat) : Int) by omega), F_6, (by show f.place < f.row.length; omega), z2, fun H4 F4 fr4 => ?_⟩
        obtain ⟨_, dx4, wv4, hx4, _, _, _⟩ := id F4
        exact ⟨_, rfl, x, dx4, _, rfl, hx4, rfl, x, r, tp, _, rfl, F4, so, fun H' tp' F' fr' => q H' tp' (by rw [e]; exact F') ((fr_6'.trans fr4).trans fr')⟩
    · rw [decide_eq_false (show ¬ f.phase = 1 by omega)]
      refine iteF ?_
      refine ⟨_, rfl, x, a.c_HeapDeed, dx, _, _, rfl, hx_6, T.cl_HeapDeed, T.n_phase, rfl, rfl, decide (f.phase = 2), congrArg V.bl (by simp; omega), ?_⟩
      rw [decide_eq_false (show ¬ f.phase = 2 by omega)]
      refine iteF ?_
      have e : f.take b = if b then HD.rise (HD.chg { f with wt := none } (HD.par f.place)) else HD.begin { f with wt := none } := by unfold HD.take; dsimp only; rw [if_neg (by omega), if_neg (by omega)]
      cases b with
      | true =>
        refine ⟨_, rfl, true, rfl, iteT ?_⟩
        refine ⟨_, rfl, x, dx, _, rfl, hx_6, rfl, _, rfl, x, dx, _, rfl, hx_6, rfl, x, r, tp, _, rfl, F_6, (by show 1 ≤ f.place; omega), x, r, tp, _, _, rfl, F_6, z2, (by show (f.place - 1) / 2 < f.row.length; omega), fun H4 F4 fr4 => ?_⟩
        obtain ⟨_, dx4, wv4, hx4, _, _, _⟩ := id F4
        refine ⟨_, rfl, x, dx4, _, rfl, hx4, rfl, x, r, tp, _, rfl, F4, ⟨by rw [HD.chg_len]; exact ok.len, rfl, by rw [HD.chg_len]; exact ok.tops, by rw [HD.chg_len]; show (f.place - 1) / 2 < f.row.length; omega⟩, fun H' tp' F' fr' => q H' tp' (by rw [e]; exact F') ((fr_6'.trans fr4).trans fr')⟩
      | false =>
        refine ⟨_, rfl, false, rfl, iteF ?_⟩
        exact ⟨_, rfl, x, dx, _, rfl, hx_6, rfl, x, r, tp, _, rfl, F_6, ⟨ok.len, rfl, .inl ok.tops⟩, fun H' tp' F' fr' => q H' tp' (by rw [e]; exact F') (fr_6'.trans fr')⟩
end

end K88

namespace K88
open PySem PySem.Spec PyProof.Rows L2

theorem cut_last (xs : List V) : cutV xs none (some (-1)) = xs.take (xs.length - 1) := by
  show (xs.drop 0).take ((if (-1 : Int) < 0 then ((-1 : Int) + (xs.length : Int)).toNat else min (-1 : Int).toNat xs.length) - 0) = xs.take (xs.length - 1)
  rw [if_pos (by decide), List.drop_zero, show ((-1 : Int) + (xs.length : Int)).toNat - 0 = xs.length - 1 by omega]
def spFirst : Sp := fun vs H Q _ => ∃ (r lg aa qa : Addr) (as : List Bool) (s : HD.LS) (item : Nat), vs = [.ref r, .int (item : Int), .ref lg] ∧ LAt H r lg aa qa as s ∧ s.asked.length ≤ as.length ∧ as.length ≤ 50000 ∧ s.row ≠ [] ∧ s.row.length ≤ 2501 ∧
  ∀ t H', LAt H' r lg aa qa as (HD.lfirst as item s).2.2 → Fr2 r qa H H' → H' t = some (.tup [oV (HD.lfirst as item s).1, .bl (HD.lfirst as item s).2.1]) → Q (.ref t) H'
def spGo : Sp := fun vs H Q _ => ∃ (r lg aa qa : Addr) (as : List Bool) (s : HD.LS) (wd : Nat), vs = [.str (dW wd), .ref r, .ref lg] ∧ wd ≤ 4 ∧ LAt H r lg aa qa as s ∧ s.asked.length ≤ as.length ∧ as.length ≤ 50000 ∧ (wd = 2 ∨ wd = 3 → s.row ≠ []) ∧ s.row.length ≤ 2500 ∧
  ∀ t H', LAt H' r lg aa qa as (HD.lgo as wd s.row.length s).2.2 → Fr2 r qa H H' → H' t = some (.tup [oV (HD.lgo as wd s.row.length s).1, .bl (HD.lgo as wd s.row.length s).2.1]) → Q (.ref t) H'
section
variable {P : Program} {w : World} {K : PySem.W.Frag} {mg : Str → Option Value} {base : Heap} {a : Ad} {d : Fd}
theorem ok_lfirst (T : Txt K mg a d) : FnOk P w K mg base CX0 4 a.first d.first P_first spFirst := by
  have G_down : FnOk P w K mg base CX0 3 a.down d.down P_down spDown := ok_ldown T
  refine T.f_first.ok sc_first (fun vs H Q E h => ?_) (fun cdv A outer s0 H vs Q E hr h => ?_)
  · obtain ⟨r, lg, aa, qa, as, s, item, rfl, _⟩ := h
    rfl
  · obtain ⟨r, lg, aa, qa, as, s, item, rfl, hL, la, ha, n0, hl, q⟩ := h
    refine ⟨_, (pss_cons (ps_asg (pe_tup (pa_cons (pe_ix ix_list (pv 0) pe_int (fun _ _ => rfl)) (pa_cons (pv 1) pa_nil))) (pg_tup rfl (pgs_cons (pg_name (i := 3) sc_first.nd rfl (Or.inl rfl)) (pgs_cons (pg_sub (pv 0) pe_int set_list) pgs_nil))))
    (pss_one (ps_ret (pe_tup (pa_cons (pv 3) (pa_cons (pe_call G_down (hr.mono (by decide)) (by rfl) T.g_down T.k_down T.b_down .nil pass0 (pa_cons (pv 0) (pa_cons pe_int (pa_cons (pv 2) pa_nil)))) pa_nil)))))), ?_⟩
    obtain ⟨h1, _⟩ := id hL
    have l0 : 0 < s.row.length := List.length_pos_iff.mpr n0
    refine ⟨_, rfl, r, _, 0, _, rfl, rfl, L2.sq_of h1, nV_get (i := 0) l0, _, rfl, by show 2 ≤ sizeLine; decide, fun t1 ht1 => ?_⟩
    have s1 := same_upd (o := .tup [.int ((s.row.getD 0 0 : Nat) : Int), .int (item : Int)]) ht1
    have hT : upd H t1 (.tup [.int ((s.row.getD 0 0 : Nat) : Int), .int (item : Int)]) t1 = some (.tup [.int ((s.row.getD 0 0 : Nat) : Int), .int (item : Int)]) := upd_same
    generalize upd H t1 (.tup [.int ((s.row.getD 0 0 : Nat) : Int), .int (item : Int)]) = H1 at s1 hT ⊢
    have L1 := hL.same s1
    have k1 := s1 _ _ h1
    refine ⟨t1, _, rfl, L2.st_of hT, rfl, _, _, rfl, _, _, rfl, _, rfl, r, _, 0, 0, rfl, rfl, k1, ix_ok (i := 0) l0, ?_⟩
    rw [nV_put]
    have L2' := L1.putRow (row := s.row.set 0 item) rfl
    have fr2 : Fr2 r qa H (upd H1 r (.lst (nV (s.row.set 0 item)))) := (Fr2.of s1).trans Fr2.putx
    generalize upd H1 r (.lst (nV (s.row.set 0 item))) = H2 at L2' fr2 ⊢
    refine ⟨rfl, _, rfl, _, rfl, _, rfl, r, lg, aa, qa, as, { s with row := s.row.set 0 item }, 0, rfl, L2', la, ha, by show 0 < (s.row.set 0 item).length; rw [List.length_set]; exact l0, by show (s.row.set 0 item).length ≤ 2501; rw [List.length_set]; exact hl, fun H3 L3 _ fr3 => ?_⟩
    refine ⟨by show 2 ≤ sizeLine; decide, fun t ht => ?_⟩
    exact q t _ (L3.same (same_upd ht)) ((fr2.trans fr3).trans (.of (same_upd ht))) upd_same
theorem lheap_asked (as : List Bool) : ∀ (k : Nat) (s : HD.LS), s.asked.length ≤ as.length → (HD.lheap as k s).1 = true → (HD.lheap as k s).2.asked.length ≤ as.length
  | 0, s, h, _ => h
  | k + 1, s, h, e => by
    have D := ldown_asked as k s h
    unfold HD.lheap at e ⊢
    generalize HD.ldown as k s = r at D e ⊢
    obtain ⟨b, s'⟩ := r
    cases b with
    | false => cases e
    | true => exact lheap_asked as k s' (D rfl) e
theorem lheap_succ (as : List Bool) (k : Nat) (s : HD.LS) : HD.lheap as (k + 1) s = (match HD.ldown as k s with
    | (false, s') => (false, s')
    | (true, s') => HD.lheap as k s') := rfl
theorem pop_last {l : List Nat} (h : l ≠ []) : (nV l)[(nV l).length - 1]? = some (.int ((l.getD (l.length - 1) 0 : Nat) : Int)) := pop_at h
theorem ok_lgo (T : Txt K mg a d) : FnOk P w K mg base CX0 5 a.go d.go P_go spGo := by
  have G_ask : FnOk P w K mg base CX0 1 a.ask d.ask P_ask spAskL := ok_lask T
  have G_up : FnOk P w K mg base CX0 2 a.up d.up P_up spUp := ok_lup T
  have G_down : FnOk P w K mg base CX0 3 a.down d.down P_down spDown := ok_ldown T
  have G_first : FnOk P w K mg base CX0 4 a.first d.first P_first spFirst := ok_lfirst T
  refine T.f_go.ok sc_go (fun vs H Q E h => ?_) (fun cdv A outer s0 H vs Q E hr h => ?_)
  · obtain ⟨r, lg, aa, qa, as, s, wd, rfl, _⟩ := h
    rfl
  · obtain ⟨r, lg, aa, qa, as, s, wd, rfl, hw, hL, la, ha, n0, hl, q⟩ := h
    refine ⟨_, (pss_cons (ps_set (i := 3) sc_go.nd rfl (Or.inl rfl) (pe_callB call_len_seq (by rfl) T.z_len PySem.boot_len (pa_cons (pv 1) pa_nil)))
    (pss_cons (ps_if (pt_cmpR op_eq (pv 0) pe_str (nomark _)) (pss_cons (ps_for PassesOwn.never rfl (pi_range3 (by rfl) T.z_range (pa_cons (pe_op op_sub (pv 3) pe_int) (pa_cons (pe_un un_neg pe_int) (pa_cons (pe_un un_neg pe_int) pa_nil)))) (pg_name (i := 4) sc_go.nd rfl (Or.inl rfl))
        (pss_one (ps_if (PW.pt (pw_and (pt_cmpR op_lt (pe_op op_add (pe_op op_mul pe_int (pv 4)) pe_int) (pv 3) (nomark _)) (pw_and1 (pt_not (pt_val (pe_call G_down (hr.mono (by decide)) (by rfl) T.g_down T.k_down T.b_down .nil pass0 (pa_cons (pv 1) (pa_cons (pv 4) (pa_cons (pv 2) pa_nil))))))))) (pss_one (ps_ret (pe_tup (pa_cons pe_non (pa_cons pe_bl pa_nil))))) pss_nil)))
      (pss_one (ps_ret (pe_tup (pa_cons pe_non (pa_cons pe_bl pa_nil)))))) pss_nil)
    (pss_cons (ps_if (pt_cmpR op_eq (pv 0) pe_str (nomark _)) (pss_cons (ps_expr (pe_bm PySem.F.plainAttrs_list PySem.F.slot_list_append PySem.F.type_list_append mt_append (pv 1) (pa_cons (pv 3) pa_nil)))
      (pss_one (ps_ret (pe_tup (pa_cons pe_non (pa_cons (pe_call G_up (hr.mono (by decide)) (by rfl) T.g_up T.k_up T.b_up .nil pass0 (pa_cons (pv 1) (pa_cons pe_int (pa_cons (pv 3) (pa_cons (pv 2) pa_nil))))) pa_nil)))))) pss_nil)
    (pss_cons (ps_if (pt_cmpR op_eq (pv 0) pe_str (nomark _)) (pss_cons (ps_set (i := 5) sc_go.nd rfl (Or.inl rfl) (pe_bm0 PySem.F.plainAttrs_list PySem.F.slot_list_pop PySem.F.type_list_pop mt_pop (pv 1)))
      (pss_one (ps_ret (pe_ifExp (pt_cmpR (op_eqD hr.units) (pv 1) (pe_lst pa_nil) (nomark _)) (pe_tup (pa_cons (pv 5) (pa_cons pe_bl pa_nil))) (pe_call G_first (hr.mono (by decide)) (by rfl) T.g_first T.k_first T.b_first .nil pass0 (pa_cons (pv 1) (pa_cons (pv 5) (pa_cons (pv 2) pa_nil)))))))) pss_nil)
    (pss_cons (ps_if (pt_cmpR op_eq (pv 0) pe_str (nomark _)) (pss_cons (ps_set (i := 6) sc_go.nd rfl (Or.inl rfl) (pe_ifExp (pt_cmpR (op_neD hr.units) (pv 1) (pe_lst pa_nil) (nomark _)) (pe_call G_ask (hr.mono (by decide)) (by rfl) T.g_ask T.k_ask T.b_ask .nil pass0 (pa_cons (pv 2) (pa_cons (pe_ix ix_list (pv 1) pe_int (fun _ _ => rfl)) (pa_cons (pv 3) pa_nil)))) pe_bl))
      (pss_one (ps_if (pt_not (pt_truth (pv 6) (by intro _; rfl))) (pss_one (ps_ret (pe_ifExp (pt_cmpR op_isN (pv 6) pe_non (nomark _)) (pe_tup (pa_cons pe_non (pa_cons pe_bl pa_nil))) (pe_tup (pa_cons (pv 3) (pa_cons pe_bl pa_nil)))))) pss_nil))) pss_nil)
    (pss_one (ps_ret (pe_call G_first (hr.mono (by decide)) (by rfl) T.g_first T.k_first T.b_first .nil pass0 (pa_cons (pv 1) (pa_cons (pv 3) (pa_cons (pv 2) pa_nil))))))))))), ?_⟩
    obtain ⟨h1, _⟩ := id hL
    have ln : (nV s.row).length = s.row.length := List.length_map _
    refine ⟨_, rfl, r, _, rfl, .inl (L2.sq_of h1), ?_⟩
    dsimp only
    rw [ln]
    rcases wd_cases hw with rfl | rfl | rfl | rfl | rfl
    · refine ⟨_, rfl, rfl, true, congrArg V.bl (by decide +kernel), iteT ?_⟩
      have hok := lheap_asked as (s.row.length / 2) s la
      have hlen := HD.lheap_len as (s.row.length / 2) s
      have q : ∀ t H', LAt H' r lg aa qa as (HD.lheap as (s.row.length / 2) s).2 → Fr2 r qa H H' → H' t = some (.tup [.non, .bl (HD.lheap as (s.row.length / 2) s).1]) → Q (.ref t) H' := q
      refine ⟨_, rfl, _, _, rfl, rfl, _, rfl, _, rfl, (s.row.length : Int) - 1, -1, -1, s.row.length, rfl, ?rg, for_rangeC (lo := (s.row.length : Int) - 1) (c := -1) (n := s.row.length) (fun i σ H' => ∃ (s' : HD.LS) (u4 u5 u6 : Option V), σ = [some (.str (dW 0)), some (.ref r), some (.ref lg), some (.int (s.row.length : Int)), u4, u5, u6] ∧ LAt H' r lg aa qa as s' ∧ s'.asked.length ≤ as.length ∧ s'.row.length = s.row.length ∧ Fr2 r qa H H' ∧ HD.lheap as (s.row.length / 2) s = HD.lheap as (min (s.row.length - i) (s.row.length / 2)) s') ⟨s, none, none, none, rfl, hL, la, rfl, Fr2.refl _ _ _, by rw [Nat.min_eq_right (by omega)]⟩ ?_ ?_⟩
      case rg =>
        refine ⟨by decide, by decide, ?_, ?_⟩
        · exact PySem.W.small_down (by omega) (by omega) (by decide) (by decide)
        · rw [PySem.W.rangeSize_downNat]
          omega
      · rintro i σ H1 hi ⟨s', u4, u5, u6, rfl, L1, la', hl', fr1, e⟩
        obtain ⟨at_, hat⟩ : ∃ k : Nat, (s.row.length : Int) - 1 + (i : Int) * -1 = (k : Int) ∧ k + i + 1 = s.row.length := ⟨s.row.length - 1 - i, by omega, by omega⟩
        obtain ⟨hat, hai⟩ := hat
        rw [hat]
        refine ⟨_, rfl, _, _, rfl, rfl, .inl ⟨by decide, by decide⟩, _, _, rfl, rfl, _, rfl, _, _, rfl, rfl, decide (2 * at_ + 1 < s.row.length), congrArg V.bl (by rw [show 2 * (at_ : Int) + 1 = ((2 * at_ + 1 : Nat) : Int) by omega]; simp only [Int.ofNat_lt]), ?_⟩
        by_cases c : 2 * at_ + 1 < s.row.length
        · rw [decide_eq_true c]
          refine iteT ?_
          have em : min (s.row.length - i) (s.row.length / 2) = at_ + 1 := by omega
          have em2 : min (s.row.length - (i + 1)) (s.row.length / 2) = at_ := by omega
          rw [em] at e
          refine ⟨_, rfl, _, rfl, _, rfl, r, lg, aa, qa, as, s', at_, rfl, L1, la', ha, by omega, by omega, fun H2 L2' ok2 fr2 => ?_⟩
          have fr2 := fr1.trans fr2
          have N := HD.ldown_len as at_ s'
          rw [lheap_succ as at_ s'] at e
          generalize HD.ldown as at_ s' = rr at e L2' ok2 N
          obtain ⟨b, s2⟩ := rr
          cases b with
          | false =>
            refine ⟨false, rfl, iteT ?_⟩
            refine ⟨by show 2 ≤ sizeLine; decide, fun t ht => ?_⟩
            have e : HD.lheap as (s.row.length / 2) s = (false, s2) := e
            rw [e] at q
            exact q t _ (L2'.same (same_upd ht)) (fr2.trans (.of (same_upd ht))) upd_same
          | true =>
            refine ⟨true, rfl, iteF ?_⟩
            refine ⟨s2, _, _, _, rfl, L2', ok2 rfl, by rw [← hl']; exact N, fr2, ?_⟩
            rw [em2]
            exact e
        · rw [decide_eq_false c]
          refine iteF (iteF ?_)
          refine ⟨s', _, _, _, rfl, L1, la', hl', fr1, ?_⟩
          have em : min (s.row.length - i) (s.row.length / 2) = min (s.row.length - (i + 1)) (s.row.length / 2) := by omega
          rw [← em]
          exact e
      · rintro σ H1 ⟨s', u4, u5, u6, rfl, L1, la', hl', fr1, e⟩
        rw [Nat.sub_self, Nat.zero_min] at e
        have e : HD.lheap as (s.row.length / 2) s = (true, s') := e
        rw [e] at q
        exact ⟨by show 2 ≤ sizeLine; decide, fun t ht => q t _ (L1.same (same_upd ht)) (fr1.trans (.of (same_upd ht))) upd_same⟩
    · refine ⟨_, rfl, rfl, false, congrArg V.bl (by decide +kernel), iteF ?_⟩
      refine ⟨_, rfl, rfl, true, congrArg V.bl (by decide +kernel), iteT ?_⟩
      refine ⟨_, rfl, .inl ⟨rfl, _, L2.sq_of h1⟩, _, rfl, r, _, _, rfl, rfl, h1, Nat.lt_of_le_of_lt (by rw [ln]; exact hl : _ ≤ 2500) (by decide), ?_⟩
      have L1 := hL.putRow (row := s.row ++ [s.row.length]) (w := nV s.row ++ [.int (s.row.length : Int)]) (by simp [nV])
      have fr1 : Fr2 r qa H (upd H r (.lst (nV s.row ++ [.int (s.row.length : Int)]))) := Fr2.putx
      generalize upd H r (.lst (nV s.row ++ [.int (s.row.length : Int)])) = H1 at L1 fr1 ⊢
      have la1 : (s.row ++ [s.row.length]).length = s.row.length + 1 := by rw [List.length_append]; rfl
      refine ⟨_, rfl, _, rfl, _, rfl, r, lg, aa, qa, as, { s with row := s.row ++ [s.row.length] }, 0, s.row.length, rfl, L1, la, ha, by show s.row.length < (s.row ++ [s.row.length]).length; rw [la1]; exact Nat.lt_succ_self _, by show (s.row ++ [s.row.length]).length ≤ 2501; rw [la1]; omega, fun H2 L2' _ fr2 => ?_⟩
      have el : ({ s with row := s.row ++ [s.row.length] } : HD.LS).row.length = s.row.length + 1 := la1
      rw [el] at L2' ⊢
      exact ⟨by show 2 ≤ sizeLine; decide, fun t ht => q t _ (L2'.same (same_upd ht)) ((fr1.trans fr2).trans (.of (same_upd ht))) upd_same⟩
    · refine ⟨_, rfl, rfl, false, congrArg V.bl (by decide +kernel), iteF ?_⟩
      refine ⟨_, rfl, rfl, false, congrArg V.bl (by decide +kernel), iteF ?_⟩
      refine ⟨_, rfl, rfl, true, congrArg V.bl (by decide +kernel), iteT ?_⟩
      have ne := n0 (.inl rfl)
      have l0 : 0 < s.row.length := List.length_pos_iff.mpr ne
      refine ⟨_, rfl, .inl ⟨rfl, _, L2.sq_of h1⟩, r, _, _, rfl, rfl, h1, pop_last ne, ?_⟩
      have L1 := hL.putRow (row := s.row.dropLast) (nV_last _)
      have fr1 : Fr2 r qa H (upd H r (.lst (nV s.row).dropLast)) := Fr2.putx
      have k1 : upd H r (.lst (nV s.row).dropLast) r = some (.lst (nV s.row.dropLast)) := by rw [nV_last]; exact upd_same
      generalize upd H r (.lst (nV s.row).dropLast) = H1 at L1 fr1 k1 ⊢
      refine ⟨_, rfl, Nat.zero_le _, fun ze hze => ?_⟩
      have s2 := same_upd (o := .lst []) hze
      have z2 : upd H1 ze (.lst []) ze = some (.lst []) := upd_same
      generalize upd H1 ze (.lst []) = H2 at s2 z2 ⊢
      have L2' := L1.same s2
      have k2 := s2 _ _ k1
      have fr2 : Fr2 r qa H H2 := fr1.trans (.of s2)
      have eg : HD.lgo as 2 s.row.length s = (if s.row.length = 1 then (some (s.row.getD 0 0), true, { s with row := [] }) else HD.lfirst as (s.row.getD (s.row.length - 1) 0) { s with row := s.row.dropLast }) := rfl
      by_cases c : s.row.length = 1
      · rw [if_pos c] at eg
        have e0 : s.row.dropLast = [] := List.eq_nil_of_length_eq_zero (by rw [List.length_dropLast]; omega)
        rw [e0] at k2 L2'
        refine ⟨.list [], .list [], .lst (L2.sq_of k2) .nil, .lst (L2.sq_of z2) .nil, by decide, by decide, true, rfl, iteT ⟨_, rfl, by show 2 ≤ sizeLine; decide, fun t ht => ?_⟩⟩
        rw [eg] at q
        have ec : s.row.getD (s.row.length - 1) 0 = s.row.getD 0 0 := by rw [c]
        rw [ec]
        exact q t _ (L2'.same (same_upd ht)) (fr2.trans (.of (same_upd ht))) upd_same
      · rw [if_neg c] at eg
        have nd : s.row.dropLast ≠ [] := fun e => by
          have := List.length_dropLast (xs := s.row)
          rw [e] at this
          have : s.row.length - 1 = 0 := this.symm
          omega
        refine ⟨_, .list [], dp_ints (by rw [← nV_map]; exact L2.sq_of k2), .lst (L2.sq_of z2) .nil, shaped_ints _, by decide, false, ?_, iteF ?_⟩
        · cases h : s.row.dropLast with
          | nil => exact absurd h nd
          | cons _ _ => rfl
        rw [eg] at q
        exact ⟨_, rfl, _, rfl, _, rfl, r, lg, aa, qa, as, { s with row := s.row.dropLast }, _, rfl, L2', la, ha, nd, by show s.row.dropLast.length ≤ 2501; rw [List.length_dropLast]; omega, fun t H3 L3 fr3 ht => q t H3 L3 (fr2.trans fr3) ht⟩
    · refine ⟨_, rfl, rfl, false, congrArg V.bl (by decide +kernel), iteF ?_⟩
      refine ⟨_, rfl, rfl, false, congrArg V.bl (by decide +kernel), iteF ?_⟩
      refine ⟨_, rfl, rfl, false, congrArg V.bl (by decide +kernel), iteF ?_⟩
      refine ⟨_, rfl, rfl, false, congrArg V.bl (by decide +kernel), iteF ?_⟩
      exact ⟨_, rfl, _, rfl, _, rfl, r, lg, aa, qa, as, s, _, rfl, hL, la, ha, n0 (.inr rfl), by omega, fun t H3 L3 fr3 ht => q t H3 L3 fr3 ht⟩
    · refine ⟨_, rfl, rfl, false, congrArg V.bl (by decide +kernel), iteF ?_⟩
      refine ⟨_, rfl, rfl, false, congrArg V.bl (by decide +kernel), iteF ?_⟩
      refine ⟨_, rfl, rfl, false, congrArg V.bl (by decide +kernel), iteF ?_⟩
      refine ⟨_, rfl, rfl, true, congrArg V.bl (by decide +kernel), iteT ?_⟩
      refine ⟨_, rfl, Nat.zero_le _, fun ze hze => ?_⟩
      have s2 := same_upd (o := .lst []) hze
      have z2 : upd H ze (.lst []) ze = some (.lst []) := upd_same
      generalize upd H ze (.lst []) = H2 at s2 z2 ⊢
      have L2' := hL.same s2
      have k2 := s2 _ _ h1
      have fr2 : Fr2 r qa H H2 := .of s2
      have eg : HD.lgo as 4 s.row.length s = (if s.row = [] then (some s.row.length, true, s) else
          match as[s.asked.length]? with
          | none => (none, false, s.ask (s.row.getD 0 0, s.row.length))
          | some false => (some s.row.length, true, s.ask (s.row.getD 0 0, s.row.length))
          | some true => HD.lfirst as s.row.length (s.ask (s.row.getD 0 0, s.row.length))) := rfl
      by_cases c : s.row = []
      · rw [if_pos c] at eg
        rw [c] at k2
        refine ⟨.list [], .list [], .lst (L2.sq_of k2) .nil, .lst (L2.sq_of z2) .nil, by decide, by decide, false, rfl, iteF ⟨_, rfl, false, rfl, iteT ?_⟩⟩
        refine ⟨_, rfl, rfl, false, rfl, iteF ⟨_, rfl, by show 2 ≤ sizeLine; decide, fun t ht => ?_⟩⟩
        rw [eg] at q
        exact q t _ (L2'.same (same_upd ht)) (fr2.trans (.of (same_upd ht))) upd_same
      · rw [if_neg c] at eg
        have l0 : 0 < s.row.length := List.length_pos_iff.mpr c
        refine ⟨_, .list [], dp_ints (by rw [← nV_map]; exact L2.sq_of k2), .lst (L2.sq_of z2) .nil, shaped_ints _, by decide, true, ?_, iteT ?_⟩
        · cases h : s.row with
          | nil => exact absurd h c
          | cons _ _ => rfl
        refine ⟨_, rfl, _, rfl, r, _, 0, _, rfl, rfl, L2.sq_of k2, nV_get (i := 0) l0, _, rfl, r, lg, aa, qa, as, s, _, _, rfl, L2', la, ha, fun H3 L3 fr3 => ?_⟩
        have fr3 := fr2.trans fr3
        cases k : as[s.asked.length]? with
        | none =>
          rw [k] at eg
          refine ⟨_, rfl, false, rfl, iteT ⟨_, rfl, rfl, true, rfl, iteT ⟨by show 2 ≤ sizeLine; decide, fun t ht => ?_⟩⟩⟩
          rw [eg] at q
          exact q t _ (L3.same (same_upd ht)) (fr3.trans (.of (same_upd ht))) upd_same
        | some b =>
          have lt : s.asked.length < as.length := (List.getElem?_eq_some_iff.mp k).1
          rw [k] at eg
          cases b with
          | false =>
            refine ⟨_, rfl, false, rfl, iteT ⟨_, rfl, rfl, false, rfl, iteF ⟨_, rfl, by show 2 ≤ sizeLine; decide, fun t ht => ?_⟩⟩⟩
            rw [eg] at q
            exact q t _ (L3.same (same_upd ht)) (fr3.trans (.of (same_upd ht))) upd_same
          | true =>
            refine ⟨_, rfl, true, rfl, iteF ?_⟩
            rw [eg] at q
            exact ⟨_, rfl, _, rfl, _, rfl, r, lg, aa, qa, as, s.ask (s.row.getD 0 0, s.row.length), _, rfl, L3, by show (s.asked ++ [_]).length ≤ as.length; rw [List.length_append]; exact lt, ha, c, (by show s.row.length ≤ 2501; omega), fun t H4 L4 fr4 ht => q t H4 L4 (fr3.trans fr4) ht⟩
end

end K88

namespace K88
open PySem PySem.Spec PyProof.Rows L2
/-! what waits was asked -/
theorem lup_wait (as : List Bool) : ∀ (n low p : Nat) (s : HD.LS), (HD.lup as n low p s).1 = false → (HD.lup as n low p s).2.asked ≠ []
  | 0, _, _, s, e => by cases e
  | n + 1, low, p, s, e => by
    unfold HD.lup at e ⊢
    split at e
    · cases e
    · rename_i c
      rw [if_neg c]
      cases k : as[s.asked.length]? with
      | none => exact List.append_ne_nil_of_right_ne_nil _ (List.cons_ne_nil _ _)
      | some b =>
        rw [k] at e
        cases b with
        | false => cases e
        | true => exact lup_wait as n _ _ _ e
theorem ldn_wait (as : List Bool) : ∀ (n p : Nat) (s : HD.LS), (HD.ldn as n p s).1 = none → (HD.ldn as n p s).2.asked ≠ []
  | 0, _, s, e => by cases e
  | n + 1, p, s, e => by
    unfold HD.ldn at e ⊢
    split at e
    · rename_i c
      rw [if_pos c]
      cases k : as[s.asked.length]? with
      | none => exact List.append_ne_nil_of_right_ne_nil _ (List.cons_ne_nil _ _)
      | some b => rw [k] at e; exact ldn_wait as n _ _ e
    · rename_i c
      rw [if_neg c]
      split at e
      · rename_i c2; rw [if_pos c2]; exact ldn_wait as n _ _ e
      · cases e
theorem ldown_wait (as : List Bool) (low : Nat) (s : HD.LS) (e : (HD.ldown as low s).1 = false) : (HD.ldown as low s).2.asked ≠ [] := by
  have D := ldn_wait as s.row.length low s
  unfold HD.ldown at e ⊢
  generalize HD.ldn as s.row.length low s = r at D e ⊢
  obtain ⟨o, s'⟩ := r
  cases o with
  | none => exact D rfl
  | some p => exact lup_wait as _ _ _ _ e
theorem lheap_wait (as : List Bool) : ∀ (k : Nat) (s : HD.LS), (HD.lheap as k s).1 = false → (HD.lheap as k s).2.asked ≠ []
  | 0, s, e => by cases e
  | k + 1, s, e => by
    have D := ldown_wait as k s
    unfold HD.lheap at e ⊢
    generalize HD.ldown as k s = r at D e ⊢
    obtain ⟨b, s'⟩ := r
    cases b with
    | false => exact D rfl
    | true => exact lheap_wait as k s' e
theorem lgo_wait (as : List Bool) (wd n : Nat) (s : HD.LS) (e : (HD.lgo as wd n s).2.1 = false) : (HD.lgo as wd n s).2.2.asked ≠ [] := by
  match wd with
  | 0 => exact lheap_wait as _ _ e
  | 1 => exact lup_wait as _ _ _ _ e
  | 2 =>
    have h : HD.lgo as 2 n s = (if s.row.length = 1 then (some (s.row.getD 0 0), true, { s with row := [] }) else HD.lfirst as (s.row.getD (s.row.length - 1) 0) { s with row := s.row.dropLast }) := rfl
    rw [h] at e ⊢
    by_cases c : s.row.length = 1
    · rw [if_pos c] at e
      cases e
    · rw [if_neg c] at e ⊢
      exact ldown_wait as _ _ e
  | 3 => exact ldown_wait as _ _ e
  | k + 4 =>
    have h : HD.lgo as (k + 4) n s = (if s.row = [] then (some n, true, s) else
        match as[s.asked.length]? with
        | none => (none, false, s.ask (s.row.getD 0 0, n))
        | some false => (some n, true, s.ask (s.row.getD 0 0, n))
        | some true => HD.lfirst as n (s.ask (s.row.getD 0 0, n))) := rfl
    rw [h] at e ⊢
    split at e
    · cases e
    · rename_i c
      rw [if_neg c]
      cases k : as[s.asked.length]? with
      | none => exact List.append_ne_nil_of_right_ne_nil _ (List.cons_ne_nil _ _)
      | some b =>
        rw [k] at e
        cases b with
        | false => cases e
        | true => exact ldown_wait as _ _ e
/-- what the law's deed tells -/
def OutAt (H : Hp) (t r l : Addr) (o : HD.Out) : Prop := ∃ wv, H t = some (.tup [.ref r, oV o.2.1, wv, .ref l]) ∧ H r = some (.lst (nV o.1)) ∧ WaitAt H wv o.2.2.1 ∧ QAt H l o.2.2.2 ∧ r ≠ l
def spDeed : Sp := fun vs H Q _ => ∃ (aa : Addr) (as : List Bool) (wd n : Nat), vs = [.str (dW wd), .int (n : Int), .ref aa] ∧ wd ≤ 4 ∧ H aa = some (.lst (as.map V.bl)) ∧ as.length ≤ 50000 ∧ (wd = 2 ∨ wd = 3 → n ≠ 0) ∧ n ≤ 2500 ∧
  ∀ t r l H', Same H H' → OutAt H' t r l (HD.mach (HD.init wd (List.range n) (some n)) as []) → H r = none → H l = none → Q (.ref t) H'
theorem qat_last {H : Hp} {l : Addr} {qs : List (Nat × Nat)} {ts : List V} (hts : H l = some (.lst ts)) (hq : QAt H l qs) (n : qs ≠ []) : ∃ wv, atI ts (-1) = some wv ∧ WaitAt H wv qs.getLast? := by
  obtain ⟨ts', h1, h2, h3⟩ := hq
  rw [hts] at h1
  cases h1
  have l0 : 0 < qs.length := List.length_pos_iff.mpr n
  have e1 : ts[ts.length - 1]? = some (ts[ts.length - 1]'(by omega)) := List.getElem?_eq_getElem _
  have e2 : qs[qs.length - 1]? = some (qs[qs.length - 1]'(by omega)) := List.getElem?_eq_getElem _
  have hp := h3 (ts.length - 1) _ _ e1 (by rw [h2]; exact e2)
  refine ⟨ts[ts.length - 1]'(by omega), ?_, ?_⟩
  · unfold atI
    have : ixN ts.length (-1) = some (ts.length - 1) := by
      unfold ixN
      rw [if_neg (by decide), if_pos (by omega)]
      congr 1
      omega
    rw [this]
    exact e1
  · rw [List.getLast?_eq_getElem?, e2]
    obtain ⟨t, e, ht⟩ := hp
    exact ⟨t, e, ht⟩
theorem qat_cut {H H' : Hp} {l c : Addr} {qs : List (Nat × Nat)} {ts : List V} (hts : H l = some (.lst ts)) (hq : QAt H l qs) (hs : Same H H') (hc : H' c = some (.lst (ts.take (ts.length - 1)))) : QAt H' c qs.dropLast := by
  obtain ⟨ts', h1, h2, h3⟩ := hq
  rw [hts] at h1
  cases h1
  refine ⟨_, hc, by rw [List.length_take, List.length_dropLast]; omega, fun i v q e1 e2 => ?_⟩
  rw [List.getElem?_take] at e1
  rw [List.getElem?_dropLast] at e2
  split at e1
  · split at e2
    · obtain ⟨t, e, ht⟩ := h3 i v q e1 e2
      exact ⟨t, e, hs _ _ ht⟩
    · cases e2
  · cases e1
section
variable {P : Program} {w : World} {K : PySem.W.Frag} {mg : Str → Option Value} {base : Heap} {a : Ad} {d : Fd}
theorem ok_ldeed (T : Txt K mg a d) : FnOk P w K mg base CX0 6 a.deed d.deed P_deed spDeed := by
  have G_go : FnOk P w K mg base CX0 5 a.go d.go P_go spGo := ok_lgo T
  refine T.f_deed.ok sc_deed (fun vs H Q E h => ?_) (fun cdv A outer s0 H vs Q E hr h => ?_)
  · obtain ⟨aa, as, wd, n, rfl, _⟩ := h
    rfl
  · obtain ⟨aa, as, wd, n, rfl, hw, ha, la, ne, hn, q⟩ := h
    refine ⟨_, (pss_cons (ps_par (i := 3) (j := 4) rfl sc_deed.nd rfl rfl (by decide) rfl rfl (pa_cons (pe_listRg (by rfl) (by rfl) T.z_list (prg_1 (by rfl) T.z_range (pv 1))) (pa_cons (pe_lst (pa_cons (pv 2) (pa_cons (pe_lst pa_nil) pa_nil))) pa_nil)) (by rfl))
    (pss_cons (ps_asg (pe_call G_go (hr.mono (by decide)) (by rfl) T.g_go T.k_go T.b_go .nil pass0 (pa_cons (pv 0) (pa_cons (pv 3) (pa_cons (pv 4) pa_nil)))) (pg_tup rfl (pgs_cons (pg_name (i := 5) sc_deed.nd rfl (Or.inl rfl)) (pgs_cons (pg_name (i := 6) sc_deed.nd rfl (Or.inl rfl)) pgs_nil))))
    (pss_cons (ps_if (pt_val (pv 6)) (pss_one (ps_ret (pe_tup (pa_cons (pv 3) (pa_cons (pv 5) (pa_cons pe_non (pa_cons (pe_ix ix_list (pv 4) pe_int (fun _ _ => rfl)) pa_nil))))))) pss_nil)
    (pss_one (ps_ret (pe_tup (pa_cons (pv 3) (pa_cons pe_non (pa_cons (pe_ix ix_list (pe_ix ix_list (pv 4) pe_int (fun _ _ => rfl)) (pe_un un_neg pe_int) (fun _ _ => rfl)) (pa_cons (pe_slice sl_list (pe_ix ix_list (pv 4) pe_int (fun _ _ => rfl)) po_none (po_some (pe_un un_neg pe_int))) pa_nil)))))))))), ?_⟩
    refine ⟨_, rfl, _, rfl, .of_le (by decide) (by omega) (by decide) (by omega), fun r hr0 => ?_⟩
    rw [rg_nat]
    have s1 := same_upd (o := .lst (nV (List.range n))) hr0
    have k1 : upd H r (.lst (nV (List.range n))) r = some (.lst (nV (List.range n))) := upd_same
    generalize upd H r (.lst (nV (List.range n))) = H1 at s1 k1 ⊢
    refine ⟨_, rfl, Nat.zero_le _, fun qa hqa => ?_⟩
    have s2 := same_upd (o := .lst []) hqa
    have k2 : upd H1 qa (.lst []) qa = some (.lst []) := upd_same
    generalize upd H1 qa (.lst []) = H2 at s2 k2 ⊢
    refine ⟨by show 2 ≤ sizeLine; decide, fun lg hlg => ?_⟩
    have s3 := same_upd (o := .lst [.ref aa, .ref qa]) hlg
    have k3 : upd H2 lg (.lst [.ref aa, .ref qa]) lg = some (.lst [.ref aa, .ref qa]) := upd_same
    generalize upd H2 lg (.lst [.ref aa, .ref qa]) = H3 at s3 k3 ⊢
    have hr3 := s3 _ _ (s2 _ _ k1)
    have hq3 := s3 _ _ k2
    have s03 := (s1.trans s2).trans s3
    have n1 : lg ≠ qa := fun e => by rw [e, k2] at hlg; cases hlg
    have n2 : aa ≠ qa := fun e => by rw [← e, s1 _ _ ha] at hqa; cases hqa
    have n3 : r ≠ lg := fun e => by rw [← e, s2 _ _ k1] at hlg; cases hlg
    have n4 : r ≠ aa := fun e => by rw [e, ha] at hr0; cases hr0
    have n5 : r ≠ qa := fun e => by rw [← e, k1] at hqa; cases hqa
    have L3 : LAt H3 r lg aa qa as ⟨List.range n, []⟩ := ⟨hr3, k3, s03 _ _ ha, QAt.nil hq3, n1, n2, n3, n4, n5⟩
    have hq0 : H qa = none := s1.free hqa
    have ln : (List.range n).length = n := List.length_range
    have G := HD.go_mach as wd n (List.range n) (some n) (fun _ _ => rfl) (fun z e => ne z (by have := congrArg List.length e; rw [ln] at this; exact this))
    have W := lgo_wait as wd n ⟨List.range n, []⟩
    refine ⟨_, _, rfl, _, rfl, _, rfl, _, rfl, r, lg, aa, qa, as, ⟨List.range n, []⟩, wd, rfl, hw, L3, Nat.zero_le _, la, fun z e => ne z (by have := congrArg List.length (show List.range n = [] from e); rw [ln] at this; exact this), by show (List.range n).length ≤ 2500; rw [ln]; exact hn, fun t H4 L4 fr4 ht4 => ?_⟩
    have el : (HD.LS.mk (List.range n) []).row.length = n := ln
    rw [el] at L4 ht4
    rw [← G] at q
    have s04 : Same H H4 := fun b o h => fr4 b o (fun e => by rw [e, hr0] at h; cases h) (fun e => by rw [e, hq0] at h; cases h) (s03 _ _ h)
    generalize HD.lgo as wd n ⟨List.range n, []⟩ = rr at L4 ht4 q W
    obtain ⟨g, b, s'⟩ := rr
    obtain ⟨e1, e2, e3, e4, _⟩ := id L4
    obtain ⟨ts, hts, lts, hpa⟩ := id e4
    have g1 : atI [V.ref aa, V.ref qa] 1 = some (.ref qa) := atI_nat (j := 1) rfl
    refine ⟨t, _, rfl, L2.st_of ht4, rfl, _, _, rfl, _, _, rfl, rfl, ?_⟩
    cases b with
    | true =>
      refine ⟨_, rfl, true, rfl, iteT ?_⟩
      refine ⟨_, rfl, _, rfl, _, rfl, lg, _, _, _, rfl, rfl, L2.sq_of e2, g1, by show 4 ≤ sizeLine; decide, fun t2 ht2 => ?_⟩
      have s5 := same_upd (o := .tup [.ref r, oV g, .non, .ref qa]) ht2
      exact q t2 r qa _ (s04.trans s5) ⟨.non, upd_same, s5 _ _ e1, rfl, e4.same s5, n5⟩ hr0 hq0
    | false =>
      have nz := W rfl
      refine ⟨_, rfl, false, rfl, iteF ?_⟩
      obtain ⟨wv, hwv, wt⟩ := qat_last hts e4 nz
      refine ⟨_, rfl, _, rfl, lg, _, _, _, rfl, rfl, L2.sq_of e2, g1, _, rfl, qa, _, _, _, rfl, rfl, L2.sq_of hts, hwv, ?_⟩
      refine ⟨_, rfl, lg, _, _, _, rfl, rfl, L2.sq_of e2, g1, _, rfl, _, rfl, qa, _, rfl, L2.sq_of hts, fun c hc => ?_⟩
      rw [cut_last]
      have s5 := same_upd (o := .lst (ts.take (ts.length - 1))) hc
      have k5 : upd H4 c (.lst (ts.take (ts.length - 1))) c = some (.lst (ts.take (ts.length - 1))) := upd_same
      generalize upd H4 c (.lst (ts.take (ts.length - 1))) = H5 at s5 k5 ⊢
      refine ⟨by show 4 ≤ sizeLine; decide, fun t2 ht2 => ?_⟩
      have s6 := same_upd (o := .tup [.ref r, .non, wv, .ref c]) ht2
      have hc0 : H c = none := s04.free hc
      have nrc : r ≠ c := fun e => by rw [← e, e1] at hc; cases hc
      exact q t2 r c _ ((s04.trans s5).trans s6) ⟨wv, upd_same, s6 _ _ (s5 _ _ e1), wt.keep (fun _ _ _ h => s6 _ _ (s5 _ _ h)), (qat_cut hts e4 s5 k5).same s6, nrc⟩ hr0 hc0
end

end K88

namespace K88
open PySem PySem.Spec PyProof.Rows L2
section
variable {P : Program} {w : World} {K : PySem.W.Frag} {mg : Str → Option Value} {base : Heap} {a : Ad} {d : Fd}
theorem ok_init (T : Txt K mg a d) : FnOk P w K mg base CX0 8 a.HeapDeed___init__ d.HeapDeed___init__ P_HeapDeed___init__ (spHinit a.c_HeapDeed) := by
  have G_HeapDeed__begin_next_sink : FnOk P w K mg base CX0 5 a.HeapDeed__begin_next_sink d.HeapDeed__begin_next_sink P_HeapDeed__begin_next_sink (spH0 a.c_HeapDeed (fun f => f.row.length ≤ 2501 ∧ f.wt = none ∧ HD.TopsOk f) HD.begin) := ok_begin T
  have G_HeapDeed__rise : FnOk P w K mg base CX0 6 a.HeapDeed__rise d.HeapDeed__rise P_HeapDeed__rise (spH0 a.c_HeapDeed (fun f => f.row.length ≤ 2501 ∧ f.wt = none ∧ (∀ t ∈ f.tops, 2 * t + 1 < f.row.length) ∧ f.place < f.row.length) HD.rise) := ok_rise T
  have G_HeapDeed__pop : FnOk P w K mg base CX0 7 a.HeapDeed__pop d.HeapDeed__pop P_HeapDeed__pop (spH0 a.c_HeapDeed (fun f => f.row.length ≤ 2501 ∧ f.row ≠ [] ∧ f.wt = none) HD.pop) := ok_pop T
  have G_HeapDeed__replace_first : FnOk P w K mg base CX0 6 a.HeapDeed__replace_first d.HeapDeed__replace_first P_HeapDeed__replace_first (spH1 a.c_HeapDeed (fun f _ => f.row.length ≤ 2501 ∧ f.row ≠ [] ∧ f.wt = none) (HD.first)) := ok_first T
  have G_HeapDeed__weigh : FnOk P w K mg base CX0 1 a.HeapDeed__weigh d.HeapDeed__weigh P_HeapDeed__weigh (spH0 a.c_HeapDeed (fun f => f.new ≠ none ∧ f.wt = none) (fun f => HD.weigh f (f.new.getD 0))) := ok_weigh T
  refine T.f_HeapDeed___init__.ok sc_HeapDeed___init__ (fun vs H Q E h => ?_) (fun cdv A outer s0 H vs Q E hr h => ?_)
  · obtain ⟨x, dx, r, wd, row, new, rfl, _⟩ := h
    rfl
  · obtain ⟨x, dx, r, wd, row, new, rfl, hwd, hx, hr0, hpre, q⟩ := h
    refine ⟨_, (pss_cons (ps_fld (pv 0) (pv 2) rfl)
    (pss_cons (ps_fld (pv 0) (pv 3) rfl)
    (pss_cons (ps_fld (pv 0) pe_non rfl)
    (pss_cons (ps_fld (pv 0) pe_non rfl)
    (pss_cons (ps_fld (pv 0) (pe_lst pa_nil) rfl)
    (pss_cons (ps_fld (pv 0) pe_int rfl)
    (pss_cons (ps_fld (pv 0) pe_int rfl)
    (pss_cons (ps_fld (pv 0) (pe_glob (v := .int 2) rfl T.g_SINKING ⟨_, rfl⟩) rfl)
    (pss_one (ps_if (pt_cmpR op_eq (pv 1) pe_str (nomark _)) (pss_cons (ps_fld (pv 0) (pe_listRg (by rfl) (by rfl) T.z_list (prg_1 (by rfl) T.z_range (pe_op op_fdivW (pe_callB call_len_seq (by rfl) T.z_len PySem.boot_len (pa_cons (pv 2) pa_nil)) pe_int))) rfl)
      (pss_one (ps_expr (pe_meth0 (pv 0) T.cl_HeapDeed T.m_HeapDeed__begin_next_sink G_HeapDeed__begin_next_sink (hr.mono (by decide)) T.b_HeapDeed__begin_next_sink .nil pass0)))) (pss_one (ps_if (pt_cmpR op_eq (pv 1) pe_str (nomark _)) (pss_cons (ps_expr (pe_bm PySem.F.plainAttrs_list PySem.F.slot_list_append PySem.F.type_list_append mt_append (pv 2) (pa_cons (pv 3) pa_nil)))
        (pss_cons (ps_fld (pv 0) (pe_op op_sub (pe_callB call_len_seq (by rfl) T.z_len PySem.boot_len (pa_cons (pv 2) pa_nil)) pe_int) rfl)
        (pss_one (ps_expr (pe_meth0 (pv 0) T.cl_HeapDeed T.m_HeapDeed__rise G_HeapDeed__rise (hr.mono (by decide)) T.b_HeapDeed__rise .nil pass0))))) (pss_one (ps_if (pt_cmpR op_eq (pv 1) pe_str (nomark _)) (pss_one (ps_expr (pe_meth0 (pv 0) T.cl_HeapDeed T.m_HeapDeed__pop G_HeapDeed__pop (hr.mono (by decide)) T.b_HeapDeed__pop .nil pass0))) (pss_one (ps_if (pt_cmpR op_eq (pv 1) pe_str (nomark _)) (pss_one (ps_expr (pe_meth (pv 0) T.cl_HeapDeed T.m_HeapDeed__replace_first G_HeapDeed__replace_first (hr.mono (by decide)) T.b_HeapDeed__replace_first .nil pass0 (pa_cons (pv 3) pa_nil)))) (pss_one (ps_expr (pe_meth0 (pv 0) T.cl_HeapDeed T.m_HeapDeed__weigh G_HeapDeed__weigh (hr.mono (by decide)) T.b_HeapDeed__weigh .nil pass0))))))))))))))))))), ?_⟩
    have nxr : x ≠ r := fun e => by rw [e, hr0] at hx; cases hx
    have b0 : ∀ b o, b ≠ x → H b = some o → H b = some o := fun _ _ _ h => h
    refine ⟨_, rfl, _, rfl, x, a.c_HeapDeed, dx, _, rfl, hx, T.cl_HeapDeed, T.n_row, by show 0 < 1000; decide, ?_⟩
    have g0 : upd H x (.ins a.c_HeapDeed dx (putF "row" (.ref r) ([]))) x = some (.ins a.c_HeapDeed dx [("row", .ref r)]) := upd_same
    have c0 : ∀ b o, b ≠ x → H b = some o → upd H x (.ins a.c_HeapDeed dx (putF "row" (.ref r) ([]))) b = some o := fun b o n h => by rw [upd_ne n]; exact b0 b o n h
    generalize upd H x (.ins a.c_HeapDeed dx (putF "row" (.ref r) ([]))) = G0 at g0 c0 ⊢
    refine ⟨_, rfl, _, rfl, x, a.c_HeapDeed, dx, _, rfl, g0, T.cl_HeapDeed, T.n_new, by show 1 < 1000; decide, ?_⟩
    have g1 : upd G0 x (.ins a.c_HeapDeed dx (putF "new" (oV new) ([("row", .ref r)]))) x = some (.ins a.c_HeapDeed dx [("row", .ref r), ("new", oV new)]) := upd_same
    have c1 : ∀ b o, b ≠ x → H b = some o → upd G0 x (.ins a.c_HeapDeed dx (putF "new" (oV new) ([("row", .ref r)]))) b = some o := fun b o n h => by rw [upd_ne n]; exact c0 b o n h
    generalize upd G0 x (.ins a.c_HeapDeed dx (putF "new" (oV new) ([("row", .ref r)]))) = G1 at g1 c1 ⊢
    refine ⟨_, rfl, x, a.c_HeapDeed, dx, _, rfl, g1, T.cl_HeapDeed, T.n_given, by show 2 < 1000; decide, ?_⟩
    have g2 : upd G1 x (.ins a.c_HeapDeed dx (putF "given" (.non) ([("row", .ref r), ("new", oV new)]))) x = some (.ins a.c_HeapDeed dx [("row", .ref r), ("new", oV new), ("given", .non)]) := upd_same
    have c2 : ∀ b o, b ≠ x → H b = some o → upd G1 x (.ins a.c_HeapDeed dx (putF "given" (.non) ([("row", .ref r), ("new", oV new)]))) b = some o := fun b o n h => by rw [upd_ne n]; exact c1 b o n h
    generalize upd G1 x (.ins a.c_HeapDeed dx (putF "given" (.non) ([("row", .ref r), ("new", oV new)]))) = G2 at g2 c2 ⊢
    refine ⟨_, rfl, x, a.c_HeapDeed, dx, _, rfl, g2, T.cl_HeapDeed, T.n_waiting, by show 3 < 1000; decide, ?_⟩
    have g3 : upd G2 x (.ins a.c_HeapDeed dx (putF "waiting" (.non) ([("row", .ref r), ("new", oV new), ("given", .non)]))) x = some (.ins a.c_HeapDeed dx [("row", .ref r), ("new", oV new), ("given", .non), ("waiting", .non)]) := upd_same
    have c3 : ∀ b o, b ≠ x → H b = some o → upd G2 x (.ins a.c_HeapDeed dx (putF "waiting" (.non) ([("row", .ref r), ("new", oV new), ("given", .non)]))) b = some o := fun b o n h => by rw [upd_ne n]; exact c2 b o n h
    generalize upd G2 x (.ins a.c_HeapDeed dx (putF "waiting" (.non) ([("row", .ref r), ("new", oV new), ("given", .non)]))) = G3 at g3 c3 ⊢
    refine ⟨by show 0 ≤ sizeLine; decide, fun tp htp => ?_⟩
    have sT := same_upd (o := .lst []) htp
    have kT : upd G3 tp (.lst []) tp = some (.lst (nV [])) := upd_same
    have ntx : tp ≠ x := fun e => by rw [e, g3] at htp; cases htp
    have ntr : tp ≠ r := fun e => by rw [e, c3 r _ nxr.symm hr0] at htp; cases htp
    have ntp : ∀ b o, b ≠ x → H b = some o → b ≠ tp := fun b o n h e => by rw [← e, c3 b o n h] at htp; cases htp
    have hxT := sT _ _ g3
    have bT : ∀ b o, b ≠ x → H b = some o → upd G3 tp (.lst []) b = some o := fun b o n h => sT _ _ (c3 b o n h)
    generalize upd G3 tp (.lst []) = HT at kT hxT bT ⊢
    refine ⟨_, rfl, x, a.c_HeapDeed, dx, _, rfl, hxT, T.cl_HeapDeed, T.n_tops, by show 4 < 1000; decide, ?_⟩
    have g4 : upd HT x (.ins a.c_HeapDeed dx (putF "tops" (.ref tp) ([("row", .ref r), ("new", oV new), ("given", .non), ("waiting", .non)]))) x = some (.ins a.c_HeapDeed dx [("row", .ref r), ("new", oV new), ("given", .non), ("waiting", .non), ("tops", .ref tp)]) := upd_same
    have c4 : ∀ b o, b ≠ x → H b = some o → upd HT x (.ins a.c_HeapDeed dx (putF "tops" (.ref tp) ([("row", .ref r), ("new", oV new), ("given", .non), ("waiting", .non)]))) b = some o := fun b o n h => by rw [upd_ne n]; exact bT b o n h
    have kT4 : upd HT x (.ins a.c_HeapDeed dx (putF "tops" (.ref tp) ([("row", .ref r), ("new", oV new), ("given", .non), ("waiting", .non)]))) tp = some (.lst (nV [])) := by rw [upd_ne ntx]; exact kT
    generalize upd HT x (.ins a.c_HeapDeed dx (putF "tops" (.ref tp) ([("row", .ref r), ("new", oV new), ("given", .non), ("waiting", .non)]))) = G4 at g4 c4 kT4 ⊢
    refine ⟨_, rfl, x, a.c_HeapDeed, dx, _, rfl, g4, T.cl_HeapDeed, T.n_top, by show 5 < 1000; decide, ?_⟩
    have g5 : upd G4 x (.ins a.c_HeapDeed dx (putF "top" (.int 0) ([("row", .ref r), ("new", oV new), ("given", .non), ("waiting", .non), ("tops", .ref tp)]))) x = some (.ins a.c_HeapDeed dx [("row", .ref r), ("new", oV new), ("given", .non), ("waiting", .non), ("tops", .ref tp), ("top", .int 0)]) := upd_same
    have c5 : ∀ b o, b ≠ x → H b = some o → upd G4 x (.ins a.c_HeapDeed dx (putF "top" (.int 0) ([("row", .ref r), ("new", oV new), ("given", .non), ("waiting", .non), ("tops", .ref tp)]))) b = some o := fun b o n h => by rw [upd_ne n]; exact c4 b o n h
    have kT5 : upd G4 x (.ins a.c_HeapDeed dx (putF "top" (.int 0) ([("row", .ref r), ("new", oV new), ("given", .non), ("waiting", .non), ("tops", .ref tp)]))) tp = some (.lst (nV [])) := by rw [upd_ne ntx]; exact kT4
    generalize upd G4 x (.ins a.c_HeapDeed dx (putF "top" (.int 0) ([("row", .ref r), ("new", oV new), ("given", .non), ("waiting", .non), ("tops", .ref tp)]))) = G5 at g5 c5 kT5 ⊢
    refine ⟨_, rfl, x, a.c_HeapDeed, dx, _, rfl, g5, T.cl_HeapDeed, T.n_place, by show 6 < 1000; decide, ?_⟩
    have g6 : upd G5 x (.ins a.c_HeapDeed dx (putF "place" (.int 0) ([("row", .ref r), ("new", oV new), ("given", .non), ("waiting", .non), ("tops", .ref tp), ("top", .int 0)]))) x = some (.ins a.c_HeapDeed dx [("row", .ref r), ("new", oV new), ("given", .non), ("waiting", .non), ("tops", .ref tp), ("top", .int 0), ("place", .int 0)]) := upd_same
    have c6 : ∀ b o, b ≠ x → H b = some o → upd G5 x (.ins a.c_HeapDeed dx (putF "place" (.int 0) ([("row", .ref r), ("new", oV new), ("given", .non), ("waiting", .non), ("tops", .ref tp), ("top", .int 0)]))) b = some o := fun b o n h => by rw [upd_ne n]; exact c5 b o n h
    have kT6 : upd G5 x (.ins a.c_HeapDeed dx (putF "place" (.int 0) ([("row", .ref r), ("new", oV new), ("given", .non), ("waiting", .non), ("tops", .ref tp), ("top", .int 0)]))) tp = some (.lst (nV [])) := by rw [upd_ne ntx]; exact kT5
    generalize upd G5 x (.ins a.c_HeapDeed dx (putF "place" (.int 0) ([("row", .ref r), ("new", oV new), ("given", .non), ("waiting", .non), ("tops", .ref tp), ("top", .int 0)]))) = G6 at g6 c6 kT6 ⊢
    refine ⟨_, rfl, x, a.c_HeapDeed, dx, _, rfl, g6, T.cl_HeapDeed, T.n_phase, by show 7 < 1000; decide, ?_⟩
    have g7 : upd G6 x (.ins a.c_HeapDeed dx (putF "phase" (.int 2) ([("row", .ref r), ("new", oV new), ("given", .non), ("waiting", .non), ("tops", .ref tp), ("top", .int 0), ("place", .int 0)]))) x = some (.ins a.c_HeapDeed dx [("row", .ref r), ("new", oV new), ("given", .non), ("waiting", .non), ("tops", .ref tp), ("top", .int 0), ("place", .int 0), ("phase", .int 2)]) := upd_same
    have c7 : ∀ b o, b ≠ x → H b = some o → upd G6 x (.ins a.c_HeapDeed dx (putF "phase" (.int 2) ([("row", .ref r), ("new", oV new), ("given", .non), ("waiting", .non), ("tops", .ref tp), ("top", .int 0), ("place", .int 0)]))) b = some o := fun b o n h => by rw [upd_ne n]; exact c6 b o n h
    have kT7 : upd G6 x (.ins a.c_HeapDeed dx (putF "phase" (.int 2) ([("row", .ref r), ("new", oV new), ("given", .non), ("waiting", .non), ("tops", .ref tp), ("top", .int 0), ("place", .int 0)]))) tp = some (.lst (nV [])) := by rw [upd_ne ntx]; exact kT6
    generalize upd G6 x (.ins a.c_HeapDeed dx (putF "phase" (.int 2) ([("row", .ref r), ("new", oV new), ("given", .non), ("waiting", .non), ("tops", .ref tp), ("top", .int 0), ("place", .int 0)]))) = G7 at g7 c7 kT7 ⊢
    have F : HAt a.c_HeapDeed G7 x r tp (HD.ini row new) := ⟨ntr, dx, .non, g7, rfl, c7 r _ nxr.symm hr0, kT7⟩
    have hr1 : G7 r = some (.lst (nV row)) := c7 r _ nxr.symm hr0
    have ok := HD.Ok.init hpre
    obtain ⟨lp, hp1, hp2⟩ := hpre
    have l1 : row.length ≤ 2501 := Nat.le_trans lp (by decide)
    have fin : ∀ H' tp', HAt a.c_HeapDeed H' x r tp' (HD.init wd row new) → Fr3 x r tp tp' G7 H' → Q .non H' := fun H' tp' F' fr' => q H' tp' F' fun b o n1 n2 h => fr' b o n1 n2 (ntp b o n1 h) (c7 b o n1 h)
    rcases (show wd = 0 ∨ wd = 1 ∨ wd = 2 ∨ wd = 3 ∨ wd = 4 by omega) with rfl | rfl | rfl | rfl | rfl
    · refine ⟨_, rfl, rfl, true, congrArg V.bl (by decide +kernel), iteT ?_⟩
      refine ⟨_, rfl, r, _, rfl, .inl (L2.sq_of hr1), _, _, rfl, rfl, wide_div (b := 64) (by decide) (by decide) (by decide) (by decide), _, rfl, ?_⟩
      have e : (((nV row).length : Nat) : Int) / 2 = ((row.length / 2 : Nat) : Int) := by rw [List.length_map]; omega
      dsimp only
      rw [e]
      refine ⟨rgOk_nat (by omega), fun t2 ht2 => ?_⟩
      rw [rg_nat]
      have s3 := same_upd (o := .lst (nV (List.range (row.length / 2)))) ht2
      have k3 : upd G7 t2 (.lst (nV (List.range (row.length / 2)))) t2 = some (.lst (nV (List.range (row.length / 2)))) := upd_same
      have nx' : t2 ≠ x := fun e => by rw [e, g7] at ht2; cases ht2
      have nr' : t2 ≠ r := fun e => by rw [e, hr1] at ht2; cases ht2
      have old : ∀ b o, G7 b = some o → b ≠ t2 := fun b o h e => by rw [e, ht2] at h; cases h
      generalize upd G7 t2 (.lst (nV (List.range (row.length / 2)))) = H3 at s3 k3 ⊢
      have F3 := F.same s3
      have hx3 := s3 _ _ g7
      refine ⟨_, rfl, x, a.c_HeapDeed, dx, _, rfl, hx3, T.cl_HeapDeed, T.n_tops, by show 8 < 1000; decide, ?_⟩
      have F4 := F3.newTops (f := HD.ini row new) (dx := dx) (wv := .non) hx3 rfl (ts := List.range (row.length / 2)) nr' nx' k3 (w := putF "tops" (.ref t2) (fldsD r tp (HD.ini row new) .non)) rfl
      have hx4 : upd H3 x (.ins a.c_HeapDeed dx (putF "tops" (.ref t2) (fldsD r tp (HD.ini row new) .non))) x = some (.ins a.c_HeapDeed dx (fldsD r t2 { HD.ini row new with tops := List.range (row.length / 2) } .non)) := upd_same
      have fr4 : Fr3 x r tp t2 G7 (upd H3 x (.ins a.c_HeapDeed dx (putF "tops" (.ref t2) (fldsD r tp (HD.ini row new) .non)))) := fun b oo n1 n2 n3 h => ⟨by rw [upd_ne n1]; exact s3 _ _ h, old _ _ h⟩
      refine ⟨_, rfl, x, dx, _, rfl, hx4, rfl, x, r, t2, _, rfl, F4, ⟨l1, rfl, .inl fun t ht => ?_⟩, fun H' tp' F' fr' => fin H' tp' F' (fr4.trans fr')⟩
      have ht : t < row.length / 2 := List.mem_range.mp ht
      show 2 * t + 1 < row.length
      omega
    · obtain ⟨k, rfl⟩ := Option.ne_none_iff_exists'.mp (hp2 (.inl rfl))
      refine ⟨_, rfl, rfl, false, congrArg V.bl (by decide +kernel), iteF ?_⟩
      refine ⟨_, rfl, rfl, true, congrArg V.bl (by decide +kernel), iteT ?_⟩
      refine ⟨_, rfl, .inl ⟨rfl, _, L2.sq_of hr1⟩, _, rfl, r, _, _, rfl, rfl, hr1, Nat.lt_of_le_of_lt (by rw [List.length_map]; exact lp : _ ≤ 2500) (by decide), ?_⟩
      have F2 := F.putRow (row := row ++ [k]) (w := nV row ++ [oV (some k)]) (by simp [nV, oV])
      have g2 : upd G7 r (.lst (nV row ++ [oV (some k)])) x = some (.ins a.c_HeapDeed dx (fldsD r tp (HD.ini (row ++ [k]) (some k)) .non)) := by rw [upd_ne nxr]; exact g7
      have r2 : upd G7 r (.lst (nV row ++ [oV (some k)])) r = some (.lst (nV (row ++ [k]))) := by rw [upd_same]; simp [nV, oV]
      have fr2 : Fr3 x r tp tp G7 (upd G7 r (.lst (nV row ++ [oV (some k)]))) := .putr
      generalize upd G7 r (.lst (nV row ++ [oV (some k)])) = H2 at F2 g2 r2 fr2 ⊢
      refine ⟨_, rfl, r, _, rfl, .inl (L2.sq_of r2), _, _, rfl, rfl, ?_⟩
      have e : (((nV (row ++ [k])).length : Nat) : Int) - 1 = ((row.length : Nat) : Int) := by rw [List.length_map, List.length_append]; show ((row.length + 1 : Nat) : Int) - 1 = _; omega
      dsimp only
      rw [e]
      refine ⟨_, rfl, x, a.c_HeapDeed, dx, _, rfl, g2, T.cl_HeapDeed, T.n_place, by show 8 < 1000; decide, ?_⟩
      obtain ⟨F3, hx3, fr3⟩ := F2.set g2 { HD.ini (row ++ [k]) (some k) with place := row.length } .non rfl rfl rfl (w := putF "place" (.int (row.length : Int)) (fldsD r tp (HD.ini (row ++ [k]) (some k)) .non)) rfl
      refine ⟨_, rfl, x, dx, _, rfl, hx3, rfl, x, r, tp, _, rfl, F3, ⟨?_, rfl, (fun t ht => by cases ht), ?_⟩, fun H' tp' F' fr' => fin H' tp' F' ((fr2.trans (.ofx fr3)).trans fr')⟩
      · show (row ++ [k]).length ≤ 2501
        rw [List.length_append]
        show row.length + 1 ≤ 2501
        omega
      · show row.length < (row ++ [k]).length
        rw [List.length_append]
        exact Nat.lt_succ_self _
    · refine ⟨_, rfl, rfl, false, congrArg V.bl (by decide +kernel), iteF ?_⟩
      refine ⟨_, rfl, rfl, false, congrArg V.bl (by decide +kernel), iteF ?_⟩
      refine ⟨_, rfl, rfl, true, congrArg V.bl (by decide +kernel), iteT ?_⟩
      exact ⟨_, rfl, x, dx, _, rfl, g7, rfl, x, r, tp, _, rfl, F, ⟨l1, hp1 (.inl rfl), rfl⟩, fin⟩
    · obtain ⟨k, rfl⟩ := Option.ne_none_iff_exists'.mp (hp2 (.inr (by decide)))
      refine ⟨_, rfl, rfl, false, congrArg V.bl (by decide +kernel), iteF ?_⟩
      refine ⟨_, rfl, rfl, false, congrArg V.bl (by decide +kernel), iteF ?_⟩
      refine ⟨_, rfl, rfl, false, congrArg V.bl (by decide +kernel), iteF ?_⟩
      refine ⟨_, rfl, rfl, true, congrArg V.bl (by decide +kernel), iteT ?_⟩
      exact ⟨_, rfl, x, dx, _, rfl, g7, rfl, _, rfl, x, r, tp, _, k, rfl, F, ⟨l1, hp1 (.inr rfl), rfl⟩, fin⟩
    · have n := hp2 (.inr (by decide))
      refine ⟨_, rfl, rfl, false, congrArg V.bl (by decide +kernel), iteF ?_⟩
      refine ⟨_, rfl, rfl, false, congrArg V.bl (by decide +kernel), iteF ?_⟩
      refine ⟨_, rfl, rfl, false, congrArg V.bl (by decide +kernel), iteF ?_⟩
      refine ⟨_, rfl, rfl, false, congrArg V.bl (by decide +kernel), iteF ?_⟩
      exact ⟨_, rfl, x, dx, _, rfl, g7, rfl, x, r, tp, _, rfl, F, ⟨n, rfl⟩, fin⟩
end

end K88

namespace K88
open PySem PySem.Spec PyProof.Rows L2
/-- a row whose first ones are these keys -/
def Keys0 (H : Hp) (p : Addr) (ns : List Int) : Prop := ∃ ks : List V, H p = some (.lst ks) ∧ ∀ (i : Nat) (z : Int), ns[i]? = some z → ks[i]? = some (.int z)
theorem keys0_get {H : Hp} {K : PySem.W.Frag} {p : Addr} {ns : List Int} (h : Keys0 H p ns) {i : Nat} (hi : i < ns.length) (Q : V → Hp → Prop) (q : Q (.int (ns.getD i 0)) H) : rIxL K (.ref p) (.int (i : Int)) H Q := by
  obtain ⟨ks, h1, h2⟩ := h
  refine ⟨p, ks, (i : Int), .int (ns.getD i 0), rfl, rfl, L2.sq_of h1, atI_nat (h2 i _ ?_), q⟩
  rw [List.getElem?_eq_getElem hi]
  simp [List.getD_eq_getElem?_getD, List.getElem?_eq_getElem hi]
def spAskH (C : Addr) : Sp := fun vs H Q _ => ∃ (x p r tp : Addr) (f : HD) (ns : List Int), vs = [.ref x, .ref p] ∧ Keys0 H p ns ∧ HAt C H x r tp f ∧ HD.Ok f ∧ HD.Its ns.length f ∧ HD.phi f ≤ 40000 ∧ p ≠ r ∧ p ≠ tp ∧
  ∀ (N : Nat) (l tp' : Addr) (H' : Hp), (f.stps (HD.less ns) N).wt = none → (∀ i, i < N → (f.stps (HD.less ns) i).wt ≠ none) → N ≤ HD.phi f →
    HAt C H' x r tp' (f.stps (HD.less ns) N) → Fr3 x r tp tp' H H' → H l = none → QAt H' l (f.asks (HD.less ns) N) → l ≠ r → Q (.ref l) H'
section
variable {P : Program} {w : World} {K : PySem.W.Frag} {mg : Str → Option Value} {base : Heap} {a : Ad} {d : Fd}
theorem ok_asksH (T : Txt K mg a d) : FnOk P w K mg base CX0 9 a.ask_honestly d.ask_honestly P_ask_honestly (spAskH a.c_HeapDeed) := by
  have G_HeapDeed_take : FnOk P w K mg base CX0 8 a.HeapDeed_take d.HeapDeed_take P_HeapDeed_take (spHtake a.c_HeapDeed HD.take (fun f => HD.Ok f ∧ f.wt ≠ none)) := ok_take T
  refine T.f_ask_honestly.ok sc_ask_honestly (fun vs H Q E h => ?_) (fun cdv A outer s0 H vs Q E hr h => ?_)
  · obtain ⟨x, p, r, tp, f, ns, rfl, _⟩ := h
    rfl
  · obtain ⟨x, p, r, tp, f0, ns, rfl, hK, F2, ok0, it0, ph, npr, npt, q⟩ := h
    refine ⟨_, (pss_cons (ps_set (i := 2) sc_ask_honestly.nd rfl (Or.inl rfl) (pe_lst pa_nil))
    (pss_cons (ps_while PassesOwn.never (pt_cmpR op_notN (pe_fld (pv 0) rfl) pe_non (nomark _))
      (pss_cons (ps_asg (pe_fld (pv 0) rfl) (pg_tup rfl (pgs_cons (pg_name (i := 3) sc_ask_honestly.nd rfl (Or.inl rfl)) (pgs_cons (pg_name (i := 4) sc_ask_honestly.nd rfl (Or.inl rfl)) pgs_nil))))
        (pss_cons (ps_expr (pe_bm PySem.F.plainAttrs_list PySem.F.slot_list_append PySem.F.type_list_append mt_append (pv 2) (pa_cons (pe_fld (pv 0) rfl) pa_nil)))
        (pss_one (ps_expr (pe_meth (pv 0) T.cl_HeapDeed T.m_HeapDeed_take G_HeapDeed_take (hr.mono (by decide)) T.b_HeapDeed_take .nil pass0 (pa_cons (pe_cmpR op_lt (pe_ix ix_list (pv 1) (pv 3) (fun _ _ => rfl)) (pe_ix ix_list (pv 1) (pv 4) (fun _ _ => rfl)) (nomark _)) pa_nil)))))))
    (pss_one (ps_ret (pv 2))))), ?_⟩
    obtain ⟨n2, dx2, wv2, hx2, hw2, hr2, ht2⟩ := id F2
    have nxp : x ≠ p := fun e => by
      obtain ⟨ks, h1, _⟩ := hK
      rw [e, h1] at hx2
      cases hx2
    refine ⟨Nat.zero_le _, fun l hlN => ?_⟩
    have nlr : l ≠ r := fun e => by rw [e, hr2] at hlN; cases hlN
    have nlp : p ≠ l := fun e => by
      obtain ⟨ks, h1, _⟩ := hK
      rw [← e, h1] at hlN
      cases hlN
    have F3 := F2.same (same_upd (o := .lst []) hlN)
    have fr3 : Fr3 x r tp tp H (upd H l (.lst [])) := .of (same_upd hlN)
    have nlt : l ≠ tp := fun e => by rw [e, ht2] at hlN; cases hlN
    have hq0 : QAt (upd H l (.lst [])) l [] := QAt.nil upd_same
    generalize upd H l (.lst []) = H3 at F3 fr3 hq0 ⊢
    refine ⟨fun m σ H' => ∃ (n : Nat) (t1 : Addr) (u v : Option V), σ = [some (.ref x), some (.ref p), some (.ref l), u, v] ∧ m = HD.phi (f0.stps (HD.less ns) n) ∧
      (∀ i, i < n → (f0.stps (HD.less ns) i).wt ≠ none) ∧ HAt a.c_HeapDeed H' x r t1 (f0.stps (HD.less ns) n) ∧ QAt H' l (f0.asks (HD.less ns) n) ∧ Fr3 x r tp t1 H H' ∧ l ≠ t1,
      ⟨_, 0, tp, none, none, rfl, rfl, fun i h => absurd h (Nat.not_lt_zero _), F3, hq0, fr3, nlt⟩, ?_⟩
    rintro m σ H4 ⟨n, t1, u, v, rfl, rfl, hbe, F4, hq4, fr4, nlt1⟩
    have Gn := ok0.stps (o := HD.less ns) n
    have In := HD.Its.stps (o := HD.less ns) ok0 it0 n
    have hps := HD.phi_stps ok0 hbe
    have hasl := HD.asks_len hbe
    have hN := q n
    have hnx : ∀ q, (f0.stps (HD.less ns) n).wt = some q → f0.stps (HD.less ns) (n + 1) = (f0.stps (HD.less ns) n).take (HD.less ns q) := fun q h => HD.stps_next h
    have hak : ∀ q, (f0.stps (HD.less ns) n).wt = some q → f0.asks (HD.less ns) (n + 1) = f0.asks (HD.less ns) n ++ [q] := fun q h => HD.asks_next h
    generalize hf : f0.stps (HD.less ns) n = f at F4 Gn In hps hnx hak hN ⊢
    obtain ⟨n4, dx4, wv4, hx4, hw4, hr4, ht4⟩ := id F4
    refine ⟨_, rfl, x, a.c_HeapDeed, dx4, _, _, rfl, hx4, T.cl_HeapDeed, T.n_waiting, rfl, rfl, ?_⟩
    cases hwt : f.wt with
    | none =>
      rw [hwt] at hw4
      cases hw4
      refine ⟨false, rfl, iteF ?_⟩
      exact ⟨_, rfl, hN l t1 _ hwt hbe (by omega) F4 fr4 hlN hq4 nlr⟩
    | some pr =>
      obtain ⟨i, j⟩ := pr
      rw [hwt] at hw4
      obtain ⟨t, rfl, ht⟩ := hw4
      refine ⟨true, rfl, iteT ⟨_, fun _ _ h => h, ?_⟩⟩
      obtain ⟨hi, hj⟩ := In.wt _ hwt
      have K4 : Keys0 H4 p ns := hK.imp fun ks h => ⟨(fr4 _ _ nxp.symm npr npt h.1).1, h.2⟩
      have npt1 : p ≠ t1 := by
        obtain ⟨ks, h, _⟩ := hK
        exact (fr4 _ _ nxp.symm npr npt h).2
      refine ⟨_, rfl, x, a.c_HeapDeed, dx4, _, _, rfl, hx4, T.cl_HeapDeed, T.n_waiting, rfl, t, _, rfl, L2.st_of ht, rfl, _, _, rfl, _, _, rfl, rfl, ?_⟩
      obtain ⟨ts, hts, hlen, hpa⟩ := id hq4
      refine ⟨_, rfl, .inl ⟨rfl, _, L2.sq_of hts⟩, _, rfl, x, a.c_HeapDeed, dx4, _, _, rfl, hx4, T.cl_HeapDeed, T.n_waiting, rfl, l, ts, _, rfl, rfl, hts, ?_, ?_⟩
      · rw [hlen, hasl]
        exact Nat.lt_of_le_of_lt (by omega : n ≤ 40000) (by decide : 40000 < sizeLine)
      have hpair : PairAt H4 (.ref t) (i, j) := ⟨t, rfl, ht⟩
      have hq5 := QAt.push hts hq4 hpair
      have fr5 : Fr3 x r tp t1 H (upd H4 l (.lst (ts ++ [.ref t]))) := fun b o n1 n2 n3 h => by
        obtain ⟨g1, g2⟩ := fr4 b o n1 n2 n3 h
        exact ⟨by rw [upd_ne (ne_of_none h hlN)]; exact g1, g2⟩
      have nlx : l ≠ x := fun e => by rw [e, hx4] at hts; cases hts
      have F5 : HAt a.c_HeapDeed (upd H4 l (.lst (ts ++ [.ref t]))) x r t1 f := by
        obtain ⟨g1, g2, g3, g4, g5, g6, g7⟩ := id F4
        exact ⟨g1, g2, g3, by rw [upd_ne nlx.symm]; exact g4, g5.upd hts (fun i j e => by cases e), by rw [upd_ne nlr.symm]; exact g6, by rw [upd_ne nlt1.symm]; exact g7⟩
      have K5 : Keys0 (upd H4 l (.lst (ts ++ [.ref t]))) p ns := K4.imp fun ks h => ⟨by rw [upd_ne nlp]; exact h.1, h.2⟩
      have hx5 : upd H4 l (.lst (ts ++ [.ref t])) x = some (.ins a.c_HeapDeed dx4 (fldsD r t1 f (.ref t))) := by rw [upd_ne nlx.symm]; exact hx4
      generalize upd H4 l (.lst (ts ++ [.ref t])) = H5 at hq5 fr5 F5 K5 hx5 ⊢
      refine ⟨_, rfl, x, dx4, _, rfl, hx5, rfl, ?_⟩
      refine ⟨_, rfl, _, rfl, keys0_get K5 hi _ ⟨_, rfl, _, rfl, keys0_get K5 hj _ ⟨_, _, rfl, rfl, ?_⟩⟩⟩
      refine ⟨x, r, t1, f, HD.less ns (i, j), rfl, F5, ⟨Gn, by rw [hwt]; exact Option.some_ne_none _⟩, fun H6 t2 F6 fr6 => ?_⟩
      have hlt := HD.phi_take Gn (by rw [hwt]; exact Option.some_ne_none _) (HD.less ns (i, j))
      rw [← hnx (i, j) hwt] at F6 hlt
      rw [← hak (i, j) hwt] at hq5
      obtain ⟨_, _, _, hx5b, _, h6, h7⟩ := id F5
      obtain ⟨ts5, h5, _⟩ := id hq5
      refine ⟨_, hlt, n + 1, t2, _, _, rfl, rfl, fun k hk => ?_, F6, ?_, ?_, ?_⟩
      · by_cases e : k = n
        · rw [e, hf, hwt]
          exact Option.some_ne_none _
        · exact hbe k (by omega)
      · refine hq5.keep (fun y hy => (fr6 _ _ nlx nlr nlt1 hy).1) (fun t' i' j' ht' => (fr6 _ _ (ne_of ht' hx5 (fun e => by cases e)) (ne_of ht' h6 (fun e => by cases e)) (ne_of ht' h7 (fun e => by cases e)) ht').1)
      · exact fr5.trans fr6
      · exact (fr6 _ _ nlx nlr nlt1 h5).2
end

end K88

namespace K88
open PySem PySem.Spec PyProof.Rows L2
def spIsInt : Sp := fun vs H Q _ => ∃ i, vs = [.int i] ∧ Q (.bl true) H
section
variable {P : Program} {w : World} {K : PySem.W.Frag} {mg : Str → Option Value} {base : Heap} {a : Ad} {d : Fd}
theorem ok_is_integer (T : Txt K mg a d) : FnOk P w K mg base CX0 1 a.is_integer d.is_integer P_is_integer spIsInt := by
  refine T.f_is_integer.ok sc_is_integer (fun vs H Q E h => ?_) (fun cdv A outer s H vs Q E hr h => ?_)
  · obtain ⟨i, rfl, _⟩ := h
    rfl
  · obtain ⟨i, rfl, q⟩ := h
    refine ⟨_, (pss_one (ps_ret (pe_and (pe_callB call_isi (by rfl) T.z_isinstance (by decide +kernel) (pa_cons (pv 0) (pa_cons (pe_bltn (v := .ty "int") (u := .type "int") (by rfl) T.z_int (by decide +kernel) rfl) pa_nil))) (pe_one (pe_not (pe_callB call_isi (by rfl) T.z_isinstance (by decide +kernel) (pa_cons (pv 0) (pa_cons (pe_bltn (v := .ty "bool") (u := .type "bool") (by rfl) T.z_bool (by decide +kernel) rfl) pa_nil)))))))), ?_⟩
    refine ⟨_, rfl, .int i, .ty "int", .type "int", .type "int", true, rfl, .ty _, .base (.int i), kit_ty (by decide +kernel), true, rfl, iteT ?_⟩
    exact ⟨_, rfl, .int i, .ty "bool", .type "int", .type "bool", false, rfl, .ty _, .base (.int i), kit_ty (by decide +kernel), false, rfl, q⟩
end

/-- keys: a list or a tuple of ints -/
def KeysAt (H : Hp) (p : Addr) (ns : List Int) : Prop := H p = some (.lst (ns.map V.int)) ∨ H p = some (.tup (ns.map V.int))
theorem KeysAt.same {H H' : Hp} {p : Addr} {ns : List Int} (e : Same H H') (h : KeysAt H p ns) : KeysAt H' p ns := h.imp (e _ _) (e _ _)
def spCheckKeysN : Sp := fun vs H Q _ => ∃ p ns lo hi, vs = [.ref p, .int lo, .int hi] ∧ KeysAt H p ns ∧ lo ≤ (ns.length : Int) ∧ (ns.length : Int) ≤ hi ∧ ∀ H', Same H H' → Q .non H'
theorem keys_item {ns : List Int} {i : Nat} {x : V} (h : (ns.map V.int)[i]? = some x) : ∃ z, ns[i]? = some z ∧ x = .int z := by
  rw [List.getElem?_map] at h
  cases e : ns[i]? with
  | none => rw [e] at h; cases h
  | some z => rw [e] at h; exact ⟨z, rfl, (Option.some.inj h).symm⟩
section
variable {P : Program} {w : World} {K : PySem.W.Frag} {mg : Str → Option Value} {base : Heap} {a : Ad} {d : Fd}
theorem ok_check_keys (T : Txt K mg a d) : FnOk P w K mg base CX0 2 a.check_keys d.check_keys P_check_keys spCheckKeysN := by
  have G_is_integer : FnOk P w K mg base CX0 1 a.is_integer d.is_integer P_is_integer spIsInt := ok_is_integer T
  refine T.f_check_keys.ok sc_check_keys (fun vs H Q E h => ?_) (fun cdv A outer s H vs Q E hr h => ?_)
  · obtain ⟨p, ns, lo, hi, rfl, _⟩ := h
    rfl
  · obtain ⟨p, ns, lo, hi, rfl, hK, hl1, hl2, q⟩ := h
    refine ⟨_, (pss_cons (ps_if (PW.pt (pw_or (pt_not (pt_val (pe_callB call_isiT (by rfl) T.z_isinstance (by decide +kernel) (pa_cons (pv 0) (pa_cons (pe_tup (pa_cons (pe_bltn (v := .ty "list") (u := .type "list") (by rfl) T.z_list (by decide +kernel) rfl) (pa_cons (pe_bltn (v := .ty "tuple") (u := .type "tuple") (by rfl) T.z_tuple (by decide +kernel) rfl) pa_nil))) pa_nil))))) (pw_or1 (pt_not (pt_chain op_le op_le (pv 1) (pe_callB call_len_seq (by rfl) T.z_len PySem.boot_len (pa_cons (pv 0) pa_nil)) (pv 2)))))) (pss_one ps_never) pss_nil)
    (pss_one (ps_for PassesOwn.never rfl (pi_enumA (by rfl) T.z_enumerate (pa_cons (pv 0) pa_nil)) (pg_tup rfl (pgs_cons (pg_name (i := 3) sc_check_keys.nd rfl (Or.inl rfl)) (pgs_cons (pg_name (i := 4) sc_check_keys.nd rfl (Or.inl rfl)) pgs_nil)))
      (pss_one (ps_if (pt_not (pt_val (pe_call G_is_integer (hr.mono (by decide)) (by rfl) T.g_is_integer T.k_is_integer T.b_is_integer .nil pass0 (pa_cons (pv 4) pa_nil)))) (pss_one ps_never) pss_nil))))), ?_⟩
    refine ⟨_, rfl, by show 2 ≤ sizeLine; decide, fun tp htp => ?_⟩
    have s1 : Same H (upd H tp (.tup [.ty "list", .ty "tuple"])) := same_upd htp
    have hK1 := hK.same s1
    have hT : upd H tp (.tup [.ty "list", .ty "tuple"]) tp = some (.tup [.ty "list", .ty "tuple"]) := upd_same
    generalize upd H tp (.tup [.ty "list", .ty "tuple"]) = H1 at s1 hK1 hT ⊢
    have cs : Paired ClsV [.ty "list", .ty "tuple"] [.type "list", .type "tuple"] := .cons (.ty _) (.cons (.ty _) .nil)
    have hS : SqL K H1 p (ns.map V.int) ∨ SqT K H1 p (ns.map V.int) := hK1.imp L2.sq_of L2.st_of
    obtain ⟨t, hty, hkit⟩ : ∃ t, TyX K H1 (.ref p) t ∧ PySem.W.kitAny K t [.type "list", .type "tuple"] = some true := by
      rcases hK1 with hl | ht
      · exact ⟨_, .base (.lst hl), kitAny_cons (b := true) (kit_ty (by decide +kernel)) (fun z => nomatch z) (fun _ => rfl)⟩
      · exact ⟨_, .base (.tup ht), kitAny_cons (b := false) (kit_ty (by decide +kernel)) (fun _ => kitAny_cons (b := true) (kit_ty (by decide +kernel)) (fun z => nomatch z) (fun _ => rfl)) (fun z => nomatch z)⟩
    refine ⟨.ref p, tp, _, t, _, true, rfl, hT, cs, hty, hkit, true, rfl, iteF ?_⟩
    have el : (ns.map V.int).length = ns.length := List.length_map _
    refine ⟨_, rfl, _, rfl, p, _, rfl, hS, _, _, rfl, rfl, true, congrArg V.bl (decide_eq_true (by rw [el]; exact hl1)), iteT ⟨_, rfl, _, _, rfl, rfl, true, congrArg V.bl (decide_eq_true (by rw [el]; exact hl2)), iteF ?_⟩⟩
    · refine ⟨_, rfl, p, ns.map V.int, rfl, hS.imp (fun hs => ⟨hs, ?_⟩) (fun hs => ⟨hs, ?_⟩)⟩
      · refine for_iteL (K := K) (a := p) (xs := ns.map V.int) (fun i σ H' => (∃ u v, σ = [some (.ref p), some (.int lo), some (.int hi), u, v]) ∧ Same H1 H') ⟨⟨_, _, rfl⟩, Same.refl _⟩ (fun i σ H' _ h => h.2.seq hs) ?_ ?_
        · rintro i y σ H2 Tp hy ⟨⟨u, v, rfl⟩, sm⟩ hn
          obtain ⟨z, _, rfl⟩ := keys_item hy
          refine ⟨Tp, _, rfl, L2.st_of upd_same, rfl, _, _, rfl, _, _, rfl, rfl, ?_⟩
          refine ⟨_, rfl, z, rfl, true, rfl, iteF ?_⟩
          exact ⟨⟨_, _, rfl⟩, sm.trans (same_upd hn)⟩
        · rintro σ H' ⟨_, sm⟩
          exact q H' (s1.trans sm)
      · refine for_iteT (K := K) (a := p) (xs := ns.map V.int) (fun i σ H' => (∃ u v, σ = [some (.ref p), some (.int lo), some (.int hi), u, v]) ∧ Same H1 H') ⟨⟨_, _, rfl⟩, Same.refl _⟩ (fun i σ H' _ h => Same.tupS h.2 hs) ?_ ?_
        · rintro i y σ H2 Tp hy ⟨⟨u, v, rfl⟩, sm⟩ hn
          obtain ⟨z, _, rfl⟩ := keys_item hy
          refine ⟨Tp, _, rfl, L2.st_of upd_same, rfl, _, _, rfl, _, _, rfl, rfl, ?_⟩
          refine ⟨_, rfl, z, rfl, true, rfl, iteF ?_⟩
          exact ⟨⟨_, _, rfl⟩, sm.trans (same_upd hn)⟩
        · rintro σ H' ⟨_, sm⟩
          exact q H' (s1.trans sm)
end

def hasN (wd : Nat) : Bool := decide (wd = 1 ∨ 3 ≤ wd)
theorem hasN_in {wd : Nat} (h : wd ≤ 4) : inV (.str (dW wd)) [.str "push", .str "replace", .str "pushpop"] = hasN wd := by
  rcases wd_cases h with rfl | rfl | rfl | rfl | rfl <;> decide +kernel
theorem deeds_in {wd : Nat} (h : wd ≤ 4) : inV (.str (dW wd)) [.str "heapify", .str "push", .str "pop", .str "replace", .str "pushpop"] = true := by
  rcases wd_cases h with rfl | rfl | rfl | rfl | rfl <;> decide +kernel
theorem takes_in {wd : Nat} (h : wd ≤ 4) : inV (.str (dW wd)) [.str "pop", .str "replace"] = decide (wd = 2 ∨ wd = 3) := by
  rcases wd_cases h with rfl | rfl | rfl | rfl | rfl <;> decide +kernel
def spHas : Sp := fun vs H Q _ => ∃ wd, vs = [.str (dW wd)] ∧ wd ≤ 4 ∧ ∀ H', Same H H' → Q (.bl (hasN wd)) H'
def spChkD : Sp := fun vs H Q _ => ∃ wd, vs = [.str (dW wd)] ∧ wd ≤ 4 ∧ Q .non H
def spNE : Sp := fun vs H Q _ => ∃ (wd n : Nat), vs = [.str (dW wd), .int (n : Int)] ∧ wd ≤ 4 ∧ (wd = 2 ∨ wd = 3 → n ≠ 0) ∧ ∀ H', Same H H' → Q .non H'
def spBegun (C : Addr) : Sp := fun vs H Q _ => ∃ (wd n : Nat), vs = [.str (dW wd), .int (n : Int)] ∧ wd ≤ 4 ∧ n ≤ 2500 ∧ (wd = 2 ∨ wd = 3 → n ≠ 0) ∧
  ∀ x r tp H', HAt C H' x r tp (HD.init wd (List.range n) (some n)) → Same H H' → H x = none → H r = none → H tp = none → Q (.ref x) H'
def KeyFor (wd : Nat) (ns : List Int) (kv : V) (ms : List Int) : Prop := (hasN wd = true ∧ ∃ z, kv = .int z ∧ ms = ns ++ [z]) ∨ (hasN wd = false ∧ kv = .non ∧ ms = ns)
abbrev f0 (wd n : Nat) : HD := HD.init wd (List.range n) (some n)
def Fin (wd n : Nat) (ms : List Int) (N : Nat) : Prop := ((f0 wd n).stps (HD.less ms) N).wt = none ∧ ∀ i, i < N → ((f0 wd n).stps (HD.less ms) i).wt ≠ none
def spDone : Sp := fun vs H Q _ => ∃ wd p ns kv ms, vs = [.str (dW wd), .ref p, kv] ∧ wd ≤ 4 ∧ KeysAt H p ns ∧ ns.length ≤ 2500 ∧ (wd = 2 ∨ wd = 3 → ns ≠ []) ∧ KeyFor wd ns kv ms ∧
  ∀ t r l N H', Same H H' → Fin wd ns.length ms N → H' t = some (.tup [.ref r, oV ((f0 wd ns.length).stps (HD.less ms) N).given, .ref l]) → H' r = some (.lst (nV ((f0 wd ns.length).stps (HD.less ms) N).row)) →
    QAt H' l ((f0 wd ns.length).asks (HD.less ms) N) → r ≠ l → H r = none → H l = none → Q (.ref t) H'
theorem pre0 {wd n : Nat} (h : n ≤ 2500) (ne : wd = 2 ∨ wd = 3 → n ≠ 0) : HD.Pre wd (List.range n) (some n) := ⟨by rw [List.length_range]; exact h, fun z e => ne z (by have := congrArg List.length e; rw [List.length_range] at this; exact this), fun _ => Option.some_ne_none _⟩
section
variable {P : Program} {w : World} {K : PySem.W.Frag} {mg : Str → Option Value} {base : Heap} {a : Ad} {d : Fd}
theorem ok_has (T : Txt K mg a d) : FnOk P w K mg base CX0 1 a.has_new_item d.has_new_item P_has_new_item spHas := by
  refine T.f_has_new_item.ok sc_has_new_item (fun vs H Q E h => ?_) (fun cdv A outer s0 H vs Q E hr h => ?_)
  · obtain ⟨wd, rfl, _⟩ := h
    rfl
  · obtain ⟨wd, rfl, hw, q⟩ := h
    refine ⟨_, (pss_one (ps_ret (pe_cmpR op_in_seq (pv 0) (pe_tup (pa_cons pe_str (pa_cons pe_str (pa_cons pe_str pa_nil)))) (by rfl)))), ?_⟩
    refine ⟨_, rfl, by show 3 ≤ sizeLine; decide, fun t ht => ⟨t, _, rfl, .inr (L2.st_of upd_same), rfl, rfl, ?_⟩⟩
    show Q (.bl (inV (.str (dW wd)) [.str "push", .str "replace", .str "pushpop"])) _
    rw [hasN_in hw]
    exact q _ (same_upd ht)
theorem ok_chkD (T : Txt K mg a d) : FnOk P w K mg base CX0 1 a.check_deed d.check_deed P_check_deed spChkD := by
  refine T.f_check_deed.ok sc_check_deed (fun vs H Q E h => ?_) (fun cdv A outer s0 H vs Q E hr h => ?_)
  · obtain ⟨wd, rfl, _⟩ := h
    rfl
  · obtain ⟨wd, rfl, hw, q⟩ := h
    refine ⟨_, (pss_one (ps_if (PW.pt (pw_or (pt_not (pt_val (pe_callB call_isi (by rfl) T.z_isinstance (by decide +kernel) (pa_cons (pv 0) (pa_cons (pe_bltn (v := .ty "str") (u := .type "str") (by rfl) T.z_str (by decide +kernel) rfl) pa_nil))))) (pw_or1 (pt_cmpR op_notIn_seq (pv 0) (pe_glob (v := .ref a.u_DEEDS) rfl T.g_DEEDS rfl) (by rfl))))) (pss_one ps_never) pss_nil)), ?_⟩
    refine ⟨_, rfl, .str _, .ty "str", .type "str", .type "str", true, rfl, .ty _, .base (.str _), kit_ty (by decide +kernel), true, rfl, iteF ?_⟩
    refine ⟨_, rfl, a.u_DEEDS, _, rfl, .inr (T.ut_DEEDS H), rfl, rfl, false, ?_, iteF q⟩
    show V.bl (!inV (.str (dW wd)) [.str "heapify", .str "push", .str "pop", .str "replace", .str "pushpop"]) = .bl false
    rw [deeds_in hw]
    rfl
theorem ok_NE (T : Txt K mg a d) : FnOk P w K mg base CX0 1 a.check_not_empty d.check_not_empty P_check_not_empty spNE := by
  refine T.f_check_not_empty.ok sc_check_not_empty (fun vs H Q E h => ?_) (fun cdv A outer s0 H vs Q E hr h => ?_)
  · obtain ⟨wd, n, rfl, _⟩ := h
    rfl
  · obtain ⟨wd, n, rfl, hw, ne, q⟩ := h
    refine ⟨_, (pss_one (ps_if (PW.pt (pw_and (pt_cmpR op_eq (pv 1) pe_int (nomark _)) (pw_and1 (pt_cmpR op_in_seq (pv 0) (pe_tup (pa_cons pe_str (pa_cons pe_str pa_nil))) (by rfl))))) (pss_one ps_never) pss_nil)), ?_⟩
    refine ⟨_, rfl, rfl, decide (n = 0), congrArg V.bl (by simp), ?_⟩
    by_cases c : n = 0
    · rw [decide_eq_true c]
      refine iteT ?_
      refine ⟨_, rfl, by show 2 ≤ sizeLine; decide, fun t ht => ⟨t, _, rfl, .inr (L2.st_of upd_same), rfl, rfl, false, ?_, iteF (q _ (same_upd ht))⟩⟩
      show V.bl (inV (.str (dW wd)) [.str "pop", .str "replace"]) = .bl false
      rw [takes_in hw, decide_eq_false fun z => ne z c]
    · rw [decide_eq_false c]
      exact iteF (iteF (q _ (Same.refl _)))
theorem ok_begun (T : Txt K mg a d) : FnOk P w K mg base CX0 10 a.begun d.begun P_begun (spBegun a.c_HeapDeed) := by
  have G_HeapDeed___init__ : FnOk P w K mg base CX0 8 a.HeapDeed___init__ d.HeapDeed___init__ P_HeapDeed___init__ (spHinit a.c_HeapDeed) := ok_init T
  refine T.f_begun.ok sc_begun (fun vs H Q E h => ?_) (fun cdv A outer s0 H vs Q E hr h => ?_)
  · obtain ⟨wd, n, rfl, _⟩ := h
    rfl
  · obtain ⟨wd, n, rfl, hw, hn, ne, q⟩ := h
    refine ⟨_, (pss_one (ps_ret (pe_make T.mk_HeapDeed G_HeapDeed___init__ (hr.mono (by decide)) (by rfl) T.g_HeapDeed T.b_HeapDeed___init__ .nil pass0 (pa_cons (pv 0) (pa_cons (pe_listRg (by rfl) (by rfl) T.z_list (prg_1 (by rfl) T.z_range (pv 1))) (pa_cons (pv 1) pa_nil)))))), ?_⟩
    refine ⟨_, rfl, _, rfl, _, rfl, .of_le (by decide) (by omega) (by decide) (by omega), fun r hr0 => ⟨_, rfl, fun x dx hx hdx nx => ?_⟩⟩
    rw [rg_nat] at hx hdx ⊢
    have s1 := same_upd (o := .lst (nV (List.range n))) hr0
    have k1 : upd H r (.lst (nV (List.range n))) r = some (.lst (nV (List.range n))) := upd_same
    generalize upd H r (.lst (nV (List.range n))) = H1 at s1 k1 hx hdx ⊢
    have hx0 : H x = none := s1.free hx
    have nrx : r ≠ x := fun e => by rw [e, hx] at k1; cases k1
    have nrd : r ≠ dx := fun e => by rw [e, hdx] at k1; cases k1
    refine ⟨x, dx, r, wd, List.range n, some n, rfl, hw, upd_same, by rw [upd_ne nrx, upd_ne nrd]; exact k1, pre0 hn ne, fun H' tp F fr => ⟨rfl, ?_⟩⟩
    have old : ∀ b o, H b = some o → H' b = some o ∧ b ≠ tp := fun b o h => by
      have h1 := s1 _ _ h
      have n1 : b ≠ x := fun e => by rw [e, hx0] at h; cases h
      have n2 : b ≠ r := fun e => by rw [e, hr0] at h; cases h
      have n3 : b ≠ dx := fun e => by rw [e, hdx] at h1; cases h1
      exact fr b o n1 n2 (by rw [upd_ne n1, upd_ne n3]; exact h1)
    refine q x r tp H' F (fun b o h => (old b o h).1) hx0 hr0 ?_
    cases e : H tp with
    | none => rfl
    | some o => exact absurd rfl (old tp o e).2
theorem ok_done (T : Txt K mg a d) : FnOk P w K mg base CX0 11 a.deed_done d.deed_done P_deed_done spDone := by
  have G_check_deed : FnOk P w K mg base CX0 1 a.check_deed d.check_deed P_check_deed spChkD := ok_chkD T
  have G_check_keys : FnOk P w K mg base CX0 2 a.check_keys d.check_keys P_check_keys spCheckKeysN := ok_check_keys T
  have G_has_new_item : FnOk P w K mg base CX0 1 a.has_new_item d.has_new_item P_has_new_item spHas := ok_has T
  have G_is_integer : FnOk P w K mg base CX0 1 a.is_integer d.is_integer P_is_integer spIsInt := ok_is_integer T
  have G_check_not_empty : FnOk P w K mg base CX0 1 a.check_not_empty d.check_not_empty P_check_not_empty spNE := ok_NE T
  have G_begun : FnOk P w K mg base CX0 10 a.begun d.begun P_begun (spBegun a.c_HeapDeed) := ok_begun T
  have G_ask_honestly : FnOk P w K mg base CX0 9 a.ask_honestly d.ask_honestly P_ask_honestly (spAskH a.c_HeapDeed) := ok_asksH T
  refine T.f_deed_done.ok sc_deed_done (fun vs H Q E h => ?_) (fun cdv A outer s0 H vs Q E hr h => ?_)
  · obtain ⟨wd, p, ns, kv, ms, rfl, _⟩ := h
    rfl
  · obtain ⟨wd, p, ns, kv, ms, rfl, hw, hK, hl, ne, hk, q⟩ := h
    refine ⟨_, (pss_cons (ps_expr (pe_call G_check_deed (hr.mono (by decide)) (by rfl) T.g_check_deed T.k_check_deed T.b_check_deed .nil pass0 (pa_cons (pv 0) pa_nil)))
    (pss_cons (ps_expr (pe_call G_check_keys (hr.mono (by decide)) (by rfl) T.g_check_keys T.k_check_keys T.b_check_keys .nil pass0 (pa_cons (pv 1) (pa_cons pe_int (pa_cons (pe_glob (v := .int 2500) rfl T.g_MOST_KEYS_heaps ⟨_, rfl⟩) pa_nil)))))
    (pss_cons (ps_if (pt_not (pt_ifExp (pt_val (pe_call G_has_new_item (hr.mono (by decide)) (by rfl) T.g_has_new_item T.k_has_new_item T.b_has_new_item .nil pass0 (pa_cons (pv 0) pa_nil))) (pt_val (pe_call G_is_integer (hr.mono (by decide)) (by rfl) T.g_is_integer T.k_is_integer T.b_is_integer .nil pass0 (pa_cons (pv 2) pa_nil))) (pt_cmpR op_isN (pv 2) pe_non (nomark _)))) (pss_one ps_never) pss_nil)
    (pss_cons (ps_expr (pe_call G_check_not_empty (hr.mono (by decide)) (by rfl) T.g_check_not_empty T.k_check_not_empty T.b_check_not_empty .nil pass0 (pa_cons (pv 0) (pa_cons (pe_callB call_len_seq (by rfl) T.z_len PySem.boot_len (pa_cons (pv 1) pa_nil)) pa_nil))))
    (pss_cons (ps_set (i := 3) sc_deed_done.nd rfl (Or.inl rfl) (pe_call G_begun (hr.mono (by decide)) (by rfl) T.g_begun T.k_begun T.b_begun .nil pass0 (pa_cons (pv 0) (pa_cons (pe_callB call_len_seq (by rfl) T.z_len PySem.boot_len (pa_cons (pv 1) pa_nil)) pa_nil))))
    (pss_cons (ps_set (i := 4) sc_deed_done.nd rfl (Or.inl rfl) (pe_call G_ask_honestly (hr.mono (by decide)) (by rfl) T.g_ask_honestly T.k_ask_honestly T.b_ask_honestly .nil pass0 (pa_cons (pv 3) (pa_cons (pe_lst (StX.pa_star (pv 1) (pa_cons (pv 2) pa_nil))) pa_nil))))
    (pss_one (ps_ret (pe_tup (pa_cons (pe_fld (pv 3) rfl) (pa_cons (pe_fld (pv 3) rfl) (pa_cons (pv 4) pa_nil)))))))))))), ?_⟩
    refine ⟨_, rfl, wd, rfl, hw, ?_⟩
    refine ⟨_, rfl, p, ns, 0, 2500, rfl, hK, by omega, by omega, fun H1 s1 => ?_⟩
    have el : (ns.map V.int).length = ns.length := List.length_map _
    have ne' : wd = 2 ∨ wd = 3 → ns.length ≠ 0 := fun z e => ne z (List.eq_nil_of_length_eq_zero e)
    have keys : ∀ H3, Same H H3 → KeysAt H3 p ns := fun H3 s => hK.same s
    have seq : ∀ H3, Same H H3 → SqL K H3 p (ns.map V.int) ∨ SqT K H3 p (ns.map V.int) := fun H3 s => (keys H3 s).imp L2.sq_of L2.st_of
    rcases hk with ⟨hh, z, rfl, rfl⟩ | ⟨hh, rfl, em⟩
    · refine ⟨_, rfl, wd, rfl, hw, fun H2 s2 => ?_⟩
      rw [hh]
      refine ⟨true, rfl, iteT ⟨_, rfl, z, rfl, true, rfl, iteF ?_⟩⟩
      have s02 := s1.trans s2
      refine ⟨_, rfl, _, rfl, p, _, rfl, seq _ s02, wd, ns.length, by rw [el]; rfl, hw, ne', fun H3 s3 => ?_⟩
      have s03 := s02.trans s3
      refine ⟨_, rfl, _, rfl, p, _, rfl, seq _ s03, wd, ns.length, by rw [el]; rfl, hw, hl, ne', fun x r tp H4 F s4 hx0 hr0 ht0 => ?_⟩
      have s04 := s03.trans s4
      have hx0 := s03.free hx0
      have hr0 := s03.free hr0
      have ht0 := s03.free ht0
      refine ⟨_, rfl, _, rfl, p, _, rfl, (seq _ s04).symm, _, rfl, by rw [List.length_append, el]; exact Nat.le_trans (Nat.add_le_add_right hl 1) (by decide), fun kl hkl => ?_⟩
      have s5 := same_upd (o := .lst (ns.map V.int ++ [.int z])) hkl
      have k5 : upd H4 kl (.lst (ns.map V.int ++ [.int z])) kl = some (.lst (ns.map V.int ++ [.int z])) := upd_same
      have F5 := F.same s5
      obtain ⟨ntr, dx4, wv4, hx4, _, hr4, ht4⟩ := id F
      have nkr : kl ≠ r := fun e => by rw [e, hr4] at hkl; cases hkl
      have nkt : kl ≠ tp := fun e => by rw [e, ht4] at hkl; cases hkl
      generalize upd H4 kl (.lst (ns.map V.int ++ [.int z])) = H5 at s5 k5 F5 ⊢
      have s05 := s04.trans s5
      have hp := pre0 hl ne'
      refine ⟨x, kl, r, tp, _, ns ++ [z], rfl, ⟨_, k5, fun i y hy => ?_⟩, F5, HD.Ok.init hp, HD.Its.init hp (fun v hv => ?_) (fun h => ?_), Nat.le_trans (HD.phi_init hp) (by rw [List.length_range]; omega), nkr, nkt, fun N l tp' H6 h1 h2 hN F6 fr6 hl6 hq6 nlr => ?_⟩
      · rw [List.getElem?_append] at hy
        rw [List.getElem?_append]
        by_cases c : i < ns.length
        · rw [if_pos c] at hy
          rw [if_pos (by rw [el]; exact c), List.getElem?_map, hy]
          rfl
        · rw [if_neg c] at hy
          rw [if_neg (by rw [el]; exact c), el]
          cases e : i - ns.length with
          | zero => rw [e] at hy; cases hy; rfl
          | succ m => rw [e] at hy; cases hy
      · have hv : v < ns.length := List.mem_range.mp hv
        rw [List.length_append]
        show v < ns.length + 1
        omega
      · rw [List.length_append]
        exact Nat.lt_succ_self _
      have s06 : Same H H6 := fun b o h => by
        have h5 := s05 _ _ h
        refine (fr6 b o ?_ ?_ ?_ h5).1
        · intro e; rw [e, hx0] at h; cases h
        · intro e; rw [e, hr0] at h; cases h
        · intro e; rw [e, ht0] at h; cases h
      obtain ⟨ntr6, dx6, wv6, hx6, _, hr6, ht6⟩ := id F6
      refine ⟨_, rfl, x, a.c_HeapDeed, dx6, _, _, rfl, hx6, T.cl_HeapDeed, T.n_row, rfl, _, rfl, x, a.c_HeapDeed, dx6, _, _, rfl, hx6, T.cl_HeapDeed, T.n_given, rfl, _, rfl, by show 3 ≤ sizeLine; decide, fun t ht => ?_⟩
      have s7 := same_upd (o := .tup [.ref r, oV ((f0 wd ns.length).stps (HD.less (ns ++ [z])) N).given, .ref l]) ht
      exact q t r l N _ (s06.trans s7) ⟨h1, h2⟩ upd_same (s7 _ _ hr6) (hq6.same s7) nlr.symm hr0 (s05.free hl6)
    · have em := em.symm
      subst em
      refine ⟨_, rfl, wd, rfl, hw, fun H2 s2 => ?_⟩
      rw [hh]
      refine ⟨false, rfl, iteF ⟨_, rfl, rfl, true, rfl, iteF ?_⟩⟩
      have s02 := s1.trans s2
      refine ⟨_, rfl, _, rfl, p, _, rfl, seq _ s02, wd, ns.length, by rw [el]; rfl, hw, ne', fun H3 s3 => ?_⟩
      have s03 := s02.trans s3
      refine ⟨_, rfl, _, rfl, p, _, rfl, seq _ s03, wd, ns.length, by rw [el]; rfl, hw, hl, ne', fun x r tp H4 F s4 hx0 hr0 ht0 => ?_⟩
      have s04 := s03.trans s4
      have hx0 := s03.free hx0
      have hr0 := s03.free hr0
      have ht0 := s03.free ht0
      refine ⟨_, rfl, _, rfl, p, _, rfl, (seq _ s04).symm, _, rfl, by rw [List.length_append, el]; exact Nat.le_trans (Nat.add_le_add_right hl 1) (by decide), fun kl hkl => ?_⟩
      have s5 := same_upd (o := .lst (ns.map V.int ++ [.non])) hkl
      have k5 : upd H4 kl (.lst (ns.map V.int ++ [.non])) kl = some (.lst (ns.map V.int ++ [.non])) := upd_same
      have F5 := F.same s5
      obtain ⟨ntr, dx4, wv4, hx4, _, hr4, ht4⟩ := id F
      have nkr : kl ≠ r := fun e => by rw [e, hr4] at hkl; cases hkl
      have nkt : kl ≠ tp := fun e => by rw [e, ht4] at hkl; cases hkl
      generalize upd H4 kl (.lst (ns.map V.int ++ [.non])) = H5 at s5 k5 F5 ⊢
      have s05 := s04.trans s5
      have hp := pre0 hl ne'
      refine ⟨x, kl, r, tp, _, ns, rfl, ⟨_, k5, fun i y hy => ?_⟩, F5, HD.Ok.init hp, HD.Its.init hp (fun v hv => ?_) (fun h => ?_), Nat.le_trans (HD.phi_init hp) (by rw [List.length_range]; omega), nkr, nkt, fun N l tp' H6 h1 h2 hN F6 fr6 hl6 hq6 nlr => ?_⟩
      · have li : i < ns.length := (List.getElem?_eq_some_iff.mp hy).1
        rw [List.getElem?_append, if_pos (by rw [el]; exact li), List.getElem?_map, hy]
        rfl
      · exact List.mem_range.mp hv
      · exact absurd (show hasN wd = true from decide_eq_true h) (by rw [hh]; decide)
      have s06 : Same H H6 := fun b o h => by
        have h5 := s05 _ _ h
        refine (fr6 b o ?_ ?_ ?_ h5).1
        · intro e; rw [e, hx0] at h; cases h
        · intro e; rw [e, hr0] at h; cases h
        · intro e; rw [e, ht0] at h; cases h
      obtain ⟨ntr6, dx6, wv6, hx6, _, hr6, ht6⟩ := id F6
      refine ⟨_, rfl, x, a.c_HeapDeed, dx6, _, _, rfl, hx6, T.cl_HeapDeed, T.n_row, rfl, _, rfl, x, a.c_HeapDeed, dx6, _, _, rfl, hx6, T.cl_HeapDeed, T.n_given, rfl, _, rfl, by show 3 ≤ sizeLine; decide, fun t ht => ?_⟩
      have s7 := same_upd (o := .tup [.ref r, oV ((f0 wd ns.length).stps (HD.less (ns)) N).given, .ref l]) ht
      exact q t r l N _ (s06.trans s7) ⟨h1, h2⟩ upd_same (s7 _ _ hr6) (hq6.same s7) nlr.symm hr0 (s05.free hl6)
end

end K88

namespace K88
open PySem PySem.Spec PyProof.Rows L2
def spHonest : Sp := fun vs H Q _ => ∃ (wd n : Nat) (m : Addr) (ms : List Int), vs = [.str (dW wd), .ref m] ∧ wd ≤ 4 ∧ H m = some (.lst (ms.map V.int)) ∧ ms.length = n + (if hasN wd = true then 1 else 0) ∧ n ≤ 2500 ∧ (wd = 2 ∨ wd = 3 → n ≠ 0) ∧
  ∀ t r l N H', Same H H' → Fin wd n ms N → H' t = some (.tup [.ref r, oV ((f0 wd n).stps (HD.less ms) N).given, .ref l]) → H' r = some (.lst (nV ((f0 wd n).stps (HD.less ms) N).row)) →
    QAt H' l ((f0 wd n).asks (HD.less ms) N) → r ≠ l → H r = none → H l = none → Q (.ref t) H'
theorem phi0 {row : List Nat} {new : Option Nat} (l : row.length ≤ 2500) : HD.phi (HD.init 0 row new) ≤ 13 * row.length := by
  have := HD.phi_begin (f := { HD.ini row new with tops := List.range (row.length / 2) }) rfl (Nat.le_trans l (by decide)) (.inl fun t ht => by
    have ht : t < row.length / 2 := List.mem_range.mp ht
    show 2 * t + 1 < row.length
    omega)
  have e : ({ HD.ini row new with tops := List.range (row.length / 2) } : HD).tops.length = row.length / 2 := List.length_range
  rw [e] at this
  show HD.phi (HD.begin { HD.ini row new with tops := List.range (row.length / 2) }) ≤ _
  omega
theorem phi_few {wd n : Nat} {ms : List Int} (hw : wd ≤ 4) (hl : ms.length = n + (if hasN wd = true then 1 else 0)) (hn : n ≤ 2500) (ne : wd = 2 ∨ wd = 3 → n ≠ 0) : HD.phi (f0 wd n) ≤ 40 * ms.length + 4 ∧ HD.phi (f0 wd n) ≤ 40000 := by
  have h1 : HD.phi (f0 wd n) ≤ 13 * n + 27 := by
    have := HD.phi_init (pre0 hn ne)
    rw [List.length_range] at this
    exact this
  refine ⟨?_, by omega⟩
  rcases wd_cases hw with rfl | rfl | rfl | rfl | rfl
  · have h2 := phi0 (row := List.range n) (new := some n) (by rw [List.length_range]; exact hn)
    rw [List.length_range] at h2
    have h2 : HD.phi (f0 0 n) ≤ 13 * n := h2
    omega
  · have : ms.length = n + 1 := hl
    omega
  · have := ne (.inl rfl)
    omega
  · have : ms.length = n + 1 := hl
    omega
  · have : ms.length = n + 1 := hl
    omega
theorem its0 {wd n : Nat} {ms : List Int} (hl : ms.length = n + (if hasN wd = true then 1 else 0)) (hn : n ≤ 2500) (ne : wd = 2 ∨ wd = 3 → n ≠ 0) : HD.Its ms.length (f0 wd n) := by
  refine HD.Its.init (pre0 hn ne) (fun v hv => ?_) (fun h => ?_)
  · have := List.mem_range.mp hv
    omega
  · rw [hl, if_pos (show hasN wd = true from decide_eq_true h)]
    exact Nat.lt_succ_self n
theorem ms_at {ms : List Int} {i : Nat} (h : i < ms.length) : atI (ms.map V.int) (i : Int) = some (.int (ms.getD i 0)) := by
  refine atI_nat ?_
  rw [List.getElem?_map, List.getElem?_eq_getElem h]
  simp [List.getD_eq_getElem?_getD, List.getElem?_eq_getElem h]
section
variable {P : Program} {w : World} {K : PySem.W.Frag} {mg : Str → Option Value} {base : Heap} {a : Ad} {d : Fd}
theorem ok_lhonest (T : Txt K mg a d) : FnOk P w K mg base CX0 7 a.honest d.honest P_honest spHonest := by
  have G_deed : FnOk P w K mg base CX0 6 a.deed d.deed P_deed spDeed := ok_ldeed T
  refine T.f_honest.ok sc_honest (fun vs H Q E h => ?_) (fun cdv A outer s0 H vs Q E hr h => ?_)
  · obtain ⟨wd, n, m, ms, rfl, _⟩ := h
    rfl
  · obtain ⟨wd, n, m, ms, rfl, hw, hm, hl, hn, ne, q⟩ := h
    refine ⟨_, (pss_cons (ps_par (i := 2) (j := 3) rfl sc_honest.nd rfl rfl (by decide) rfl rfl (pa_cons (pe_op op_sub (pe_callB call_len_seq (by rfl) T.z_len PySem.boot_len (pa_cons (pv 1) pa_nil)) (pe_callTy call_int1 (by rfl) T.z_int (by decide +kernel) (pa_cons (pe_cmpR op_in_seq (pv 0) (pe_tup (pa_cons pe_str (pa_cons pe_str (pa_cons pe_str pa_nil)))) (by rfl)) pa_nil))) (pa_cons (pe_lst pa_nil) pa_nil)) (by rfl))
    (pss_cons (ps_for PassesOwn.never rfl (pi_range1 (by rfl) T.z_range (pa_cons (pe_op op_add (pe_op op_mul pe_int (pe_callB call_len_seq (by rfl) T.z_len PySem.boot_len (pa_cons (pv 1) pa_nil))) pe_int) pa_nil)) (pg_name (i := 4) sc_honest.nd rfl (Or.inl rfl))
      (pss_cons (ps_asg (pe_call G_deed (hr.mono (by decide)) (by rfl) T.g_deed T.k_deed T.b_deed .nil pass0 (pa_cons (pv 0) (pa_cons (pv 2) (pa_cons (pv 3) pa_nil)))) (pg_tup rfl (pgs_cons (pg_name (i := 5) sc_honest.nd rfl (Or.inl rfl)) (pgs_cons (pg_name (i := 6) sc_honest.nd rfl (Or.inl rfl)) (pgs_cons (pg_name (i := 7) sc_honest.nd rfl (Or.inl rfl)) (pgs_cons (pg_name (i := 8) sc_honest.nd rfl (Or.inl rfl)) pgs_nil))))))
        (pss_cons (ps_if (pt_cmpR op_isN (pv 7) pe_non (nomark _)) (pss_one (ps_ret (pe_tup (pa_cons (pv 5) (pa_cons (pv 6) (pa_cons (pv 8) pa_nil)))))) pss_nil)
        (pss_one (ps_expr (pe_bm PySem.F.plainAttrs_list PySem.F.slot_list_append PySem.F.type_list_append mt_append (pv 3) (pa_cons (pe_cmpR op_lt (pe_ix ix_list (pv 1) (pe_ix ix_tup (pv 7) pe_int (fun _ _ => rfl)) (fun _ _ => rfl)) (pe_ix ix_list (pv 1) (pe_ix ix_tup (pv 7) pe_int (fun _ _ => rfl)) (fun _ _ => rfl)) (nomark _)) pa_nil)))))))
    (pss_one (ps_ret (pe_tup (pa_cons (pe_lst pa_nil) (pa_cons pe_non (pa_cons (pe_lst pa_nil) pa_nil)))))))), ?_⟩
    have lm : (ms.map V.int).length = ms.length := List.length_map _
    have ok0 := HD.Ok.init (pre0 hn ne)
    have it0 := its0 hl hn ne
    obtain ⟨ph1, ph2⟩ := phi_few hw hl hn ne
    refine ⟨_, rfl, m, _, rfl, .inl (L2.sq_of hm), _, rfl, by show 3 ≤ sizeLine; decide, fun tp htp => ⟨tp, _, rfl, .inr (L2.st_of upd_same), rfl, rfl, .inr ⟨_, rfl, ?_⟩⟩⟩
    have s1 := same_upd (o := .tup [.str "push", .str "replace", .str "pushpop"]) htp
    have hm1 := s1 _ _ hm
    generalize upd H tp (.tup [.str "push", .str "replace", .str "pushpop"]) = H1 at s1 hm1 ⊢
    refine ⟨_, _, rfl, rfl, Nat.zero_le _, fun an han => ⟨_, _, rfl, ?_⟩⟩
    have ei : (((ms.map V.int).length : Nat) : Int) - (if (if false = true then !inV (.str (dW wd)) [.str "push", .str "replace", .str "pushpop"] else inV (.str (dW wd)) [.str "push", .str "replace", .str "pushpop"]) = true then 1 else 0) = (n : Int) := by
      rw [show (if false = true then !inV (.str (dW wd)) [.str "push", .str "replace", .str "pushpop"] else inV (.str (dW wd)) [.str "push", .str "replace", .str "pushpop"]) = hasN wd from hasN_in hw, lm, hl]
      by_cases c : hasN wd = true
      · rw [if_pos c, if_pos c]; omega
      · rw [if_neg c, if_neg c]; omega
    dsimp only
    rw [ei]
    have s2 := same_upd (o := .lst []) han
    have k2 : upd H1 an (.lst []) an = some (.lst []) := upd_same
    generalize upd H1 an (.lst []) = H2 at s2 k2 ⊢
    have hm2 := s2 _ _ hm1
    have han0 : H an = none := s1.free han
    have nam : m ≠ an := fun e => by rw [← e, hm1] at han; cases han
    refine ⟨_, rfl, m, _, rfl, .inl (L2.sq_of hm2), _, _, rfl, rfl, .inl ⟨by decide, by decide⟩, _, _, rfl, rfl, ((40 * ms.length + 5 : Nat) : Int), congrArg (fun z : Int => [V.int z]) (show 40 * (((ms.map V.int).length : Nat) : Int) + 5 = ((40 * ms.length + 5 : Nat) : Int) by rw [lm]; omega), by omega, by omega, ?_⟩
    refine for_range (lo := 0) (n := 40 * ms.length + 5) (fun i σ H' => ∃ u4 u5 u6 u7 u8 : Option V, σ = [some (.str (dW wd)), some (.ref m), some (.int (n : Int)), some (.ref an), u4, u5, u6, u7, u8] ∧ Same H H' ∧ H' an = some (.lst ((((f0 wd n).asks (HD.less ms) i).map (HD.less ms)).map V.bl)) ∧ ∀ j, j < i → ((f0 wd n).stps (HD.less ms) j).wt ≠ none)
      ⟨none, none, none, none, none, rfl, s1.trans s2, k2, fun j hj => absurd hj (Nat.not_lt_zero _)⟩ ?_ ?_
    · rintro i σ H3 hi ⟨u4, u5, u6, u7, u8, rfl, s3, k3, hbe⟩
      have hps := HD.phi_stps ok0 hbe
      have hal := HD.asks_len hbe
      have hmach := HD.stps_mach (o := HD.less ms) (f := f0 wd n) i
      have hla : (((f0 wd n).asks (HD.less ms) i).map (HD.less ms)).length ≤ 50000 := by
        rw [List.length_map, hal]
        have : i ≤ HD.phi (f0 wd n) := Nat.le_trans (Nat.le_add_left _ _) hps
        omega
      have In := (HD.Its.stps (o := HD.less ms) ok0 it0 i).wt
      refine ⟨_, rfl, _, rfl, _, rfl, an, ((f0 wd n).asks (HD.less ms) i).map (HD.less ms), wd, n, rfl, hw, k3, hla, ne, hn, fun t r l H4 s4 ho hr0 hl0 => ?_⟩
      rw [show HD.mach (HD.init wd (List.range n) (some n)) (((f0 wd n).asks (HD.less ms) i).map (HD.less ms)) [] = _ from hmach] at ho
      obtain ⟨wv, ht, hrw, hwt, hq, nrl⟩ := ho
      dsimp only at ht hrw hwt hq
      have s04 := s3.trans s4
      have hr0 := s3.free hr0
      have hl0 := s3.free hl0
      refine ⟨t, _, rfl, L2.st_of ht, rfl, _, _, rfl, _, _, rfl, _, _, rfl, _, _, rfl, rfl, ?_⟩
      have hnx : ∀ q, ((f0 wd n).stps (HD.less ms) i).wt = some q → (f0 wd n).asks (HD.less ms) (i + 1) = (f0 wd n).asks (HD.less ms) i ++ [q] := fun q h => HD.asks_next h
      cases hw5 : ((f0 wd n).stps (HD.less ms) i).wt with
      | none =>
        rw [hw5] at hwt
        cases hwt
        refine ⟨_, rfl, rfl, true, rfl, iteT ⟨_, rfl, _, rfl, _, rfl, by show 3 ≤ sizeLine; decide, fun t2 ht2 => ?_⟩⟩
        have s5 := same_upd (o := .tup [.ref r, oV (if (none : Option (Nat × Nat)) = none then ((f0 wd n).stps (HD.less ms) i).given else none), .ref l]) ht2
        have k5 : upd H4 t2 (.tup [.ref r, oV (if (none : Option (Nat × Nat)) = none then ((f0 wd n).stps (HD.less ms) i).given else none), .ref l]) t2 = some (.tup [.ref r, oV ((f0 wd n).stps (HD.less ms) i).given, .ref l]) := by
          rw [if_pos rfl]; exact upd_same
        exact q t2 r l i _ (s04.trans s5) ⟨hw5, hbe⟩ k5 (s5 _ _ hrw) (hq.same s5) nrl hr0 hl0
      | some pr =>
        obtain ⟨x, y⟩ := pr
        rw [hw5] at hwt
        obtain ⟨tq, rfl, htq⟩ := hwt
        obtain ⟨hx, hy⟩ := In _ hw5
        have hm4 := s04 _ _ hm
        have k4 := s4 _ _ k3
        have a0 : atI [V.int (x : Int), V.int (y : Int)] 0 = some (.int (x : Int)) := atI_nat (j := 0) rfl
        have a1 : atI [V.int (x : Int), V.int (y : Int)] 1 = some (.int (y : Int)) := atI_nat (j := 1) rfl
        refine ⟨_, rfl, rfl, false, rfl, iteF ?_⟩
        refine ⟨_, rfl, .inl ⟨rfl, _, L2.sq_of k4⟩, _, rfl, _, rfl, tq, _, _, _, rfl, rfl, L2.st_of htq, a0, m, _, _, _, rfl, rfl, L2.sq_of hm4, ms_at hx, _, rfl, _, rfl, tq, _, _, _, rfl, rfl, L2.st_of htq, a1, m, _, _, _, rfl, rfl, L2.sq_of hm4, ms_at hy, _, _, rfl, rfl, an, _, _, rfl, rfl, k4, ?_, ?_⟩
        · rw [List.length_map, List.length_map, hal]
          exact Nat.lt_of_le_of_lt (Nat.le_trans (Nat.le_trans (Nat.le_add_left _ _) hps) ph2) (by decide : 40000 < sizeLine)
        refine ⟨_, _, _, _, _, rfl, fun b o h => ?_, ?_, fun j hj => ?_⟩
        · rw [upd_ne (fun e => by rw [e, han0] at h; cases h)]
          exact s04 _ _ h
        · rw [hnx _ hw5, upd_same, List.map_append, List.map_append]
          rfl
        · rcases Nat.lt_succ_iff_lt_or_eq.mp hj with h | h
          · exact hbe j h
          · rw [h, hw5]; exact Option.some_ne_none _
    · rintro σ H3 ⟨u4, u5, u6, u7, u8, rfl, s3, k3, hbe⟩
      have hps := HD.phi_stps ok0 hbe
      have : 40 * ms.length + 5 ≤ HD.phi (f0 wd n) := Nat.le_trans (Nat.le_add_left _ _) hps
      exact absurd this (by omega)
end

end K88

namespace K88
open PySem PySem.Spec PyProof.Rows L2
def spWithin : Sp := fun vs H Q _ => ∃ v lo hi, vs = [.int v, .int lo, .int hi] ∧ lo ≤ v ∧ v ≤ hi ∧ Q (.bl true) H
section
variable {P : Program} {w : World} {K : PySem.W.Frag} {mg : Str → Option Value} {base : Heap} {a : Ad} {d : Fd}
theorem ok_is_within (T : Txt K mg a d) : FnOk P w K mg base CX0 2 a.is_within d.is_within P_is_within spWithin := by
  have G_is_integer : FnOk P w K mg base CX0 1 a.is_integer d.is_integer P_is_integer spIsInt := ok_is_integer T
  refine T.f_is_within.ok sc_is_within (fun vs H Q E h => ?_) (fun cdv A outer s H vs Q E hr h => ?_)
  · obtain ⟨v, lo, hi, rfl, _⟩ := h
    rfl
  · obtain ⟨v, lo, hi, rfl, h1, h2, q⟩ := h
    refine ⟨_, (pss_one (ps_ret (pe_and (pe_call G_is_integer (hr.mono (by decide)) (by rfl) T.g_is_integer T.k_is_integer T.b_is_integer .nil pass0 (pa_cons (pv 0) pa_nil)) (pe_and (pe_cmpR op_ge (pv 0) (pv 1) (nomark _)) (pe_one (pe_or (pe_cmpR op_isN (pv 2) pe_non (nomark _)) (pe_one (pe_cmpR op_le (pv 0) (pv 2) (nomark _))))))))), ?_⟩
    refine ⟨_, rfl, v, rfl, true, rfl, iteT ?_⟩
    refine ⟨_, rfl, _, rfl, _, _, rfl, rfl, true, congrArg V.bl (decide_eq_true h1), iteT ?_⟩
    refine ⟨_, rfl, rfl, false, rfl, iteF ?_⟩
    refine ⟨_, rfl, _, rfl, _, _, rfl, rfl, ?_⟩
    show Q (V.bl (decide (v ≤ hi))) H
    rw [decide_eq_true h2]
    exact q
end

def spCheckNumber : Sp := fun vs H Q _ => ∃ (nm : Str) (v lo hi : Int), vs = [.str nm, .int v, .int lo, .int hi] ∧ lo ≤ v ∧ v ≤ hi ∧ Q .non H
section
variable {P : Program} {w : World} {K : PySem.W.Frag} {mg : Str → Option Value} {base : Heap} {a : Ad} {d : Fd}
theorem ok_check_number (T : Txt K mg a d) : FnOk P w K mg base CX0 3 a.check_number d.check_number P_check_number spCheckNumber := by
  have G_is_within : FnOk P w K mg base CX0 2 a.is_within d.is_within P_is_within spWithin := ok_is_within T
  refine T.f_check_number.ok sc_check_number (fun vs H Q E h => ?_) (fun cdv A outer s H vs Q E hr h => ?_)
  · obtain ⟨nm, v, lo, hi, rfl, _⟩ := h
    rfl
  · obtain ⟨nm, v, lo, hi, rfl, h1, h2, q⟩ := h
    refine ⟨_, (pss_one (ps_if (pt_not (pt_val (pe_call G_is_within (hr.mono (by decide)) (by rfl) T.g_is_within T.k_is_within T.b_is_within .nil pass0 (pa_cons (pv 1) (pa_cons (pv 2) (pa_cons (pv 3) pa_nil)))))) (pss_one ps_never) pss_nil)), ?_⟩
    exact ⟨_, rfl, _, rfl, _, rfl, v, lo, hi, rfl, h1, h2, true, rfl, iteF q⟩
end

def spCheckAnswers : Sp := fun vs H Q _ => ∃ p bs, vs = [.ref p] ∧ AnsAt H p bs ∧ ∀ H', Same H H' → Q .non H'
section
variable {P : Program} {w : World} {K : PySem.W.Frag} {mg : Str → Option Value} {base : Heap} {a : Ad} {d : Fd}
theorem ok_check_answers (T : Txt K mg a d) : FnOk P w K mg base CX0 1 a.check_answers d.check_answers P_check_answers spCheckAnswers := by
  refine T.f_check_answers.ok sc_check_answers (fun vs H Q E h => ?_) (fun cdv A outer s H vs Q E hr h => ?_)
  · obtain ⟨p, bs, rfl, _⟩ := h
    rfl
  · obtain ⟨p, bs, rfl, hK, q⟩ := h
    refine ⟨_, (pss_cons (ps_if (pt_not (pt_val (pe_callB call_isiT (by rfl) T.z_isinstance (by decide +kernel) (pa_cons (pv 0) (pa_cons (pe_tup (pa_cons (pe_bltn (v := .ty "list") (u := .type "list") (by rfl) T.z_list (by decide +kernel) rfl) (pa_cons (pe_bltn (v := .ty "tuple") (u := .type "tuple") (by rfl) T.z_tuple (by decide +kernel) rfl) pa_nil))) pa_nil))))) (pss_one ps_never) pss_nil)
    (pss_one (ps_for PassesOwn.never rfl (pi_enumA (by rfl) T.z_enumerate (pa_cons (pv 0) pa_nil)) (pg_tup rfl (pgs_cons (pg_name (i := 1) sc_check_answers.nd rfl (Or.inl rfl)) (pgs_cons (pg_name (i := 2) sc_check_answers.nd rfl (Or.inl rfl)) pgs_nil)))
      (pss_one (ps_if (pt_not (pt_val (pe_callB call_isi (by rfl) T.z_isinstance (by decide +kernel) (pa_cons (pv 2) (pa_cons (pe_bltn (v := .ty "bool") (u := .type "bool") (by rfl) T.z_bool (by decide +kernel) rfl) pa_nil))))) (pss_one ps_never) pss_nil))))), ?_⟩
    refine ⟨_, rfl, by show 2 ≤ sizeLine; decide, fun tp htp => ?_⟩
    have s1 : Same H (upd H tp (.tup [.ty "list", .ty "tuple"])) := same_upd htp
    have hK1 := hK.same s1
    have hT : upd H tp (.tup [.ty "list", .ty "tuple"]) tp = some (.tup [.ty "list", .ty "tuple"]) := upd_same
    generalize upd H tp (.tup [.ty "list", .ty "tuple"]) = H1 at s1 hK1 hT ⊢
    have cs : Paired ClsV [.ty "list", .ty "tuple"] [.type "list", .type "tuple"] := .cons (.ty _) (.cons (.ty _) .nil)
    have hS : SqL K H1 p (bs.map V.bl) ∨ SqT K H1 p (bs.map V.bl) := hK1.imp L2.sq_of L2.st_of
    obtain ⟨t, hty, hkit⟩ : ∃ t, TyX K H1 (.ref p) t ∧ PySem.W.kitAny K t [.type "list", .type "tuple"] = some true := by
      rcases hK1 with hl | ht
      · exact ⟨_, .base (.lst hl), kitAny_cons (b := true) (kit_ty (by decide +kernel)) (fun z => nomatch z) (fun _ => rfl)⟩
      · exact ⟨_, .base (.tup ht), kitAny_cons (b := false) (kit_ty (by decide +kernel)) (fun _ => kitAny_cons (b := true) (kit_ty (by decide +kernel)) (fun z => nomatch z) (fun _ => rfl)) (fun z => nomatch z)⟩
    refine ⟨.ref p, tp, _, t, _, true, rfl, hT, cs, hty, hkit, true, rfl, iteF ?_⟩
    refine ⟨_, rfl, p, bs.map V.bl, rfl, hS.imp (fun hs => ⟨hs, ?_⟩) (fun hs => ⟨hs, ?_⟩)⟩
    · refine for_iteL (K := K) (a := p) (xs := bs.map V.bl) (fun i σ H' => (∃ u v, σ = [some (.ref p), u, v]) ∧ Same H1 H') ⟨⟨_, _, rfl⟩, Same.refl _⟩ (fun i σ H' _ h => h.2.seq hs) ?_ ?_
      · rintro i y σ H2 Tp hy ⟨⟨u, v, rfl⟩, sm⟩ hn
        obtain ⟨z, _, rfl⟩ := ans_item hy
        refine ⟨Tp, _, rfl, L2.st_of upd_same, rfl, _, _, rfl, _, _, rfl, rfl, ?_⟩
        refine ⟨_, rfl, .bl z, .ty "bool", .type "bool", .type "bool", true, rfl, .ty _, .base (.bl z), kit_ty (by decide +kernel), true, rfl, iteF ?_⟩
        exact ⟨⟨_, _, rfl⟩, sm.trans (same_upd hn)⟩
      · rintro σ H' ⟨_, sm⟩
        exact q H' (s1.trans sm)
    · refine for_iteT (K := K) (a := p) (xs := bs.map V.bl) (fun i σ H' => (∃ u v, σ = [some (.ref p), u, v]) ∧ Same H1 H') ⟨⟨_, _, rfl⟩, Same.refl _⟩ (fun i σ H' _ h => Same.tupS h.2 hs) ?_ ?_
      · rintro i y σ H2 Tp hy ⟨⟨u, v, rfl⟩, sm⟩ hn
        obtain ⟨z, _, rfl⟩ := ans_item hy
        refine ⟨Tp, _, rfl, L2.st_of upd_same, rfl, _, _, rfl, _, _, rfl, rfl, ?_⟩
        refine ⟨_, rfl, .bl z, .ty "bool", .type "bool", .type "bool", true, rfl, .ty _, .base (.bl z), kit_ty (by decide +kernel), true, rfl, iteF ?_⟩
        exact ⟨⟨_, _, rfl⟩, sm.trans (same_upd hn)⟩
      · rintro σ H' ⟨_, sm⟩
        exact q H' (s1.trans sm)
end

def spGiveH (C : Addr) : Sp := fun vs H Q _ => ∃ (x p r tp : Addr) (f : HD) (bs : List Bool), vs = [.ref x, .ref p] ∧ AnsAt H p bs ∧ HAt C H x r tp f ∧ HD.Ok f ∧ p ≠ r ∧ p ≠ tp ∧ bs.length ≤ 100000 ∧
  ∀ (l tp' : Addr) (H' : Hp), HAt C H' x r tp' (HD.runL f bs).1 → Fr3 x r tp tp' H H' → H l = none → QAt H' l (HD.runL f bs).2 → l ≠ r → Q (.ref l) H'
section
variable {P : Program} {w : World} {K : PySem.W.Frag} {mg : Str → Option Value} {base : Heap} {a : Ad} {d : Fd}
theorem ok_giveH (T : Txt K mg a d) : FnOk P w K mg base CX0 9 a.give_answers d.give_answers P_give_answers (spGiveH a.c_HeapDeed) := by
  have G_HeapDeed_take : FnOk P w K mg base CX0 8 a.HeapDeed_take d.HeapDeed_take P_HeapDeed_take (spHtake a.c_HeapDeed HD.take (fun f => HD.Ok f ∧ f.wt ≠ none)) := ok_take T
  refine T.f_give_answers.ok sc_give_answers (fun vs H Q E h => ?_) (fun cdv A outer s0 H vs Q E hr h => ?_)
  · obtain ⟨x, p, r, tp, f, bs, rfl, _⟩ := h
    rfl
  · obtain ⟨x, p, r, tp, f, bs, rfl, hA, F2, ok0, npr, npt, bl, q⟩ := h
    refine ⟨_, (pss_cons (ps_set (i := 2) sc_give_answers.nd rfl (Or.inl rfl) (pe_lst pa_nil))
    (pss_cons (ps_for PassesOwn.never rfl (pi_lt (pv 1)) (pg_name (i := 3) sc_give_answers.nd rfl (Or.inl rfl))
      (pss_cons (ps_if (pt_cmpR op_isN (pe_fld (pv 0) rfl) pe_non (nomark _)) (pss_one ps_break) pss_nil)
        (pss_cons (ps_expr (pe_bm PySem.F.plainAttrs_list PySem.F.slot_list_append PySem.F.type_list_append mt_append (pv 2) (pa_cons (pe_fld (pv 0) rfl) pa_nil)))
        (pss_one (ps_expr (pe_meth (pv 0) T.cl_HeapDeed T.m_HeapDeed_take G_HeapDeed_take (hr.mono (by decide)) T.b_HeapDeed_take .nil pass0 (pa_cons (pv 3) pa_nil)))))))
    (pss_one (ps_ret (pv 2))))), ?_⟩
    obtain ⟨n2, dx2, wv2, hx2, hw2, hr2, ht2⟩ := id F2
    have nxp : p ≠ x := fun e => by
      rw [← e] at hx2
      rcases hA with h | h
      · rw [h] at hx2; cases hx2
      · rw [h] at hx2; cases hx2
    refine ⟨Nat.zero_le _, fun l hlN => ?_⟩
    have nlr : l ≠ r := fun e => by rw [e, hr2] at hlN; cases hlN
    have nlp : p ≠ l := hA.free hlN
    have F3 := F2.same (same_upd (o := .lst []) hlN)
    have fr3 : Fr3 x r tp tp H (upd H l (.lst [])) := .of (same_upd hlN)
    have nlt : l ≠ tp := fun e => by rw [e, ht2] at hlN; cases hlN
    have hq0 : QAt (upd H l (.lst [])) l [] := QAt.nil upd_same
    generalize upd H l (.lst []) = H3 at F3 fr3 hq0 ⊢
    refine ⟨_, rfl, p, bs.map V.bl, rfl, ?_⟩
    refine for_lt (K := K) (a := p) (xs := bs.map V.bl) (fun i σ H' => ∃ (u : Option V) (t1 : Addr) (g : HD) (qs : List (Nat × Nat)), σ = [some (.ref x), some (.ref p), some (.ref l), u] ∧ HAt a.c_HeapDeed H' x r t1 g ∧ QAt H' l qs ∧ Fr3 x r tp t1 H H' ∧ l ≠ t1 ∧ HD.Ok g ∧ qs.length = i ∧ HD.runL f bs = ((HD.runL g (bs.drop i)).1, qs ++ (HD.runL g (bs.drop i)).2))
      ⟨_, tp, f, [], rfl, F3, hq0, fr3, nlt, ok0, rfl, rfl⟩ ?_ ?_ ?_
    · rcases hA with h | h
      · exact .inl fun i σ' H' hp => by
          obtain ⟨u, t1, g, qs, _, _, _, fr, _⟩ := hp
          exact L2.sq_of (fr _ _ nxp npr npt h).1
      · exact .inr fun i σ' H' hp => by
          obtain ⟨u, t1, g, qs, _, _, _, fr, _⟩ := hp
          exact L2.st_of (fr _ _ nxp npr npt h).1
    · rintro i y σ H4 hy ⟨u, t1, g, qs, rfl, F4, hq4, fr4, nlt1, okg, lq, e⟩
      obtain ⟨b, hb, rfl⟩ := ans_item hy
      have hi : i < bs.length := (List.getElem?_eq_some_iff.mp hb).1
      obtain ⟨n4, dx4, wv4, hx4, hw4, hr4, ht4⟩ := id F4
      rw [HD.drop_some hb] at e
      refine ⟨_, rfl, x, a.c_HeapDeed, dx4, _, _, rfl, hx4, T.cl_HeapDeed, T.n_waiting, rfl, rfl, ?_⟩
      cases hwt : g.wt with
      | none =>
        rw [hwt] at hw4
        cases hw4
        refine ⟨true, rfl, iteT ⟨_, rfl, ?_⟩⟩
        rw [HD.runL_done hwt] at e
        rw [List.append_nil] at e
        rw [e] at q
        exact q l t1 H4 F4 fr4 hlN hq4 nlr
      | some pr =>
        obtain ⟨pi, pj⟩ := pr
        rw [hwt] at hw4
        obtain ⟨t, rfl, ht⟩ := hw4
        refine ⟨false, rfl, iteF ?_⟩
        obtain ⟨ts, hts, hlen, hpa⟩ := id hq4
        refine ⟨_, rfl, .inl ⟨rfl, _, L2.sq_of hts⟩, _, rfl, x, a.c_HeapDeed, dx4, _, _, rfl, hx4, T.cl_HeapDeed, T.n_waiting, rfl, l, ts, _, rfl, rfl, hts, by rw [hlen, lq]; exact Nat.lt_of_le_of_lt (by omega : i ≤ 100000) (by decide), ?_⟩
        have hpair : PairAt H4 (.ref t) (pi, pj) := ⟨t, rfl, ht⟩
        have hq5 := QAt.push hts hq4 hpair
        have fr5 : Fr3 x r tp t1 H (upd H4 l (.lst (ts ++ [.ref t]))) := fun b o n1 n2 n3 h => by
          obtain ⟨g1, g2⟩ := fr4 b o n1 n2 n3 h
          exact ⟨by rw [upd_ne (ne_of_none h hlN)]; exact g1, g2⟩
        have nlx : l ≠ x := fun e => by rw [e, hx4] at hts; cases hts
        have F5 : HAt a.c_HeapDeed (upd H4 l (.lst (ts ++ [.ref t]))) x r t1 g := by
          obtain ⟨g1, g2, g3, g4, g5, g6, g7⟩ := id F4
          exact ⟨g1, g2, g3, by rw [upd_ne nlx.symm]; exact g4, g5.upd hts (fun i j e => by cases e), by rw [upd_ne nlr.symm]; exact g6, by rw [upd_ne nlt1.symm]; exact g7⟩
        have hx5 : upd H4 l (.lst (ts ++ [.ref t])) x = some (.ins a.c_HeapDeed dx4 (fldsD r t1 g (.ref t))) := by rw [upd_ne nlx.symm]; exact hx4
        generalize upd H4 l (.lst (ts ++ [.ref t])) = H5 at hq5 fr5 F5 hx5 ⊢
        refine ⟨_, rfl, x, dx4, _, rfl, hx5, rfl, _, rfl, x, r, t1, g, b, rfl, F5, ⟨okg, by rw [hwt]; exact Option.some_ne_none _⟩, fun H6 t2 F6 fr6 => ?_⟩
        obtain ⟨_, _, _, hx5b, _, h6, h7⟩ := id F5
        obtain ⟨ts5, h5, _⟩ := id hq5
        refine ⟨_, t2, g.take b, qs ++ [(pi, pj)], rfl, F6, hq5.keep (fun y hy => (fr6 _ _ nlx nlr nlt1 hy).1) (fun t' i' j' ht' => (fr6 _ _ (ne_of ht' hx5 (fun e => by cases e)) (ne_of ht' h6 (fun e => by cases e)) (ne_of ht' h7 (fun e => by cases e)) ht').1), fr5.trans fr6, (fr6 _ _ nlx nlr nlt1 h5).2, okg.take (by rw [hwt]; exact Option.some_ne_none _) b, by rw [List.length_append, lq]; rfl, ?_⟩
        rw [e, HD.runL_cons hwt]
        simp
    · rintro σ H4 ⟨u, t1, g, qs, rfl, F4, hq4, fr4, nlt1, okg, lq, e⟩
      rw [List.length_map, List.drop_length] at e
      have e : HD.runL f bs = (g, qs ++ []) := e
      rw [List.append_nil] at e
      rw [e] at q
      exact ⟨_, rfl, q l t1 H4 F4 fr4 hlN hq4 nlr⟩
end

end K88

namespace K88
open PySem PySem.Spec PyProof.Rows L2
abbrev mo (wd n : Nat) (as : List Bool) : HD.Out := HD.mach (HD.init wd (List.range n) (some n)) as []
def spTold (C : Addr) : Sp := fun vs H Q E => ∃ (wd n : Nat) (p : Addr) (as : List Bool), vs = [.str (dW wd), .int (n : Int), .ref p] ∧ wd ≤ 4 ∧ AnsAt H p as ∧ as.length ≤ 50000 ∧ (wd = 2 ∨ wd = 3 → n ≠ 0) ∧ n ≤ 2500 ∧
  (¬ (mo wd n as).2.2.2.length < as.length → ∀ t r l H', Same H H' → OutAt H' t r l (mo wd n as) → H r = none → H l = none → Q (.ref t) H') ∧
  ((mo wd n as).2.2.2.length < as.length → Rz E H C "index" (.int (((mo wd n as).2.2.2.length : Nat) : Int)))
section
variable {P : Program} {w : World} {K : PySem.W.Frag} {mg : Str → Option Value} {base : Heap} {a : Ad} {d : Fd}
theorem ok_err_answers (T : Txt K mg a d) : FnOk P w K mg base CX0 1 a.InvalidAnswers___init__ d.InvalidAnswers___init__ P_InvalidAnswers___init__ (spErr a.c_InvalidAnswers "index") := by
  refine T.f_InvalidAnswers___init__.ok sc_InvalidAnswers___init__ (fun vs H Q E h => ?_) (fun cdv A outer s H vs Q E hr h => ?_)
  · obtain ⟨e, v, rfl, _⟩ := h
    rfl
  · obtain ⟨e, v, rfl, he, q⟩ := h
    refine ⟨_, (pss_cons (ps_expr (pe_baseinit (by rfl) T.xb.g T.xb.r1 T.xb.r2 T.xb.vi (pa_cons (pv 0) (pa_cons pe_str pa_nil))))
    (pss_one (ps_ost (pv 0) (pv 1)))), ?_⟩
    refine ⟨_, rfl, e, a.c_InvalidAnswers, _, rfl, by show 1 ≤ 1000; decide, T.x_InvalidAnswers.ox, he, ?_⟩
    exact ⟨_, rfl, _, rfl, e, a.c_InvalidAnswers, rfl, T.x_InvalidAnswers.ox, T.x_InvalidAnswers.no, .inl ⟨he, fun dx hd ne => q dx hd ne⟩⟩
theorem ok_told (T : Txt K mg a d) : FnOk P w K mg base (L2.CX P w) 11 a.deed_told d.deed_told P_deed_told (spTold a.c_InvalidAnswers) := by
  have G_InvalidAnswers___init__ : FnOk P w K mg base CX0 1 a.InvalidAnswers___init__ d.InvalidAnswers___init__ P_InvalidAnswers___init__ (spErr a.c_InvalidAnswers "index") := ok_err_answers T
  have G_check_deed : FnOk P w K mg base CX0 1 a.check_deed d.check_deed P_check_deed spChkD := ok_chkD T
  have G_check_number : FnOk P w K mg base CX0 3 a.check_number d.check_number P_check_number spCheckNumber := ok_check_number T
  have G_check_answers : FnOk P w K mg base CX0 1 a.check_answers d.check_answers P_check_answers spCheckAnswers := ok_check_answers T
  have G_check_not_empty : FnOk P w K mg base CX0 1 a.check_not_empty d.check_not_empty P_check_not_empty spNE := ok_NE T
  have G_begun : FnOk P w K mg base CX0 10 a.begun d.begun P_begun (spBegun a.c_HeapDeed) := ok_begun T
  have G_give_answers : FnOk P w K mg base CX0 9 a.give_answers d.give_answers P_give_answers (spGiveH a.c_HeapDeed) := ok_giveH T
  refine T.f_deed_told.okX sc_deed_told (fun vs H Q E h => ?_) (fun cdv A outer s0 H vs Q E hr h => ?_)
  · obtain ⟨wd, n, p, as, rfl, _⟩ := h
    rfl
  · obtain ⟨wd, n, p, as, rfl, hw, hA, la, ne, hn, q, qx⟩ := h
    refine ⟨_, (pss_cons (ps_expr (pe_call G_check_deed (hr.mono (by decide)) (by rfl) T.g_check_deed T.k_check_deed T.b_check_deed .nil pass0 (pa_cons (pv 0) pa_nil)))
    (pss_cons (ps_expr (pe_call G_check_number (hr.mono (by decide)) (by rfl) T.g_check_number T.k_check_number T.b_check_number .nil pass0 (pa_cons pe_str (pa_cons (pv 1) (pa_cons pe_int (pa_cons (pe_glob (v := .int 2500) rfl T.g_MOST_KEYS_heaps ⟨_, rfl⟩) pa_nil))))))
    (pss_cons (ps_expr (pe_call G_check_answers (hr.mono (by decide)) (by rfl) T.g_check_answers T.k_check_answers T.b_check_answers .nil pass0 (pa_cons (pv 2) pa_nil)))
    (pss_cons (ps_expr (pe_call G_check_not_empty (hr.mono (by decide)) (by rfl) T.g_check_not_empty T.k_check_not_empty T.b_check_not_empty .nil pass0 (pa_cons (pv 0) (pa_cons (pv 1) pa_nil))))
    (pss_cons (ps_set (i := 3) sc_deed_told.nd rfl (Or.inl rfl) (pe_call G_begun (hr.mono (by decide)) (by rfl) T.g_begun T.k_begun T.b_begun .nil pass0 (pa_cons (pv 0) (pa_cons (pv 1) pa_nil))))
    (pss_cons (ps_set (i := 4) sc_deed_told.nd rfl (Or.inl rfl) (pe_call G_give_answers (hr.mono (by decide)) (by rfl) T.g_give_answers T.k_give_answers T.b_give_answers .nil pass0 (pa_cons (pv 3) (pa_cons (pv 2) pa_nil))))
    (pss_cons (ps_if (pt_cmpR op_lt (pe_callB call_len_seq (by rfl) T.z_len PySem.boot_len (pa_cons (pv 4) pa_nil)) (pe_callB call_len_seq (by rfl) T.z_len PySem.boot_len (pa_cons (pv 2) pa_nil)) (nomark _)) (pss_one (ps_raise rfl (takes_of rfl rfl rfl rfl) (pmk_oex T.x_InvalidAnswers.ox T.x_InvalidAnswers.ii T.x_InvalidAnswers.ti G_InvalidAnswers___init__ (hr.mono (by decide)) T.b_InvalidAnswers___init__ .nil pass0 (by rfl) T.x_InvalidAnswers.g (pa_cons (pe_callB call_len_seq (by rfl) T.z_len PySem.boot_len (pa_cons (pv 4) pa_nil)) pa_nil)))) pss_nil)
    (pss_cons (ps_set (i := 5) sc_deed_told.nd rfl (Or.inl rfl) (pe_ifExp (pt_cmpR op_isN (pe_fld (pv 3) rfl) pe_non (nomark _)) (pe_fld (pv 3) rfl) pe_non))
    (pss_one (ps_ret (pe_tup (pa_cons (pe_fld (pv 3) rfl) (pa_cons (pv 5) (pa_cons (pe_fld (pv 3) rfl) (pa_cons (pv 4) pa_nil))))))))))))))), ?_⟩
    refine ⟨_, rfl, wd, rfl, hw, ?_⟩
    refine ⟨_, rfl, "many", (n : Int), 0, 2500, rfl, by omega, by omega, ?_⟩
    refine ⟨_, rfl, p, as, rfl, hA, fun H1 s1 => ?_⟩
    refine ⟨_, rfl, _, rfl, wd, n, rfl, hw, ne, fun H2 s2 => ?_⟩
    have s02 := s1.trans s2
    refine ⟨_, rfl, _, rfl, wd, n, rfl, hw, hn, ne, fun x r tp H3 F s3 hx0 hr0 ht0 => ?_⟩
    have s03 := s02.trans s3
    have hx0 := s02.free hx0
    have hr0 := s02.free hr0
    have ht0 := s02.free ht0
    have npr : p ≠ r := hA.free hr0
    have npt : p ≠ tp := hA.free ht0
    refine ⟨_, rfl, _, rfl, x, p, r, tp, _, as, rfl, hA.same s03, F, HD.Ok.init (pre0 hn ne), npr, npt, by omega, fun l tp' H4 F4 fr4 hl0 hq4 nlr => ?_⟩
    have s04 : Same H H4 := fun b o h => by
      refine (fr4 b o ?_ ?_ ?_ (s03 _ _ h)).1
      · intro e; rw [e, hx0] at h; cases h
      · intro e; rw [e, hr0] at h; cases h
      · intro e; rw [e, ht0] at h; cases h
    have hl0 := s03.free hl0
    have hA4 := hA.same s04
    have em : mo wd n as = ((HD.runL (f0 wd n) as).1.row, (if (HD.runL (f0 wd n) as).1.wt = none then (HD.runL (f0 wd n) as).1.given else none), (HD.runL (f0 wd n) as).1.wt, (HD.runL (f0 wd n) as).2) := rfl
    generalize HD.runL (f0 wd n) as = rr at em F4 hq4
    obtain ⟨g, qs⟩ := rr
    rw [em] at q qx
    dsimp only at F4 hq4 q qx
    obtain ⟨ts, hts, lts, _⟩ := id hq4
    refine ⟨_, rfl, l, _, rfl, .inl (L2.sq_of hts), _, rfl, p, as.map V.bl, rfl, hA4.imp L2.sq_of L2.st_of, _, _, rfl, rfl, decide (qs.length < as.length), congrArg V.bl (by rw [lts, List.length_map]; simp only [Int.ofNat_lt]), ?_⟩
    by_cases c : qs.length < as.length
    · rw [decide_eq_true c]
      refine iteT ?_
      have el : ((ts.length : Nat) : Int) = ((qs.length : Nat) : Int) := by rw [lts]
      refine ⟨_, rfl, l, _, rfl, .inl (L2.sq_of hts), by show 1 ≤ 1000; decide, fun e heN => ⟨e, _, rfl, upd_same, fun dx hdx nde => ⟨rfl, dx, [("index", .int ((qs.length : Nat) : Int))], by rw [el]; exact upd_same, ?_, ?_, ?_⟩⟩⟩
      · rw [upd_ne nde, upd_same, el]
      · rw [upd_ne nde] at hdx
        exact hdx
      · rw [upd_ne nde] at hdx
        refine qx c dx _ (fun b o h => ?_) (s04.free hdx) upd_same
        have h6 := s04 _ _ h
        have nbd : b ≠ dx := ne_of_none h6 hdx
        have nbe : b ≠ e := ne_of_none h6 heN
        rw [upd_ne nbd, del_ne nbe, upd_ne nbe, upd_ne nbd, upd_ne nbe]
        exact h6
    · rw [decide_eq_false c]
      refine iteF ?_
      obtain ⟨n4, dx4, wv4, hx4, hw4, hr4, ht4⟩ := id F4
      refine ⟨_, rfl, x, a.c_HeapDeed, dx4, _, _, rfl, hx4, T.cl_HeapDeed, T.n_waiting, rfl, rfl, decide (g.wt = none), ?_, ?_⟩
      · cases hwt : g.wt with
        | none => rw [hwt] at hw4; cases hw4; rfl
        | some pr => obtain ⟨i, j⟩ := pr; rw [hwt] at hw4; obtain ⟨t, rfl, _⟩ := hw4; rfl
      have fin : ∀ (t : Addr) (H5 : Hp), Same H4 H5 → H5 t = some (.tup [.ref r, oV (if g.wt = none then g.given else none), wv4, .ref l]) → Q (.ref t) H5 := fun t H5 s5 h5 =>
        q c t r l H5 (s04.trans s5) ⟨wv4, h5, s5 _ _ hr4, hw4.keep (fun _ _ _ => s5 _ _), hq4.same s5, nlr.symm⟩ hr0 hl0
      by_cases cw : g.wt = none
      · rw [decide_eq_true cw]
        rw [if_pos cw] at fin
        refine iteT ⟨_, rfl, x, a.c_HeapDeed, dx4, _, _, rfl, hx4, T.cl_HeapDeed, T.n_given, rfl, ?_⟩
        refine ⟨_, rfl, x, a.c_HeapDeed, dx4, _, _, rfl, hx4, T.cl_HeapDeed, T.n_row, rfl, _, rfl, _, rfl, x, a.c_HeapDeed, dx4, _, _, rfl, hx4, T.cl_HeapDeed, T.n_waiting, rfl, _, rfl, by show 4 ≤ sizeLine; decide, fun t ht => ?_⟩
        exact fin t _ (same_upd ht) upd_same
      · rw [decide_eq_false cw]
        rw [if_neg cw] at fin
        refine iteF ?_
        refine ⟨_, rfl, x, a.c_HeapDeed, dx4, _, _, rfl, hx4, T.cl_HeapDeed, T.n_row, rfl, _, rfl, _, rfl, x, a.c_HeapDeed, dx4, _, _, rfl, hx4, T.cl_HeapDeed, T.n_waiting, rfl, _, rfl, by show 4 ≤ sizeLine; decide, fun t ht => ?_⟩
        exact fin t _ (same_upd ht) upd_same
end

end K88

/-! where the items are amid a deed -/
namespace L2
namespace HD
theorem swap_perm {l : List Nat} {i j : Nat} (hi : i < l.length) (hj : j < l.length) : (swap l i j).Perm l := by
  have h := Array.swap_perm (xs := l.toArray) (i := i) (j := j) (by simpa using hi) (by simpa using hj)
  have h2 := Array.perm_iff_toList_perm.mp h
  rw [Array.toList_swap] at h2
  simp at h2
  unfold swap
  rw [List.getD_eq_getElem?_getD, List.getElem?_eq_getElem hj, List.getD_eq_getElem?_getD, List.getElem?_eq_getElem hi]
  exact h2
structure Kp (f g : HD) : Prop where
  given : g.given = f.given
  row : g.row.Perm f.row
theorem Kp.trans {f g h : HD} (a : Kp f g) (b : Kp g h) : Kp f h := ⟨b.given.trans a.given, b.row.trans a.row⟩
theorem Kp.rise1 (f : HD) : Kp f (HD.rise1 f) := by
  unfold HD.rise1
  split
  · exact ⟨rfl, .refl _⟩
  · exact ⟨rfl, .refl _⟩
theorem Kp.chg {f : HD} {o : Nat} (h1 : f.place < f.row.length) (h2 : o < f.row.length) : Kp f (HD.chg f o) := ⟨rfl, swap_perm h1 h2⟩
theorem Kp.sink {f : HD} (p : f.place < f.row.length) : Kp f (HD.sink f) := by
  unfold HD.sink
  split
  · exact ⟨rfl, .refl _⟩
  · split
    · rename_i c
      have k1 : Kp f { f with phase := 2 } := ⟨rfl, .refl _⟩
      exact (k1.trans (Kp.chg (f := { f with phase := 2 }) p c)).trans (Kp.rise1 _)
    · exact (Kp.trans (g := { f with phase := 2 }) ⟨rfl, .refl _⟩ (Kp.rise1 _))
theorem Kp.begin {f : HD} (l : f.row.length ≤ 2501) (w : f.wt = none) (h : TopsOk f) : Kp f (HD.begin f) := by
  cases e : f.tops.getLast? with
  | none => rw [begin_nil (List.getLast?_eq_none_iff.mp e)]; exact ⟨rfl, .refl _⟩
  | some t =>
    rw [begin_some e]
    exact Kp.trans (g := { f with tops := f.tops.dropLast, top := t, place := t }) ⟨rfl, .refl _⟩ (Kp.sink (sinkOk_begin l w h e).pl)
theorem Kp.rise {f : HD} (l : f.row.length ≤ 2501) (w : f.wt = none) (h : TopsOk f) : Kp f (HD.rise f) := by
  unfold HD.rise
  split
  · exact Kp.rise1 f
  · exact Kp.trans (g := { f with phase := 3 }) ⟨rfl, .refl _⟩ (Kp.begin (f := { f with phase := 3 }) l w h)
theorem Kp.take {f : HD} (h : Ok f) (w : f.wt ≠ none) (n1 : f.phase ≠ 1) (b : Bool) : Kp f (HD.take f b) := by
  have k0 : Kp f { f with wt := none } := ⟨rfl, .refl _⟩
  unfold HD.take
  dsimp only
  rcases h.wt w with ⟨z, _⟩ | ⟨z, z1, z2⟩ | ⟨z, h1, h2⟩
  · exact absurd z n1
  · simp only [if_neg n1, if_pos z]
    have so := sinkOk_take h z w b
    refine (k0.trans (Kp.chg (f := { f with wt := none }) (o := (if b then 2 * f.place + 1 else 2 * f.place + 2)) (by show f.place < f.row.length; omega) ?_)).trans (Kp.sink so.pl)
    show (if b then 2 * f.place + 1 else 2 * f.place + 2) < f.row.length
    cases b <;> simp <;> omega
  · have z4 : ¬ f.phase = 2 := by omega
    simp only [if_neg n1, if_neg z4]
    by_cases c : b = true
    · rw [if_pos c]
      refine (k0.trans (Kp.chg (f := { f with wt := none }) (o := par f.place) h2 (by show (f.place - 1) / 2 < f.row.length; omega))).trans (Kp.rise ?_ rfl (.inl ?_))
      · rw [chg_len]; exact h.len
      · rw [chg_len]; exact h.tops
    · rw [if_neg c]
      exact k0.trans (Kp.begin (f := { f with wt := none }) h.len rfl (.inl h.tops))
theorem set0_perm {l : List Nat} (h : l ≠ []) (x : Nat) : (l.set 0 x ++ [l.getD 0 0]).Perm (l ++ [x]) := by
  cases l with
  | nil => exact absurd rfl h
  | cons a r =>
    show (x :: r ++ [a]).Perm (a :: r ++ [x])
    refine (List.perm_append_comm (l₁ := x :: r) (l₂ := [a])).trans ?_
    refine (List.Perm.swap x a r).trans ?_ |>.trans (List.perm_append_comm (l₁ := [x]) (l₂ := a :: r))
    exact .refl _
theorem last_perm {l : List Nat} (h : l ≠ []) : l.dropLast ++ [l.getD (l.length - 1) 0] = l := by
  rw [List.getD_eq_getElem?_getD, List.getElem?_eq_getElem (by have := List.length_pos_iff.mpr h; omega)]
  have := List.dropLast_concat_getLast h
  rw [List.getLast_eq_getElem] at this
  exact this
/-- how the items stand amid a deed -/
def Std (wd n : Nat) (f : HD) : Prop :=
  (wd ≤ 1 ∧ f.given = none ∧ f.row.Perm (List.range (n + wd)) ∧ f.phase ≠ 1) ∨
  (2 ≤ wd ∧ f.phase ≠ 1 ∧ f.given = some 0 ∧ (f.row ++ [0]).Perm (List.range (n + (if wd = 2 then 0 else 1)))) ∨
  (4 ≤ wd ∧ f.wt = none ∧ f.given = some n ∧ f.row = List.range n) ∨
  (4 ≤ wd ∧ f.wt ≠ none ∧ f.phase = 1 ∧ f.given = none ∧ f.row = List.range n ∧ f.new = some n ∧ n ≠ 0)
theorem phase_rise1 (f : HD) : (HD.rise1 f).phase = 3 := by unfold HD.rise1; split <;> rfl
theorem phase_sink (f : HD) : (HD.sink f).phase ≠ 1 := by
  unfold HD.sink
  split
  · exact (by decide : (2 : Nat) ≠ 1)
  · rw [phase_rise1]; decide
theorem phase_begin {f : HD} (h : f.phase ≠ 1) : (HD.begin f).phase ≠ 1 := by
  cases e : f.tops.getLast? with
  | none => rw [begin_nil (List.getLast?_eq_none_iff.mp e)]; exact h
  | some t => rw [begin_some e]; exact phase_sink _
theorem phase_rise (f : HD) : (HD.rise f).phase ≠ 1 := by
  unfold HD.rise
  split
  · rw [phase_rise1]; decide
  · exact phase_begin (f := { f with phase := 3 }) (by exact (by decide : (3 : Nat) ≠ 1))
theorem phase_take {f : HD} (h : f.phase ≠ 1) (b : Bool) : (f.take b).phase ≠ 1 := by
  unfold HD.take
  dsimp only
  rw [if_neg h]
  split
  · exact phase_sink _
  · split
    · exact phase_rise _
    · exact phase_begin (f := { f with wt := none }) h
theorem first_std {f : HD} (l : f.row.length ≤ 2501) (n0 : f.row ≠ []) (w : f.wt = none) (item : Nat) : (HD.first f item).given = some (f.row.getD 0 0) ∧ (HD.first f item).row.Perm (f.row.set 0 item) ∧ (HD.first f item).phase ≠ 1 := by
  have l0 : 0 < f.row.length := List.length_pos_iff.mpr n0
  have k := Kp.begin (f := { f with given := some (f.row.getD 0 0), row := f.row.set 0 item, tops := [0] }) (by rw [List.length_set]; exact l) w (.inr ⟨Nat.le_refl 1, fun t ht => by
    rw [List.mem_singleton.mp ht, List.length_set]
    exact l0⟩)
  refine ⟨k.given, k.row, ?_⟩
  unfold HD.first
  rw [begin_some (t := 0) rfl]
  exact phase_sink _
theorem std_first {wd n : Nat} {f : HD} (l : f.row.length ≤ 2501) (w : f.wt = none) (e : f.row = List.range n) (n0 : n ≠ 0) (h : 3 ≤ wd) : Std wd n (HD.first f n) := by
  have ne : f.row ≠ [] := fun z => by
    rw [e] at z
    have := congrArg List.length z
    rw [List.length_range] at this
    exact n0 this
  obtain ⟨h1, h2, h3⟩ := first_std l ne w n
  have z : f.row.getD 0 0 = 0 := by
    rw [e, List.getD_eq_getElem?_getD, List.getElem?_range (by omega)]
    rfl
  refine .inr (.inl ⟨by omega, h3, by rw [h1, z], ?_⟩)
  rw [if_neg (by omega)]
  refine (List.Perm.append_right [0] h2).trans ?_
  have := set0_perm ne n
  rw [z] at this
  refine this.trans ?_
  rw [e, List.range_succ]
theorem Std.init {wd n : Nat} (hw : wd ≤ 4) (hn : n ≤ 2500) (ne : wd = 2 ∨ wd = 3 → n ≠ 0) : Std wd n (HD.init wd (List.range n) (some n)) := by
  have lr : (List.range n).length = n := List.length_range
  match wd, hw with
  | 0, _ =>
    have k := Kp.begin (f := { ini (List.range n) (some n) with tops := List.range ((List.range n).length / 2) }) (by show (List.range n).length ≤ 2501; omega) rfl (.inl fun t ht => by
      have ht : t < (List.range n).length / 2 := List.mem_range.mp ht
      show 2 * t + 1 < (List.range n).length
      omega)
    exact .inl ⟨by decide, k.given, k.row, phase_begin (by exact (by decide : (2 : Nat) ≠ 1))⟩
  | 1, _ =>
    have k := Kp.rise (f := { ini (List.range n ++ [n]) (some n) with place := (List.range n).length }) (by show (List.range n ++ [n]).length ≤ 2501; rw [List.length_append, lr]; show n + 1 ≤ 2501; omega) rfl (.inl fun t ht => by cases ht)
    exact .inl ⟨by decide, k.given, by rw [List.range_succ]; exact k.row, phase_rise _⟩
  | 2, _ =>
    have n0 := ne (.inl rfl)
    have nn : List.range n ≠ [] := fun z => by
      have := congrArg List.length z
      rw [lr] at this
      exact n0 this
    have z : (List.range n).getD 0 0 = 0 := by
      rw [List.getD_eq_getElem?_getD, List.getElem?_range (by omega)]
      rfl
    refine .inr (.inl ?_)
    show 2 ≤ 2 ∧ (HD.pop (ini (List.range n) (some n))).phase ≠ 1 ∧ (HD.pop (ini (List.range n) (some n))).given = some 0 ∧ ((HD.pop (ini (List.range n) (some n))).row ++ [0]).Perm (List.range (n + 0))
    unfold HD.pop
    by_cases c : (ini (List.range n) (some n)).row.length = 1
    · have c' : n = 1 := by rw [← lr]; exact c
      subst c'
      rw [if_pos c]
      exact ⟨by decide, by decide, rfl, .refl _⟩
    · have c' : n ≠ 1 := fun e => c (by show (List.range n).length = 1; rw [lr]; exact e)
      rw [if_neg c]
      have nd : ({ ini (List.range n) (some n) with row := (List.range n).dropLast } : HD).row ≠ [] := fun e => by
        have e : (List.range n).dropLast.length = 0 := by rw [show (List.range n).dropLast = [] from e]; rfl
        rw [List.length_dropLast, lr] at e
        omega
      obtain ⟨h1, h2, h3⟩ := first_std (f := { ini (List.range n) (some n) with row := (List.range n).dropLast }) (by show (List.range n).dropLast.length ≤ 2501; rw [List.length_dropLast]; omega) nd rfl ((List.range n).getD ((List.range n).length - 1) 0)
      have z2 : (List.range n).dropLast.getD 0 0 = 0 := by
        rw [List.getD_eq_getElem?_getD, List.getElem?_dropLast, if_pos (by omega), List.getElem?_range (by omega)]
        rfl
      refine ⟨Nat.le_refl 2, h3, h1.trans (congrArg some z2), ?_⟩
      refine (List.Perm.append_right [0] h2).trans ?_
      have := set0_perm nd ((List.range n).getD ((List.range n).length - 1) 0)
      rw [show ({ ini (List.range n) (some n) with row := (List.range n).dropLast } : HD).row.getD 0 0 = 0 from z2] at this
      refine this.trans ?_
      show ((List.range n).dropLast ++ [(List.range n).getD ((List.range n).length - 1) 0]).Perm (List.range (n + 0))
      rw [last_perm nn]
      exact .refl _
  | 3, _ => exact std_first (f := ini (List.range n) (some n)) (by show (List.range n).length ≤ 2501; omega) rfl rfl (ne (.inr rfl)) (Nat.le_refl 3)
  | 4, _ =>
    show Std 4 n (weigh (ini (List.range n) (some n)) n)
    unfold weigh
    by_cases c : (ini (List.range n) (some n)).row = []
    · rw [if_pos c]
      exact .inr (.inr (.inl ⟨by decide, rfl, rfl, rfl⟩))
    · rw [if_neg c]
      exact .inr (.inr (.inr ⟨by decide, Option.some_ne_none _, rfl, rfl, rfl, rfl, fun e => c (by show List.range n = []; rw [e]; rfl)⟩))
theorem Std.take {wd n : Nat} {f : HD} (s : Std wd n f) (h : Ok f) (w : f.wt ≠ none) (b : Bool) : Std wd n (f.take b) := by
  rcases s with ⟨s1, s2, s3, s4⟩ | ⟨s1, s2, s3, s4⟩ | ⟨_, s2, _⟩ | ⟨s1, s2, s3, s4, s5, s6, s7⟩
  · have k := Kp.take h w s4 b
    exact .inl ⟨s1, k.given.trans s2, k.row.trans s3, phase_take s4 b⟩
  · have k := Kp.take h w s2 b
    exact .inr (.inl ⟨s1, phase_take s2 b, k.given.trans s3, (List.Perm.append_right [0] k.row).trans s4⟩)
  · exact absurd s2 w
  · unfold HD.take
    dsimp only
    rw [if_pos s3, s6]
    unfold weight
    by_cases c : b = true
    · rw [if_pos c]
      exact std_first (wd := wd) (f := ⟨f.row, some n, f.given, none, f.tops, f.top, f.place, f.phase⟩) h.len rfl s5 s7 (by omega)
    · rw [if_neg c]
      exact .inr (.inr (.inl ⟨s1, rfl, rfl, s5⟩))
theorem runL_std {wd n : Nat} : ∀ (as : List Bool) {f : HD}, Std wd n f → Ok f → Std wd n (runL f as).1 ∧ Ok (runL f as).1 ∧ ((runL f as).2 = [] → (runL f as).1 = f)
  | [], f, s, h => ⟨s, h, fun _ => rfl⟩
  | b :: bs, f, s, h => by
    cases e : f.wt with
    | none => rw [runL_done e]; exact ⟨s, h, fun _ => rfl⟩
    | some q =>
      rw [runL_cons e]
      have w : f.wt ≠ none := by rw [e]; exact Option.some_ne_none _
      obtain ⟨h1, h2, _⟩ := runL_std bs (s.take h w b) (h.take w b)
      exact ⟨h1, h2, fun z => by cases z⟩
theorem runL_asked {f : HD} : ∀ (as : List Bool), f.wt ≠ none → (runL f as).2 = [] → as = []
  | [], _, _ => rfl
  | b :: bs, h, e => by
    obtain ⟨q, hq⟩ := Option.ne_none_iff_exists'.mp h
    rw [runL_cons hq] at e
    cases e
/-- the items that do not stand in the row -/
def lost (row : List Nat) (n : Nat) : List Nat := (List.range n).filter fun i => !row.contains i
theorem lost_of {row : List Nat} {n x : Nat} (h : (row ++ [x]).Perm (List.range n)) : lost row n = [x] := by
  have nd : (row ++ [x]).Nodup := h.nodup_iff.mpr List.nodup_range
  have nx : x ∉ row := fun hx => by
    have := (List.nodup_append.mp nd).2.2 x hx x (List.mem_singleton.mpr rfl)
    exact this rfl
  have p : (lost row n).Perm [x] := by
    refine (List.perm_ext_iff_of_nodup (List.Pairwise.filter _ List.nodup_range) (by simp)).mpr fun i => ?_
    rw [List.mem_filter, List.mem_singleton]
    have hm : i ∈ List.range n ↔ i ∈ row ++ [x] := h.mem_iff.symm
    rw [hm, List.mem_append, List.mem_singleton]
    constructor
    · rintro ⟨h1, h2⟩
      rcases h1 with h1 | h1
      · simp [h1] at h2
      · exact h1
    · rintro rfl
      exact ⟨.inr rfl, by simp [nx]⟩
  exact List.perm_singleton.mp p
theorem lost_nil {row : List Nat} {n : Nat} (h : row.Perm (List.range n)) : lost row n = [] := by
  unfold lost
  rw [List.filter_eq_nil_iff]
  intro i hi
  simp [h.mem_iff.mpr hi]
/-- what the law asks of the items -/
def ItsOk (wd n : Nat) (o : Out) : Prop :=
  (∃ g, o.2.1 = some g ∧ (o.1 ++ [g]).Perm (List.range (n + (if wd = 1 ∨ 3 ≤ wd then 1 else 0)))) ∨
  (o.2.1 = none ∧ o.2.2.1 = none ∧ o.1.Perm (List.range (n + (if wd = 1 ∨ 3 ≤ wd then 1 else 0)))) ∨
  (o.2.1 = none ∧ o.2.2.1 ≠ none ∧ (wd = 4 → o.2.2.2 = [] → o.1 = List.range n) ∧ lost o.1 (n + (if wd = 1 ∨ 3 ≤ wd then 1 else 0)) = (if wd = 4 ∧ o.2.2.2 = [] then [n] else if 2 ≤ wd then [0] else []))
theorem its_ok {wd n : Nat} (hw : wd ≤ 4) (hn : n ≤ 2500) (ne : wd = 2 ∨ wd = 3 → n ≠ 0) (as : List Bool) (hp : Pre wd (List.range n) (some n)) : ItsOk wd n (mach (HD.init wd (List.range n) (some n)) as []) := by
  have h0 := Std.init hw hn ne
  obtain ⟨s, ok, back⟩ := runL_std as h0 (Ok.init hp)
  have em : mach (HD.init wd (List.range n) (some n)) as [] = ((runL (HD.init wd (List.range n) (some n)) as).1.row, (if (runL (HD.init wd (List.range n) (some n)) as).1.wt = none then (runL (HD.init wd (List.range n) (some n)) as).1.given else none), (runL (HD.init wd (List.range n) (some n)) as).1.wt, (runL (HD.init wd (List.range n) (some n)) as).2) := rfl
  rw [em]
  have asked : 4 ≤ wd → (runL (HD.init wd (List.range n) (some n)) as).2 = [] → (runL (HD.init wd (List.range n) (some n)) as).1.wt ≠ none → (runL (HD.init wd (List.range n) (some n)) as).1.phase = 1 := fun h4 e w => by
    have eb := back e
    rw [eb] at w ⊢
    have : wd = 4 := by omega
    subst this
    show (weigh (ini (List.range n) (some n)) n).phase = 1
    have w : (weigh (ini (List.range n) (some n)) n).wt ≠ none := w
    unfold weigh at w ⊢
    split
    · rename_i c; rw [if_pos c] at w; exact absurd rfl w
    · rfl
  have ph : (runL (HD.init wd (List.range n) (some n)) as).1.phase = 1 → (runL (HD.init wd (List.range n) (some n)) as).1.wt ≠ none → (runL (HD.init wd (List.range n) (some n)) as).2 = [] := fun p w => by
    cases as with
    | nil => rfl
    | cons b bs =>
      exfalso
      cases e : (HD.init wd (List.range n) (some n)).wt with
      | none => rw [runL_done e] at w; exact w e
      | some q =>
        rw [runL_cons e] at p w
        have w0 : (HD.init wd (List.range n) (some n)).wt ≠ none := by rw [e]; exact Option.some_ne_none _
        -- behind an answer nothing is weighed
        have key : ∀ (l : List Bool) (g : HD), (g.phase ≠ 1 ∨ g.wt = none) → (runL g l).1.phase ≠ 1 ∨ (runL g l).1.wt = none := by
          intro l
          induction l with
          | nil => intro g h; exact h
          | cons c l ih =>
            intro g h
            cases e2 : g.wt with
            | none => rw [runL_done e2]; exact .inr e2
            | some q2 =>
              rw [runL_cons e2]
              refine ih _ (.inl (phase_take (h.resolve_right (by rw [e2]; exact Option.some_ne_none _)) c))
        have st : ((HD.init wd (List.range n) (some n)).take b).phase ≠ 1 ∨ ((HD.init wd (List.range n) (some n)).take b).wt = none := by
          by_cases c : (HD.init wd (List.range n) (some n)).phase = 1
          · unfold HD.take
            dsimp only
            rw [if_pos c]
            unfold weight
            split
            · refine .inl ?_
              rcases (Ok.init hp).wt w0 with ⟨_, nn, _⟩ | ⟨z, _⟩ | ⟨z, _⟩
              · exact (first_std (f := { HD.init wd (List.range n) (some n) with wt := none }) (Ok.init hp).len nn rfl _).2.2
              · omega
              · omega
            · exact .inr rfl
          · exact .inl (phase_take c b)
        rcases key bs _ st with h | h
        · exact h p
        · exact w h
  generalize runL (HD.init wd (List.range n) (some n)) as = rr at s asked ph ⊢
  obtain ⟨g, qs⟩ := rr
  dsimp only at s asked ph ⊢
  rcases s with ⟨s1, s2, s3, s4⟩ | ⟨s1, s2, s3, s4⟩ | ⟨s1, s2, s3, s4⟩ | ⟨s1, s2, s3, s4, s5, s6, s7⟩
  · have et : n + wd = n + (if wd = 1 ∨ 3 ≤ wd then 1 else 0) := by
      rcases (show wd = 0 ∨ wd = 1 by omega) with rfl | rfl <;> rfl
    rw [et] at s3
    by_cases w : g.wt = none
    · refine .inr (.inl ⟨?_, w, s3⟩)
      show (if g.wt = none then g.given else none) = none
      rw [if_pos w]; exact s2
    · refine .inr (.inr ⟨?_, w, fun h => by omega, ?_⟩)
      · show (if g.wt = none then g.given else none) = none
        rw [if_neg w]
      · show lost g.row (n + (if wd = 1 ∨ 3 ≤ wd then 1 else 0)) = (if wd = 4 ∧ qs = [] then [n] else if 2 ≤ wd then [0] else [])
        rw [lost_nil s3, if_neg (fun z => by have := z.1; omega), if_neg (by omega)]
  · have et : n + (if wd = 2 then 0 else 1) = n + (if wd = 1 ∨ 3 ≤ wd then 1 else 0) := by
      by_cases c : wd = 2
      · subst c; rfl
      · rw [if_neg c, if_pos (by omega)]
    rw [et] at s4
    by_cases w : g.wt = none
    · refine .inl ⟨0, ?_, s4⟩
      show (if g.wt = none then g.given else none) = some 0
      rw [if_pos w]; exact s3
    · have nq : ¬ (wd = 4 ∧ qs = []) := fun z => s2 (asked (by omega) z.2 w)
      refine .inr (.inr ⟨?_, w, fun h1 h2 => absurd ⟨h1, h2⟩ nq, ?_⟩)
      · show (if g.wt = none then g.given else none) = none
        rw [if_neg w]
      · rw [if_neg nq, if_pos s1]
        exact lost_of s4
  · refine .inl ⟨n, ?_, ?_⟩
    · show (if g.wt = none then g.given else none) = some n
      rw [if_pos s2]; exact s3
    · show (g.row ++ [n]).Perm _
      rw [s4, if_pos (by omega), List.range_succ]
  · have e := ph s3 s2
    refine .inr (.inr ⟨?_, s2, fun _ _ => s5, ?_⟩)
    · show (if g.wt = none then g.given else none) = none
      rw [if_neg s2]
    · show lost g.row (n + (if wd = 1 ∨ 3 ≤ wd then 1 else 0)) = (if wd = 4 ∧ qs = [] then [n] else if 2 ≤ wd then [0] else [])
      rw [if_pos (show wd = 4 ∧ qs = [] from ⟨by omega, e⟩), if_pos (show wd = 1 ∨ 3 ≤ wd by omega)]
      rw [s5]
      exact lost_of (by rw [List.range_succ])
end HD
end L2

/-! sorting by a key keeps equal ones as they came -/
namespace L2
open PySem PySem.Spec PyProof.Rows
theorem no_swap : ∀ {l : List Nat} {x y : Nat}, l.Nodup → x ≠ y → [x, y].Sublist l → [y, x].Sublist l → False := by
  intro l
  induction l with
  | nil => intro x y _ _ h _; cases h
  | cons z l ih =>
    intro x y hn hxy h1 h2
    obtain ⟨n1, n2⟩ := List.nodup_cons.mp hn
    cases h1 with
    | cons _ h1 =>
      cases h2 with
      | cons _ h2 => exact ih n2 hxy h1 h2
      | cons_cons _ h2 => exact n1 (h1.subset (by simp))
    | cons_cons _ h1 =>
      cases h2 with
      | cons _ h2 => exact n1 (h2.subset (by simp))
      | cons_cons _ h2 => exact hxy rfl
theorem lx_of (f : Nat → Int) {L : List Nat} {i j : Nat} (hi : i < L.length) (hj : j < L.length) (hij : i < j) (nd : L.Nodup) (h : f L[i] ≤ f L[j]) (st : L[j] < L[i] → f L[j] ≤ f L[i] → [L[j], L[i]].Sublist L) : Lx f L[i] L[j] := by
  have pr : [L[i], L[j]].Sublist L := by
    have e : L = L.take j ++ L.drop j := (List.take_append_drop _ _).symm
    have h1 : L[i] ∈ L.take j := List.mem_iff_getElem.mpr ⟨i, by rw [List.length_take]; omega, by rw [List.getElem_take]⟩
    have h2 : L[j] ∈ L.drop j := List.mem_iff_getElem.mpr ⟨0, by rw [List.length_drop]; omega, by rw [List.getElem_drop]; rfl⟩
    have h3 : ([L[i]] ++ [L[j]]).Sublist (L.take j ++ L.drop j) := List.Sublist.append (List.singleton_sublist.mpr h1) (List.singleton_sublist.mpr h2)
    rw [List.take_append_drop] at h3
    exact h3
  by_cases c : f L[i] < f L[j]
  · exact .inl c
  · refine .inr ⟨by omega, ?_⟩
    rcases Nat.lt_trichotomy L[i] L[j] with d | d | d
    · exact d
    · have := (List.nodup_iff_pairwise_ne.mp nd)
      rw [List.pairwise_iff_getElem] at this
      exact absurd d (this i j hi hj hij)
    · exact (no_swap nd (by omega) pr (st d (by omega))).elim
theorem stab_merge (f : Nat → Int) (n : Nat) : Stab f n ((List.range n).mergeSort fun a b => decide (f a ≤ f b)) := by
  have tr : ∀ a b c : Nat, decide (f a ≤ f b) = true → decide (f b ≤ f c) = true → decide (f a ≤ f c) = true := fun a b c h1 h2 => by
    have h1 := of_decide_eq_true h1
    have h2 := of_decide_eq_true h2
    exact decide_eq_true (by omega)
  have to : ∀ a b : Nat, (decide (f a ≤ f b) || decide (f b ≤ f a)) = true := fun a b => by
    rcases Int.le_total (f a) (f b) with h | h
    · rw [decide_eq_true h]; rfl
    · rw [decide_eq_true h, Bool.or_true]
  have pm : ((List.range n).mergeSort fun a b => decide (f a ≤ f b)).Perm (List.range n) := List.mergeSort_perm _ _
  have nd : ((List.range n).mergeSort fun a b => decide (f a ≤ f b)).Nodup := pm.nodup_iff.mpr List.nodup_range
  have st : ∀ a b, a < b → b < n → f a ≤ f b → [a, b].Sublist ((List.range n).mergeSort fun a b => decide (f a ≤ f b)) := fun a b hab hb h =>
    List.pair_sublist_mergeSort tr to (decide_eq_true h) (by
      have e : List.range n = List.range b ++ (List.range (n - b)).map (fun i => b + i) := by
        rw [← List.range_add, show b + (n - b) = n by omega]
      have h3 : ([a] ++ [b]).Sublist (List.range b ++ (List.range (n - b)).map (fun i => b + i)) := List.Sublist.append (List.singleton_sublist.mpr (List.mem_range.mpr hab)) (List.singleton_sublist.mpr (List.mem_map.mpr ⟨0, List.mem_range.mpr (by omega), rfl⟩))
      rw [e]
      exact h3)
  refine ⟨pm, ?_⟩
  have sr := List.pairwise_mergeSort tr to (List.range n)
  rw [List.pairwise_iff_getElem] at sr ⊢
  intro i j hi hj hij
  exact lx_of f hi hj hij nd (of_decide_eq_true (sr i j hi hj hij)) fun d h => st _ _ d (List.mem_range.mp (pm.mem_iff.mp (List.getElem_mem hi))) h
theorem merge_ints (ns : List Int) : (((List.range ns.length).map fun (i : Nat) => (i : Int)).mergeSort fun a b => decide (ns.getD a.toNat 0 ≤ ns.getD b.toNat 0)) = ((List.range ns.length).mergeSort fun a b => decide (ns.getD a 0 ≤ ns.getD b 0)).map fun (i : Nat) => (i : Int) :=
  (List.map_mergeSort fun a _ b _ => by simp).symm
/-! what placing tells, both parts -/
def pdD (row : List Nat) (qs : List (Nat × Nat)) : PyData := .tuple [.list ((row.map fun (i : Nat) => (i : Int)).map PyData.int), .list (qs.map pD)]
theorem shaped_pd (row : List Nat) (qs : List (Nat × Nat)) : SeqAt.shaped (pdD row qs) = true := by
  unfold SeqAt.shaped
  rw [Bool.and_eq_true]
  constructor
  · show (PyData.canLayAll0 ((row.map fun (i : Nat) => (i : Int)).map PyData.int) && (PyData.canLayAll0 (qs.map pD) && true)) = true
    rw [canLay_ints, canLay_pairs]
    rfl
  · refine decide_eq_true ?_
    show max (PyData.depthAll ((row.map fun (i : Nat) => (i : Int)).map PyData.int) + 1) (max (PyData.depthAll (qs.map pD) + 1) 0) + 1 ≤ 64
    have h2 := depth_pairs qs
    rw [depth_ints]
    omega
theorem eqv_pd (row : List Nat) (qs : List (Nat × Nat)) : PyData.eqv (pdD row qs) (pdD row qs) = true := SeqAt.eqv_refl _ (SeqAt.canLay_of_shaped (shaped_pd row qs))
theorem dp_pd {K : PySem.W.Frag} {H : Hp} {t r l : Addr} {row : List Nat} {qs : List (Nat × Nat)} (ht : H t = some (.tup [.ref r, .ref l])) (hr : H r = some (.lst (nV row))) (hq : QAt H l qs) : Dp K H (.ref t) (pdD row qs) := by
  obtain ⟨ts, h1, h2, h3⟩ := hq
  exact .tup (L2.st_of ht) (.cons (dp_ints (by rw [← nV_map]; exact L2.sq_of hr)) (.cons (.lst (L2.sq_of h1) (dpAll_pairs h2 h3)) .nil))
theorem shaped_qs (qs : List (Nat × Nat)) : SeqAt.shaped (.list (qs.map pD)) = true := by
  unfold SeqAt.shaped
  rw [Bool.and_eq_true]
  constructor
  · show PyData.canLayAll0 (qs.map pD) = true
    exact canLay_pairs qs
  · refine decide_eq_true ?_
    show PyData.depthAll (qs.map pD) + 1 ≤ 64
    have h2 := depth_pairs qs
    omega
theorem eqv_qs (qs : List (Nat × Nat)) : PyData.eqv (.list (qs.map pD)) (.list (qs.map pD)) = true := SeqAt.eqv_refl _ (SeqAt.canLay_of_shaped (shaped_qs qs))
theorem dp_qs {K : PySem.W.Frag} {H : Hp} {l : Addr} {qs : List (Nat × Nat)} (hq : QAt H l qs) : Dp K H (.ref l) (.list (qs.map pD)) := by
  obtain ⟨ts, h1, h2, h3⟩ := hq
  exact .lst (L2.sq_of h1) (dpAll_pairs h2 h3)
end L2

namespace K88
open PySem PySem.Spec PyProof.Rows L2
abbrev tot (wd n : Nat) : Nat := n + (if wd = 1 ∨ 3 ≤ wd then 1 else 0)
def spItems : Sp := fun vs H Q _ => ∃ (t r l : Addr) (wd n : Nat) (o : HD.Out), vs = [.str (dW wd), .int (n : Int), .ref t] ∧ wd ≤ 4 ∧ n ≤ 2500 ∧ OutAt H t r l o ∧ HD.ItsOk wd n o ∧ ∀ H', Same H H' → Q (.bl true) H'
theorem grown_in {wd : Nat} (h : wd ≤ 4) : inV (.str (dW wd)) [.str "replace", .str "pushpop"] = decide (3 ≤ wd) := by
  rcases wd_cases h with rfl | rfl | rfl | rfl | rfl <;> decide +kernel
theorem three_in {wd : Nat} (h : wd ≤ 4) : inV (.str (dW wd)) [.str "pop", .str "replace", .str "pushpop"] = decide (2 ≤ wd) := by
  rcases wd_cases h with rfl | rfl | rfl | rfl | rfl <;> decide +kernel
theorem push_eq {wd : Nat} (h : wd ≤ 4) : decide (V.str (dW wd) = V.str "push") = decide (wd = 1) := by
  rcases wd_cases h with rfl | rfl | rfl | rfl | rfl <;> decide +kernel
theorem pp_eq {wd : Nat} (h : wd ≤ 4) : decide (V.str (dW wd) = V.str "pushpop") = decide (wd = 4) := by
  rcases wd_cases h with rfl | rfl | rfl | rfl | rfl <;> decide +kernel
theorem inV_nat {row : List Nat} {i : Nat} : inV (.int (i : Int)) (nV row) = row.contains i := by
  unfold inV
  induction row with
  | nil => rfl
  | cons a r ih =>
    show (eqV (.int (a : Int)) (.int (i : Int)) || (nV r).any fun y => eqV y (.int (i : Int))) = (i == a || r.contains i)
    rw [ih]
    congr 1
    show decide ((a : Int) = (i : Int)) = decide (i = a)
    by_cases c : i = a
    · rw [decide_eq_true c, decide_eq_true (by rw [c])]
    · rw [decide_eq_false c, decide_eq_false (fun e => c (by omega))]
theorem all_flat (row : List Nat) : (nV row).all flatV = true := by
  rw [List.all_eq_true]
  intro x hx
  obtain ⟨i, _, rfl⟩ := List.mem_map.mp hx
  rfl
theorem ups_sorted (n : Nat) : ((List.range n).map fun (i : Nat) => (i : Int)).Pairwise (· ≤ ·) := by
  rw [List.pairwise_map]
  refine List.Pairwise.imp ?_ List.pairwise_lt_range
  intro a b h
  omega
theorem sorted_ups {ns : List Int} {row : List Nat} {n : Nat} (pm : ns.Perm (row.map fun (i : Nat) => (i : Int))) (s : ns.Pairwise (· ≤ ·)) (h : row.Perm (List.range n)) : ns = (List.range n).map fun (i : Nat) => (i : Int) :=
  sorted_one (pm.trans (h.map _)) s (ups_sorted n)
theorem eqv_intsR (ns : List Int) : PyData.eqv (.list (ns.map PyData.int)) (.list (ns.map PyData.int)) = true := SeqAt.eqv_refl _ (SeqAt.canLay_of_shaped (shaped_ints _))
section
variable {P : Program} {w : World} {K : PySem.W.Frag} {mg : Str → Option Value} {base : Heap} {a : Ad} {d : Fd}
theorem ok_items (T : Txt K mg a d) : FnOk P w K mg base CX0 1 a.items_right d.items_right P_items_right spItems := by
  refine T.f_items_right.ok sc_items_right (fun vs H Q E h => ?_) (fun cdv A outer s0 H vs Q E hr h => ?_)
  · obtain ⟨t, r, l, wd, n, o, rfl, _⟩ := h
    rfl
  · obtain ⟨t, r, l, wd, n, o, rfl, hw, hn, ho, hi, q⟩ := h
    refine ⟨_, (pss_cons (ps_asg (pv 2) (pg_tup rfl (pgs_cons (pg_name (i := 3) sc_items_right.nd rfl (Or.inr rfl)) (pgs_cons (pg_name (i := 4) sc_items_right.nd rfl (Or.inl rfl)) (pgs_cons (pg_name (i := 5) sc_items_right.nd rfl (Or.inl rfl)) (pgs_cons (pg_name (i := 6) sc_items_right.nd rfl (Or.inl rfl)) pgs_nil))))))
    (C8.pss_cut (ps_set (i := 7) sc_items_right.nd rfl (Or.inl rfl) (pe_listRg (by rfl) (by rfl) T.z_list (prg_1 (by rfl) T.z_range (pe_op op_add (pv 1) (pe_callTy call_int1 (by rfl) T.z_int (by decide +kernel) (pa_cons (pe_or (pe_cmpR op_eq (pv 0) pe_str (nomark _)) (pe_one (pe_cmpR op_in_seq (pv 0) (pe_tup (pa_cons pe_str (pa_cons pe_str pa_nil))) (by rfl)))) pa_nil))))))
    (pss_cons (ps_if (pt_cmpR op_notN (pv 4) pe_non (nomark _)) (pss_one (ps_ret (pe_cmpR (op_eqD hr.units) (pe_callB cr_sortedI (by rfl) T.z_sorted (by decide +kernel) (pa_cons (pe_op op_catS (pv 3) (pe_lst (pa_cons (pv 4) pa_nil))) pa_nil)) (pv 7) (nomark _)))) pss_nil)
    (pss_cons (ps_if (pt_cmpR op_isN (pv 5) pe_non (nomark _)) (pss_one (ps_ret (pe_cmpR (op_eqD hr.units) (pe_callB cr_sortedI (by rfl) T.z_sorted (by decide +kernel) (pa_cons (pv 3) pa_nil)) (pv 7) (nomark _)))) pss_nil)
    (pss_cons (ps_setLc (i := 8) (own := [("item", 9)]) (g := gName 9)  rfl sc_items_right.nd rfl rfl (sw_true rfl rfl rfl (by decide +kernel)) (pi_list (pv 7)) (blkOk_by (N := N_items_right) (sc := defScope s_items_right) (by decide +kernel)) (fun _ _ _ _ _ => pg_name (i := 9) sc_items_right.nd rfl (Or.inl rfl)) (fun _ _ _ _ _ => (pts_one (pt_cmpR (show OpR _ _ (rIn K true) from op_notIn_seq) (pv 9) (pv 3) (by rfl)))) (fun _ _ _ _ _ => (pv 9)))
    (pss_cons (ps_if (PW.pt (pw_and (pt_cmpR op_eq (pv 0) pe_str (nomark _)) (pw_and1 (pt_cmpR (op_eqD hr.units) (pv 6) (pe_lst pa_nil) (nomark _))))) (pss_one (ps_ret (pe_and (pe_cmpR (op_eqD hr.units) (pv 8) (pe_lst (pa_cons (pv 1) pa_nil)) (nomark _)) (pe_one (pe_cmpR (op_eqD hr.units) (pv 3) (pe_slice sl_list (pv 7) po_none (po_some (pe_un un_neg pe_int))) (nomark _)))))) pss_nil)
    (pss_cons (ps_if (pt_cmpR op_in_seq (pv 0) (pe_tup (pa_cons pe_str (pa_cons pe_str (pa_cons pe_str pa_nil)))) (by rfl)) (pss_one (ps_ret (pe_cmpR (op_eqD hr.units) (pv 8) (pe_lst (pa_cons pe_int pa_nil)) (nomark _)))) pss_nil)
    (pss_one (ps_ret (pe_cmpR (op_eqD hr.units) (pv 8) (pe_lst pa_nil) (nomark _))))))))))), ?_⟩
    obtain ⟨wv, ht, hr0, hwt, hq, nrl⟩ := ho
    obtain ⟨row, gv, wt, qs⟩ := o
    dsimp only at ht hr0 hwt hq
    refine ⟨_, rfl, t, _, rfl, L2.st_of ht, rfl, _, _, rfl, _, _, rfl, _, _, rfl, _, _, rfl, rfl, ?_⟩
    refine ⟨fun σ' H' => ∃ dd : Addr, σ' = [some (.str (dW wd)), some (.int (n : Int)), some (.ref t), some (.ref r), some (oV gv), some wv, some (.ref l), some (.ref dd), none, none] ∧ Same H H' ∧ H' dd = some (.lst (nV (List.range (tot wd n)))), ?_, ?_⟩
    · have tl : tot wd n ≤ 2501 := by show n + (if wd = 1 ∨ 3 ≤ wd then 1 else 0) ≤ 2501; split <;> omega
      have go : ∀ (H1 : Hp) (z : Int), Same H H1 → (n : Int) + z = ((tot wd n : Nat) : Int) → (RgOk 0 ((n : Int) + z) ∧ ∀ q, H1 q = none → ∃ dd : Addr, V.ref q = .ref dd ∧ Same H (upd H1 q (.lst (rgV 0 ((n : Int) + z)))) ∧ upd H1 q (.lst (rgV 0 ((n : Int) + z))) dd = some (.lst (nV (List.range (tot wd n))))) := fun H1 z s1 e => by
        rw [e, rg_nat]
        exact ⟨.of_le (by decide) (by omega) (by decide) (by omega), fun q hq => ⟨q, rfl, s1.trans (same_upd hq), upd_same⟩⟩
      refine ⟨_, rfl, _, rfl, rfl, decide (wd = 1), congrArg V.bl (push_eq hw), ?_⟩
      by_cases c : wd = 1
      · rw [decide_eq_true c]
        refine iteT (.inr ⟨_, rfl, _, _, rfl, rfl, _, rfl, ?_⟩)
        obtain ⟨g1, g2⟩ := go H 1 (Same.refl _) (by show (n : Int) + 1 = ((n + (if wd = 1 ∨ 3 ≤ wd then 1 else 0) : Nat) : Int); rw [if_pos (.inl c)]; omega)
        exact ⟨g1, fun q hq => by
          obtain ⟨dd, e1, e2, e3⟩ := g2 q hq
          cases e1
          exact ⟨q, rfl, e2, e3⟩⟩
      · rw [decide_eq_false c]
        refine iteF ⟨_, rfl, by show 2 ≤ sizeLine; decide, fun t2 ht2 => ⟨t2, _, rfl, .inr (L2.st_of upd_same), rfl, rfl, .inr ⟨decide (3 ≤ wd), congrArg (fun z => [V.bl z]) (grown_in hw), _, _, rfl, rfl, _, rfl, ?_⟩⟩⟩
        obtain ⟨g1, g2⟩ := go _ (if decide (3 ≤ wd) = true then 1 else 0) (same_upd (o := .tup [.str "replace", .str "pushpop"]) ht2) (by
          show (n : Int) + (if decide (3 ≤ wd) = true then 1 else 0) = ((n + (if wd = 1 ∨ 3 ≤ wd then 1 else 0) : Nat) : Int)
          by_cases c3 : 3 ≤ wd
          · rw [if_pos (decide_eq_true c3), if_pos (.inr c3)]; omega
          · rw [if_neg (by simpa using c3), if_neg (by omega)]; omega)
        exact ⟨g1, fun q hq => by
          obtain ⟨dd, e1, e2, e3⟩ := g2 q hq
          cases e1
          exact ⟨q, rfl, e2, e3⟩⟩
    rintro σ' H1 ⟨dd, rfl, s1, hdd⟩
    have hr1 := s1 _ _ hr0
    have hdI : SqL K H1 dd (((List.range (tot wd n)).map fun (i : Nat) => (i : Int)).map V.int) := by rw [← nV_map]; exact L2.sq_of hdd
    have ldd : (nV (List.range (tot wd n))).length ≤ 2501 := by
      rw [List.length_map, List.length_range]
      show n + (if wd = 1 ∨ 3 ≤ wd then 1 else 0) ≤ 2501
      split <;> omega
    rcases hi with ⟨g, hg, pm⟩ | ⟨hg, hwn, pm⟩ | ⟨hg, hwn, hrow, hlost⟩
    · have hg : gv = some g := hg
      subst hg
      refine ⟨_, rfl, rfl, true, rfl, iteT ?_⟩
      have lr : row.length ≤ 2501 := by
        have := pm.length_eq
        rw [List.length_append, List.length_range] at this
        have l2 := ldd
        rw [List.length_map, List.length_range] at l2
        have : row.length + 1 = tot wd n := this
        omega
      refine ⟨_, rfl, _, rfl, by show 1 ≤ sizeLine; decide, fun l2 hl2 => ⟨r, l2, _, _, rfl, rfl, L2.sq_of (same_upd hl2 _ _ hr1), L2.sq_of upd_same, by rw [List.length_map]; exact Nat.le_trans (Nat.add_le_add_right lr 1) (by decide), fun c hc => ?_⟩⟩
      have s2 := (same_upd (o := .lst [oV (some g)]) hl2).trans (same_upd (o := .lst (nV row ++ [oV (some g)])) hc)
      have kc : upd (upd H1 l2 (.lst [oV (some g)])) c (.lst (nV row ++ [oV (some g)])) c = some (.lst (((row ++ [g]).map fun (i : Nat) => (i : Int)).map V.int)) := by rw [upd_same]; simp [nV, oV]
      generalize upd (upd H1 l2 (.lst [oV (some g)])) c (.lst (nV row ++ [oV (some g)])) = H2 at s2 kc ⊢
      refine ⟨c, _, rfl, L2.sq_of kc, fun ns' p pm' srt hp => ?_⟩
      have e := sorted_ups pm' srt pm
      subst e
      have s3 := same_upd (o := .lst (((List.range (n + (if wd = 1 ∨ 3 ≤ wd then 1 else 0))).map fun (i : Nat) => (i : Int)).map V.int)) hp
      refine ⟨_, rfl, _, _, dp_ints (L2.sq_of upd_same), dp_ints ((s2.trans s3).seq hdI), shaped_ints _, shaped_ints _, ?_⟩
      rw [eqv_intsR]
      exact q _ ((s1.trans s2).trans s3)
    · have hg : gv = none := hg
      subst hg
      have hwn : wt = none := hwn
      subst hwn
      cases hwt
      refine ⟨_, rfl, rfl, false, rfl, iteF ⟨_, rfl, rfl, true, rfl, iteT ?_⟩⟩
      refine ⟨_, rfl, r, _, rfl, by rw [← nV_map]; exact L2.sq_of hr1, fun ns' p pm' srt hp => ?_⟩
      have e := sorted_ups pm' srt pm
      subst e
      have s3 := same_upd (o := .lst (((List.range (n + (if wd = 1 ∨ 3 ≤ wd then 1 else 0))).map fun (i : Nat) => (i : Int)).map V.int)) hp
      refine ⟨_, rfl, _, _, dp_ints (L2.sq_of upd_same), dp_ints (s3.seq hdI), shaped_ints _, shaped_ints _, ?_⟩
      rw [eqv_intsR]
      exact q _ (s1.trans s3)
    · have hg : gv = none := hg
      subst hg
      obtain ⟨pr, hpr⟩ := Option.ne_none_iff_exists'.mp hwn
      have hpr : wt = some pr := hpr
      subst hpr
      obtain ⟨x, y⟩ := pr
      obtain ⟨tq, rfl, htq⟩ := hwt
      dsimp only at hlost hrow
      refine ⟨_, rfl, rfl, false, rfl, iteF ⟨_, rfl, rfl, false, rfl, iteF ?_⟩⟩
      refine ⟨_, rfl, dd, rfl, ⟨_, L2.sq_of hdd⟩, fun D hD => ?_⟩
      refine lc_list (K := K) (a := dd) (xs := nV (List.range (tot wd n))) (fun i H' => Same H1 H' ∧ H' D = some (.lst (nV (((List.range (tot wd n)).take i).filter fun k => !row.contains k)))) ⟨same_upd hD, upd_same⟩ (fun i H' _ h => L2.sq_of (h.1 _ _ hdd)) ?_ ?_
      · rintro i yv H2 hy ⟨s2, hD2⟩
        obtain ⟨k, rfl, ek⟩ : ∃ k : Nat, yv = .int (k : Int) ∧ (List.range (tot wd n))[i]? = some k := by
          rw [List.getElem?_map] at hy
          cases e : (List.range (tot wd n))[i]? with
          | none => rw [e] at hy; cases hy
          | some k => rw [e] at hy; exact ⟨k, (Option.some.inj hy).symm, rfl⟩
        refine ⟨rfl, _, rfl, _, rfl, r, _, rfl, .inl (L2.sq_of (s2 _ _ hr1)), rfl, all_flat _, !row.contains k, congrArg V.bl (congrArg not inV_nat), ?_⟩
        have et : ((List.range (tot wd n)).take (i + 1)).filter (fun k => !row.contains k) = ((List.range (tot wd n)).take i).filter (fun k => !row.contains k) ++ (if (!row.contains k) = true then [k] else []) := by
          rw [List.take_add_one, ek, List.filter_append]
          congr 1
          show List.filter (fun k => !row.contains k) [k] = _
          rw [List.filter_cons, List.filter_nil]
        cases c : row.contains k with
        | false =>
          rw [c] at et
          refine iteT ⟨_, rfl, _, hD2, ?_, fun b o h => ?_, ?_⟩
          · refine Nat.lt_of_le_of_lt (?_ : _ ≤ 2501) (by decide)
            rw [List.length_map]
            refine Nat.le_trans (List.length_filter_le _ _) ?_
            rw [List.length_take]
            refine Nat.le_trans (Nat.min_le_right _ _) ?_
            rw [List.length_map] at ldd
            exact ldd
          · rw [upd_ne (ne_of_none h hD)]
            exact s2 _ _ h
          · rw [et, upd_same]
            simp [nV]
        | true =>
          rw [c] at et
          refine iteF ⟨s2, ?_⟩
          rw [et]
          simp only [Bool.not_true, Bool.false_eq_true, if_false, List.append_nil]
          exact hD2
      · rintro H2 ⟨s2, hD2⟩
        have eD : H2 D = some (.lst (nV (HD.lost row (tot wd n)))) := by
          rw [show (nV (List.range (tot wd n))).length = (List.range (tot wd n)).length from List.length_map _, List.take_length] at hD2
          exact hD2
        rw [show HD.lost row (tot wd n) = _ from hlost] at eD
        clear hD2 hlost
        have s02 := s1.trans s2
        refine ⟨_, rfl, rfl, decide (wd = 4), congrArg V.bl (pp_eq hw), ?_⟩
        -- the last tests
        have last : ∀ (H3 : Hp), Same H2 H3 → ¬ (wd = 4 ∧ qs = []) → ∀ (tst : Prop), True → True := fun _ _ _ _ _ => trivial
        by_cases c4 : wd = 4
        · rw [decide_eq_true c4]
          refine iteT ?_
          refine ⟨_, rfl, Nat.zero_le _, fun ze hze => ?_⟩
          have s3 := same_upd (o := .lst []) hze
          have z3 : upd H2 ze (.lst []) ze = some (.lst []) := upd_same
          generalize upd H2 ze (.lst []) = H3 at s3 z3 ⊢
          have s03 := s02.trans s3
          have eD3 := s3 _ _ eD
          by_cases cq : qs = []
          · rw [if_pos ⟨c4, cq⟩] at eD3
            have er := hrow c4 cq
            subst cq
            refine ⟨_, .list [], dp_qs (hq.same s03), .lst (L2.sq_of z3) .nil, shaped_qs _, by decide, true, rfl, iteT ?_⟩
            refine ⟨_, rfl, _, rfl, by show 1 ≤ sizeLine; decide, fun ml hml => ?_⟩
            have s4 := same_upd (o := .lst [V.int (n : Int)]) hml
            have k4 : upd H3 ml (.lst [V.int (n : Int)]) ml = some (.lst [V.int (n : Int)]) := upd_same
            generalize upd H3 ml (.lst [V.int (n : Int)]) = H4 at s4 k4 ⊢
            have s04 := s03.trans s4
            refine ⟨_, _, dp_ints (ns := [(n : Int)]) (L2.sq_of (s4 _ _ eD3)), dp_ints (ns := [(n : Int)]) (L2.sq_of k4), shaped_ints _, shaped_ints _, true, congrArg V.bl (eqv_intsR _), iteT ?_⟩
            refine ⟨_, rfl, _, rfl, _, rfl, _, rfl, dd, _, rfl, L2.sq_of (s4 _ _ (s3 _ _ (s2 _ _ hdd))), fun cc hcc => ?_⟩
            rw [cut_last]
            have ecut : (nV (List.range (tot wd n))).take ((nV (List.range (tot wd n))).length - 1) = nV (List.range n) := by
              have : tot wd n = n + 1 := by show n + (if wd = 1 ∨ 3 ≤ wd then 1 else 0) = n + 1; rw [if_pos (by omega)]
              rw [this, List.length_map, List.length_range, List.range_succ]
              simp [nV]
            rw [ecut]
            have s5 := same_upd (o := .lst (nV (List.range n))) hcc
            refine ⟨_, _, dp_ints (by rw [← nV_map]; exact L2.sq_of (s5 _ _ (s04 _ _ (by rw [er] at hr0; exact hr0)))), dp_ints (by rw [← nV_map]; exact L2.sq_of upd_same), shaped_ints _, shaped_ints _, ?_⟩
            rw [eqv_intsR]
            exact q _ (s04.trans s5)
          · rw [if_neg (fun z => cq z.2), if_pos (by omega)] at eD3
            refine ⟨_, .list [], dp_qs (hq.same s03), .lst (L2.sq_of z3) .nil, shaped_qs _, by decide, false, ?_, iteF ?_⟩
            · cases qs with
              | nil => exact absurd rfl cq
              | cons _ _ => rfl
            refine ⟨_, rfl, by show 3 ≤ sizeLine; decide, fun t4 ht4 => ⟨t4, _, rfl, .inr (L2.st_of upd_same), rfl, rfl, decide (2 ≤ wd), congrArg V.bl (three_in hw), ?_⟩⟩
            rw [decide_eq_true (show 2 ≤ wd by omega)]
            have s4 := same_upd (o := .tup [.str "pop", .str "replace", .str "pushpop"]) ht4
            generalize upd H3 t4 (.tup [.str "pop", .str "replace", .str "pushpop"]) = H4 at s4 ⊢
            refine iteT ⟨_, rfl, by show 1 ≤ sizeLine; decide, fun ml hml => ?_⟩
            have s5 := same_upd (o := .lst [V.int 0]) hml
            refine ⟨_, _, dp_ints (ns := [0]) (L2.sq_of (s5 _ _ (s4 _ _ eD3))), dp_ints (ns := [0]) (L2.sq_of upd_same), shaped_ints _, shaped_ints _, ?_⟩
            rw [eqv_intsR]
            exact q _ ((s03.trans s4).trans s5)
        · rw [decide_eq_false c4]
          refine iteF (iteF ?_)
          rw [if_neg (fun z => c4 z.1)] at eD
          refine ⟨_, rfl, by show 3 ≤ sizeLine; decide, fun t4 ht4 => ⟨t4, _, rfl, .inr (L2.st_of upd_same), rfl, rfl, decide (2 ≤ wd), congrArg V.bl (three_in hw), ?_⟩⟩
          have s4 := same_upd (o := .tup [.str "pop", .str "replace", .str "pushpop"]) ht4
          generalize upd H2 t4 (.tup [.str "pop", .str "replace", .str "pushpop"]) = H4 at s4 ⊢
          by_cases c2 : 2 ≤ wd
          · rw [if_pos c2] at eD
            rw [decide_eq_true c2]
            refine iteT ⟨_, rfl, by show 1 ≤ sizeLine; decide, fun ml hml => ?_⟩
            have s5 := same_upd (o := .lst [V.int 0]) hml
            refine ⟨_, _, dp_ints (ns := [0]) (L2.sq_of (s5 _ _ (s4 _ _ eD))), dp_ints (ns := [0]) (L2.sq_of upd_same), shaped_ints _, shaped_ints _, ?_⟩
            rw [eqv_intsR]
            exact q _ ((s02.trans s4).trans s5)
          · rw [if_neg c2] at eD
            rw [decide_eq_false c2]
            refine iteF ⟨_, rfl, Nat.zero_le _, fun ml hml => ?_⟩
            have s5 := same_upd (o := .lst []) hml
            refine ⟨_, _, dp_ints (ns := []) (L2.sq_of (s5 _ _ (s4 _ _ eD))), dp_ints (ns := []) (L2.sq_of upd_same), shaped_ints _, shaped_ints _, ?_⟩
            rw [eqv_intsR]
            exact q _ ((s02.trans s4).trans s5)
end

end K88

namespace K88
open PySem PySem.Spec PyProof.Rows L2
def spWell : Sp := fun vs H Q _ => ∃ c, vs = [.int c] ∧ ∀ p x y z, okS x y z 0 → H p = none → Q (.ref p) (upd H p (.lst [.int x, .int y, .int z]))
def spDraw : Sp := fun vs H Q _ => ∃ p n b, vs = [.ref p, .int n] ∧ SrcB H p b ∧ b ≤ 2 ^ 30 ∧ 0 < n ∧ n.natAbs < 2 ^ 200 ∧ ∀ v x y z : Int, 0 ≤ v → v < n → okS x y z (b + 1) → Q (.int v) (upd H p (.lst [.int x, .int y, .int z]))
def spPick (K : PySem.W.Frag) : Sp := fun vs H Q _ => ∃ p r xs b, vs = [.ref p, .ref r] ∧ SrcB H p b ∧ b ≤ 2 ^ 30 ∧ r ≠ p ∧ SqL K H r xs ∧ 0 < xs.length ∧ xs.length < 2 ^ 60 ∧ ∀ (v : V) (H' : Hp), v ∈ xs → DnB p (b + 1) H H' → Q v H'
section
variable {P : Program} {w : World} {K : PySem.W.Frag} {mg : Str → Option Value} {base : Heap} {a : Ad} {d : Fd}
theorem ok_well (T : Txt K mg a d) : FnOk P w K mg base CX0 1 a.well d.well P_well spWell := by
  refine T.f_well.ok sc_well (fun vs H Q E h => ?_) (fun cdv A outer s H vs Q E hr h => ?_)
  · obtain ⟨c, rfl, _⟩ := h
    rfl
  · obtain ⟨c, rfl, q⟩ := h
    refine ⟨_, (pss_one (ps_ret (pe_lst (pa_cons (pe_op op_mul (pe_callB call_abs (by rfl) T.z_abs (by decide +kernel) (pa_cons (pv 0) pa_nil)) (pe_callTy call_int1 (by rfl) T.z_int (by decide +kernel) (pa_cons (pe_cmpR op_ge (pe_callB call_abs (by rfl) T.z_abs (by decide +kernel) (pa_cons (pv 0) pa_nil)) (pe_op op_powW pe_int pe_int) (nomark _)) pa_nil))) (pa_cons (pe_op op_mod (pe_callTy call_int1 (by rfl) T.z_int (by decide +kernel) (pa_cons (pv 0) pa_nil)) pe_int) (pa_cons pe_int pa_nil)))))), ?_⟩
    have nn : 0 ≤ (if c < 0 then -c else c) := by split <;> omega
    refine ⟨_, rfl, _, rfl, _, rfl, _, rfl, _, _, rfl, rfl, ⟨by decide, by decide⟩, _, _, rfl, rfl, .inr ⟨_, rfl, ?_⟩⟩
    have hb : ∀ k : Bool, (-(2 ^ 64) < (if k = true then (1 : Int) else 0) ∧ (if k = true then (1 : Int) else 0) < 2 ^ 64) ∧ 0 ≤ (if k = true then (1 : Int) else 0) := fun k => by cases k <;> decide
    have k1 := mb c (c := 2147483647) (by decide)
    exact ⟨_, _, rfl, rfl, .inr (hb _).1, _, rfl, .inl ⟨_, rfl, _, _, rfl, rfl, (by show (0 : Int) < 2147483647; decide), by show 3 ≤ sizeLine; decide, fun p hp => q p _ _ _ ⟨Int.mul_nonneg nn (hb _).2, k1.1, by show c % 2147483647 < 2 ^ 31; omega, Int.le_refl _, Int.le_refl _⟩ hp⟩⟩
theorem ok_draw (T : Txt K mg a d) : FnOk P w K mg base CX0 1 a.draw d.draw P_draw spDraw := by
  refine T.f_draw.ok sc_draw (fun vs H Q E h => ?_) (fun cdv A outer s H vs Q E hr h => ?_)
  · obtain ⟨p, n, b, rfl, _⟩ := h
    rfl
  · obtain ⟨p, n, b, rfl, ⟨x, y, z, ⟨x0, y0, y1, z0, z1⟩, hp⟩, b30, b0, b64, q⟩ := h
    refine ⟨_, (pss_cons (ps_if (pt_cmpR op_gt (pe_ix ix_list (pv 0) pe_int (fun _ _ => rfl)) pe_int (nomark _)) (pss_cons (ps_set (i := 2) sc_draw.nd rfl (Or.inl rfl) (pe_op op_mod (pe_callTy call_int1 (by rfl) T.z_int (by decide +kernel) (pa_cons (pe_ix ix_list (pv 0) pe_int (fun _ _ => rfl)) pa_nil)) (pv 1)))
      (pss_cons (ps_asg (pe_op op_fdivW (pe_ix ix_list (pv 0) pe_int (fun _ _ => rfl)) (pv 1)) (pg_sub (pv 0) pe_int set_list))
      (pss_one (ps_ret (pv 2))))) pss_nil)
    (pss_cons (ps_asg (pe_op op_add (pe_ix ix_list (pv 0) pe_int (fun _ _ => rfl)) pe_int) (pg_sub (pv 0) pe_int set_list))
    (pss_cons (ps_set (i := 3) sc_draw.nd rfl (Or.inl rfl) (pe_op op_mod (pe_callTy call_int1 (by rfl) T.z_int (by decide +kernel) (pa_cons (pe_op op_powW (pe_op op_add (pe_op op_add (pe_ix ix_list (pv 0) pe_int (fun _ _ => rfl)) (pe_op op_mul pe_int (pe_ix ix_list (pv 0) pe_int (fun _ _ => rfl)))) pe_int) pe_int) pa_nil)) pe_int))
    (pss_cons (ps_set (i := 3) sc_draw.nd rfl (Or.inl rfl) (pe_op op_mod (pe_callTy call_int1 (by rfl) T.z_int (by decide +kernel) (pa_cons (pe_op op_mul (pe_op op_add (pv 3) (pe_ix ix_list (pv 0) pe_int (fun _ _ => rfl))) (pe_op op_add (pe_op op_fdivW (pv 3) pe_int) pe_int)) pa_nil)) pe_int))
    (pss_one (ps_ret (pe_op op_mod (pe_callTy call_int1 (by rfl) T.z_int (by decide +kernel) (pa_cons (pe_op op_mod (pe_callTy call_int1 (by rfl) T.z_int (by decide +kernel) (pa_cons (pe_op op_mul (pv 3) (pe_op op_add (pe_op op_fdivW (pv 3) pe_int) pe_int)) pa_nil)) pe_int) pa_nil)) (pv 1)))))))), ?_⟩
    have hS := L2.sq_of (K := K) hp
    have g0 : atI [V.int x, V.int y, V.int z] 0 = some (.int x) := atI_nat (j := 0) rfl
    have g1 : atI [V.int x, V.int y, V.int z] 1 = some (.int y) := atI_nat (j := 1) rfl
    have g2 : atI [V.int x, V.int y, V.int z] 2 = some (.int z) := atI_nat (j := 2) rfl
    refine ⟨_, rfl, p, _, _, _, rfl, rfl, hS, g0, _, _, rfl, rfl, _, rfl, ite2 (fun _ => ?_) (fun _ => ?_)⟩
    · refine ⟨_, rfl, p, _, _, _, rfl, rfl, hS, g0, .inl ⟨_, rfl, _, rfl, _, _, rfl, rfl, b0, ?_⟩⟩
      refine ⟨_, rfl, p, _, _, _, rfl, rfl, hS, g0, _, rfl, _, _, rfl, rfl, wide_div b0 b64 (by decide) (by decide), ?_⟩
      refine ⟨_, rfl, p, _, _, 0, rfl, rfl, hp, rfl, ?_⟩
      exact ⟨_, rfl, q _ _ _ _ (mb x b0).1 (mb x b0).2 ⟨Int.ediv_nonneg x0 (by omega), y0, y1, z0, by omega⟩⟩
    · refine ⟨_, rfl, p, _, _, _, rfl, rfl, hS, g2, _, _, rfl, rfl, ?_⟩
      refine ⟨_, rfl, p, _, _, 2, rfl, rfl, hp, rfl, ?_⟩
      have hp' : upd H p (.lst ([V.int x, V.int y, V.int z].set 2 (.int (z + 1)))) p = some (.lst [V.int x, V.int y, V.int (z + 1)]) := upd_same
      have hS' := L2.sq_of (K := K) hp'
      have g1' : atI [V.int x, V.int y, V.int (z + 1)] 1 = some (.int y) := atI_nat (j := 1) rfl
      have g2' : atI [V.int x, V.int y, V.int (z + 1)] 2 = some (.int (z + 1)) := atI_nat (j := 2) rfl
      have ib : ∀ i : Int, -(2 ^ 64) < i → i < 2 ^ 64 → Builtin.Int.intBits i ≤ 64 := fun i h1 h2 => intBits_le_64 h1 h2
      have bits : CPowW (y + 7121 * (z + 1) + 29) 3 := ⟨by decide, by have := ib (y + 7121 * (z + 1) + 29) (by omega) (by omega); omega⟩
      refine ⟨_, rfl, p, _, _, _, rfl, rfl, hS', g1', _, rfl, p, _, _, _, rfl, rfl, hS', g2', 7121, z + 1, rfl, rfl, .inl ⟨by decide, by decide⟩, _, _, rfl, rfl, _, _, rfl, rfl, _, _, rfl, rfl, bits, .inl ⟨_, rfl, _, _, rfl, rfl, (by show (0 : Int) < 2147483629; decide), ?_⟩⟩
      have w1 : ∀ i : Int, CDivW i 1013 := fun i => wide_div (b := 64) (by decide) (by decide) (by decide) (by decide)
      have w2 : ∀ i : Int, CDivW i 2011 := fun i => wide_div (b := 64) (by decide) (by decide) (by decide) (by decide)
      have m1 := mb ((y + 7121 * (z + 1) + 29) ^ (3 : Int).toNat) (c := 2147483629) (by decide)
      refine ⟨_, rfl, _, rfl, p, _, _, _, rfl, rfl, hS', g2', _, _, rfl, rfl, _, rfl, _, _, rfl, rfl, w1 _, _, _, rfl, rfl, _, _, rfl, rfl, .inl ⟨by omega, by omega⟩, .inl ⟨_, rfl, _, _, rfl, rfl, (by show (0 : Int) < 2147483587; decide), ?_⟩⟩
      refine ⟨_, rfl, _, rfl, _, _, rfl, rfl, w2 _, _, _, rfl, rfl, _, _, rfl, rfl, .inl (mbw _ (c := 2147483587) (by decide) (by decide)), .inl ⟨_, rfl, _, _, rfl, rfl, (by show (0 : Int) < 2147483563; decide), .inl ⟨_, rfl, _, rfl, _, _, rfl, rfl, b0, q _ _ _ _ (mb _ b0).1 (mb _ b0).2 ⟨x0, y0, y1, by omega, by omega⟩⟩⟩⟩
theorem ok_pick (T : Txt K mg a d) : FnOk P w K mg base CX0 2 a.pick d.pick P_pick (spPick K) := by
  have G_draw : FnOk P w K mg base CX0 1 a.draw d.draw P_draw spDraw := ok_draw T
  refine T.f_pick.ok sc_pick (fun vs H Q E h => ?_) (fun cdv A outer s H vs Q E hr h => ?_)
  · obtain ⟨p, r, xs, b, rfl, _⟩ := h
    rfl
  · obtain ⟨p, r, xs, b, rfl, hs, b30, ne, hx, l0, l1, q⟩ := h
    refine ⟨_, (pss_one (ps_ret (pe_ix ix_list (pv 1) (pe_call G_draw (hr.mono (by decide)) (by rfl) T.g_draw T.k_draw T.b_draw .nil pass0 (pa_cons (pv 0) (pa_cons (pe_callB call_len_seq (by rfl) T.z_len PySem.boot_len (pa_cons (pv 1) pa_nil)) pa_nil))) (fun _ _ => rfl)))), ?_⟩
    refine ⟨_, rfl, _, rfl, _, rfl, r, xs, rfl, .inl hx, p, _, b, rfl, hs, b30, by omega, ?_, fun v x y z v0 v1 k => ?_⟩
    · have e : ((xs.length : Nat) : Int).natAbs = xs.length := Int.natAbs_natCast _
      rw [e]
      exact Nat.lt_trans l1 (by decide)
    · obtain ⟨i, rfl⟩ : ∃ i : Nat, v = (i : Int) := ⟨v.toNat, (Int.toNat_of_nonneg v0).symm⟩
      have hi : i < xs.length := by omega
      have gi : xs[i]? = some xs[i] := List.getElem?_eq_getElem hi
      exact ⟨r, xs, _, xs[i], rfl, rfl, SB.seq SB.put ne hx, atI_nat gi, q _ _ (List.getElem_mem hi) (.put k)⟩
end

end K88

namespace K88
open PySem PySem.Spec PyProof.Rows L2
abbrev EL (a : Ad) : List (Addr × Str × Str) := [(a.c_InvalidAnswers, "index", "answers")]
def TTtold (L : List (Addr × Str × Str)) : (XK → Hp → VK → Prop) → Hp → VK → Prop := fun tl H Q => tl (EErr L Q) H fun v H1 => 2 ≤ sizeLine ∧ ∀ t, H1 t = none → Q (.ref t) (upd H1 t (.tup [.str "told", v]))
section
variable {P : Program} {w : World} {K : PySem.W.Frag} {mg : Str → Option Value} {base : Heap} {a : Ad} {d : Fd}
theorem gives_word {k : Nat} (T : Txt K mg a d) : GivesTo1 P w K mg base k N_word "_law_word" (defScope s_word) a.word (defBody s_word) "ask" (TTtold (EL a)) := by
  intro cdg A outer f L s H Q tl hr act hL h
  refine ⟨_, (pss_one (ps_try_as (i := 1) rfl rfl sc_word.nd rfl rfl ⟨rfl, by decide, Or.inl T.xb.g⟩ takes0 (fun W pn xe tk _ => (pss_one (ps_ret (pe_tup (pa_cons pe_str (pa_cons (act W pn xe _ _ tk) pa_nil)))))) (fun a1 oe cls d pn hz hf => (pss_one (ps_ret (pe_ifExp (pt_val (pe_callB (call_isX hz hf) (by rfl) T.z_isinstance (by decide +kernel) (pa_cons (pv 1) (pa_cons (pe_glob (v := .ref a.c_InvalidAnswers) (by rfl) T.x_InvalidAnswers.g rfl) pa_nil)))) (pe_tup (pa_cons pe_str (pa_cons (pe_xf T.x_InvalidAnswers.xf T.x_InvalidAnswers.no hz hf (pv 1)) pa_nil))) (pe_tup (pa_cons pe_str (pa_cons pe_non pa_nil))))))))), ?_⟩
  refine ⟨rfl, hL, EErr (EL a) Q, fun cls d H' hE => ?_, h⟩
  obtain ⟨dx, C, fl, w1, v, rfl, hm, rfl, hx, q⟩ := hE
  cases List.mem_singleton.mp hm
  refine ⟨true, T.s_InvalidAnswers_SortError.exm, fun _ a1 ha1 => ?_, fun z => nomatch z⟩
  refine ⟨_, rfl, _, dx, _, _, _, true, rfl, T.ec_InvalidAnswers, rfl, hx, rfl, .own _, T.s_InvalidAnswers_InvalidAnswers.kit, true, rfl, iteT ?_⟩
  exact ⟨_, rfl, rfl, rfl, dx, _, v, rfl, hx, rfl, by show 2 ≤ sizeLine; decide, fun t ht => q t _ (same_upd ht) upd_same⟩
end

end K88

namespace K88
open PySem PySem.Spec PyProof.Rows L2 LamX
theorem hm_right (a : Ad) : (a.lp_right, (envOfC "_law_right" (defScope s_right) 0 0 .none).qual ++ ("<lambda>" : Str)) ∈ LT a := by
  rw [show (envOfC "_law_right" (defScope s_right) 0 0 .none).qual ++ ("<lambda>" : Str) = lq_right from by decide +kernel]
  exact List.Mem.head _
theorem lt_cases {a : Ad} {p : Addr × Str} (hp : p ∈ LT a) : p = (a.lp_right, lq_right) := by
  exact List.mem_singleton.mp hp
section
variable {K : PySem.W.Frag} {mg : Str → Option Value} {a : Ad} {d : Fd}
theorem hu_right (T : Txt K mg a d) : ∀ p ∈ LT a, p.1 = a.lp_right → p.2 = (envOfC "_law_right" (defScope s_right) 0 0 .none).qual ++ ("<lambda>" : Str) := fun p hp e => by
  rw [show (envOfC "_law_right" (defScope s_right) 0 0 .none).qual ++ ("<lambda>" : Str) = lq_right from by decide +kernel]
  rw [lt_cases hp]
end
/-- all but the source and the tables stays -/
def DnBT (p : Addr) (b : Nat) (H H' : Hp) : Prop := (∀ c o, c ≠ p → (∀ ps, o ≠ HO.tbl ps) → H c = some o → H' c = some o) ∧ SrcB H' p b
theorem DnB.bt {p : Addr} {b : Nat} {H H' : Hp} (d : DnB p b H H') : DnBT p b H H' := ⟨fun c o n _ h => d.1 c o n h, d.2⟩
theorem DnBT.ext {p : Addr} {b : Nat} {H H1 H2 : Hp} (d : DnBT p b H H1) (e : LamX.ExtN H1 H2) : DnBT p b H H2 := ⟨fun c o n t h => e _ _ (d.1 c o n t h) t, by
  obtain ⟨x, y, z, k, h⟩ := d.2
  exact ⟨x, y, z, k, e _ _ h fun ps z => by cases z⟩⟩
theorem DnBT.trans {p : Addr} {b c : Nat} {H H1 H2 : Hp} (x : DnBT p b H H1) (y : DnBT p c H1 H2) : DnBT p c H H2 := ⟨fun u o n t h => y.1 u o n t (x.1 u o n t h), y.2⟩
theorem DnBT.mono {p : Addr} {b c : Nat} {H H' : Hp} (x : DnBT p b H H') (l : b ≤ c) : DnBT p c H H' := ⟨x.1, x.2.mono l⟩
theorem tabs_dnB {TT : List (Addr × Str)} {H H' : Hp} {p : Addr} {b c : Nat} (t : LamX.Tabs TT H) (hs : SrcB H p b) (d : DnB p c H H') : LamX.Tabs TT H' := fun q hq => by
  obtain ⟨x, y, z, _, hs⟩ := hs
  obtain ⟨ps, h1, h2, h3⟩ := t q hq
  refine ⟨ps, d.1 _ _ (fun e => by rw [e, hs] at h1; cases h1) h1, h2, fun pos cv hc => ?_⟩
  obtain ⟨c, e1, e2⟩ := h3 pos cv hc
  refine ⟨c, e1, d.1 _ _ (fun e => ?_) e2⟩
  rw [e, hs] at e2
  have e3 := Option.some.inj e2
  unfold LamX.CodeO at e3
  cases e3
def spRight (a : Ad) : Sp := fun vs H Q _ => ∃ (p : Addr) (wd n b : Nat), vs = [.ref p, .str (dW wd), .int (n : Int)] ∧ wd ≤ 4 ∧ n ≤ 2500 ∧ (wd = 2 ∨ wd = 3 → n ≠ 0) ∧ SrcB H p b ∧ b ≤ 1000000 ∧ LamX.Tabs (LT a) H ∧
  ∀ H', DnBT p (b + 10000) H H' → LamX.Tabs (LT a) H' → Q (.bl true) H'
/-- a comprehension over range(n) each of whose items is a word yes or no, reckoned by at most a draw -/
theorem lc_bools {te : TE} {σ : L2.St} {H1 : Hp} {D p : Addr} {n j b : Nat} {vs : List Nat} {Qd : Hp → Prop} (hn : n ≤ 1000000) (hs : SrcB H1 p b) (hD : H1 D = none)
    (hw : ∀ v, wipe ((wipe σ vs).set j v) vs = wipe σ vs)
    (he : ∀ (i : Nat) (H3 : Hp) (R : VK), i < n → DnB p (b + i) H1 H3 → (∀ (v : Bool) (H4 : Hp), DnB p (b + i + 1) H3 H4 → R (.bl v) H4) → te ((wipe σ vs).set j (some (.int (0 + (i : Nat))))) H3 R)
    (hd : ∀ (ms : List Bool) (H' : Hp), ms.length = n → DnB p (b + n) H1 H' → H' D = some (.lst (ms.map V.bl)) → Qd H') :
    ∃ W : Nat → Nat → Hp → Prop, (∃ m, W 0 m (L2.upd H1 D (.lst []))) ∧ ∀ i m H, W i m H →
      ((Itr 0 n).stop i H ∧ Qd H) ∨ ((Itr 0 n).go i H ∧ ∃ Nx : Hp → Prop, (∀ H', Nx H' → ∃ m', m' < m ∧ W (i + 1) m' H') ∧ ∀ x H', (Itr 0 n).yld i H x H' → gName j x (wipe σ vs) H' fun σ2 H2 => wipe σ2 vs = wipe σ vs ∧ tYes σ2 H2 fun b H3 =>
        if b = true then te σ2 H3 fun y H4 => ∃ acc, H4 D = some (.lst acc) ∧ acc.length < sizeLine ∧ Nx (L2.upd H4 D (.lst (acc ++ [y]))) else Nx H3) := by
  have nD : D ≠ p := hs.ne hD
  refine lc_range (lo := 0) (n := n) (fun i H => ∃ ms : List Bool, ms.length = i ∧ DnB p (b + i) H1 H ∧ H D = some (.lst (ms.map V.bl))) ⟨[], rfl, (DnB.refl hs).new hD, upd_same⟩ ?_ ?_
  · rintro i H hi ⟨ms, hl, dr, hh⟩
    refine ⟨hw _, ?_⟩
    refine he i H _ hi dr fun v H4 d4 => ?_
    have h4 := d4.1 _ _ nD hh
    refine ⟨_, h4, ?_, ms ++ [v], by simp [hl], ?_, ?_⟩
    · rw [List.length_map, hl]
      exact Nat.lt_of_le_of_lt (Nat.le_trans (Nat.le_of_lt hi) hn) (by decide)
    · have dd := dr.trans d4
      refine ⟨fun c o nb e => ?_, dd.2.upd nD⟩
      rw [upd_ne (ne_of_none e hD)]
      exact dd.1 c o nb e
    · rw [List.map_append]
      exact upd_same
  · rintro H ⟨ms, hl, dr, hh⟩
    exact hd ms H hl dr hh
/-- fewer answers, as many as are taken, lead to the same -/
theorem runL_take {f : HD} : ∀ (as : List Bool), HD.runL f (as.take (HD.runL f as).2.length) = HD.runL f as
  | [] => rfl
  | b :: bs => by
    cases e : f.wt with
    | none => rw [HD.runL_done e, HD.runL_done e]
    | some q =>
      rw [HD.runL_cons e]
      show HD.runL f ((b :: bs).take ((HD.runL (f.take b) bs).2.length + 1)) = _
      rw [List.take_succ_cons, HD.runL_cons e, runL_take bs]
theorem mo_take {wd n : Nat} (as : List Bool) : mo wd n (as.take (mo wd n as).2.2.2.length) = mo wd n as := by
  have h := runL_take (f := f0 wd n) as
  have e : (mo wd n as).2.2.2.length = (HD.runL (f0 wd n) as).2.length := rfl
  rw [e]
  show ((HD.runL (f0 wd n) (as.take (HD.runL (f0 wd n) as).2.length)).1.row, (if (HD.runL (f0 wd n) (as.take (HD.runL (f0 wd n) as).2.length)).1.wt = none then (HD.runL (f0 wd n) (as.take (HD.runL (f0 wd n) as).2.length)).1.given else none), (HD.runL (f0 wd n) (as.take (HD.runL (f0 wd n) as).2.length)).1.wt, (HD.runL (f0 wd n) (as.take (HD.runL (f0 wd n) as).2.length)).2) = _
  rw [h]
  rfl
theorem runL_few {f : HD} : ∀ (as : List Bool), (HD.runL f as).2.length ≤ as.length ∧ ((HD.runL f as).1.wt ≠ none → (HD.runL f as).2.length = as.length)
  | [] => ⟨Nat.le_refl _, fun _ => rfl⟩
  | b :: bs => by
    cases e : f.wt with
    | none => rw [HD.runL_done e]; exact ⟨Nat.zero_le _, fun z => absurd e z⟩
    | some q =>
      rw [HD.runL_cons e]
      obtain ⟨h1, h2⟩ := runL_few (f := f.take b) bs
      exact ⟨Nat.succ_le_succ h1, fun z => congrArg (· + 1) (h2 z)⟩
theorem dp_out {K : PySem.W.Frag} {H : Hp} {t r l : Addr} {o : HD.Out} (h : OutAt H t r l o) : Dp K H (.ref t) (tdD o.1 o.2.1 o.2.2.1 o.2.2.2) := by
  obtain ⟨wv, h1, h2, h3, h4, _⟩ := h
  exact dp_td h1 h2 h3 h4
theorem OutAt.same {H H' : Hp} {t r l : Addr} {o : HD.Out} (h : OutAt H t r l o) (s : Same H H') : OutAt H' t r l o := by
  obtain ⟨wv, h1, h2, h3, h4, h5⟩ := h
  exact ⟨wv, s _ _ h1, s _ _ h2, h3.keep (fun _ _ _ => s _ _), h4.same s, h5⟩
theorem OutAt.ext {H H' : Hp} {t r l : Addr} {o : HD.Out} (h : OutAt H t r l o) (s : LamX.ExtN H H') : OutAt H' t r l o := by
  obtain ⟨wv, h1, h2, h3, h4, h5⟩ := h
  refine ⟨wv, s _ _ h1 (fun ps z => by cases z), s _ _ h2 (fun ps z => by cases z), h3.keep (fun _ _ _ h => s _ _ h (fun ps z => by cases z)), ?_, h5⟩
  obtain ⟨ts, h6, h7, h8⟩ := h4
  exact ⟨ts, s _ _ h6 (fun ps z => by cases z), h7, fun i v q e1 e2 => by
    obtain ⟨t, e, h⟩ := h8 i v q e1 e2
    exact ⟨t, e, s _ _ h (fun ps z => by cases z)⟩⟩
theorem out_log {H : Hp} {t r l : Addr} {o : HD.Out} (h : OutAt H t r l o) : ∃ ts : List V, H l = some (.lst ts) ∧ ts.length = o.2.2.2.length := by
  obtain ⟨wv, h1, h2, h3, ⟨ts, h4, h5, _⟩, _⟩ := h
  exact ⟨ts, h4, h5⟩
section
variable {P : Program} {w : World} {K : PySem.W.Frag} {mg : Str → Option Value} {base : Heap} {a : Ad} {d : Fd}
theorem ok_right (T : Txt K mg a d) (TB_right : LamX.TabB base mg a.lc_right a.lp_right) : FnOk P w K mg base CX0 15 a.right d.right P_right (spRight a) := by
  have G_draw : FnOk P w K mg base CX0 1 a.draw d.draw P_draw spDraw := ok_draw T
  have G_deed : FnOk P w K mg base CX0 6 a.deed d.deed P_deed spDeed := ok_ldeed T
  have G_deed_told : FnOk P w K mg base (L2.CX P w) 11 a.deed_told d.deed_told P_deed_told (spTold a.c_InvalidAnswers) := ok_told T
  have G_items_right : FnOk P w K mg base CX0 1 a.items_right d.items_right P_items_right spItems := ok_items T
  refine T.f_right.okC T.lc_right sc_right (fun vs H Q E h => ?_) (fun A outer s0 H vs Q E hr h => ?_)
  · obtain ⟨p, wd, n, b, rfl, _⟩ := h
    rfl
  · obtain ⟨p, wd, n, b, rfl, hw, hn, ne, hs, hb, hT, q⟩ := h
    refine ⟨_, (pss_cons (ps_set (i := 3) sc_right.nd rfl (Or.inr rfl) (pe_call G_draw (hr.mono (by decide)) (by rfl) T.g_draw T.k_draw T.b_draw .nil pass0 (pa_cons (pv 0) (pa_cons pe_int pa_nil))))
    (pss_cons (ps_set (i := 4) sc_right.nd rfl (Or.inr rfl) (pe_lc (own := [("turn", 5)]) (g := gName 5) (tt := tYes) rfl sc_right.nd (pi_range1 (by rfl) T.z_range (pa_cons (pe_call G_draw (hr.mono (by decide)) (by rfl) T.g_draw T.k_draw T.b_draw .nil pass0 (pa_cons (pv 0) (pa_cons (pe_op op_add (pe_op op_mul pe_int (pv 2)) pe_int) pa_nil))) pa_nil)) (blkOk_by (N := N_right) (sc := defScope s_right) (by decide +kernel)) (fun _ _ _ _ _ => pg_name (i := 5) sc_right.nd rfl (Or.inl rfl)) (fun _ _ _ _ _ => pts_nil) (fun _ _ _ _ _ => (pe_or (pe_cmpR op_eq (pv 3) pe_int (nomark _)) (pe_one (pe_and (pe_cmpR op_gt (pv 3) pe_int (nomark _)) (pe_one (pe_cmpR op_eq (pe_call G_draw (hr.mono (by decide)) (by rfl) T.g_draw T.k_draw T.b_draw .nil pass0 (pa_cons (pv 0) (pa_cons pe_int pa_nil))) pe_int (nomark _)))))))))
    (pss_cons (ps_set (i := 6) sc_right.nd rfl (Or.inl rfl) (pe_call G_deed (hr.mono (by decide)) (by rfl) T.g_deed T.k_deed T.b_deed .nil pass0 (pa_cons (pv 1) (pa_cons (pv 2) (pa_cons (pv 4) pa_nil)))))
    (C8.pss_cut (ps_if (PW.pt (pw_and (pt_cmpR op_isN (pe_ix ix_tup (pv 6) pe_int (fun _ _ => rfl)) pe_non (nomark _)) (pw_and1 (pt_cmpR op_lt (pe_callB call_len_seq (by rfl) T.z_len PySem.boot_len (pa_cons (pe_ix ix_tup (pv 6) pe_int (fun _ _ => rfl)) pa_nil)) (pe_callB call_len_seq (by rfl) T.z_len PySem.boot_len (pa_cons (pv 4) pa_nil)) (nomark _))))) (pss_cons (ps_if (pt_cmpR (op_neD hr.units) (pe_lamcallG (T := LT a) (k := 12) T.f_word (by rfl) T.g_word T.k_word T.b_word sc_word rfl (Or.inl rfl) (gives_word T) TB_right rfl (hm_right a) (hu_right T) (hr.mono (by decide)) (free_by (show freeB (defScope s_right) _ = true from by decide +kernel)) rfl (Or.inl rfl) (.plain (lamS_by (show lamSB (defScope s_right) _ = true from by decide +kernel)) rfl (fun _ _ _ _ _ _ => rfl) (fun A1 outer1 s1 H1 E1 f1 c1 hr1 => (pe_call G_deed_told (hr1.mono (by decide)) (by rfl) T.g_deed_told T.k_deed_told T.b_deed_told .nil (passY rfl rfl rfl rfl) (pa_cons (pv 1) (pa_cons (pv 2) (pa_cons (pv 4) pa_nil))))))) (pe_tup (pa_cons pe_str (pa_cons (pe_callB call_len_seq (by rfl) T.z_len PySem.boot_len (pa_cons (pe_ix ix_tup (pv 6) pe_int (fun _ _ => rfl)) pa_nil)) pa_nil))) (nomark _)) (pss_one (ps_ret pe_bl)) pss_nil)
      (pss_one (ps_set (i := 4) sc_right.nd rfl (Or.inr rfl) (pe_slice sl_list (pv 4) po_none (po_some (pe_callB call_len_seq (by rfl) T.z_len PySem.boot_len (pa_cons (pe_ix ix_tup (pv 6) pe_int (fun _ _ => rfl)) pa_nil))))))) pss_nil)
    (pss_cons (ps_set (i := 7) sc_right.nd rfl (Or.inl rfl) (pe_call G_deed_told (hr.mono (by decide)) (by rfl) T.g_deed_told T.k_deed_told T.b_deed_told .nil passL (pa_cons (pv 1) (pa_cons (pv 2) (pa_cons (pe_callTy call_tuple_of (by rfl) T.z_tuple (by decide +kernel) (pa_cons (pv 4) pa_nil)) pa_nil)))))
    (pss_cons (ps_if (PW.pt (pw_or (pt_cmpR (op_neD hr.units) (pv 7) (pv 6) (nomark _)) (pw_or (pt_not (pt_val (pe_callB call_isi (by rfl) T.z_isinstance (by decide +kernel) (pa_cons (pv 7) (pa_cons (pe_bltn (v := .ty "tuple") (u := .type "tuple") (by rfl) T.z_tuple (by decide +kernel) rfl) pa_nil))))) (pw_or1 (pt_cmpR (op_neD hr.units) (pe_call G_deed_told (hr.mono (by decide)) (by rfl) T.g_deed_told T.k_deed_told T.b_deed_told .nil passL (pa_cons (pv 1) (pa_cons (pv 2) (pa_cons (pv 4) pa_nil)))) (pv 6) (nomark _)))))) (pss_one (ps_ret pe_bl)) pss_nil)
    (pss_one (ps_ret (pe_call G_items_right (hr.mono (by decide)) (by rfl) T.g_items_right T.k_items_right T.b_items_right .nil pass0 (pa_cons (pv 1) (pa_cons (pv 2) (pa_cons (pv 7) pa_nil)))))))))))), ?_⟩
    refine ⟨_, rfl, p, 4, b, rfl, hs, by omega, by decide, by decide, fun side x y z sd0 sd1 k0 => ?_⟩
    have D1 : DnB p (b + 1) H _ := DnB.put (p := p) (x := x) (y := y) (z := z) k0
    generalize upd H p (.lst [.int x, .int y, .int z]) = H1 at D1 ⊢
    refine ⟨_, rfl, _, rfl, _, _, rfl, rfl, .inl ⟨by decide, by decide⟩, _, _, rfl, rfl, p, 3 * (n : Int) + 4, b + 1, rfl, D1.2, by omega, by omega, by omega, fun m x y z m0 m1 k1 => ?_⟩
    have D2 := D1.trans (DnB.put (p := p) (x := x) (y := y) (z := z) k1)
    generalize upd H1 p (.lst [.int x, .int y, .int z]) = H2 at D2 ⊢
    obtain ⟨mn, rfl⟩ : ∃ mn : Nat, m = (mn : Int) := ⟨m.toNat, (Int.toNat_of_nonneg m0).symm⟩
    refine ⟨mn, rfl, by omega, by omega, fun aa haa => ?_⟩
    have haa0 : H aa = none := D2.free haa
    refine lc_bools (b := b + 1 + 1) (by omega) D2.2 haa (fun v => rfl) ?_ ?_
    · intro i H3 R hi d3 hv
      refine ⟨_, rfl, rfl, decide (side = 0), congrArg V.bl (by simp), ?_⟩
      by_cases c0 : side = 0
      · rw [decide_eq_true c0]
        exact iteT (hv _ _ ((DnB.refl d3.2).mono (Nat.le_succ _)))
      · rw [decide_eq_false c0]
        refine iteF ⟨_, rfl, _, _, rfl, rfl, decide (1 < side), rfl, ?_⟩
        by_cases c1 : 1 < side
        · rw [decide_eq_true c1]
          refine iteT ⟨_, rfl, p, 2, b + 1 + 1 + i, rfl, d3.2, by omega, by decide, by decide, fun v x y z v0 v1 k => ⟨rfl, hv _ _ (.put k)⟩⟩
        · rw [decide_eq_false c1]
          exact iteF (hv _ _ ((DnB.refl d3.2).mono (Nat.le_succ _)))
    intro as H3 las d3 haa3
    rw [Int.toNat_natCast] at las d3
    have D3 : DnB p (b + 10000) H H3 := (D2.trans d3).mono (by omega)
    have la5 : as.length ≤ 50000 := by omega
    have nap : aa ≠ p := hs.ne haa0
    refine ⟨_, rfl, _, rfl, _, rfl, aa, as, wd, n, rfl, hw, haa3, la5, ne, hn, fun t r l H4 s4 ho hr40 hl40 => ?_⟩
    have D4 := D3.same s4
    have haa4 := s4 _ _ haa3
    have T4 := tabs_dnB hT hs D4
    obtain ⟨fw1, fw2⟩ := runL_few (f := f0 wd n) as
    have ho : OutAt H4 t r l (mo wd n as) := ho
    have few1 : (mo wd n as).2.2.2.length ≤ as.length := fw1
    have few2 : (mo wd n as).2.2.1 ≠ none → (mo wd n as).2.2.2.length = as.length := fw2
    -- the answers that are taken
    refine ⟨fun σ' H' => ∃ (ab : Addr) (bs : List Bool), σ' = [some (.ref p), some (.str (dW wd)), some (.int (n : Int)), some (.int side), some (.ref ab), none, some (.ref t), none] ∧ DnBT p (b + 10000) H H' ∧ LamX.Tabs (LT a) H' ∧ OutAt H' t r l (mo wd n bs) ∧ H' ab = some (.lst (bs.map V.bl)) ∧ bs.length ≤ 50000 ∧ ¬ (mo wd n bs).2.2.2.length < bs.length, ?_, ?_⟩
    · obtain ⟨wv, ht4, hr4, hwt4, hq4, nrl⟩ := id ho
      obtain ⟨ts, hts, lts⟩ := out_log ho
      have a2 : ∀ {H5 : Hp}, H5 t = some (.tup [.ref r, oV (mo wd n as).2.1, wv, .ref l]) → True := fun _ => trivial
      refine ⟨_, rfl, t, _, _, _, rfl, rfl, L2.st_of ht4, atI_nat (j := 2) rfl, rfl, decide ((mo wd n as).2.2.1 = none), ?_, ?_⟩
      · cases h : (mo wd n as).2.2.1 with
        | none => rw [h] at hwt4; cases hwt4; rfl
        | some pr => obtain ⟨i, j⟩ := pr; rw [h] at hwt4; obtain ⟨t, rfl, _⟩ := hwt4; rfl
      by_cases c : (mo wd n as).2.2.1 = none
      · rw [decide_eq_true c]
        refine iteT ⟨_, rfl, t, _, _, _, rfl, rfl, L2.st_of ht4, atI_nat (j := 3) rfl, l, _, rfl, .inl (L2.sq_of hts), _, rfl, aa, _, rfl, .inl (L2.sq_of haa4), _, _, rfl, rfl, decide ((mo wd n as).2.2.2.length < as.length), congrArg V.bl (by rw [lts, List.length_map]; simp only [Int.ofNat_lt]), ?_⟩
        by_cases c2 : (mo wd n as).2.2.2.length < as.length
        · rw [decide_eq_true c2]
          refine iteT ?_
          refine ⟨T4, fun Ha ea Ta => ⟨_, rfl, _, rfl, _, rfl, wd, n, aa, as, rfl, hw, .inl (ea _ _ haa4 (fun ps z => by cases z)), la5, ne, hn, fun z => absurd c2 z, fun _ => eErr (.head _) fun te Hb sb hte => ?_⟩⟩
          have e4b : LamX.ExtN H4 Hb := ea.trans (.of sb)
          have Tb := Ta.ext sb
          have ob := ho.ext e4b
          obtain ⟨wv5, ht5, _, _, _, _⟩ := id ob
          obtain ⟨ts5, hts5, lts5⟩ := out_log ob
          refine ⟨_, rfl, t, _, _, _, rfl, rfl, L2.st_of ht5, atI_nat (j := 3) rfl, l, _, rfl, .inl (L2.sq_of hts5), by show 2 ≤ sizeLine; decide, fun tw htw => ?_⟩
          have s6 := same_upd (o := .tup [.str "answers", .int ((ts5.length : Nat) : Int)]) htw
          have k6 : upd Hb tw (.tup [.str "answers", .int ((ts5.length : Nat) : Int)]) tw = some (.tup [.str "answers", .int (((mo wd n as).2.2.2.length : Nat) : Int)]) := by rw [upd_same, lts5]
          generalize upd Hb tw (.tup [.str "answers", .int ((ts5.length : Nat) : Int)]) = Hc at s6 k6 ⊢
          refine ⟨_, _, dp_word (s6 _ _ hte) (.int _), dp_word k6 (.int _), shaped_word (by decide +kernel) (.int _), shaped_word (by decide +kernel) (.int _), false, by rw [SeqAt.eqv_refl _ (SeqAt.canLay_of_shaped (shaped_word (by decide +kernel) (.int _)))]; rfl, iteF ?_⟩
          have e4c : LamX.ExtN H4 Hc := e4b.trans (.of s6)
          have oc := ho.ext e4c
          have haac := e4c _ _ haa4 (fun ps z => by cases z)
          obtain ⟨wv7, ht7, _, _, _, _⟩ := id oc
          obtain ⟨ts7, hts7, lts7⟩ := out_log oc
          refine ⟨_, rfl, _, rfl, t, _, _, _, rfl, rfl, L2.st_of ht7, atI_nat (j := 3) rfl, l, _, rfl, .inl (L2.sq_of hts7), _, rfl, aa, _, rfl, L2.sq_of haac, fun ab hab => ?_⟩
          rw [lts7, cut_take, ← List.map_take]
          have s8 := same_upd (o := .lst ((as.take (mo wd n as).2.2.2.length).map V.bl)) hab
          have em := mo_take (wd := wd) (n := n) as
          refine ⟨ab, as.take (mo wd n as).2.2.2.length, rfl, (((DnB.bt D4).ext e4c).ext (.of s8)), (Tb.ext s6).ext s8, by rw [em]; exact oc.same s8, upd_same, by rw [List.length_take]; omega, ?_⟩
          rw [em, List.length_take, Nat.min_eq_left few1]
          exact Nat.lt_irrefl _
        · rw [decide_eq_false c2]
          exact iteF ⟨aa, as, rfl, DnB.bt D4, T4, ho, haa4, la5, c2⟩
      · rw [decide_eq_false c]
        exact iteF (iteF ⟨aa, as, rfl, DnB.bt D4, T4, ho, haa4, la5, by rw [few2 c]; exact Nat.lt_irrefl _⟩)
    rintro σ' H5 ⟨ab, bs, rfl, D5, T5, o5, hab5, lb, nlt⟩
    refine ⟨_, rfl, _, rfl, _, rfl, ab, _, rfl, .inl ⟨L2.sq_of hab5, fun tm htm => ?_⟩⟩
    have s6 := same_upd (o := .tup (bs.map V.bl)) htm
    have k6 : upd H5 tm (.tup (bs.map V.bl)) tm = some (.tup (bs.map V.bl)) := upd_same
    generalize upd H5 tm (.tup (bs.map V.bl)) = H6 at s6 k6 ⊢
    refine ⟨wd, n, tm, bs, rfl, hw, .inr k6, lb, ne, hn, fun _ t2 r2 l2 H7 s7 o7 _ _ => ?_, fun z => absurd z nlt⟩
    have s57 := s6.trans s7
    refine ⟨_, rfl, _, rfl, _, _, dp_out o7, dp_out (o5.same s57), shaped_td _ _ _ _, shaped_td _ _ _ _, false, by rw [eqv_td]; rfl, iteF ?_⟩
    have ht7 : ∃ xs, H7 t2 = some (.tup xs) := by obtain ⟨wv, h, _⟩ := o7; exact ⟨_, h⟩
    obtain ⟨xs7, ht7⟩ := ht7
    refine ⟨_, rfl, .ref t2, .ty "tuple", _, .type "tuple", true, rfl, .ty _, .base (.tup ht7), kit_ty (by decide +kernel), true, rfl, iteF ?_⟩
    refine ⟨_, rfl, _, rfl, _, rfl, wd, n, ab, bs, rfl, hw, .inl (s57 _ _ hab5), lb, ne, hn, fun _ t3 r3 l3 H8 s8 o8 _ _ => ?_, fun z => absurd z nlt⟩
    have s58 := s57.trans s8
    refine ⟨_, rfl, _, _, dp_out o8, dp_out (o5.same s58), shaped_td _ _ _ _, shaped_td _ _ _ _, false, by rw [eqv_td]; rfl, iteF ?_⟩
    refine ⟨_, rfl, _, rfl, _, rfl, t2, r2, l2, wd, n, mo wd n bs, rfl, hw, hn, o7.same s8, HD.its_ok hw hn ne bs (pre0 hn ne), fun H9 s9 => ?_⟩
    exact q H9 (D5.ext (.of (s58.trans s9))) (T5.ext (s58.trans s9))
end

end K88

namespace K88
open PySem PySem.Spec PyProof.Rows L2
def spHR : Sp := fun vs H Q _ => ∃ (p : Addr) (wd n b : Nat), vs = [.ref p, .str (dW wd), .int (n : Int)] ∧ wd ≤ 4 ∧ n ≤ 200 ∧ (wd = 2 ∨ wd = 3 → n ≠ 0) ∧ SrcB H p b ∧ b ≤ 1000000 ∧ ∀ H', DnB p (b + n + 2) H H' → Q (.bl true) H'
theorem few40 {wd n : Nat} {ms : List Int} {N : Nat} (hw : wd ≤ 4) (hl : ms.length = n + (if hasN wd = true then 1 else 0)) (hn : n ≤ 2500) (ne : wd = 2 ∨ wd = 3 → n ≠ 0) (f : Fin wd n ms N) : N ≤ 40000 :=
  Nat.le_trans (Nat.le_trans (Nat.le_add_left _ _) (HD.phi_stps (HD.Ok.init (pre0 hn ne)) f.2)) (phi_few hw hl hn ne).2
theorem asks_its {N : Nat} {o : Nat × Nat → Bool} {f : HD} (h : HD.Ok f) (i : HD.Its N f) : ∀ n, ∀ q ∈ f.asks o n, q.1 < N ∧ q.2 < N
  | 0, q, hq => by cases hq
  | n + 1, q, hq => by
    cases e : (HD.stps o f n).wt with
    | none =>
      have : HD.asks o f (n + 1) = HD.asks o f n := by
        show (match (HD.stps o f n).wt with | none => HD.asks o f n | some q => HD.asks o f n ++ [q]) = _
        rw [e]
      rw [this] at hq
      exact asks_its h i n q hq
    | some q2 =>
      rw [HD.asks_next e] at hq
      rcases List.mem_append.mp hq with hq | hq
      · exact asks_its h i n q hq
      · rw [List.mem_singleton.mp hq]
        exact (HD.Its.stps (o := o) h i n).wt q2 e
section
variable {P : Program} {w : World} {K : PySem.W.Frag} {mg : Str → Option Value} {base : Heap} {a : Ad} {d : Fd}
theorem ok_hr (T : Txt K mg a d) : FnOk P w K mg base CX0 12 a.honest_right d.honest_right P_honest_right spHR := by
  have G_draw : FnOk P w K mg base CX0 1 a.draw d.draw P_draw spDraw := ok_draw T
  have G_honest : FnOk P w K mg base CX0 7 a.honest d.honest P_honest spHonest := ok_lhonest T
  have G_deed_done : FnOk P w K mg base CX0 11 a.deed_done d.deed_done P_deed_done spDone := ok_done T
  have G_deed_told : FnOk P w K mg base (L2.CX P w) 11 a.deed_told d.deed_told P_deed_told (spTold a.c_InvalidAnswers) := ok_told T
  refine T.f_honest_right.ok sc_honest_right (fun vs H Q E h => ?_) (fun cdv A outer s0 H vs Q E hr h => ?_)
  · obtain ⟨p, wd, n, b, rfl, _⟩ := h
    rfl
  · obtain ⟨p, wd, n, b, rfl, hw, hn, ne, hs, hb, q⟩ := h
    refine ⟨_, (pss_cons (ps_set (i := 3) sc_honest_right.nd rfl (Or.inr rfl) (pe_lc (own := [("item", 4)]) (g := gName 4) (tt := tYes) rfl sc_honest_right.nd (pi_range1 (by rfl) T.z_range (pa_cons (pe_op op_add (pv 2) (pe_callTy call_int1 (by rfl) T.z_int (by decide +kernel) (pa_cons (pe_cmpR op_in_seq (pv 1) (pe_tup (pa_cons pe_str (pa_cons pe_str (pa_cons pe_str pa_nil)))) (by rfl)) pa_nil))) pa_nil)) (blkOk_by (N := N_honest_right) (sc := defScope s_honest_right) (by decide +kernel)) (fun _ _ _ _ _ => pg_name (i := 4) sc_honest_right.nd rfl (Or.inl rfl)) (fun _ _ _ _ _ => pts_nil) (fun _ _ _ _ _ => (pe_call G_draw (hr.mono (by decide)) (by rfl) T.g_draw T.k_draw T.b_draw .nil pass0 (pa_cons (pv 0) (pa_cons pe_int pa_nil))))))
    (pss_cons (ps_asg (pe_call G_honest (hr.mono (by decide)) (by rfl) T.g_honest T.k_honest T.b_honest .nil pass0 (pa_cons (pv 1) (pa_cons (pv 3) pa_nil))) (pg_tup rfl (pgs_cons (pg_name (i := 5) sc_honest_right.nd rfl (Or.inl rfl)) (pgs_cons (pg_name (i := 6) sc_honest_right.nd rfl (Or.inl rfl)) (pgs_cons (pg_name (i := 7) sc_honest_right.nd rfl (Or.inl rfl)) pgs_nil)))))
    (pss_cons (ps_setLc (i := 8) (own := [("one", 9), ("other", 10)]) (g := gTup K 2 (gCons (gName 9) (gCons (gName 10) gNil))) (tt := tYes) rfl sc_honest_right.nd rfl rfl (sw_true rfl rfl rfl (by decide +kernel)) (pi_list (pv 7)) (blkOk_by (N := N_honest_right) (sc := defScope s_honest_right) (by decide +kernel)) (fun _ _ _ _ _ => pg_tup rfl (pgs_cons (pg_name (i := 9) sc_honest_right.nd rfl (Or.inl rfl)) (pgs_cons (pg_name (i := 10) sc_honest_right.nd rfl (Or.inl rfl)) pgs_nil))) (fun _ _ _ _ _ => pts_nil) (fun _ _ _ _ _ => (pe_cmpR op_lt (pe_ix (show IxR _ (rIxL K) from ix_list) (pv 3) (pv 9) (fun _ _ => rfl)) (pe_ix (show IxR _ (rIxL K) from ix_list) (pv 3) (pv 10) (fun _ _ => rfl)) (nomark _))))
    (C8.pss_cut (ps_set (i := 11) sc_honest_right.nd rfl (Or.inl rfl) (pe_ifExp (pt_cmpR op_gt (pe_callB call_len_seq (by rfl) T.z_len PySem.boot_len (pa_cons (pv 3) pa_nil)) (pv 2) (nomark _)) (pe_ix ix_list (pv 3) (pe_un un_neg pe_int) (fun _ _ => rfl)) pe_non))
    (pss_one (ps_ret (pe_and (pe_cmpR (op_eqD hr.units) (pe_call G_deed_told (hr.mono (by decide)) (by rfl) T.g_deed_told T.k_deed_told T.b_deed_told .nil passL (pa_cons (pv 1) (pa_cons (pv 2) (pa_cons (pv 8) pa_nil)))) (pe_tup (pa_cons (pv 5) (pa_cons (pv 6) (pa_cons pe_non (pa_cons (pv 7) pa_nil))))) (nomark _)) (pe_one (pe_cmpR (op_eqD hr.units) (pe_ix ix_tup (pe_call G_deed_done (hr.mono (by decide)) (by rfl) T.g_deed_done T.k_deed_done T.b_deed_done .nil pass0 (pa_cons (pv 1) (pa_cons (pe_slice sl_list (pv 3) po_none (po_some (pv 2))) (pa_cons (pv 11) pa_nil)))) pe_int (fun _ _ => rfl)) (pv 7) (nomark _)))))))))), ?_⟩
    have hn5 : n ≤ 2500 := by omega
    refine ⟨_, rfl, _, rfl, by show 3 ≤ sizeLine; decide, fun tp htp => ⟨tp, _, rfl, .inr (L2.st_of upd_same), rfl, rfl, .inr ⟨_, rfl, _, _, rfl, rfl, ?_⟩⟩⟩
    have D1 := (DnB.refl hs).new (o := .tup [.str "push", .str "replace", .str "pushpop"]) htp
    generalize upd H tp (.tup [.str "push", .str "replace", .str "pushpop"]) = H1 at D1 ⊢
    have ei : (n : Int) + (if (if false = true then !inV (.str (dW wd)) [.str "push", .str "replace", .str "pushpop"] else inV (.str (dW wd)) [.str "push", .str "replace", .str "pushpop"]) = true then 1 else 0) = ((n + (if hasN wd = true then 1 else 0) : Nat) : Int) := by
      rw [show (if false = true then !inV (.str (dW wd)) [.str "push", .str "replace", .str "pushpop"] else inV (.str (dW wd)) [.str "push", .str "replace", .str "pushpop"]) = hasN wd from hasN_in hw]
      by_cases c : hasN wd = true
      · rw [if_pos c, if_pos c]; omega
      · rw [if_neg c, if_neg c]; omega
    have l1 : n + (if hasN wd = true then 1 else 0) ≤ n + 1 := by split <;> omega
    refine ⟨_, congrArg (fun z : Int => [V.int z]) ei, by omega, by omega, fun f hf => ?_⟩
    have hf0 : H f = none := D1.free hf
    refine lc_intsB (b := b) (k := 1) (G := fun _ => True) (by omega) D1.2 hf (fun v => rfl) ?_ ?_
    · intro i H4 R hi d4 hv
      exact ⟨_, rfl, p, 5, b + i * 1, rfl, d4.2, by omega, by decide, by decide, fun v x y z v0 v1 k4 => hv _ _ trivial (.put k4)⟩
    · intro ms H4 hl _ d4 hm4
      rw [Int.toNat_natCast] at hl d4
      have D4 : DnB p (b + n + 2) H H4 := (D1.trans d4).mono (by omega)
      refine ⟨_, rfl, _, rfl, wd, n, f, ms, rfl, hw, hm4, hl, hn5, ne, fun t r l N H5 s5 fin ht hr5 hq nrl hr40 hl40 => ?_⟩
      have D5 := D4.same s5
      have hm5 := s5 _ _ hm4
      obtain ⟨ts, hts, lts, hpa⟩ := id hq
      have lena := HD.asks_len fin.2
      have few := few40 hw hl hn5 ne fin
      have its := asks_its (o := HD.less ms) (HD.Ok.init (pre0 hn5 ne)) (its0 hl hn5 ne) N
      refine ⟨t, _, rfl, L2.st_of ht, rfl, _, _, rfl, _, _, rfl, _, _, rfl, rfl, ?_⟩
      refine ⟨_, rfl, l, rfl, ⟨_, L2.sq_of hts⟩, fun D hD => ?_⟩
      refine lc_list (K := K) (a := l) (xs := ts) (fun i H' => Same H5 H' ∧ H' D = some (.lst (((((f0 wd n).asks (HD.less ms) N).take i).map (HD.less ms)).map V.bl))) ⟨same_upd hD, upd_same⟩ (fun i H' _ h => L2.sq_of (h.1 _ _ hts)) ?_ ?_
      · rintro i y H6 hy ⟨s6, hD6⟩
        have hi : i < ts.length := (List.getElem?_eq_some_iff.mp hy).1
        have hiq : ((f0 wd n).asks (HD.less ms) N)[i]? = some (((f0 wd n).asks (HD.less ms) N)[i]'(by rw [← lts]; exact hi)) := List.getElem?_eq_getElem _
        generalize hqq : ((f0 wd n).asks (HD.less ms) N)[i]'(by rw [← lts]; exact hi) = qq at hiq
        obtain ⟨t6, rfl, ht6⟩ := hpa i y qq hy hiq
        obtain ⟨x, z⟩ := qq
        obtain ⟨hx, hz⟩ := its (x, z) (List.mem_of_getElem? hiq)
        have hm6 := s6 _ _ hm5
        refine ⟨t6, _, rfl, L2.st_of (s6 _ _ ht6), rfl, _, _, rfl, _, _, rfl, rfl, rfl, ?_⟩
        refine ⟨_, rfl, _, rfl, f, _, _, _, rfl, rfl, L2.sq_of hm6, ms_at hx, _, rfl, _, rfl, f, _, _, _, rfl, rfl, L2.sq_of hm6, ms_at hz, _, _, rfl, rfl, _, hD6, ?_, fun b' o h => ?_, ?_⟩
        · rw [List.length_map, List.length_map]
          refine Nat.lt_of_le_of_lt (?_ : _ ≤ 40000) (by decide)
          rw [List.length_take, lena]
          omega
        · rw [upd_ne (ne_of_none h hD)]
          exact s6 _ _ h
        · rw [List.take_add_one, hiq, upd_same, List.map_append, List.map_append]
          rfl
      · rintro H6 ⟨s6, hD6⟩
        rw [lts, List.take_length] at hD6
        have D6 := D5.same s6
        have hm6 := s6 _ _ hm5
        have ln6 : (ms.map V.int).length = ms.length := List.length_map _
        have hk : ∃ kv, KeyFor wd (ms.take n) kv ms ∧ ((hasN wd = true ∧ atI (ms.map V.int) (-1) = some kv) ∨ (hasN wd = false ∧ kv = .non)) := by
          cases hh : hasN wd with
          | false =>
            rw [hh] at hl
            exact ⟨.non, .inr ⟨hh, rfl, by rw [List.take_of_length_le (by rw [hl]; exact Nat.le_refl _)]⟩, .inr ⟨rfl, rfl⟩⟩
          | true =>
            rw [hh] at hl
            have hl : ms.length = n + 1 := hl
            have e1 : ms[n]? = some (ms[n]'(by omega)) := List.getElem?_eq_getElem _
            refine ⟨.int (ms[n]'(by omega)), .inl ⟨hh, _, rfl, ?_⟩, .inl ⟨rfl, ?_⟩⟩
            · have := List.take_add_one (l := ms) (i := n)
              rw [e1, List.take_of_length_le (by omega)] at this
              exact this
            · unfold atI
              have : ixN (ms.map V.int).length (-1) = some n := by
                unfold ixN
                rw [if_neg (by decide), if_pos (by rw [ln6]; omega), ln6]
                congr 1
                omega
              rw [this]
              show (ms.map V.int)[n]? = _
              rw [List.getElem?_map, e1]
              rfl
        obtain ⟨kv, hkf, hkv⟩ := hk
        refine ⟨fun σ' H' => ∃ u9 u10 : Option V, σ' = [some (.ref p), some (.str (dW wd)), some (.int (n : Int)), some (.ref f), none, some (.ref r), some (oV ((f0 wd n).stps (HD.less ms) N).given), some (.ref l), some (.ref D), u9, u10, some kv] ∧ H' = H6, ?_, ?_⟩
        · refine ⟨_, rfl, f, _, rfl, .inl (L2.sq_of hm6), _, rfl, _, _, rfl, rfl, decide (n < ms.length), congrArg V.bl (by rw [ln6]; simp only [Int.ofNat_lt]), ?_⟩
          rcases hkv with ⟨hh, hat⟩ | ⟨hh, rfl⟩
          · rw [hh] at hl
            have hl : ms.length = n + 1 := hl
            rw [decide_eq_true (by omega)]
            exact iteT ⟨_, rfl, _, rfl, f, _, _, _, rfl, rfl, L2.sq_of hm6, hat, _, _, rfl, rfl⟩
          · rw [hh] at hl
            have hl : ms.length = n := hl
            rw [decide_eq_false (by omega)]
            exact iteF ⟨_, _, rfl, rfl⟩
        rintro σ' H6' ⟨u9, u10, rfl, rfl⟩
        have em := HD.stps_mach (o := HD.less ms) (f := f0 wd n) N
        rw [if_pos fin.1, fin.1] at em
        have em : mo wd n (((f0 wd n).asks (HD.less ms) N).map (HD.less ms)) = (((f0 wd n).stps (HD.less ms) N).row, ((f0 wd n).stps (HD.less ms) N).given, none, (f0 wd n).asks (HD.less ms) N) := em
        have la : (((f0 wd n).asks (HD.less ms) N).map (HD.less ms)).length = N := by rw [List.length_map, lena]
        have nlt : ¬ (mo wd n (((f0 wd n).asks (HD.less ms) N).map (HD.less ms))).2.2.2.length < (((f0 wd n).asks (HD.less ms) N).map (HD.less ms)).length := by
          rw [em, la]
          show ¬ ((f0 wd n).asks (HD.less ms) N).length < N
          rw [lena]
          exact Nat.lt_irrefl _
        refine ⟨_, rfl, _, rfl, _, rfl, wd, n, D, ((f0 wd n).asks (HD.less ms) N).map (HD.less ms), rfl, hw, .inl hD6, by rw [la]; omega, ne, hn5, fun _ t7 r7 l7 H7 s7 o7 _ _ => ?_, fun z => absurd z nlt⟩
        rw [em] at o7
        have s57 := s6.trans s7
        refine ⟨_, rfl, _, rfl, _, rfl, by show 4 ≤ sizeLine; decide, fun t8 ht8 => ?_⟩
        have s8 := same_upd (o := .tup [.ref r, oV ((f0 wd n).stps (HD.less ms) N).given, .non, .ref l]) ht8
        have k8 : upd H7 t8 (.tup [.ref r, oV ((f0 wd n).stps (HD.less ms) N).given, .non, .ref l]) t8 = some (.tup [.ref r, oV ((f0 wd n).stps (HD.less ms) N).given, .non, .ref l]) := upd_same
        generalize upd H7 t8 (.tup [.ref r, oV ((f0 wd n).stps (HD.less ms) N).given, .non, .ref l]) = H8 at s8 k8 ⊢
        have s58 := s57.trans s8
        have d1 := dp_out (K := K) (o7.same s8)
        have d2 : Dp K H8 (.ref t8) (tdD ((f0 wd n).stps (HD.less ms) N).row ((f0 wd n).stps (HD.less ms) N).given none ((f0 wd n).asks (HD.less ms) N)) := dp_td k8 (s58 _ _ hr5) rfl (hq.same s58)
        refine ⟨_, _, d1, d2, shaped_td _ _ _ _, shaped_td _ _ _ _, true, congrArg V.bl (eqv_td _ _ _ _), iteT ?_⟩
        have hm8 := s58 _ _ hm5
        refine ⟨_, rfl, _, rfl, _, rfl, _, rfl, f, _, rfl, L2.sq_of hm8, fun c hc => ?_⟩
        rw [cut_take, ← List.map_take]
        have s9 := same_upd (o := .lst ((ms.take n).map V.int)) hc
        have k9 : upd H8 c (.lst ((ms.take n).map V.int)) c = some (.lst ((ms.take n).map V.int)) := upd_same
        generalize upd H8 c (.lst ((ms.take n).map V.int)) = H9 at s9 k9 ⊢
        have lt : (ms.take n).length = n := by rw [List.length_take]; omega
        refine ⟨_, rfl, wd, c, ms.take n, kv, ms, rfl, hw, .inl k9, by omega, fun z e => ne z (by rw [← lt, e]; rfl), hkf, fun t10 r10 l10 N2 H10 s10 fin2 ht10 hr10 hq10 _ _ _ => ?_⟩
        rw [lt] at fin2 ht10 hr10 hq10
        obtain rfl := HD.stps_uniq fin2.1 fin2.2 fin.1 fin.2
        have s510 := (s58.trans s9).trans s10
        refine ⟨t10, _, _, _, rfl, rfl, L2.st_of ht10, atI_nat (j := 2) rfl, _, rfl, _, _, dp_qs hq10, dp_qs (hq.same s510), shaped_qs _, shaped_qs _, ?_⟩
        rw [eqv_qs]
        exact q H10 (D5.same s510)
end

end K88

namespace K88
open PySem PySem.Spec PyProof.Rows L2 LamX
def spWords : Sp := fun vs H Q _ => vs = [] ∧ ∀ p, H p = none → Q (.ref p) (upd H p (.lst [.str (dW 0), .str (dW 1), .str (dW 2), .str (dW 3), .str (dW 4)]))
section
variable {P : Program} {w : World} {K : PySem.W.Frag} {mg : Str → Option Value} {base : Heap} {a : Ad} {d : Fd}
theorem ok_words (T : Txt K mg a d) : FnOk P w K mg base CX0 1 a.words d.words P_words spWords := by
  refine T.f_words.ok sc_words (fun vs H Q E h => ?_) (fun cdv A outer s0 H vs Q E hr h => ?_)
  · obtain ⟨rfl, _⟩ := h
    rfl
  · obtain ⟨rfl, q⟩ := h
    refine ⟨_, (pss_one (ps_ret (pe_lst (pa_cons pe_str (pa_cons pe_str (pa_cons pe_str (pa_cons pe_str (pa_cons pe_str pa_nil)))))))), ?_⟩
    exact ⟨by show 5 ≤ sizeLine; decide, fun p hp => q p hp⟩
end

def spLaw (K : PySem.W.Frag) (TT : List (Addr × Str)) : Sp := fun vs H Q _ => ∃ (p : Addr) (ns : List Int), vs = [.ref p] ∧ SqL K H p (ns.map V.int) ∧ ns.length ≤ 63 ∧ LamX.Tabs TT H ∧ ∀ H', Q (.bl true) H'
theorem cells_int {xs : List V} (h : ∀ x ∈ xs, ∃ c, x = .int c) {i : Nat} {y : V} (e : xs[i]? = some y) : ∃ c, y = .int c := h y (List.mem_of_getElem? e)
theorem DnBT.refl {p : Addr} {b : Nat} {H : Hp} (s : SrcB H p b) : DnBT p b H H := ⟨fun _ _ _ _ h => h, s⟩
section
variable {P : Program} {w : World} {K : PySem.W.Frag} {mg : Str → Option Value} {base : Heap} {a : Ad} {d : Fd}
theorem ok_law (T : Txt K mg a d) (TB_right : LamX.TabB base mg a.lc_right a.lp_right) : FnOk P w K mg base CX0 16 a.law d.law P_law (spLaw K (LT a)) := by
  have G_well : FnOk P w K mg base CX0 1 a.well d.well P_well spWell := ok_well T
  have G_draw : FnOk P w K mg base CX0 1 a.draw d.draw P_draw spDraw := ok_draw T
  have G_pick : FnOk P w K mg base CX0 2 a.pick d.pick P_pick (spPick K) := ok_pick T
  have G_words : FnOk P w K mg base CX0 1 a.words d.words P_words spWords := ok_words T
  have G_right : FnOk P w K mg base CX0 15 a.right d.right P_right (spRight a) := ok_right T TB_right
  have G_honest_right : FnOk P w K mg base CX0 12 a.honest_right d.honest_right P_honest_right spHR := ok_hr T
  refine T.f_law.ok sc_law (fun vs H Q E h => ?_) (fun cdv A outer s0 H vs Q E hr h => ?_)
  · obtain ⟨p, n, rfl, _⟩ := h
    rfl
  · obtain ⟨sc, ns, rfl, hS, hlen, hT, q⟩ := h
    refine ⟨_, (pss_cons (ps_for PassesOwn.never rfl (pi_enumA (by rfl) T.z_enumerate (pa_cons (pe_op op_catS (pe_slice sl_list (pv 0) po_none (po_some pe_int)) (pe_lst (pa_cons pe_int (pa_cons pe_int pa_nil)))) pa_nil)) (pg_tup rfl (pgs_cons (pg_name (i := 1) sc_law.nd rfl (Or.inl rfl)) (pgs_cons (pg_name (i := 2) sc_law.nd rfl (Or.inl rfl)) pgs_nil)))
      (pss_cons (ps_set (i := 3) sc_law.nd rfl (Or.inl rfl) (pe_call G_well (hr.mono (by decide)) (by rfl) T.g_well T.k_well T.b_well .nil pass0 (pa_cons (pv 2) pa_nil)))
        (C8.pss_cut (ps_if (pt_cmpR op_lt (pv 1) pe_int (nomark _)) (pss_cons (ps_set (i := 4) sc_law.nd rfl (Or.inl rfl) (pe_ix ix_list (pe_call0 G_words (hr.mono (by decide)) (by rfl) T.g_words T.k_words T.b_words .nil pass0) (pe_op op_mul (pv 1) (pe_op op_add pe_int (pe_call G_draw (hr.mono (by decide)) (by rfl) T.g_draw T.k_draw T.b_draw .nil pass0 (pa_cons (pv 3) (pa_cons pe_int pa_nil))))) (fun _ _ => rfl)))
          (pss_one (ps_if (pt_not (pt_val (pe_call G_right (hr.mono (by decide)) (by rfl) T.g_right T.k_right T.b_right .nil pass0 (pa_cons (pv 3) (pa_cons (pv 4) (pa_cons (pe_op op_add pe_int (pe_call G_draw (hr.mono (by decide)) (by rfl) T.g_draw T.k_draw T.b_draw .nil pass0 (pa_cons (pv 3) (pa_cons pe_int pa_nil)))) pa_nil)))))) (pss_one (ps_ret pe_bl)) pss_nil))) pss_nil)
        (pss_one (ps_for PassesOwn.never rfl (pi_list (pe_call0 G_words (hr.mono (by decide)) (by rfl) T.g_words T.k_words T.b_words .nil pass0)) (pg_name (i := 4) sc_law.nd rfl (Or.inl rfl))
          (pss_cons (ps_set (i := 5) sc_law.nd rfl (Or.inl rfl) (pe_call G_pick (hr.mono (by decide)) (by rfl) T.g_pick T.k_pick T.b_pick .nil pass0 (pa_cons (pv 3) (pa_cons (pe_lst (pa_cons pe_int (pa_cons pe_int (pa_cons pe_int (pa_cons pe_int (pa_cons pe_int (pa_cons pe_int (pa_cons pe_int (pa_cons (pe_call G_draw (hr.mono (by decide)) (by rfl) T.g_draw T.k_draw T.b_draw .nil pass0 (pa_cons (pv 3) (pa_cons pe_int pa_nil))) pa_nil))))))))) pa_nil))))
            (C8.pss_cut (ps_if (pt_cmpR op_in_seq (pv 4) (pe_tup (pa_cons pe_str (pa_cons pe_str pa_nil))) (by rfl)) (pss_one (ps_set (i := 5) sc_law.nd rfl (Or.inl rfl) (pe_callB (call_max2 rfl) (by rfl) T.z_max (by decide +kernel) (pa_cons pe_int (pa_cons (pv 5) pa_nil))))) pss_nil)
            (pss_one (ps_if (PW.pt (pw_or (pt_not (pt_val (pe_call G_right (hr.mono (by decide)) (by rfl) T.g_right T.k_right T.b_right .nil pass0 (pa_cons (pv 3) (pa_cons (pv 4) (pa_cons (pv 5) pa_nil)))))) (pw_or1 (pt_not (pt_val (pe_call G_honest_right (hr.mono (by decide)) (by rfl) T.g_honest_right T.k_honest_right T.b_honest_right .nil pass0 (pa_cons (pv 3) (pa_cons (pv 4) (pa_cons (pv 5) pa_nil))))))))) (pss_one (ps_ret pe_bl)) pss_nil)))))))))
    (pss_one (ps_ret pe_bl))), ?_⟩
    have ln : (ns.map V.int).length = ns.length := List.length_map _
    have sz : (cutV (ns.map V.int) none (some 10)).length + 2 ≤ sizeLine := by
      have := cutV_length (ns.map V.int) none (some 10)
      exact Nat.le_trans (by omega) (by decide : 65 ≤ sizeLine)
    refine ⟨_, rfl, 10, rfl, sc, _, rfl, hS, fun e he => ?_⟩
    have T7 := hT.ext (same_upd (o := .lst (cutV (ns.map V.int) none (some 10))) he)
    have he1 : upd H e (.lst (cutV (ns.map V.int) none (some 10))) e = some (.lst (cutV (ns.map V.int) none (some 10))) := upd_same
    generalize upd H e (.lst (cutV (ns.map V.int) none (some 10))) = H7 at he1 T7 ⊢
    refine ⟨by show 2 ≤ sizeLine; decide, fun b hb => ?_⟩
    have T8 := T7.ext (same_upd (o := .lst [.int 0, .int 1]) hb)
    have he2 := same_upd (o := .lst [.int 0, .int 1]) hb _ _ he1
    have hb2 : upd H7 b (.lst [.int 0, .int 1]) b = some (.lst [.int 0, .int 1]) := upd_same
    generalize upd H7 b (.lst [.int 0, .int 1]) = H8 at he2 hb2 T8 ⊢
    refine ⟨e, b, _, _, rfl, rfl, L2.sq_of he2, L2.sq_of hb2, sz, fun c hc => ?_⟩
    have Te := T8.ext (same_upd (o := .lst (cutV (ns.map V.int) none (some 10) ++ [.int 0, .int 1])) hc)
    have hc3 : upd H8 c (.lst (cutV (ns.map V.int) none (some 10) ++ [.int 0, .int 1])) c = some (.lst (cutV (ns.map V.int) none (some 10) ++ [.int 0, .int 1])) := upd_same
    generalize upd H8 c (.lst (cutV (ns.map V.int) none (some 10) ++ [.int 0, .int 1])) = He at hc3 Te ⊢
    have hxi : ∀ x ∈ cutV (ns.map V.int) none (some 10) ++ [V.int 0, V.int 1], ∃ z, x = .int z := fun x hx => by
      rcases List.mem_append.mp hx with hx | hx
      · obtain ⟨z, _, e⟩ := List.mem_map.mp (cut_mem hx)
        exact ⟨z, e.symm⟩
      · rcases List.mem_cons.mp hx with rfl | hx
        · exact ⟨_, rfl⟩
        · rw [List.mem_singleton.mp hx]; exact ⟨_, rfl⟩
    generalize hxs : cutV (ns.map V.int) none (some 10) ++ [V.int 0, V.int 1] = xs at hc3 hxi ⊢
    refine ⟨c, xs, rfl, .inl ⟨L2.sq_of hc3, ?_⟩⟩
    refine for_iteL (K := K) (a := c) (xs := xs) (fun i σ H' => (∃ u1 u2 u3 u4 u5 : Option V, σ = [some (.ref sc), u1, u2, u3, u4, u5]) ∧ LamX.ExtN He H' ∧ LamX.Tabs (LT a) H') ⟨⟨_, _, _, _, _, rfl⟩, fun _ _ h _ => h, Te⟩ (fun i σ H' _ h => L2.sq_of (h.2.1 _ _ hc3 (fun ps z => by cases z))) ?_ ?_
    · rintro i y σ H9 Tp hy ⟨⟨u1, u2, u3, u4, u5, rfl⟩, sm, T9⟩ hn
      obtain ⟨cell, rfl⟩ := cells_int hxi hy
      refine ⟨Tp, _, rfl, L2.st_of upd_same, rfl, _, _, rfl, _, _, rfl, rfl, ?_⟩
      have smT := sm.trans (.of (same_upd (o := .tup [.int (i : Int), .int cell]) hn))
      have T10 := T9.ext (same_upd (o := .tup [.int (i : Int), .int cell]) hn)
      generalize upd H9 Tp (.tup [.int (i : Int), .int cell]) = H10 at smT T10 ⊢
      refine ⟨_, rfl, cell, rfl, fun p x y z k hp => ?_⟩
      have hpe : ∀ b o, He b = some o → (∀ ps, o ≠ HO.tbl ps) → b ≠ p := fun b o h t e => by rw [e] at h; rw [smT _ _ h t] at hp; cases hp
      have smP := smT.trans (.of (same_upd (o := .lst [.int x, .int y, .int z]) hp))
      have TP := T10.ext (same_upd (o := .lst [.int x, .int y, .int z]) hp)
      have src : SrcB (upd H10 p (.lst [.int x, .int y, .int z])) p 0 := ⟨x, y, z, k, upd_same⟩
      generalize upd H10 p (.lst [.int x, .int y, .int z]) = H11 at smP src TP ⊢
      refine ⟨fun σ' H' => ∃ u4 u5 : Option V, σ' = [some (.ref sc), some (.int (i : Int)), some (.int cell), some (.ref p), u4, u5] ∧ DnBT p 20000 H11 H' ∧ LamX.Tabs (LT a) H', ?_, ?_⟩
      · refine ⟨_, rfl, _, _, rfl, rfl, decide (i < 2), congrArg V.bl (by simp only [decide_eq_decide]; omega), ?_⟩
        by_cases c0 : i < 2
        · rw [decide_eq_true c0]
          refine iteT ?_
          refine ⟨rfl, fun wl hwl => ?_⟩
          have dw := (DnBT.refl src).ext (.of (same_upd (o := .lst [.str (dW 0), .str (dW 1), .str (dW 2), .str (dW 3), .str (dW 4)]) hwl))
          have TW := TP.ext (same_upd (o := .lst [.str (dW 0), .str (dW 1), .str (dW 2), .str (dW 3), .str (dW 4)]) hwl)
          have kW : upd H11 wl (.lst [.str (dW 0), .str (dW 1), .str (dW 2), .str (dW 3), .str (dW 4)]) wl = some (.lst [.str (dW 0), .str (dW 1), .str (dW 2), .str (dW 3), .str (dW 4)]) := upd_same
          have nwp : wl ≠ p := src.ne hwl
          generalize upd H11 wl (.lst [.str (dW 0), .str (dW 1), .str (dW 2), .str (dW 3), .str (dW 4)]) = Hw at dw TW kW ⊢
          refine ⟨_, rfl, _, rfl, p, 4, 0, rfl, dw.2, by omega, by decide, by decide, fun v x y z v0 v1 k => ?_⟩
          have d2 := dw.trans (DnB.bt (DnB.put (p := p) k))
          have T2 := tabs_dnB TW dw.2 (DnB.put (p := p) k)
          have kW2 : upd Hw p (.lst [.int x, .int y, .int z]) wl = some (.lst [.str (dW 0), .str (dW 1), .str (dW 2), .str (dW 3), .str (dW 4)]) := by rw [upd_ne nwp]; exact kW
          generalize upd Hw p (.lst [.int x, .int y, .int z]) = H12 at d2 T2 kW2 ⊢
          obtain ⟨wd, hw, ew⟩ : ∃ wd : Nat, wd ≤ 4 ∧ (i : Int) * (1 + v) = (wd : Int) := by
            match i, c0 with
            | 0, _ => exact ⟨0, by decide, by simp⟩
            | 1, _ => exact ⟨(1 + v).toNat, by omega, by omega⟩
            | i + 2, c0 => exact absurd c0 (by omega)
          have hat : [V.str (dW 0), .str (dW 1), .str (dW 2), .str (dW 3), .str (dW 4)][wd]? = some (.str (dW wd)) := by
            match wd, hw with
            | 0, _ => rfl
            | 1, _ => rfl
            | 2, _ => rfl
            | 3, _ => rfl
            | 4, _ => rfl
          refine ⟨_, _, rfl, rfl, ?_⟩
          refine ⟨_, _, rfl, rfl, ?_, ?_⟩
          · exact .inl ⟨by omega, by omega⟩
          show rIxL _ (.ref wl) (.int ((i : Int) * (1 + v))) _ _
          rw [ew]
          refine ⟨wl, _, _, _, rfl, rfl, L2.sq_of kW2, atI_nat hat, ?_⟩
          refine ⟨_, rfl, _, rfl, _, rfl, p, 2370, 1, rfl, d2.2, by omega, by decide, by decide, fun v' x y z v0' v1' k' => ?_⟩
          have d3 := d2.trans (DnB.bt (DnB.put (p := p) k'))
          have T3 := tabs_dnB T2 d2.2 (DnB.put (p := p) k')
          generalize upd H12 p (.lst [.int x, .int y, .int z]) = H13 at d3 T3 ⊢
          obtain ⟨n1, hn1⟩ : ∃ n1 : Nat, 131 + v' = (n1 : Int) := ⟨(131 + v').toNat, by omega⟩
          refine ⟨_, _, rfl, rfl, p, wd, n1, 2, (by show [V.ref p, V.str (dW wd), .int (131 + v')] = _; rw [hn1]), hw, by omega, fun _ => by omega, d3.2, by omega, T3, fun H14 d14 T14 => ⟨true, rfl, iteF ?_⟩⟩
          exact ⟨_, _, rfl, (d3.trans d14).mono (by omega), T14⟩
        · rw [decide_eq_false c0]
          exact iteF ⟨_, _, rfl, (DnBT.refl src).mono (by omega), TP⟩
      rintro σ' Hm ⟨u4, u5, rfl, dm, Tm⟩
      refine ⟨rfl, fun wl hwl => ?_⟩
      have dw := dm.ext (.of (same_upd (o := .lst [.str (dW 0), .str (dW 1), .str (dW 2), .str (dW 3), .str (dW 4)]) hwl))
      have TW := Tm.ext (same_upd (o := .lst [.str (dW 0), .str (dW 1), .str (dW 2), .str (dW 3), .str (dW 4)]) hwl)
      have kW : upd Hm wl (.lst [.str (dW 0), .str (dW 1), .str (dW 2), .str (dW 3), .str (dW 4)]) wl = some (.lst [.str (dW 0), .str (dW 1), .str (dW 2), .str (dW 3), .str (dW 4)]) := upd_same
      have nwp : wl ≠ p := dm.2.ne hwl
      generalize upd Hm wl (.lst [.str (dW 0), .str (dW 1), .str (dW 2), .str (dW 3), .str (dW 4)]) = Hw at dw TW kW ⊢
      refine ⟨wl, rfl, ⟨_, L2.sq_of kW⟩, ?_⟩
      refine for_list (K := K) (a := wl) (xs := [.str (dW 0), .str (dW 1), .str (dW 2), .str (dW 3), .str (dW 4)]) (fun j σ H' => (∃ u4 u5 : Option V, σ = [some (.ref sc), some (.int (i : Int)), some (.int cell), some (.ref p), u4, u5]) ∧ DnBT p (20000 + 10500 * j) Hw H' ∧ LamX.Tabs (LT a) H') ⟨⟨_, _, rfl⟩, ⟨fun _ _ _ _ h => h, dw.2⟩, TW⟩ (fun j σ H' _ h => L2.sq_of (h.2.1.1 _ _ nwp (fun ps z => by cases z) kW)) ?_ ?_
      · rintro j yw σ H12 hj ⟨⟨u4, u5, rfl⟩, d12, T12⟩
        obtain ⟨wd, hw, rfl, hj5⟩ : ∃ wd, wd ≤ 4 ∧ yw = .str (dW wd) ∧ j ≤ 4 := by
          match j, hj with
          | 0, hj => exact ⟨0, by decide, (Option.some.inj hj).symm, by decide⟩
          | 1, hj => exact ⟨1, by decide, (Option.some.inj hj).symm, by decide⟩
          | 2, hj => exact ⟨2, by decide, (Option.some.inj hj).symm, by decide⟩
          | 3, hj => exact ⟨3, by decide, (Option.some.inj hj).symm, by decide⟩
          | 4, hj => exact ⟨4, by decide, (Option.some.inj hj).symm, by decide⟩
          | j + 5, hj => cases hj
        refine ⟨_, rfl, _, rfl, p, 21, 20000 + 10500 * j, rfl, d12.2, by omega, by decide, by decide, fun v x y z v0 v1 k => ?_⟩
        have D1 := d12.trans (DnB.bt (DnB.put (p := p) k))
        have T1 := tabs_dnB T12 d12.2 (DnB.put (p := p) k)
        generalize upd H12 p (.lst [.int x, .int y, .int z]) = H13 at D1 T1 ⊢
        refine ⟨by show 8 ≤ sizeLine; decide, fun pl hpl => ?_⟩
        have D1b := D1.ext (.of (same_upd (o := .lst [.int 0, .int 1, .int 2, .int 3, .int 5, .int 8, .int 15, .int v]) hpl))
        have T1b := T1.ext (same_upd (o := .lst [.int 0, .int 1, .int 2, .int 3, .int 5, .int 8, .int 15, .int v]) hpl)
        refine ⟨p, pl, _, 20000 + 10500 * j + 1, rfl, D1b.2, by omega, D1.2.ne hpl, L2.sq_of upd_same, by show 0 < 8; decide, by show 8 < 2 ^ 60; decide, fun kv H14 hkv d14 => ?_⟩
        have D2 := D1b.trans (DnB.bt d14)
        have T2 := tabs_dnB T1b D1b.2 d14
        obtain ⟨n0, rfl, hn0⟩ : ∃ n0 : Nat, kv = .int (n0 : Int) ∧ n0 ≤ 20 := by
          rcases List.mem_cons.mp hkv with rfl | hkv
          · exact ⟨0, rfl, by decide⟩
          rcases List.mem_cons.mp hkv with rfl | hkv
          · exact ⟨1, rfl, by decide⟩
          rcases List.mem_cons.mp hkv with rfl | hkv
          · exact ⟨2, rfl, by decide⟩
          rcases List.mem_cons.mp hkv with rfl | hkv
          · exact ⟨3, rfl, by decide⟩
          rcases List.mem_cons.mp hkv with rfl | hkv
          · exact ⟨5, rfl, by decide⟩
          rcases List.mem_cons.mp hkv with rfl | hkv
          · exact ⟨8, rfl, by decide⟩
          rcases List.mem_cons.mp hkv with rfl | hkv
          · exact ⟨15, rfl, by decide⟩
          rw [List.mem_singleton.mp hkv]
          exact ⟨v.toNat, congrArg V.int (Int.toNat_of_nonneg v0).symm, by omega⟩
        refine ⟨fun σ' H' => ∃ n1 : Nat, σ' = [some (.ref sc), some (.int (i : Int)), some (.int cell), some (.ref p), some (.str (dW wd)), some (.int (n1 : Int))] ∧ n1 ≤ 20 ∧ (wd = 2 ∨ wd = 3 → n1 ≠ 0) ∧ DnBT p (20000 + 10500 * j + 3) Hw H' ∧ LamX.Tabs (LT a) H', ?_, ?_⟩
        · refine ⟨_, rfl, by show 2 ≤ sizeLine; decide, fun t ht => ⟨t, _, rfl, .inr (L2.st_of upd_same), rfl, rfl, decide (wd = 2 ∨ wd = 3), congrArg V.bl ?_, ?_⟩⟩
          · match wd, hw with
            | 0, _ => decide +kernel
            | 1, _ => decide +kernel
            | 2, _ => decide +kernel
            | 3, _ => decide +kernel
            | 4, _ => decide +kernel
          have D3 := (D2.ext (.of (same_upd (o := .tup [.str "pop", .str "replace"]) ht))).mono (show _ ≤ 20000 + 10500 * j + 3 by omega)
          have T3 := T2.ext (same_upd (o := .tup [.str "pop", .str "replace"]) ht)
          generalize upd H14 t (.tup [.str "pop", .str "replace"]) = H15 at D3 T3 ⊢
          by_cases c : wd = 2 ∨ wd = 3
          · rw [decide_eq_true c]
            refine iteT ⟨_, rfl, 1, (n0 : Int), rfl, if (n0 : Int) > 1 then n0 else 1, ?_, by split <;> omega, fun _ => by split <;> omega, D3, T3⟩
            by_cases c1 : (n0 : Int) > 1
            · rw [if_pos c1, if_pos c1]
              rfl
            · rw [if_neg c1, if_neg c1]
              rfl
          · rw [decide_eq_false c]
            exact iteF ⟨n0, rfl, hn0, fun z => absurd z c, D3, T3⟩
        · rintro σ' H15 ⟨n1, rfl, hn1, ne1, D3, T3⟩
          refine ⟨_, rfl, _, rfl, _, rfl, p, wd, n1, _, rfl, hw, by omega, ne1, D3.2, by omega, T3, fun H16 d16 T16 => ⟨true, rfl, ?_⟩⟩
          have D4 := D3.trans d16
          refine ⟨_, rfl, _, rfl, _, rfl, p, wd, n1, _, rfl, hw, by omega, ne1, D4.2, by omega, fun H17 d17 => ⟨true, rfl, iteF ?_⟩⟩
          exact ⟨⟨_, _, rfl⟩, (D4.trans (DnB.bt d17)).mono (by omega), tabs_dnB T16 D4.2 d17⟩
      · rintro σ H12 ⟨⟨u4, u5, rfl⟩, d12, T12⟩
        exact ⟨⟨_, _, _, _, _, rfl⟩, fun b o h t => d12.1 b o (hpe b o h t) t (dw.1 b o (hpe b o h t) t (smP _ _ h t)), T12⟩
    · rintro σ H9 ⟨⟨u1, u2, u3, u4, u5, rfl⟩, sm, _⟩
      exact q _
end

end K88

namespace K88
open PySem PySem.Spec PyProof.Rows L2 LamX
theorem all_mk {l : PySem.W.OpenLaw} {w : World} {K : PySem.W.Frag} {h : Heap} {mg : Str → Option Value} {fa f0 f1 f2 f3 f4 f5 f6 f7 f8 f9 f10 f11 f12 f13 f14 f15 f16 f17 f18 f19 f20 f21 f22 f23 f24 f25 f26 f27 f28 f29 f30 f31 f32 f33 f34 f35 f36 f37 f38 f39 f40 f41 C_HeapDeed C_InvalidKeys C_InvalidAnswers C_SortError : Addr} {t_MOST_KEYS_heaps t_RISING t_SINKING t_WEIGHING : Tok} {u_DEEDS : Addr} {uo_DEEDS : Option Addr} {un_DEEDS : Nat} {us_DEEDS : Array (Option Value)} {uk_DEEDS_0 uk_DEEDS_1 uk_DEEDS_2 uk_DEEDS_3 uk_DEEDS_4 : Tok} {lc_right lp_right : Addr} (X : K.In h) (G : h.Ns mainGlobals mg) (hfa : mg "law" = some (.ref fa)) (tb_right : h.get? lp_right = some (PySem.W.tabObj #[]))
    {nm_InvalidKeys q_InvalidKeys : Str} {N_InvalidKeys : Addr} {bs_InvalidKeys : List Value} {sn_InvalidKeys : List Str} {sub_InvalidKeys : List Value} {ab_InvalidKeys : Bool} {col_InvalidKeys : Option Bool} {dd_InvalidKeys : Option Addr} {m0_InvalidKeys m1_InvalidKeys m2_InvalidKeys m3_InvalidKeys m5_InvalidKeys : Option Value}
    {nm_InvalidAnswers q_InvalidAnswers : Str} {N_InvalidAnswers : Addr} {bs_InvalidAnswers : List Value} {sn_InvalidAnswers : List Str} {sub_InvalidAnswers : List Value} {ab_InvalidAnswers : Bool} {col_InvalidAnswers : Option Bool} {dd_InvalidAnswers : Option Addr} {m0_InvalidAnswers m1_InvalidAnswers m2_InvalidAnswers m3_InvalidAnswers m5_InvalidAnswers : Option Value}
    {od0 an0 od1 an1 od2 an2 od3 an3 od4 an4 od5 an5 od6 an6 od7 an7 od8 an8 od9 an9 od10 an10 od11 an11 od12 an12 od13 an13 od14 an14 od15 an15 od16 an16 od17 an17 od18 an18 od19 an19 od20 an20 od21 an21 od22 an22 od23 an23 od24 an24 od25 an25 od26 an26 od27 an27 od28 an28 od29 an29 od30 an30 od31 an31 od32 an32 od33 an33 od34 an34 od35 an35 od36 an36 od37 an37 od38 an38 od39 an39 od40 an40 od41 an41 : Option Addr} {sl0 sl1 sl2 sl3 sl4 sl5 sl6 sl7 sl8 sl9 sl10 sl11 sl12 sl13 sl14 sl15 sl16 sl17 sl18 sl19 sl20 sl21 sl22 sl23 sl24 sl25 sl26 sl27 sl28 sl29 sl30 sl31 sl32 sl33 sl34 sl35 sl36 sl37 sl38 sl39 sl40 sl41 : Array (Option Value)} {oc0 kV0 dc0 pm0 cd0 ct0 oc1 kV1 dc1 pm1 cd1 ct1 oc2 kV2 dc2 pm2 cd2 ct2 oc3 kV3 dc3 pm3 cd3 ct3 oc4 kV4 dc4 pm4 cd4 ct4 oc5 kV5 dc5 pm5 cd5 ct5 oc6 kV6 dc6 pm6 cd6 ct6 oc7 kV7 dc7 pm7 cd7 ct7 oc8 kV8 dc8 pm8 cd8 ct8 oc9 kV9 dc9 pm9 cd9 ct9 oc10 kV10 dc10 pm10 cd10 ct10 oc11 kV11 dc11 pm11 cd11 ct11 oc12 kV12 dc12 pm12 cd12 ct12 oc13 kV13 dc13 pm13 cd13 ct13 oc14 kV14 dc14 pm14 cd14 ct14 oc15 kV15 dc15 pm15 cd15 ct15 oc16 kV16 dc16 pm16 cd16 ct16 oc17 kV17 dc17 pm17 cd17 ct17 oc18 kV18 dc18 pm18 cd18 ct18 oc19 kV19 dc19 pm19 cd19 ct19 oc20 kV20 dc20 pm20 cd20 ct20 oc21 kV21 dc21 pm21 cd21 ct21 oc22 kV22 dc22 pm22 cd22 ct22 oc23 kV23 dc23 pm23 cd23 ct23 oc24 kV24 dc24 pm24 cd24 ct24 oc25 kV25 dc25 pm25 cd25 ct25 oc26 kV26 dc26 pm26 cd26 ct26 oc27 kV27 dc27 pm27 cd27 ct27 oc28 kV28 dc28 pm28 cd28 ct28 oc29 kV29 dc29 pm29 cd29 ct29 oc30 kV30 dc30 pm30 cd30 ct30 oc31 kV31 dc31 pm31 cd31 ct31 oc32 kV32 dc32 pm32 cd32 ct32 oc33 kV33 dc33 pm33 cd33 ct33 oc34 kV34 dc34 pm34 cd34 ct34 oc35 kV35 dc35 pm35 cd35 ct35 oc36 kV36 dc36 pm36 cd36 ct36 oc37 kV37 dc37 pm37 cd37 ct37 oc38 kV38 dc38 pm38 cd38 ct38 oc39 kV39 dc39 pm39 cd39 ct39 oc40 kV40 dc40 pm40 cd40 ct40 oc41 kV41 dc41 pm41 cd41 ct41 : Value}
    {T6 : Addr} {odT6 : Option Addr} {oT6 : Value} {nT6 : Nat} {slT6 : Array (Option Value)} {uT6_0 : Tok} {uT6_1 : Tok}
    {T8 : Addr} {odT8 : Option Addr} {oT8 : Value} {nT8 : Nat} {slT8 : Array (Option Value)} 
    {T20 : Addr} {odT20 : Option Addr} {oT20 : Value} {nT20 : Nat} {slT20 : Array (Option Value)} 
    (a0 : PySem.W.nsIn K mainGlobals "ask_honestly" = some (some (.ref f0))) (l0 : K.lookup f0 = some ⟨oc0, od0, .func (PySem.W.fnOf "ask_honestly" "ask_honestly" (defArgs s_ask_honestly) (defBody s_ask_honestly) (defScope s_ask_honestly) .none kV0 dc0 pm0 an0 cd0 ct0), sl0⟩) (c0 : PySem.W.codeIn K cd0 "ask_honestly" = true) (k0 : PySem.W.keepIn K (.ref f0) = true)
    (a1 : PySem.W.nsIn K mainGlobals "give_answers" = some (some (.ref f1))) (l1 : K.lookup f1 = some ⟨oc1, od1, .func (PySem.W.fnOf "give_answers" "give_answers" (defArgs s_give_answers) (defBody s_give_answers) (defScope s_give_answers) .none kV1 dc1 pm1 an1 cd1 ct1), sl1⟩) (c1 : PySem.W.codeIn K cd1 "give_answers" = true) (k1 : PySem.W.keepIn K (.ref f1) = true)
    (l2 : K.lookup f2 = some ⟨oc2, od2, .func (PySem.W.fnOf "__init__" "InvalidKeys.__init__" (defArgs s_InvalidKeys___init__) (defBody s_InvalidKeys___init__) (defScope s_InvalidKeys___init__) .none kV2 dc2 pm2 an2 cd2 ct2), sl2⟩) (c2 : PySem.W.codeIn K cd2 "InvalidKeys.__init__" = true) (k2 : PySem.W.keepIn K (.ref f2) = true)
    (l3 : K.lookup f3 = some ⟨oc3, od3, .func (PySem.W.fnOf "__init__" "InvalidAnswers.__init__" (defArgs s_InvalidAnswers___init__) (defBody s_InvalidAnswers___init__) (defScope s_InvalidAnswers___init__) .none kV3 dc3 pm3 an3 cd3 ct3), sl3⟩) (c3 : PySem.W.codeIn K cd3 "InvalidAnswers.__init__" = true) (k3 : PySem.W.keepIn K (.ref f3) = true)
    (a4 : PySem.W.nsIn K mainGlobals "is_integer" = some (some (.ref f4))) (l4 : K.lookup f4 = some ⟨oc4, od4, .func (PySem.W.fnOf "is_integer" "is_integer" (defArgs s_is_integer) (defBody s_is_integer) (defScope s_is_integer) .none kV4 dc4 pm4 an4 cd4 ct4), sl4⟩) (c4 : PySem.W.codeIn K cd4 "is_integer" = true) (k4 : PySem.W.keepIn K (.ref f4) = true)
    (a5 : PySem.W.nsIn K mainGlobals "is_within" = some (some (.ref f5))) (l5 : K.lookup f5 = some ⟨oc5, od5, .func (PySem.W.fnOf "is_within" "is_within" (defArgs s_is_within) (defBody s_is_within) (defScope s_is_within) .none kV5 dc5 pm5 an5 cd5 ct5), sl5⟩) (c5 : PySem.W.codeIn K cd5 "is_within" = true) (k5 : PySem.W.keepIn K (.ref f5) = true)
    (a6 : PySem.W.nsIn K mainGlobals "check_keys" = some (some (.ref f6))) (l6 : K.lookup f6 = some ⟨oc6, od6, .func (PySem.W.fnOf "check_keys" "check_keys" (defArgs s_check_keys) (defBody s_check_keys) (defScope s_check_keys) (.ref T6) kV6 dc6 pm6 an6 cd6 ct6), sl6⟩) (c6 : PySem.W.codeIn K cd6 "check_keys" = true) (k6 : PySem.W.keepIn K (.ref f6) = true)
    (t6 : K.lookup T6 = some ⟨oT6, odT6, .seq #[.int 0 uT6_0, .int 2000 uT6_1] nT6, slT6⟩)
    (a7 : PySem.W.nsIn K mainGlobals "check_answers" = some (some (.ref f7))) (l7 : K.lookup f7 = some ⟨oc7, od7, .func (PySem.W.fnOf "check_answers" "check_answers" (defArgs s_check_answers) (defBody s_check_answers) (defScope s_check_answers) .none kV7 dc7 pm7 an7 cd7 ct7), sl7⟩) (c7 : PySem.W.codeIn K cd7 "check_answers" = true) (k7 : PySem.W.keepIn K (.ref f7) = true)
    (a8 : PySem.W.nsIn K mainGlobals "check_number" = some (some (.ref f8))) (l8 : K.lookup f8 = some ⟨oc8, od8, .func (PySem.W.fnOf "check_number" "check_number" (defArgs s_check_number) (defBody s_check_number) (defScope s_check_number) (.ref T8) kV8 dc8 pm8 an8 cd8 ct8), sl8⟩) (c8 : PySem.W.codeIn K cd8 "check_number" = true) (k8 : PySem.W.keepIn K (.ref f8) = true)
    (t8 : K.lookup T8 = some ⟨oT8, odT8, .seq #[.none] nT8, slT8⟩)
    (a9 : PySem.W.findIn K (.ref C_HeapDeed) "__init__" = some (some (.ref f9))) (i9 : PySem.W.isFn K (.ref f9) = true) (l9 : K.lookup f9 = some ⟨oc9, od9, .func (PySem.W.fnOf "__init__" "HeapDeed.__init__" (defArgs s_HeapDeed___init__) (defBody s_HeapDeed___init__) (defScope s_HeapDeed___init__) .none kV9 dc9 pm9 an9 cd9 ct9), sl9⟩) (c9 : PySem.W.codeIn K cd9 "HeapDeed.__init__" = true) (k9 : PySem.W.keepIn K (.ref f9) = true)
    (a10 : PySem.W.findIn K (.ref C_HeapDeed) "take" = some (some (.ref f10))) (i10 : PySem.W.isFn K (.ref f10) = true) (l10 : K.lookup f10 = some ⟨oc10, od10, .func (PySem.W.fnOf "take" "HeapDeed.take" (defArgs s_HeapDeed_take) (defBody s_HeapDeed_take) (defScope s_HeapDeed_take) .none kV10 dc10 pm10 an10 cd10 ct10), sl10⟩) (c10 : PySem.W.codeIn K cd10 "HeapDeed.take" = true) (k10 : PySem.W.keepIn K (.ref f10) = true)
    (a11 : PySem.W.findIn K (.ref C_HeapDeed) "_pop" = some (some (.ref f11))) (i11 : PySem.W.isFn K (.ref f11) = true) (l11 : K.lookup f11 = some ⟨oc11, od11, .func (PySem.W.fnOf "_pop" "HeapDeed._pop" (defArgs s_HeapDeed__pop) (defBody s_HeapDeed__pop) (defScope s_HeapDeed__pop) .none kV11 dc11 pm11 an11 cd11 ct11), sl11⟩) (c11 : PySem.W.codeIn K cd11 "HeapDeed._pop" = true) (k11 : PySem.W.keepIn K (.ref f11) = true)
    (a12 : PySem.W.findIn K (.ref C_HeapDeed) "_replace_first" = some (some (.ref f12))) (i12 : PySem.W.isFn K (.ref f12) = true) (l12 : K.lookup f12 = some ⟨oc12, od12, .func (PySem.W.fnOf "_replace_first" "HeapDeed._replace_first" (defArgs s_HeapDeed__replace_first) (defBody s_HeapDeed__replace_first) (defScope s_HeapDeed__replace_first) .none kV12 dc12 pm12 an12 cd12 ct12), sl12⟩) (c12 : PySem.W.codeIn K cd12 "HeapDeed._replace_first" = true) (k12 : PySem.W.keepIn K (.ref f12) = true)
    (a13 : PySem.W.findIn K (.ref C_HeapDeed) "_weigh" = some (some (.ref f13))) (i13 : PySem.W.isFn K (.ref f13) = true) (l13 : K.lookup f13 = some ⟨oc13, od13, .func (PySem.W.fnOf "_weigh" "HeapDeed._weigh" (defArgs s_HeapDeed__weigh) (defBody s_HeapDeed__weigh) (defScope s_HeapDeed__weigh) .none kV13 dc13 pm13 an13 cd13 ct13), sl13⟩) (c13 : PySem.W.codeIn K cd13 "HeapDeed._weigh" = true) (k13 : PySem.W.keepIn K (.ref f13) = true)
    (a14 : PySem.W.findIn K (.ref C_HeapDeed) "_take_weight" = some (some (.ref f14))) (i14 : PySem.W.isFn K (.ref f14) = true) (l14 : K.lookup f14 = some ⟨oc14, od14, .func (PySem.W.fnOf "_take_weight" "HeapDeed._take_weight" (defArgs s_HeapDeed__take_weight) (defBody s_HeapDeed__take_weight) (defScope s_HeapDeed__take_weight) .none kV14 dc14 pm14 an14 cd14 ct14), sl14⟩) (c14 : PySem.W.codeIn K cd14 "HeapDeed._take_weight" = true) (k14 : PySem.W.keepIn K (.ref f14) = true)
    (a15 : PySem.W.findIn K (.ref C_HeapDeed) "_begin_next_sink" = some (some (.ref f15))) (i15 : PySem.W.isFn K (.ref f15) = true) (l15 : K.lookup f15 = some ⟨oc15, od15, .func (PySem.W.fnOf "_begin_next_sink" "HeapDeed._begin_next_sink" (defArgs s_HeapDeed__begin_next_sink) (defBody s_HeapDeed__begin_next_sink) (defScope s_HeapDeed__begin_next_sink) .none kV15 dc15 pm15 an15 cd15 ct15), sl15⟩) (c15 : PySem.W.codeIn K cd15 "HeapDeed._begin_next_sink" = true) (k15 : PySem.W.keepIn K (.ref f15) = true)
    (a16 : PySem.W.findIn K (.ref C_HeapDeed) "_sink" = some (some (.ref f16))) (i16 : PySem.W.isFn K (.ref f16) = true) (l16 : K.lookup f16 = some ⟨oc16, od16, .func (PySem.W.fnOf "_sink" "HeapDeed._sink" (defArgs s_HeapDeed__sink) (defBody s_HeapDeed__sink) (defScope s_HeapDeed__sink) .none kV16 dc16 pm16 an16 cd16 ct16), sl16⟩) (c16 : PySem.W.codeIn K cd16 "HeapDeed._sink" = true) (k16 : PySem.W.keepIn K (.ref f16) = true)
    (a17 : PySem.W.findIn K (.ref C_HeapDeed) "_rise" = some (some (.ref f17))) (i17 : PySem.W.isFn K (.ref f17) = true) (l17 : K.lookup f17 = some ⟨oc17, od17, .func (PySem.W.fnOf "_rise" "HeapDeed._rise" (defArgs s_HeapDeed__rise) (defBody s_HeapDeed__rise) (defScope s_HeapDeed__rise) .none kV17 dc17 pm17 an17 cd17 ct17), sl17⟩) (c17 : PySem.W.codeIn K cd17 "HeapDeed._rise" = true) (k17 : PySem.W.keepIn K (.ref f17) = true)
    (a18 : PySem.W.findIn K (.ref C_HeapDeed) "_parent" = some (some (.ref f18))) (i18 : PySem.W.isFn K (.ref f18) = true) (l18 : K.lookup f18 = some ⟨oc18, od18, .func (PySem.W.fnOf "_parent" "HeapDeed._parent" (defArgs s_HeapDeed__parent) (defBody s_HeapDeed__parent) (defScope s_HeapDeed__parent) .none kV18 dc18 pm18 an18 cd18 ct18), sl18⟩) (c18 : PySem.W.codeIn K cd18 "HeapDeed._parent" = true) (k18 : PySem.W.keepIn K (.ref f18) = true)
    (a19 : PySem.W.findIn K (.ref C_HeapDeed) "_change_places" = some (some (.ref f19))) (i19 : PySem.W.isFn K (.ref f19) = true) (l19 : K.lookup f19 = some ⟨oc19, od19, .func (PySem.W.fnOf "_change_places" "HeapDeed._change_places" (defArgs s_HeapDeed__change_places) (defBody s_HeapDeed__change_places) (defScope s_HeapDeed__change_places) .none kV19 dc19 pm19 an19 cd19 ct19), sl19⟩) (c19 : PySem.W.codeIn K cd19 "HeapDeed._change_places" = true) (k19 : PySem.W.keepIn K (.ref f19) = true)
    (a20 : PySem.W.nsIn K mainGlobals "deed_done" = some (some (.ref f20))) (l20 : K.lookup f20 = some ⟨oc20, od20, .func (PySem.W.fnOf "deed_done" "deed_done" (defArgs s_deed_done) (defBody s_deed_done) (defScope s_deed_done) (.ref T20) kV20 dc20 pm20 an20 cd20 ct20), sl20⟩) (c20 : PySem.W.codeIn K cd20 "deed_done" = true) (k20 : PySem.W.keepIn K (.ref f20) = true)
    (t20 : K.lookup T20 = some ⟨oT20, odT20, .seq #[.none] nT20, slT20⟩)
    (a21 : PySem.W.nsIn K mainGlobals "deed_told" = some (some (.ref f21))) (l21 : K.lookup f21 = some ⟨oc21, od21, .func (PySem.W.fnOf "deed_told" "deed_told" (defArgs s_deed_told) (defBody s_deed_told) (defScope s_deed_told) .none kV21 dc21 pm21 an21 cd21 ct21), sl21⟩) (c21 : PySem.W.codeIn K cd21 "deed_told" = true) (k21 : PySem.W.keepIn K (.ref f21) = true)
    (a22 : PySem.W.nsIn K mainGlobals "_begun" = some (some (.ref f22))) (l22 : K.lookup f22 = some ⟨oc22, od22, .func (PySem.W.fnOf "_begun" "_begun" (defArgs s_begun) (defBody s_begun) (defScope s_begun) .none kV22 dc22 pm22 an22 cd22 ct22), sl22⟩) (c22 : PySem.W.codeIn K cd22 "_begun" = true) (k22 : PySem.W.keepIn K (.ref f22) = true)
    (a23 : PySem.W.nsIn K mainGlobals "_has_new_item" = some (some (.ref f23))) (l23 : K.lookup f23 = some ⟨oc23, od23, .func (PySem.W.fnOf "_has_new_item" "_has_new_item" (defArgs s_has_new_item) (defBody s_has_new_item) (defScope s_has_new_item) .none kV23 dc23 pm23 an23 cd23 ct23), sl23⟩) (c23 : PySem.W.codeIn K cd23 "_has_new_item" = true) (k23 : PySem.W.keepIn K (.ref f23) = true)
    (a24 : PySem.W.nsIn K mainGlobals "_check_deed" = some (some (.ref f24))) (l24 : K.lookup f24 = some ⟨oc24, od24, .func (PySem.W.fnOf "_check_deed" "_check_deed" (defArgs s_check_deed) (defBody s_check_deed) (defScope s_check_deed) .none kV24 dc24 pm24 an24 cd24 ct24), sl24⟩) (c24 : PySem.W.codeIn K cd24 "_check_deed" = true) (k24 : PySem.W.keepIn K (.ref f24) = true)
    (a25 : PySem.W.nsIn K mainGlobals "_check_not_empty" = some (some (.ref f25))) (l25 : K.lookup f25 = some ⟨oc25, od25, .func (PySem.W.fnOf "_check_not_empty" "_check_not_empty" (defArgs s_check_not_empty) (defBody s_check_not_empty) (defScope s_check_not_empty) .none kV25 dc25 pm25 an25 cd25 ct25), sl25⟩) (c25 : PySem.W.codeIn K cd25 "_check_not_empty" = true) (k25 : PySem.W.keepIn K (.ref f25) = true)
    (a26 : PySem.W.nsIn K mainGlobals "_law_well" = some (some (.ref f26))) (l26 : K.lookup f26 = some ⟨oc26, od26, .func (PySem.W.fnOf "_law_well" "_law_well" (defArgs s_well) (defBody s_well) (defScope s_well) .none kV26 dc26 pm26 an26 cd26 ct26), sl26⟩) (c26 : PySem.W.codeIn K cd26 "_law_well" = true) (k26 : PySem.W.keepIn K (.ref f26) = true)
    (a27 : PySem.W.nsIn K mainGlobals "_law_draw" = some (some (.ref f27))) (l27 : K.lookup f27 = some ⟨oc27, od27, .func (PySem.W.fnOf "_law_draw" "_law_draw" (defArgs s_draw) (defBody s_draw) (defScope s_draw) .none kV27 dc27 pm27 an27 cd27 ct27), sl27⟩) (c27 : PySem.W.codeIn K cd27 "_law_draw" = true) (k27 : PySem.W.keepIn K (.ref f27) = true)
    (a28 : PySem.W.nsIn K mainGlobals "_law_pick" = some (some (.ref f28))) (l28 : K.lookup f28 = some ⟨oc28, od28, .func (PySem.W.fnOf "_law_pick" "_law_pick" (defArgs s_pick) (defBody s_pick) (defScope s_pick) .none kV28 dc28 pm28 an28 cd28 ct28), sl28⟩) (c28 : PySem.W.codeIn K cd28 "_law_pick" = true) (k28 : PySem.W.keepIn K (.ref f28) = true)
    (a29 : PySem.W.nsIn K mainGlobals "_law_ask" = some (some (.ref f29))) (l29 : K.lookup f29 = some ⟨oc29, od29, .func (PySem.W.fnOf "_law_ask" "_law_ask" (defArgs s_ask) (defBody s_ask) (defScope s_ask) .none kV29 dc29 pm29 an29 cd29 ct29), sl29⟩) (c29 : PySem.W.codeIn K cd29 "_law_ask" = true) (k29 : PySem.W.keepIn K (.ref f29) = true)
    (a30 : PySem.W.nsIn K mainGlobals "_law_up" = some (some (.ref f30))) (l30 : K.lookup f30 = some ⟨oc30, od30, .func (PySem.W.fnOf "_law_up" "_law_up" (defArgs s_up) (defBody s_up) (defScope s_up) .none kV30 dc30 pm30 an30 cd30 ct30), sl30⟩) (c30 : PySem.W.codeIn K cd30 "_law_up" = true) (k30 : PySem.W.keepIn K (.ref f30) = true)
    (a31 : PySem.W.nsIn K mainGlobals "_law_down" = some (some (.ref f31))) (l31 : K.lookup f31 = some ⟨oc31, od31, .func (PySem.W.fnOf "_law_down" "_law_down" (defArgs s_down) (defBody s_down) (defScope s_down) .none kV31 dc31 pm31 an31 cd31 ct31), sl31⟩) (c31 : PySem.W.codeIn K cd31 "_law_down" = true) (k31 : PySem.W.keepIn K (.ref f31) = true)
    (a32 : PySem.W.nsIn K mainGlobals "_law_first" = some (some (.ref f32))) (l32 : K.lookup f32 = some ⟨oc32, od32, .func (PySem.W.fnOf "_law_first" "_law_first" (defArgs s_first) (defBody s_first) (defScope s_first) .none kV32 dc32 pm32 an32 cd32 ct32), sl32⟩) (c32 : PySem.W.codeIn K cd32 "_law_first" = true) (k32 : PySem.W.keepIn K (.ref f32) = true)
    (a33 : PySem.W.nsIn K mainGlobals "_law_go" = some (some (.ref f33))) (l33 : K.lookup f33 = some ⟨oc33, od33, .func (PySem.W.fnOf "_law_go" "_law_go" (defArgs s_go) (defBody s_go) (defScope s_go) .none kV33 dc33 pm33 an33 cd33 ct33), sl33⟩) (c33 : PySem.W.codeIn K cd33 "_law_go" = true) (k33 : PySem.W.keepIn K (.ref f33) = true)
    (a34 : PySem.W.nsIn K mainGlobals "_law_deed" = some (some (.ref f34))) (l34 : K.lookup f34 = some ⟨oc34, od34, .func (PySem.W.fnOf "_law_deed" "_law_deed" (defArgs s_deed) (defBody s_deed) (defScope s_deed) .none kV34 dc34 pm34 an34 cd34 ct34), sl34⟩) (c34 : PySem.W.codeIn K cd34 "_law_deed" = true) (k34 : PySem.W.keepIn K (.ref f34) = true)
    (a35 : PySem.W.nsIn K mainGlobals "_law_honest" = some (some (.ref f35))) (l35 : K.lookup f35 = some ⟨oc35, od35, .func (PySem.W.fnOf "_law_honest" "_law_honest" (defArgs s_honest) (defBody s_honest) (defScope s_honest) .none kV35 dc35 pm35 an35 cd35 ct35), sl35⟩) (c35 : PySem.W.codeIn K cd35 "_law_honest" = true) (k35 : PySem.W.keepIn K (.ref f35) = true)
    (a36 : PySem.W.nsIn K mainGlobals "_law_words" = some (some (.ref f36))) (l36 : K.lookup f36 = some ⟨oc36, od36, .func (PySem.W.fnOf "_law_words" "_law_words" (defArgs s_words) (defBody s_words) (defScope s_words) .none kV36 dc36 pm36 an36 cd36 ct36), sl36⟩) (c36 : PySem.W.codeIn K cd36 "_law_words" = true) (k36 : PySem.W.keepIn K (.ref f36) = true)
    (a37 : PySem.W.nsIn K mainGlobals "_law_word" = some (some (.ref f37))) (l37 : K.lookup f37 = some ⟨oc37, od37, .func (PySem.W.fnOf "_law_word" "_law_word" (defArgs s_word) (defBody s_word) (defScope s_word) .none kV37 dc37 pm37 an37 cd37 ct37), sl37⟩) (c37 : PySem.W.codeIn K cd37 "_law_word" = true) (k37 : PySem.W.keepIn K (.ref f37) = true)
    (a38 : PySem.W.nsIn K mainGlobals "_law_items_right" = some (some (.ref f38))) (l38 : K.lookup f38 = some ⟨oc38, od38, .func (PySem.W.fnOf "_law_items_right" "_law_items_right" (defArgs s_items_right) (defBody s_items_right) (defScope s_items_right) .none kV38 dc38 pm38 an38 cd38 ct38), sl38⟩) (c38 : PySem.W.codeIn K cd38 "_law_items_right" = true) (k38 : PySem.W.keepIn K (.ref f38) = true)
    (a39 : PySem.W.nsIn K mainGlobals "_law_right" = some (some (.ref f39))) (l39 : K.lookup f39 = some ⟨oc39, od39, .func (PySem.W.fnOf "_law_right" "_law_right" (defArgs s_right) (defBody s_right) (defScope s_right) .none kV39 dc39 pm39 an39 cd39 ct39), sl39⟩) (c39 : PySem.W.codeIn K cd39 "_law_right" = true) (k39 : PySem.W.keepIn K (.ref f39) = true)
    (a40 : PySem.W.nsIn K mainGlobals "_law_honest_right" = some (some (.ref f40))) (l40 : K.lookup f40 = some ⟨oc40, od40, .func (PySem.W.fnOf "_law_honest_right" "_law_honest_right" (defArgs s_honest_right) (defBody s_honest_right) (defScope s_honest_right) .none kV40 dc40 pm40 an40 cd40 ct40), sl40⟩) (c40 : PySem.W.codeIn K cd40 "_law_honest_right" = true) (k40 : PySem.W.keepIn K (.ref f40) = true)
    (a41 : PySem.W.nsIn K mainGlobals "law" = some (some (.ref f41))) (l41 : K.lookup f41 = some ⟨oc41, od41, .func (PySem.W.fnOf "law" "law" (defArgs s_law) (defBody s_law) (defScope s_law) .none kV41 dc41 pm41 an41 cd41 ct41), sl41⟩) (c41 : PySem.W.codeIn K cd41 "law" = true) (k41 : PySem.W.keepIn K (.ref f41) = true)
    (v_MOST_KEYS_heaps : PySem.W.nsIn K mainGlobals "MOST_KEYS_heaps" = some (some (.int 2500 t_MOST_KEYS_heaps)))
    (v_RISING : PySem.W.nsIn K mainGlobals "RISING" = some (some (.int 3 t_RISING)))
    (v_SINKING : PySem.W.nsIn K mainGlobals "SINKING" = some (some (.int 2 t_SINKING)))
    (v_WEIGHING : PySem.W.nsIn K mainGlobals "WEIGHING" = some (some (.int 1 t_WEIGHING)))
    (gt_DEEDS : PySem.W.nsIn K mainGlobals "DEEDS" = some (some (.ref u_DEEDS))) (gl_DEEDS : K.lookup u_DEEDS = some ⟨.type "tuple", uo_DEEDS, .seq #[.str "heapify" uk_DEEDS_0, .str "push" uk_DEEDS_1, .str "pop" uk_DEEDS_2, .str "replace" uk_DEEDS_3, .str "pushpop" uk_DEEDS_4] un_DEEDS, us_DEEDS⟩)
    (z_abs : PySem.W.nsIn K mainGlobals "abs" = some none)
    (z_bool : PySem.W.nsIn K mainGlobals "bool" = some none)
    (z_enumerate : PySem.W.nsIn K mainGlobals "enumerate" = some none)
    (z_int : PySem.W.nsIn K mainGlobals "int" = some none)
    (z_isinstance : PySem.W.nsIn K mainGlobals "isinstance" = some none)
    (z_len : PySem.W.nsIn K mainGlobals "len" = some none)
    (z_list : PySem.W.nsIn K mainGlobals "list" = some none)
    (z_max : PySem.W.nsIn K mainGlobals "max" = some none)
    (z_range : PySem.W.nsIn K mainGlobals "range" = some none)
    (z_sorted : PySem.W.nsIn K mainGlobals "sorted" = some none)
    (z_str : PySem.W.nsIn K mainGlobals "str" = some none)
    (z_tuple : PySem.W.nsIn K mainGlobals "tuple" = some none)
    (aC_HeapDeed : PySem.W.nsIn K mainGlobals "HeapDeed" = some (some (.ref C_HeapDeed)))
    (pg_HeapDeed : PySem.W.plainGet K C_HeapDeed Str.empty = true)
    (hd_HeapDeed : PySem.W.hasDictIn K C_HeapDeed = true)
    (po_HeapDeed : PySem.W.plainOver K C_HeapDeed = true)
    (sa_HeapDeed : PySem.W.findIn K (.ref C_HeapDeed) "__setattr__" = some (some (.builtin "object.__setattr__")))
    (mk_HeapDeed : PySem.W.makesIn K C_HeapDeed = true)
    (kc_HeapDeed : PySem.W.keepIn K (.ref C_HeapDeed) = true)
    (n_row : PySem.W.findIn K (.ref C_HeapDeed) "row" = some none)
    (n_new : PySem.W.findIn K (.ref C_HeapDeed) "new" = some none)
    (n_given : PySem.W.findIn K (.ref C_HeapDeed) "given" = some none)
    (n_waiting : PySem.W.findIn K (.ref C_HeapDeed) "waiting" = some none)
    (n_tops : PySem.W.findIn K (.ref C_HeapDeed) "tops" = some none)
    (n_top : PySem.W.findIn K (.ref C_HeapDeed) "top" = some none)
    (n_place : PySem.W.findIn K (.ref C_HeapDeed) "place" = some none)
    (n_phase : PySem.W.findIn K (.ref C_HeapDeed) "phase" = some none)
    (aX_InvalidKeys : PySem.W.nsIn K mainGlobals "InvalidKeys" = some (some (.ref C_InvalidKeys)))
    (ii_InvalidKeys : PySem.W.findIn K (.ref C_InvalidKeys) "__init__" = some (some (.ref f2)))
    (xL_InvalidKeys : K.lookup C_InvalidKeys = some (excClassObj nm_InvalidKeys q_InvalidKeys C_InvalidKeys N_InvalidKeys bs_InvalidKeys [.ref C_SortError, .type "ValueError", .type "Exception", .type "BaseException", .type "object"] true sn_InvalidKeys sub_InvalidKeys ab_InvalidKeys col_InvalidKeys dd_InvalidKeys m0_InvalidKeys m1_InvalidKeys m2_InvalidKeys m3_InvalidKeys m5_InvalidKeys "ValueError.__new__"))
    (sx_InvalidKeys : PySem.W.findIn K (.ref C_InvalidKeys) "__setattr__" = some (some (.builtin "object.__setattr__")))
    (gx_InvalidKeys : PySem.W.findIn K (.ref C_InvalidKeys) "__getattribute__" = some (some (.builtin "BaseException.__getattribute__")))
    (ggx_InvalidKeys : PySem.W.findIn K (.ref C_InvalidKeys) "__getattr__" = some none)
    (nx_InvalidKeys : PySem.W.findIn K (.ref C_InvalidKeys) "index" = some none)
    (tx_InvalidKeys : PySem.W.typeIn K (.ref f2) = some (.type "function"))
    (kx_InvalidKeys : PySem.W.keepIn K (.ref C_InvalidKeys) = true)
    (ex_InvalidKeys : PySem.W.subIn K (.ref C_InvalidKeys) (.type "BaseException") = some true)
    (tyx_InvalidKeys : PySem.W.typeIn K (.ref C_InvalidKeys) = some (.type "type"))
    (hx_InvalidKeys : PySem.W.hasDictIn K C_InvalidKeys = true)
    (icx_InvalidKeys : PySem.W.isClsIn K C_InvalidKeys = true)
    (scx_InvalidKeys : PySem.W.subIn K (.ref C_InvalidKeys) (.ref C_InvalidKeys) = some true)
    (aX_InvalidAnswers : PySem.W.nsIn K mainGlobals "InvalidAnswers" = some (some (.ref C_InvalidAnswers)))
    (ii_InvalidAnswers : PySem.W.findIn K (.ref C_InvalidAnswers) "__init__" = some (some (.ref f3)))
    (xL_InvalidAnswers : K.lookup C_InvalidAnswers = some (excClassObj nm_InvalidAnswers q_InvalidAnswers C_InvalidAnswers N_InvalidAnswers bs_InvalidAnswers [.ref C_SortError, .type "ValueError", .type "Exception", .type "BaseException", .type "object"] true sn_InvalidAnswers sub_InvalidAnswers ab_InvalidAnswers col_InvalidAnswers dd_InvalidAnswers m0_InvalidAnswers m1_InvalidAnswers m2_InvalidAnswers m3_InvalidAnswers m5_InvalidAnswers "ValueError.__new__"))
    (sx_InvalidAnswers : PySem.W.findIn K (.ref C_InvalidAnswers) "__setattr__" = some (some (.builtin "object.__setattr__")))
    (gx_InvalidAnswers : PySem.W.findIn K (.ref C_InvalidAnswers) "__getattribute__" = some (some (.builtin "BaseException.__getattribute__")))
    (ggx_InvalidAnswers : PySem.W.findIn K (.ref C_InvalidAnswers) "__getattr__" = some none)
    (nx_InvalidAnswers : PySem.W.findIn K (.ref C_InvalidAnswers) "index" = some none)
    (tx_InvalidAnswers : PySem.W.typeIn K (.ref f3) = some (.type "function"))
    (kx_InvalidAnswers : PySem.W.keepIn K (.ref C_InvalidAnswers) = true)
    (ex_InvalidAnswers : PySem.W.subIn K (.ref C_InvalidAnswers) (.type "BaseException") = some true)
    (tyx_InvalidAnswers : PySem.W.typeIn K (.ref C_InvalidAnswers) = some (.type "type"))
    (hx_InvalidAnswers : PySem.W.hasDictIn K C_InvalidAnswers = true)
    (icx_InvalidAnswers : PySem.W.isClsIn K C_InvalidAnswers = true)
    (scx_InvalidAnswers : PySem.W.subIn K (.ref C_InvalidAnswers) (.ref C_InvalidAnswers) = some true)
    (aX_SortError : PySem.W.nsIn K mainGlobals "SortError" = some (some (.ref C_SortError)))
    (r1x_SortError : PySem.W.readsIn K C_SortError (.type "type") = true)
    (r2x_SortError : PySem.W.specialIn K (.ref C_SortError) "__getattribute__" = some (some (.builtin "type.__getattribute__")))
    (vix_SortError : PySem.W.findCls K (.ref C_SortError) (.type "type") "__init__" = some (.val (.builtin "ValueError.__init__")))
    (ex_SortError : PySem.W.subIn K (.ref C_SortError) (.type "BaseException") = some true)
    (tyx_SortError : PySem.W.typeIn K (.ref C_SortError) = some (.type "type"))
    (icx_SortError : PySem.W.isClsIn K C_SortError = true)
    (scx_SortError : PySem.W.subIn K (.ref C_SortError) (.ref C_SortError) = some true)
    (su_InvalidKeys_InvalidAnswers : PySem.W.subIn K (.ref C_InvalidKeys) (.ref C_InvalidAnswers) = some false)
    (su_InvalidKeys_SortError : PySem.W.subIn K (.ref C_InvalidKeys) (.ref C_SortError) = some true)
    (su_InvalidAnswers_InvalidKeys : PySem.W.subIn K (.ref C_InvalidAnswers) (.ref C_InvalidKeys) = some false)
    (su_InvalidAnswers_SortError : PySem.W.subIn K (.ref C_InvalidAnswers) (.ref C_SortError) = some true)
    (dcx_InvalidKeys : PySem.W.findIn K (.ref C_InvalidKeys) "__class__" = some (some (.builtin "object.__class__")))
    (dmx_InvalidKeys : PySem.W.mroIn K C_InvalidKeys (.type "object") = some true)
    (dcx_InvalidAnswers : PySem.W.findIn K (.ref C_InvalidAnswers) "__class__" = some (some (.builtin "object.__class__")))
    (dmx_InvalidAnswers : PySem.W.mroIn K C_InvalidAnswers (.type "object") = some true)
    (dnx : PySem.W.specialIn K (.builtin "object.__class__") "__get__" = some (some (.builtin "getset_descriptor.__get__"))) (dtx : PySem.W.takesIn K (.builtin "object.__class__") = some true)
    (le_right : cd39 = .ref lc_right) (lh_right : PySem.W.codeHdIn K lc_right lp_right = true) (ln_right : K.lookup lp_right = none)
    : LamX.LawAtS l w K CX0 16 63 "script" mg fa h := by
  have e : fa = f41 := by
    have e := hfa.symm.trans (PySem.W.mg_of X G a41)
    cases e
    rfl
  have F0 := fun_mk (st := s_ask_honestly) l0 c0 k0
  have B0 := F0.binds (ps := P_ask_honestly) fun _ _ _ _ _ _ us hl => match us, hl with | [_, _], _ => rfl
  have F1 := fun_mk (st := s_give_answers) l1 c1 k1
  have B1 := F1.binds (ps := P_give_answers) fun _ _ _ _ _ _ us hl => match us, hl with | [_, _], _ => rfl
  have F2 := fun_mk (st := s_InvalidKeys___init__) l2 c2 k2
  have B2 := F2.binds (ps := P_InvalidKeys___init__) fun _ _ _ _ _ _ us hl => match us, hl with | [_, _], _ => rfl
  have F3 := fun_mk (st := s_InvalidAnswers___init__) l3 c3 k3
  have B3 := F3.binds (ps := P_InvalidAnswers___init__) fun _ _ _ _ _ _ us hl => match us, hl with | [_, _], _ => rfl
  have F4 := fun_mk (st := s_is_integer) l4 c4 k4
  have B4 := F4.binds (ps := P_is_integer) fun _ _ _ _ _ _ us hl => match us, hl with | [_], _ => rfl
  have F5 := fun_mk (st := s_is_within) l5 c5 k5
  have B5 := F5.binds (ps := P_is_within) fun _ _ _ _ _ _ us hl => match us, hl with | [_, _, _], _ => rfl
  have F6 := funV_mk (st := s_check_keys) l6 c6
  have B6_0 := bindsV (st := s_check_keys) (dvs := [.int 0, .int 2000]) (its := [.int 0 uT6_0, .int 2000 uT6_1]) (ps := P_check_keys) l6 c6 k6 t6 (.cons ⟨_, rfl⟩ (.cons ⟨_, rfl⟩ .nil)) 3 2 (List.cons_ne_nil _ _) rfl fun _ _ _ _ _ _ _ us its h1 h2 => match us, its, h1, h2 with | [_, _, _], [_, _], _, _ => ⟨_, rfl, rfl⟩
  obtain ⟨ds6, rds6, bds6⟩ := B6_0
  have F7 := fun_mk (st := s_check_answers) l7 c7 k7
  have B7 := F7.binds (ps := P_check_answers) fun _ _ _ _ _ _ us hl => match us, hl with | [_], _ => rfl
  have F8 := funV_mk (st := s_check_number) l8 c8
  have B8_0 := bindsV (st := s_check_number) (dvs := [.non]) (its := [.none]) (ps := P_check_number) l8 c8 k8 t8 (.cons rfl .nil) 4 1 (List.cons_ne_nil _ _) rfl fun _ _ _ _ _ _ _ us its h1 h2 => match us, its, h1, h2 with | [_, _, _, _], [_], _, _ => ⟨_, rfl, rfl⟩
  obtain ⟨ds8, rds8, bds8⟩ := B8_0
  have F9 := fun_mk (st := s_HeapDeed___init__) l9 c9 k9
  have B9 := F9.binds (ps := P_HeapDeed___init__) fun _ _ _ _ _ _ us hl => match us, hl with | [_, _, _, _], _ => rfl
  have F10 := fun_mk (st := s_HeapDeed_take) l10 c10 k10
  have B10 := F10.binds (ps := P_HeapDeed_take) fun _ _ _ _ _ _ us hl => match us, hl with | [_, _], _ => rfl
  have F11 := fun_mk (st := s_HeapDeed__pop) l11 c11 k11
  have B11 := F11.binds (ps := P_HeapDeed__pop) fun _ _ _ _ _ _ us hl => match us, hl with | [_], _ => rfl
  have F12 := fun_mk (st := s_HeapDeed__replace_first) l12 c12 k12
  have B12 := F12.binds (ps := P_HeapDeed__replace_first) fun _ _ _ _ _ _ us hl => match us, hl with | [_, _], _ => rfl
  have F13 := fun_mk (st := s_HeapDeed__weigh) l13 c13 k13
  have B13 := F13.binds (ps := P_HeapDeed__weigh) fun _ _ _ _ _ _ us hl => match us, hl with | [_], _ => rfl
  have F14 := fun_mk (st := s_HeapDeed__take_weight) l14 c14 k14
  have B14 := F14.binds (ps := P_HeapDeed__take_weight) fun _ _ _ _ _ _ us hl => match us, hl with | [_, _], _ => rfl
  have F15 := fun_mk (st := s_HeapDeed__begin_next_sink) l15 c15 k15
  have B15 := F15.binds (ps := P_HeapDeed__begin_next_sink) fun _ _ _ _ _ _ us hl => match us, hl with | [_], _ => rfl
  have F16 := fun_mk (st := s_HeapDeed__sink) l16 c16 k16
  have B16 := F16.binds (ps := P_HeapDeed__sink) fun _ _ _ _ _ _ us hl => match us, hl with | [_], _ => rfl
  have F17 := fun_mk (st := s_HeapDeed__rise) l17 c17 k17
  have B17 := F17.binds (ps := P_HeapDeed__rise) fun _ _ _ _ _ _ us hl => match us, hl with | [_], _ => rfl
  have F18 := fun_mk (st := s_HeapDeed__parent) l18 c18 k18
  have B18 := F18.binds (ps := P_HeapDeed__parent) fun _ _ _ _ _ _ us hl => match us, hl with | [_], _ => rfl
  have F19 := fun_mk (st := s_HeapDeed__change_places) l19 c19 k19
  have B19 := F19.binds (ps := P_HeapDeed__change_places) fun _ _ _ _ _ _ us hl => match us, hl with | [_, _], _ => rfl
  have F20 := funV_mk (st := s_deed_done) l20 c20
  have B20_0 := bindsV (st := s_deed_done) (dvs := [.non]) (its := [.none]) (ps := P_deed_done) l20 c20 k20 t20 (.cons rfl .nil) 3 1 (List.cons_ne_nil _ _) rfl fun _ _ _ _ _ _ _ us its h1 h2 => match us, its, h1, h2 with | [_, _, _], [_], _, _ => ⟨_, rfl, rfl⟩
  obtain ⟨ds20, rds20, bds20⟩ := B20_0
  have F21 := fun_mk (st := s_deed_told) l21 c21 k21
  have B21 := F21.binds (ps := P_deed_told) fun _ _ _ _ _ _ us hl => match us, hl with | [_, _, _], _ => rfl
  have F22 := fun_mk (st := s_begun) l22 c22 k22
  have B22 := F22.binds (ps := P_begun) fun _ _ _ _ _ _ us hl => match us, hl with | [_, _], _ => rfl
  have F23 := fun_mk (st := s_has_new_item) l23 c23 k23
  have B23 := F23.binds (ps := P_has_new_item) fun _ _ _ _ _ _ us hl => match us, hl with | [_], _ => rfl
  have F24 := fun_mk (st := s_check_deed) l24 c24 k24
  have B24 := F24.binds (ps := P_check_deed) fun _ _ _ _ _ _ us hl => match us, hl with | [_], _ => rfl
  have F25 := fun_mk (st := s_check_not_empty) l25 c25 k25
  have B25 := F25.binds (ps := P_check_not_empty) fun _ _ _ _ _ _ us hl => match us, hl with | [_, _], _ => rfl
  have F26 := fun_mk (st := s_well) l26 c26 k26
  have B26 := F26.binds (ps := P_well) fun _ _ _ _ _ _ us hl => match us, hl with | [_], _ => rfl
  have F27 := fun_mk (st := s_draw) l27 c27 k27
  have B27 := F27.binds (ps := P_draw) fun _ _ _ _ _ _ us hl => match us, hl with | [_, _], _ => rfl
  have F28 := fun_mk (st := s_pick) l28 c28 k28
  have B28 := F28.binds (ps := P_pick) fun _ _ _ _ _ _ us hl => match us, hl with | [_, _], _ => rfl
  have F29 := fun_mk (st := s_ask) l29 c29 k29
  have B29 := F29.binds (ps := P_ask) fun _ _ _ _ _ _ us hl => match us, hl with | [_, _, _], _ => rfl
  have F30 := fun_mk (st := s_up) l30 c30 k30
  have B30 := F30.binds (ps := P_up) fun _ _ _ _ _ _ us hl => match us, hl with | [_, _, _, _], _ => rfl
  have F31 := fun_mk (st := s_down) l31 c31 k31
  have B31 := F31.binds (ps := P_down) fun _ _ _ _ _ _ us hl => match us, hl with | [_, _, _], _ => rfl
  have F32 := fun_mk (st := s_first) l32 c32 k32
  have B32 := F32.binds (ps := P_first) fun _ _ _ _ _ _ us hl => match us, hl with | [_, _, _], _ => rfl
  have F33 := fun_mk (st := s_go) l33 c33 k33
  have B33 := F33.binds (ps := P_go) fun _ _ _ _ _ _ us hl => match us, hl with | [_, _, _], _ => rfl
  have F34 := fun_mk (st := s_deed) l34 c34 k34
  have B34 := F34.binds (ps := P_deed) fun _ _ _ _ _ _ us hl => match us, hl with | [_, _, _], _ => rfl
  have F35 := fun_mk (st := s_honest) l35 c35 k35
  have B35 := F35.binds (ps := P_honest) fun _ _ _ _ _ _ us hl => match us, hl with | [_, _], _ => rfl
  have F36 := fun_mk (st := s_words) l36 c36 k36
  have B36 := F36.binds (ps := P_words) fun _ _ _ _ _ _ us hl => match us, hl with | [], _ => rfl
  have F37 := fun_mk (st := s_word) l37 c37 k37
  have B37 := F37.binds (ps := P_word) fun _ _ _ _ _ _ us hl => match us, hl with | [_], _ => rfl
  have F38 := fun_mk (st := s_items_right) l38 c38 k38
  have B38 := F38.binds (ps := P_items_right) fun _ _ _ _ _ _ us hl => match us, hl with | [_, _, _], _ => rfl
  have F39 := fun_mk (st := s_right) l39 c39 k39
  have B39 := F39.binds (ps := P_right) fun _ _ _ _ _ _ us hl => match us, hl with | [_, _, _], _ => rfl
  have F40 := fun_mk (st := s_honest_right) l40 c40 k40
  have B40 := F40.binds (ps := P_honest_right) fun _ _ _ _ _ _ us hl => match us, hl with | [_, _, _], _ => rfl
  have F41 := fun_mk (st := s_law) l41 c41 k41
  have B41 := F41.binds (ps := P_law) fun _ _ _ _ _ _ us hl => match us, hl with | [_], _ => rfl
  have T : Txt K mg ⟨lc_right, lp_right, f0, f1, f2, f3, f4, f5, f6, f7, f8, f9, f10, f11, f12, f13, f14, f15, f16, f17, f18, f19, f20, f21, f22, f23, f24, f25, f26, f27, f28, f29, f30, f31, f32, f33, f34, f35, f36, f37, f38, f39, f40, f41, t_MOST_KEYS_heaps, t_RISING, t_SINKING, t_WEIGHING, u_DEEDS, C_HeapDeed, C_InvalidKeys, C_InvalidAnswers, C_SortError⟩ ⟨_, _, _, _, _, _, _, _, _, _, _, _, _, _, _, _, _, _, _, _, _, _, _, _, _, _, _, _, _, _, _, _, _, _, _, _, _, _, _, _, _, _⟩ := ⟨PySem.W.mg_of X G a0, k0, F0, B0, PySem.W.mg_of X G a1, k1, F1, B1, F2, B2, F3, B3, PySem.W.mg_of X G a4, k4, F4, B4, PySem.W.mg_of X G a5, k5, F5, B5, PySem.W.mg_of X G a6, k6, F6, Binds.none rds6 bds6, PySem.W.mg_of X G a7, k7, F7, B7, PySem.W.mg_of X G a8, k8, F8, Binds.none rds8 bds8, ⟨a9, i9, k9⟩, F9, B9, ⟨a10, i10, k10⟩, F10, B10, ⟨a11, i11, k11⟩, F11, B11, ⟨a12, i12, k12⟩, F12, B12, ⟨a13, i13, k13⟩, F13, B13, ⟨a14, i14, k14⟩, F14, B14, ⟨a15, i15, k15⟩, F15, B15, ⟨a16, i16, k16⟩, F16, B16, ⟨a17, i17, k17⟩, F17, B17, ⟨a18, i18, k18⟩, F18, B18, ⟨a19, i19, k19⟩, F19, B19, PySem.W.mg_of X G a20, k20, F20, Binds.none rds20 bds20, PySem.W.mg_of X G a21, k21, F21, B21, PySem.W.mg_of X G a22, k22, F22, B22, PySem.W.mg_of X G a23, k23, F23, B23, PySem.W.mg_of X G a24, k24, F24, B24, PySem.W.mg_of X G a25, k25, F25, B25, PySem.W.mg_of X G a26, k26, F26, B26, PySem.W.mg_of X G a27, k27, F27, B27, PySem.W.mg_of X G a28, k28, F28, B28, PySem.W.mg_of X G a29, k29, F29, B29, PySem.W.mg_of X G a30, k30, F30, B30, PySem.W.mg_of X G a31, k31, F31, B31, PySem.W.mg_of X G a32, k32, F32, B32, PySem.W.mg_of X G a33, k33, F33, B33, PySem.W.mg_of X G a34, k34, F34, B34, PySem.W.mg_of X G a35, k35, F35, B35, PySem.W.mg_of X G a36, k36, F36, B36, PySem.W.mg_of X G a37, k37, F37, B37, PySem.W.mg_of X G a38, k38, F38, B38, PySem.W.mg_of X G a39, k39, F39, B39, PySem.W.mg_of X G a40, k40, F40, B40, PySem.W.mg_of X G a41, k41, F41, B41, le_right, PySem.W.mg_of X G v_MOST_KEYS_heaps, PySem.W.mg_of X G v_RISING, PySem.W.mg_of X G v_SINKING, PySem.W.mg_of X G v_WEIGHING, PySem.W.mg_of X G gt_DEEDS, fun H => .inr ⟨_, _, _, gl_DEEDS, rfl, rfl, (by show 5 ≤ sizeLine; decide), .cons ⟨_, rfl⟩ (.cons ⟨_, rfl⟩ (.cons ⟨_, rfl⟩ (.cons ⟨_, rfl⟩ (.cons ⟨_, rfl⟩ .nil))))⟩, PySem.W.mg_none_of X G z_abs, PySem.W.mg_none_of X G z_bool, PySem.W.mg_none_of X G z_enumerate, PySem.W.mg_none_of X G z_int, PySem.W.mg_none_of X G z_isinstance, PySem.W.mg_none_of X G z_len, PySem.W.mg_none_of X G z_list, PySem.W.mg_none_of X G z_max, PySem.W.mg_none_of X G z_range, PySem.W.mg_none_of X G z_sorted, PySem.W.mg_none_of X G z_str, PySem.W.mg_none_of X G z_tuple, exC_mk X G aX_InvalidKeys xL_InvalidKeys sx_InvalidKeys gx_InvalidKeys ggx_InvalidKeys nx_InvalidKeys ii_InvalidKeys tx_InvalidKeys kx_InvalidKeys ex_InvalidKeys tyx_InvalidKeys hx_InvalidKeys icx_InvalidKeys scx_InvalidKeys, exC_mk X G aX_InvalidAnswers xL_InvalidAnswers sx_InvalidAnswers gx_InvalidAnswers ggx_InvalidAnswers nx_InvalidAnswers ii_InvalidAnswers tx_InvalidAnswers kx_InvalidAnswers ex_InvalidAnswers tyx_InvalidAnswers hx_InvalidAnswers icx_InvalidAnswers scx_InvalidAnswers, ⟨PySem.W.mg_of X G aX_SortError, r1x_SortError, r2x_SortError, vix_SortError⟩, exS_mk ex_InvalidKeys tyx_InvalidKeys icx_InvalidKeys scx_InvalidKeys scx_InvalidKeys, exS_mk ex_InvalidAnswers tyx_InvalidAnswers icx_InvalidAnswers scx_InvalidAnswers su_InvalidKeys_InvalidAnswers, exS_mk ex_SortError tyx_SortError icx_SortError scx_SortError su_InvalidKeys_SortError, exS_mk ex_InvalidKeys tyx_InvalidKeys icx_InvalidKeys scx_InvalidKeys su_InvalidAnswers_InvalidKeys, exS_mk ex_InvalidAnswers tyx_InvalidAnswers icx_InvalidAnswers scx_InvalidAnswers scx_InvalidAnswers, exS_mk ex_SortError tyx_SortError icx_SortError scx_SortError su_InvalidAnswers_SortError, ⟨gx_InvalidKeys, ggx_InvalidKeys, ex_InvalidKeys, hx_InvalidKeys, dcx_InvalidKeys, dnx, dtx, dmx_InvalidKeys⟩, ⟨gx_InvalidAnswers, ggx_InvalidAnswers, ex_InvalidAnswers, hx_InvalidAnswers, dcx_InvalidAnswers, dnx, dtx, dmx_InvalidAnswers⟩, ⟨pg_HeapDeed, hd_HeapDeed, po_HeapDeed, sa_HeapDeed⟩, PySem.W.mg_of X G aC_HeapDeed, ⟨mk_HeapDeed, a9, i9, kc_HeapDeed⟩, n_row, n_new, n_given, n_waiting, n_tops, n_top, n_place, n_phase⟩
  exact ⟨_, [(lc_right, lp_right)], spLaw K [(lp_right, lq_right)], (fac tb_right fan), (fac ln_right fan), (fac (PySem.W.codeHd_of_K X lh_right) fan), fun s v => .of_eq rfl, fun H a ns hl _ ht hS => ⟨a, ns, rfl, hS, hl, (fac (LamX.TabS.nil (ht _ (List.Mem.head _))) fan), fun _ => rfl⟩, fun base _ _ TB => by rw [e]; exact ok_law T (TB _ (List.Mem.head _))⟩
end K88
open PySem PySem.W PyProof.Rows
set_option maxHeartbeats 0 in
theorem PySem.Challenge.cw_askedorder_k88_heaps_by_any_answers_holds : PySem.Challenge.rw_askedorder_k88_heaps_by_any_answers.Holds := by
  w_on; o_law; k_head; (case hw => w_witness2)
  k_fill
  refine LamX.walk_ofTs (l := PySem.Challenge.rw_askedorder_k88_heaps_by_any_answers) (n := 63) (k := 16) (x := "script") (CX := fun _ => L2.CX0) rfl (by decide) rfl ⟨rfl, by decide, by decide⟩ (fun w h Y => PySem.W.km_in_of Y) ?F (fun _ _ _ _ _ h => h)
  case F =>
    intro w mg fa h Y KX G hmg
    have hP := PySem.W.km_tabs_of Y
    refine' K88.all_mk KX G hmg (hP _ (List.Mem.head _)) ?a0 ?l0 ?c0 ?k0 ?a1 ?l1 ?c1 ?k1 ?l2 ?c2 ?k2 ?l3 ?c3 ?k3 ?a4 ?l4 ?c4 ?k4 ?a5 ?l5 ?c5 ?k5 ?a6 ?l6 ?c6 ?k6 ?t6 ?a7 ?l7 ?c7 ?k7 ?a8 ?l8 ?c8 ?k8 ?t8 ?a9 ?i9 ?l9 ?c9 ?k9 ?a10 ?i10 ?l10 ?c10 ?k10 ?a11 ?i11 ?l11 ?c11 ?k11 ?a12 ?i12 ?l12 ?c12 ?k12 ?a13 ?i13 ?l13 ?c13 ?k13 ?a14 ?i14 ?l14 ?c14 ?k14 ?a15 ?i15 ?l15 ?c15 ?k15 ?a16 ?i16 ?l16 ?c16 ?k16 ?a17 ?i17 ?l17 ?c17 ?k17 ?a18 ?i18 ?l18 ?c18 ?k18 ?a19 ?i19 ?l19 ?c19 ?k19 ?a20 ?l20 ?c20 ?k20 ?t20 ?a21 ?l21 ?c21 ?k21 ?a22 ?l22 ?c22 ?k22 ?a23 ?l23 ?c23 ?k23 ?a24 ?l24 ?c24 ?k24 ?a25 ?l25 ?c25 ?k25 ?a26 ?l26 ?c26 ?k26 ?a27 ?l27 ?c27 ?k27 ?a28 ?l28 ?c28 ?k28 ?a29 ?l29 ?c29 ?k29 ?a30 ?l30 ?c30 ?k30 ?a31 ?l31 ?c31 ?k31 ?a32 ?l32 ?c32 ?k32 ?a33 ?l33 ?c33 ?k33 ?a34 ?l34 ?c34 ?k34 ?a35 ?l35 ?c35 ?k35 ?a36 ?l36 ?c36 ?k36 ?a37 ?l37 ?c37 ?k37 ?a38 ?l38 ?c38 ?k38 ?a39 ?l39 ?c39 ?k39 ?a40 ?l40 ?c40 ?k40 ?a41 ?l41 ?c41 ?k41 ?v_MOST_KEYS_heaps ?v_RISING ?v_SINKING ?v_WEIGHING ?gt_DEEDS ?gl_DEEDS ?z_abs ?z_bool ?z_enumerate ?z_int ?z_isinstance ?z_len ?z_list ?z_max ?z_range ?z_sorted ?z_str ?z_tuple ?aC_HeapDeed ?pg_HeapDeed ?hd_HeapDeed ?po_HeapDeed ?sa_HeapDeed ?mk_HeapDeed ?kc_HeapDeed ?n_row ?n_new ?n_given ?n_waiting ?n_tops ?n_top ?n_place ?n_phase ?aX_InvalidKeys ?ii_InvalidKeys ?xL_InvalidKeys ?sx_InvalidKeys ?gx_InvalidKeys ?ggx_InvalidKeys ?nx_InvalidKeys ?tx_InvalidKeys ?kx_InvalidKeys ?ex_InvalidKeys ?tyx_InvalidKeys ?hx_InvalidKeys ?icx_InvalidKeys ?scx_InvalidKeys ?aX_InvalidAnswers ?ii_InvalidAnswers ?xL_InvalidAnswers ?sx_InvalidAnswers ?gx_InvalidAnswers ?ggx_InvalidAnswers ?nx_InvalidAnswers ?tx_InvalidAnswers ?kx_InvalidAnswers ?ex_InvalidAnswers ?tyx_InvalidAnswers ?hx_InvalidAnswers ?icx_InvalidAnswers ?scx_InvalidAnswers ?aX_SortError ?r1x_SortError ?r2x_SortError ?vix_SortError ?ex_SortError ?tyx_SortError ?icx_SortError ?scx_SortError ?su_InvalidKeys_InvalidAnswers ?su_InvalidKeys_SortError ?su_InvalidAnswers_InvalidKeys ?su_InvalidAnswers_SortError ?dcx_InvalidKeys ?dmx_InvalidKeys ?dcx_InvalidAnswers ?dmx_InvalidAnswers ?dnx ?dtx ?le_right ?lh_right ?ln_right
    (case aC_HeapDeed => k_is); (case aX_InvalidKeys => k_is); (case aX_InvalidAnswers => k_is); (case aX_SortError => k_is); (case ii_InvalidKeys => k_is); (case ii_InvalidAnswers => k_is)
    (case a0 => k_is); (case l0 => k_is); (case c0 => k_is); (case k0 => k_is); (case a1 => k_is); (case l1 => k_is)
    (case c1 => k_is); (case k1 => k_is); (case l2 => k_is); (case c2 => k_is); (case k2 => k_is); (case l3 => k_is)
    (case c3 => k_is); (case k3 => k_is); (case a4 => k_is); (case l4 => k_is); (case c4 => k_is); (case k4 => k_is)
    (case a5 => k_is); (case l5 => k_is); (case c5 => k_is); (case k5 => k_is); (case a6 => k_is); (case l6 => k_is)
    (case c6 => k_is); (case k6 => k_is); (case t6 => k_is); (case a7 => k_is); (case l7 => k_is); (case c7 => k_is)
    (case k7 => k_is); (case a8 => k_is); (case l8 => k_is); (case c8 => k_is); (case k8 => k_is); (case t8 => k_is)
    (case a9 => k_is); (case i9 => k_is); (case l9 => k_is); (case c9 => k_is); (case k9 => k_is); (case a10 => k_is)
    (case i10 => k_is); (case l10 => k_is); (case c10 => k_is); (case k10 => k_is); (case a11 => k_is); (case i11 => k_is)
    (case l11 => k_is); (case c11 => k_is); (case k11 => k_is); (case a12 => k_is); (case i12 => k_is); (case l12 => k_is)
    (case c12 => k_is); (case k12 => k_is); (case a13 => k_is); (case i13 => k_is); (case l13 => k_is); (case c13 => k_is)
    (case k13 => k_is); (case a14 => k_is); (case i14 => k_is); (case l14 => k_is); (case c14 => k_is); (case k14 => k_is)
    (case a15 => k_is); (case i15 => k_is); (case l15 => k_is); (case c15 => k_is); (case k15 => k_is); (case a16 => k_is)
    (case i16 => k_is); (case l16 => k_is); (case c16 => k_is); (case k16 => k_is); (case a17 => k_is); (case i17 => k_is)
    (case l17 => k_is); (case c17 => k_is); (case k17 => k_is); (case a18 => k_is); (case i18 => k_is); (case l18 => k_is)
    (case c18 => k_is); (case k18 => k_is); (case a19 => k_is); (case i19 => k_is); (case l19 => k_is); (case c19 => k_is)
    (case k19 => k_is); (case a20 => k_is); (case l20 => k_is); (case c20 => k_is); (case k20 => k_is); (case t20 => k_is)
    (case a21 => k_is); (case l21 => k_is); (case c21 => k_is); (case k21 => k_is); (case a22 => k_is); (case l22 => k_is)
    (case c22 => k_is); (case k22 => k_is); (case a23 => k_is); (case l23 => k_is); (case c23 => k_is); (case k23 => k_is)
    (case a24 => k_is); (case l24 => k_is); (case c24 => k_is); (case k24 => k_is); (case a25 => k_is); (case l25 => k_is)
    (case c25 => k_is); (case k25 => k_is); (case a26 => k_is); (case l26 => k_is); (case c26 => k_is); (case k26 => k_is)
    (case a27 => k_is); (case l27 => k_is); (case c27 => k_is); (case k27 => k_is); (case a28 => k_is); (case l28 => k_is)
    (case c28 => k_is); (case k28 => k_is); (case a29 => k_is); (case l29 => k_is); (case c29 => k_is); (case k29 => k_is)
    (case a30 => k_is); (case l30 => k_is); (case c30 => k_is); (case k30 => k_is); (case a31 => k_is); (case l31 => k_is)
    (case c31 => k_is); (case k31 => k_is); (case a32 => k_is); (case l32 => k_is); (case c32 => k_is); (case k32 => k_is)
    (case a33 => k_is); (case l33 => k_is); (case c33 => k_is); (case k33 => k_is); (case a34 => k_is); (case l34 => k_is)
    (case c34 => k_is); (case k34 => k_is); (case a35 => k_is); (case l35 => k_is); (case c35 => k_is); (case k35 => k_is)
    (case a36 => k_is); (case l36 => k_is); (case c36 => k_is); (case k36 => k_is); (case a37 => k_is); (case l37 => k_is)
    (case c37 => k_is); (case k37 => k_is); (case a38 => k_is); (case l38 => k_is); (case c38 => k_is); (case k38 => k_is)
    (case a39 => k_is); (case l39 => k_is); (case c39 => k_is); (case k39 => k_is); (case a40 => k_is); (case l40 => k_is)
    (case c40 => k_is); (case k40 => k_is); (case a41 => k_is); (case l41 => k_is); (case c41 => k_is); (case k41 => k_is)
    (case v_MOST_KEYS_heaps => k_is); (case v_RISING => k_is); (case v_SINKING => k_is); (case v_WEIGHING => k_is); (case gt_DEEDS => k_is); (case gl_DEEDS => k_is)
    (case z_abs => k_is); (case z_bool => k_is); (case z_enumerate => k_is); (case z_int => k_is); (case z_isinstance => k_is); (case z_len => k_is)
    (case z_list => k_is); (case z_max => k_is); (case z_range => k_is); (case z_sorted => k_is); (case z_str => k_is); (case z_tuple => k_is)
    (case pg_HeapDeed => k_is); (case hd_HeapDeed => k_is); (case po_HeapDeed => k_is); (case sa_HeapDeed => k_is); (case mk_HeapDeed => k_is); (case kc_HeapDeed => k_is)
    (case n_row => k_is); (case n_new => k_is); (case n_given => k_is); (case n_waiting => k_is); (case n_tops => k_is); (case n_top => k_is)
    (case n_place => k_is); (case n_phase => k_is); (case xL_InvalidKeys => k_is); (case sx_InvalidKeys => k_is); (case gx_InvalidKeys => k_is); (case ggx_InvalidKeys => k_is)
    (case nx_InvalidKeys => k_is); (case tx_InvalidKeys => k_is); (case kx_InvalidKeys => k_is); (case ex_InvalidKeys => k_is); (case tyx_InvalidKeys => k_is); (case hx_InvalidKeys => k_is)
    (case icx_InvalidKeys => k_is); (case scx_InvalidKeys => k_is); (case xL_InvalidAnswers => k_is); (case sx_InvalidAnswers => k_is); (case gx_InvalidAnswers => k_is); (case ggx_InvalidAnswers => k_is)
    (case nx_InvalidAnswers => k_is); (case tx_InvalidAnswers => k_is); (case kx_InvalidAnswers => k_is); (case ex_InvalidAnswers => k_is); (case tyx_InvalidAnswers => k_is); (case hx_InvalidAnswers => k_is)
    (case icx_InvalidAnswers => k_is); (case scx_InvalidAnswers => k_is); (case r1x_SortError => k_is); (case r2x_SortError => k_is); (case vix_SortError => k_is); (case ex_SortError => k_is)
    (case tyx_SortError => k_is); (case icx_SortError => k_is); (case scx_SortError => k_is); (case su_InvalidKeys_InvalidAnswers => k_is); (case su_InvalidKeys_SortError => k_is); (case su_InvalidAnswers_InvalidKeys => k_is)
    (case su_InvalidAnswers_SortError => k_is); (case dcx_InvalidKeys => k_is); (case dmx_InvalidKeys => k_is); (case dcx_InvalidAnswers => k_is); (case dmx_InvalidAnswers => k_is); (case dnx => k_is)
    (case dtx => k_is); (case le_right => exact rfl); (case lh_right => kernel_rfl); (case ln_right => kernel_rfl)


