import PyProof.Rows.All
import Wide.All
import OpenK.AllK
import Wide.FinOn
import HandS.ForMost
import HandS.ForExc
import HandS.Wide
import HandS.IsInst
import HandS.Style
import HandS.Evl
import KE.GoesEnum
import HandS.SortRule
import HandS.SortInts
import HandS.Defaults
import HandS.WordsDict
import HandS.Conv
import HandS.More
import HandS.ExcInit
import HandS.WordsExc
import HandS.ExcField
import HandS.ExcOwn
import HandS.TupAny
import HandS.WideBits
import HandS.SetFor
import HandS.Iter
import KE.SortKeyHeap
import KE.KSortKey
import HandS.Lambda
import HandS.Nested
import HandS.SortKw
import HandS.CallLocal
import HandS.TryMany
import KE.KDflt
import KE.KExcIs
import HandS.ExcIs
import HandS.WideMore
import PyProof.ReprRoads
import PyProof.FitsInt
import PyProof.Rows.RegStrFacts
import PyProof.ReprLen
import HandS.EndTab
import PyProof.ReprBulk
import KE.KDictZip
import PyProof.ListNew
import HandS.ExcValue
import HandS.Exc
import HandS.Words
import HandS.Dict
import HandS.Small
import HandS.Star
import HandS.TupMul
import HandS.Text
import HandS.Codes
import HandS.Zip
import KE.KNestM
import PySem.Challenge.RW_askedorder_k38_ways_judged
set_option Elab.async false
set_option linter.all false
set_option maxRecDepth 100000
set_option maxHeartbeats 8000000
namespace L2
open PySem PySem.Spec PyProof.Rows
/-! ### own rules: list + list of lists that are only read, powers, repr of a bool, calls by keywords alone -/
def rCatS (K : PySem.W.Frag) : R2 := fun x y H Q => ∃ l b xs zs, x = .ref l ∧ y = .ref b ∧ SqL K H l xs ∧ SqL K H b zs ∧ xs.length + zs.length ≤ sizeLine ∧ ∀ p, H p = none → Q (.ref p) (upd H p (.lst (xs ++ zs)))
theorem op_catS {X : Cx} : OpR X (binaryOp .Add) (rCatS X.K) := by
  intro pins s σ H x y v u Q I rx ry h
  obtain ⟨l, b, xs, zs, rfl, rfl, hH, hB, hz, q⟩ := h
  cases rx
  cases ry
  obtain ⟨its, r, pl, hl⟩ := I.list hH
  obtain ⟨its2, r2, pl2, hl2⟩ := I.list hB
  have e1 := r.length
  have e2 := r2.length
  obtain ⟨⟨cls, dd, data, sl⟩, n, ho, hc, hdd, hd⟩ := pl
  obtain ⟨⟨cls2, dd2, data2, sl2⟩, n2, ho2, hc2, hdd2, hd2⟩ := pl2
  simp only at hc hd hc2 hd2
  subst hc hd hc2 hd2
  have e : its.toArray ++ its2.toArray = (its ++ its2).toArray := by simp
  refine concat_meets ⟨_, ho, rfl⟩ ⟨_, ho2, rfl⟩ noFill_list_add seq_list_add PySem.F.slot_list_add PySem.F.entry_list_add (PySem.F.args_list_add_2 _ _) (list_addW l b its.toArray its2.toArray n n2 dd dd2 sl sl2 (by simp only [List.size_toArray]; omega)) ⟨ho, ho2, ?_⟩
  rw [e]
  exact ⟨.ref _, _, I.lnew (t' := s.toks) (r.append r2) (by rw [List.length_append]; omega), rfl, q _ I.fresh⟩
def CPowW (i j : Int) : Prop := 0 ≤ j ∧ (Builtin.Int.intBits i : Int) * j ≤ 2 ^ 27
theorem op_powW {X : Cx} : OpR X (binaryOp .Pow) (rI CPowW fun i j => .int (i ^ j.toNat)) := opI fun _ _ _ _ _ _ _ hc q => pow_int hc.1 hc.2 q
theorem call_repr_bool {X : Cx} : CallR X (.builtin "repr") (fun xs H Q => ∃ b, xs = [.bl b] ∧ Q (.str (if b then "True" else "False")) H) := by
  intro pins s σ H xs us Q I r h
  obtain ⟨b, rfl, q⟩ := h
  obtain ⟨u, rfl, r1⟩ := vals1 r
  cases r1
  exact PySem.P.repr_of_bool ⟨.str _, H, I.tok _, ⟨_, rfl⟩, q⟩
/-- f(k = v, ..), keywords alone -/
def tCallK0 (sp : Sp) (gV : List V → List V → List V) (E : XK) (tk : TA) : TE := fun σ H Q => tk σ H fun zs H2 => sp (gV [] zs) H2 Q E
theorem pe_callK0 {X : Cx} {CX : CXT} {k : Nat} {f : Addr} {fd : FuncData} {ps ks : List Str} {sp : Sp} {E : XK} {x : Str} {p pos : Pos} {kws : List Keyword} {tk : TA} {g : List Value → List Value → List Value} {gV : List V → List V → List V}
    (F : FnOk X.prog X.w X.K X.mg X.base CX k f fd ps sp) (hr : Room k X.A) (hg : Gl X x) (hm : X.mg x = some (.ref f)) (hk : PySem.W.keepIn X.K (.ref f) = true) (hb : KBinds X.K fd ps ks g gV) (hx : Passes CX X E)
    (hkw : PK X kws tk) (hall : (backToKw pos (keywordEach kws X.env)).all (·.1.isSome) = true := by rfl) (hks : (backToKw pos (keywordEach kws X.env)).filterMap (·.1) = ks := by rfl)
    (hdb : (x == ("__debug__" : Str)) = false := by decide)
    (hpl : ((backTo pos (starEach [] X.env)).any (·.1) || (backToKw pos (keywordEach kws X.env)).any (·.1.isNone)) = false := by rfl) :
    PE X (.Call (.Name x p) [] kws pos) (tCallK0 sp gV E tk) := by
  refine ⟨fun pins s σ H Q I h => ?_⟩
  refine wpAny_Call_Name_kw (ld_glob I hg hm ?_ hdb)
  refine PySem.W.callWith_KW0 (h₀ := X.base) I.ok.mod.kin hk hall ?_ hpl
  refine thn (hkw.run pos pins s σ H _ I h) fun ws s2 ⟨zs, H2, I2, rz, q2⟩ => ⟨I2.kIn, ?_⟩
  rw [hks]
  exact run_fnk F hr hb hx I2 .nil rz q2
/-! ### heaps: all but one address -/
/-- all that was tracked, but at p, is as it was -/
def SB (p : Addr) (H H' : Hp) : Prop := ∀ b o, b ≠ p → H b = some o → H' b = some o
theorem SB.refl (p : Addr) (H : Hp) : SB p H H := fun _ _ _ h => h
theorem SB.trans {p : Addr} {H H1 H2 : Hp} (a : SB p H H1) (b : SB p H1 H2) : SB p H H2 := fun c o n h => b c o n (a c o n h)
theorem SB.new {p q : Addr} {H : Hp} {o : HO} (h : H q = none) : SB p H (upd H q o) := fun b u n e => by
  rw [upd_ne (ne_of_none e h)]
  exact e
theorem SB.put {p : Addr} {H : Hp} {o : HO} : SB p H (upd H p o) := fun b u n e => by
  rw [upd_ne n]
  exact e
theorem SB.of {p : Addr} {H H' : Hp} (a : Same H H') : SB p H H' := fun c o _ h => a c o h
theorem SB.seq {p : Addr} {K : PySem.W.Frag} {H H' : Hp} {a : Addr} {xs : List V} (e : SB p H H') (n : a ≠ p) (h : SqL K H a xs) : SqL K H' a xs := by
  rcases h with (h | ⟨o, h⟩) | h
  · exact .inl (.inl (e _ _ n h))
  · exact .inl (.inr ⟨o, e _ _ n h⟩)
  · exact .inr h
theorem SB.tup {p : Addr} {K : PySem.W.Frag} {H H' : Hp} {a : Addr} {xs : List V} (e : SB p H H') (n : a ≠ p) (h : SqT K H a xs) : SqT K H' a xs := by
  rcases h with (h | ⟨o, h⟩) | h
  · exact .inl (.inl (e _ _ n h))
  · exact .inl (.inr ⟨o, e _ _ n h⟩)
  · exact .inr h
/-- what is free behind was free before, but at p -/
theorem SB.free {p : Addr} {H H' : Hp} (e : SB p H H') {l : Addr} (n : l ≠ p) (h : H' l = Option.none) : H l = Option.none := by
  cases q : H l with
  | none => rfl
  | some o =>
    rw [e l o n q] at h
    cases h
theorem same_upd {H : Hp} {p : Addr} {o : HO} (h : H p = none) : Same H (upd H p o) := fun b x e => by
  rw [upd_ne (ne_of_none e h)]
  exact e
theorem Same.tupS {K : PySem.W.Frag} {H H' : Hp} {a : Addr} {xs : List V} (e : Same H H') (h : SqT K H a xs) : SqT K H' a xs := by
  rcases h with (h | ⟨o, h⟩) | h
  · exact .inl (.inl (e _ _ h))
  · exact .inl (.inr ⟨o, e _ _ h⟩)
  · exact .inr h
theorem sq_of {K : PySem.W.Frag} {H : Hp} {a : Addr} {xs : List V} (h : H a = some (.lst xs)) : SqL K H a xs := .inl (.inl h)
theorem st_of {K : PySem.W.Frag} {H : Hp} {a : Addr} {xs : List V} (h : H a = some (.tup xs)) : SqT K H a xs := .inl (.inl h)
end L2
namespace L2
open PySem PySem.Spec PyProof.Rows
theorem for_iteL {K : PySem.W.Frag} {a : Addr} {xs : List V} {g : TG} {tb : TS} {D : Ends} {σ : St} {H : Hp} (Pv : Nat → St → Hp → Prop) (h0 : Pv 0 σ H) (hl : ∀ i σ H, i ≤ xs.length → Pv i σ H → SqL K H a xs)
    (hs : ∀ i x σ H T, xs[i]? = some x → Pv i σ H → H T = none → g (.ref T) σ (upd H T (.tup [.int (i : Nat), x])) fun σ2 H2 => tb { D with nx := Pv (i + 1), ct := Pv (i + 1), bk := D.nx } σ2 H2) (hd : ∀ σ H, Pv xs.length σ H → D.nx σ H) :
    ∃ W : Nat → Nat → St → Hp → Prop, (∃ m, W 0 m σ H) ∧ ∀ i m σ H, W i m σ H →
      ((Ite K a).stop i H ∧ D.nx σ H) ∨ ((Ite K a).go i H ∧ ∃ N : St → Hp → Prop, (∀ σ' H', N σ' H' → ∃ m', m' < m ∧ W (i + 1) m' σ' H') ∧ ∀ x H', (Ite K a).yld i H x H' → g x σ H' fun σ2 H2 => tb { D with nx := N, ct := N, bk := D.nx } σ2 H2) := by
  refine ⟨fun i m σ H => m = xs.length - i ∧ i ≤ xs.length ∧ Pv i σ H, ⟨xs.length, by simp, Nat.zero_le _, h0⟩, ?_⟩
  rintro i m σ H ⟨rfl, hi, p⟩
  have q := hl i σ H hi p
  by_cases hlt : i < xs.length
  · refine .inr ⟨⟨xs, xs[i], q, by simp [hlt]⟩, Pv (i + 1), fun σ' H' p' => ⟨xs.length - (i + 1), by omega, rfl, hlt, p'⟩, fun x H' y => ?_⟩
    obtain ⟨T, z, e, nT, eH, f⟩ := y
    subst e eH
    exact hs i z σ _ T (f xs q) p nT
  · have e : i = xs.length := by omega
    subst e
    exact .inl ⟨⟨xs, q, Nat.le_refl _⟩, hd σ H p⟩
end L2

namespace PySem
open Sem (wp)
theorem meets_enumerate_new0 {v : Value} {o : Obj} {H : Heap → Prop} (B : Begins v o H) :
    Meets (Builtin.«enumerate.__new__» ⟨[.type "enumerate", v], []⟩) (fun _ R s => H s.heap ∧
      R (.ok (.ret (.ref (s.heap.push o).objs.size))) { s with heap := (s.heap.push o).push { cls := .type "enumerate", data := .fields #[.none, .bool false, .ref s.heap.objs.size, rawInt 0, .none, .none] } }) :=
  .of_wp fun prog w A R s h => by
    obtain ⟨hp, g, d, tk, os⟩ := s; obtain ⟨h1, h⟩ := h
    have hsub := sub_enumerate
    have q1 : ∀ {A' : Around} {E : Value → Shared → Prop} {Q : Value → Shared → Prop}, Q (.ref hp.objs.size) ⟨hp.push o, g, d, tk, os⟩ → wpAny (model prog w) A' (pyIter v) Q E ⟨hp, g, d, tk, os⟩ :=
      fun q => B.iter prog w _ _ ⟨hp, g, d, tk, os⟩ _ h1 q
    wp_walk using q1
    refine wpAny_stack_any fun st => wpAny_pure ?_
    split
    · rename_i c _ _ _ _ _
      cases (c == Value.type "enumerate")
      · wp_walk using q1
        exact ⟨_, rfl, h⟩
      · wp_walk using q1
        exact ⟨_, rfl, h⟩
    · wp_walk using q1
      exact ⟨_, rfl, h⟩
theorem enum_begins0 {prog : Program} {w : World} {A : Around} {E : Value → Shared → Prop} {s : Shared} {v : Value} {o : Obj} {H : Heap → Prop} {Q : Value → Shared → Prop} (B : Begins v o H) (h1 : H s.heap)
    (h : ∀ h', IsEnum h' (s.heap.objs.size + 1) s.heap.objs.size 0 .none → h'.get? s.heap.objs.size = some o → h'.objs.size = s.heap.objs.size + 2 →
      (∀ b o, s.heap.get? b = some o → h'.get? b = some o) → Q (.ref (s.heap.objs.size + 1)) { s with heap := h' }) :
    wpAny (model prog w) A (call (.type "enumerate") [v]) Q E s := by
  refine callType_new F.called_enumerate (by decide) (F.typeCall_enumerate_1 _) (F.newCall_enumerate_1 _) (fun obj => F.args_object_init_2 obj _) F.entry_enumerate_new
    (meets_enumerate_new0 B) ⟨h1, ?_⟩
  have hz : (s.heap.push o).objs.size = s.heap.objs.size + 1 := Heap.size_push ..
  show _ ∧ _
  rw [hz]
  have he : IsEnum ((s.heap.push o).push { cls := .type "enumerate", data := .fields #[.none, .bool false, .ref s.heap.objs.size, rawInt 0, .none, .none] }) (s.heap.objs.size + 1) s.heap.objs.size 0 .none := by
    have := Heap.get?_push_size (s.heap.push o) (o := { cls := .type "enumerate", data := .fields #[.none, .bool false, .ref s.heap.objs.size, rawInt 0, .none, .none] }) rfl
    rw [hz] at this; exact this
  refine ⟨⟨_, he, rfl⟩, h _ he (Heap.get?_push_of_some _ (Heap.get?_push_size _ B.free)) (by rw [Heap.size_push, hz]) fun b o x => Heap.get?_push_of_some _ (Heap.get?_push_of_some _ x)⟩
end PySem
namespace L2
open PySem PySem.Spec PyProof.Rows
/-- the tuple at a, each item in a new pair -/
def IteT (K : PySem.W.Frag) (a : Addr) : It :=
  ⟨fun i H => ∃ (xs : List V) (x : V), SqT K H a xs ∧ xs[i]? = some x, fun i H v H' => ∃ T x, v = .ref T ∧ H T = none ∧ H' = upd H T (.tup [.int (i : Nat), x]) ∧ ∀ xs, SqT K H a xs → xs[i]? = some x, fun i H => ∃ xs : List V, SqT K H a xs ∧ xs.length ≤ i⟩
theorem turn_enumT {P : Program} {w : World} {K : PySem.W.Frag} {elts : List Expr} {kk : Nat} {tpos : Pos} (a e it : Addr) (hae : e ≠ a) (hai : a ≠ it) :
    Turn P w K (.Tuple elts kk tpos) (IteT K a) [e, it] e (fun i h => (∃ old, IsEnum h e it ((i : Nat) : Int) old) ∧ h.IsTupleIter it a i ∧ e ≠ it) where
  mem := by simp
  obj := fun i h st b hb => by
    obtain ⟨⟨old, he⟩, ⟨o, ho, hc, hd⟩, _⟩ := st
    have e' : b = e ∨ b = it := by simpa using hb
    rcases e' with z | z
    · rw [z]; exact ⟨_, he, fun v q => nomatch q⟩
    · rw [z]; exact ⟨o, ho, fun v q => by rw [hd] at q; cases q⟩
  keep := fun i h h' st k => let ⟨⟨old, he⟩, hi, hne⟩ := st; ⟨⟨old, k e (by simp) _ he⟩, hi.at fun o q => k it (by simp) o q, hne⟩
  item := by
    intro X hP hw hK hc i pins s σ H E I hf st hg
    subst hP hw hK
    obtain ⟨⟨old, he⟩, hit, hne⟩ := st
    obtain ⟨xs, x, hq, hx⟩ := hg
    obtain ⟨its, rv, p, hz⟩ := I.tuple hq
    obtain ⟨u, hu, ru⟩ := rv.get hx
    have hel : e < s.heap.objs.size := Heap.lt_size he
    have hil : it < s.heap.objs.size := by obtain ⟨_, q, _⟩ := hit; exact Heap.lt_size q
    have hlt : i < its.toArray.size := by
      have z := (List.getElem?_eq_some_iff.mp hu).1
      simpa using z
    refine wpAny_pyNext_enum_itemD (Draws.tuple (A := X.A.in1) (I.ok.hd hc) it a hai its.toArray) he ⟨hit, p⟩ hlt hne (by simp [hne, hae]) fun x' h' tk hP' ho hit' hT hsz hk => ?_
    have ex : x' = u := by
      have q : its.toArray[i]? = some u := by simpa using hu
      rw [q] at hP'
      exact (Option.some.inj hP').symm
    subst ex
    refine ⟨_, rfl, wpAny_letOwnedTupleGo_enum (s := { s with heap := h', toks := tk + 1 }) ho fun h'' he' sb => ?_⟩
    have hT2 : h''.get? s.heap.objs.size = some { cls := .type "tuple", data := .seq #[.int i tk, x'] } := (sb.2 _ (Nat.ne_of_gt hel)).trans hT
    have new : ObjOk X.prog X.w (upd H s.heap.objs.size (.tup [.int (i : Nat), x])) h'' s.heap.objs.size (.tup [.int (i : Nat), x]) :=
      ⟨by show 2 ≤ sizeLine; decide, [.int i tk, x'], .cons ⟨_, rfl⟩ (.cons ru .nil), ⟨_, hT2, rfl, _, rfl⟩⟩
    have I1 : Inv X pins σ (upd H s.heap.objs.size (.tup [.int (i : Nat), x])) { s with heap := h'', toks := tk + 1 } :=
      I.turnedNew (ch := [e, it]) (fun b ob hb q => (sb.2 b (fun z => hb (by simp [z]))).trans (hk b ob (fun z => hb (by simp [z])) (fun z => hb (by simp [z])) q)) hf (Nat.le_refl _) new
    refine ⟨.ref s.heap.objs.size, _, I1, rfl, ⟨_, x, rfl, I.hok.fresh (Nat.le_refl _), rfl, fun ys hy => by rw [I.tuple_inj hy hq]; exact hx⟩, ⟨⟨x', ?_⟩, hit'.1.at fun o q => (sb.2 it (Ne.symm hne)).trans q, hne⟩, fun b hb => ?_⟩
    · have e1 : ((i + 1 : Nat) : Int) = (i : Int) + 1 := by omega
      rw [e1]; exact he'
    · have hb' : b < s.heap.objs.size := by
        have e' : b = e ∨ b = it := by simpa using hb
        rcases e' with z | z
        · rw [z]; exact hel
        · rw [z]; exact hil
      rw [upd_ne (Nat.ne_of_lt hb')]
      exact (hf b hb).1
  done := by
    intro X hP hw hK hc i pins s σ H E I hf st hg
    subst hP hw hK
    obtain ⟨⟨old, he⟩, hit, hne⟩ := st
    obtain ⟨xs, hq, hx⟩ := hg
    obtain ⟨its, rv, p, hz⟩ := I.tuple hq
    obtain ⟨f0, f1, f2, f3, f4, f5⟩ := hf it (by simp)
    have hl := rv.length
    have hT : s.TypeIs (.ref e) "enumerate" := ⟨_, he, rfl⟩
    have hN : its.toArray[i]? = none := by simp; omega
    unfold pyNext
    refine wpAny_bind (wpAny_attempt (wpAny_callSpecial?_slot (name := Str.ofString "__next__") hT F.slot_enumerate_next
      (wpAny_call_entry F.slot_enumerate_next hT F.entry_enumerate_next ?_ (F.args_enumerate_next_1 _))))
    show wpAny _ _ (field (.ref e) 2 >>= _) _ _ _
    refine wpAny_bind (wpAny_field he rfl (x := .ref it) rfl ?_)
    refine wpAny_bind (wpAny_nextOf_tuple_end (I.ok.hd hc) hit p hN fun h' x he' hx' => ?_)
    obtain ⟨o, ho, hcc⟩ := hx'
    refine wpAny_bind (wpAny_isInstance (T := "StopIteration") (b := true) ⟨o, ho, hcc⟩ isSubtype_stop ?_)
    exact wpAny_pure ⟨rfl, I.turned (t' := s.toks) (fun b o hb q => he' b o hb q) f0 f1 f3 f4 f5⟩
  self := fun A i s Q E st h => let ⟨⟨_, he⟩, _⟩ := st; wpAny_pyIter_enum he h
/-- enumerate of a list or a tuple -/
def iEnumA (K : PySem.W.Frag) (ta : TA) : TI := fun σ H R => ta σ H fun vs H1 => ∃ a xs, vs = [.ref a] ∧ ((SqL K H1 a xs ∧ R (Ite K a) H1) ∨ (SqT K H1 a xs ∧ R (IteT K a) H1))
theorem pi_enumA {X : Cx} {e : Expr} {ta : TA} {p pos tpos : Pos} {elts : List Expr} {kk : Nat} (hg : Gl X "enumerate") (hm : X.mg "enumerate" = none) (ha : PA X [e] ta) (hs : starEach [e] X.env = [(false, eval e X.env)] := by rfl) :
    PI X (.Tuple elts kk tpos) (.Call (.Name "enumerate" p) [e] [] pos) (iEnumA X.K ta) := by
  refine ⟨fun pins s σ H R I h => ?_⟩
  refine Call_ (ld_blt I hg hm boot_enumerate (PyProof.Rows.callWith_type1 (thn (ha.run pos pins s σ H _ I h) fun us s1 ⟨vs, H1, I1, r1, q1⟩ => ?_) hs rfl))
  obtain ⟨a, xs, ex, q1⟩ := q1
  subst ex
  cases r1 with
  | cons r rr =>
    cases rr
    cases r
    have fp : ∀ b, b ∈ [s1.heap.objs.size + 1, s1.heap.objs.size] → s1.heap.objs.size ≤ b := fun b hb => by
      have e' : b = s1.heap.objs.size + 1 ∨ b = s1.heap.objs.size := by simpa using hb
      rcases e' with z | z
      · rw [z]; exact Nat.le_add_right _ _
      · rw [z]; exact Nat.le_refl _
    rcases q1 with ⟨hq, q⟩ | ⟨hq, q⟩
    · obtain ⟨its, rv, p', hz⟩ := I1.list hq
      refine call_enumerate_list p'.isList fun h' he hit hsz hk => wpAny_pyIter_enum he ?_
      have I2 : Inv X pins σ H1 { s1 with heap := h' } := I1.kept (t' := s1.toks) hk
      exact ⟨s1.heap.objs.size + 1, [s1.heap.objs.size + 1, s1.heap.objs.size], _, _, H1, rfl, I2, turn_enum a (s1.heap.objs.size + 1) s1.heap.objs.size, ⟨⟨.none, he⟩, hit, Nat.succ_ne_self _⟩, fun b hb => I1.fpOk (fp b hb) (I1.hok.fresh (fp b hb)), q⟩
    · obtain ⟨its, rv, p', hz⟩ := I1.tuple hq
      have hlt : a < s1.heap.objs.size := by
        obtain ⟨o, ho, _⟩ := id p'
        exact Heap.lt_size ho
      refine enum_begins0 (begins_tuple a its.toArray) p' fun h' he hit hsz hk => wpAny_pyIter_enum he ?_
      have I2 : Inv X pins σ H1 { s1 with heap := h' } := I1.kept (t' := s1.toks) hk
      exact ⟨s1.heap.objs.size + 1, [s1.heap.objs.size + 1, s1.heap.objs.size], _, _, H1, rfl, I2, turn_enumT a (s1.heap.objs.size + 1) s1.heap.objs.size (Nat.ne_of_gt (Nat.lt_succ_of_lt hlt)) (Nat.ne_of_lt hlt), ⟨⟨.none, he⟩, ⟨_, hit, rfl, rfl⟩, Nat.succ_ne_self _⟩, fun b hb => I1.fpOk (fp b hb) (I1.hok.fresh (fp b hb)), q⟩
end L2
namespace L2
open PySem PySem.Spec PyProof.Rows
theorem for_iteT {K : PySem.W.Frag} {a : Addr} {xs : List V} {g : TG} {tb : TS} {D : Ends} {σ : St} {H : Hp} (Pv : Nat → St → Hp → Prop) (h0 : Pv 0 σ H) (hl : ∀ i σ H, i ≤ xs.length → Pv i σ H → SqT K H a xs)
    (hs : ∀ i x σ H T, xs[i]? = some x → Pv i σ H → H T = none → g (.ref T) σ (upd H T (.tup [.int (i : Nat), x])) fun σ2 H2 => tb { D with nx := Pv (i + 1), ct := Pv (i + 1), bk := D.nx } σ2 H2) (hd : ∀ σ H, Pv xs.length σ H → D.nx σ H) :
    ∃ W : Nat → Nat → St → Hp → Prop, (∃ m, W 0 m σ H) ∧ ∀ i m σ H, W i m σ H →
      ((IteT K a).stop i H ∧ D.nx σ H) ∨ ((IteT K a).go i H ∧ ∃ N : St → Hp → Prop, (∀ σ' H', N σ' H' → ∃ m', m' < m ∧ W (i + 1) m' σ' H') ∧ ∀ x H', (IteT K a).yld i H x H' → g x σ H' fun σ2 H2 => tb { D with nx := N, ct := N, bk := D.nx } σ2 H2) := by
  refine ⟨fun i m σ H => m = xs.length - i ∧ i ≤ xs.length ∧ Pv i σ H, ⟨xs.length, by simp, Nat.zero_le _, h0⟩, ?_⟩
  rintro i m σ H ⟨rfl, hi, p⟩
  have q := hl i σ H hi p
  by_cases hlt : i < xs.length
  · refine .inr ⟨⟨xs, xs[i], q, by simp [hlt]⟩, Pv (i + 1), fun σ' H' p' => ⟨xs.length - (i + 1), by omega, rfl, hlt, p'⟩, fun x H' y => ?_⟩
    obtain ⟨T, z, e, nT, eH, f⟩ := y
    subst e eH
    exact hs i z σ _ T (f xs q) p nT
  · have e : i = xs.length := by omega
    subst e
    exact .inl ⟨⟨xs, q, Nat.le_refl _⟩, hd σ H p⟩
end L2

namespace L2
open PySem PySem.Spec PyProof.Rows
/-! ### sources of draws: a list of three ints, the first one from 0 on -/
def Src (H : Hp) (p : Addr) : Prop := ∃ x y z : Int, 0 ≤ x ∧ H p = some (.lst [.int x, .int y, .int z])
theorem Src.put {H : Hp} {p : Addr} {x y z : Int} (h : 0 ≤ x) : Src (upd H p (.lst [.int x, .int y, .int z])) p := ⟨x, y, z, h, upd_same⟩
theorem Src.ne {H : Hp} {p q : Addr} (h : Src H p) (n : H q = none) : q ≠ p := fun e => by
  obtain ⟨x, y, z, _, hp⟩ := h
  rw [← e, n] at hp
  cases hp
theorem Src.at {H H' : Hp} {p : Addr} (h : Src H p) (e : H' p = H p) : Src H' p := by
  obtain ⟨x, y, z, x0, hp⟩ := h
  exact ⟨x, y, z, x0, e.trans hp⟩
theorem Src.upd {H : Hp} {p q : Addr} {o : HO} (h : Src H p) (n : q ≠ p) : Src (L2.upd H q o) p := h.at (upd_ne (Ne.symm n))
theorem Src.new {H : Hp} {p q : Addr} {o : HO} (h : Src H p) (n : H q = none) : Src (L2.upd H q o) p := h.upd (h.ne n)
theorem Src.same {H H' : Hp} {p : Addr} (h : Src H p) (e : Same H H') : Src H' p := by
  obtain ⟨x, y, z, x0, hp⟩ := h
  exact ⟨x, y, z, x0, e _ _ hp⟩
/-- what a draw leaves: all but the source stands, the source is one -/
def Dn (p : Addr) (H H' : Hp) : Prop := SB p H H' ∧ Src H' p
theorem Dn.put {p : Addr} {H : Hp} {x y z : Int} (h : 0 ≤ x) : Dn p H (L2.upd H p (.lst [.int x, .int y, .int z])) := ⟨SB.put, .put h⟩
theorem Dn.trans {p : Addr} {H H1 H2 : Hp} (a : Dn p H H1) (b : Dn p H1 H2) : Dn p H H2 := ⟨a.1.trans b.1, b.2⟩
theorem Dn.new {p q : Addr} {H H' : Hp} {o : HO} (a : Dn p H H') (n : H' q = none) : Dn p H (L2.upd H' q o) := ⟨a.1.trans (SB.new n), a.2.new n⟩
theorem Dn.same {p : Addr} {H H' H2 : Hp} (a : Dn p H H') (e : Same H' H2) : Dn p H H2 := ⟨a.1.trans (SB.of e), a.2.same e⟩
theorem Dn.refl {p : Addr} {H : Hp} (h : Src H p) : Dn p H H := ⟨SB.refl p H, h⟩
/-- an address that is new behind a draw was new before -/
theorem Dn.free {p q : Addr} {H H' : Hp} (a : Dn p H H') (n : H' q = none) : H q = none := a.1.free (a.2.ne n) n
theorem map_snoc (ms : List Int) (v : Int) : ms.map V.int ++ [V.int v] = (ms ++ [v]).map V.int := by simp
theorem rep_flat (b : Int) : ∀ n : Nat, (List.replicate n [V.int b]).flatten = (List.replicate n b).map V.int
  | 0 => rfl
  | n + 1 => by
    rw [List.replicate_succ, List.replicate_succ, List.flatten_cons, rep_flat b n]
    rfl
theorem lt64 {c : Int} {x : Int} (h0 : 0 ≤ x) (h1 : x < c) (hc : c ≤ 2 ^ 63) : -(2 ^ 64) < x ∧ x < 2 ^ 64 := by omega
theorem mb (x : Int) {c : Int} (h : 0 < c) : 0 ≤ x % c ∧ x % c < c := ⟨Int.emod_nonneg _ (by omega), Int.emod_lt_of_pos _ h⟩
theorem mbw (x : Int) {c : Int} (h : 0 < c) (hc : c ≤ 2 ^ 63) : -(2 ^ 64) < x % c ∧ x % c < 2 ^ 64 := lt64 (mb x h).1 (mb x h).2 hc
/-- a comprehension over range(n) each of whose items is an int, reckoned by draws -/
theorem lc_ints {te : TE} {σ : L2.St} {H1 : Hp} {D p : Addr} {n j : Nat} {vs : List Nat} {Qd : Hp → Prop} (hn : n ≤ 1000000) (hs : Src H1 p) (hD : H1 D = none)
    (hw : ∀ v, wipe ((wipe σ vs).set j v) vs = wipe σ vs)
    (he : ∀ (k : Nat) (H3 : Hp) (R : VK), k < n → Dn p H1 H3 → (∀ (v : Int) (H4 : Hp), Dn p H3 H4 → R (.int v) H4) → te ((wipe σ vs).set j (some (.int (0 + (k : Nat))))) H3 R)
    (hd : ∀ (ms : List Int) (H' : Hp), ms.length = n → Dn p H1 H' → H' D = some (.lst (ms.map V.int)) → Qd H') :
    ∃ W : Nat → Nat → Hp → Prop, (∃ m, W 0 m (L2.upd H1 D (.lst []))) ∧ ∀ i m H, W i m H →
      ((Itr 0 n).stop i H ∧ Qd H) ∨ ((Itr 0 n).go i H ∧ ∃ Nx : Hp → Prop, (∀ H', Nx H' → ∃ m', m' < m ∧ W (i + 1) m' H') ∧ ∀ x H', (Itr 0 n).yld i H x H' → gName j x (wipe σ vs) H' fun σ2 H2 => wipe σ2 vs = wipe σ vs ∧ tYes σ2 H2 fun b H3 =>
        if b = true then te σ2 H3 fun y H4 => ∃ acc, H4 D = some (.lst acc) ∧ acc.length < sizeLine ∧ Nx (L2.upd H4 D (.lst (acc ++ [y]))) else Nx H3) := by
  have nD : D ≠ p := hs.ne hD
  refine lc_range (lo := 0) (n := n) (fun i H => ∃ ms : List Int, ms.length = i ∧ Dn p H1 H ∧ H D = some (.lst (ms.map V.int))) ⟨[], rfl, (Dn.refl hs).new hD, upd_same⟩ ?_ ?_
  · rintro i H hi ⟨ms, hl, dr, hh⟩
    refine ⟨hw _, ?_⟩
    refine he i H _ hi dr fun v H4 d4 => ?_
    have h4 := d4.1 _ _ nD hh
    refine ⟨_, h4, ?_, ms ++ [v], by simp [hl], ?_, ?_⟩
    · rw [List.length_map, hl]
      exact Nat.lt_of_le_of_lt (Nat.le_trans (Nat.le_of_lt hi) hn) (by decide)
    · have dd := dr.trans d4
      refine ⟨fun b o nb e => ?_, dd.2.upd nD⟩
      rw [upd_ne (ne_of_none e hD)]
      exact dd.1 b o nb e
    · rw [map_snoc]
      exact upd_same
  · rintro H ⟨ms, hl, dr, hh⟩
    exact hd ms H hl dr hh
end L2
namespace L2
open PySem PySem.Spec PyProof.Rows
theorem canLay_ints : ∀ ns : List Int, PyData.canLayAll0 (ns.map PyData.int) = true
  | [] => rfl
  | n :: r => by
    show (PyData.canLay0 (.int n) && PyData.canLayAll0 (r.map PyData.int)) = true
    rw [canLay_ints r]
    rfl
theorem depth_ints : ∀ ns : List Int, PyData.depthAll (ns.map PyData.int) = 0
  | [] => rfl
  | n :: r => by
    show max (PyData.depth (.int n)) (PyData.depthAll (r.map PyData.int)) = 0
    rw [depth_ints r]
    rfl
theorem shaped_ints (ns : List Int) : SeqAt.shaped (.list (ns.map PyData.int)) = true := by
  unfold SeqAt.shaped
  rw [Bool.and_eq_true]
  refine ⟨canLay_ints ns, decide_eq_true ?_⟩
  show PyData.depthAll (ns.map PyData.int) + 1 ≤ 64
  rw [depth_ints]
  decide
theorem eqv_ints (ns : List Int) : PyData.eqv (.list (ns.map PyData.int)) (.list (ns.map PyData.int)) = true := SeqAt.eqv_refl _ (SeqAt.canLay_of_shaped (shaped_ints ns))
theorem dpAll_ints {K : PySem.W.Frag} {H : Hp} : ∀ ns : List Int, DpAll K H (ns.map V.int) (ns.map PyData.int)
  | [] => .nil
  | n :: r => .cons (.int n) (dpAll_ints r)
theorem dp_ints {K : PySem.W.Frag} {H : Hp} {p : Addr} {ns : List Int} (h : SqL K H p (ns.map V.int)) : Dp K H (.ref p) (.list (ns.map PyData.int)) := .lst h (dpAll_ints ns)
theorem cut_mem {xs : List V} {lo hi : Option Int} {x : V} (h : x ∈ cutV xs lo hi) : x ∈ xs := List.mem_of_mem_drop (List.mem_of_mem_take h)
end L2

namespace L2
open PySem PySem.Spec PyProof.Rows
/-! ### stable orders: the items of 0 .. n - 1, by a number each, then by themselves -/
def Lx (f : Nat → Int) (i j : Nat) : Prop := f i < f j ∨ (f i = f j ∧ i < j)
theorem Lx.irr {f : Nat → Int} {i : Nat} : ¬ Lx f i i := fun h => by unfold Lx at h; omega
theorem Lx.asymm {f : Nat → Int} {i j : Nat} (h : Lx f i j) : ¬ Lx f j i := fun h' => by unfold Lx at h h'; omega
theorem Lx.trans {f : Nat → Int} {i j k : Nat} (h : Lx f i j) (h' : Lx f j k) : Lx f i k := by unfold Lx at *; omega
theorem Lx.tri (f : Nat → Int) (i j : Nat) : Lx f i j ∨ i = j ∨ Lx f j i := by unfold Lx; omega
structure Stab (f : Nat → Int) (n : Nat) (os : List Nat) : Prop where
  perm : os.Perm (List.range n)
  sort : os.Pairwise (Lx f)
/-- two rows of the same items that are sorted strictly are one -/
theorem sorted_uniq {α : Type} {R : α → α → Prop} (as : ∀ a b, R a b → ¬ R b a) : ∀ {xs ys : List α}, xs.Perm ys → xs.Pairwise R → ys.Pairwise R → xs = ys
  | [], ys, p, _, _ => (List.Perm.nil_eq p)
  | x :: xs, [], p, _, _ => absurd p.length_eq (by simp)
  | x :: xs, y :: ys, p, hx, hy => by
    have e : x = y := by
      have m1 : x ∈ y :: ys := p.mem_iff.mp (List.mem_cons_self ..)
      have m2 : y ∈ x :: xs := p.mem_iff.mpr (List.mem_cons_self ..)
      rcases List.mem_cons.mp m1 with e | m1
      · exact e
      · rcases List.mem_cons.mp m2 with e | m2
        · exact e.symm
        · exact absurd ((List.pairwise_cons.mp hx).1 y m2) (as _ _ ((List.pairwise_cons.mp hy).1 x m1))
    subst e
    rw [sorted_uniq as p.cons_inv (List.pairwise_cons.mp hx).2 (List.pairwise_cons.mp hy).2]
theorem Stab.uniq {f : Nat → Int} {n : Nat} {as bs : List Nat} (a : Stab f n as) (b : Stab f n bs) : as = bs := sorted_uniq (fun _ _ => Lx.asymm) (a.perm.trans b.perm.symm) a.sort b.sort
theorem Stab.len {f : Nat → Int} {n : Nat} {os : List Nat} (a : Stab f n os) : os.length = n := by
  rw [a.perm.length_eq, List.length_range]
theorem Stab.nodup {f : Nat → Int} {n : Nat} {os : List Nat} (a : Stab f n os) : os.Nodup := a.perm.nodup_iff.mpr List.nodup_range
theorem Stab.lt {f : Nat → Int} {n : Nat} {os : List Nat} (a : Stab f n os) {i : Nat} (h : i ∈ os) : i < n := List.mem_range.mp (a.perm.mem_iff.mp h)
/-- the order hangs on how the numbers stand to one another alone -/
theorem Stab.like {f g : Nat → Int} {n : Nat} {os : List Nat} (a : Stab f n os) (h : ∀ i j, i < n → j < n → (f i < f j ↔ g i < g j)) : Stab g n os := by
  refine ⟨a.perm, ?_⟩
  refine List.Pairwise.imp_of_mem ?_ a.sort
  intro i j hi hj l
  have h1 := h i j (a.lt hi) (a.lt hj)
  have h2 := h j i (a.lt hj) (a.lt hi)
  unfold Lx at *
  omega
/-- what an item counts: its key, with reverse its negative -/
def keyf (ks : List Int) (rev : Bool) (i : Nat) : Int := if rev then -(ks.getD i 0) else ks.getD i 0
/-- the row of items as values -/
abbrev nV (os : List Nat) : List V := os.map fun (i : Nat) => V.int (i : Int)
/-- pairs of the keys' numbers and the items, sorted, give the order -/
theorem stab_of_pairs {f : Nat → Int} {n : Nat} {ps : List (Int × Int)} (p : ps.Perm ((List.range n).map fun (i : Nat) => (f i, (i : Int)))) (s : ps.Pairwise fun x y => ¬ (y.1 < x.1 ∨ (y.1 = x.1 ∧ y.2 < x.2))) :
    ∃ os, Stab f n os ∧ ps = os.map fun (i : Nat) => (f i, (i : Int)) := by
  have hm : ∀ q ∈ ps, q = (f q.2.toNat, (q.2.toNat : Int)) := fun q hq => by
    obtain ⟨i, _, e⟩ := List.mem_map.mp (p.mem_iff.mp hq)
    subst e
    simp
  have e1 : ps = (ps.map fun q => q.2.toNat).map fun (i : Nat) => (f i, (i : Int)) := by
    rw [List.map_map]
    calc ps = ps.map id := (List.map_id ps).symm
      _ = _ := List.map_congr_left fun q hq => hm q hq
  have pm : (ps.map fun q => q.2.toNat).Perm (List.range n) := by
    have q := p.map fun q => q.2.toNat
    rw [List.map_map] at q
    have e : (List.range n).map ((fun q : Int × Int => q.2.toNat) ∘ fun (i : Nat) => (f i, (i : Int))) = List.range n := by
      calc _ = (List.range n).map id := List.map_congr_left fun i _ => by simp
        _ = _ := List.map_id _
    rw [e] at q
    exact q
  refine ⟨ps.map fun q => q.2.toNat, ⟨pm, ?_⟩, e1⟩
  have nd : (ps.map fun q => q.2.toNat).Nodup := pm.nodup_iff.mpr List.nodup_range
  have s2 : (ps.map fun q => q.2.toNat).Pairwise fun i j => ¬ (f j < f i ∨ (f j = f i ∧ j < i)) := by
    rw [e1, List.pairwise_map] at s
    refine s.imp ?_
    intro i j h
    omega
  exact (List.pairwise_and_iff.mpr ⟨s2, nd⟩).imp fun {i j} h => by
    obtain ⟨h1, h2⟩ := h
    unfold Lx
    omega
end L2
namespace L2
open PySem PySem.Spec PyProof.Rows
theorem pe_callN0 {X : Cx} {CX : CXT} {k : Nat} {f : Addr} {fd : FuncData} {ps ks : List Str} {sp : Sp} {E : XK} {x : Str} {p pos : Pos} {kws : List Keyword} {tk : TA} {g : List Value → List Value → List Value} {gV : List V → List V → List V}
    (F : FnOk X.prog X.w X.K X.mg X.base CX k f fd ps sp) (hr : Room k X.A) (hg : Gl X x) (hm : X.mg x = some (.ref f)) (hk : PySem.W.keepIn X.K (.ref f) = true) (hb : KBn X.K fd ps 0 ks g gV) (hx : Passes CX X E)
    (hkw : PK X kws tk) (hall : (backToKw pos (keywordEach kws X.env)).all (·.1.isSome) = true := by rfl) (hks : (backToKw pos (keywordEach kws X.env)).filterMap (·.1) = ks := by rfl)
    (hdb : (x == ("__debug__" : Str)) = false := by decide)
    (hpl : ((backTo pos (starEach [] X.env)).any (·.1) || (backToKw pos (keywordEach kws X.env)).any (·.1.isNone)) = false := by rfl) :
    PE X (.Call (.Name x p) [] kws pos) (fun σ H Q => tk σ H fun zs H2 => zs.length = ks.length ∧ sp (gV [] zs) H2 Q E) := by
  refine ⟨fun pins s σ H Q I h => ?_⟩
  refine wpAny_Call_Name_kw (ld_glob I hg hm ?_ hdb)
  refine PySem.W.callWith_KW0 (h₀ := X.base) I.ok.mod.kin hk hall ?_ hpl
  refine thn (hkw.run pos pins s σ H _ I h) fun ws s2 ⟨zs, H2, I2, rz, l2, q2⟩ => ⟨I2.kIn, ?_⟩
  rw [hks]
  exact run_fnN F hr hb hx I2 .nil rz rfl l2 q2
theorem lc_iteL {K : PySem.W.Frag} {a : Addr} {xs : List V} {g : TG} {tt : TT} {te : TE} {vs : List Nat} {σ : L2.St} {H1 : Hp} {D : Addr} {Qd : Hp → Prop} (Pv : Nat → Hp → Prop) (h0 : Pv 0 (upd H1 D (.lst []))) (hl : ∀ i H, i ≤ xs.length → Pv i H → SqL K H a xs)
    (hs : ∀ i x H T, xs[i]? = some x → Pv i H → H T = none → g (.ref T) (wipe σ vs) (upd H T (.tup [.int (i : Nat), x])) fun σ2 H2 => wipe σ2 vs = wipe σ vs ∧ tt σ2 H2 fun b H3 =>
      if b = true then te σ2 H3 fun y H4 => ∃ acc, H4 D = some (.lst acc) ∧ acc.length < sizeLine ∧ Pv (i + 1) (upd H4 D (.lst (acc ++ [y]))) else Pv (i + 1) H3) (hd : ∀ H, Pv xs.length H → Qd H) :
    ∃ W : Nat → Nat → Hp → Prop, (∃ m, W 0 m (upd H1 D (.lst []))) ∧ ∀ i m H, W i m H →
      ((Ite K a).stop i H ∧ Qd H) ∨ ((Ite K a).go i H ∧ ∃ Nx : Hp → Prop, (∀ H', Nx H' → ∃ m', m' < m ∧ W (i + 1) m' H') ∧ ∀ x H', (Ite K a).yld i H x H' → g x (wipe σ vs) H' fun σ2 H2 => wipe σ2 vs = wipe σ vs ∧ tt σ2 H2 fun b H3 =>
        if b = true then te σ2 H3 fun y H4 => ∃ acc, H4 D = some (.lst acc) ∧ acc.length < sizeLine ∧ Nx (upd H4 D (.lst (acc ++ [y]))) else Nx H3) := by
  refine ⟨fun i m H => m = xs.length - i ∧ i ≤ xs.length ∧ Pv i H, ⟨xs.length, by simp, Nat.zero_le _, h0⟩, ?_⟩
  rintro i m H ⟨rfl, hi, p⟩
  have q := hl i H hi p
  by_cases hlt : i < xs.length
  · refine .inr ⟨⟨xs, xs[i], q, by simp [hlt]⟩, Pv (i + 1), fun H' p' => ⟨xs.length - (i + 1), by omega, rfl, hlt, p'⟩, fun x H' y => ?_⟩
    obtain ⟨T, z, e, nT, eH, f⟩ := y
    subst e eH
    exact hs i z _ T (f xs q) p nT
  · have e : i = xs.length := by omega
    subst e
    exact .inl ⟨⟨xs, q, Nat.le_refl _⟩, hd H p⟩
theorem lc_iteT {K : PySem.W.Frag} {a : Addr} {xs : List V} {g : TG} {tt : TT} {te : TE} {vs : List Nat} {σ : L2.St} {H1 : Hp} {D : Addr} {Qd : Hp → Prop} (Pv : Nat → Hp → Prop) (h0 : Pv 0 (upd H1 D (.lst []))) (hl : ∀ i H, i ≤ xs.length → Pv i H → SqT K H a xs)
    (hs : ∀ i x H T, xs[i]? = some x → Pv i H → H T = none → g (.ref T) (wipe σ vs) (upd H T (.tup [.int (i : Nat), x])) fun σ2 H2 => wipe σ2 vs = wipe σ vs ∧ tt σ2 H2 fun b H3 =>
      if b = true then te σ2 H3 fun y H4 => ∃ acc, H4 D = some (.lst acc) ∧ acc.length < sizeLine ∧ Pv (i + 1) (upd H4 D (.lst (acc ++ [y]))) else Pv (i + 1) H3) (hd : ∀ H, Pv xs.length H → Qd H) :
    ∃ W : Nat → Nat → Hp → Prop, (∃ m, W 0 m (upd H1 D (.lst []))) ∧ ∀ i m H, W i m H →
      ((IteT K a).stop i H ∧ Qd H) ∨ ((IteT K a).go i H ∧ ∃ Nx : Hp → Prop, (∀ H', Nx H' → ∃ m', m' < m ∧ W (i + 1) m' H') ∧ ∀ x H', (IteT K a).yld i H x H' → g x (wipe σ vs) H' fun σ2 H2 => wipe σ2 vs = wipe σ vs ∧ tt σ2 H2 fun b H3 =>
        if b = true then te σ2 H3 fun y H4 => ∃ acc, H4 D = some (.lst acc) ∧ acc.length < sizeLine ∧ Nx (upd H4 D (.lst (acc ++ [y]))) else Nx H3) := by
  refine ⟨fun i m H => m = xs.length - i ∧ i ≤ xs.length ∧ Pv i H, ⟨xs.length, by simp, Nat.zero_le _, h0⟩, ?_⟩
  rintro i m H ⟨rfl, hi, p⟩
  have q := hl i H hi p
  by_cases hlt : i < xs.length
  · refine .inr ⟨⟨xs, xs[i], q, by simp [hlt]⟩, Pv (i + 1), fun H' p' => ⟨xs.length - (i + 1), by omega, rfl, hlt, p'⟩, fun x H' y => ?_⟩
    obtain ⟨T, z, e, nT, eH, f⟩ := y
    subst e eH
    exact hs i z _ T (f xs q) p nT
  · have e : i = xs.length := by omega
    subst e
    exact .inl ⟨⟨xs, q, Nat.le_refl _⟩, hd H p⟩
/-- rows of ints compared -/
theorem eqvAll_ints : ∀ xs ys : List Int, PyData.eqvAll (xs.map PyData.int) (ys.map PyData.int) = decide (xs = ys)
  | [], [] => rfl
  | [], _ :: _ => rfl
  | _ :: _, [] => rfl
  | x :: xs, y :: ys => by
    show (PyData.eqv (.int x) (.int y) && PyData.eqvAll (xs.map PyData.int) (ys.map PyData.int)) = _
    rw [eqvAll_ints xs ys]
    show (x == y && decide (xs = ys)) = _
    by_cases h1 : x = y
    · subst h1
      by_cases h2 : xs = ys
      · subst h2
        simp
      · simp [h2]
    · simp [h1]
theorem eqv_lists (xs ys : List Int) : PyData.eqv (.list (xs.map PyData.int)) (.list (ys.map PyData.int)) = decide (xs = ys) := eqvAll_ints xs ys
theorem nV_map (os : List Nat) : nV os = (os.map fun (i : Nat) => (i : Int)).map V.int := by
  unfold nV
  rw [List.map_map]
  rfl
theorem cast_inj {xs ys : List Nat} : (xs.map fun (i : Nat) => (i : Int)) = (ys.map fun (i : Nat) => (i : Int)) ↔ xs = ys := by
  constructor
  · intro h
    have h2 := congrArg (List.map Int.toNat) h
    rw [List.map_map, List.map_map] at h2
    have e : ∀ l : List Nat, l.map (Int.toNat ∘ fun (i : Nat) => (i : Int)) = l := fun l => by
      calc _ = l.map id := List.map_congr_left fun i _ => by simp
        _ = l := List.map_id l
    rw [e, e] at h2
    exact h2
  · intro h
    rw [h]
end L2
namespace L2
open PySem PySem.Spec PyProof.Rows
theorem cut_take (xs : List V) (k : Nat) : cutV xs none (some (k : Int)) = xs.take k := by
  unfold cutV
  rw [HT.sIx_none, HT.sIx_nat, List.drop_zero, Nat.sub_zero]
  by_cases h : k ≤ xs.length
  · rw [Nat.min_eq_left h]
  · rw [Nat.min_eq_right (by omega), List.take_of_length_le (Nat.le_refl _), List.take_of_length_le (by omega)]
theorem cut_drop (xs : List V) (k : Nat) : cutV xs (some (k : Int)) none = xs.drop k := by
  unfold cutV
  rw [HT.sIx_none, HT.sIx_nat]
  by_cases h : k ≤ xs.length
  · rw [Nat.min_eq_left h]
    exact List.take_of_length_le (by rw [List.length_drop]; exact Nat.le_refl _)
  · rw [Nat.min_eq_right (by omega), List.drop_of_length_le (Nat.le_refl _), List.drop_of_length_le (by omega), List.take_nil]
/-- an item is put in where all ahead are ahead of it and all behind behind it -/
theorem put_stab {f : Nat → Int} {i pl : Nat} {os : List Nat} (s : Stab f i os) (h1 : ∀ x ∈ os.take pl, Lx f x i) (h2 : ∀ x ∈ os.drop pl, Lx f i x) : Stab f (i + 1) (os.take pl ++ [i] ++ os.drop pl) := by
  have e : os.take pl ++ os.drop pl = os := List.take_append_drop pl os
  constructor
  · have p1 : (os.take pl ++ [i] ++ os.drop pl).Perm ((os.take pl ++ os.drop pl) ++ [i]) := by
      rw [List.append_assoc, List.append_assoc]
      exact List.Perm.append_left _ List.perm_append_comm
    rw [e] at p1
    refine p1.trans ?_
    rw [List.range_succ]
    exact s.perm.append_right [i]
  · have so := s.sort
    rw [← e, List.pairwise_append] at so
    rw [List.append_assoc, List.pairwise_append]
    refine ⟨so.1, List.pairwise_cons.mpr ⟨h2, so.2.1⟩, fun x hx y hy => ?_⟩
    rcases List.mem_cons.mp hy with rfl | hy
    · exact h1 x hx
    · exact so.2.2 x hx y hy
end L2

namespace L2
open PySem PySem.Spec PyProof.Rows
/-! ### o[lo:hi] = another list -/
def gSlice (to : TE) (tl th : TO) : TG := fun v σ H Q => to σ H fun o H1 => tl σ H1 fun lo H2 => th σ H2 fun hi H3 =>
  ∃ (l b : Addr) (xs ys : List V) (a c : Int), o = .ref l ∧ v = .ref b ∧ lo = some a ∧ hi = some c ∧ H3 l = some (.lst xs) ∧ H3 b = some (.lst ys) ∧ l ≠ b ∧ 0 ≤ a ∧ a ≤ c ∧ c ≤ xs.length ∧ xs.length + ys.length ≤ sizeLine ∧
    Q σ (upd H3 l (.lst (xs.take a.toNat ++ ys ++ xs.drop c.toNat)))
theorem part_int {u : Value} {i : Int} (h : IsPart u (some i)) : RelV (.int i) u := by
  cases h
  exact ⟨_, rfl⟩
theorem pg_slice {X : Cx} {o : Expr} {lo hi : Option Expr} {to : TE} {tl th : TO} {p2 pos : Pos} (ho : PE X o to) (hl : PO X lo tl) (hu : PO X hi th)
    (ha : ∀ v, assign (.Subscript o (.Slice lo hi none p2) pos) X.env v = (do
      let ov ← holding [v] (eval o X.env)
      let iv ← holding [v, ov] (eval (.Slice lo hi none p2) X.env)
      standAt pos
      holding [v, ov, iv] (setItem ov iv v)
      release [iv, v, ov] []) := by intro _; rfl) : PG X (.Subscript o (.Slice lo hi none p2) pos) (gSlice to tl th) := by
  refine ⟨fun pins s σ H v u Q I r h => ?_⟩
  rw [ha]
  refine wpAny_bind (wpAny_holding (thn (ho.run pins s σ H _ I h) fun ov s1 ⟨x, H1, I1, r1, q1⟩ => ?_))
  refine wpAny_bind (wpAny_holding (wpAny_Slice (thn (hl.run pins s1 σ H1 _ I1 q1) fun vl s2 ⟨l, H2, I2, pl, q2⟩ => thn (hu.run pins s2 σ H2 _ I2 q2) fun vu s3 ⟨w', H3, I3, pu, q3⟩ => ?_)))
  rw [evalPart_none]
  refine wpAny_pure ?_
  have I4 : Inv X pins σ H3 { s3 with heap := s3.heap.push { cls := .type "slice", data := .fields #[vl, vu, .none] } } := I3.kept (t' := s3.toks) fun b ob q => Heap.get?_push_of_some _ q
  obtain ⟨li, b, xs, ys, a, c, rfl, rfl, rfl, rfl, hX, hB, ne, h0, hac, hc, hz, q⟩ := q3
  cases r1
  cases r
  refine wpAny_bind (wpAny_standAt (wpAny_bind (wpAny_holding ?_)))
  refine set_slice I4 hX hB ne (Heap.IsSliceOf.new ..) (part_int pl) (part_int pu) h0 hac hc hz fun s5 I5 => ?_
  exact wpAny_release ⟨σ, _, I5, q⟩
end L2
namespace L2
open PySem PySem.Spec PyProof.Rows
/-! ### how a run is found: the state, step by step -/
structure RF where
  row : List Nat
  pl : Nat
  eq : Nat
  st : Nat
  wt : Option (Nat × Nat)
  ln : Option Nat
namespace RF
def turned (row : List Nat) (lo hi : Nat) : List Nat := row.take lo ++ ((row.drop lo).take (hi - lo)).reverse ++ row.drop hi
def turn (f : RF) (lo : Nat) : RF := { f with row := turned f.row lo f.pl }
def finish (s : Nat) (f : RF) : RF := { f with ln := some (f.pl - s), wt := none }
def turnEq (f : RF) : RF := if 0 < f.eq then { f.turn (f.pl - f.eq - 1) with eq := 0 } else f
def askUp (s e : Nat) (f : RF) : RF := if f.pl < e then { f with wt := some (f.row.getD f.pl 0, f.row.getD (f.pl - 1) 0) } else finish s f
def rise (s e : Nat) (f : RF) : RF := askUp s e { (turnEq f).turn s with st := 5 }
def ask (s e : Nat) (f : RF) : RF := if f.pl < e then { f with wt := some (f.row.getD f.pl 0, f.row.getD (f.pl - 1) 0) } else if f.st = 3 then rise s e f else finish s f
def goOn (s e : Nat) (f : RF) : RF := ask s e { f with pl := f.pl + 1 }
def fall (s e : Nat) (f : RF) : RF := goOn s e { f with st := 3 }
def take1 (s e : Nat) (b : Bool) (f : RF) : RF := if b = false then goOn s e f else if f.pl = s + 1 then fall s e f else { f with st := 2, wt := some (f.row.getD s 0, f.row.getD (f.pl - 1) 0) }
def take2 (s e : Nat) (b : Bool) (f : RF) : RF := if b = true then finish s f else fall s e (f.turn s)
def take3 (s e : Nat) (b : Bool) (f : RF) : RF := if b = true then goOn s e (turnEq f) else { f with st := 4, wt := some (f.row.getD (f.pl - 1) 0, f.row.getD f.pl 0) }
def take4 (s e : Nat) (b : Bool) (f : RF) : RF := if b = true then rise s e f else goOn s e { f with eq := f.eq + 1, st := 3 }
def take5 (s e : Nat) (b : Bool) (f : RF) : RF := if b = true then finish s f else goOn s e f
def take (s e : Nat) (b : Bool) (f : RF) : RF := if f.st = 1 then take1 s e b f else if f.st = 2 then take2 s e b f else if f.st = 3 then take3 s e b f else if f.st = 4 then take4 s e b f else take5 s e b f
def init (row : List Nat) (s e : Nat) : RF := ask s e { row := row, pl := s + 1, eq := 0, st := 1, wt := none, ln := none }
/-- what holds between the steps -/
structure WF (s e : Nat) (f : RF) : Prop where
  sp : s < f.pl
  pe : f.pl ≤ e
  er : e ≤ f.row.length
  eq : f.eq + s < f.pl
  rl : f.row.length ≤ 2000
theorem turned_len {row : List Nat} {lo hi : Nat} (h : lo ≤ hi) (h2 : hi ≤ row.length) : (turned row lo hi).length = row.length := by
  unfold turned
  rw [List.length_append, List.length_append, List.length_take, List.length_reverse, List.length_take, List.length_drop, List.length_drop]
  omega
variable {s e : Nat} {f : RF}
theorem WF.turn (w : WF s e f) {lo : Nat} (h : lo ≤ f.pl) : WF s e (f.turn lo) := by
  obtain ⟨a, b, c, d, g⟩ := w
  have l : (f.turn lo).row.length = f.row.length := turned_len h (by omega)
  exact ⟨a, b, by rw [l]; exact c, d, by rw [l]; exact g⟩
theorem WF.turnEq (w : WF s e f) : WF s e f.turnEq := by
  unfold RF.turnEq
  split
  · have w2 := w.turn (lo := f.pl - f.eq - 1) (by omega)
    exact ⟨w2.sp, w2.pe, w2.er, by show 0 + s < f.pl; have := w.sp; omega, w2.rl⟩
  · exact w
theorem turnEq_pl (f : RF) : f.turnEq.pl = f.pl := by
  unfold RF.turnEq
  split <;> rfl
theorem turnEq_st (f : RF) : f.turnEq.st = f.st := by
  unfold RF.turnEq
  split <;> rfl
end RF
def lenV : Option Nat → V
  | none => .non
  | some n => .int (n : Int)
def flds (r : Addr) (s e : Nat) (f : RF) (wv : V) : List (Str × V) :=
  [("row", .ref r), ("start", .int (s : Int)), ("end", .int (e : Int)), ("place", .int (f.pl : Int)), ("equal", .int (f.eq : Int)), ("step", .int (f.st : Int)), ("waiting", wv), ("length", lenV f.ln)]
def WaitAt (H : Hp) (wv : V) : Option (Nat × Nat) → Prop
  | none => wv = .non
  | some (i, j) => ∃ t, wv = .ref t ∧ H t = some (.tup [.int (i : Int), .int (j : Int)])
theorem WaitAt.keep {H H' : Hp} {wv : V} {o : Option (Nat × Nat)} (h : WaitAt H wv o) (k : ∀ t i j, H t = some (.tup [.int i, .int j]) → H' t = some (.tup [.int i, .int j])) : WaitAt H' wv o := by
  cases o with
  | none => exact h
  | some p =>
    obtain ⟨t, e, ht⟩ := h
    exact ⟨t, e, k _ _ _ ht⟩
theorem WaitAt.upd {H : Hp} {wv : V} {o : Option (Nat × Nat)} {x : Addr} {u v : HO} (h : WaitAt H wv o) (hx : H x = some u) (hn : ∀ i j, u ≠ .tup [.int i, .int j]) : WaitAt (L2.upd H x v) wv o :=
  h.keep fun t i j ht => by
    rw [upd_ne (ne_of ht hx (fun e => hn i j e.symm))]
    exact ht
/-- the finder at x, its row at r -/
def FAt (C : Addr) (H : Hp) (x r : Addr) (s e : Nat) (f : RF) : Prop := x ≠ r ∧ ∃ dx wv, H x = some (.ins C dx (flds r s e f wv)) ∧ WaitAt H wv f.wt ∧ H r = some (.lst (nV f.row))
/-- all but x and r stands -/
def Fr2 (x r : Addr) (H H' : Hp) : Prop := ∀ b o, b ≠ x → b ≠ r → H b = some o → H' b = some o
theorem Fr2.refl (x r : Addr) (H : Hp) : Fr2 x r H H := fun _ _ _ _ h => h
theorem Fr2.trans {x r : Addr} {H H1 H2 : Hp} (a : Fr2 x r H H1) (b : Fr2 x r H1 H2) : Fr2 x r H H2 := fun c o n m h => b c o n m (a c o n m h)
theorem Fr2.of {x r : Addr} {H H' : Hp} (a : Same H H') : Fr2 x r H H' := fun c o _ _ h => a c o h
theorem Fr2.putx {x r : Addr} {H : Hp} {u : HO} : Fr2 x r H (L2.upd H x u) := fun c o n _ h => by rw [upd_ne n]; exact h
theorem Fr2.putr {x r : Addr} {H : Hp} {u : HO} : Fr2 x r H (L2.upd H r u) := fun c o _ m h => by rw [upd_ne m]; exact h
theorem FAt.same {C : Addr} {H H' : Hp} {x r : Addr} {s e : Nat} {f : RF} (h : FAt C H x r s e f) (k : Same H H') : FAt C H' x r s e f := by
  obtain ⟨n, dx, wv, hx, hw, hr⟩ := h
  exact ⟨n, dx, wv, k _ _ hx, hw.keep (fun _ _ _ => k _ _), k _ _ hr⟩
end L2

namespace L2
open PySem PySem.Spec PyProof.Rows
theorem cut_mid (xs : List V) (a b : Nat) (h : a ≤ b) (hb : b ≤ xs.length) : cutV xs (some (a : Int)) (some (b : Int)) = (xs.drop a).take (b - a) := by
  unfold cutV
  rw [HT.sIx_nat, HT.sIx_nat, Nat.min_eq_left hb, Nat.min_eq_left (Nat.le_trans h hb)]
theorem nV_turned (row : List Nat) (lo hi : Nat) : (nV row).take lo ++ (((nV row).drop lo).take (hi - lo)).reverse ++ (nV row).drop hi = nV (RF.turned row lo hi) := by
  unfold RF.turned
  simp only [List.map_append, List.map_take, List.map_drop, List.map_reverse]
theorem nV_get {row : List Nat} {i : Nat} (h : i < row.length) : atI (nV row) (i : Int) = some (.int ((row.getD i 0 : Nat) : Int)) := by
  refine atI_nat ?_
  rw [List.getElem?_map, List.getElem?_eq_getElem h]
  simp [List.getD_eq_getElem?_getD, List.getElem?_eq_getElem h]
theorem FAt.put {C x r : Addr} {H : Hp} {s e : Nat} {f f' : RF} {dx : Addr} {wv wv' : V} (h : FAt C H x r s e f) (hx : H x = some (.ins C dx (flds r s e f wv))) (er : f'.row = f.row) (hw : WaitAt H wv' f'.wt) {w : List (Str × V)} (ew : w = flds r s e f' wv') :
    FAt C (upd H x (.ins C dx w)) x r s e f' := by
  obtain ⟨n, _, _, _, _, hr⟩ := h
  subst ew
  refine ⟨n, dx, wv', upd_same, hw.upd hx (fun i j e => by cases e), ?_⟩
  rw [upd_ne n.symm, er]
  exact hr
/-- an attribute is set -/
theorem FAt.set {C x r : Addr} {H : Hp} {s e : Nat} {f : RF} {dx : Addr} {wv : V} (h : FAt C H x r s e f) (hx : H x = some (.ins C dx (flds r s e f wv))) (f' : RF) (wv' : V) (er : f'.row = f.row) (hw : WaitAt H wv' f'.wt) {w : List (Str × V)} (ew : w = flds r s e f' wv') :
    FAt C (upd H x (.ins C dx w)) x r s e f' ∧ upd H x (.ins C dx w) x = some (.ins C dx (flds r s e f' wv')) ∧ Fr2 x r H (upd H x (.ins C dx w)) := by
  subst ew
  exact ⟨h.put hx er hw rfl, upd_same, Fr2.putx⟩
theorem FAt.wait {C x r : Addr} {H : Hp} {s e : Nat} {f : RF} {dx : Addr} {wv : V} (h : FAt C H x r s e f) (hx : H x = some (.ins C dx (flds r s e f wv))) : WaitAt H wv f.wt := by
  obtain ⟨_, dx2, wv2, hx2, hw, _⟩ := h
  rw [hx] at hx2
  have e1 : flds r s e f wv = flds r s e f wv2 := (HO.ins.inj (Option.some.inj hx2)).2.2
  have e3 : some wv = some wv2 := congrArg (fun l : List (Str × V) => l.lookup ("waiting" : Str)) e1
  rw [Option.some.inj e3]
  exact hw
theorem FAt.putRow {C x r : Addr} {H : Hp} {s e : Nat} {f : RF} (h : FAt C H x r s e f) {row : List Nat} {w : List V} (ew : w = nV row) :
    FAt C (upd H r (.lst w)) x r s e { f with row := row } := by
  obtain ⟨n, dx, wv, hx, hw, hr⟩ := h
  subst ew
  refine ⟨n, dx, wv, ?_, hw.upd hr (fun i j e => by cases e), upd_same⟩
  rw [upd_ne n]
  exact hx
def spF0 (C : Addr) (pre : Nat → Nat → RF → Prop) (fn : Nat → Nat → RF → RF) : Sp := fun vs H Q _ => ∃ (x r : Addr) (s e : Nat) (f : RF), vs = [.ref x] ∧ FAt C H x r s e f ∧ RF.WF s e f ∧ pre s e f ∧ ∀ H', FAt C H' x r s e (fn s e f) → Fr2 x r H H' → Q .non H'
def spG (C : Addr) (fn : Nat → Nat → RF → RF) : Sp := fun vs H Q _ => ∃ (x r : Addr) (s e : Nat) (f : RF), vs = [.ref x] ∧ FAt C H x r s e f ∧ RF.WF s e { f with pl := f.pl + 1 } ∧ ∀ H', FAt C H' x r s e (fn s e f) → Fr2 x r H H' → Q .non H'
def spInit (C : Addr) : Sp := fun vs H Q _ => ∃ (x dx r : Addr) (s e : Nat) (row : List Nat), vs = [.ref x, .ref r, .int (s : Int), .int (e : Int)] ∧ H x = some (.ins C dx []) ∧ H r = some (.lst (nV row)) ∧ x ≠ r ∧ s < e ∧ e ≤ row.length ∧ row.length ≤ 2000 ∧ ∀ H', FAt C H' x r s e (RF.init row s e) → Fr2 x r H H' → Q .non H'
def spF1 (C : Addr) (pre : Nat → Nat → RF → Prop) (fn : Nat → Nat → Bool → RF → RF) : Sp := fun vs H Q _ => ∃ (x r : Addr) (s e : Nat) (f : RF) (b : Bool), vs = [.ref x, .bl b] ∧ FAt C H x r s e f ∧ RF.WF s e f ∧ pre s e f ∧ ∀ H', FAt C H' x r s e (fn s e b f) → Fr2 x r H H' → Q .non H'
def spTurn (C : Addr) : Sp := fun vs H Q _ => ∃ (x r : Addr) (s e lo : Nat) (f : RF), vs = [.ref x, .int (lo : Int)] ∧ FAt C H x r s e f ∧ RF.WF s e f ∧ lo ≤ f.pl ∧ ∀ H', FAt C H' x r s e (f.turn lo) → Fr2 x r H H' → Q .non H'
theorem dnF {n m : Nat} (h : n ≠ m) : V.bl (decide (V.int (n : Int) = V.int (m : Int))) = .bl false := by
  refine congrArg V.bl (decide_eq_false fun e => h ?_)
  have := V.int.inj e
  omega
theorem dnT {n m : Nat} (h : n = m) : V.bl (decide (V.int (n : Int) = V.int (m : Int))) = .bl true := congrArg V.bl (decide_eq_true (by rw [h]))
def noP (_ _ : Nat) (_ : RF) : Prop := True
namespace RF
variable {s e : Nat} {f : RF}
theorem WF.rowSame (w : WF s e f) {f' : RF} (h1 : f'.row = f.row) (h2 : f'.pl = f.pl) (h3 : f'.eq = f.eq) : WF s e f' := by
  obtain ⟨a, b, c, d, g⟩ := w
  exact ⟨by rw [h2]; exact a, by rw [h2]; exact b, by rw [h1]; exact c, by rw [h2, h3]; exact d, by rw [h1]; exact g⟩
theorem WF.finish (w : WF s e f) : WF s e (f.finish s) := w.rowSame rfl rfl rfl
theorem WF.askUp (w : WF s e f) : WF s e (f.askUp s e) := by
  unfold RF.askUp
  split
  · exact w.rowSame rfl rfl rfl
  · exact w.finish
theorem WF.pre5 (w : WF s e f) : WF s e { ((RF.turnEq f).turn s : RF) with st := 5 } := by
  have w1 := w.turnEq
  exact (w1.turn (Nat.le_of_lt w1.sp)).rowSame rfl rfl rfl
theorem WF.rise (w : WF s e f) : WF s e (f.rise s e) := w.pre5.askUp
theorem WF.ask (w : WF s e f) : WF s e (f.ask s e) := by
  unfold RF.ask
  split
  · exact w.rowSame rfl rfl rfl
  · split
    · exact w.rise
    · exact w.finish
theorem WF.next (w : WF s e f) (h : f.pl < e) : WF s e { f with pl := f.pl + 1 } := by
  obtain ⟨a, b, c, d, g⟩ := w
  exact ⟨by show s < f.pl + 1; omega, h, c, by show f.eq + s < f.pl + 1; omega, g⟩
theorem WF.goOn (w : WF s e f) (h : f.pl < e) : WF s e (f.goOn s e) := (w.next h).ask
theorem WF.st (w : WF s e f) (k : Nat) : WF s e { f with st := k } := w.rowSame rfl rfl rfl
theorem WF.fall (w : WF s e f) (h : f.pl < e) : WF s e (f.fall s e) := (w.st 3).goOn h
theorem WF.eq1 (w : WF s e f) (h : f.pl < e) : WF s e { f with eq := f.eq + 1, pl := f.pl + 1, st := 3 } := by
  obtain ⟨a, b, c, d, g⟩ := w
  exact ⟨by show s < f.pl + 1; omega, h, c, by show f.eq + 1 + s < f.pl + 1; omega, g⟩
theorem WF.take (w : WF s e f) (h : f.pl < e) (b : Bool) : WF s e (f.take s e b) := by
  unfold RF.take
  split
  · unfold RF.take1
    split
    · exact w.goOn h
    · split
      · exact w.fall h
      · exact w.rowSame rfl rfl rfl
  · split
    · unfold RF.take2
      split
      · exact w.finish
      · exact (w.turn (Nat.le_of_lt w.sp)).fall h
    · split
      · unfold RF.take3
        split
        · exact w.turnEq.goOn (by rw [turnEq_pl]; exact h)
        · exact w.rowSame rfl rfl rfl
      · split
        · unfold RF.take4
          split
          · exact w.rise
          · exact (w.eq1 h).ask
        · unfold RF.take5
          split
          · exact w.finish
          · exact w.goOn h
/-- what waits is asked ahead of the end -/
def Ahead (e : Nat) (f : RF) : Prop := f.wt ≠ none → f.pl < e
theorem ahead_fin : Ahead e (f.finish s) := fun h => absurd rfl h
theorem ahead_askUp : Ahead e (f.askUp s e) := by
  unfold RF.askUp
  split
  · rename_i h
    exact fun _ => h
  · exact ahead_fin
theorem ahead_ask : Ahead e (f.ask s e) := by
  unfold RF.ask
  split
  · rename_i h
    exact fun _ => h
  · split
    · exact ahead_askUp
    · exact ahead_fin
theorem ahead_take (h : f.pl < e) (b : Bool) : Ahead e (f.take s e b) := by
  unfold RF.take
  split
  · unfold RF.take1
    split
    · exact ahead_ask
    · split
      · exact ahead_ask
      · exact fun _ => h
  · split
    · unfold RF.take2
      split
      · exact ahead_fin
      · exact ahead_ask
    · split
      · unfold RF.take3
        split
        · exact ahead_ask
        · exact fun _ => h
      · split
        · unfold RF.take4
          split
          · exact ahead_askUp
          · exact ahead_ask
        · unfold RF.take5
          split
          · exact ahead_fin
          · exact ahead_ask
end RF
end L2

namespace L2
open PySem PySem.Spec PyProof.Rows
namespace RF
variable {s e : Nat} {f : RF}
/-! rows stay rows of the same items -/
theorem turned_perm {row : List Nat} {lo hi : Nat} (h : lo ≤ hi) : (turned row lo hi).Perm row := by
  unfold turned
  have e1 : row = row.take lo ++ (row.drop lo).take (hi - lo) ++ row.drop hi := by
    have a1 : row.drop hi = (row.drop lo).drop (hi - lo) := by
      rw [List.drop_drop]
      congr 1
      omega
    rw [a1, List.append_assoc, List.take_append_drop, List.take_append_drop]
  have e2 : (row.take lo ++ ((row.drop lo).take (hi - lo)).reverse ++ row.drop hi).Perm (row.take lo ++ (row.drop lo).take (hi - lo) ++ row.drop hi) :=
    List.Perm.append_right _ (List.Perm.append_left _ (List.reverse_perm _))
  exact e2.trans (by rw [← e1])
theorem turn_perm (lo : Nat) (h : lo ≤ f.pl) : (f.turn lo).row.Perm f.row := turned_perm h
theorem turnEq_perm : f.turnEq.row.Perm f.row := by
  unfold RF.turnEq
  split
  · exact turned_perm (by omega)
  · exact List.Perm.refl _
theorem askUp_row : (f.askUp s e).row = f.row := by
  unfold RF.askUp
  split <;> rfl
theorem rise_perm (w : WF s e f) : (f.rise s e).row.Perm f.row := by
  unfold RF.rise
  rw [askUp_row]
  have w1 := w.turnEq
  exact (turn_perm s (Nat.le_of_lt w1.sp)).trans turnEq_perm
theorem ask_perm (w : WF s e f) : (f.ask s e).row.Perm f.row := by
  unfold RF.ask
  split
  · exact List.Perm.refl _
  · split
    · exact rise_perm w
    · exact List.Perm.refl _
theorem take_perm (w : WF s e f) (h : f.pl < e) (b : Bool) : (f.take s e b).row.Perm f.row := by
  unfold RF.take
  split
  · unfold RF.take1
    split
    · exact ask_perm (w.next h)
    · split
      · exact ask_perm ((w.st 3).next h)
      · exact List.Perm.refl _
  · split
    · unfold RF.take2
      split
      · exact List.Perm.refl _
      · exact (ask_perm (((w.turn (Nat.le_of_lt w.sp)).st 3).next h)).trans (turn_perm s (Nat.le_of_lt w.sp))
    · split
      · unfold RF.take3
        split
        · exact (ask_perm (w.turnEq.next (by rw [turnEq_pl]; exact h))).trans turnEq_perm
        · exact List.Perm.refl _
      · split
        · unfold RF.take4
          split
          · exact rise_perm w
          · exact ask_perm (w.eq1 h)
        · unfold RF.take5
          split
          · exact List.Perm.refl _
          · exact ask_perm (w.next h)
/-! a measure: how many questions may still come -/
def stw (k : Nat) : Nat := if k = 1 then 1 else if k = 3 then 2 else if k = 4 then 1 else 0
theorem stw_le (k : Nat) : stw k ≤ 2 := by
  unfold stw
  split
  · omega
  · split
    · omega
    · split <;> omega
def mu (e : Nat) (f : RF) : Nat := if f.wt = none then 0 else 1 + 3 * (e - f.pl) + stw f.st
theorem mu_le (e : Nat) (f : RF) : mu e f ≤ 1 + 3 * (e - f.pl) + stw f.st := by
  unfold mu
  split <;> omega
theorem mu_fin : mu e (f.finish s) = 0 := rfl
theorem mu_askUp : mu e (f.askUp s e) ≤ 1 + 3 * (e - f.pl) + stw f.st := by
  unfold RF.askUp
  split
  · exact mu_le e _
  · rw [mu_fin]
    omega
theorem rise_pl : (f.turnEq.turn s).pl = f.pl := turnEq_pl f
theorem mu_rise : mu e (f.rise s e) ≤ 1 + 3 * (e - f.pl) := by
  unfold RF.rise
  refine Nat.le_trans mu_askUp ?_
  show 1 + 3 * (e - (f.turnEq.turn s).pl) + 0 ≤ _
  rw [rise_pl]
  omega
theorem mu_ask : mu e (f.ask s e) ≤ 1 + 3 * (e - f.pl) + stw f.st := by
  unfold RF.ask
  split
  · exact mu_le e _
  · split
    · have := mu_rise (s := s) (e := e) (f := f)
      omega
    · rw [mu_fin]
      omega
theorem mu_goOn : mu e (f.goOn s e) ≤ 1 + 3 * (e - (f.pl + 1)) + stw f.st := mu_ask
theorem mu_fall : mu e (f.fall s e) ≤ 1 + 3 * (e - (f.pl + 1)) + 2 := mu_ask
theorem mu_take (hw : f.wt ≠ none) (h : f.pl < e) (b : Bool) : mu e (f.take s e b) < mu e f := by
  have h0 : mu e f = 1 + 3 * (e - f.pl) + stw f.st := by
    unfold mu
    rw [if_neg hw]
  rw [h0]
  unfold RF.take
  split
  · rename_i h1
    rw [show stw f.st = 1 by rw [h1]; rfl]
    unfold RF.take1
    split
    · have := mu_goOn (s := s) (e := e) (f := f)
      rw [show stw f.st = 1 by rw [h1]; rfl] at this
      omega
    · split
      · have := mu_fall (s := s) (e := e) (f := f)
        omega
      · have := mu_le e { f with st := 2, wt := some (f.row.getD s 0, f.row.getD (f.pl - 1) 0) }
        have e2 : stw ({ f with st := 2, wt := some (f.row.getD s 0, f.row.getD (f.pl - 1) 0) } : RF).st = 0 := rfl
        rw [e2] at this
        have e3 : ({ f with st := 2, wt := some (f.row.getD s 0, f.row.getD (f.pl - 1) 0) } : RF).pl = f.pl := rfl
        rw [e3] at this
        omega
  · split
    · rename_i h1
      unfold RF.take2
      split
      · rw [mu_fin]
        omega
      · have := mu_fall (s := s) (e := e) (f := f.turn s)
        have e3 : (f.turn s).pl = f.pl := rfl
        rw [e3] at this
        omega
    · split
      · rename_i h1
        rw [show stw f.st = 2 by rw [h1]; rfl]
        unfold RF.take3
        split
        · have := mu_goOn (s := s) (e := e) (f := f.turnEq)
          rw [turnEq_pl, turnEq_st, show stw f.st = 2 by rw [h1]; rfl] at this
          omega
        · have := mu_le e { f with st := 4, wt := some (f.row.getD (f.pl - 1) 0, f.row.getD f.pl 0) }
          have e2 : stw ({ f with st := 4, wt := some (f.row.getD (f.pl - 1) 0, f.row.getD f.pl 0) } : RF).st = 1 := rfl
          rw [e2] at this
          have e3 : ({ f with st := 4, wt := some (f.row.getD (f.pl - 1) 0, f.row.getD f.pl 0) } : RF).pl = f.pl := rfl
          rw [e3] at this
          omega
      · split
        · rename_i h1
          rw [show stw f.st = 1 by rw [h1]; rfl]
          unfold RF.take4
          split
          · have := mu_rise (s := s) (e := e) (f := f)
            omega
          · have := mu_goOn (s := s) (e := e) (f := { f with eq := f.eq + 1, st := 3 })
            have e2 : stw ({ f with eq := f.eq + 1, st := 3 } : RF).st = 2 := rfl
            rw [e2] at this
            have e3 : ({ f with eq := f.eq + 1, st := 3 } : RF).pl = f.pl := rfl
            rw [e3] at this
            omega
        · unfold RF.take5
          split
          · rw [mu_fin]
            omega
          · have := mu_goOn (s := s) (e := e) (f := f)
            omega
/-! what waits are two items of the row -/
def Two (f : RF) : Prop := ∀ q, f.wt = some q → ∃ k l, q = (f.row.getD k 0, f.row.getD l 0) ∧ k < f.row.length ∧ l < f.row.length ∧ k ≠ l
theorem two_none (h : f.wt = none) : Two f := fun q e => by rw [h] at e; cases e
theorem two_mk {f : RF} {k l : Nat} (h : f.wt = some (f.row.getD k 0, f.row.getD l 0)) (h1 : k < f.row.length) (h2 : l < f.row.length) (h3 : k ≠ l) : Two f := fun q e => by
  rw [h] at e
  exact ⟨k, l, (Option.some.inj e).symm, h1, h2, h3⟩
theorem two_up {f' : RF} (a : 0 < f'.pl) (c : e ≤ f'.row.length) : Two (f'.askUp s e) := by
  unfold RF.askUp
  split
  · rename_i h
    exact two_mk (k := f'.pl) (l := f'.pl - 1) rfl (by show f'.pl < f'.row.length; omega) (by show f'.pl - 1 < f'.row.length; omega) (by omega)
  · exact two_none rfl
theorem two_rise (w : WF s e f) : Two (f.rise s e) := by
  have w2 := w.pre5
  exact two_up (Nat.lt_of_le_of_lt (Nat.zero_le _) w2.sp) w2.er
theorem two_ask (w : WF s e f) : Two (f.ask s e) := by
  have := w.sp; have := w.er
  unfold RF.ask
  split
  · rename_i h
    exact two_mk (k := f.pl) (l := f.pl - 1) rfl (by show f.pl < f.row.length; omega) (by show f.pl - 1 < f.row.length; omega) (by omega)
  · split
    · exact two_rise w
    · exact two_none rfl
theorem two_take (w : WF s e f) (h : f.pl < e) (b : Bool) : Two (f.take s e b) := by
  have b1 := w.sp; have b2 := w.er
  unfold RF.take
  split
  · unfold RF.take1
    split
    · exact two_ask (w.next h)
    · split
      · exact two_ask ((w.st 3).next h)
      · exact two_mk (k := s) (l := f.pl - 1) rfl (by show s < f.row.length; omega) (by show f.pl - 1 < f.row.length; omega) (by omega)
  · split
    · unfold RF.take2
      split
      · exact two_none rfl
      · exact two_ask (((w.turn (Nat.le_of_lt w.sp)).st 3).next h)
    · split
      · unfold RF.take3
        split
        · exact two_ask (w.turnEq.next (by rw [turnEq_pl]; exact h))
        · exact two_mk (k := f.pl - 1) (l := f.pl) rfl (by show f.pl - 1 < f.row.length; omega) (by show f.pl < f.row.length; omega) (by omega)
      · split
        · unfold RF.take4
          split
          · exact two_rise w
          · exact two_ask (w.eq1 h)
        · unfold RF.take5
          split
          · exact two_none rfl
          · exact two_ask (w.next h)
/-! the length is there when nothing waits -/
def Len (s : Nat) (f : RF) : Prop := (f.wt = none → f.ln = some (f.pl - s)) ∧ (f.wt ≠ none → f.ln = none)
theorem len_fin : Len s (f.finish s) := ⟨fun _ => rfl, fun h => absurd rfl h⟩
theorem len_some {f : RF} {q : Nat × Nat} (h : f.wt = some q) (h2 : f.ln = none) : Len s f := ⟨fun e => (by rw [h] at e; cases e), fun _ => h2⟩
theorem turnEq_ln (f : RF) : f.turnEq.ln = f.ln := by
  unfold RF.turnEq
  split <;> rfl
theorem len_up {f' : RF} (h : f'.ln = none) : Len s (f'.askUp s e) := by
  unfold RF.askUp
  split
  · exact len_some rfl h
  · exact len_fin
theorem len_rise (h : f.ln = none) : Len s (f.rise s e) := len_up (by show f.turnEq.ln = none; rw [turnEq_ln]; exact h)
theorem len_ask {f : RF} (h : f.ln = none) : Len s (f.ask s e) := by
  unfold RF.ask
  split
  · exact len_some rfl h
  · split
    · exact len_rise h
    · exact len_fin
theorem len_take (h : f.ln = none) (b : Bool) : Len s (f.take s e b) := by
  unfold RF.take
  split
  · unfold RF.take1
    split
    · exact len_ask h
    · split
      · exact len_ask h
      · exact len_some rfl h
  · split
    · unfold RF.take2
      split
      · exact len_fin
      · exact len_ask h
    · split
      · unfold RF.take3
        split
        · exact len_ask (by show f.turnEq.ln = none; rw [turnEq_ln]; exact h)
        · exact len_some rfl h
      · split
        · unfold RF.take4
          split
          · exact len_rise h
          · exact len_ask h
        · unfold RF.take5
          split
          · exact len_fin
          · exact len_ask h
/-! all that holds while a run is found -/
structure Good (s e : Nat) (row0 : List Nat) (f : RF) : Prop where
  wf : WF s e f
  ah : Ahead e f
  pm : f.row.Perm row0
  tw : Two f
  le : Len s f
/-- an item of a row of all n -/
theorem item_lt {row row0 : List Nat} {n k : Nat} (h : row.Perm row0) (h0 : row0.Perm (List.range n)) (hk : k < row.length) : row.getD k 0 < n := by
  refine List.mem_range.mp ((h.trans h0).mem_iff.mp ?_)
  rw [List.getD_eq_getElem?_getD, List.getElem?_eq_getElem hk]
  exact List.getElem_mem hk
theorem Good.items {row0 : List Nat} {n : Nat} (g : Good s e row0 f) (h0 : row0.Perm (List.range n)) {q : Nat × Nat} (h : f.wt = some q) : q.1 < n ∧ q.2 < n ∧ q.1 ≠ q.2 := by
  obtain ⟨k, l, rfl, h1, h2, h3⟩ := g.tw q h
  refine ⟨item_lt g.pm h0 h1, item_lt g.pm h0 h2, fun e => h3 ?_⟩
  have nd : f.row.Nodup := (g.pm.trans h0).nodup_iff.mpr List.nodup_range
  have e2 : f.row.getD k 0 = f.row.getD l 0 := e
  rw [List.getD_eq_getElem?_getD, List.getD_eq_getElem?_getD, List.getElem?_eq_getElem h1, List.getElem?_eq_getElem h2] at e2
  exact (List.getElem_inj nd).mp e2
theorem Good.take {row0 : List Nat} (g : Good s e row0 f) (h : f.wt ≠ none) (b : Bool) : Good s e row0 (f.take s e b) :=
  ⟨g.wf.take (g.ah h) b, ahead_take (g.ah h) b, (take_perm g.wf (g.ah h) b).trans g.pm, two_take g.wf (g.ah h) b, len_take (g.le.2 h) b⟩
theorem Good.init {row : List Nat} (h1 : s < e) (h2 : e ≤ row.length) (h3 : row.length ≤ 2000) : Good s e row (RF.init row s e) := by
  have w : WF s e { row := row, pl := s + 1, eq := 0, st := 1, wt := none, ln := none } := ⟨by show s < s + 1; omega, by show s + 1 ≤ e; omega, h2, by show 0 + s < s + 1; omega, h3⟩
  exact ⟨w.ask, ahead_ask, ask_perm w, two_ask w, len_ask rfl⟩
/-- one question more, answered as ls says -/
def stp (ls : Nat × Nat → Bool) (s e : Nat) (f : RF) : RF := match f.wt with
  | none => f
  | some q => f.take s e (ls q)
def stps (ls : Nat × Nat → Bool) (s e : Nat) (f : RF) : Nat → RF
  | 0 => f
  | n + 1 => stp ls s e (stps ls s e f n)
theorem Good.stp {row0 : List Nat} (ls : Nat × Nat → Bool) (g : Good s e row0 f) : Good s e row0 (f.stp ls s e) := by
  unfold RF.stp
  split
  · exact g
  · rename_i q h
    exact g.take (by rw [h]; exact Option.some_ne_none _) _
theorem Good.stps {row0 : List Nat} (ls : Nat × Nat → Bool) (g : Good s e row0 f) : ∀ n, Good s e row0 (f.stps ls s e n)
  | 0 => g
  | n + 1 => (Good.stps ls g n).stp ls
theorem stps_next {ls : Nat × Nat → Bool} {n : Nat} {q : Nat × Nat} (h : (f.stps ls s e n).wt = some q) : f.stps ls s e (n + 1) = (f.stps ls s e n).take s e (ls q) := by
  show RF.stp ls s e (f.stps ls s e n) = _
  unfold RF.stp
  rw [h]
theorem stps_end {ls : Nat × Nat → Bool} {n : Nat} (h : (f.stps ls s e n).wt = none) : f.stps ls s e (n + 1) = f.stps ls s e n := by
  show RF.stp ls s e (f.stps ls s e n) = _
  unfold RF.stp
  rw [h]
theorem stps_stay {ls : Nat × Nat → Bool} {n : Nat} (h : (f.stps ls s e n).wt = none) : ∀ k, f.stps ls s e (n + k) = f.stps ls s e n
  | 0 => rfl
  | k + 1 => by
    have ih := stps_stay h k
    show RF.stps ls s e f ((n + k) + 1) = _
    rw [stps_end (by rw [ih]; exact h), ih]
/-- the first n questions -/
def asks (ls : Nat × Nat → Bool) (s e : Nat) (f : RF) (n : Nat) : List (Nat × Nat) := (List.range n).map fun i => ((f.stps ls s e i).wt).getD (0, 0)
theorem asks_len (ls : Nat × Nat → Bool) (n : Nat) : (f.asks ls s e n).length = n := by
  unfold asks
  rw [List.length_map, List.length_range]
theorem asks_next {ls : Nat × Nat → Bool} {n : Nat} {q : Nat × Nat} (h : (f.stps ls s e n).wt = some q) : f.asks ls s e (n + 1) = f.asks ls s e n ++ [q] := by
  unfold asks
  rw [List.range_succ, List.map_append, List.map_singleton, h]
  rfl
theorem asks_at {ls : Nat × Nat → Bool} {n i : Nat} (h : i < n) : (f.asks ls s e n)[i]? = some (((f.stps ls s e i).wt).getD (0, 0)) := by
  unfold asks
  rw [List.getElem?_map, List.getElem?_range h]
  rfl
end RF
/-- by the keys -/
def less (ns : List Int) (q : Nat × Nat) : Bool := decide (ns.getD q.1 0 < ns.getD q.2 0)
/-- questions, tuples of two items each, in a list -/
def PairAt (H : Hp) (v : V) (q : Nat × Nat) : Prop := ∃ t, v = .ref t ∧ H t = some (.tup [.int (q.1 : Int), .int (q.2 : Int)])
def QAt (H : Hp) (l : Addr) (qs : List (Nat × Nat)) : Prop := ∃ ts : List V, H l = some (.lst ts) ∧ ts.length = qs.length ∧ ∀ (i : Nat) (v : V) (q : Nat × Nat), ts[i]? = some v → qs[i]? = some q → PairAt H v q
theorem PairAt.keep {H H' : Hp} {v : V} {q : Nat × Nat} (h : PairAt H v q) (k : ∀ t i j, H t = some (.tup [.int i, .int j]) → H' t = some (.tup [.int i, .int j])) : PairAt H' v q := by
  obtain ⟨t, e, g⟩ := h
  exact ⟨t, e, k _ _ _ g⟩
theorem QAt.keep {H H' : Hp} {l : Addr} {qs : List (Nat × Nat)} (h : QAt H l qs) (kl : ∀ x, H l = some x → H' l = some x) (k : ∀ t i j, H t = some (.tup [.int i, .int j]) → H' t = some (.tup [.int i, .int j])) : QAt H' l qs := by
  obtain ⟨ts, g, n, a⟩ := h
  exact ⟨ts, kl _ g, n, fun i v q h1 h2 => (a i v q h1 h2).keep k⟩
theorem QAt.same {H H' : Hp} {l : Addr} {qs : List (Nat × Nat)} (h : QAt H l qs) (k : Same H H') : QAt H' l qs := h.keep (fun _ => k _ _) (fun _ _ _ => k _ _)
theorem QAt.nil {H : Hp} {l : Addr} (h : H l = some (.lst [])) : QAt H l [] := ⟨[], h, rfl, fun i v q h1 => by simp at h1⟩
theorem QAt.push {H : Hp} {l : Addr} {qs : List (Nat × Nat)} {ts : List V} (h : H l = some (.lst ts)) (hq : QAt H l qs) {v : V} {q : Nat × Nat} (hv : PairAt H v q) : QAt (upd H l (.lst (ts ++ [v]))) l (qs ++ [q]) := by
  obtain ⟨ts', g, n, a⟩ := hq
  rw [h] at g
  cases g
  have k : ∀ t i j, H t = some (.tup [.int i, .int j]) → upd H l (.lst (ts ++ [v])) t = some (.tup [.int i, .int j]) := fun t i j ht => by
    rw [upd_ne (ne_of ht h (fun e => by cases e))]
    exact ht
  refine ⟨ts ++ [v], upd_same, by simp [n], fun i v' q' h1 h2 => ?_⟩
  by_cases hi : i < ts.length
  · rw [List.getElem?_append_left hi] at h1
    rw [List.getElem?_append_left (by omega)] at h2
    exact (a i v' q' h1 h2).keep k
  · rw [List.getElem?_append_right (by omega)] at h1
    rw [List.getElem?_append_right (by omega)] at h2
    have e0 : i - ts.length = 0 := by
      cases e1 : i - ts.length with
      | zero => rfl
      | succ m =>
        rw [e1] at h1
        simp at h1
    have e0' : i - qs.length = 0 := by omega
    rw [e0] at h1
    rw [e0'] at h2
    cases h1
    cases h2
    exact hv.keep k
end L2

namespace L2
open PySem PySem.Spec PyProof.Rows
/-! ### the law's own walk -/
structure WS where
  row : List Nat
  pl : Nat
  eq : Nat
  st : Nat
namespace WS
def fallRow (w : WS) : List Nat := RF.turned (if 0 < w.eq then RF.turned w.row (w.pl - w.eq - 1) w.pl else w.row) 0 w.pl
def fall (w : WS) : WS := { w with row := fallRow w }
def ans (b : Bool) (w : WS) : WS :=
  if w.st = 1 ∧ b = true then { w with st := if 1 < w.pl then 2 else 3, pl := w.pl + (if w.pl = 1 then 1 else 0) }
  else if w.st = 2 ∧ b = true then { w with st := 0 }
  else if w.st = 2 then { w with row := RF.turned w.row 0 w.pl, st := 3, pl := w.pl + 1 }
  else if w.st = 3 ∧ b = true then { w with row := if 0 < w.eq then RF.turned w.row (w.pl - w.eq - 1) w.pl else w.row, eq := 0, pl := w.pl + 1 }
  else if w.st = 3 then { w with st := 4 }
  else if w.st = 4 ∧ b = true then { w with row := fallRow w, st := 5 }
  else if w.st = 4 then { w with st := 3, eq := w.eq + 1, pl := w.pl + 1 }
  else if b = true then { w with st := 0 }
  else { w with pl := w.pl + 1 }
def lk (size : Nat) (w : WS) : Option (Nat × Nat) :=
  if w.st = 2 then some (w.row.getD 0 0, w.row.getD (w.pl - 1) 0)
  else if w.st = 4 then some (w.row.getD (w.pl - 1) 0, w.row.getD w.pl 0)
  else if w.pl < size then some (w.row.getD w.pl 0, w.row.getD (w.pl - 1) 0) else none
/-- the walk's state behind a look that finds no question -/
def past (size : Nat) (w : WS) : WS := if w.st = 3 then { w with row := fallRow w, st := 5 } else { w with st := 0 }
/-- how the walk stands to the finder: 3 a question waits, 2 and 1 and 0 the end is told in so many turns -/
def At (size : Nat) (w : WS) (f : RF) : Nat → Prop
  | 3 => ∃ q, f.wt = some q ∧ w.row = f.row ∧ w.pl = f.pl ∧ w.st = f.st ∧ 1 ≤ w.st ∧ w.st ≤ 5 ∧ (w.st ≠ 5 → w.eq = f.eq) ∧ lk size w = some q
  | 2 => f.wt = none ∧ w.st = 3 ∧ size ≤ w.pl ∧ w.pl = f.pl ∧ fallRow w = f.row
  | 1 => f.wt = none ∧ (w.st = 1 ∨ w.st = 5) ∧ size ≤ w.pl ∧ w.pl = f.pl ∧ w.row = f.row
  | 0 => f.wt = none ∧ w.st = 0 ∧ w.pl = f.pl ∧ w.row = f.row
  | _ => False
theorem at_ask {size : Nat} {w : WS} {f : RF} (h1 : w.row = f.row) (h2 : w.pl = f.pl) (h3 : w.st = f.st) (h4 : w.st = 1 ∨ w.st = 3 ∨ w.st = 5) (h5 : w.st ≠ 5 → w.eq = f.eq) : ∃ t, t ≤ 3 ∧ At size w (f.ask 0 size) t := by
  unfold RF.ask
  by_cases hp : f.pl < size
  · rw [if_pos hp]
    refine ⟨3, Nat.le_refl _, _, rfl, h1, h2, h3, by omega, by omega, h5, ?_⟩
    unfold lk
    rw [if_neg (by omega), if_neg (by omega), if_pos (by omega), h1, h2]
  · rw [if_neg hp]
    by_cases h : f.st = 3
    · rw [if_pos h]
      have e1 : f.rise 0 size = RF.finish 0 { (f.turnEq.turn 0 : RF) with st := 5 } := by
        unfold RF.rise RF.askUp
        rw [if_neg (by show ¬ f.turnEq.pl < size; rw [RF.turnEq_pl]; exact hp)]
      rw [e1]
      refine ⟨2, by omega, rfl, by omega, by omega, ?_, ?_⟩
      · show w.pl = f.turnEq.pl
        rw [RF.turnEq_pl, h2]
      · show fallRow w = RF.turned f.turnEq.row 0 f.turnEq.pl
        rw [RF.turnEq_pl]
        unfold fallRow RF.turnEq
        rw [h1, h2, h5 (by omega)]
        by_cases h0 : 0 < f.eq
        · rw [if_pos h0, if_pos h0]
          rfl
        · rw [if_neg h0, if_neg h0]
    · rw [if_neg h]
      exact ⟨1, by omega, rfl, by omega, by omega, h2, h1⟩
theorem at_ans {size : Nat} {w : WS} {f : RF} (hf : 0 < f.pl) (h : At size w f 3) (b : Bool) : ∃ t, t ≤ 3 ∧ At size (w.ans b) (f.take 0 size b) t := by
  obtain ⟨q, hq, h1, h2, h3, h4, h5, h6, h7⟩ := h
  unfold ans RF.take
  by_cases s1 : w.st = 1
  · rw [if_pos (show f.st = 1 by omega)]
    unfold RF.take1
    cases b with
    | false =>
      rw [if_neg (by simp), if_neg (by simp), if_neg (by omega), if_neg (by simp), if_neg (by omega), if_neg (by simp), if_neg (by omega), if_neg (by simp), if_pos rfl]
      exact at_ask (w := { w with pl := w.pl + 1 }) (f := { f with pl := f.pl + 1 }) h1 (by show w.pl + 1 = f.pl + 1; omega) h3 (.inl s1) h6
    | true =>
      rw [if_pos ⟨s1, rfl⟩, if_neg (show ¬ (true = false) by decide)]
      by_cases hp : f.pl = 0 + 1
      · rw [if_pos hp, if_neg (show ¬ 1 < w.pl by omega), if_pos (show w.pl = 1 by omega)]
        exact at_ask (w := { w with st := 3, pl := w.pl + 1 }) (f := { f with st := 3, pl := f.pl + 1 }) h1 (by show w.pl + 1 = f.pl + 1; omega) rfl (.inr (.inl rfl)) (fun _ => h6 (by omega))
      · rw [if_neg hp, if_pos (show 1 < w.pl by omega), if_neg (show ¬ w.pl = 1 by omega)]
        refine ⟨3, Nat.le_refl _, _, rfl, h1, h2, rfl, by show 1 ≤ 2; omega, by show 2 ≤ 5; omega, fun _ => h6 (by omega), ?_⟩
        unfold lk
        rw [if_pos rfl, h1, Nat.add_zero, h2]
  rw [if_neg (fun e => s1 e.1), if_neg (show ¬ f.st = 1 by omega)]
  by_cases s2 : w.st = 2
  · rw [if_pos (show f.st = 2 by omega)]
    unfold RF.take2
    cases b with
    | true =>
      rw [if_pos ⟨s2, rfl⟩, if_pos rfl]
      exact ⟨0, by omega, rfl, rfl, h2, h1⟩
    | false =>
      rw [if_neg (by simp), if_pos s2, if_neg (by simp)]
      exact at_ask (w := { w with row := RF.turned w.row 0 w.pl, st := 3, pl := w.pl + 1 }) (f := { (f.turn 0 : RF) with st := 3, pl := (f.turn 0).pl + 1 }) (by show RF.turned w.row 0 w.pl = RF.turned f.row 0 f.pl; rw [h1, h2]) (by show w.pl + 1 = f.pl + 1; omega) rfl (.inr (.inl rfl)) (fun _ => h6 (by omega))
  rw [if_neg (fun e => s2 e.1), if_neg s2, if_neg (show ¬ f.st = 2 by omega)]
  by_cases s3 : w.st = 3
  · rw [if_pos (show f.st = 3 by omega)]
    unfold RF.take3
    cases b with
    | true =>
      rw [if_pos ⟨s3, rfl⟩, if_pos rfl]
      refine at_ask (w := { w with row := if 0 < w.eq then RF.turned w.row (w.pl - w.eq - 1) w.pl else w.row, eq := 0, pl := w.pl + 1 }) (f := { (f.turnEq : RF) with pl := f.turnEq.pl + 1 }) ?_ (by show w.pl + 1 = f.turnEq.pl + 1; rw [RF.turnEq_pl, h2]) (by show w.st = f.turnEq.st; rw [RF.turnEq_st, h3]) (.inr (.inl s3)) (fun _ => ?_)
      · show (if 0 < w.eq then RF.turned w.row (w.pl - w.eq - 1) w.pl else w.row) = f.turnEq.row
        unfold RF.turnEq
        rw [h1, h2, h6 (by omega)]
        by_cases h0 : 0 < f.eq
        · rw [if_pos h0, if_pos h0]
          rfl
        · rw [if_neg h0, if_neg h0]
      · show 0 = f.turnEq.eq
        unfold RF.turnEq
        by_cases h0 : 0 < f.eq
        · rw [if_pos h0]
        · rw [if_neg h0]
          omega
    | false =>
      rw [if_neg (by simp), if_pos s3, if_neg (by simp)]
      refine ⟨3, Nat.le_refl _, _, rfl, h1, h2, rfl, by show 1 ≤ 4; omega, by show 4 ≤ 5; omega, fun _ => h6 (by omega), ?_⟩
      unfold lk
      rw [if_neg (by show ¬ 4 = 2; decide), if_pos rfl, h1, h2]
  rw [if_neg (fun e => s3 e.1), if_neg s3, if_neg (show ¬ f.st = 3 by omega)]
  by_cases s4 : w.st = 4
  · rw [if_pos (show f.st = 4 by omega)]
    unfold RF.take4
    cases b with
    | true =>
      rw [if_pos ⟨s4, rfl⟩, if_pos rfl]
      have e1 : f.rise 0 size = RF.ask 0 size { (f.turnEq.turn 0 : RF) with st := 5 } := by
        unfold RF.rise RF.askUp RF.ask
        rw [if_neg (show ¬ ({ (f.turnEq.turn 0 : RF) with st := 5 } : RF).st = 3 by show ¬ 5 = 3; decide)]
      rw [e1]
      refine at_ask (w := { w with row := fallRow w, st := 5 }) (f := { (f.turnEq.turn 0 : RF) with st := 5 }) ?_ (by show w.pl = f.turnEq.pl; rw [RF.turnEq_pl, h2]) rfl (.inr (.inr rfl)) (fun e => absurd rfl e)
      show fallRow w = RF.turned f.turnEq.row 0 f.turnEq.pl
      rw [RF.turnEq_pl]
      unfold fallRow RF.turnEq
      rw [h1, h2, h6 (by omega)]
      by_cases h0 : 0 < f.eq
      · rw [if_pos h0, if_pos h0]
        rfl
      · rw [if_neg h0, if_neg h0]
    | false =>
      rw [if_neg (by simp), if_pos s4, if_neg (by simp)]
      exact at_ask (w := { w with st := 3, eq := w.eq + 1, pl := w.pl + 1 }) (f := { f with eq := f.eq + 1, st := 3, pl := f.pl + 1 }) h1 (by show w.pl + 1 = f.pl + 1; omega) rfl (.inr (.inl rfl)) (fun _ => by show w.eq + 1 = f.eq + 1; rw [h6 (by omega)])
  rw [if_neg (fun e => s4 e.1), if_neg s4, if_neg (show ¬ f.st = 4 by omega)]
  unfold RF.take5
  cases b with
  | true =>
    rw [if_pos rfl, if_pos rfl]
    exact ⟨0, by omega, rfl, rfl, h2, h1⟩
  | false =>
    rw [if_neg (by simp), if_neg (by simp)]
    exact at_ask (w := { w with pl := w.pl + 1 }) (f := { f with pl := f.pl + 1 }) h1 (by show w.pl + 1 = f.pl + 1; omega) h3 (.inr (.inr (by show w.st = 5; omega))) h6
/-- what the walk keeps between its steps -/
structure Ok (w : WS) : Prop where
  p1 : 0 < w.pl
  pl : w.pl ≤ w.row.length
  eq : w.eq < w.pl
  rl : w.row.length ≤ 2000
theorem fallRow_len {w : WS} (o : Ok w) : (fallRow w).length = w.row.length := by
  have := o.pl; have := o.eq
  unfold fallRow
  by_cases h0 : 0 < w.eq
  · rw [if_pos h0]
    have l1 : (RF.turned w.row (w.pl - w.eq - 1) w.pl).length = w.row.length := RF.turned_len (by omega) o.pl
    rw [RF.turned_len (Nat.zero_le _) (by omega), l1]
  · rw [if_neg h0]
    exact RF.turned_len (Nat.zero_le _) o.pl
theorem Ok.past {w : WS} (o : Ok w) (size : Nat) : Ok (past size w) ∧ (WS.past size w).row.length = w.row.length := by
  obtain ⟨a, b, c, d⟩ := id o
  unfold WS.past
  split
  · have l := fallRow_len o
    exact ⟨⟨a, by show w.pl ≤ (fallRow w).length; omega, c, by show (fallRow w).length ≤ 2000; omega⟩, l⟩
  · exact ⟨⟨a, b, c, d⟩, rfl⟩
theorem Ok.ans {w : WS} (o : Ok w) (h : w.pl < w.row.length) (b : Bool) : Ok (w.ans b) ∧ (w.ans b).row.length = w.row.length := by
  obtain ⟨p1, p2, p3, p4⟩ := id o
  have lf := fallRow_len o
  have l0 : (RF.turned w.row 0 w.pl).length = w.row.length := RF.turned_len (Nat.zero_le _) p2
  have l1 : (if 0 < w.eq then RF.turned w.row (w.pl - w.eq - 1) w.pl else w.row).length = w.row.length := by
    split
    · exact RF.turned_len (by omega) p2
    · rfl
  unfold WS.ans
  split
  · refine ⟨⟨?_, ?_, ?_, p4⟩, rfl⟩
    · show 0 < w.pl + _
      omega
    · show w.pl + (if w.pl = 1 then 1 else 0) ≤ w.row.length
      split <;> omega
    · show w.eq < w.pl + _
      omega
  split
  · exact ⟨⟨p1, p2, p3, p4⟩, rfl⟩
  split
  · exact ⟨⟨by show 0 < w.pl + 1; omega, by show w.pl + 1 ≤ (RF.turned w.row 0 w.pl).length; omega, by show w.eq < w.pl + 1; omega, by show (RF.turned w.row 0 w.pl).length ≤ 2000; omega⟩, l0⟩
  split
  · exact ⟨⟨by show 0 < w.pl + 1; omega, by show w.pl + 1 ≤ (if 0 < w.eq then RF.turned w.row (w.pl - w.eq - 1) w.pl else w.row).length; omega, by show 0 < w.pl + 1; omega, by show (if 0 < w.eq then RF.turned w.row (w.pl - w.eq - 1) w.pl else w.row).length ≤ 2000; omega⟩, l1⟩
  split
  · exact ⟨⟨p1, p2, p3, p4⟩, rfl⟩
  split
  · exact ⟨⟨p1, by show w.pl ≤ (fallRow w).length; omega, p3, by show (fallRow w).length ≤ 2000; omega⟩, lf⟩
  split
  · exact ⟨⟨by show 0 < w.pl + 1; omega, by show w.pl + 1 ≤ w.row.length; omega, by show w.eq + 1 < w.pl + 1; omega, p4⟩, rfl⟩
  split
  · exact ⟨⟨p1, p2, p3, p4⟩, rfl⟩
  · exact ⟨⟨by show 0 < w.pl + 1; omega, by show w.pl + 1 ≤ w.row.length; omega, by show w.eq < w.pl + 1; omega, p4⟩, rfl⟩
end WS
namespace RF
/-- told the answers bs one after another -/
def fed (size : Nat) (bs : List Bool) : Nat → RF
  | 0 => RF.init (List.range size) 0 size
  | k + 1 => match (fed size bs k).wt with
    | none => fed size bs k
    | some _ => (fed size bs k).take 0 size (bs.getD k false)
theorem fed_next {size : Nat} {bs : List Bool} {k : Nat} {q : Nat × Nat} (h : (fed size bs k).wt = some q) : fed size bs (k + 1) = (fed size bs k).take 0 size (bs.getD k false) := by
  show (match (fed size bs k).wt with
    | none => fed size bs k
    | some _ => (fed size bs k).take 0 size (bs.getD k false)) = _
  rw [h]
theorem fed_end {size : Nat} {bs : List Bool} {k : Nat} (h : (fed size bs k).wt = none) : fed size bs (k + 1) = fed size bs k := by
  show (match (fed size bs k).wt with
    | none => fed size bs k
    | some _ => (fed size bs k).take 0 size (bs.getD k false)) = _
  rw [h]
theorem fed_stay {size : Nat} {bs : List Bool} {n : Nat} (h : (fed size bs n).wt = none) : ∀ k, fed size bs (n + k) = fed size bs n
  | 0 => rfl
  | k + 1 => by
    have ih := fed_stay h k
    show fed size bs ((n + k) + 1) = _
    rw [fed_end (by rw [ih]; exact h), ih]
theorem fed_good {size : Nat} (h1 : 0 < size) (h2 : size ≤ 2000) (bs : List Bool) : ∀ k, Good 0 size (List.range size) (fed size bs k)
  | 0 => Good.init h1 (by rw [List.length_range]; exact Nat.le_refl _) (by rw [List.length_range]; exact h2)
  | k + 1 => by
    have ih := fed_good h1 h2 bs k
    cases h : (fed size bs k).wt with
    | none => rw [fed_end h]; exact ih
    | some q => rw [fed_next h]; exact ih.take (by rw [h]; exact Option.some_ne_none _) _
def askB (size : Nat) (bs : List Bool) (n : Nat) : List (Nat × Nat) := (List.range n).map fun i => ((fed size bs i).wt).getD (0, 0)
theorem askB_len (size : Nat) (bs : List Bool) (n : Nat) : (askB size bs n).length = n := by
  unfold askB
  rw [List.length_map, List.length_range]
theorem askB_next {size : Nat} {bs : List Bool} {n : Nat} {q : Nat × Nat} (h : (fed size bs n).wt = some q) : askB size bs (n + 1) = askB size bs n ++ [q] := by
  unfold askB
  rw [List.range_succ, List.map_append, List.map_singleton, h]
  rfl
end RF
theorem QAt.ne {H : Hp} {l r : Addr} {qs : List (Nat × Nat)} {row : List Nat} (h : QAt H l qs) (hr : H r = some (.lst (nV row))) (n : row ≠ []) : r ≠ l := by
  intro e
  obtain ⟨ts, h1, h2, h3⟩ := h
  rw [← e, hr] at h1
  cases row with
  | nil => exact n rfl
  | cons x rest =>
    have e2 : ts = nV (x :: rest) := (HO.lst.inj (Option.some.inj h1)).symm
    cases qs with
    | nil => rw [e2] at h2; cases h2
    | cons q qs =>
      obtain ⟨t, e3, _⟩ := h3 0 (.int (x : Int)) q (by rw [e2]; rfl) rfl
      cases e3
end L2

namespace L2
open PySem PySem.Spec PyProof.Rows
namespace RF
/-! ### a run at s is a run at 0, moved by s -/
def shRow (s : Nat) (row : List Nat) : List Nat := List.range s ++ row.map (fun i => s + i)
def sh (s : Nat) (g : RF) : RF := { row := shRow s g.row, pl := s + g.pl, eq := g.eq, st := g.st, wt := g.wt.map (fun q => (s + q.1, s + q.2)), ln := g.ln }
variable {s size : Nat} {g : RF}
theorem shRow_len (s : Nat) (row : List Nat) : (shRow s row).length = s + row.length := by
  unfold shRow
  rw [List.length_append, List.length_range, List.length_map]
theorem shRow_range (s n : Nat) : shRow s (List.range n) = List.range (s + n) := by
  unfold shRow
  rw [List.range_add]
theorem turned_sh (s lo hi : Nat) (row : List Nat) : turned (shRow s row) (s + lo) (s + hi) = shRow s (turned row lo hi) := by
  unfold turned shRow
  have l : (List.range s).length = s := List.length_range
  have e1 : (List.range s ++ row.map (fun i => s + i)).take (s + lo) = List.range s ++ (row.take lo).map (fun i => s + i) := by
    rw [List.take_append, List.take_of_length_le (by omega), l, Nat.add_sub_cancel_left, List.map_take]
  have e2 : ∀ k, (List.range s ++ row.map (fun i => s + i)).drop (s + k) = (row.drop k).map (fun i => s + i) := fun k => by
    rw [List.drop_append, List.drop_of_length_le (by omega), l, Nat.add_sub_cancel_left, List.map_drop]
    rfl
  rw [e1, e2, e2, show s + hi - (s + lo) = hi - lo by omega]
  simp only [List.map_append, List.map_reverse, List.map_take, List.append_assoc]
theorem getD_sh {row : List Nat} {k : Nat} (h : k < row.length) : (shRow s row).getD (s + k) 0 = s + row.getD k 0 := by
  unfold shRow
  rw [List.getD_eq_getElem?_getD, List.getD_eq_getElem?_getD, List.getElem?_append_right (by rw [List.length_range]; omega), List.length_range, Nat.add_sub_cancel_left, List.getElem?_map, List.getElem?_eq_getElem h]
  rfl
theorem ext {f g : RF} (h1 : f.row = g.row) (h2 : f.pl = g.pl) (h3 : f.eq = g.eq) (h4 : f.st = g.st) (h5 : f.wt = g.wt) (h6 : f.ln = g.ln) : f = g := by
  cases f
  cases g
  cases h1
  cases h2
  cases h3
  cases h4
  cases h5
  cases h6
  rfl
theorem sh_turn (lo : Nat) : (sh s g).turn (s + lo) = sh s (g.turn lo) := ext (turned_sh s lo g.pl g.row) rfl rfl rfl rfl rfl
theorem sh_turnEq (w : WF 0 size g) : (sh s g).turnEq = sh s g.turnEq := by
  unfold RF.turnEq
  by_cases h : 0 < g.eq
  · have := w.eq
    rw [if_pos h, if_pos (show 0 < (sh s g).eq from h)]
    have e : (sh s g).pl - (sh s g).eq - 1 = s + (g.pl - g.eq - 1) := by show s + g.pl - g.eq - 1 = _; omega
    rw [e, sh_turn]
    rfl
  · rw [if_neg h, if_neg (show ¬ 0 < (sh s g).eq from h)]
theorem sh_fin : (sh s g).finish s = sh s (g.finish 0) := ext rfl rfl rfl rfl rfl (by show some (s + g.pl - s) = some (g.pl - 0); rw [Nat.add_sub_cancel_left]; rfl)
theorem sh_w {g' : RF} {k l : Nat} (h1 : k < g'.row.length) (h2 : l < g'.row.length) : ({ sh s g' with wt := some ((sh s g').row.getD (s + k) 0, (sh s g').row.getD (s + l) 0) } : RF) = sh s { g' with wt := some (g'.row.getD k 0, g'.row.getD l 0) } := by
  refine ext rfl rfl rfl rfl ?_ rfl
  show some ((shRow s g'.row).getD (s + k) 0, (shRow s g'.row).getD (s + l) 0) = some (s + g'.row.getD k 0, s + g'.row.getD l 0)
  rw [getD_sh h1, getD_sh h2]
theorem sh_up {g' : RF} (a : 0 < g'.pl) (c : size ≤ g'.row.length) : (sh s g').askUp s (s + size) = sh s (g'.askUp 0 size) := by
  unfold RF.askUp
  by_cases h : g'.pl < size
  · rw [if_pos h, if_pos (show (sh s g').pl < s + size by show s + g'.pl < s + size; omega)]
    have e : (sh s g').pl - 1 = s + (g'.pl - 1) := by show s + g'.pl - 1 = _; omega
    rw [e]
    exact sh_w (by omega) (by omega)
  · rw [if_neg h, if_neg (show ¬ (sh s g').pl < s + size by show ¬ s + g'.pl < s + size; omega)]
    exact sh_fin
theorem sh_rise (w : WF 0 size g) : (sh s g).rise s (s + size) = sh s (g.rise 0 size) := by
  unfold RF.rise
  have w2 := w.pre5
  have e : ({ ((sh s g).turnEq.turn s : RF) with st := 5 } : RF) = sh s { (g.turnEq.turn 0 : RF) with st := 5 } := by
    have e1 : (sh s g).turnEq.turn s = sh s (g.turnEq.turn 0) := by
      rw [sh_turnEq w]
      exact sh_turn 0
    rw [e1]
    rfl
  rw [e]
  exact sh_up (Nat.lt_of_le_of_lt (Nat.zero_le _) w2.sp) w2.er
theorem sh_ask (w : WF 0 size g) : (sh s g).ask s (s + size) = sh s (g.ask 0 size) := by
  have b1 := w.sp; have b2 := w.er
  unfold RF.ask
  by_cases h : g.pl < size
  · rw [if_pos h, if_pos (show (sh s g).pl < s + size by show s + g.pl < s + size; omega)]
    have e : (sh s g).pl - 1 = s + (g.pl - 1) := by show s + g.pl - 1 = _; omega
    rw [e]
    exact sh_w (by omega) (by omega)
  · rw [if_neg h, if_neg (show ¬ (sh s g).pl < s + size by show ¬ s + g.pl < s + size; omega)]
    by_cases h3 : g.st = 3
    · rw [if_pos h3, if_pos (show (sh s g).st = 3 from h3)]
      exact sh_rise w
    · rw [if_neg h3, if_neg (show ¬ (sh s g).st = 3 from h3)]
      exact sh_fin
theorem sh_goOn (w : WF 0 size { g with pl := g.pl + 1 }) : (sh s g).goOn s (s + size) = sh s (g.goOn 0 size) := by
  unfold RF.goOn
  rw [← sh_ask w]
  rfl
theorem sh_take (w : WF 0 size g) (h : g.pl < size) (b : Bool) : (sh s g).take s (s + size) b = sh s (g.take 0 size b) := by
  have b1 := w.sp; have b2 := w.er
  unfold RF.take
  show (if g.st = 1 then _ else if g.st = 2 then _ else if g.st = 3 then _ else if g.st = 4 then _ else _) = sh s (if g.st = 1 then _ else if g.st = 2 then _ else if g.st = 3 then _ else if g.st = 4 then _ else _)
  by_cases s1 : g.st = 1
  · rw [if_pos s1, if_pos s1]
    unfold RF.take1
    cases b with
    | false =>
      rw [if_pos rfl, if_pos rfl]
      exact sh_goOn (w.next h)
    | true =>
      rw [if_neg (show ¬ (true = false) by decide), if_neg (show ¬ (true = false) by decide)]
      by_cases hp : g.pl = 0 + 1
      · rw [if_pos hp, if_pos (show (sh s g).pl = s + 1 by show s + g.pl = s + 1; omega)]
        exact sh_goOn (g := { g with st := 3 }) ((w.st 3).next h)
      · rw [if_neg hp, if_neg (show ¬ (sh s g).pl = s + 1 by show ¬ s + g.pl = s + 1; omega)]
        have e : (sh s g).pl - 1 = s + (g.pl - 1) := by show s + g.pl - 1 = _; omega
        rw [e]
        exact sh_w (g' := { g with st := 2 }) (k := 0) (l := g.pl - 1) (by show 0 < g.row.length; omega) (by show g.pl - 1 < g.row.length; omega)
  rw [if_neg s1, if_neg s1]
  by_cases s2 : g.st = 2
  · rw [if_pos s2, if_pos s2]
    unfold RF.take2
    cases b with
    | true =>
      rw [if_pos rfl, if_pos rfl]
      exact sh_fin
    | false =>
      rw [if_neg (show ¬ (false = true) by decide), if_neg (show ¬ (false = true) by decide)]
      have e : (sh s g).turn s = sh s (g.turn 0) := sh_turn 0
      rw [e]
      exact sh_goOn (g := { (g.turn 0 : RF) with st := 3 }) (((w.turn (Nat.le_of_lt w.sp)).st 3).next h)
  rw [if_neg s2, if_neg s2]
  by_cases s3 : g.st = 3
  · rw [if_pos s3, if_pos s3]
    unfold RF.take3
    cases b with
    | true =>
      rw [if_pos rfl, if_pos rfl, sh_turnEq w]
      exact sh_goOn (w.turnEq.next (by rw [turnEq_pl]; exact h))
    | false =>
      rw [if_neg (show ¬ (false = true) by decide), if_neg (show ¬ (false = true) by decide)]
      have e : (sh s g).pl - 1 = s + (g.pl - 1) := by show s + g.pl - 1 = _; omega
      rw [e]
      exact sh_w (g' := { g with st := 4 }) (k := g.pl - 1) (l := g.pl) (by show g.pl - 1 < g.row.length; omega) (by show g.pl < g.row.length; omega)
  rw [if_neg s3, if_neg s3]
  by_cases s4 : g.st = 4
  · rw [if_pos s4, if_pos s4]
    unfold RF.take4
    cases b with
    | true =>
      rw [if_pos rfl, if_pos rfl]
      exact sh_rise w
    | false =>
      rw [if_neg (show ¬ (false = true) by decide), if_neg (show ¬ (false = true) by decide)]
      exact sh_goOn (g := { g with eq := g.eq + 1, st := 3 }) (w.eq1 h)
  rw [if_neg s4, if_neg s4]
  unfold RF.take5
  cases b with
  | true =>
    rw [if_pos rfl, if_pos rfl]
    exact sh_fin
  | false =>
    rw [if_neg (show ¬ (false = true) by decide), if_neg (show ¬ (false = true) by decide)]
    exact sh_goOn (w.next h)
theorem sh_init (h : 0 < size) (h2 : size ≤ 2000) : RF.init (List.range (s + size)) s (s + size) = sh s (RF.init (List.range size) 0 size) := by
  unfold RF.init
  have w : WF 0 size { row := List.range size, pl := 0 + 1, eq := 0, st := 1, wt := none, ln := none } := ⟨by show 0 < 0 + 1; omega, by show 0 + 1 ≤ size; omega, by show size ≤ (List.range size).length; rw [List.length_range]; exact Nat.le_refl _, by show 0 + 0 < 0 + 1; omega, by show (List.range size).length ≤ 2000; rw [List.length_range]; exact h2⟩
  rw [← sh_ask w]
  congr 1
  exact ext (shRow_range s size).symm rfl rfl rfl rfl rfl
/-! behind the place nothing has moved -/
def Tail (n : Nat) (f : RF) : Prop := ∀ k, f.pl ≤ k → f.row.drop k = (List.range n).drop k
theorem turned_tail {row : List Nat} {lo hi k : Nat} (h : lo ≤ hi) (h2 : hi ≤ row.length) (hk : hi ≤ k) : (turned row lo hi).drop k = row.drop k := by
  unfold turned
  have l : (row.take lo ++ ((row.drop lo).take (hi - lo)).reverse).length = hi := by
    rw [List.length_append, List.length_take, List.length_reverse, List.length_take, List.length_drop]
    omega
  rw [List.drop_append, List.drop_of_length_le (by omega), l, List.drop_drop, List.nil_append]
  congr 1
  omega
section
variable {n : Nat} {f : RF} {e : Nat}
theorem tail_turn {lo : Nat} (t : Tail n f) (h : lo ≤ f.pl) (h2 : f.pl ≤ f.row.length) : Tail n (f.turn lo) := fun k hk => (turned_tail h h2 hk).trans (t k hk)
theorem tail_turnEq (t : Tail n f) (h2 : f.pl ≤ f.row.length) : Tail n f.turnEq := by
  unfold RF.turnEq
  split
  · exact fun k hk => tail_turn t (by omega) h2 k hk
  · exact t
theorem tail_up (t : Tail n f) : Tail n (f.askUp s e) := by
  unfold RF.askUp
  split
  · exact t
  · exact t
theorem tail_rise (w : WF s e f) (t : Tail n f) : Tail n (f.rise s e) := by
  have w1 := w.turnEq
  have h2 : f.pl ≤ f.row.length := Nat.le_trans w.pe w.er
  have t1 : Tail n f.turnEq := tail_turnEq t h2
  exact tail_up (f := { (f.turnEq.turn s : RF) with st := 5 }) (tail_turn t1 (Nat.le_of_lt w1.sp) (Nat.le_trans w1.pe w1.er))
theorem tail_ask (w : WF s e f) (t : Tail n f) : Tail n (f.ask s e) := by
  unfold RF.ask
  split
  · exact t
  · split
    · exact tail_rise w t
    · exact t
theorem tail_next (t : Tail n f) : Tail n { f with pl := f.pl + 1 } := fun k hk => t k (Nat.le_of_succ_le hk)
theorem tail_take (w : WF s e f) (h : f.pl < e) (t : Tail n f) (b : Bool) : Tail n (f.take s e b) := by
  have h2 : f.pl ≤ f.row.length := Nat.le_trans w.pe w.er
  unfold RF.take
  split
  · unfold RF.take1
    split
    · exact tail_ask (w.next h) (tail_next t)
    · split
      · exact tail_ask ((w.st 3).next h) (tail_next t)
      · exact t
  · split
    · unfold RF.take2
      split
      · exact t
      · exact tail_ask (((w.turn (Nat.le_of_lt w.sp)).st 3).next h) (tail_next (tail_turn t (Nat.le_of_lt w.sp) h2))
    · split
      · unfold RF.take3
        split
        · exact tail_ask (w.turnEq.next (by rw [turnEq_pl]; exact h)) (tail_next (tail_turnEq t h2))
        · exact t
      · split
        · unfold RF.take4
          split
          · exact tail_rise w t
          · exact tail_ask (w.eq1 h) (tail_next t)
        · unfold RF.take5
          split
          · exact t
          · exact tail_ask (w.next h) (tail_next t)
end
theorem fed_tail {size : Nat} (h1 : 0 < size) (h2 : size ≤ 2000) (bs : List Bool) : ∀ k, Tail size (fed size bs k)
  | 0 => by
    have w : WF 0 size { row := List.range size, pl := 0 + 1, eq := 0, st := 1, wt := none, ln := none } := ⟨by show 0 < 0 + 1; omega, by show 0 + 1 ≤ size; omega, by show size ≤ (List.range size).length; rw [List.length_range]; exact Nat.le_refl _, by show 0 + 0 < 0 + 1; omega, by show (List.range size).length ≤ 2000; rw [List.length_range]; exact h2⟩
    exact tail_ask w (fun k _ => rfl)
  | k + 1 => by
    have ih := fed_tail h1 h2 bs k
    have g := fed_good h1 h2 bs k
    cases h : (fed size bs k).wt with
    | none => rw [fed_end h]; exact ih
    | some q => rw [fed_next h]; exact tail_take g.wf (g.ah (by rw [h]; exact Option.some_ne_none _)) ih _
theorem fed_congr {size : Nat} {bs cs : List Bool} : ∀ {k : Nat}, (∀ i, i < k → bs.getD i false = cs.getD i false) → fed size bs k = fed size cs k
  | 0, _ => rfl
  | k + 1, h => by
    have ih := fed_congr (size := size) (k := k) (fun i hi => h i (by omega))
    cases e : (fed size bs k).wt with
    | none => rw [fed_end e, fed_end (by rw [← ih]; exact e), ih]
    | some q => rw [fed_next e, fed_next (q := q) (by rw [← ih]; exact e), ih, h k (by omega)]
/-- the steps by the keys are the steps by their answers, moved -/
theorem stps_fed {ls : Nat × Nat → Bool} {s size N : Nat} (h1 : 0 < size) (h2 : size ≤ 2000) (hw : ∀ i, i < N → ((RF.init (List.range (s + size)) s (s + size)).stps ls s (s + size) i).wt ≠ none) :
    ∀ k, k ≤ N → (RF.init (List.range (s + size)) s (s + size)).stps ls s (s + size) k = sh s (fed size (((RF.init (List.range (s + size)) s (s + size)).asks ls s (s + size) N).map ls) k)
  | 0, _ => sh_init h1 h2
  | k + 1, hk => by
    have ih := stps_fed h1 h2 hw k (by omega)
    cases e : ((RF.init (List.range (s + size)) s (s + size)).stps ls s (s + size) k).wt with
    | none => exact absurd e (hw k (by omega))
    | some q =>
      rw [stps_next e]
      rw [ih] at e
      have e0 : ∃ q0, (fed size (((RF.init (List.range (s + size)) s (s + size)).asks ls s (s + size) N).map ls) k).wt = some q0 := by
        cases e1 : (fed size (((RF.init (List.range (s + size)) s (s + size)).asks ls s (s + size) N).map ls) k).wt with
        | none =>
          exfalso
          have e2 : (sh s (fed size (((RF.init (List.range (s + size)) s (s + size)).asks ls s (s + size) N).map ls) k)).wt = none := by
            show Option.map _ _ = none
            rw [e1]
            rfl
          rw [e2] at e
          cases e
        | some q0 => exact ⟨q0, rfl⟩
      obtain ⟨q0, e0⟩ := e0
      have g := fed_good h1 h2 (((RF.init (List.range (s + size)) s (s + size)).asks ls s (s + size) N).map ls) k
      rw [fed_next e0, ih, ← sh_take g.wf (g.ah (by rw [e0]; exact Option.some_ne_none _))]
      congr 1
      rw [List.getD_eq_getElem?_getD, List.getElem?_map, asks_at (by omega), ih, e]
      rfl
theorem range_drop (k n : Nat) (h : k ≤ n) : (List.range n).drop k = (List.range (n - k)).map (fun i => k + i) := by
  have e : List.range n = List.range k ++ (List.range (n - k)).map (fun i => k + i) := by
    rw [← List.range_add]
    congr 1
    omega
  rw [e, List.drop_append, List.drop_of_length_le (by rw [List.length_range]; exact Nat.le_refl _), List.length_range, Nat.sub_self]
  rfl
/-- the whole row, told by what lies ahead, the run and the rest -/
theorem row_split {s size : Nat} {g : RF} (w : WF 0 size g) (t : Tail size g) : (sh s g).row = List.range s ++ ((sh s g).row.drop s).take g.pl ++ (List.range (size - g.pl)).map (fun i => s + g.pl + i) := by
  have l : (List.range s).length = s := List.length_range
  have e1 : (sh s g).row.drop s = g.row.map (fun i => s + i) := by
    show (List.range s ++ g.row.map (fun i => s + i)).drop s = _
    rw [List.drop_append, List.drop_of_length_le (by omega), l, Nat.sub_self]
    rfl
  rw [e1, List.append_assoc]
  show List.range s ++ g.row.map (fun i => s + i) = _
  congr 1
  have e2 : g.row = g.row.take g.pl ++ (List.range (size - g.pl)).map (fun i => g.pl + i) := by
    rw [← range_drop _ _ w.pe, ← t _ (Nat.le_refl _), List.take_append_drop]
  rw [← List.map_take]
  conv => lhs; rw [e2]
  rw [List.map_append, List.map_map]
  congr 1
  exact List.map_congr_left fun i _ => by show s + (g.pl + i) = s + g.pl + i; omega
end RF
end L2

namespace L2
open PySem PySem.Spec PyProof.Rows
/-! ### for over a list or a tuple -/
section
variable {X : Cx} {tg : Expr} {pins : List (Addr × Obj)} {σ : L2.St} {H : Hp} {s : Shared} {a : Addr} {xs : List V} {R : It → Hp → Prop}
theorem lone_fresh (I : Inv X pins σ H s) : ∀ b ∈ [s.heap.objs.size], FpOk X pins H b := fun b hb => by
  rw [List.mem_singleton.mp hb]
  exact I.fpOk (Nat.le_refl _) (I.hok.fresh (Nat.le_refl _))
theorem walk_list (I : Inv X pins σ H s) (h : SqL X.K H a xs) (q : R (Itl X.K a) H) : wpAny (model X.prog X.w) X.A (pyIter (.ref a)) (PIE X pins σ tg R) X.xe s := by
  obtain ⟨items, _, isl, _⟩ := I.list h
  exact wpAny_pyIter_list isl.isList ⟨_, [_], _, _, H, rfl, I.kept (t' := s.toks) (fun _ _ e => Heap.get?_push_of_some _ e), turn_list a _, ⟨_, Heap.get?_push_size _ rfl, rfl, rfl⟩, lone_fresh I, q⟩
theorem walk_tup (I : Inv X pins σ H s) (h : SqT X.K H a xs) (q : R (Itt X.K a) H) : wpAny (model X.prog X.w) X.A (pyIter (.ref a)) (PIE X pins σ tg R) X.xe s := by
  obtain ⟨items, _, ist, _⟩ := I.tuple h
  have ist' : s.heap.IsTuple a items.toArray := ist
  exact wpAny_pyIter_tuple ist' ⟨_, [_], _, _, H, rfl, I.kept (t' := s.toks) (fun _ _ e => Heap.get?_push_of_some _ e), turn_tuple a _, ⟨_, Heap.get?_push_size _ rfl, rfl, rfl⟩, lone_fresh I, q⟩
def iLT (K : PySem.W.Frag) (tl : TE) : TI := fun σ H R => tl σ H fun x H1 => ∃ (a : Addr) (xs : List V), x = .ref a ∧ ((SqL K H1 a xs ∧ R (Itl K a) H1) ∨ (SqT K H1 a xs ∧ R (Itt K a) H1))
theorem pi_lt {l : Expr} {tl : TE} (hl : PE X l tl) : PI X tg l (iLT X.K tl) :=
  ⟨fun pins s σ H R I h => thn (hl.run pins s σ H _ I h) fun v s1 ⟨x, H1, I1, r1, a, xs, e, q⟩ => by
    subst e
    cases r1
    rcases q with ⟨hs, q⟩ | ⟨hs, q⟩
    · exact walk_list I1 hs q
    · exact walk_tup I1 hs q⟩
end
/-- for over the entries, whichever of the two it is -/
theorem for_lt {K : PySem.W.Frag} {a : Addr} {xs : List V} {g : TG} {tb : TS} {D : Ends} {σ : L2.St} {H : Hp} (Pv : Nat → L2.St → Hp → Prop) (h0 : Pv 0 σ H) (h : (∀ i σ' H', Pv i σ' H' → SqL K H' a xs) ∨ (∀ i σ' H', Pv i σ' H' → SqT K H' a xs))
    (hs : ∀ i x σ H, xs[i]? = some x → Pv i σ H → g x σ H fun σ2 H2 => tb { D with nx := Pv (i + 1), ct := Pv (i + 1), bk := D.nx } σ2 H2) (hd : ∀ σ H, Pv xs.length σ H → D.nx σ H) :
    (SqL K H a xs ∧ ∃ W : Nat → Nat → L2.St → Hp → Prop, (∃ m, W 0 m σ H) ∧ ∀ i m σ H, W i m σ H →
      ((Itl K a).stop i H ∧ D.nx σ H) ∨ ((Itl K a).go i H ∧ ∃ N : L2.St → Hp → Prop, (∀ σ' H', N σ' H' → ∃ m', m' < m ∧ W (i + 1) m' σ' H') ∧ ∀ x H', (Itl K a).yld i H x H' → g x σ H' fun σ2 H2 => tb { D with nx := N, ct := N, bk := D.nx } σ2 H2)) ∨
    (SqT K H a xs ∧ ∃ W : Nat → Nat → L2.St → Hp → Prop, (∃ m, W 0 m σ H) ∧ ∀ i m σ H, W i m σ H →
      ((Itt K a).stop i H ∧ D.nx σ H) ∨ ((Itt K a).go i H ∧ ∃ N : L2.St → Hp → Prop, (∀ σ' H', N σ' H' → ∃ m', m' < m ∧ W (i + 1) m' σ' H') ∧ ∀ x H', (Itt K a).yld i H x H' → g x σ H' fun σ2 H2 => tb { D with nx := N, ct := N, bk := D.nx } σ2 H2)) := by
  rcases h with h | h
  · exact .inl ⟨h _ _ _ h0, for_list Pv h0 (fun i σ' H' _ p => h i σ' H' p) hs hd⟩
  · exact .inr ⟨h _ _ _ h0, for_tup Pv h0 (fun i σ' H' _ p => h i σ' H' p) hs hd⟩
theorem rg_nat (n : Nat) : rgV 0 (n : Int) = nV (List.range n) := by
  unfold rgV
  rw [show ((n : Int) - 0).toNat = n by omega]
  exact List.map_congr_left fun i _ => congrArg V.int (by omega)
theorem rgOk_nat {n : Nat} (h : n ≤ 2000) : RgOk 0 (n : Int) := ⟨by omega, by omega, by omega, by omega, by omega⟩
end L2

namespace L2
open PySem PySem.Spec PyProof.Rows
namespace RF
/-- given the answers bs one after another, from any state on -/
def gv (s e : Nat) (f : RF) (bs : List Bool) : Nat → RF
  | 0 => f
  | k + 1 => match (gv s e f bs k).wt with
    | none => gv s e f bs k
    | some _ => (gv s e f bs k).take s e (bs.getD k false)
theorem gv_next {s e : Nat} {f : RF} {bs : List Bool} {k : Nat} {q : Nat × Nat} (h : (gv s e f bs k).wt = some q) : gv s e f bs (k + 1) = (gv s e f bs k).take s e (bs.getD k false) := by
  show (match (gv s e f bs k).wt with
    | none => gv s e f bs k
    | some _ => (gv s e f bs k).take s e (bs.getD k false)) = _
  rw [h]
theorem gv_end {s e : Nat} {f : RF} {bs : List Bool} {k : Nat} (h : (gv s e f bs k).wt = none) : gv s e f bs (k + 1) = gv s e f bs k := by
  show (match (gv s e f bs k).wt with
    | none => gv s e f bs k
    | some _ => (gv s e f bs k).take s e (bs.getD k false)) = _
  rw [h]
theorem gv_good {s e : Nat} {f : RF} {row : List Nat} (g : Good s e row f) (bs : List Bool) : ∀ k, Good s e row (gv s e f bs k)
  | 0 => g
  | k + 1 => by
    have ih := gv_good g bs k
    cases h : (gv s e f bs k).wt with
    | none => rw [gv_end h]; exact ih
    | some q => rw [gv_next h]; exact ih.take (by rw [h]; exact Option.some_ne_none _) _
def gvq (s e : Nat) (f : RF) (bs : List Bool) (n : Nat) : List (Nat × Nat) := (List.range n).map fun i => ((gv s e f bs i).wt).getD (0, 0)
theorem gvq_len (s e : Nat) (f : RF) (bs : List Bool) (n : Nat) : (gvq s e f bs n).length = n := by
  unfold gvq
  rw [List.length_map, List.length_range]
theorem gvq_next {s e : Nat} {f : RF} {bs : List Bool} {n : Nat} {q : Nat × Nat} (h : (gv s e f bs n).wt = some q) : gvq s e f bs (n + 1) = gvq s e f bs n ++ [q] := by
  unfold gvq
  rw [List.range_succ, List.map_append, List.map_singleton, h]
  rfl
theorem gv_fed (size : Nat) (bs : List Bool) : ∀ k, gv 0 size (RF.init (List.range size) 0 size) bs k = fed size bs k
  | 0 => rfl
  | k + 1 => by
    have ih := gv_fed size bs k
    cases h : (fed size bs k).wt with
    | none => rw [fed_end h, gv_end (by rw [ih]; exact h), ih]
    | some q => rw [fed_next h, gv_next (by rw [ih]; exact h), ih]
theorem gvq_ask (size : Nat) (bs : List Bool) (n : Nat) : gvq 0 size (RF.init (List.range size) 0 size) bs n = askB size bs n := by
  unfold gvq askB
  exact List.map_congr_left fun i _ => by rw [gv_fed]
theorem gv_stps {s e : Nat} {f : RF} {ls : Nat × Nat → Bool} {bs : List Bool} : ∀ {k : Nat}, (∀ i q, i < k → (f.stps ls s e i).wt = some q → bs.getD i false = ls q) → gv s e f bs k = f.stps ls s e k
  | 0, _ => rfl
  | k + 1, h => by
    have ih := gv_stps (k := k) fun i q hi hq => h i q (by omega) hq
    cases hw : (f.stps ls s e k).wt with
    | none => rw [stps_end hw, gv_end (by rw [ih]; exact hw), ih]
    | some q => rw [stps_next hw, gv_next (by rw [ih]; exact hw), ih, h k q (by omega) hw]
end RF
/-- answers: a list or a tuple of bools -/
def AnsAt (H : Hp) (p : Addr) (bs : List Bool) : Prop := H p = some (.lst (bs.map V.bl)) ∨ H p = some (.tup (bs.map V.bl))
theorem AnsAt.same {H H' : Hp} {p : Addr} {bs : List Bool} (e : Same H H') (h : AnsAt H p bs) : AnsAt H' p bs := h.imp (e _ _) (e _ _)
theorem ans_item {bs : List Bool} {i : Nat} {x : V} (h : (bs.map V.bl)[i]? = some x) : ∃ z, bs[i]? = some z ∧ x = .bl z := by
  rw [List.getElem?_map] at h
  cases e : bs[i]? with
  | none => rw [e] at h; cases h
  | some z => rw [e] at h; exact ⟨z, rfl, (Option.some.inj h).symm⟩
theorem AnsAt.free {H : Hp} {p z : Addr} {bs : List Bool} (h : AnsAt H p bs) (n : H z = none) : p ≠ z := fun e => by
  rw [← e] at n
  rcases h with h | h
  · rw [h] at n; cases n
  · rw [h] at n; cases n
end L2

namespace L2
open PySem PySem.Spec PyProof.Rows
namespace RF
/-! ### how many questions there may be: two less than twice the items -/
variable {e : Nat} {f : RF}
def ph (st pl n : Nat) : Nat := if st = 5 then n else if st = 4 then 2 * n else if st = 3 then 2 * n + 1 else if st = 2 then 2 * n else if pl = 1 then 2 * n else 2 * n + 1
def phi (e : Nat) (f : RF) : Nat := if f.wt = none then 0 else ph f.st f.pl (e - f.pl)
theorem phi_none (h : f.wt = none) : phi e f = 0 := if_pos h
theorem phi_some {q : Nat × Nat} (h : f.wt = some q) : phi e f = ph f.st f.pl (e - f.pl) := if_neg (by rw [h]; exact Option.some_ne_none _)
theorem phi_ask {f : RF} {b : Nat} (h : f.pl < e → ph f.st f.pl (e - f.pl) ≤ b) : phi e (f.ask 0 e) ≤ b := by
  unfold RF.ask
  split
  · rename_i hp
    rw [phi_some (q := (f.row.getD f.pl 0, f.row.getD (f.pl - 1) 0)) rfl]
    exact h hp
  · rename_i hp
    split
    · have : phi e (f.rise 0 e) = 0 := by
        unfold RF.rise RF.askUp
        rw [if_neg (by show ¬ f.turnEq.pl < e; rw [turnEq_pl]; exact hp)]
        exact phi_none rfl
      omega
    · rw [phi_none (f := f.finish 0) rfl]
      exact Nat.zero_le _
theorem phi_take {q : Nat × Nat} (hw : f.wt = some q) (h0 : 0 < f.pl) (h : f.pl < e) (hs : 1 ≤ f.st ∧ f.st ≤ 5) (b : Bool) : phi e (f.take 0 e b) < phi e f := by
  rw [phi_some hw]
  unfold RF.take
  by_cases s1 : f.st = 1
  · rw [if_pos s1]
    have hb : ph f.st f.pl (e - f.pl) = if f.pl = 1 then 2 * (e - f.pl) else 2 * (e - f.pl) + 1 := by rw [s1]; rfl
    unfold RF.take1
    split
    · have : phi e (f.goOn 0 e) ≤ 2 * (e - f.pl) - 1 := phi_ask fun hp => by
        have hp' : f.pl + 1 < e := hp
        show ph f.st (f.pl + 1) (e - (f.pl + 1)) ≤ _
        rw [s1]
        show (if f.pl + 1 = 1 then 2 * (e - (f.pl + 1)) else 2 * (e - (f.pl + 1)) + 1) ≤ _
        rw [if_neg (by omega)]
        omega
      rw [hb]
      split <;> omega
    · split
      · rename_i hp1
        have : phi e (f.fall 0 e) ≤ 2 * (e - f.pl) - 1 := phi_ask fun hp => by
          have hp' : f.pl + 1 < e := hp
          show 2 * (e - (f.pl + 1)) + 1 ≤ _
          omega
        rw [hb, if_pos (by omega)]
        omega
      · rename_i hp1
        rw [phi_some (f := { f with st := 2, wt := some (f.row.getD 0 0, f.row.getD (f.pl - 1) 0) }) rfl, hb, if_neg (by omega)]
        show 2 * (e - f.pl) < _
        omega
  rw [if_neg s1]
  by_cases s2 : f.st = 2
  · rw [if_pos s2]
    have hb : ph f.st f.pl (e - f.pl) = 2 * (e - f.pl) := by rw [s2]; rfl
    unfold RF.take2
    split
    · rw [phi_none (f := f.finish 0) rfl, hb]
      omega
    · have : phi e ((f.turn 0).fall 0 e) ≤ 2 * (e - f.pl) - 1 := phi_ask fun hp => by
        have hp' : f.pl + 1 < e := hp
        show 2 * (e - (f.pl + 1)) + 1 ≤ _
        omega
      rw [hb]
      omega
  rw [if_neg s2]
  by_cases s3 : f.st = 3
  · rw [if_pos s3]
    have hb : ph f.st f.pl (e - f.pl) = 2 * (e - f.pl) + 1 := by rw [s3]; rfl
    unfold RF.take3
    split
    · have : phi e (f.turnEq.goOn 0 e) ≤ 2 * (e - f.pl) - 1 := phi_ask fun hp => by
        have hp' : f.turnEq.pl + 1 < e := hp
        rw [turnEq_pl] at hp'
        show ph f.turnEq.st (f.turnEq.pl + 1) (e - (f.turnEq.pl + 1)) ≤ _
        rw [turnEq_st, turnEq_pl, s3]
        show 2 * (e - (f.pl + 1)) + 1 ≤ _
        omega
      rw [hb]
      omega
    · rw [phi_some (f := { f with st := 4, wt := some (f.row.getD (f.pl - 1) 0, f.row.getD f.pl 0) }) rfl, hb]
      show 2 * (e - f.pl) < _
      omega
  rw [if_neg s3]
  by_cases s4 : f.st = 4
  · rw [if_pos s4]
    have hb : ph f.st f.pl (e - f.pl) = 2 * (e - f.pl) := by rw [s4]; rfl
    unfold RF.take4
    split
    · have e1 : f.rise 0 e = RF.ask 0 e { (f.turnEq.turn 0 : RF) with st := 5 } := by
        unfold RF.rise RF.askUp RF.ask
        rw [if_neg (show ¬ ({ (f.turnEq.turn 0 : RF) with st := 5 } : RF).st = 3 by show ¬ 5 = 3; decide)]
      have : phi e (f.rise 0 e) ≤ e - f.pl := by
        rw [e1]
        exact phi_ask fun hp => by
          show e - f.turnEq.pl ≤ _
          rw [turnEq_pl]
          exact Nat.le_refl _
      rw [hb]
      omega
    · have : phi e (({ f with eq := f.eq + 1, st := 3 } : RF).goOn 0 e) ≤ 2 * (e - f.pl) - 1 := phi_ask fun hp => by
        have hp' : f.pl + 1 < e := hp
        show 2 * (e - (f.pl + 1)) + 1 ≤ _
        omega
      rw [hb]
      omega
  rw [if_neg s4]
  have s5 : f.st = 5 := by omega
  have hb : ph f.st f.pl (e - f.pl) = e - f.pl := by rw [s5]; rfl
  unfold RF.take5
  split
  · rw [phi_none (f := f.finish 0) rfl, hb]
    omega
  · have : phi e (f.goOn 0 e) ≤ e - f.pl - 1 := phi_ask fun hp => by
      have hp' : f.pl + 1 < e := hp
      show ph f.st (f.pl + 1) (e - (f.pl + 1)) ≤ _
      rw [s5]
      show e - (f.pl + 1) ≤ _
      omega
    rw [hb]
    omega
/-- the step is one of the five -/
def St5 (f : RF) : Prop := 1 ≤ f.st ∧ f.st ≤ 5
theorem st5_ask {f : RF} (h : St5 f) : St5 (f.ask 0 e) := by
  unfold RF.ask
  split
  · exact h
  · split
    · unfold RF.rise RF.askUp
      split
      · exact ⟨by show 1 ≤ 5; decide, by show 5 ≤ 5; decide⟩
      · exact ⟨by show 1 ≤ 5; decide, by show 5 ≤ 5; decide⟩
    · exact h
theorem st5_rise : St5 (f.rise 0 e) := by
  unfold RF.rise RF.askUp
  split
  · exact ⟨by show 1 ≤ 5; decide, by show 5 ≤ 5; decide⟩
  · exact ⟨by show 1 ≤ 5; decide, by show 5 ≤ 5; decide⟩
theorem st5_three {f : RF} (h : f.st = 3) : St5 f := ⟨by omega, by omega⟩
theorem st5_take (h : St5 f) (b : Bool) : St5 (f.take 0 e b) := by
  unfold RF.take
  split
  · unfold RF.take1
    split
    · exact st5_ask h
    · split
      · exact st5_ask (st5_three rfl)
      · exact ⟨by show 1 ≤ 2; decide, by show 2 ≤ 5; decide⟩
  · split
    · unfold RF.take2
      split
      · exact h
      · exact st5_ask (st5_three rfl)
    · split
      · rename_i h3
        unfold RF.take3
        split
        · exact st5_ask (st5_three (by show f.turnEq.st = 3; rw [turnEq_st]; exact h3))
        · exact ⟨by show 1 ≤ 4; decide, by show 4 ≤ 5; decide⟩
      · split
        · unfold RF.take4
          split
          · exact st5_rise
          · exact st5_ask (st5_three rfl)
        · unfold RF.take5
          split
          · exact h
          · exact st5_ask h
theorem fed_st5 {size : Nat} {bs : List Bool} : ∀ k, St5 (fed size bs k)
  | 0 => st5_ask ⟨by show 1 ≤ 1; decide, by show 1 ≤ 5; decide⟩
  | k + 1 => by
    have ih := fed_st5 (size := size) (bs := bs) k
    cases h : (fed size bs k).wt with
    | none => rw [fed_end h]; exact ih
    | some q => rw [fed_next h]; exact st5_take ih _
theorem phi_zero {size : Nat} {bs : List Bool} (h : 0 < size) : phi size (fed size bs 0) ≤ 2 * (size - 1) := phi_ask fun hp => by
  show (if 0 + 1 = 1 then 2 * (size - (0 + 1)) else 2 * (size - (0 + 1)) + 1) ≤ _
  rw [if_pos rfl]
  omega
theorem fed_phi {size : Nat} (h1 : 0 < size) (h2 : size ≤ 2000) (bs : List Bool) : ∀ k, (∀ i, i < k → (fed size bs i).wt ≠ none) → k + phi size (fed size bs k) ≤ 2 * (size - 1)
  | 0, _ => by
    have := phi_zero (bs := bs) h1
    omega
  | k + 1, h => by
    have ih := fed_phi h1 h2 bs k (fun i hi => h i (by omega))
    have g := fed_good h1 h2 bs k
    cases e0 : (fed size bs k).wt with
    | none => exact absurd e0 (h k (by omega))
    | some q =>
      have := phi_take e0 g.wf.sp (g.ah (by rw [e0]; exact Option.some_ne_none _)) (fed_st5 k) (bs.getD k false)
      rw [← fed_next e0] at this
      omega
/-- at most two questions less than twice the items -/
theorem fed_few {size : Nat} (h1 : 0 < size) (h2 : size ≤ 2000) (bs : List Bool) {k : Nat} (h : ∀ i, i < k → (fed size bs i).wt ≠ none) : k ≤ 2 * (size - 1) := by
  have := fed_phi h1 h2 bs k h
  omega
/-- a run of two items, where there are two -/
def Long (e : Nat) (f : RF) : Prop := 2 ≤ f.pl ∨ (f.pl = 1 ∧ f.st = 1 ∧ f.wt ≠ none) ∨ e ≤ 1
theorem ask_pl {f : RF} : (f.ask 0 e).pl = f.pl := by
  unfold RF.ask
  split
  · rfl
  · split
    · unfold RF.rise RF.askUp
      split
      · exact turnEq_pl f
      · exact turnEq_pl f
    · rfl
theorem go_pl {f : RF} : f.pl ≤ (f.goOn 0 e).pl := by
  have e1 : (f.goOn 0 e).pl = f.pl + 1 := ask_pl
  omega
theorem fall_pl {f : RF} : f.pl ≤ (f.fall 0 e).pl := by
  have e1 : (f.fall 0 e).pl = f.pl + 1 := ask_pl
  omega
theorem take_pl (b : Bool) : f.pl ≤ (f.take 0 e b).pl := by
  unfold RF.take
  split
  · unfold RF.take1
    split
    · exact go_pl
    · split
      · exact fall_pl
      · exact Nat.le_refl _
  · split
    · unfold RF.take2
      split
      · exact Nat.le_refl _
      · exact fall_pl (f := f.turn 0)
    · split
      · unfold RF.take3
        split
        · refine Nat.le_trans (Nat.le_succ _) (Nat.le_of_eq ?_)
          have e1 : (f.turnEq.goOn 0 e).pl = f.turnEq.pl + 1 := ask_pl
          rw [e1, turnEq_pl]
        · exact Nat.le_refl _
      · split
        · unfold RF.take4
          split
          · have e1 : (f.rise 0 e).pl = f.pl := by
              unfold RF.rise RF.askUp
              split
              · exact turnEq_pl f
              · exact turnEq_pl f
            exact Nat.le_of_eq e1.symm
          · exact go_pl (f := { f with eq := f.eq + 1, st := 3 })
        · unfold RF.take5
          split
          · exact Nat.le_refl _
          · exact go_pl
theorem fed_long {size : Nat} {bs : List Bool} : ∀ k, Long size (fed size bs k)
  | 0 => by
    by_cases h : size ≤ 1
    · exact .inr (.inr h)
    · refine .inr (.inl ⟨ask_pl, ?_, ?_⟩)
      · show (RF.ask 0 size _).st = 1
        unfold RF.ask
        rw [if_pos (by show 0 + 1 < size; omega)]
      · show (RF.ask 0 size _).wt ≠ none
        unfold RF.ask
        rw [if_pos (by show 0 + 1 < size; omega)]
        exact Option.some_ne_none _
  | k + 1 => by
    have ih := fed_long (size := size) (bs := bs) k
    cases h : (fed size bs k).wt with
    | none => rw [fed_end h]; exact ih
    | some q =>
      rw [fed_next h]
      rcases ih with ih | ⟨i1, i2, _⟩ | ih
      · exact .inl (Nat.le_trans ih (take_pl _))
      · refine .inl ?_
        unfold RF.take
        rw [if_pos i2]
        unfold RF.take1
        rw [if_pos (show (fed size bs k).pl = 0 + 1 by omega)]
        split
        · have e1 : ((fed size bs k).goOn 0 size).pl = (fed size bs k).pl + 1 := ask_pl
          omega
        · have e1 : ((fed size bs k).fall 0 size).pl = (fed size bs k).pl + 1 := ask_pl
          omega
      · exact .inr (.inr ih)
theorem fed_two {size : Nat} (h1 : 0 < size) (h2 : size ≤ 2000) {bs : List Bool} {k : Nat} (h : (fed size bs k).wt = none) : min 2 size ≤ (fed size bs k).pl := by
  have g := (fed_good h1 h2 bs k).wf.sp
  rcases fed_long (size := size) (bs := bs) k with l | ⟨_, _, l⟩ | l
  · omega
  · exact absurd h l
  · omega
end RF
end L2

namespace L2
open PySem PySem.Spec PyProof.Rows
/-! ### what told_run tells, as data -/
def pD (q : Nat × Nat) : PyData := .tuple [.int (q.1 : Int), .int (q.2 : Int)]
def lnD : Option Nat → PyData
  | none => .none
  | some n => .int (n : Int)
def toldD (ln : Option Nat) (row : List Nat) (qs : List (Nat × Nat)) : PyData := .tuple [lnD ln, .list ((row.map fun (i : Nat) => (i : Int)).map PyData.int), .list (qs.map pD)]
theorem canLay_pairs : ∀ qs : List (Nat × Nat), PyData.canLayAll0 (qs.map pD) = true
  | [] => rfl
  | q :: r => by
    show (PyData.canLay0 (pD q) && PyData.canLayAll0 (r.map pD)) = true
    rw [canLay_pairs r]
    rfl
theorem depth_pairs : ∀ qs : List (Nat × Nat), PyData.depthAll (qs.map pD) ≤ 1
  | [] => Nat.zero_le _
  | q :: r => by
    show max (PyData.depth (pD q)) (PyData.depthAll (r.map pD)) ≤ 1
    have h1 : PyData.depth (pD q) = 1 := rfl
    have h2 := depth_pairs r
    omega
theorem shaped_told (ln : Option Nat) (row : List Nat) (qs : List (Nat × Nat)) : SeqAt.shaped (toldD ln row qs) = true := by
  unfold SeqAt.shaped
  rw [Bool.and_eq_true]
  constructor
  · show (PyData.canLay0 (lnD ln) && (PyData.canLayAll0 ((row.map fun (i : Nat) => (i : Int)).map PyData.int) && (PyData.canLayAll0 (qs.map pD) && true))) = true
    rw [canLay_ints, canLay_pairs]
    cases ln <;> rfl
  · refine decide_eq_true ?_
    show max (PyData.depth (lnD ln)) (max (PyData.depthAll ((row.map fun (i : Nat) => (i : Int)).map PyData.int) + 1) (max (PyData.depthAll (qs.map pD) + 1) 0)) + 1 ≤ 64
    have h1 : PyData.depth (lnD ln) = 0 := by cases ln <;> rfl
    have h2 := depth_pairs qs
    rw [depth_ints, h1]
    omega
theorem eqv_told (ln : Option Nat) (row : List Nat) (qs : List (Nat × Nat)) : PyData.eqv (toldD ln row qs) (toldD ln row qs) = true := SeqAt.eqv_refl _ (SeqAt.canLay_of_shaped (shaped_told ln row qs))
theorem dpAll_pairs {K : PySem.W.Frag} {H : Hp} : ∀ {ts : List V} {qs : List (Nat × Nat)}, ts.length = qs.length → (∀ (i : Nat) (v : V) (q : Nat × Nat), ts[i]? = some v → qs[i]? = some q → PairAt H v q) → DpAll K H ts (qs.map pD)
  | [], [], _, _ => .nil
  | v :: ts, q :: qs, hl, h => by
    obtain ⟨t, e, ht⟩ := h 0 v q rfl rfl
    subst e
    refine .cons (.tup (L2.st_of ht) (.cons (.int _) (.cons (.int _) .nil))) (dpAll_pairs (by simpa using hl) fun i v' q' h1 h2 => h (i + 1) v' q' h1 h2)
theorem dp_told {K : PySem.W.Frag} {H : Hp} {t r l : Addr} {ln : Option Nat} {row : List Nat} {qs : List (Nat × Nat)} (ht : H t = some (.tup [lenV ln, .ref r, .ref l])) (hr : H r = some (.lst (nV row))) (hq : QAt H l qs) : Dp K H (.ref t) (toldD ln row qs) := by
  obtain ⟨ts, h1, h2, h3⟩ := hq
  refine .tup (L2.st_of ht) (.cons ?_ (.cons ?_ (.cons (.lst (L2.sq_of h1) (dpAll_pairs h2 h3)) .nil)))
  · cases ln with
    | none => exact .non
    | some n => exact .int _
  · exact dp_ints (by rw [← nV_map]; exact L2.sq_of hr)
/-- a sorted row of the same ints is one -/
theorem sorted_one : ∀ {a b : List Int}, a.Perm b → a.Pairwise (· ≤ ·) → b.Pairwise (· ≤ ·) → a = b
  | [], b, p, _, _ => (List.nil_perm.mp p).symm
  | x :: a, b, p, ha, hb => by
    cases b with
    | nil => exact absurd p.length_eq (by simp)
    | cons y b =>
      have ha' := List.pairwise_cons.mp ha
      have hb' := List.pairwise_cons.mp hb
      have e : x = y := by
        have h1 : x ∈ y :: b := p.mem_iff.mp List.mem_cons_self
        have h2 : y ∈ x :: a := p.mem_iff.mpr List.mem_cons_self
        rcases List.mem_cons.mp h1 with h1 | h1
        · exact h1
        · rcases List.mem_cons.mp h2 with h2 | h2
          · exact h2.symm
          · have := hb'.1 x h1
            have := ha'.1 y h2
            omega
      subst e
      rw [sorted_one (List.perm_cons x |>.mp p) ha'.2 hb'.2]
theorem range_sorted (n : Nat) : ((List.range n).map fun (i : Nat) => (i : Int)).Pairwise (· ≤ ·) := by
  rw [List.pairwise_map]
  exact List.Pairwise.imp (fun h => by omega) (List.pairwise_lt_range (n := n))
end L2

namespace L2
open PySem PySem.Spec PyProof.Rows
/-! ### placing: the state, step by step -/
structure PF where
  row : List Nat
  pl : Nat
  lo : Nat
  hi : Nat
  mid : Nat
  wt : Option (Nat × Nat)
namespace PF
def moved (row : List Nat) (lo pl : Nat) : List Nat := row.take lo ++ row.getD pl 0 :: ((row.drop lo).take (pl - lo) ++ row.drop (pl + 1))
def askM (f : PF) : PF := { f with mid := (f.lo + f.hi) / 2, wt := some (f.row.getD f.pl 0, f.row.getD ((f.lo + f.hi) / 2) 0) }
def begin (e : Nat) (f : PF) : PF := if f.pl < e then askM { f with lo := 0, hi := f.pl, wt := none } else { f with wt := none }
def put (e : Nat) (f : PF) : PF := begin e { f with row := moved f.row f.lo f.pl, pl := f.pl + 1 }
def half (b : Bool) (f : PF) : PF := if b = true then { f with hi := f.mid } else { f with lo := f.mid + 1 }
def take (e : Nat) (b : Bool) (f : PF) : PF := if (half b f).lo < (half b f).hi then askM (half b f) else put e (half b f)
def init (row : List Nat) (e rd : Nat) : PF := begin e { row := row, pl := max rd 1, lo := 0, hi := 0, mid := 0, wt := none }
/-- amid an item -/
structure Act (e : Nat) (f : PF) : Prop where
  pe : f.pl < e
  hp : f.hi ≤ f.pl
  lh : f.lo < f.hi
  md : f.mid = (f.lo + f.hi) / 2
  wq : f.wt = some (f.row.getD f.pl 0, f.row.getD f.mid 0)
structure Good (e : Nat) (row0 : List Nat) (f : PF) : Prop where
  len : f.row.length = e
  e64 : e ≤ 64
  p1 : 1 ≤ f.pl
  pm : f.row.Perm row0
  act : f.wt ≠ none → Act e f
  fin : f.wt = none → e ≤ f.pl
theorem moved_perm {row : List Nat} {lo pl : Nat} (h1 : lo ≤ pl) (h2 : pl < row.length) : (moved row lo pl).Perm row := by
  have e1 : row.take lo ++ ((row.drop lo).take (pl - lo) ++ row.getD pl 0 :: row.drop (pl + 1)) = row := by
    have a1 : row.drop pl = row.getD pl 0 :: row.drop (pl + 1) := by
      rw [List.drop_eq_getElem_cons h2]
      simp [List.getD_eq_getElem?_getD, List.getElem?_eq_getElem h2]
    have a2 : (row.drop lo).drop (pl - lo) = row.drop pl := by
      rw [List.drop_drop]
      congr 1
      omega
    rw [← a1, ← a2, List.take_append_drop, List.take_append_drop]
  unfold moved
  refine List.Perm.trans ?_ (List.Perm.of_eq e1)
  refine List.Perm.append_left _ ?_
  exact List.perm_middle.symm
theorem moved_len {row : List Nat} {lo pl : Nat} (h1 : lo ≤ pl) (h2 : pl < row.length) : (moved row lo pl).length = row.length := (moved_perm h1 h2).length_eq
theorem Good.begin {e : Nat} {row0 : List Nat} {f : PF} (l : f.row.length = e) (h64 : e ≤ 64) (p : 1 ≤ f.pl) (pm : f.row.Perm row0) : Good e row0 (begin e f) := by
  unfold PF.begin
  by_cases h : f.pl < e
  · rw [if_pos h]
    exact ⟨l, h64, p, pm, fun _ => ⟨h, Nat.le_refl _, p, rfl, rfl⟩, fun z => by cases z⟩
  · rw [if_neg h]
    exact ⟨l, h64, p, pm, fun z => absurd rfl z, fun _ => by show e ≤ f.pl; omega⟩
theorem Good.put {e : Nat} {row0 : List Nat} {f : PF} (l : f.row.length = e) (h64 : e ≤ 64) (h1 : f.lo ≤ f.pl) (h2 : f.pl < e) (pm : f.row.Perm row0) : Good e row0 (put e f) :=
  Good.begin (by show (moved f.row f.lo f.pl).length = e; rw [moved_len h1 (by omega)]; exact l) h64 (by show 1 ≤ f.pl + 1; omega) ((moved_perm h1 (by omega)).trans pm)
theorem half_row (b : Bool) (f : PF) : (half b f).row = f.row := by unfold half; split <;> rfl
theorem half_pl (b : Bool) (f : PF) : (half b f).pl = f.pl := by unfold half; split <;> rfl
theorem half_in {e : Nat} {f : PF} (a : Act e f) (b : Bool) : (half b f).lo ≤ (half b f).hi ∧ (half b f).hi ≤ f.pl := by
  have h1 := a.hp; have h2 := a.lh; have h3 := a.md
  unfold half
  split
  · exact ⟨by show f.lo ≤ f.mid; omega, by show f.mid ≤ f.pl; omega⟩
  · exact ⟨by show f.mid + 1 ≤ f.hi; omega, h1⟩
theorem Good.take {e : Nat} {row0 : List Nat} {f : PF} (g : Good e row0 f) (h : f.wt ≠ none) (b : Bool) : Good e row0 (take e b f) := by
  have a := g.act h
  obtain ⟨i1, i2⟩ := half_in a b
  unfold PF.take
  split
  · rename_i hl
    exact ⟨by show (half b f).row.length = e; rw [half_row]; exact g.len, g.e64, by show 1 ≤ (half b f).pl; rw [half_pl]; exact g.p1, by show (half b f).row.Perm row0; rw [half_row]; exact g.pm,
      fun _ => ⟨by show (half b f).pl < e; rw [half_pl]; exact a.pe, by show (half b f).hi ≤ (half b f).pl; rw [half_pl]; exact i2, hl, rfl, rfl⟩, fun z => by cases z⟩
  · exact Good.put (by rw [half_row]; exact g.len) g.e64 (by rw [half_pl]; omega) (by rw [half_pl]; exact a.pe) (by rw [half_row]; exact g.pm)
theorem Good.init {row : List Nat} {e rd : Nat} (l : row.length = e) (h64 : e ≤ 64) : Good e row (init row e rd) := Good.begin l h64 (Nat.le_max_right _ _) (List.Perm.refl _)
/-- by the keys -/
def stp (ls : Nat × Nat → Bool) (e : Nat) (f : PF) : PF := match f.wt with
  | none => f
  | some q => f.take e (ls q)
def stps (ls : Nat × Nat → Bool) (e : Nat) (f : PF) : Nat → PF
  | 0 => f
  | n + 1 => stp ls e (stps ls e f n)
theorem stps_next {ls : Nat × Nat → Bool} {e : Nat} {f : PF} {n : Nat} {q : Nat × Nat} (h : (f.stps ls e n).wt = some q) : f.stps ls e (n + 1) = (f.stps ls e n).take e (ls q) := by
  show PF.stp ls e (f.stps ls e n) = _
  unfold PF.stp
  rw [h]
theorem stps_end {ls : Nat × Nat → Bool} {e : Nat} {f : PF} {n : Nat} (h : (f.stps ls e n).wt = none) : f.stps ls e (n + 1) = f.stps ls e n := by
  show PF.stp ls e (f.stps ls e n) = _
  unfold PF.stp
  rw [h]
theorem Good.stps {e : Nat} {row0 : List Nat} {f : PF} (ls : Nat × Nat → Bool) (g : Good e row0 f) : ∀ n, Good e row0 (f.stps ls e n)
  | 0 => g
  | n + 1 => by
    have ih := Good.stps ls g n
    cases h : (f.stps ls e n).wt with
    | none => rw [stps_end h]; exact ih
    | some q => rw [stps_next h]; exact ih.take (by rw [h]; exact Option.some_ne_none _) _
def asks (ls : Nat × Nat → Bool) (e : Nat) (f : PF) (n : Nat) : List (Nat × Nat) := (List.range n).map fun i => ((f.stps ls e i).wt).getD (0, 0)
theorem asks_len (ls : Nat × Nat → Bool) (e : Nat) (f : PF) (n : Nat) : (f.asks ls e n).length = n := by
  unfold asks
  rw [List.length_map, List.length_range]
theorem asks_next {ls : Nat × Nat → Bool} {e : Nat} {f : PF} {n : Nat} {q : Nat × Nat} (h : (f.stps ls e n).wt = some q) : f.asks ls e (n + 1) = f.asks ls e n ++ [q] := by
  unfold asks
  rw [List.range_succ, List.map_append, List.map_singleton, h]
  rfl
theorem asks_at {ls : Nat × Nat → Bool} {e : Nat} {f : PF} {n i : Nat} (h : i < n) : (f.asks ls e n)[i]? = some (((f.stps ls e i).wt).getD (0, 0)) := by
  unfold asks
  rw [List.getElem?_map, List.getElem?_range h]
  rfl
/-- by answers of any kind -/
def gv (e : Nat) (f : PF) (bs : List Bool) : Nat → PF
  | 0 => f
  | k + 1 => match (gv e f bs k).wt with
    | none => gv e f bs k
    | some _ => (gv e f bs k).take e (bs.getD k false)
theorem gv_next {e : Nat} {f : PF} {bs : List Bool} {k : Nat} {q : Nat × Nat} (h : (gv e f bs k).wt = some q) : gv e f bs (k + 1) = (gv e f bs k).take e (bs.getD k false) := by
  show (match (gv e f bs k).wt with
    | none => gv e f bs k
    | some _ => (gv e f bs k).take e (bs.getD k false)) = _
  rw [h]
theorem gv_end {e : Nat} {f : PF} {bs : List Bool} {k : Nat} (h : (gv e f bs k).wt = none) : gv e f bs (k + 1) = gv e f bs k := by
  show (match (gv e f bs k).wt with
    | none => gv e f bs k
    | some _ => (gv e f bs k).take e (bs.getD k false)) = _
  rw [h]
theorem gv_stay {e : Nat} {f : PF} {bs : List Bool} {n : Nat} (h : (gv e f bs n).wt = none) : ∀ k, gv e f bs (n + k) = gv e f bs n
  | 0 => rfl
  | k + 1 => by
    have ih := gv_stay h k
    show gv e f bs ((n + k) + 1) = _
    rw [gv_end (by rw [ih]; exact h), ih]
theorem Good.gv {e : Nat} {row0 : List Nat} {f : PF} (g : Good e row0 f) (bs : List Bool) : ∀ k, Good e row0 (gv e f bs k)
  | 0 => g
  | k + 1 => by
    have ih := Good.gv g bs k
    cases h : (PF.gv e f bs k).wt with
    | none => rw [gv_end h]; exact ih
    | some q => rw [gv_next h]; exact ih.take (by rw [h]; exact Option.some_ne_none _) _
def gvq (e : Nat) (f : PF) (bs : List Bool) (n : Nat) : List (Nat × Nat) := (List.range n).map fun i => ((gv e f bs i).wt).getD (0, 0)
theorem gvq_len (e : Nat) (f : PF) (bs : List Bool) (n : Nat) : (gvq e f bs n).length = n := by
  unfold gvq
  rw [List.length_map, List.length_range]
theorem gvq_next {e : Nat} {f : PF} {bs : List Bool} {n : Nat} {q : Nat × Nat} (h : (gv e f bs n).wt = some q) : gvq e f bs (n + 1) = gvq e f bs n ++ [q] := by
  unfold gvq
  rw [List.range_succ, List.map_append, List.map_singleton, h]
  rfl
theorem gv_congr {e : Nat} {f : PF} {bs cs : List Bool} : ∀ {k : Nat}, (∀ i, i < k → bs.getD i false = cs.getD i false) → gv e f bs k = gv e f cs k
  | 0, _ => rfl
  | k + 1, h => by
    have ih := gv_congr (e := e) (f := f) (k := k) fun i hi => h i (by omega)
    cases hw : (gv e f bs k).wt with
    | none => rw [gv_end hw, gv_end (by rw [← ih]; exact hw), ih]
    | some q => rw [gv_next hw, gv_next (q := q) (by rw [← ih]; exact hw), ih, h k (by omega)]
theorem gv_stps {e : Nat} {f : PF} {ls : Nat × Nat → Bool} {bs : List Bool} : ∀ {k : Nat}, (∀ i q, i < k → (f.stps ls e i).wt = some q → bs.getD i false = ls q) → gv e f bs k = f.stps ls e k
  | 0, _ => rfl
  | k + 1, h => by
    have ih := gv_stps (k := k) fun i q hi hq => h i q (by omega) hq
    cases hw : (f.stps ls e k).wt with
    | none => rw [stps_end hw, gv_end (by rw [ih]; exact hw), ih]
    | some q => rw [stps_next hw, gv_next (q := q) (by rw [ih]; exact hw), ih, h k q (by omega) hw]
/-! how many questions -/
def bl (m : Nat) : Nat := if m = 0 then 0 else m.log2 + 1
theorem bl_half {m m' : Nat} (h : 0 < m) (h2 : m' ≤ m / 2) : bl m' + 1 ≤ bl m := by
  unfold bl
  rw [if_neg (by omega : m ≠ 0)]
  by_cases e : m' = 0
  · rw [if_pos e]
    omega
  · rw [if_neg e]
    have a1 : 2 ^ m'.log2 ≤ m' := Nat.log2_self_le e
    have : m'.log2 + 1 ≤ m.log2 := (Nat.le_log2 (by omega)).mpr (by rw [Nat.pow_succ]; omega)
    omega
theorem bl_63 {m : Nat} (h : m ≤ 63) : bl m ≤ 6 := by
  unfold bl
  split
  · omega
  · rename_i e
    have : m.log2 < 6 := (Nat.log2_lt e).mpr (by omega)
    omega
def phi (e : Nat) (f : PF) : Nat := if f.wt = none then 0 else bl (f.hi - f.lo) + 6 * (e - 1 - f.pl)
theorem phi_begin {e : Nat} {f : PF} (h64 : e ≤ 64) (h : 1 ≤ f.pl) : phi e (begin e f) ≤ 6 * (e - f.pl) := by
  unfold PF.begin
  by_cases hp : f.pl < e
  · rw [if_pos hp]
    unfold phi
    rw [if_neg (by intro z; cases z)]
    show bl (f.pl - 0) + 6 * (e - 1 - f.pl) ≤ _
    have := bl_63 (m := f.pl - 0) (by omega)
    omega
  · rw [if_neg hp]
    unfold phi
    rw [if_pos rfl]
    omega
theorem phi_take {e : Nat} {row0 : List Nat} {f : PF} (g : Good e row0 f) (h : f.wt ≠ none) (b : Bool) : phi e (take e b f) + 1 ≤ phi e f := by
  have a := g.act h
  have h1 := a.hp; have h2 := a.lh; have h3 := a.md; have h4 := a.pe; have h5 := g.e64
  have e1 : phi e f = bl (f.hi - f.lo) + 6 * (e - 1 - f.pl) := by unfold phi; rw [if_neg h]
  have hb : 1 ≤ bl (f.hi - f.lo) := by unfold bl; rw [if_neg (by omega)]; omega
  rw [e1]
  unfold PF.take
  split
  · rename_i hl
    have e2 : phi e (askM (half b f)) = bl ((half b f).hi - (half b f).lo) + 6 * (e - 1 - (half b f).pl) := by
      unfold phi
      rw [if_neg (by intro z; cases z)]
      rfl
    rw [e2, half_pl]
    have : bl ((half b f).hi - (half b f).lo) + 1 ≤ bl (f.hi - f.lo) := by
      refine bl_half (by omega) ?_
      unfold half
      split
      · show f.mid - f.lo ≤ _; omega
      · show f.hi - (f.mid + 1) ≤ _; omega
    omega
  · have : phi e (put e (half b f)) ≤ 6 * (e - ((half b f).pl + 1)) := phi_begin (f := { half b f with row := moved (half b f).row (half b f).lo (half b f).pl, pl := (half b f).pl + 1 }) h5 (by show 1 ≤ (half b f).pl + 1; omega)
    rw [half_pl] at this
    omega
theorem phi_init {row : List Nat} {e rd : Nat} (h64 : e ≤ 64) : phi e (init row e rd) ≤ 6 * (e - 1) := by
  have := phi_begin (e := e) (f := { row := row, pl := max rd 1, lo := 0, hi := 0, mid := 0, wt := none }) h64 (Nat.le_max_right _ _)
  have h2 : 1 ≤ max rd 1 := Nat.le_max_right _ _
  show phi e (begin e _) ≤ _
  refine Nat.le_trans this ?_
  show 6 * (e - max rd 1) ≤ 6 * (e - 1)
  omega
theorem phi_gv {e : Nat} {row0 : List Nat} {f : PF} (g : Good e row0 f) (bs : List Bool) : ∀ k, (∀ i, i < k → (gv e f bs i).wt ≠ none) → k + phi e (gv e f bs k) ≤ phi e f
  | 0, _ => by show 0 + phi e f ≤ phi e f; omega
  | k + 1, h => by
    have ih := phi_gv g bs k fun i hi => h i (by omega)
    have hk := h k (by omega)
    obtain ⟨q, hq⟩ := Option.ne_none_iff_exists'.mp hk
    have := phi_take (g.gv bs k) hk (bs.getD k false)
    rw [gv_next hq]
    omega
theorem few {row : List Nat} {e rd : Nat} {bs : List Bool} (l : row.length = e) (h64 : e ≤ 64) {k : Nat} (h : ∀ i, i < k → (gv e (init row e rd) bs i).wt ≠ none) : k ≤ 6 * (e - 1) := by
  have h1 := phi_gv (Good.init (rd := rd) l h64) bs k h
  have h2 := phi_init (row := row) (e := e) (rd := rd) h64
  omega
theorem Good.pmRange {e n : Nat} {row : List Nat} {f : PF} (g : Good e row f) (pm : row.Perm (List.range n)) : Good e (List.range n) f := ⟨g.len, g.e64, g.p1, g.pm.trans pm, g.act, g.fin⟩
theorem Good.items {e n : Nat} {f : PF} (g : Good e (List.range n) f) {q : Nat × Nat} (h : f.wt = some q) : q.1 < n ∧ q.2 < n ∧ q.1 ≠ q.2 := by
  have hne : f.wt ≠ none := by rw [h]; exact Option.some_ne_none _
  have a := g.act hne
  have h1 := a.hp; have h2 := a.lh; have h3 := a.md; have h4 := a.pe; have h5 := g.len
  rw [a.wq] at h
  have eq := (Option.some.inj h).symm
  subst eq
  have gd : ∀ i, i < f.row.length → f.row.getD i 0 = f.row[i]! := fun i hi => by simp [List.getD_eq_getElem?_getD, List.getElem?_eq_getElem hi, hi]
  have mem : ∀ i, i < f.row.length → f.row.getD i 0 < n := fun i hi => by
    have : f.row.getD i 0 ∈ f.row := by
      rw [List.getD_eq_getElem?_getD, List.getElem?_eq_getElem hi]
      exact List.getElem_mem hi
    exact List.mem_range.mp (g.pm.mem_iff.mp this)
  refine ⟨mem _ (by omega), mem _ (by omega), fun e0 => ?_⟩
  have nd : f.row.Nodup := g.pm.nodup_iff.mpr List.nodup_range
  have e1 : f.row[f.pl]'(by omega) = f.row[f.mid]'(by omega) := by
    have a1 : f.row.getD f.pl 0 = f.row[f.pl]'(by omega) := by rw [List.getD_eq_getElem?_getD, List.getElem?_eq_getElem (by omega)]; rfl
    have a2 : f.row.getD f.mid 0 = f.row[f.mid]'(by omega) := by rw [List.getD_eq_getElem?_getD, List.getElem?_eq_getElem (by omega)]; rfl
    rw [← a1, ← a2]
    exact e0
  have := (List.getElem_inj nd).mp e1
  omega
end PF
/-! ### the placer in the heap -/
def fldsP (r : Addr) (e : Nat) (f : PF) (wv : V) : List (Str × V) :=
  [("row", .ref r), ("start", .int 0), ("end", .int (e : Int)), ("place", .int (f.pl : Int)), ("low", .int (f.lo : Int)), ("high", .int (f.hi : Int)), ("middle", .int (f.mid : Int)), ("waiting", wv)]
def PAt (C : Addr) (H : Hp) (x r : Addr) (e : Nat) (f : PF) : Prop := x ≠ r ∧ ∃ dx wv, H x = some (.ins C dx (fldsP r e f wv)) ∧ WaitAt H wv f.wt ∧ H r = some (.lst (nV f.row))
theorem PAt.same {C : Addr} {H H' : Hp} {x r : Addr} {e : Nat} {f : PF} (h : PAt C H x r e f) (k : Same H H') : PAt C H' x r e f := by
  obtain ⟨n, dx, wv, hx, hw, hr⟩ := h
  exact ⟨n, dx, wv, k _ _ hx, hw.keep (fun _ _ _ => k _ _), k _ _ hr⟩
theorem PAt.set {C x r : Addr} {H : Hp} {e : Nat} {f : PF} {dx : Addr} {wv : V} (h : PAt C H x r e f) (hx : H x = some (.ins C dx (fldsP r e f wv))) (f' : PF) (wv' : V) (er : f'.row = f.row) (hw : WaitAt H wv' f'.wt) {w : List (Str × V)} (ew : w = fldsP r e f' wv') :
    PAt C (upd H x (.ins C dx w)) x r e f' ∧ upd H x (.ins C dx w) x = some (.ins C dx (fldsP r e f' wv')) ∧ Fr2 x r H (upd H x (.ins C dx w)) := by
  obtain ⟨n, _, _, _, _, hr⟩ := h
  subst ew
  refine ⟨⟨n, dx, wv', upd_same, hw.upd hx (fun i j e => by cases e), ?_⟩, upd_same, Fr2.putx⟩
  rw [upd_ne n.symm, er]
  exact hr
theorem PAt.putRow {C x r : Addr} {H : Hp} {e : Nat} {f : PF} (h : PAt C H x r e f) {row : List Nat} {w : List V} (ew : w = nV row) : PAt C (upd H r (.lst w)) x r e { f with row := row } := by
  obtain ⟨n, dx, wv, hx, hw, hr⟩ := h
  subst ew
  refine ⟨n, dx, wv, ?_, hw.upd hr (fun i j e => by cases e), upd_same⟩
  rw [upd_ne n]
  exact hx
end L2

namespace L2
open PySem PySem.Spec PyProof.Rows
/-! ### what placing tells, as data -/
def plD (b : Bool) (row : List Nat) (qs : List (Nat × Nat)) : PyData := .tuple [.bool b, .list ((row.map fun (i : Nat) => (i : Int)).map PyData.int), .list (qs.map pD)]
theorem shaped_pl (b : Bool) (row : List Nat) (qs : List (Nat × Nat)) : SeqAt.shaped (plD b row qs) = true := by
  unfold SeqAt.shaped
  rw [Bool.and_eq_true]
  constructor
  · show (PyData.canLay0 (.bool b) && (PyData.canLayAll0 ((row.map fun (i : Nat) => (i : Int)).map PyData.int) && (PyData.canLayAll0 (qs.map pD) && true))) = true
    rw [canLay_ints, canLay_pairs]
    rfl
  · refine decide_eq_true ?_
    show max (PyData.depth (.bool b)) (max (PyData.depthAll ((row.map fun (i : Nat) => (i : Int)).map PyData.int) + 1) (max (PyData.depthAll (qs.map pD) + 1) 0)) + 1 ≤ 64
    have h1 : PyData.depth (.bool b) = 0 := rfl
    have h2 := depth_pairs qs
    rw [depth_ints, h1]
    omega
theorem eqv_pl (b : Bool) (row : List Nat) (qs : List (Nat × Nat)) : PyData.eqv (plD b row qs) (plD b row qs) = true := SeqAt.eqv_refl _ (SeqAt.canLay_of_shaped (shaped_pl b row qs))
theorem dp_pl {K : PySem.W.Frag} {H : Hp} {t r l : Addr} {b : Bool} {row : List Nat} {qs : List (Nat × Nat)} (ht : H t = some (.tup [.bl b, .ref r, .ref l])) (hr : H r = some (.lst (nV row))) (hq : QAt H l qs) : Dp K H (.ref t) (plD b row qs) := by
  obtain ⟨ts, h1, h2, h3⟩ := hq
  exact .tup (L2.st_of ht) (.cons (.bl _) (.cons (dp_ints (by rw [← nV_map]; exact L2.sq_of hr)) (.cons (.lst (L2.sq_of h1) (dpAll_pairs h2 h3)) .nil)))
/-- taken out at one place, put in at another one -/
theorem ins_moved {row : List Nat} {lo pl : Nat} (h1 : lo ≤ pl) (h2 : pl < row.length) : ((nV row).eraseIdx pl).take lo ++ [.int ((row.getD pl 0 : Nat) : Int)] ++ ((nV row).eraseIdx pl).drop lo = nV (PF.moved row lo pl) := by
  have l1 : ((nV row).take pl).length = pl := by rw [List.length_take, List.length_map]; omega
  rw [List.eraseIdx_eq_take_drop_succ, List.take_append_of_le_length (by omega), List.drop_append_of_le_length (by omega), List.take_take, Nat.min_eq_left h1, List.drop_take]
  unfold PF.moved
  simp only [List.map_append, List.map_take, List.map_drop, List.map_cons, List.append_assoc, List.singleton_append]
namespace PF
theorem mid_eq {e : Nat} {f : PF} (a : Act e f) : f.lo + (f.hi - f.lo) / 2 = f.mid := by
  have h1 := a.lh; have h2 := a.md
  omega
/-- at the start of an item -/
def Fresh (f : PF) : Prop := f.wt ≠ none → f.lo = 0 ∧ f.hi = f.pl
theorem fresh_begin (e : Nat) (f : PF) : Fresh (begin e f) ∧ (begin e f).pl = f.pl ∧ (begin e f).row = f.row := by
  unfold PF.begin
  by_cases h : f.pl < e
  · rw [if_pos h]
    exact ⟨fun _ => ⟨rfl, rfl⟩, rfl, rfl⟩
  · rw [if_neg h]
    exact ⟨fun z => absurd rfl z, rfl, rfl⟩
theorem fresh_put (e : Nat) (f : PF) : Fresh (put e f) ∧ (put e f).pl = f.pl + 1 ∧ (put e f).row = moved f.row f.lo f.pl := fresh_begin e { f with row := moved f.row f.lo f.pl, pl := f.pl + 1 }
end PF
end L2

namespace L2
open PySem PySem.Spec PyProof.Rows
/-! ### Base.__init__(self, ..) where Base is a class of the program that has no own one -/
section
variable {X : Cx} {e : Expr} {es : List Expr} {ta : TA} {x : Str} {B : Addr} {p1 p2 pos : Pos}
theorem pe_baseinit {pl : Sem Bool} (hg : Gl X x) (hm : X.mg x = some (.ref B)) (rd1 : PySem.W.readsIn X.K B (.type "type") = true) (rd2 : PySem.W.specialIn X.K (.ref B) "__getattribute__" = some (some (.builtin "type.__getattribute__"))) (vV : PySem.W.findCls X.K (.ref B) (.type "type") "__init__" = some (.val (.builtin "ValueError.__init__"))) (ha : PA X (e :: es) ta)
    (hc : eval (.Call (.Attribute (.Name x p1) "__init__" p2) (e :: es) [] pos) X.env = (do
      let base ← eval (.Name x p1) X.env
      standAt p2.atName
      let (f, first) ← holding [base] (getMethod base "__init__" pl)
      callWith pos f first (backTo pos (starEach (e :: es) X.env)) (backToKw pos (keywordEach [] X.env))) := by rfl)
    (hdb : (x == ("__debug__" : Str)) = false := by decide) (he : starEach (e :: es) X.env = (false, eval e X.env) :: starEach es X.env := by rfl) (hpl : (backTo pos (starEach es X.env)).any (·.1) = false := by rfl) :
    PE X (.Call (.Attribute (.Name x p1) "__init__" p2) (e :: es) [] pos) (tVeI X.K ta) := by
  refine ⟨fun pins s σ H Q I h => PySem.W.methodCall_KW (ld_glob I hg hm ?_ hdb) hc⟩
  refine PySem.W.method_cls I.kIn rd2 (PySem.W.cls_value I.kIn rd1 vV (by decide +kernel) ?_)
  show wpAny _ _ (callWith pos (Value.builtin "ValueError.__init__") [] (backTo pos (starEach (e :: es) X.env)) []) _ _ _
  refine PyProof.Rows.callWith_method1 (thn (ha.run pos pins _ σ H _ (I.tok _) h) fun us s1 ⟨vs, H1, I1, rel, a, C, ws, ev, hl, T, ea, q⟩ => ?_) he hpl
  subst ev
  cases rel with
  | @cons _ w0 _ wr r0 rs =>
    have ew : w0 = Value.ref a := r0
    subst ew
    have short : wr.length ≤ sizeLine := by
      have := Paired.length rs
      rw [sizeLine_eq]
      omega
    exact oinit_ok T I1 ea short fun s' J => ⟨.non, H1, J, rfl, q⟩
end
/-! ### what the text says of an error's class, and of the class above -/
structure ExC (K : PySem.W.Frag) (mg : Str → Option Value) (C fI : Addr) (x f : Str) : Prop where
  g : mg x = some (.ref C)
  ox : OexC K C
  ii : PySem.W.findIn K (.ref C) "__init__" = some (some (.ref fI))
  ti : PySem.W.typeIn K (.ref fI) = some (.type "function")
  no : PySem.W.findIn K (.ref C) f = some none
  xf : XfC K C
  te : PySem.W.exmOne K (.ref C) (.ref C) = some true
structure ExB (K : PySem.W.Frag) (mg : Str → Option Value) (B : Addr) (x : Str) : Prop where
  g : mg x = some (.ref B)
  r1 : PySem.W.readsIn K B (.type "type") = true
  r2 : PySem.W.specialIn K (.ref B) "__getattribute__" = some (some (.builtin "type.__getattribute__"))
  vi : PySem.W.findCls K (.ref B) (.type "type") "__init__" = some (.val (.builtin "ValueError.__init__"))
theorem exm_own {K : PySem.W.Frag} {S : Addr} (h1 : PySem.W.subIn K (.ref S) (.type "BaseException") = some true) (h2 : PySem.W.isClsIn K S = true) (h3 : PySem.W.typeIn K (.ref S) = some (.type "type")) (h4 : PySem.W.subIn K (.ref S) (.ref S) = some true) :
    PySem.W.exmOne K (.ref S) (.ref S) = some true := by
  have h2' : (PySem.W.clsIn K S).isSome = true := h2
  unfold PySem.W.exmOne
  simp [PySem.W.kitCls, h1, h2', h3, h4]
theorem exC_mk {K : PySem.W.Frag} {h : Heap} {mg : Str → Option Value} {C B fI : Addr} {x f : Str} (X : K.In h) (G : h.Ns mainGlobals mg)
    {nm q : Str} {N : Addr} {bs : List Value} {sn : List Str} {sub : List Value} {ab : Bool} {col : Option Bool} {dd : Option Addr} {m0 m1 m2 m3 m5 : Option Value}
    (aC : PySem.W.nsIn K mainGlobals x = some (some (.ref C)))
    (xL : K.lookup C = some (excClassObj nm q C N bs [.ref B, .type "ValueError", .type "Exception", .type "BaseException", .type "object"] true sn sub ab col dd m0 m1 m2 m3 m5 "ValueError.__new__"))
    (sa : PySem.W.findIn K (.ref C) "__setattr__" = some (some (.builtin "object.__setattr__"))) (ga : PySem.W.findIn K (.ref C) "__getattribute__" = some (some (.builtin "BaseException.__getattribute__"))) (gg : PySem.W.findIn K (.ref C) "__getattr__" = some none)
    (nb : PySem.W.findIn K (.ref C) f = some none) (ii : PySem.W.findIn K (.ref C) "__init__" = some (some (.ref fI))) (ti : PySem.W.typeIn K (.ref fI) = some (.type "function")) (kC : PySem.W.keepIn K (.ref C) = true)
    (eC : PySem.W.subIn K (.ref C) (.type "BaseException") = some true) (tC : PySem.W.typeIn K (.ref C) = some (.type "type")) (hC : PySem.W.hasDictIn K C = true) (iC : PySem.W.isClsIn K C = true) (sC : PySem.W.subIn K (.ref C) (.ref C) = some true) :
    ExC K mg C fI x f :=
  ⟨PySem.W.mg_of X G aC, ⟨⟨_, _, _, _, _, _, _, _, _, _, _, _, _, _, _, xL, rfl⟩, sa, eC, tC, kC⟩, ii, ti, nb, ⟨ga, gg, eC, hC⟩, exm_own eC iC tC sC⟩
/-- what __init__ of such an error does: the value is kept under f -/
def spErr (C : Addr) (f : Str) : Sp := fun vs H Q _ => ∃ (e : Addr) (v : V), vs = [.ref e, v] ∧ H e = some (exo e C none) ∧ ∀ dx, H dx = none → dx ≠ e → Q .non (upd (upd H dx (exd dx [(f, v)])) e (exo e C (some dx)))
end L2

namespace L2
open PySem PySem.Spec PyProof.Rows
/-! ### a def that has defaults -/
structure FunV (K : PySem.W.Frag) (x qual : Str) (st : Stmt) (f : Addr) (fd : FuncData) : Prop where
  ex : ∃ (oc : Value) (od : Option Addr) (dV kV doc pm : Value) (an : Option Addr) (cdv ct : Value) (osl : Array (Option Value)),
    fd = PySem.W.fnOf x qual (defArgs st) (defBody st) (defScope st) dV kV doc pm an cdv ct ∧ K.lookup f = some ⟨oc, od, .func fd, osl⟩ ∧ PySem.W.codeIn K cdv qual = true
section
variable {P : Program} {w : World} {K : PySem.W.Frag} {mg : Str → Option Value} {base : Heap}
theorem FunV.ok {x qual : Str} {st : Stmt} {f : Addr} {fd : FuncData} {N ps : List Str} {k : Nat} {sp : Sp} (F : FunV K x qual st f fd) (S : FnScope N ps (defScope st)) (len : ∀ vs H Q E, sp vs H Q E → vs.length = ps.length)
    (hbody : ∀ (cdv : Value) (A : Around) (outer : List Env) (s : Shared) (H : Hp) (vs : List V) (Q : VK) (E : XK), Room k (A.deeper (envOfC qual (defScope st) s.heap.objs.size f cdv)) → sp vs H Q E →
      ∃ t, PSs (cxOf CX0 P w K mg base N qual (defScope st) f cdv A outer s H E).nox (defBody st) t ∧ t { nx := fun _ H' => Q .non H', rt := Q } (start N vs) H) : FnOk P w K mg base CX0 (k + 1) f fd ps sp := by
  obtain ⟨oc, od, dV, kV, doc, pm, an, cdv, ct, osl, rfl, lk, hcd⟩ := F.ex
  refine fn_of lk hcd S len fun A outer s H vs Q E hr hsp => ?_
  obtain ⟨t, h, q⟩ := hbody cdv A outer s H vs Q E hr hsp
  exact ⟨t, h.nox, q⟩
theorem FunV.okX {x qual : Str} {st : Stmt} {f : Addr} {fd : FuncData} {N ps : List Str} {k : Nat} {sp : Sp} (F : FunV K x qual st f fd) (S : FnScope N ps (defScope st)) (len : ∀ vs H Q E, sp vs H Q E → vs.length = ps.length)
    (hbody : ∀ (cdv : Value) (A : Around) (outer : List Env) (s : Shared) (H : Hp) (vs : List V) (Q : VK) (E : XK), Room k (A.deeper (envOfC qual (defScope st) s.heap.objs.size f cdv)) → sp vs H Q E →
      ∃ t, PSs (cxOf (L2.CX P w) P w K mg base N qual (defScope st) f cdv A outer s H E) (defBody st) t ∧ t { nx := fun _ H' => Q .non H', rt := Q } (start N vs) H) : FnOk P w K mg base (L2.CX P w) (k + 1) f fd ps sp := by
  obtain ⟨oc, od, dV, kV, doc, pm, an, cdv, ct, osl, rfl, lk, hcd⟩ := F.ex
  exact fn_of lk hcd S len fun A outer s H vs Q E hr hsp => hbody cdv A outer s H vs Q E hr hsp
theorem funV_mk {x qual : Str} {st : Stmt} {f : Addr} {oc : Value} {od an : Option Addr} {osl : Array (Option Value)} {dV kV doc pm cdv ct : Value} (l : K.lookup f = some ⟨oc, od, .func (PySem.W.fnOf x qual (defArgs st) (defBody st) (defScope st) dV kV doc pm an cdv ct), osl⟩)
    (c : PySem.W.codeIn K cdv qual = true) : FunV K x qual st f (PySem.W.fnOf x qual (defArgs st) (defBody st) (defScope st) dV kV doc pm an cdv ct) := ⟨oc, od, dV, kV, doc, pm, an, cdv, ct, osl, rfl, l, c⟩
/-- how the arguments bind where the last defaults fill up: dvs the defaults, j of them are written -/
theorem bindsV {x qual : Str} {st : Stmt} {f T : Addr} {oc oT : Value} {od odT an : Option Addr} {osl slT : Array (Option Value)} {kV doc pm cdv ct : Value} {its : List Value} {nT : Nat} {ps : List Str} {dvs : List V}
    (l : K.lookup f = some ⟨oc, od, .func (PySem.W.fnOf x qual (defArgs st) (defBody st) (defScope st) (.ref T) kV doc pm an cdv ct), osl⟩)
    (c : PySem.W.codeIn K cdv qual = true) (kp : PySem.W.keepIn K (.ref f) = true) (lT : K.lookup T = some ⟨oT, odT, .seq its.toArray nT, slT⟩) (rT : Vals dvs its) (n j : Nat) (hd : dvs ≠ []) (hn : n + (dvs.length - j) = ps.length)
    (h : ∀ (T : Addr) (kV doc pm : Value) (an : Option Addr) (cdv ct : Value) (us its : List Value), us.length = n → its.length = dvs.length →
      ∃ k, bindArgs (PySem.W.fnOf x qual (defArgs st) (defBody st) (defScope st) (.ref T) kV doc pm an cdv ct) ⟨us, []⟩ = seqItems? (.ref T) >>= k ∧ k (some its.toArray) = pure (ps.zip (us ++ its.drop j))) :
    ∃ ds, Vals (dvs.drop j) ds ∧ Binds K (PySem.W.fnOf x qual (defArgs st) (defBody st) (defScope st) (.ref T) kV doc pm an cdv ct) ps ds := by
  have F : FunD K x qual (defArgs st) (defBody st) (defScope st) dvs [] f _ := ⟨⟨_, _, _, _, _, _, _, _, _, _, rfl, l, c, .inr ⟨hd, T, _, its, nT, rfl, lT, rfl, rT⟩, .inl rfl⟩, kp⟩
  exact F.binds1 (ps := ps) n j hd hn h
theorem Binds.none {fd : FuncData} {ps : List Str} {ds : List Value} (r : Vals [] ds) (b : Binds K fd ps ds) : Binds K fd ps [] := by
  cases r
  exact b
end
end L2

namespace L2
open PySem PySem.Spec PyProof.Rows
namespace RF
/-- the rows of answers of one length that lead to no end before -/
def ended (size : Nat) (bs : List Bool) : Bool := (fed size bs bs.length).wt.isNone
def openR (size : Nat) : Nat → List (List Bool)
  | 0 => [[]]
  | g + 1 => (openR size g).flatMap fun bs => if ended size bs then [] else [bs ++ [false], bs ++ [true]]
/-- the ends that have been found -/
def fnd (size : Nat) : Nat → List (List Bool)
  | 0 => []
  | g + 1 => fnd size g ++ (openR size g).filter (ended size)
def lens (size : Nat) : List Nat := (fnd size (2 * size + 1)).map List.length
def nxt (size : Nat) (bs : List Bool) : List (List Bool) := if ended size bs then [] else [bs ++ [false], bs ++ [true]]
theorem openR_mem {n : Nat} : ∀ {g : Nat} {bs : List Bool}, bs ∈ openR n g → bs.length = g ∧ ∀ i, i < g → (fed n bs i).wt ≠ none
  | 0, bs, h => by
    rw [show bs = [] from List.mem_singleton.mp h]
    exact ⟨rfl, fun i h => absurd h (Nat.not_lt_zero _)⟩
  | g + 1, bs, h => by
    obtain ⟨cs, hc, hb⟩ := List.mem_flatMap.mp h
    obtain ⟨l1, l2⟩ := openR_mem hc
    have key : ∀ b : Bool, ended n cs = false → bs = cs ++ [b] → bs.length = g + 1 ∧ ∀ i, i < g + 1 → (fed n bs i).wt ≠ none := fun b hn e => by
      subst e
      refine ⟨by rw [List.length_append, l1]; rfl, fun i hi => ?_⟩
      have ec : fed n (cs ++ [b]) i = fed n cs i := fed_congr fun x hx => by
        rw [List.getD_eq_getElem?_getD, List.getD_eq_getElem?_getD, List.getElem?_append_left (by omega)]
      rw [ec]
      by_cases e : i = g
      · unfold ended at hn
        rw [l1, ← e] at hn
        intro z
        rw [z] at hn
        cases hn
      · exact l2 i (by omega)
    by_cases hn : ended n cs = true
    · rw [if_pos hn] at hb
      cases hb
    · rw [if_neg hn] at hb
      have hn : ended n cs = false := by
        cases e : ended n cs with
        | false => rfl
        | true => exact absurd e hn
      rcases List.mem_cons.mp hb with e | hb
      · exact key false hn e
      · exact key true hn (List.mem_singleton.mp hb)
theorem openR_last {n : Nat} (z0 : 0 < n) (z1 : n ≤ 2000) : openR n (2 * n + 1) = [] := by
  cases e : openR n (2 * n + 1) with
  | nil => rfl
  | cons bs r =>
    have h : bs ∈ openR n (2 * n + 1) := by rw [e]; exact List.mem_cons_self ..
    obtain ⟨_, h2⟩ := openR_mem h
    have := fed_few z0 z1 bs h2
    omega
theorem flat_le (n : Nat) : ∀ L : List (List Bool), (L.flatMap (nxt n)).length ≤ 2 * L.length
  | [] => Nat.le_refl _
  | bs :: r => by
    have ih := flat_le n r
    rw [List.flatMap_cons, List.length_append, List.length_cons]
    have : (nxt n bs).length ≤ 2 := by
      unfold nxt
      split
      · exact Nat.zero_le _
      · exact Nat.le_refl 2
    omega
theorem openR_le (n : Nat) : ∀ g, (openR n g).length ≤ 2 ^ g
  | 0 => Nat.le_refl _
  | g + 1 => by
    have ih := openR_le n g
    have := flat_le n (openR n g)
    have e : (openR n (g + 1)).length ≤ 2 * (openR n g).length := this
    rw [Nat.pow_succ]
    omega
theorem fnd_le (n : Nat) : ∀ g, (fnd n g).length ≤ 2 ^ g
  | 0 => Nat.zero_le _
  | g + 1 => by
    have ih := fnd_le n g
    have h1 := openR_le n g
    have h2 := List.length_filter_le (ended n) (openR n g)
    show (fnd n g ++ (openR n g).filter (ended n)).length ≤ _
    rw [List.length_append, Nat.pow_succ]
    omega
end RF
/-- tuples stay -/
def TK (H H' : Hp) : Prop := ∀ t xs, H t = some (.tup xs) → H' t = some (.tup xs)
theorem TK.of {H H' : Hp} (s : Same H H') : TK H H' := fun t xs h => s _ _ h
theorem TK.trans {H H1 H2 : Hp} (a : TK H H1) (b : TK H1 H2) : TK H H2 := fun t xs h => b _ _ (a _ _ h)
theorem TK.put {H : Hp} {p : Addr} {xs ys : List V} (h : H p = some (.lst xs)) : TK H (upd H p (.lst ys)) := fun t zs ht => by
  rw [upd_ne (fun e => by rw [e, h] at ht; cases ht)]
  exact ht
/-- a list whose entries are told by a row -/
def LAt {β : Type} (R : Hp → V → β → Prop) (H : Hp) (p : Addr) (L : List β) : Prop := ∃ ts : List V, H p = some (.lst ts) ∧ ts.length = L.length ∧ ∀ (i : Nat) (v : V) (b : β), ts[i]? = some v → L[i]? = some b → R H v b
def RowT (H : Hp) (v : V) (bs : List Bool) : Prop := ∃ t, v = .ref t ∧ H t = some (.tup (bs.map V.bl))
def EndT (H : Hp) (v : V) (bs : List Bool) : Prop := ∃ t rt st, v = .ref t ∧ H t = some (.tup [.ref rt, .ref st]) ∧ H rt = some (.tup (bs.map V.bl))
theorem RowT.keep {H H' : Hp} {v : V} {bs : List Bool} (k : TK H H') (h : RowT H v bs) : RowT H' v bs := by
  obtain ⟨t, e, ht⟩ := h
  exact ⟨t, e, k _ _ ht⟩
theorem EndT.keep {H H' : Hp} {v : V} {bs : List Bool} (k : TK H H') (h : EndT H v bs) : EndT H' v bs := by
  obtain ⟨t, rt, st, e, ht, hr⟩ := h
  exact ⟨t, rt, st, e, k _ _ ht, k _ _ hr⟩
theorem LAt.keep {β : Type} {R : Hp → V → β → Prop} {H H' : Hp} {p : Addr} {L : List β} (hR : ∀ v b, R H v b → R H' v b) (hp : ∀ x, H p = some x → H' p = some x) (h : LAt R H p L) : LAt R H' p L := by
  obtain ⟨ts, h1, h2, h3⟩ := h
  exact ⟨ts, hp _ h1, h2, fun i v b e1 e2 => hR _ _ (h3 i v b e1 e2)⟩
theorem LAt.nil {β : Type} {R : Hp → V → β → Prop} {H : Hp} {p : Addr} (h : H p = some (.lst [])) : LAt R H p [] := ⟨[], h, rfl, fun i v b e => by simp at e⟩
theorem LAt.more {β : Type} {R : Hp → V → β → Prop} {H : Hp} {p : Addr} {L M : List β} {ts zs : List V} (hts : H p = some (.lst ts)) (h : LAt R H p L) (hR : ∀ v b, R H v b → R (upd H p (.lst (ts ++ zs))) v b) (hl : zs.length = M.length)
    (hz : ∀ (i : Nat) (v : V) (b : β), zs[i]? = some v → M[i]? = some b → R (upd H p (.lst (ts ++ zs))) v b) : LAt R (upd H p (.lst (ts ++ zs))) p (L ++ M) := by
  obtain ⟨ts', h1, h2, h3⟩ := h
  rw [hts] at h1
  cases h1
  refine ⟨ts ++ zs, upd_same, by rw [List.length_append, List.length_append, h2, hl], fun i v b e1 e2 => ?_⟩
  rcases Nat.lt_or_ge i ts.length with hi | hi
  · rw [List.getElem?_append_left hi] at e1
    rw [List.getElem?_append_left (by omega)] at e2
    exact hR _ _ (h3 i v b e1 e2)
  · rw [List.getElem?_append_right hi] at e1
    rw [List.getElem?_append_right (by omega), ← h2] at e2
    exact hz _ v b e1 e2
/-- the most questions, and that all ends together are one -/
def topR (n : Nat) : Nat := 2 * n - 2 - if n = 2 then 1 else 0
theorem lens_right : ∀ n, n < 7 → 0 < n → ((RF.lens n).map fun l => 2 ^ (topR n - l)).sum = 2 ^ topR n ∧ topR n ∈ RF.lens n ∧ ∀ l ∈ RF.lens n, l ≤ topR n := by decide +kernel
end L2

namespace L2
open PySem PySem.Spec PyProof.Rows
/-- len, said of one K (for a comprehension) -/
def rLenK (K : PySem.W.Frag) : List V → Hp → VK → Prop := fun xs H Q => ∃ p ys, xs = [.ref p] ∧ (SqL K H p ys ∨ SqT K H p ys) ∧ Q (.int ys.length) H
end L2

/-! sum of a list or a tuple of ints -/
namespace L2
open PySem PySem.Spec PyProof.Rows
theorem preSum_getD (ns : List Int) : ∀ k, k ≤ ns.length → preSum (fun i => ns.getD i 0) k = (ns.take k).sum
  | 0, _ => rfl
  | k + 1, h => by
    have ih := preSum_getD ns k (by omega)
    rw [List.take_add_one, List.getElem?_eq_getElem (by omega), List.sum_append, ← ih]
    simp [preSum, List.getD_eq_getElem?_getD, List.getElem?_eq_getElem (show k < ns.length by omega)]
def rSumLT (K : PySem.W.Frag) : List V → Hp → VK → Prop := fun vs H Q => ∃ (a : Addr) (ns : List Int), vs = [V.ref a] ∧ (SqL K H a (ns.map V.int) ∨ SqT K H a (ns.map V.int)) ∧ Q (.int ns.sum) H
theorem cr_sumLT {X : Cx} (hc : X.calm = true) : CallR X (.builtin "sum") (rSumLT X.K) := by
  intro pins s σ H vs us Q I r h
  obtain ⟨a, ns, rfl, hs | hs, q⟩ := h
  · exact cr_sum hc pins s σ H _ us Q I r ⟨a, ns, rfl, hs, q⟩
  · obtain ⟨its, rv, pt, hz⟩ := I.tuple hs
    have hi : IntsAre its.toArray.toList ns := ints_of_vals rv
    have ist : s.heap.IsTuple a its.toArray := pt
    have ln : its.toArray.size = ns.length := by rw [← Array.length_toList]; exact IntsAre.length hi
    have ha : a < s.heap.objs.size := by
      obtain ⟨o, ho, _⟩ := id ist
      exact Heap.lt_size ho
    rw [Vals.ref1 r]
    refine call_sum_walkG (wpAny_pyIter_tuple ist ⟨_, _, _, _, _, _, fun i => ns.getD i 0, rfl, Walks.tuple (A := X.A.in1) (I.ok.hd hc) _ a (Nat.ne_of_lt ha) its.toArray, ⟨⟨_, Heap.get?_push_size _ rfl, rfl, rfl⟩, ist.push _⟩, ?_, ?_, ?_⟩)
    · intro b hb
      rw [Heap.size_push]
      rcases List.mem_cons.mp hb with e | hb
      · rw [e]
        exact Nat.lt_succ_self _
      · rw [List.mem_singleton.mp hb]
        exact Nat.lt_succ_of_lt ha
    · intro i v hv
      exact PyProof.Rows.IntsAre.int_at hi i v (by rw [Array.getElem?_toList]; exact hv)
    · intro h2 tk t2 hk
      have e : preSum (fun i => ns.getD i 0) its.toArray.size = ns.sum := by
        rw [ln, preSum_getD ns _ (Nat.le_refl _), List.take_length]
      rw [e]
      refine ⟨.int _, H, I.kept (t' := tk) fun b o ho => hk b o ?_ (Heap.get?_push_of_some _ ho), ⟨_, rfl⟩, q⟩
      intro z
      have := Heap.lt_size ho
      rw [List.mem_singleton.mp z] at this
      exact Nat.lt_irrefl _ this
end L2

namespace L2
open PySem PySem.Spec PyProof.Rows
namespace PF
/-- the fewest questions of an item at this index -/
def fb (m : Nat) : Nat := (m + 1).log2
theorem fb_zero : fb 0 = 0 := by decide
theorem fb_half {m m' : Nat} (h : 0 < m) (h2 : (m + 1) / 2 ≤ m' + 1) : fb m ≤ fb m' + 1 := by
  unfold fb
  have e0 : m + 1 ≠ 0 := by omega
  have a1 : 2 ^ (m + 1).log2 ≤ m + 1 := Nat.log2_self_le e0
  by_cases z : (m + 1).log2 = 0
  · omega
  · have : (m + 1).log2 - 1 ≤ (m' + 1).log2 := (Nat.le_log2 (by omega)).mpr (by
      have e : 2 ^ (m + 1).log2 = 2 * 2 ^ ((m + 1).log2 - 1) := by
        rw [show (m + 1).log2 = ((m + 1).log2 - 1) + 1 by omega, Nat.pow_succ]
        simp only [Nat.add_sub_cancel]
        omega
      omega)
    omega
theorem fb_step {m : Nat} (h : 0 < m) : fb m = fb ((m - 1) / 2) + 1 := by
  have h1 := fb_half (m := m) (m' := (m - 1) / 2) h (by omega)
  have h2 : fb ((m - 1) / 2) + 1 ≤ fb m := by
    unfold fb
    have a1 : 2 ^ ((m - 1) / 2 + 1).log2 ≤ (m - 1) / 2 + 1 := Nat.log2_self_le (by omega)
    exact (Nat.le_log2 (by omega)).mpr (by rw [Nat.pow_succ]; omega)
  omega
theorem bl_step {m : Nat} (h : 0 < m) : bl m = bl (m / 2) + 1 := by
  have h1 := bl_half (m' := m / 2) h (Nat.le_refl _)
  have h2 : bl m ≤ bl (m / 2) + 1 := by
    unfold bl
    rw [if_neg (by omega : m ≠ 0)]
    by_cases e : m / 2 = 0
    · rw [if_pos e]
      have : m = 1 := by omega
      subst this
      decide
    · rw [if_neg e]
      have a1 : m / 2 < 2 ^ ((m / 2).log2 + 1) := (Nat.log2_lt e).mp (Nat.lt_succ_self _)
      have : m.log2 < (m / 2).log2 + 2 := (Nat.log2_lt (by omega)).mpr (by rw [Nat.pow_succ]; omega)
      omega
  omega
/-- added up from one index to the end -/
def S (g : Nat → Nat) (a n : Nat) : Nat := ((List.range (n - a)).map fun j => g (a + j)).sum
theorem S_end {g : Nat → Nat} {a n : Nat} (h : n ≤ a) : S g a n = 0 := by
  unfold S
  rw [Nat.sub_eq_zero_of_le h]
  rfl
theorem S_step {g : Nat → Nat} {a n : Nat} (h : a < n) : S g a n = g a + S g (a + 1) n := by
  unfold S
  have e : n - a = (n - (a + 1)) + 1 := by omega
  rw [e, List.range_succ_eq_map, List.map_cons, List.sum_cons, List.map_map, Nat.add_zero]
  congr 2
  exact List.map_congr_left fun j _ => by
    show g (a + (j + 1)) = g (a + 1 + j)
    congr 1
    omega
/-- what is still to come, at most and at least -/
def hiP (e : Nat) (f : PF) : Nat := if f.wt = none then 0 else bl (f.hi - f.lo) + S bl (f.pl + 1) e
def loP (e : Nat) (f : PF) : Nat := if f.wt = none then 0 else fb (f.hi - f.lo) + S fb (f.pl + 1) e
theorem hiP_begin {e : Nat} {f : PF} : hiP e (begin e f) = S bl f.pl e := by
  unfold PF.begin
  by_cases h : f.pl < e
  · rw [if_pos h, S_step h]
    unfold hiP
    rw [if_neg (by intro z; cases z)]
    rfl
  · rw [if_neg h, S_end (by omega)]
    unfold hiP
    rw [if_pos rfl]
theorem loP_begin {e : Nat} {f : PF} : loP e (begin e f) = S fb f.pl e := by
  unfold PF.begin
  by_cases h : f.pl < e
  · rw [if_pos h, S_step h]
    unfold loP
    rw [if_neg (by intro z; cases z)]
    rfl
  · rw [if_neg h, S_end (by omega)]
    unfold loP
    rw [if_pos rfl]
theorem hiP_put {e : Nat} {f : PF} : hiP e (put e f) = S bl (f.pl + 1) e := hiP_begin
theorem loP_put {e : Nat} {f : PF} : loP e (put e f) = S fb (f.pl + 1) e := loP_begin
theorem hiP_act {e : Nat} {f : PF} (h : f.wt ≠ none) : hiP e f = bl (f.hi - f.lo) + S bl (f.pl + 1) e := by unfold hiP; rw [if_neg h]
theorem loP_act {e : Nat} {f : PF} (h : f.wt ≠ none) : loP e f = fb (f.hi - f.lo) + S fb (f.pl + 1) e := by unfold loP; rw [if_neg h]
theorem hiP_half {e : Nat} {f : PF} (b : Bool) : hiP e (take e b f) = bl ((half b f).hi - (half b f).lo) + S bl (f.pl + 1) e := by
  unfold PF.take
  split
  · unfold hiP
    rw [if_neg (by intro z; cases z)]
    show bl ((half b f).hi - (half b f).lo) + S bl ((half b f).pl + 1) e = _
    rw [half_pl]
  · rename_i h
    rw [hiP_put, half_pl, Nat.sub_eq_zero_of_le (Nat.le_of_not_lt h)]
    show _ = bl 0 + _
    rw [show bl 0 = 0 from rfl, Nat.zero_add]
theorem loP_half {e : Nat} {f : PF} (b : Bool) : loP e (take e b f) = fb ((half b f).hi - (half b f).lo) + S fb (f.pl + 1) e := by
  unfold PF.take
  split
  · unfold loP
    rw [if_neg (by intro z; cases z)]
    show fb ((half b f).hi - (half b f).lo) + S fb ((half b f).pl + 1) e = _
    rw [half_pl]
  · rename_i h
    rw [loP_put, half_pl, Nat.sub_eq_zero_of_le (Nat.le_of_not_lt h), fb_zero, Nat.zero_add]
theorem hiP_take {e : Nat} {f : PF} (a : Act e f) (h : f.wt ≠ none) (b : Bool) : hiP e (take e b f) + 1 ≤ hiP e f := by
  have h2 := a.lh; have h3 := a.md
  rw [hiP_half, hiP_act h]
  have : bl ((half b f).hi - (half b f).lo) + 1 ≤ bl (f.hi - f.lo) := by
    refine bl_half (by omega) ?_
    unfold half
    split
    · show f.mid - f.lo ≤ _; omega
    · show f.hi - (f.mid + 1) ≤ _; omega
  omega
theorem loP_take {e : Nat} {f : PF} (a : Act e f) (h : f.wt ≠ none) (b : Bool) : loP e f ≤ loP e (take e b f) + 1 := by
  have h2 := a.lh; have h3 := a.md
  rw [loP_half, loP_act h]
  have : fb (f.hi - f.lo) ≤ fb ((half b f).hi - (half b f).lo) + 1 := by
    refine fb_half (by omega) ?_
    unfold half
    split
    · show _ ≤ f.mid - f.lo + 1; omega
    · show _ ≤ f.hi - (f.mid + 1) + 1; omega
  omega
theorem stps_hi {e : Nat} {row0 : List Nat} {f : PF} (ls : Nat × Nat → Bool) (g : Good e row0 f) : ∀ k, (∀ i, i < k → (f.stps ls e i).wt ≠ none) → k + hiP e (f.stps ls e k) ≤ hiP e f
  | 0, _ => by show 0 + hiP e f ≤ hiP e f; omega
  | k + 1, h => by
    have ih := stps_hi ls g k fun i hi => h i (by omega)
    have hk := h k (by omega)
    obtain ⟨q, hq⟩ := Option.ne_none_iff_exists'.mp hk
    have := hiP_take ((g.stps ls k).act hk) hk (ls q)
    rw [stps_next hq]
    omega
theorem stps_lo {e : Nat} {row0 : List Nat} {f : PF} (ls : Nat × Nat → Bool) (g : Good e row0 f) : ∀ k, (∀ i, i < k → (f.stps ls e i).wt ≠ none) → loP e f ≤ k + loP e (f.stps ls e k)
  | 0, _ => by show loP e f ≤ 0 + loP e f; omega
  | k + 1, h => by
    have ih := stps_lo ls g k fun i hi => h i (by omega)
    have hk := h k (by omega)
    obtain ⟨q, hq⟩ := Option.ne_none_iff_exists'.mp hk
    have := loP_take ((g.stps ls k).act hk) hk (ls q)
    rw [stps_next hq]
    omega
/-- the ends of a placing -/
theorem count_between {e rd N : Nat} {row : List Nat} (ls : Nat × Nat → Bool) (l : row.length = e) (h64 : e ≤ 64) (hw : ((init row e rd).stps ls e N).wt = none) (hbe : ∀ i, i < N → ((init row e rd).stps ls e i).wt ≠ none) : S fb (max rd 1) e ≤ N ∧ N ≤ S bl (max rd 1) e := by
  have g := Good.init (rd := rd) l h64
  have h1 := stps_hi ls g N hbe
  have h2 := stps_lo ls g N hbe
  have e1 : hiP e (init row e rd) = S bl (max rd 1) e := hiP_begin
  have e2 : loP e (init row e rd) = S fb (max rd 1) e := loP_begin
  have e3 : hiP e ((init row e rd).stps ls e N) = 0 := by unfold hiP; rw [if_pos hw]
  have e4 : loP e ((init row e rd).stps ls e N) = 0 := by unfold loP; rw [if_pos hw]
  omega
/-! all that stand stay -/
def Stay (e : Nat) (f : PF) : Prop := f.row = List.range e ∧ (f.wt ≠ none → f.hi = f.pl)
theorem moved_self {row : List Nat} {pl : Nat} (h : pl < row.length) : moved row pl pl = row := by
  unfold moved
  rw [Nat.sub_self, List.take_zero, List.nil_append]
  have a1 : row.drop pl = row.getD pl 0 :: row.drop (pl + 1) := by
    rw [List.drop_eq_getElem_cons h]
    simp [List.getD_eq_getElem?_getD, List.getElem?_eq_getElem h]
  rw [← a1, List.take_append_drop]
theorem Stay.begin {e : Nat} {f : PF} (h : f.row = List.range e) : Stay e (begin e f) := by
  unfold PF.begin
  split
  · exact ⟨h, fun _ => rfl⟩
  · exact ⟨h, fun z => absurd rfl z⟩
theorem stay_take {e : Nat} {f : PF} (a : Act e f) (h : f.wt ≠ none) (s : Stay e f) : Stay e (take e false f) ∧ loP e f = loP e (take e false f) + 1 := by
  have h1 := a.hp; have h2 := a.lh; have h3 := a.md; have h4 := a.pe
  have hh := s.2 h
  constructor
  · unfold PF.take
    split
    · exact ⟨s.1, fun _ => hh⟩
    · rename_i hl
      have el : f.mid + 1 = f.pl := by
        have hl : ¬ (f.mid + 1 < f.hi) := hl
        omega
      refine Stay.begin ?_
      show moved f.row (f.mid + 1) f.pl = _
      rw [el, s.1, moved_self (by rw [List.length_range]; exact h4)]
  · rw [loP_half, loP_act h]
    show _ = fb (f.hi - (f.mid + 1)) + _ + 1
    have e1 : f.hi - (f.mid + 1) = (f.hi - f.lo - 1) / 2 := by omega
    rw [e1, fb_step (by omega : 0 < f.hi - f.lo)]
    omega
theorem stay_stps {e : Nat} {row0 : List Nat} {f : PF} (ls : Nat × Nat → Bool) (hls : ∀ x y, y < x → x < e → ls (x, y) = false) (g : Good e row0 f) (s : Stay e f) : ∀ k, (∀ i, i < k → (f.stps ls e i).wt ≠ none) → Stay e (f.stps ls e k) ∧ loP e f = k + loP e (f.stps ls e k)
  | 0, _ => ⟨s, by show loP e f = 0 + loP e f; omega⟩
  | k + 1, h => by
    obtain ⟨s1, e1⟩ := stay_stps ls hls g s k fun i hi => h i (by omega)
    have hk := h k (by omega)
    obtain ⟨q, hq⟩ := Option.ne_none_iff_exists'.mp hk
    have a := (g.stps ls k).act hk
    have h1 := a.hp; have h2 := a.lh; have h3 := a.md; have h4 := a.pe
    have eq : q = ((f.stps ls e k).pl, (f.stps ls e k).mid) := by
      have := a.wq
      rw [hq, s1.1] at this
      have e2 : ∀ i, i < e → (List.range e).getD i 0 = i := fun i hi => by
        rw [List.getD_eq_getElem?_getD, List.getElem?_range hi]
        rfl
      rw [e2 _ h4, e2 _ (by omega)] at this
      exact Option.some.inj this
    have hf : ls q = false := by rw [eq]; exact hls _ _ (by omega) h4
    obtain ⟨t1, t2⟩ := stay_take a hk s1
    rw [stps_next hq, hf]
    exact ⟨t1, by omega⟩
theorem count_easy {e rd N : Nat} (ls : Nat × Nat → Bool) (hls : ∀ x y, y < x → x < e → ls (x, y) = false) (h64 : e ≤ 64) (hw : ((init (List.range e) e rd).stps ls e N).wt = none) (hbe : ∀ i, i < N → ((init (List.range e) e rd).stps ls e i).wt ≠ none) : N = S fb (max rd 1) e := by
  have g := Good.init (rd := rd) (row := List.range e) List.length_range h64
  obtain ⟨_, h2⟩ := stay_stps ls hls g (Stay.begin rfl) N hbe
  have e2 : loP e (init (List.range e) e rd) = S fb (max rd 1) e := loP_begin
  have e4 : loP e ((init (List.range e) e rd).stps ls e N) = 0 := by unfold loP; rw [if_pos hw]
  omega
/-! all go to the front -/
def Front (e m : Nat) (f : PF) : Prop := m ≤ f.pl ∧ f.row.drop f.pl = (List.range e).drop f.pl ∧ (∀ x ∈ f.row.take f.pl, x < f.pl) ∧ (f.wt ≠ none → f.lo = 0)
theorem Front.begin {e m : Nat} {f : PF} (h1 : m ≤ f.pl) (h2 : f.row.drop f.pl = (List.range e).drop f.pl) (h3 : ∀ x ∈ f.row.take f.pl, x < f.pl) : Front e m (begin e f) := by
  unfold PF.begin
  split
  · exact ⟨h1, h2, h3, fun _ => rfl⟩
  · exact ⟨h1, h2, h3, fun z => absurd rfl z⟩
theorem front_take {e m : Nat} {f : PF} (l : f.row.length = e) (a : Act e f) (h : f.wt ≠ none) (s : Front e m f) : Front e m (take e true f) ∧ hiP e f = hiP e (take e true f) + 1 := by
  have h1 := a.hp; have h2 := a.lh; have h3 := a.md; have h4 := a.pe
  obtain ⟨s1, s2, s3, s4⟩ := s
  have hl0 := s4 h
  constructor
  · unfold PF.take
    split
    · exact ⟨s1, s2, s3, fun _ => hl0⟩
    · have e0 : (half true f).lo = 0 := hl0
      have lm : (moved f.row 0 f.pl).length = e := by rw [moved_len (Nat.zero_le _) (by omega)]; exact l
      have em : moved f.row 0 f.pl = f.row.getD f.pl 0 :: (f.row.take f.pl ++ f.row.drop (f.pl + 1)) := by
        unfold moved
        rw [List.take_zero, List.nil_append, List.drop_zero, Nat.sub_zero]
      have ep : f.row.getD f.pl 0 = f.pl := by
        have a2 : f.row[f.pl]? = (f.row.drop f.pl)[0]? := by rw [List.getElem?_drop]; rfl
        rw [List.getD_eq_getElem?_getD, a2, s2, List.getElem?_drop, Nat.add_zero, List.getElem?_range h4]
        rfl
      have ltk : (f.row.take f.pl).length = f.pl := by rw [List.length_take]; omega
      refine Front.begin (by show m ≤ f.pl + 1; omega) ?_ ?_
      · show (moved f.row (half true f).lo f.pl).drop (f.pl + 1) = (List.range e).drop (f.pl + 1)
        rw [e0, em, List.drop_succ_cons, List.drop_left' ltk]
        have := congrArg (List.drop 1) s2
        rw [List.drop_drop, List.drop_drop] at this
        exact this
      · intro x hx
        have hx : x ∈ (moved f.row (half true f).lo f.pl).take (f.pl + 1) := hx
        rw [e0, em, List.take_succ_cons, List.take_left' ltk] at hx
        show x < f.pl + 1
        rcases List.mem_cons.mp hx with e | hx
        · omega
        · have := s3 x hx
          omega
  · rw [hiP_half, hiP_act h]
    show _ = bl (f.mid - f.lo) + _ + 1
    have e1 : f.mid - f.lo = (f.hi - f.lo) / 2 := by omega
    rw [e1, bl_step (by omega : 0 < f.hi - f.lo)]
    omega
theorem front_stps {e m : Nat} {row0 : List Nat} {f : PF} (ls : Nat × Nat → Bool) (hls : ∀ x y, m ≤ x → y < x → x < e → ls (x, y) = true) (g : Good e row0 f) (s : Front e m f) : ∀ k, (∀ i, i < k → (f.stps ls e i).wt ≠ none) → Front e m (f.stps ls e k) ∧ hiP e f = k + hiP e (f.stps ls e k)
  | 0, _ => ⟨s, by show hiP e f = 0 + hiP e f; omega⟩
  | k + 1, h => by
    obtain ⟨s1, e1⟩ := front_stps ls hls g s k fun i hi => h i (by omega)
    have hk := h k (by omega)
    obtain ⟨q, hq⟩ := Option.ne_none_iff_exists'.mp hk
    have gk := g.stps ls k
    have a := gk.act hk
    have h1 := a.hp; have h2 := a.lh; have h3 := a.md; have h4 := a.pe; have h5 := gk.len
    have hf : ls q = true := by
      have hwq := a.wq
      rw [hq] at hwq
      have ep : (f.stps ls e k).row.getD (f.stps ls e k).pl 0 = (f.stps ls e k).pl := by
        have a2 : (f.stps ls e k).row[(f.stps ls e k).pl]? = ((f.stps ls e k).row.drop (f.stps ls e k).pl)[0]? := by rw [List.getElem?_drop]; rfl
        rw [List.getD_eq_getElem?_getD, a2, s1.2.1, List.getElem?_drop, Nat.add_zero, List.getElem?_range h4]
        rfl
      have em : (f.stps ls e k).row.getD (f.stps ls e k).mid 0 ∈ (f.stps ls e k).row.take (f.stps ls e k).pl := by
        rw [List.getD_eq_getElem?_getD, List.getElem?_eq_getElem (by omega : (f.stps ls e k).mid < (f.stps ls e k).row.length)]
        show (f.stps ls e k).row[(f.stps ls e k).mid]'(by omega) ∈ _
        exact List.mem_take_iff_getElem.mpr ⟨(f.stps ls e k).mid, by omega, rfl⟩
      have hx := s1.2.2.1 _ em
      rw [Option.some.inj hwq, ep]
      exact hls _ _ s1.1 hx h4
    obtain ⟨t1, t2⟩ := front_take h5 a hk s1
    rw [stps_next hq, hf]
    exact ⟨t1, by omega⟩
theorem count_hard {e rd N : Nat} (ls : Nat × Nat → Bool) (hls : ∀ x y, max rd 1 ≤ x → y < x → x < e → ls (x, y) = true) (h64 : e ≤ 64) (hw : ((init (List.range e) e rd).stps ls e N).wt = none) (hbe : ∀ i, i < N → ((init (List.range e) e rd).stps ls e i).wt ≠ none) : N = S bl (max rd 1) e := by
  have g := Good.init (rd := rd) (row := List.range e) List.length_range h64
  have fr : Front e (max rd 1) (init (List.range e) e rd) := Front.begin (Nat.le_refl _) rfl fun x hx => by
    have hx : x ∈ (List.range e).take (max rd 1) := hx
    rw [List.take_range] at hx
    have := List.mem_range.mp hx
    show x < max rd 1
    omega
  obtain ⟨_, h2⟩ := front_stps ls hls g fr N hbe
  have e2 : hiP e (init (List.range e) e rd) = S bl (max rd 1) e := hiP_begin
  have e4 : hiP e ((init (List.range e) e rd).stps ls e N) = 0 := by unfold hiP; rw [if_pos hw]
  omega
/-! the ways to a place -/
def spots (place : Nat) : Nat → Nat → Nat → Nat
  | 0, _, _ => 0
  | k + 1, lo, hi => if lo < hi then (if place ≤ (lo + hi) / 2 then spots place k lo ((lo + hi) / 2) else spots place k ((lo + hi) / 2 + 1) hi) + 1 else 0
def way (i p : Nat) : Nat := spots p 64 0 i
theorem ways_right : ∀ i, i < 64 → 0 < i → way i 0 = bl i ∧ way i 1 = bl i ∧ way i i = fb i ∧ ∀ p, p < i + 1 → fb i ≤ way i p ∧ way i p ≤ bl i := by decide +kernel
end PF
end L2

namespace L2
namespace Lv
open PF
/-! levels of borders: how many figures two middles have alike -/
theorem bl_le {n k : Nat} : bl n ≤ k ↔ n < 2 ^ k := by
  unfold bl
  by_cases h : n = 0
  · subst h
    simp [Nat.two_pow_pos]
  · rw [if_neg h, ← Nat.log2_lt h]
    omega
/-- the first c figures of a number below W, out of W -/
def fig (W m c : Nat) : Nat := m * 2 ^ c / W
theorem fig_shift {W m c F : Nat} (h : c ≤ F) : fig W m c = fig W m F / 2 ^ (F - c) := by
  unfold fig
  rw [Nat.div_div_eq_div_mul, show F = c + (F - c) by omega, Nat.pow_add, show c + (F - c) - c = F - c by omega, ← Nat.mul_assoc]
  rw [Nat.mul_div_mul_right _ _ (Nat.two_pow_pos _)]
theorem xor_zero {x y : Nat} : x ^^^ y = 0 ↔ x = y := by
  constructor
  · intro h
    refine Nat.eq_of_testBit_eq fun i => ?_
    have := congrArg (fun z => z.testBit i) h
    simp only [Nat.testBit_xor, Nat.zero_testBit] at this
    cases hx : x.testBit i <;> cases hy : y.testBit i <;> simp_all
  · rintro rfl
    exact Nat.xor_self _
theorem xor_div {x y k : Nat} : (x ^^^ y) / 2 ^ k = (x / 2 ^ k) ^^^ (y / 2 ^ k) := by
  rw [← Nat.shiftRight_eq_div_pow, ← Nat.shiftRight_eq_div_pow, ← Nat.shiftRight_eq_div_pow, Nat.shiftRight_xor_distrib]
/-- alike so far exactly if the figures that are unlike lie behind -/
theorem fig_alike {W m n c F : Nat} (h : c ≤ F) : fig W m c = fig W n c ↔ bl (fig W m F ^^^ fig W n F) ≤ F - c := by
  rw [fig_shift h, fig_shift (m := n) h, ← xor_zero, ← xor_div, bl_le]
  exact Nat.div_eq_zero_iff_lt (Nat.two_pow_pos _)
theorem fig_lt {W m c : Nat} (h : m < W) : fig W m c < 2 ^ c := by
  unfold fig
  refine (Nat.div_lt_iff_lt_mul (by omega)).mpr ?_
  rw [Nat.mul_comm]
  exact (Nat.mul_lt_mul_left (Nat.two_pow_pos _)).mpr h
/-- enough figures -/
def enough (W d : Nat) : Nat := bl W - bl d + 1
theorem enough_apart {W m d : Nat} (hd : 0 < d) (h : d ≤ W) : fig W m (enough W d) ≠ fig W (m + d) (enough W d) := by
  have h1 : W < 2 ^ bl W := bl_le.mp (Nat.le_refl _)
  have h2 : 2 ^ (bl d - 1) ≤ d := Nat.le_of_not_lt fun z => by
    have := bl_le.mpr z
    have : 0 < bl d := by
      unfold bl
      rw [if_neg (by omega)]
      omega
    omega
  have h3 : bl d ≤ bl W := bl_le.mpr (Nat.lt_of_le_of_lt h h1)
  have h4 : 0 < bl d := by
    unfold bl
    rw [if_neg (by omega)]
    omega
  have h5 : W ≤ d * 2 ^ enough W d := by
    have : 2 ^ (bl d - 1) * 2 ^ enough W d ≤ d * 2 ^ enough W d := Nat.mul_le_mul_right _ h2
    rw [← Nat.pow_add, show bl d - 1 + enough W d = bl W by unfold enough; omega] at this
    omega
  have h6 : 0 < W := by omega
  unfold fig
  rw [Nat.add_mul]
  have : (m * 2 ^ enough W d + W) / W ≤ (m * 2 ^ enough W d + d * 2 ^ enough W d) / W := Nat.div_le_div_right (by omega)
  rw [Nat.add_div_right _ h6] at this
  omega
/-- the level by the figures -/
def lev (W m d : Nat) : Nat := enough W d - bl (fig W m (enough W d) ^^^ fig W (m + d) (enough W d)) + 1
theorem lev_right {W m d : Nat} (hd : 0 < d) (h : m + d < W) : bl (fig W m (enough W d) ^^^ fig W (m + d) (enough W d)) ≤ enough W d ∧ 1 ≤ lev W m d ∧ lev W m d ≤ enough W d ∧
    (∀ c, c < lev W m d → fig W m c = fig W (m + d) c) ∧ fig W m (lev W m d) ≠ fig W (m + d) (lev W m d) := by
  have ap := enough_apart (W := W) (m := m) hd (by omega)
  have b1 : bl (fig W m (enough W d) ^^^ fig W (m + d) (enough W d)) ≤ enough W d := bl_le.mpr (Nat.xor_lt_two_pow (fig_lt (by omega)) (fig_lt h))
  have b2 : ¬ bl (fig W m (enough W d) ^^^ fig W (m + d) (enough W d)) ≤ 0 := fun z => ap ((fig_alike (Nat.le_refl _)).mpr (by omega))
  have e : lev W m d = enough W d - bl (fig W m (enough W d) ^^^ fig W (m + d) (enough W d)) + 1 := rfl
  refine ⟨b1, by omega, by omega, fun c hc => (fig_alike (F := enough W d) (by omega)).mpr (by omega), fun z => ?_⟩
  have := (fig_alike (F := enough W d) (by omega)).mp z
  omega
end Lv
end L2

namespace L2
open PySem PySem.Spec PyProof.Rows
/-- a piece: where it starts, how long it is, the level of the border above -/
structure Pc where
  st : Nat
  ln : Nat
  lv : Option Nat
def optV : Option Nat → V
  | none => .non
  | some n => .int (n : Int)
/-- pieces, tuples of three, in a list -/
def PcAt (H : Hp) (v : V) (c : Pc) : Prop := ∃ t, v = .ref t ∧ H t = some (.tup [.int (c.st : Int), .int (c.ln : Int), optV c.lv])
def PcsAt (H : Hp) (r : Addr) (ps : List Pc) : Prop := ∃ ts : List V, H r = some (.lst ts) ∧ ts.length = ps.length ∧ ∀ (i : Nat) (v : V) (c : Pc), ts[i]? = some v → ps[i]? = some c → PcAt H v c
theorem PcAt.keep {H H' : Hp} {v : V} {c : Pc} (k : ∀ t xs, H t = some (.tup xs) → H' t = some (.tup xs)) (h : PcAt H v c) : PcAt H' v c := by
  obtain ⟨t, e, h⟩ := h
  exact ⟨t, e, k _ _ h⟩
theorem PcsAt.same {H H' : Hp} {r : Addr} {ps : List Pc} (h : PcsAt H r ps) (s : Same H H') : PcsAt H' r ps := by
  obtain ⟨ts, h1, h2, h3⟩ := h
  exact ⟨ts, s _ _ h1, h2, fun i v c a b => (h3 i v c a b).keep fun _ _ => s _ _⟩
/-- the pieces at a list that is written anew: the old tuples stay -/
theorem PcsAt.write {H : Hp} {r : Addr} {ts' : List V} {ps' : List Pc} (l : ts'.length = ps'.length) (h : ∀ (i : Nat) (v : V) (c : Pc), ts'[i]? = some v → ps'[i]? = some c → PcAt H v c) (hr : ∃ ts, H r = some (.lst ts)) : PcsAt (upd H r (.lst ts')) r ps' := by
  refine ⟨ts', upd_same, l, fun i v c a b => (h i v c a b).keep fun t xs ht => ?_⟩
  obtain ⟨ts, hr⟩ := hr
  rw [upd_ne (fun e => by rw [e, hr] at ht; cases ht)]
  exact ht
theorem PcsAt.item {H : Hp} {ps : List Pc} {ts : List V} {i : Nat} {c : Pc} (l : ts.length = ps.length) (h : ∀ (i : Nat) (v : V) (c : Pc), ts[i]? = some v → ps[i]? = some c → PcAt H v c) (hc : ps[i]? = some c) : ∃ t, ts[i]? = some (.ref t) ∧ H t = some (.tup [.int (c.st : Int), .int (c.ln : Int), optV c.lv]) := by
  have hi := (List.getElem?_eq_some_iff.mp hc).1
  obtain ⟨t, e, ht⟩ := h i ts[i] c (List.getElem?_eq_getElem (by omega)) hc
  exact ⟨t, by rw [List.getElem?_eq_getElem (by omega), e], ht⟩
/-- joins, tuples of three, in a list -/
def TriAt (H : Hp) (v : V) (j : Nat × Nat × Nat) : Prop := ∃ t, v = .ref t ∧ H t = some (.tup [.int (j.1 : Int), .int (j.2.1 : Int), .int (j.2.2 : Int)])
def TrisAt (H : Hp) (l : Addr) (js : List (Nat × Nat × Nat)) : Prop := ∃ ts : List V, H l = some (.lst ts) ∧ ts.length = js.length ∧ ∀ (i : Nat) (v : V) (j : Nat × Nat × Nat), ts[i]? = some v → js[i]? = some j → TriAt H v j
theorem TrisAt.keep {H H' : Hp} {l : Addr} {js : List (Nat × Nat × Nat)} (h : TrisAt H l js) (kl : ∀ xs, H l = some (.lst xs) → H' l = some (.lst xs)) (kt : ∀ t xs, H t = some (.tup xs) → H' t = some (.tup xs)) : TrisAt H' l js := by
  obtain ⟨ts, h1, h2, h3⟩ := h
  refine ⟨ts, kl _ h1, h2, fun i v j a b => ?_⟩
  obtain ⟨t, e, ht⟩ := h3 i v j a b
  exact ⟨t, e, kt _ _ ht⟩
theorem PcsAt.keep {H H' : Hp} {r : Addr} {ps : List Pc} (h : PcsAt H r ps) (kl : ∀ xs, H r = some (.lst xs) → H' r = some (.lst xs)) (kt : ∀ t xs, H t = some (.tup xs) → H' t = some (.tup xs)) : PcsAt H' r ps := by
  obtain ⟨ts, h1, h2, h3⟩ := h
  exact ⟨ts, kl _ h1, h2, fun i v c a b => (h3 i v c a b).keep kt⟩
theorem TrisAt.push {H : Hp} {l : Addr} {js : List (Nat × Nat × Nat)} {ts : List V} {t : Addr} {j : Nat × Nat × Nat} (hts : H l = some (.lst ts)) (h : TrisAt H l js) (ht : H t = some (.tup [.int (j.1 : Int), .int (j.2.1 : Int), .int (j.2.2 : Int)])) : TrisAt (upd H l (.lst (ts ++ [.ref t]))) l (js ++ [j]) := by
  obtain ⟨ts', h1, h2, h3⟩ := h
  have e : ts' = ts := by
    have := h1.symm.trans hts
    exact HO.lst.inj (Option.some.inj this)
  subst e
  have kt : ∀ t xs, H t = some (.tup xs) → upd H l (.lst (ts' ++ [.ref t])) t = some (.tup xs) := fun t xs z => by rw [upd_ne (fun e => by rw [e, hts] at z; cases z)]; exact z
  refine ⟨_, upd_same, by rw [List.length_append, List.length_append, h2]; rfl, fun i v k a b => ?_⟩
  have kt2 : ∀ t2 xs, H t2 = some (.tup xs) → upd H l (.lst (ts' ++ [.ref t])) t2 = some (.tup xs) := fun t2 xs z => by rw [upd_ne (fun e => by rw [e, hts] at z; cases z)]; exact z
  rcases Nat.lt_or_ge i js.length with c | c
  · rw [List.getElem?_append_left (by omega)] at a b
    obtain ⟨t', e, z⟩ := h3 i v k a b
    exact ⟨t', e, kt2 _ _ z⟩
  · rw [List.getElem?_append_right (by omega)] at a b
    rw [h2] at a
    have e0 : i - js.length = 0 := by
      have := (List.getElem?_eq_some_iff.mp a).1
      simp only [List.length_singleton] at this
      omega
    rw [e0] at a b
    rw [← Option.some.inj a, ← Option.some.inj b]
    exact ⟨t, rfl, kt2 _ _ ht⟩
namespace Pile
/-- the piece above gets a level, the new one comes on top -/
def put (ps : List Pc) (s l : Nat) (b : Option Nat) : List Pc := match ps.getLast? with
  | none => [⟨s, l, none⟩]
  | some c => ps.dropLast ++ [⟨c.st, c.ln, b⟩, ⟨s, l, none⟩]
/-- two neighbours are joined -/
def join (ps : List Pc) (i : Nat) : List Pc := match ps[i]?, ps[i + 1]? with
  | some c, some e => ps.take i ++ [⟨c.st, c.ln + e.ln, e.lv⟩] ++ ps.drop (i + 2)
  | _, _ => ps
def next (ps : List Pc) : Nat := match ps[ps.length - 3]?, ps[ps.length - 1]? with
  | some c, some e => if 3 ≤ ps.length ∧ c.ln < e.ln then ps.length - 3 else ps.length - 2
  | _, _ => ps.length - 2
def hasTo (ps : List Pc) (b : Nat) : Bool := match ps.length, ps[ps.length - 2]? with
  | n + 2, some ⟨_, _, some v⟩ => decide (b < v)
  | _, _ => false
theorem join_len {ps : List Pc} {i : Nat} (h : i + 1 < ps.length) : (join ps i).length = ps.length - 1 := by
  unfold join
  rw [List.getElem?_eq_getElem (by omega : i < ps.length), List.getElem?_eq_getElem h]
  simp only [List.length_append, List.length_take, List.length_drop, List.length_singleton]
  omega
/-- pieces side by side, up to e, all levels but the last one's known -/
structure Inv (ps : List Pc) (e : Nat) : Prop where
  side : ∀ i c d, ps[i]? = some c → ps[i + 1]? = some d → c.st + c.ln = d.st ∧ c.lv ≠ none
  last : ∀ c, ps.getLast? = some c → c.st + c.ln = e
theorem Inv.nil : Inv [] 0 := ⟨fun i c d h => by simp at h, fun c h => by simp at h⟩
theorem join_eq {ps : List Pc} {i : Nat} {c d : Pc} (hc : ps[i]? = some c) (hd : ps[i + 1]? = some d) : join ps i = ps.take i ++ [⟨c.st, c.ln + d.ln, d.lv⟩] ++ ps.drop (i + 2) := by
  unfold join
  rw [hc, hd]
theorem join_get {ps : List Pc} {i : Nat} {c d : Pc} (hc : ps[i]? = some c) (hd : ps[i + 1]? = some d) (j : Nat) : (join ps i)[j]? = if j < i then ps[j]? else if j = i then some ⟨c.st, c.ln + d.ln, d.lv⟩ else ps[j + 1]? := by
  have hi := (List.getElem?_eq_some_iff.mp hc).1
  have l1 : (ps.take i).length = i := by rw [List.length_take]; omega
  rw [join_eq hc hd, List.append_assoc]
  by_cases h : j < i
  · rw [if_pos h, List.getElem?_append_left (by omega), List.getElem?_take, if_pos h]
  · rw [if_neg h, List.getElem?_append_right (by omega), l1]
    by_cases h2 : j = i
    · rw [if_pos h2, h2, Nat.sub_self]
      rfl
    · rw [if_neg h2]
      obtain ⟨m, hm⟩ : ∃ m, j - i = m + 1 := ⟨j - i - 1, by omega⟩
      rw [hm, List.singleton_append, List.getElem?_cons_succ, List.getElem?_drop]
      congr 1
      omega
theorem Inv.join {ps : List Pc} {e i : Nat} (v : Inv ps e) (h : i + 1 < ps.length) : Inv (Pile.join ps i) e := by
  obtain ⟨c, hc⟩ : ∃ c, ps[i]? = some c := ⟨_, List.getElem?_eq_getElem (by omega)⟩
  obtain ⟨d, hd⟩ : ∃ d, ps[i + 1]? = some d := ⟨_, List.getElem?_eq_getElem h⟩
  have sd := v.side i c d hc hd
  have g := join_get hc hd
  have ll := join_len h
  constructor
  · intro j x y hx hy
    rw [g] at hx hy
    by_cases h1 : j + 1 < i
    · rw [if_pos (by omega)] at hx
      rw [if_pos h1] at hy
      exact v.side j x y hx hy
    · rw [if_neg h1] at hy
      by_cases h2 : j + 1 = i
      · rw [if_pos (by omega)] at hx
        rw [if_pos h2] at hy
        have e1 := Option.some.inj hy
        rw [← e1]
        rw [← h2] at hc
        exact v.side j x c hx hc
      · rw [if_neg h2] at hy
        rw [if_neg (by omega)] at hx
        by_cases h3 : j = i
        · rw [if_pos h3] at hx
          have e1 := Option.some.inj hx
          rw [h3] at hy
          have := v.side (i + 1) d y hd hy
          rw [← e1]
          exact ⟨by show c.st + (c.ln + d.ln) = y.st; omega, this.2⟩
        · rw [if_neg h3] at hx
          exact v.side (j + 1) x y hx hy
  · intro x hx
    rw [List.getLast?_eq_getElem?, ll, g] at hx
    by_cases h1 : i + 2 = ps.length
    · rw [if_neg (by omega), if_pos (by omega)] at hx
      have e1 := Option.some.inj hx
      have := v.last d (by rw [List.getLast?_eq_getElem?, ← hd]; congr 1; omega)
      rw [← e1]
      show c.st + (c.ln + d.ln) = e
      omega
    · rw [if_neg (by omega), if_neg (by omega)] at hx
      exact v.last x (by rw [List.getLast?_eq_getElem?, ← hx]; congr 1; omega)
/-- the joins that make room -/
def jn (ps : List Pc) (i : Nat) : Nat × Nat × Nat := match ps[i]?, ps[i + 1]? with
  | some c, some d => (c.st, c.ln, d.ln)
  | _, _ => (0, 0, 0)
def room (b : Nat) : Nat → List Pc × List (Nat × Nat × Nat) → List Pc × List (Nat × Nat × Nat)
  | 0, s => s
  | k + 1, s => if hasTo s.1 b then room b k (join s.1 (s.1.length - 2), s.2 ++ [jn s.1 (s.1.length - 2)]) else s
def brd (w : Nat) (ps : List Pc) (l : Nat) : Option Nat := match ps.getLast? with
  | none => none
  | some c => some (Lv.lev (2 * w) (2 * c.st + c.ln) (c.ln + l))
def step (w st : Nat) (s : List Pc × List (Nat × Nat × Nat)) (l : Nat) : List Pc × List (Nat × Nat × Nat) := match brd w s.1 l with
  | none => (put s.1 st l none, s.2)
  | some b => (put (room b s.1.length s).1 st l (some b), (room b s.1.length s).2)
theorem hasTo_two {ps : List Pc} {b : Nat} (h : hasTo ps b = true) : 2 ≤ ps.length := by
  unfold hasTo at h
  match hl : ps.length with
  | 0 => rw [hl] at h; cases h
  | 1 => rw [hl] at h; cases h
  | n + 2 => omega
theorem room_inv {b e : Nat} : ∀ (k : Nat) (s : List Pc × List (Nat × Nat × Nat)), Inv s.1 e → Inv (room b k s).1 e ∧ (room b k s).1.length ≤ s.1.length ∧ (s.1.length ≤ k → hasTo (room b k s).1 b = false) ∧ (s.1 ≠ [] → (room b k s).1 ≠ [])
  | 0, s, v => ⟨v, Nat.le_refl _, fun h => by
      cases z : hasTo s.1 b with
      | false => exact z
      | true => have := hasTo_two z; omega, fun h => h⟩
  | k + 1, s, v => by
    unfold room
    cases z : hasTo s.1 b with
    | false => exact ⟨v, Nat.le_refl _, fun _ => z, fun h => h⟩
    | true =>
      have h2 := hasTo_two z
      have ll := join_len (ps := s.1) (i := s.1.length - 2) (by omega)
      obtain ⟨a1, a2, a3, a4⟩ := room_inv (b := b) k (join s.1 (s.1.length - 2), s.2 ++ [jn s.1 (s.1.length - 2)]) (v.join (by omega))
      refine ⟨a1, Nat.le_trans a2 (by show (join s.1 (s.1.length - 2)).length ≤ _; omega), fun h => a3 (by show (join s.1 (s.1.length - 2)).length ≤ _; omega), fun _ => a4 fun n => ?_⟩
      have n : join s.1 (s.1.length - 2) = [] := n
      rw [n] at ll
      have : (0 : Nat) = s.1.length - 1 := ll
      omega
theorem put_inv {ps : List Pc} {e l : Nat} {b : Option Nat} (v : Inv ps e) (hb : ps ≠ [] → b ≠ none) (he : ps = [] → e = 0) : Inv (put ps e l b) (e + l) ∧ (put ps e l b).length = ps.length + 1 := by
  unfold put
  cases hl : ps.getLast? with
  | none =>
    have ep : ps = [] := List.getLast?_eq_none_iff.mp hl
    subst ep
    refine ⟨⟨fun i c d h1 h2 => by simp at h2, fun c h => ?_⟩, rfl⟩
    have h : some (⟨e, l, none⟩ : Pc) = some c := h
    rw [← Option.some.inj h]
  | some c =>
    have ne : ps ≠ [] := fun z => by rw [z] at hl; cases hl
    obtain ⟨qs, rfl⟩ : ∃ qs, ps = qs ++ [c] := List.getLast?_eq_some_iff.mp hl
    have hc := v.last c hl
    rw [List.dropLast_concat]
    refine ⟨⟨fun i x y h1 h2 => ?_, fun x h => ?_⟩, by simp⟩
    · rcases Nat.lt_trichotomy (i + 1) qs.length with h | h | h
      · rw [List.getElem?_append_left (by omega)] at h1 h2
        exact v.side i x y (by rw [List.getElem?_append_left (by omega)]; exact h1) (by rw [List.getElem?_append_left (by omega)]; exact h2)
      · rw [List.getElem?_append_left (by omega)] at h1
        rw [List.getElem?_append_right (by omega), h, Nat.sub_self] at h2
        have e1 := Option.some.inj h2
        have := v.side i x c (by rw [List.getElem?_append_left (by omega)]; exact h1) (by rw [h, List.getElem?_append_right (by omega), Nat.sub_self]; rfl)
        rw [← e1]
        exact this
      · rw [List.getElem?_append_right (by omega)] at h1 h2
        have li : i + 1 - qs.length < 2 := (List.getElem?_eq_some_iff.mp h2).1
        have ei : i = qs.length := by omega
        subst ei
        rw [Nat.sub_self] at h1
        rw [show qs.length + 1 - qs.length = 1 by omega] at h2
        rw [← Option.some.inj h1, ← Option.some.inj h2]
        exact ⟨hc, hb ne⟩
    · have h : (qs ++ [(⟨c.st, c.ln, b⟩ : Pc), ⟨e, l, none⟩]).getLast? = some x := h
      have z : (qs ++ [(⟨c.st, c.ln, b⟩ : Pc), ⟨e, l, none⟩]).getLast? = some ⟨e, l, none⟩ := by simp
      rw [z] at h
      rw [← Option.some.inj h]
/-- behind so many lengths -/
def sts (w : Nat) (ls : List Nat) : Nat → List Pc × List (Nat × Nat × Nat)
  | 0 => ([], [])
  | k + 1 => step w (ls.take k).sum (sts w ls k) (ls.getD k 0)
/-- the joins behind the last piece -/
def fin : Nat → List Pc × List (Nat × Nat × Nat) → List Pc × List (Nat × Nat × Nat)
  | 0, s => s
  | k + 1, s => if 1 < s.1.length then fin k (join s.1 (next s.1), s.2 ++ [jn s.1 (next s.1)]) else s
theorem step_inv {w st l : Nat} {s : List Pc × List (Nat × Nat × Nat)} (v : Inv s.1 st) (h0 : s.1 = [] → st = 0) : Inv (step w st s l).1 (st + l) ∧ (step w st s l).1.length ≤ s.1.length + 1 ∧ (step w st s l).1 ≠ [] := by
  unfold step
  cases hb : brd w s.1 l with
  | none =>
    have e : s.1 = [] := by
      unfold brd at hb
      cases z : s.1.getLast? with
      | none => exact List.getLast?_eq_none_iff.mp z
      | some c => rw [z] at hb; cases hb
    obtain ⟨a1, a2⟩ := put_inv (l := l) (b := none) v (fun n => absurd e n) h0
    refine ⟨a1, Nat.le_of_eq a2, fun z => ?_⟩
    have z : put s.1 st l none = [] := z
    rw [z] at a2
    exact absurd a2 (by simp)
  | some b =>
    have ne : s.1 ≠ [] := fun e => by
      unfold brd at hb
      rw [e] at hb
      cases hb
    obtain ⟨r1, r2, _, r4⟩ := room_inv (b := b) s.1.length s v
    obtain ⟨a1, a2⟩ := put_inv (l := l) (b := some b) r1 (fun _ z => by cases z) fun z => absurd z (r4 ne)
    refine ⟨a1, ?_, fun z => ?_⟩
    · show (put (room b s.1.length s).1 st l (some b)).length ≤ _
      omega
    · have z : put (room b s.1.length s).1 st l (some b) = [] := z
      rw [z] at a2
      exact absurd a2 (by simp)
theorem sum_take {ls : List Nat} {k : Nat} (h : k < ls.length) : (ls.take (k + 1)).sum = (ls.take k).sum + ls.getD k 0 := by
  rw [List.take_add_one, List.getElem?_eq_getElem h, List.sum_append, List.getD_eq_getElem?_getD, List.getElem?_eq_getElem h]
  simp
theorem sts_inv {w : Nat} {ls : List Nat} : ∀ k, k ≤ ls.length → Inv (sts w ls k).1 (ls.take k).sum ∧ (sts w ls k).1.length ≤ k ∧ ((sts w ls k).1 = [] → k = 0)
  | 0, _ => ⟨Inv.nil, Nat.le_refl _, fun _ => rfl⟩
  | k + 1, h => by
    obtain ⟨a1, a2, a3⟩ := sts_inv (w := w) (ls := ls) k (by omega)
    obtain ⟨b1, b2, b3⟩ := step_inv (w := w) (l := ls.getD k 0) a1 fun z => by rw [a3 z]; rfl
    rw [sum_take (by omega)]
    exact ⟨b1, Nat.le_trans b2 (by omega), fun z => absurd z b3⟩
theorem next_lt {ps : List Pc} (h : 2 ≤ ps.length) : next ps + 1 < ps.length := by
  unfold next
  split
  · split <;> omega
  · omega
end Pile
end L2

/-! pieces piled, with the list of all stacks and the list of the joins -/
namespace L2
open PySem PySem.Spec PyProof.Rows
theorem sfree {H H' : Hp} {b : Addr} (s : Same H H') (h : H' b = none) : H b = none := by
  cases e : H b with
  | none => rfl
  | some o => rw [s _ _ e] at h; cases h
/-- the stack of pieces at x, its list at r -/
def StkAt (C : Addr) (H : Hp) (x r : Addr) (w : Nat) (ps : List Pc) : Prop := x ≠ r ∧ (∃ dx, H x = some (.ins C dx [("whole", .int (w : Int)), ("piled", .ref r)])) ∧ PcsAt H r ps
theorem StkAt.same {C : Addr} {H H' : Hp} {x r : Addr} {w : Nat} {ps : List Pc} (h : StkAt C H x r w ps) (s : Same H H') : StkAt C H' x r w ps := by
  obtain ⟨n, ⟨dx, hx⟩, hp⟩ := h
  exact ⟨n, ⟨dx, s _ _ hx⟩, hp.same s⟩
/-- the stacks, one behind each piece -/
def RowsAt (H0 H : Hp) (sk : Addr) (w : Nat) (ls : List Nat) (k : Nat) : Prop := ∃ ts : List V, H sk = some (.lst ts) ∧ ts.length = k ∧ ∀ (i : Nat) (v : V), ts[i]? = some v → ∃ l, v = .ref l ∧ H0 l = none ∧ l ≠ sk ∧ PcsAt H l (Pile.sts w ls (i + 1)).1
theorem RowsAt.same {H0 H H' : Hp} {sk : Addr} {w : Nat} {ls : List Nat} {k : Nat} (h : RowsAt H0 H sk w ls k) (s : Same H H') : RowsAt H0 H' sk w ls k := by
  obtain ⟨ts, h1, h2, h3⟩ := h
  refine ⟨ts, s _ _ h1, h2, fun i v e => ?_⟩
  obtain ⟨l, e1, e2, e3, e4⟩ := h3 i v e
  exact ⟨l, e1, e2, e3, e4.same s⟩
structure Pl (H H' : Hp) (r sk am : Addr) (w : Nat) (ls : List Nat) (s : List Pc × List (Nat × Nat × Nat)) (k : Nat) : Prop where
  keep : Same H H'
  nr : H r = none
  nsk : H sk = none
  nam : H am = none
  d1 : r ≠ sk
  d2 : r ≠ am
  d3 : sk ≠ am
  pcs : PcsAt H' r s.1
  tris : TrisAt H' am s.2
  rows : ∃ ts : List V, H' sk = some (.lst ts) ∧ ts.length = k ∧ ∀ (i : Nat) (v : V), ts[i]? = some v → ∃ l, v = .ref l ∧ l ≠ r ∧ l ≠ sk ∧ l ≠ am ∧ H l = none ∧ PcsAt H' l (Pile.sts w ls (i + 1)).1
section
variable {H H' H'' : Hp} {r sk am x : Addr} {w k : Nat} {ls : List Nat} {s : List Pc × List (Nat × Nat × Nat)} {ps : List Pc}
theorem Pl.rowsAt (p : Pl H H' r sk am w ls s k) : RowsAt H H' sk w ls k := by
  obtain ⟨ts, h1, h2, h3⟩ := p.rows
  refine ⟨ts, h1, h2, fun i v e => ?_⟩
  obtain ⟨l, e1, _, e3, _, e4, e5⟩ := h3 i v e
  exact ⟨l, e1, e4, e3, e5⟩
theorem Pl.same (p : Pl H H' r sk am w ls s k) (m : Same H' H'') : Pl H H'' r sk am w ls s k := by
  refine ⟨p.keep.trans m, p.nr, p.nsk, p.nam, p.d1, p.d2, p.d3, p.pcs.same m, p.tris.keep (fun _ h => m _ _ h) (fun _ _ h => m _ _ h), ?_⟩
  obtain ⟨ts, h1, h2, h3⟩ := p.rows
  refine ⟨ts, m _ _ h1, h2, fun i v e => ?_⟩
  obtain ⟨l, e1, e2, e3, e4, e5, e6⟩ := h3 i v e
  exact ⟨l, e1, e2, e3, e4, e5, e6.same m⟩
theorem Pl.stack (p : Pl H H' r sk am w ls s k) (nx : H x = none) (hx : x = r ∨ ∃ C dx f, H' x = some (.ins C dx f)) (f : Fr2 x r H' H'') (pc : PcsAt H'' r ps) : Pl H H'' r sk am w ls (ps, s.2) k := by
  have nl : ∀ b ts, H' b = some (.lst ts) → b ≠ r → b ≠ x := fun b ts h n e => by
    rcases hx with z | ⟨C, dx, g, z⟩
    · exact n (e.trans z)
    · rw [e, z] at h
      cases h
  have kt : ∀ t xs, H' t = some (.tup xs) → H'' t = some (.tup xs) := fun t xs h => by
    refine f _ _ (fun e => ?_) (fun e => ?_) h
    · rcases hx with z | ⟨C, dx, g, z⟩
      · obtain ⟨ts, h1, _⟩ := p.pcs
        rw [e, z, h1] at h
        cases h
      · rw [e, z] at h
        cases h
    · obtain ⟨ts, h1, _⟩ := p.pcs
      rw [e, h1] at h
      cases h
  refine ⟨fun b o h => f b o (fun e => by rw [e, nx] at h; cases h) (fun e => by rw [e, p.nr] at h; cases h) (p.keep _ _ h), p.nr, p.nsk, p.nam, p.d1, p.d2, p.d3, pc, p.tris.keep (fun xs h => f _ _ (nl _ _ h p.d2.symm) p.d2.symm h) kt, ?_⟩
  obtain ⟨ts, h1, h2, h3⟩ := p.rows
  refine ⟨ts, f _ _ (nl _ _ h1 p.d1.symm) p.d1.symm h1, h2, fun i v e => ?_⟩
  obtain ⟨l, e1, e2, e3, e4, e5, e6⟩ := h3 i v e
  exact ⟨l, e1, e2, e3, e4, e5, e6.keep (fun xs h => f _ _ (nl _ _ h e2) e2 h) kt⟩
theorem Pl.tri {t : Addr} {j : Nat × Nat × Nat} (p : Pl H H' r sk am w ls s k) (ht : H' t = some (.tup [.int (j.1 : Int), .int (j.2.1 : Int), .int (j.2.2 : Int)])) :
    ∃ ts : List V, H' am = some (.lst ts) ∧ ts.length = s.2.length ∧ Pl H (upd H' am (.lst (ts ++ [.ref t]))) r sk am w ls (s.1, s.2 ++ [j]) k := by
  obtain ⟨ts, hts, l1, _⟩ := id p.tris
  have kt : ∀ t2 xs, H' t2 = some (.tup xs) → upd H' am (.lst (ts ++ [.ref t])) t2 = some (.tup xs) := fun t2 xs z => by rw [upd_ne (fun e => by rw [e, hts] at z; cases z)]; exact z
  refine ⟨ts, hts, l1, fun b o h => by rw [upd_ne (fun e => by rw [e, p.nam] at h; cases h)]; exact p.keep _ _ h, p.nr, p.nsk, p.nam, p.d1, p.d2, p.d3, p.pcs.keep (fun xs h => by rw [upd_ne p.d2]; exact h) kt, TrisAt.push hts p.tris ht, ?_⟩
  obtain ⟨us, h1, h2, h3⟩ := p.rows
  refine ⟨us, by rw [upd_ne p.d3]; exact h1, h2, fun i v e => ?_⟩
  obtain ⟨l, e1, e2, e3, e4, e5, e6⟩ := h3 i v e
  exact ⟨l, e1, e2, e3, e4, e5, e6.keep (fun xs h => by rw [upd_ne e4]; exact h) kt⟩
theorem Pl.row {l : Addr} (p : Pl H H' r sk am w ls s k) (hl : H' l = none) (e : s.1 = (Pile.sts w ls (k + 1)).1) {its ts : List V} (h1 : H' r = some (.lst its)) (h2 : H' sk = some (.lst ts)) :
    Pl H (upd (upd H' l (.lst its)) sk (.lst (ts ++ [.ref l]))) r sk am w ls s (k + 1) := by
  have nlr : l ≠ r := fun z => by rw [z, h1] at hl; cases hl
  have nls : l ≠ sk := fun z => by rw [z, h2] at hl; cases hl
  have nla : l ≠ am := fun z => by
    obtain ⟨us, h, _⟩ := p.tris
    rw [z, h] at hl
    cases hl
  have nHl : H l = none := by
    cases h : H l with
    | none => rfl
    | some o => rw [p.keep _ _ h] at hl; cases hl
  have s1 : Same H' (upd H' l (.lst its)) := same_upd hl
  have kt : ∀ t2 xs, H' t2 = some (.tup xs) → upd (upd H' l (.lst its)) sk (.lst (ts ++ [.ref l])) t2 = some (.tup xs) := fun t2 xs z => by
    rw [upd_ne (fun e => by rw [e, h2] at z; cases z)]
    exact s1 _ _ z
  have kl : ∀ b us, b ≠ sk → H' b = some (.lst us) → upd (upd H' l (.lst its)) sk (.lst (ts ++ [.ref l])) b = some (.lst us) := fun b us n h => by
    rw [upd_ne n]
    exact s1 _ _ h
  refine ⟨fun b o h => by rw [upd_ne (fun e => by rw [e, p.nsk] at h; cases h)]; exact s1 _ _ (p.keep _ _ h), p.nr, p.nsk, p.nam, p.d1, p.d2, p.d3, p.pcs.keep (fun _ => kl _ _ p.d1) kt, p.tris.keep (fun _ => kl _ _ p.d3.symm) kt, ?_⟩
  obtain ⟨us, k1, k2, k3⟩ := p.rows
  have eu : us = ts := by
    have := k1.symm.trans h2
    exact HO.lst.inj (Option.some.inj this)
  subst eu
  refine ⟨_, upd_same, by rw [List.length_append, k2]; rfl, fun i v hv => ?_⟩
  rcases Nat.lt_or_ge i us.length with c | c
  · rw [List.getElem?_append_left c] at hv
    obtain ⟨l', e1, e2, e3, e4, e5, e6⟩ := k3 i v hv
    exact ⟨l', e1, e2, e3, e4, e5, e6.keep (fun _ => kl _ _ e3) kt⟩
  · rw [List.getElem?_append_right c] at hv
    have e0 : i - us.length = 0 := by
      have := (List.getElem?_eq_some_iff.mp hv).1
      simp only [List.length_singleton] at this
      omega
    rw [e0] at hv
    have ei : i = k := by omega
    rw [← Option.some.inj hv]
    refine ⟨l, rfl, nlr, nls, nla, nHl, ?_⟩
    rw [ei, ← e]
    obtain ⟨its', q1, q2, q3⟩ := p.pcs
    have ee : its' = its := by
      have := q1.symm.trans h1
      exact HO.lst.inj (Option.some.inj this)
    subst ee
    refine ⟨its', by rw [upd_ne nls, upd_same], q2, fun j v' c' a b => (q3 j v' c' a b).keep kt⟩
end
theorem nV_snoc (L : List Nat) (k : Nat) : nV L ++ [V.int (k : Int)] = nV (L ++ [k]) := by simp [nV]
theorem outT {a b : Prop} (h : if true = true then a else b) : a := by simpa using h
theorem outF {a b : Prop} (h : if false = true then a else b) : b := by simpa using h
/-- how many items stand in a list -/
def lenAt (H : Hp) (r : Addr) : Nat := match H r with
  | some (.lst ts) => ts.length
  | _ => 0
theorem PcsAt.lenAt {H : Hp} {r : Addr} {ps : List Pc} (h : PcsAt H r ps) : L2.lenAt H r = ps.length := by
  obtain ⟨ts, h1, h2, _⟩ := h
  unfold L2.lenAt
  rw [h1]
  exact h2
/-- while, with a word for its end -/
theorem while_to {c : TT} {tb : TS} {D : Ends} {σ : L2.St} {H : Hp} (Pv Dn : L2.St → Hp → Prop) (μ : L2.St → Hp → Nat) (h0 : Pv σ H)
    (hs : ∀ σ H, Pv σ H → c σ H fun b H1 => if b = true then tb { D with nx := fun σ' H' => Pv σ' H' ∧ μ σ' H' < μ σ H, ct := fun σ' H' => Pv σ' H' ∧ μ σ' H' < μ σ H, bk := D.nx } σ H1 else Dn σ H1)
    (hd : ∀ σ H, Dn σ H → D.nx σ H)
    (mono : ∀ σ H Q Q', (∀ b H1, Q b H1 → Q' b H1) → c σ H Q → c σ H Q') : tWhile c tb D σ H := by
  refine while_by Pv μ h0 (fun σ H p => mono _ _ _ _ (fun b H1 h => ?_) (hs σ H p)) mono
  cases b with
  | true => exact h
  | false => exact hd _ _ h
theorem StkAt.push {C : Addr} {H : Hp} {x r am : Addr} {w : Nat} {ps ps' : List Pc} {ts us : List V} (h : StkAt C H x r w ps) (ha : H am = some (.lst ts)) (p : PcsAt (upd H am (.lst us)) r ps') : StkAt C (upd H am (.lst us)) x r w ps' := by
  obtain ⟨n, ⟨dx, hx⟩, _⟩ := h
  exact ⟨n, ⟨dx, by rw [upd_ne (fun e => by rw [e, ha] at hx; cases hx)]; exact hx⟩, p⟩
theorem PcsAt.joined {H : Hp} {r t : Addr} {ts : List V} {ps : List Pc} {i : Nat} {c e : Pc} (hts : H r = some (.lst ts)) (h : PcsAt H r ps) (hc : ps[i]? = some c) (he : ps[i + 1]? = some e) (ht : H t = some (.tup [.int (c.st : Int), .int ((c.ln : Int) + (e.ln : Int)), optV e.lv])) :
    PcsAt (upd H r (.lst (ts.take i ++ [.ref t] ++ ts.drop (i + 2)))) r (Pile.join ps i) := by
  obtain ⟨ts', h1, lts, hi⟩ := h
  have et : ts' = ts := by
    have := h1.symm.trans hts
    exact HO.lst.inj (Option.some.inj this)
  subst et
  have li := (List.getElem?_eq_some_iff.mp he).1
  have ej := Pile.join_eq hc he
  refine PcsAt.write ?_ ?_ ⟨_, hts⟩
  · rw [ej]
    simp only [List.length_append, List.length_take, List.length_drop, List.length_singleton]
    omega
  · intro j v c' hv hc'
    rw [ej] at hc'
    have l1 : (ts'.take i).length = i := by rw [List.length_take]; omega
    have l2 : (ps.take i).length = i := by rw [List.length_take]; omega
    rw [List.append_assoc] at hv hc'
    rcases Nat.lt_trichotomy j i with h | h | h
    · rw [List.getElem?_append_left (by omega), List.getElem?_take, if_pos h] at hv hc'
      exact hi j v c' hv hc'
    · rw [List.getElem?_append_right (by omega)] at hv hc'
      rw [l1, h, Nat.sub_self] at hv
      rw [l2, h, Nat.sub_self] at hc'
      have e1 := Option.some.inj hv
      have e2 := Option.some.inj hc'
      rw [← e1, ← e2]
      exact ⟨t, rfl, by rw [ht, Int.natCast_add]⟩
    · rw [List.getElem?_append_right (by omega)] at hv hc'
      rw [l1] at hv
      rw [l2] at hc'
      obtain ⟨m, hm⟩ : ∃ m, j - i = m + 1 := ⟨j - i - 1, by omega⟩
      rw [hm, List.singleton_append, List.getElem?_cons_succ, List.getElem?_drop] at hv hc'
      exact hi _ v c' hv hc'
theorem PcsAt.snoc {H : Hp} {r u : Addr} {ts : List V} {ps : List Pc} {c : Pc} (hts : H r = some (.lst ts)) (h : PcsAt H r ps) (hu : H u = some (.tup [.int (c.st : Int), .int (c.ln : Int), optV c.lv])) : PcsAt (upd H r (.lst (ts ++ [.ref u]))) r (ps ++ [c]) := by
  obtain ⟨ts', h1, lts, hi⟩ := h
  have et : ts' = ts := by
    have := h1.symm.trans hts
    exact HO.lst.inj (Option.some.inj this)
  subst et
  refine PcsAt.write (by rw [List.length_append, List.length_append, lts]; rfl) (fun i v c' hv hc => ?_) ⟨_, hts⟩
  rcases Nat.lt_or_ge i ts'.length with h | h
  · rw [List.getElem?_append_left (by omega)] at hv hc
    exact hi i v c' hv hc
  · rw [List.getElem?_append_right (by omega)] at hv hc
    rw [← lts] at hc
    have e0 : i - ts'.length = 0 := by
      have := (List.getElem?_eq_some_iff.mp hv).1
      simp only [List.length_singleton] at this
      omega
    rw [e0] at hv hc
    rw [← Option.some.inj hv, ← Option.some.inj hc]
    exact ⟨u, rfl, hu⟩
theorem PcsAt.relast {H : Hp} {r u : Addr} {ts : List V} {ps : List Pc} {c : Pc} (hts : H r = some (.lst ts)) (h : PcsAt H r ps) (h0 : 0 < ps.length) (hu : H u = some (.tup [.int (c.st : Int), .int (c.ln : Int), optV c.lv])) : PcsAt (upd H r (.lst (ts.set (ts.length - 1) (.ref u)))) r (ps.dropLast ++ [c]) := by
  obtain ⟨ts', h1, lts, hi⟩ := h
  have et : ts' = ts := by
    have := h1.symm.trans hts
    exact HO.lst.inj (Option.some.inj this)
  subst et
  refine PcsAt.write (by rw [List.length_append, List.length_set, List.length_dropLast, lts, List.length_singleton]; omega) (fun i v c' hv hc => ?_) ⟨_, hts⟩
  have li := (List.getElem?_eq_some_iff.mp hv).1
  rw [List.length_set] at li
  rw [List.getElem?_set] at hv
  by_cases e : ts'.length - 1 = i
  · rw [if_pos e, if_pos (by omega)] at hv
    rw [List.getElem?_append_right (by rw [List.length_dropLast]; omega), List.length_dropLast, show i - (ps.length - 1) = 0 by omega] at hc
    rw [← Option.some.inj hv, ← Option.some.inj hc]
    exact ⟨u, rfl, hu⟩
  · rw [if_neg e] at hv
    rw [List.getElem?_append_left (by rw [List.length_dropLast]; omega), List.getElem?_dropLast, if_pos (by omega)] at hc
    exact hi i v c' hv hc
theorem RowsAt.base {H0 H1 H : Hp} {sk : Addr} {w k : Nat} {ls : List Nat} (s : Same H0 H1) (h : RowsAt H1 H sk w ls k) : RowsAt H0 H sk w ls k := by
  obtain ⟨ts, h1, h2, h3⟩ := h
  refine ⟨ts, h1, h2, fun i v e => ?_⟩
  obtain ⟨l, e1, e2, e3, e4⟩ := h3 i v e
  exact ⟨l, e1, sfree s e2, e3, e4⟩
theorem TrisAt.take {H : Hp} {l p : Addr} {js : List (Nat × Nat × Nat)} {ts : List V} (h : TrisAt H l js) (ht : H l = some (.lst ts)) (n : Nat) (hp : H p = some (.lst (ts.take n))) : TrisAt H p (js.take n) := by
  obtain ⟨ts', h1, h2, h3⟩ := h
  have et : ts' = ts := by
    have := h1.symm.trans ht
    exact HO.lst.inj (Option.some.inj this)
  subst et
  refine ⟨_, hp, by rw [List.length_take, List.length_take, h2], fun i v j a b => ?_⟩
  rw [List.getElem?_take] at a b
  by_cases c : i < n
  · rw [if_pos c] at a b
    exact h3 i v j a b
  · rw [if_neg c] at a
    cases a
theorem TrisAt.drop {H : Hp} {l p : Addr} {js : List (Nat × Nat × Nat)} {ts : List V} (h : TrisAt H l js) (ht : H l = some (.lst ts)) (n : Nat) (hp : H p = some (.lst (ts.drop n))) : TrisAt H p (js.drop n) := by
  obtain ⟨ts', h1, h2, h3⟩ := h
  have et : ts' = ts := by
    have := h1.symm.trans ht
    exact HO.lst.inj (Option.some.inj this)
  subst et
  refine ⟨_, hp, by rw [List.length_drop, List.length_drop, h2], fun i v j a b => ?_⟩
  rw [List.getElem?_drop] at a b
  exact h3 _ v j a b
theorem TrisAt.append {H : Hp} {l1 l2 p : Addr} {js1 js2 : List (Nat × Nat × Nat)} {ts1 ts2 : List V} (h1 : TrisAt H l1 js1) (h2 : TrisAt H l2 js2) (e1 : H l1 = some (.lst ts1)) (e2 : H l2 = some (.lst ts2)) (hp : H p = some (.lst (ts1 ++ ts2))) : TrisAt H p (js1 ++ js2) := by
  obtain ⟨t1, a1, a2, a3⟩ := h1
  obtain ⟨t2, b1, b2, b3⟩ := h2
  have et : t1 = ts1 := by
    have := a1.symm.trans e1
    exact HO.lst.inj (Option.some.inj this)
  subst et
  have et : t2 = ts2 := by
    have := b1.symm.trans e2
    exact HO.lst.inj (Option.some.inj this)
  subst et
  refine ⟨_, hp, by rw [List.length_append, List.length_append, a2, b2], fun i v j a b => ?_⟩
  rcases Nat.lt_or_ge i t1.length with c | c
  · rw [List.getElem?_append_left (by omega)] at a b
    exact a3 i v j a b
  · rw [List.getElem?_append_right (by omega)] at a b
    rw [a2] at a
    exact b3 _ v j a b
theorem TrisAt.item {H : Hp} {js : List (Nat × Nat × Nat)} {ts : List V} {i : Nat} {v : V} (l : ts.length = js.length) (h : ∀ (i : Nat) (v : V) (j : Nat × Nat × Nat), ts[i]? = some v → js[i]? = some j → TriAt H v j) (hv : ts[i]? = some v) : ∃ t j, v = .ref t ∧ js[i]? = some j ∧ j ∈ js ∧ H t = some (.tup [.int (j.1 : Int), .int (j.2.1 : Int), .int (j.2.2 : Int)]) := by
  have hi := (List.getElem?_eq_some_iff.mp hv).1
  obtain ⟨t, e, ht⟩ := h i v js[i] hv (List.getElem?_eq_getElem (by omega))
  exact ⟨t, js[i], e, List.getElem?_eq_getElem (by omega), List.getElem_mem _, ht⟩
namespace Pile
/-- behind the joins that make room, if there is a border -/
def res (b : Option Nat) (s : List Pc × List (Nat × Nat × Nat)) : List Pc × List (Nat × Nat × Nat) := match b with
  | none => s
  | some v => room v s.1.length s
theorem step_res (w st : Nat) (s : List Pc × List (Nat × Nat × Nat)) (l : Nat) : step w st s l = (put (res (brd w s.1 l) s).1 st l (brd w s.1 l), (res (brd w s.1 l) s).2) := by
  unfold step res
  cases brd w s.1 l <;> rfl
theorem room_step {b : Nat} {s : List Pc × List (Nat × Nat × Nat)} (h : hasTo s.1 b = true) : room b s.1.length s = room b (join s.1 (s.1.length - 2)).length (join s.1 (s.1.length - 2), s.2 ++ [jn s.1 (s.1.length - 2)]) := by
  have h2 := hasTo_two h
  have ll := join_len (ps := s.1) (i := s.1.length - 2) (by omega)
  rw [ll]
  obtain ⟨m, hm⟩ : ∃ m, s.1.length = m + 1 := ⟨s.1.length - 1, by omega⟩
  have e : room b (m + 1) s = if hasTo s.1 b then room b m (join s.1 (s.1.length - 2), s.2 ++ [jn s.1 (s.1.length - 2)]) else s := rfl
  rw [if_pos h] at e
  rw [show s.1.length - 1 = m by omega, ← e, ← hm]
theorem room_stop {b k : Nat} {s : List Pc × List (Nat × Nat × Nat)} (h : hasTo s.1 b = false) : room b k s = s := by
  cases k with
  | zero => rfl
  | succ k =>
    unfold room
    rw [if_neg (by rw [h]; exact Bool.noConfusion)]
theorem cnt_join {s : List Pc × List (Nat × Nat × Nat)} {i : Nat} (h : i + 1 < s.1.length) : (s.2 ++ [jn s.1 i]).length + (join s.1 i).length = s.2.length + s.1.length := by
  rw [List.length_append, join_len h, List.length_singleton]
  omega
theorem cnt_room {b : Nat} : ∀ (k : Nat) (s : List Pc × List (Nat × Nat × Nat)), (room b k s).2.length + (room b k s).1.length = s.2.length + s.1.length
  | 0, s => rfl
  | k + 1, s => by
    unfold room
    cases z : hasTo s.1 b with
    | false => rfl
    | true =>
      have h2 := hasTo_two z
      exact (cnt_room k _).trans (cnt_join (s := s) (by omega))
theorem cnt_put (ps : List Pc) (st l : Nat) (b : Option Nat) : (put ps st l b).length = ps.length + 1 := by
  unfold put
  cases h : ps.getLast? with
  | none => rw [List.getLast?_eq_none_iff.mp h]; rfl
  | some c =>
    have : ps ≠ [] := fun e => by rw [e] at h; cases h
    have := List.length_pos_iff.mpr this
    rw [List.length_append, List.length_dropLast]
    show ps.length - 1 + 2 = _
    omega
theorem cnt_res (b : Option Nat) (s : List Pc × List (Nat × Nat × Nat)) : (res b s).2.length + (res b s).1.length = s.2.length + s.1.length := by
  cases b with
  | none => rfl
  | some v => exact cnt_room _ _
theorem sts_cnt {w : Nat} {ls : List Nat} : ∀ k, (sts w ls k).2.length + (sts w ls k).1.length = k
  | 0 => rfl
  | k + 1 => by
    show (step w (ls.take k).sum (sts w ls k) (ls.getD k 0)).2.length + (step w (ls.take k).sum (sts w ls k) (ls.getD k 0)).1.length = _
    rw [step_res]
    show (res _ _).2.length + (put _ _ _ _).length = _
    rw [cnt_put, ← Nat.add_assoc, cnt_res, sts_cnt k]
theorem res_stop {v : Nat} {s : List Pc × List (Nat × Nat × Nat)} (h : hasTo s.1 v = false) : res (some v) s = s := room_stop h
theorem fin_cnt : ∀ (k : Nat) (s : List Pc × List (Nat × Nat × Nat)), (fin k s).2.length + (fin k s).1.length = s.2.length + s.1.length
  | 0, s => rfl
  | k + 1, s => by
    unfold fin
    by_cases h : 1 < s.1.length
    · rw [if_pos h]
      exact (fin_cnt k _).trans (cnt_join (s := s) (next_lt (by omega)))
    · rw [if_neg h]
theorem fin_stop {k : Nat} {s : List Pc × List (Nat × Nat × Nat)} (h : s.1.length ≤ 1) : fin k s = s := by
  cases k with
  | zero => rfl
  | succ k =>
    unfold fin
    rw [if_neg (by omega)]
theorem fin_step {k : Nat} {s : List Pc × List (Nat × Nat × Nat)} (h : 1 < s.1.length) : fin (k + 1) s = fin k (join s.1 (next s.1), s.2 ++ [jn s.1 (next s.1)]) := by
  conv => lhs; unfold fin
  rw [if_pos h]
theorem fin_pre {e : List (Nat × Nat × Nat)} : ∀ (k : Nat) (ps : List Pc) (l : List (Nat × Nat × Nat)), fin k (ps, e ++ l) = ((fin k (ps, l)).1, e ++ (fin k (ps, l)).2)
  | 0, ps, l => rfl
  | k + 1, ps, l => by
    unfold fin
    by_cases h : 1 < ps.length
    · rw [if_pos h, if_pos h, List.append_assoc]
      exact fin_pre k _ _
    · rw [if_neg h, if_neg h]
theorem sts_last {w : Nat} {ls : List Nat} {k : Nat} : (sts w ls (k + 1)).1.getLast? = some ⟨(ls.take k).sum, ls.getD k 0, none⟩ := by
  show (step w (ls.take k).sum (sts w ls k) (ls.getD k 0)).1.getLast? = _
  have e : ∀ (ps : List Pc) (st l : Nat) (b : Option Nat), (put ps st l b).getLast? = some ⟨st, l, none⟩ := fun ps st l b => by
    unfold put
    cases h : ps.getLast? with
    | none => rfl
    | some c => simp
  unfold step
  cases brd w (sts w ls k).1 (ls.getD k 0) with
  | none => exact e _ _ _ _
  | some b => exact e _ _ _ _
end Pile
end L2

/-! rounds and costs of the joins; all lengths times a number -/
namespace L2
open PySem PySem.Spec PyProof.Rows
namespace Pile
/-- where piece i starts -/
def stt (ls : List Nat) (i : Nat) : Nat := (ls.take i).sum
theorem stt_succ {ls : List Nat} {i : Nat} (h : i < ls.length) : stt ls (i + 1) = stt ls i + ls.getD i 0 := sum_take h
theorem getD_pos {ls : List Nat} (h1 : ∀ l ∈ ls, 1 ≤ l) {i : Nat} (h : i < ls.length) : 1 ≤ ls.getD i 0 := by
  rw [List.getD_eq_getElem?_getD, List.getElem?_eq_getElem h]
  exact h1 _ (List.getElem_mem h)
theorem stt_lt {ls : List Nat} (h1 : ∀ l ∈ ls, 1 ≤ l) {i : Nat} : ∀ {k : Nat}, i < k → k ≤ ls.length → stt ls i < stt ls k
  | 0, h, _ => absurd h (Nat.not_lt_zero _)
  | k + 1, h, hk => by
    have e := stt_succ (ls := ls) (i := k) (by omega)
    have p := getD_pos h1 (i := k) (by omega)
    rcases Nat.lt_or_ge i k with c | c
    · have := stt_lt h1 c (by omega)
      omega
    · have : i = k := by omega
      subst this
      omega
theorem stt_le {ls : List Nat} (h1 : ∀ l ∈ ls, 1 ≤ l) {i k : Nat} (h : i ≤ k) (hk : k ≤ ls.length) : stt ls i ≤ stt ls k := by
  rcases Nat.lt_or_ge i k with c | c
  · exact Nat.le_of_lt (stt_lt h1 c hk)
  · have : i = k := by omega
    rw [this]
    exact Nat.le_refl _
theorem stt_inj {ls : List Nat} (h1 : ∀ l ∈ ls, 1 ≤ l) {i k : Nat} (hi : i ≤ ls.length) (hk : k ≤ ls.length) (e : stt ls i = stt ls k) : i = k := by
  rcases Nat.lt_trichotomy i k with c | c | c
  · have := stt_lt h1 c hk
    omega
  · exact c
  · have := stt_lt h1 c hi
    omega
/-- from the border of one piece to that of another one -/
def Brd (ls : List Nat) (s l : Nat) : Prop := ∃ i k, i < k ∧ k ≤ ls.length ∧ s = stt ls i ∧ s + l = stt ls k
theorem Brd.add {ls : List Nat} (h1 : ∀ l ∈ ls, 1 ≤ l) {s l l' : Nat} (a : Brd ls s l) (b : Brd ls (s + l) l') : Brd ls s (l + l') := by
  obtain ⟨i, k, a1, a2, a3, a4⟩ := a
  obtain ⟨i', k', b1, b2, b3, b4⟩ := b
  have e : k = i' := stt_inj h1 a2 (by omega) (by omega)
  exact ⟨i, k', by omega, b2, a3, by omega⟩
def Bds (ls : List Nat) (s : List Pc × List (Nat × Nat × Nat)) : Prop := (∀ c ∈ s.1, Brd ls c.st c.ln) ∧ ∀ j ∈ s.2, Brd ls j.1 (j.2.1 + j.2.2)
theorem Bds.join {ls : List Nat} (h1 : ∀ l ∈ ls, 1 ≤ l) {s : List Pc × List (Nat × Nat × Nat)} {e i : Nat} (v : Inv s.1 e) (h : i + 1 < s.1.length) (b : Bds ls s) : Bds ls (Pile.join s.1 i, s.2 ++ [jn s.1 i]) := by
  obtain ⟨c, hc⟩ : ∃ c, s.1[i]? = some c := ⟨_, List.getElem?_eq_getElem (by omega)⟩
  obtain ⟨d, hd⟩ : ∃ d, s.1[i + 1]? = some d := ⟨_, List.getElem?_eq_getElem h⟩
  have sd := v.side i c d hc hd
  have bc := b.1 c (List.mem_of_getElem? hc)
  have bd := b.1 d (List.mem_of_getElem? hd)
  have bj : Brd ls c.st (c.ln + d.ln) := bc.add h1 (by rw [sd.1]; exact bd)
  constructor
  · intro x hx
    have hx : x ∈ Pile.join s.1 i := hx
    rw [join_eq hc hd] at hx
    simp only [List.mem_append, List.mem_singleton] at hx
    rcases hx with (hx | hx) | hx
    · exact b.1 x (List.mem_of_mem_take hx)
    · rw [hx]
      exact bj
    · exact b.1 x (List.mem_of_mem_drop hx)
  · intro j hj
    rcases List.mem_append.mp hj with hj | hj
    · exact b.2 j hj
    · rw [List.mem_singleton.mp hj]
      unfold jn
      rw [hc, hd]
      exact bj
theorem Bds.room {ls : List Nat} (h1 : ∀ l ∈ ls, 1 ≤ l) {e b : Nat} : ∀ (k : Nat) (s : List Pc × List (Nat × Nat × Nat)), Inv s.1 e → Bds ls s → Bds ls (room b k s)
  | 0, s, _, h => h
  | k + 1, s, v, h => by
    unfold Pile.room
    cases z : hasTo s.1 b with
    | false => exact h
    | true =>
      have h2 := hasTo_two z
      exact Bds.room h1 k _ (v.join (by omega)) (h.join h1 v (by omega))
theorem Bds.fin {ls : List Nat} (h1 : ∀ l ∈ ls, 1 ≤ l) {e : Nat} : ∀ (k : Nat) (s : List Pc × List (Nat × Nat × Nat)), Inv s.1 e → Bds ls s → Bds ls (fin k s)
  | 0, s, _, h => h
  | k + 1, s, v, h => by
    unfold Pile.fin
    by_cases z : 1 < s.1.length
    · rw [if_pos z]
      have n := next_lt (ps := s.1) (by omega)
      exact Bds.fin h1 k _ (v.join n) (h.join h1 v n)
    · rw [if_neg z]
      exact h
theorem put_mem {ps : List Pc} {st l : Nat} {b : Option Nat} {c : Pc} (h : c ∈ put ps st l b) : (∃ d ∈ ps, c.st = d.st ∧ c.ln = d.ln) ∨ (c.st = st ∧ c.ln = l) := by
  unfold put at h
  cases hl : ps.getLast? with
  | none =>
    rw [hl] at h
    rw [List.mem_singleton.mp h]
    exact .inr ⟨rfl, rfl⟩
  | some d =>
    rw [hl] at h
    rcases List.mem_append.mp h with h | h
    · exact .inl ⟨c, (List.dropLast_subset _ h), rfl, rfl⟩
    · rcases List.mem_cons.mp h with h | h
      · rw [h]
        exact .inl ⟨d, List.mem_of_getLast? hl, rfl, rfl⟩
      · rw [List.mem_singleton.mp h]
        exact .inr ⟨rfl, rfl⟩
theorem Bds.sts {ls : List Nat} {w : Nat} (h1 : ∀ l ∈ ls, 1 ≤ l) : ∀ k, k ≤ ls.length → Bds ls (sts w ls k)
  | 0, _ => ⟨fun c h => by simp [Pile.sts] at h, fun c h => by simp [Pile.sts] at h⟩
  | k + 1, hk => by
    have ih := Bds.sts (w := w) h1 k (by omega)
    obtain ⟨v1, v2, v3⟩ := sts_inv (w := w) (ls := ls) k (by omega)
    have nw : Brd ls (stt ls k) (ls.getD k 0) := ⟨k, k + 1, by omega, hk, rfl, (stt_succ (by omega)).symm⟩
    have pt : ∀ (s : List Pc × List (Nat × Nat × Nat)) (b : Option Nat), Bds ls s → Bds ls (put s.1 (ls.take k).sum (ls.getD k 0) b, s.2) := fun s b hs => ⟨fun c hc => by
      rcases put_mem hc with ⟨d, m, e1, e2⟩ | ⟨e1, e2⟩
      · rw [e1, e2]
        exact hs.1 d m
      · rw [e1, e2]
        exact nw, hs.2⟩
    show Bds ls (step w (ls.take k).sum (Pile.sts w ls k) (ls.getD k 0))
    unfold step
    cases brd w (Pile.sts w ls k).1 (ls.getD k 0) with
    | none => exact pt _ _ ih
    | some b => exact pt _ _ (Bds.room h1 _ _ v1 ih)
/-- all joins of the sort -/
def joins (ls : List Nat) : List (Nat × Nat × Nat) := (sts ls.sum ls ls.length).2 ++ (fin 200 ((sts ls.sum ls ls.length).1, [])).2
theorem joins_brd {ls : List Nat} (h1 : ∀ l ∈ ls, 1 ≤ l) {j : Nat × Nat × Nat} (h : j ∈ joins ls) : Brd ls j.1 (j.2.1 + j.2.2) := by
  have b := Bds.sts (w := ls.sum) h1 ls.length (Nat.le_refl _)
  obtain ⟨v1, _, _⟩ := sts_inv (w := ls.sum) (ls := ls) ls.length (Nat.le_refl _)
  rcases List.mem_append.mp h with h | h
  · exact b.2 j h
  · exact (Bds.fin (e := (ls.take ls.length).sum) h1 200 ((sts ls.sum ls ls.length).1, []) v1 ⟨b.1, fun j h => by simp at h⟩).2 j h
theorem joins_len (ls : List Nat) : (joins ls).length ≤ ls.length := by
  have c1 := sts_cnt (w := ls.sum) (ls := ls) ls.length
  have c2 : (fin 200 ((sts ls.sum ls ls.length).1, [])).2.length + _ = ([] : List (Nat × Nat × Nat)).length + (sts ls.sum ls ls.length).1.length := fin_cnt 200 ((sts ls.sum ls ls.length).1, [])
  unfold joins
  rw [List.length_append]
  rw [List.length_nil] at c2
  omega
/-- is a place within a join -/
def cov (j : Nat × Nat × Nat) (p : Nat) : Bool := decide (j.1 ≤ p) && decide (p < j.1 + j.2.1 + j.2.2)
/-- the same, by both ends of a piece -/
def lcov (j : Nat × Nat × Nat) (p p' : Nat) : Bool := decide (j.1 ≤ p) && decide (p' ≤ j.1 + j.2.1 + j.2.2)
theorem cov_lcov {ls : List Nat} (h1 : ∀ l ∈ ls, 1 ≤ l) {j : Nat × Nat × Nat} (b : Brd ls j.1 (j.2.1 + j.2.2)) {i : Nat} (hi : i < ls.length) : lcov j (stt ls i) (stt ls (i + 1)) = cov j (stt ls i) := by
  obtain ⟨i0, k0, a1, a2, a3, a4⟩ := b
  unfold lcov cov
  congr 1
  refine decide_eq_decide.mpr ?_
  rw [Nat.add_assoc, a4]
  constructor
  · intro h
    have := stt_lt h1 (i := i) (k := i + 1) (by omega) (by omega)
    omega
  · intro h
    rcases Nat.lt_or_ge i k0 with c | c
    · exact stt_le h1 c a2
    · have := stt_le h1 c (by omega)
      omega
def rnd (js : List (Nat × Nat × Nat)) (p : Nat) : Nat := (js.filter fun j => cov j p).length
def rnds (ls : List Nat) : List Nat := (List.range ls.length).map fun i => rnd (joins ls) (stt ls i)
def price (ls : List Nat) : Nat := ((joins ls).map fun j => j.2.1 + j.2.2).sum
/-- one join costs the lengths of all pieces that are within -/
theorem sum_cov {ls : List Nat} (h1 : ∀ l ∈ ls, 1 ≤ l) {j : Nat × Nat × Nat} (b : Brd ls j.1 (j.2.1 + j.2.2)) : ((List.range ls.length).map fun i => ls.getD i 0 * (cov j (stt ls i)).toNat).sum = j.2.1 + j.2.2 := by
  obtain ⟨i0, k0, a1, a2, a3, a4⟩ := b
  have cv : ∀ i, i < ls.length → cov j (stt ls i) = (decide (i0 ≤ i) && decide (i < k0)) := fun i hi => by
    unfold cov
    rw [Nat.add_assoc, a4, a3]
    congr 1
    · refine decide_eq_decide.mpr ⟨fun h => ?_, fun h => stt_le h1 h (by omega)⟩
      rcases Nat.lt_or_ge i i0 with c | c
      · have := stt_lt h1 c (by omega)
        omega
      · exact c
    · refine decide_eq_decide.mpr ⟨fun h => ?_, fun h => stt_lt h1 h a2⟩
      rcases Nat.lt_or_ge i k0 with c | c
      · exact c
      · have := stt_le h1 c (by omega)
        omega
  have part : ∀ m, m ≤ ls.length → ((List.range m).map fun i => ls.getD i 0 * (cov j (stt ls i)).toNat).sum = stt ls (min m k0) - stt ls (min m i0) := by
    intro m
    induction m with
    | zero => intro _; simp
    | succ m ih =>
      intro hm
      have ih := ih (by omega)
      rw [List.range_succ, List.map_append, List.sum_append, ih, List.map_singleton, List.sum_singleton, cv m (by omega)]
      have e := stt_succ (ls := ls) (i := m) (by omega)
      rcases Nat.lt_or_ge m i0 with c | c
      · rw [decide_eq_false (by omega : ¬ i0 ≤ m), Bool.false_and]
        rw [show min m k0 = m by omega, show min m i0 = m by omega, show min (m + 1) k0 = m + 1 by omega, show min (m + 1) i0 = m + 1 by omega]
        simp
      · rcases Nat.lt_or_ge m k0 with c2 | c2
        · rw [decide_eq_true c, decide_eq_true c2]
          have l1 := stt_le h1 c (by omega)
          rw [show min m k0 = m by omega, show min m i0 = i0 by omega, show min (m + 1) k0 = m + 1 by omega, show min (m + 1) i0 = i0 by omega, e]
          simp only [Bool.and_self, Bool.toNat_true, Nat.mul_one]
          omega
        · rw [decide_eq_false (by omega : ¬ m < k0), Bool.and_false]
          rw [show min m k0 = k0 by omega, show min m i0 = i0 by omega, show min (m + 1) k0 = k0 by omega, show min (m + 1) i0 = i0 by omega]
          simp
  rw [part ls.length (Nat.le_refl _), show min ls.length k0 = k0 by omega, show min ls.length i0 = i0 by omega]
  omega
theorem sum_map_add {α : Type} (f g : α → Nat) : ∀ (l : List α), (l.map fun x => f x + g x).sum = (l.map f).sum + (l.map g).sum
  | [] => rfl
  | x :: l => by
    simp only [List.map_cons, List.sum_cons]
    rw [sum_map_add f g l]
    omega
theorem cost_rounds {ls : List Nat} (h1 : ∀ l ∈ ls, 1 ≤ l) : ∀ (js : List (Nat × Nat × Nat)), (∀ j ∈ js, Brd ls j.1 (j.2.1 + j.2.2)) → ((List.range ls.length).map fun i => ls.getD i 0 * rnd js (stt ls i)).sum = (js.map fun j => j.2.1 + j.2.2).sum
  | [], _ => by
    simp only [rnd, List.filter_nil, List.length_nil, Nat.mul_zero, List.map_nil, List.sum_nil]
    generalize List.range ls.length = l
    induction l with
    | nil => rfl
    | cons x l ih => rw [List.map_cons, List.sum_cons, ih]; rfl
  | j :: js, h => by
    have ih := cost_rounds h1 js fun k m => h k (List.mem_cons_of_mem _ m)
    have e := sum_cov h1 (h j (List.mem_cons_self ..))
    rw [List.map_cons, List.sum_cons, ← ih, ← e, ← sum_map_add]
    congr 1
    refine List.map_congr_left fun i _ => ?_
    unfold rnd
    cases z : cov j (stt ls i) with
    | true =>
      rw [List.filter_cons_of_pos (by exact z), List.length_cons]
      simp only [Bool.toNat_true]
      rw [Nat.mul_add]
      omega
    | false =>
      rw [List.filter_cons_of_neg (by rw [z]; exact Bool.noConfusion)]
      simp
theorem price_eq {ls : List Nat} (h1 : ∀ l ∈ ls, 1 ≤ l) : ((List.range ls.length).map fun i => ls.getD i 0 * rnd (joins ls) (stt ls i)).sum = price ls := cost_rounds h1 _ fun _ h => joins_brd h1 h
/-! all lengths times a number -/
theorem fig_mul {W m c t : Nat} (ht : 0 < t) : Lv.fig (W * t) (m * t) c = Lv.fig W m c := by
  unfold Lv.fig
  rw [Nat.mul_right_comm, Nat.mul_div_mul_right _ _ ht]
theorem lev_mul {W m d t : Nat} (ht : 0 < t) (hd : 0 < d) (h : m + d < W) : Lv.lev (W * t) (m * t) (d * t) = Lv.lev W m d := by
  obtain ⟨_, _, _, a4, a5⟩ := Lv.lev_right hd h
  have hd' : 0 < d * t := Nat.mul_pos hd ht
  have h' : m * t + d * t < W * t := by rw [← Nat.add_mul]; exact (Nat.mul_lt_mul_right ht).mpr h
  obtain ⟨_, _, _, b4, b5⟩ := Lv.lev_right hd' h'
  rw [← Nat.add_mul, fig_mul ht, fig_mul ht] at b5
  rcases Nat.lt_trichotomy (Lv.lev (W * t) (m * t) (d * t)) (Lv.lev W m d) with c | c | c
  · exact absurd (a4 _ c) b5
  · exact c
  · have := b4 _ c
    rw [← Nat.add_mul, fig_mul ht, fig_mul ht] at this
    exact absurd this a5
def sPc (t : Nat) (c : Pc) : Pc := ⟨c.st * t, c.ln * t, c.lv⟩
def sJ (t : Nat) (j : Nat × Nat × Nat) : Nat × Nat × Nat := (j.1 * t, j.2.1 * t, j.2.2 * t)
def sS (t : Nat) (s : List Pc × List (Nat × Nat × Nat)) : List Pc × List (Nat × Nat × Nat) := (s.1.map (sPc t), s.2.map (sJ t))
theorem join_mul {t : Nat} (ps : List Pc) (i : Nat) : join (ps.map (sPc t)) i = (join ps i).map (sPc t) := by
  unfold join
  rw [List.getElem?_map, List.getElem?_map]
  cases ps[i]? with
  | none => rfl
  | some c =>
    cases ps[i + 1]? with
    | none => rfl
    | some d =>
      show (ps.map (sPc t)).take i ++ [(⟨c.st * t, c.ln * t + d.ln * t, d.lv⟩ : Pc)] ++ (ps.map (sPc t)).drop (i + 2) = (ps.take i ++ [(⟨c.st, c.ln + d.ln, d.lv⟩ : Pc)] ++ ps.drop (i + 2)).map (sPc t)
      rw [List.map_append, List.map_append, List.map_take, List.map_drop, ← Nat.add_mul]
      rfl
theorem jn_mul {t : Nat} (ps : List Pc) (i : Nat) : jn (ps.map (sPc t)) i = sJ t (jn ps i) := by
  unfold jn
  rw [List.getElem?_map, List.getElem?_map]
  cases ps[i]? with
  | none => simp [sJ]
  | some c =>
    cases ps[i + 1]? with
    | none => simp [sJ]
    | some d => rfl
theorem next_mul {t : Nat} (ht : 0 < t) (ps : List Pc) : next (ps.map (sPc t)) = next ps := by
  unfold next
  rw [List.length_map, List.getElem?_map, List.getElem?_map]
  cases ps[ps.length - 3]? with
  | none => rfl
  | some c =>
    cases ps[ps.length - 1]? with
    | none => rfl
    | some d =>
      show (if 3 ≤ ps.length ∧ c.ln * t < d.ln * t then ps.length - 3 else ps.length - 2) = _
      by_cases z : c.ln < d.ln
      · have z' := (Nat.mul_lt_mul_right ht).mpr z
        simp [z, z']
      · have z' : ¬ c.ln * t < d.ln * t := fun y => z ((Nat.mul_lt_mul_right ht).mp y)
        simp [z, z']
theorem hasTo_mul {t b : Nat} (ps : List Pc) : hasTo (ps.map (sPc t)) b = hasTo ps b := by
  unfold hasTo
  rw [List.length_map, List.getElem?_map]
  cases ps[ps.length - 2]? with
  | none => rfl
  | some c =>
    obtain ⟨x, y, z⟩ := c
    cases ps.length with
    | zero => rfl
    | succ n =>
      cases n with
      | zero => rfl
      | succ n =>
        cases z <;> rfl
theorem room_mul {t b : Nat} : ∀ (k : Nat) (s : List Pc × List (Nat × Nat × Nat)), room b k (sS t s) = sS t (room b k s)
  | 0, s => rfl
  | k + 1, s => by
    unfold room
    have e1 : hasTo (sS t s).1 b = hasTo s.1 b := hasTo_mul s.1
    have e2 : (join (sS t s).1 ((sS t s).1.length - 2), (sS t s).2 ++ [jn (sS t s).1 ((sS t s).1.length - 2)]) = sS t (join s.1 (s.1.length - 2), s.2 ++ [jn s.1 (s.1.length - 2)]) := by
      show (join (s.1.map (sPc t)) ((s.1.map (sPc t)).length - 2), s.2.map (sJ t) ++ [jn (s.1.map (sPc t)) ((s.1.map (sPc t)).length - 2)]) = _
      rw [List.length_map, join_mul, jn_mul]
      unfold sS
      rw [List.map_append]
      rfl
    rw [e1]
    by_cases h : hasTo s.1 b = true
    · rw [if_pos h, if_pos h, e2]
      exact room_mul k _
    · rw [if_neg h, if_neg h]
theorem fin_mul {t : Nat} (ht : 0 < t) : ∀ (k : Nat) (s : List Pc × List (Nat × Nat × Nat)), fin k (sS t s) = sS t (fin k s)
  | 0, s => rfl
  | k + 1, s => by
    unfold fin
    have e1 : (sS t s).1.length = s.1.length := List.length_map _
    have e2 : (join (sS t s).1 (next (sS t s).1), (sS t s).2 ++ [jn (sS t s).1 (next (sS t s).1)]) = sS t (join s.1 (next s.1), s.2 ++ [jn s.1 (next s.1)]) := by
      show (join (s.1.map (sPc t)) (next (s.1.map (sPc t))), s.2.map (sJ t) ++ [jn (s.1.map (sPc t)) (next (s.1.map (sPc t)))]) = _
      rw [next_mul ht, join_mul, jn_mul]
      unfold sS
      rw [List.map_append]
      rfl
    rw [e1]
    by_cases h : 1 < s.1.length
    · rw [if_pos h, if_pos h, e2]
      exact fin_mul ht k _
    · rw [if_neg h, if_neg h]
theorem put_mul {t : Nat} (ps : List Pc) (st l : Nat) (b : Option Nat) : put (ps.map (sPc t)) (st * t) (l * t) b = (put ps st l b).map (sPc t) := by
  unfold put
  rw [List.getLast?_map]
  cases ps.getLast? with
  | none => rfl
  | some c =>
    show (ps.map (sPc t)).dropLast ++ [(⟨c.st * t, c.ln * t, b⟩ : Pc), ⟨st * t, l * t, none⟩] = (ps.dropLast ++ [(⟨c.st, c.ln, b⟩ : Pc), ⟨st, l, none⟩]).map (sPc t)
    rw [List.map_append, List.map_dropLast]
    rfl
theorem sum_mul (t : Nat) : ∀ (ls : List Nat), (ls.map fun l => l * t).sum = ls.sum * t
  | [] => by simp
  | l :: ls => by
    rw [List.map_cons, List.sum_cons, List.sum_cons, sum_mul t ls, Nat.add_mul]
theorem sts_mul {ls : List Nat} (h1 : ∀ l ∈ ls, 1 ≤ l) {t : Nat} (ht : 0 < t) : ∀ k, k ≤ ls.length → sts (ls.sum * t) (ls.map fun l => l * t) k = sS t (sts ls.sum ls k)
  | 0, _ => rfl
  | k + 1, hk => by
    have ih := sts_mul h1 ht k (by omega)
    obtain ⟨v1, v2, v3⟩ := sts_inv (w := ls.sum) (ls := ls) k (by omega)
    have e1 : ((ls.map fun l => l * t).take k).sum = (ls.take k).sum * t := by rw [← List.map_take, sum_mul]
    have e2 : (ls.map fun l => l * t).getD k 0 = ls.getD k 0 * t := by
      rw [List.getD_eq_getElem?_getD, List.getD_eq_getElem?_getD, List.getElem?_map, List.getElem?_eq_getElem (by omega)]
      rfl
    show step (ls.sum * t) ((ls.map fun l => l * t).take k).sum (sts (ls.sum * t) (ls.map fun l => l * t) k) ((ls.map fun l => l * t).getD k 0) = sS t (step ls.sum (ls.take k).sum (sts ls.sum ls k) (ls.getD k 0))
    rw [ih, e1, e2]
    have p := getD_pos h1 (i := k) (by omega)
    have sm := stt_succ (ls := ls) (i := k) (by omega)
    have st2 := stt_le h1 (i := k + 1) (k := ls.length) hk (Nat.le_refl _)
    have st3 : stt ls ls.length = ls.sum := by unfold stt; rw [List.take_length]
    have hb : brd (ls.sum * t) (sS t (sts ls.sum ls k)).1 (ls.getD k 0 * t) = brd ls.sum (sts ls.sum ls k).1 (ls.getD k 0) := by
      unfold brd
      show (match ((sts ls.sum ls k).1.map (sPc t)).getLast? with | none => none | some c => some (Lv.lev (2 * (ls.sum * t)) (2 * c.st + c.ln) (c.ln + ls.getD k 0 * t))) = _
      rw [List.getLast?_map]
      cases hl : (sts ls.sum ls k).1.getLast? with
      | none => rfl
      | some c =>
        have lc := v1.last c hl
        show some (Lv.lev (2 * (ls.sum * t)) (2 * (c.st * t) + c.ln * t) (c.ln * t + ls.getD k 0 * t)) = some (Lv.lev (2 * ls.sum) (2 * c.st + c.ln) (c.ln + ls.getD k 0))
        rw [← Nat.mul_assoc, ← Nat.mul_assoc, ← Nat.add_mul, ← Nat.add_mul]
        unfold stt at sm st2 st3
        rw [lev_mul ht (by omega) (by omega)]
    unfold step
    rw [hb]
    cases brd ls.sum (sts ls.sum ls k).1 (ls.getD k 0) with
    | none =>
      show (put ((sts ls.sum ls k).1.map (sPc t)) _ _ none, (sts ls.sum ls k).2.map (sJ t)) = _
      rw [put_mul]
      rfl
    | some b =>
      have el : (sS t (sts ls.sum ls k)).1.length = (sts ls.sum ls k).1.length := List.length_map _
      show (put (room b (sS t (sts ls.sum ls k)).1.length (sS t (sts ls.sum ls k))).1 _ _ (some b), (room b (sS t (sts ls.sum ls k)).1.length (sS t (sts ls.sum ls k))).2) = _
      rw [el, room_mul]
      show (put ((room b (sts ls.sum ls k).1.length (sts ls.sum ls k)).1.map (sPc t)) _ _ (some b), (room b (sts ls.sum ls k).1.length (sts ls.sum ls k)).2.map (sJ t)) = _
      rw [put_mul]
      rfl
theorem joins_mul {ls : List Nat} (h1 : ∀ l ∈ ls, 1 ≤ l) {t : Nat} (ht : 0 < t) : joins (ls.map fun l => l * t) = (joins ls).map (sJ t) := by
  unfold joins
  rw [sum_mul, List.length_map, sts_mul h1 ht _ (Nat.le_refl _), List.map_append]
  have e : fin 200 ((sS t (sts ls.sum ls ls.length)).1, []) = sS t (fin 200 ((sts ls.sum ls ls.length).1, [])) := fin_mul ht 200 ((sts ls.sum ls ls.length).1, [])
  rw [e]
  rfl
theorem stt_mul {ls : List Nat} {t i : Nat} : stt (ls.map fun l => l * t) i = stt ls i * t := by
  unfold stt
  rw [← List.map_take, sum_mul]
theorem cov_mul {t : Nat} (ht : 0 < t) (j : Nat × Nat × Nat) (p : Nat) : cov (sJ t j) (p * t) = cov j p := by
  unfold cov sJ
  congr 1
  · exact decide_eq_decide.mpr (Nat.mul_le_mul_right_iff ht)
  · refine decide_eq_decide.mpr ?_
    show p * t < j.1 * t + j.2.1 * t + j.2.2 * t ↔ _
    rw [← Nat.add_mul, ← Nat.add_mul]
    exact Nat.mul_lt_mul_right ht
theorem rnds_mul {ls : List Nat} (h1 : ∀ l ∈ ls, 1 ≤ l) {t : Nat} (ht : 0 < t) : rnds (ls.map fun l => l * t) = rnds ls := by
  unfold rnds
  rw [List.length_map, joins_mul h1 ht]
  refine List.map_congr_left fun i _ => ?_
  unfold rnd
  rw [stt_mul, List.filter_map, List.length_map]
  congr 1
  refine List.filter_congr fun j _ => ?_
  exact cov_mul ht j _
theorem price_mul {ls : List Nat} (h1 : ∀ l ∈ ls, 1 ≤ l) {t : Nat} (ht : 0 < t) : price (ls.map fun l => l * t) = price ls * t := by
  unfold price
  rw [joins_mul h1 ht, List.map_map, ← sum_mul, List.map_map]
  congr 1
  refine List.map_congr_left fun j _ => ?_
  show j.2.1 * t + j.2.2 * t = (j.2.1 + j.2.2) * t
  rw [Nat.add_mul]
end Pile
end L2

/-! a comprehension over zip of two lists that are equally long -/
namespace L2
open PySem PySem.Spec PyProof.Rows
theorem lc_zip2 {K : PySem.W.Frag} {a b : Addr} {xs ys : List V} {g : TG} {tt : TT} {te : TE} {vs : List Nat} {σ : L2.St} {H1 : Hp} {D : Addr} {Qd : Hp → Prop} (le : xs.length = ys.length) (Pv : Nat → Hp → Prop) (h0 : Pv 0 (upd H1 D (.lst []))) (hl : ∀ i H, Pv i H → SqL K H a xs ∧ SqL K H b ys)
    (hs : ∀ i x y H T, xs[i]? = some x → ys[i]? = some y → Pv i H → H T = none → g (.ref T) (wipe σ vs) (upd H T (.tup [x, y])) fun σ2 H2 => wipe σ2 vs = wipe σ vs ∧ tt σ2 H2 fun c H3 =>
      if c = true then te σ2 H3 fun y H4 => ∃ acc, H4 D = some (.lst acc) ∧ acc.length < sizeLine ∧ Pv (i + 1) (upd H4 D (.lst (acc ++ [y]))) else Pv (i + 1) H3) (hd : ∀ H, Pv xs.length H → Qd H) :
    ∃ W : Nat → Nat → Hp → Prop, (∃ m, W 0 m (upd H1 D (.lst []))) ∧ ∀ i m H, W i m H →
      ((Itz K a b).stop i H ∧ Qd H) ∨ ((Itz K a b).go i H ∧ ∃ Nx : Hp → Prop, (∀ H', Nx H' → ∃ m', m' < m ∧ W (i + 1) m' H') ∧ ∀ x H', (Itz K a b).yld i H x H' → g x (wipe σ vs) H' fun σ2 H2 => wipe σ2 vs = wipe σ vs ∧ tt σ2 H2 fun c H3 =>
        if c = true then te σ2 H3 fun y H4 => ∃ acc, H4 D = some (.lst acc) ∧ acc.length < sizeLine ∧ Nx (upd H4 D (.lst (acc ++ [y]))) else Nx H3) := by
  refine ⟨fun i m H => m = xs.length - i ∧ i ≤ xs.length ∧ Pv i H, ⟨xs.length, by simp, Nat.zero_le _, h0⟩, ?_⟩
  rintro i m H ⟨rfl, hi, p⟩
  obtain ⟨qa, qb⟩ := hl i H p
  by_cases hlt : i < xs.length
  · refine .inr ⟨⟨xs, ys, xs[i], ys[i], qa, qb, by simp [hlt], by simp [← le, hlt]⟩, Pv (i + 1), fun H' p' => ⟨xs.length - (i + 1), by omega, rfl, hlt, p'⟩, fun x H' y => ?_⟩
    obtain ⟨T, u, v, e, nT, eH, f, f2⟩ := y
    subst e eH
    exact hs i u v _ T (f xs qa) (f2 ys qb) p nT
  · have e : i = xs.length := by omega
    subst e
    exact .inl ⟨⟨xs, ys, qa, qb, .inl (Nat.le_refl _)⟩, hd H p⟩
end L2

/-! sorted(xs, key=lambda x: g[x]), g a list of ints that is captured -/
namespace L2
open PySem PySem.Spec PyProof.Rows PySem.W LamX
section
variable {prog : Program} {w : World} {A : Around} {s : Shared}
/-- the lambda called with an index: it gives the item, and the heap only grows -/
theorem lam_key {qual : Str} {params : Arguments} {scope : Scope} {cl : List (Str × Addr)} {pm ctv : Value} {f c' c p : Addr} {g x : Str} {xp gp pos : Pos} {its : List Value} {i : Nat} {n : Int} {t t2 : Tok}
    (hroom : A.depth < recursionLimit) (lim : s.heap.NoLimit)
    (of1 : s.heap.get? f = some (kla_obj "<lambda>" qual params (.Subscript (.Name g gp) (.Name x xp) pos) scope cl pm c' ctv)) (hcd : s.heap.CodeRec (.ref c') qual)
    (hbind : ∀ v : Value, bindArgs (kla_fn "<lambda>" qual params (.Subscript (.Name g gp) (.Name x xp) pos) scope cl pm (.ref c') ctv) ⟨[v], []⟩ = pure [(x, v)])
    (hk : scope.kind = .function) (hco : scope.isCoroutine = false) (hgen : scope.isGenerator = false) (hcell : ∀ y ∈ scope.names, y.2 ≠ .cell) (hx : scope.names.lookup x = some .local) (hg : scope.names.lookup g = some .free)
    (hc : cl.lookup g = some c) (hcc : s.heap.IsCell c (some (.ref p))) (hl : s.heap.IsList p its.toArray) (hi : its[i]? = some (.int n t2))
    (hsz : its.length ≤ sizeLine)
    (d1 : (x == ("__debug__" : Str)) = false) (d2 : (g == ("__debug__" : Str)) = false) (d3 : (g == ("__classdict__" : Str)) = false) :
    wpAny (model prog w) A (call (.ref f) [.int (i : Int) t]) (KeyPure (.int n) s) (fun _ _ => False) s := by
  refine wpAny_call ?_
  refine kla_callFunE hroom of1 rfl hco hgen rfl hcd ?_
  rw [hbind]
  refine wpAny_pure (wpAny_newFunctionEnv hcell (fun y hy => by rw [List.mem_singleton.mp hy]; exact hx) (fun h₁ hns hsb => ⟨lim.fresh _ hsb, ?_⟩) hk)
  show codeAny _ _ (.expr _ (envX qual scope s.heap.objs.size f (.ref c') cl)) _ _
  have kp : ∀ b o, s.heap.get? b = some o → h₁.get? b = some o := fun b o e => hsb.extBut b o (Nat.ne_of_lt (Heap.lt_size e)) (Heap.get?_push_of_some _ e)
  have hcc1 : h₁.IsCell c (some (.ref p)) := by
    obtain ⟨o, ho, hd⟩ := hcc
    exact ⟨o, kp _ _ ho, hd⟩
  have hl1 : h₁.IsList p its.toArray := by
    obtain ⟨o, ho, hd⟩ := hl
    exact ⟨o, kp _ _ ho, hd⟩
  refine kla_codeExpr ?_
  refine PySem.wpAny_Subscript_Name (T := "list") slot_list_getitem.lookup ?_
  refine wpAny_Name (wpAny_loadName_free (c := c) (v := .ref p) hk hg hc hcc1 ?_ d3) d2
  refine wpAny_Name (wpAny_loadName_local (m := fun y => ([(x, Value.int (i : Int) t)]).reverse.lookup y) hk hx hns (v := .int (i : Int) t) ?_ ?_) d1
  · show List.lookup x [(x, _)] = _
    simp [List.lookup]
  have li : i < its.length := (List.getElem?_eq_some_iff.mp hi).1
  have h63 := line63
  refine ⟨hl1.typeIs, getItem_listL hl1 (by omega) (by omega) (by rw [Int.toNat_natCast]; exact hi) ⟨h₁, _, rfl, kp, Reads.int _ _⟩⟩
end
theorem key_each : ∀ {us : List Value} {ns : List Int}, IntsAre us ns → EachIs (fun v a => ∃ t, v = Value.int a t) us ns
  | _, _, .nil => .nil
  | _, _, .cons n t h => .cons ⟨t, rfl⟩ (key_each h)
theorem key_ints : ∀ {us : List Value} {ns : List Int}, EachIs (fun v a => ∃ t, v = Value.int a t) us ns → IntsAre us ns
  | _, _, .nil => .nil
  | _, _, .cons ⟨t, e⟩ h => by
    subst e
    exact .cons _ t (key_ints h)
theorem SqL.extN {K : PySem.W.Frag} {H H' : Hp} {a : Addr} {xs : List V} (e : ExtN H H') (h : SqL K H a xs) : SqL K H' a xs := by
  rcases h with (h | ⟨o, h⟩) | h
  · exact .inl (.inl (e _ _ h fun ps z => by cases z))
  · exact .inl (.inr ⟨o, e _ _ h fun ps z => by cases z⟩)
  · exact .inr h
def gSortKL (K : PySem.W.Frag) (T : List (Addr × Str)) (j : Nat) (σ : L2.St) (Q : VK) : VK := fun v H1 => Tabs T H1 ∧ ∃ (l p : Addr) (ns ms : List Int), v = .ref l ∧ σ[j]? = some (some (.ref p)) ∧ SqL K H1 l (ns.map V.int) ∧ SqL K H1 p (ms.map V.int) ∧ (∀ n ∈ ns, 0 ≤ n ∧ n < (ms.length : Int)) ∧
  ∀ (H2 : Hp) (r : Addr), ExtN H1 H2 → Tabs T H2 → H2 r = none → Q (.ref r) (upd H2 r (.lst ((ns.mergeSort fun a b => decide (ms.getD a.toNat 0 ≤ ms.getD b.toNat 0)).map V.int)))
def tSortKL (K : PySem.W.Frag) (T : List (Addr × Str)) (j : Nat) (te : TE) : TE := fun σ H Q => te σ H (gSortKL K T j σ Q)
section
variable {X : Cx}
theorem pe_sortedKL {T : List (Addr × Str)} {j : Nat} {te : TE} {e : Expr} {g x : Str} {params : Arguments} {scope : Scope} {c P : Addr} {sp pos lpos kpos gp xp bp : Pos} (hr : Room 2 X.A)
    (hg : Gl X "sorted") (hm : X.mg "sorted" = none) (hpa : PA X [e] (tCons te tNil))
    (TB : TabB X.base X.mg c P) (hcode : X.env.code = .ref c) (hmT : (P, X.env.qual ++ "<lambda>") ∈ T) (hu : ∀ p ∈ T, p.1 = P → p.2 = X.env.qual ++ "<lambda>")
    (hfree : ∀ y ∈ scope.names, y.2 = .free → X.env.scope.names.lookup y.1 = some .cell ∨ X.env.scope.names.lookup y.1 = some .free) (hdef : defaultsOf params X.env = ([], []))
    (hk : scope.kind = .function) (hco : scope.isCoroutine = false) (hgen : scope.isGenerator = false) (hcell : ∀ y ∈ scope.names, y.2 ≠ .cell) (hx : scope.names.lookup x = some .local) (hgf : scope.names.lookup g = some .free)
    (hgN : X.N[j]? = some g) (hgc : X.env.scope.names.lookup g = some .cell)
    (hbind : ∀ (q : Str) (cl : List (Str × Addr)) (pm cv ctv v : Value), bindArgs (kla_fn "<lambda>" q params (.Subscript (.Name g gp) (.Name x xp) bp) scope cl pm cv ctv) ⟨[v], []⟩ = pure [(x, v)])
    (hst : backTo pos (starEach [e] X.env) = (false, eval e X.env) :: backTo pos (starEach [] X.env) := by rfl) (hpl : (backTo pos (starEach [e] X.env)).any (·.1) = false := by rfl)
    (d1 : (x == ("__debug__" : Str)) = false := by decide) (d2 : (g == ("__debug__" : Str)) = false := by decide) (d3 : (g == ("__classdict__" : Str)) = false := by decide) :
    PE X (.Call (.Name "sorted" sp) [e] [⟨some (Str.ofString "key"), .Lambda params (.Subscript (.Name g gp) (.Name x xp) bp) scope lpos, kpos⟩] pos) (tSortKL X.K T j te) := by
  refine ⟨fun pins s σ H Q I h => ?_⟩
  refine wpAny_Call_Name_kw (ld_blt I hg hm (show bootBuiltins "sorted" = some (.builtin "sorted") by decide +kernel) ?_)
  refine PyProof.Rows.callWith_kw (thn (hpa.run pos pins s σ H (fun vs H1 => match vs with | [v] => gSortKL X.K T j σ Q v H1 | _ => False) I ?_) fun us s1 ⟨vs, H1, I1, r1, q1⟩ => ?_) hst hpl
  · exact h
  match vs, q1, r1 with
  | [v], q1, r1 =>
  obtain ⟨hT, l, p, ns, ms, rfl, hj, hl, hp, hb, q⟩ := (show gSortKL X.K T j σ Q v H1 from q1)
  obtain rfl := Vals.ref1 r1
  have hfC : ∀ y ∈ scope.names, y.2 = .free → ∃ c, X.env.cells.lookup y.1 = some c := fun y hy e => (hfree y hy e).elim (fun z => I1.ok.has _ (.inl z)) fun z => I1.ok.has _ (.inr z)
  refine wpAny_evalAll_cons (wpAny_bind (lam_make2 I1 TB hcode hmT hu hT hdef hfC fun f c' pm' ctv H2 s2 I2 eN T2 hf hfn hfr hco' => wpAny_bind (wpAny_standAt (wpAny_pure ?_))))
  refine wpAny_evalAll_nil ?_
  show wpAny _ _ (call (.builtin "sorted") [.ref l] [(Str.ofString "key", .ref f)]) _ _ _
  obtain ⟨its, rv, hpl2, hz⟩ := I2.list (hl.extN eN)
  obtain ⟨mts, mv, hml, hmz⟩ := I2.list (hp.extN eN)
  have hz : ns.length ≤ sizeLine := by rw [List.length_map] at hz; exact hz
  have hei := key_each rv.ints
  refine sorted_key_data (b := false) (fun a : Int => .int (ms.getD a.toNat 0)) hpl2.isList hei (AllAlike.of fun _ _ => by simp [alike]) (Sortable.others fun _ => ⟨(fun z => by cases z), (fun _ z => by cases z)⟩) hz (fun a _ => ?_) (ksk_s1 _ _) (fun _ => ksk_l1 _ _) (fun _ => ksk_t1 _ _) (fun v a hva ha h tk kp => ?_) fun out c2 h' tk kp fresh hD lout eo => ?_
  · have := hr.un
    show X.A.units + 2 + 0 < cLine
    omega
  · obtain ⟨t, rfl⟩ := hva
    obtain ⟨b0, b1⟩ := hb a ha
    obtain ⟨i, rfl⟩ : ∃ i : Nat, a = (i : Int) := ⟨a.toNat, (Int.toNat_of_nonneg b0).symm⟩
    have hi : i < ms.length := by omega
    obtain ⟨m, hn, hlk⟩ := I2.loc
    obtain ⟨u, ru, lk⟩ := hlk j g (.ref p) hgN hj (.inr (.inl hgc))
    obtain rfl : u = Value.ref p := ru
    have hgc2 : X.env.kindOf g = some .cell := hgc
    obtain ⟨c0, hc0, hcc⟩ : ∃ c0, X.env.cells.lookup g = some c0 ∧ s2.heap.IsCell c0 (some (.ref p)) := by
      rcases lk with ⟨z, _⟩ | ⟨_, c0, a1, a2⟩
      · rw [hgc2] at z
        cases z
      · exact ⟨c0, a1, a2⟩
    have hcl : (cloFrom X.env.cells scope.names []).lookup g = some c0 := NdefX.clo_has hfC (PySem.mem_of_lookup hgf) hc0
    have hmi : (ms.map V.int)[i]? = some (V.int (ms.getD i 0)) := by
      rw [List.getElem?_map, List.getElem?_eq_getElem hi]
      simp [List.getD_eq_getElem?_getD, List.getElem?_eq_getElem hi]
    obtain ⟨wv, ew, t2, rfl⟩ := mv.get hmi
    obtain ⟨⟨oc, vs', tq, k1, k2, k3⟩, _, _⟩ := I2.hok c' _ hco'
    rw [Int.toNat_natCast]
    refine lam_key (c := c0) (p := p) (its := mts) (t2 := t2) hr.in1.in1.depth ?_ (kp _ _ hf) ⟨c', oc, vs', tq, rfl, kp _ _ k1, k2, k3⟩ (fun v => hbind _ _ _ _ _ v) hk hco hgen hcell hx hgf hcl ?_ ?_ ew ?_ d1 d2 d3
    · exact I2.nolimit.keeps kp
    · obtain ⟨o, ho, hd⟩ := hcc
      exact ⟨o, kp _ _ ho, hd⟩
    · obtain ⟨o, ho, hd⟩ := hml.isList
      exact ⟨o, kp _ _ ho, hd⟩
    · rw [← mv.length]
      exact hmz
  · rw [dataLe_int] at eo
    have hlen : ((ns.mergeSort fun a b => decide (ms.getD a.toNat 0 ≤ ms.getD b.toNat 0)).map V.int).length ≤ sizeLine := by
      rw [List.length_map, List.length_mergeSort]
      exact hz
    exact ⟨.ref _, _, I2.laid (o := .lst ((ns.mergeSort fun a b => decide (ms.getD a.toNat 0 ≤ ms.getD b.toNat 0)).map V.int)) (t' := tk) kp (Nat.le_succ _) ⟨hlen, out, c2, vals_of_ints (key_ints eo), hD⟩, rfl, q _ _ eN T2 (I2.hok.fresh (Nat.le_succ _))⟩
/-- the names of the lambda and of the def that makes it -/
def keyScB (sc scope : Scope) (x g : Str) : Bool :=
  decide (scope.kind = .function) && !scope.isCoroutine && !scope.isGenerator && scope.names.all (fun y => !decide (y.2 = .cell)) && decide (scope.names.lookup x = some .local) && decide (scope.names.lookup g = some .free) && decide (sc.names.lookup g = some .cell) &&
    scope.names.all fun y => !decide (y.2 = .free) || decide (sc.names.lookup y.1 = some .cell) || decide (sc.names.lookup y.1 = some .free)
/-- .. with one table -/
theorem pe_sortedK1 {j : Nat} {te : TE} {e : Expr} {g x q : Str} {params : Arguments} {scope : Scope} {c P : Addr} {sp pos lpos kpos gp xp bp : Pos} (hr : Room 2 X.A)
    (hg : Gl X "sorted") (hm : X.mg "sorted" = none) (hpa : PA X [e] (tCons te tNil)) (TB : TabB X.base X.mg c P) (hcode : X.env.code = .ref c) (hq : X.env.qual ++ "<lambda>" = q) (hsc : keyScB X.env.scope scope x g = true) (hdef : defaultsOf params X.env = ([], []))
    (hgN : X.N[j]? = some g)
    (hbind : ∀ (q : Str) (cl : List (Str × Addr)) (pm cv ctv v : Value), bindArgs (kla_fn "<lambda>" q params (.Subscript (.Name g gp) (.Name x xp) bp) scope cl pm cv ctv) ⟨[v], []⟩ = pure [(x, v)])
    (hst : backTo pos (starEach [e] X.env) = (false, eval e X.env) :: backTo pos (starEach [] X.env) := by rfl) (hpl : (backTo pos (starEach [e] X.env)).any (·.1) = false := by rfl)
    (d1 : (x == ("__debug__" : Str)) = false := by decide) (d2 : (g == ("__debug__" : Str)) = false := by decide) (d3 : (g == ("__classdict__" : Str)) = false := by decide) :
    PE X (.Call (.Name "sorted" sp) [e] [⟨some (Str.ofString "key"), .Lambda params (.Subscript (.Name g gp) (.Name x xp) bp) scope lpos, kpos⟩] pos) (tSortKL X.K [(P, q)] j te) := by
  unfold keyScB at hsc
  simp only [Bool.and_eq_true, Bool.or_eq_true, Bool.not_eq_true', decide_eq_true_eq, decide_eq_false_iff_not, List.all_eq_true] at hsc
  obtain ⟨⟨⟨⟨⟨⟨⟨h1, h2⟩, h3⟩, h4⟩, h5⟩, h6⟩, h7⟩, h8⟩ := hsc
  exact pe_sortedKL hr hg hm hpa TB hcode (List.mem_singleton.mpr (by rw [hq])) (fun p hp _ => by rw [List.mem_singleton.mp hp, hq]) (fun y hy e => (h8 y hy).elim (fun z => z.elim (fun z => absurd e z) .inl) .inr) hdef h1 h2 h3 h4 h5 h6 hgN h7 hbind hst hpl d1 d2 d3
end
section
variable {P : Program} {w : World} {K : PySem.W.Frag} {mg : Str → Option Value} {base : Heap}
/-- a def whose code object is known -/
theorem Fun.okC {x qual : Str} {st : Stmt} {f c : Addr} {fd : FuncData} {N ps : List Str} {k : Nat} {sp : Sp} (F : Fun K x qual st f fd) (hc : fd.code = .ref c) (S : FnScope N ps (defScope st)) (len : ∀ vs H Q E, sp vs H Q E → vs.length = ps.length)
    (hbody : ∀ (A : Around) (outer : List Env) (s : Shared) (H : Hp) (vs : List V) (Q : VK) (E : XK), Room k (A.deeper (envOfC qual (defScope st) s.heap.objs.size f (.ref c))) → sp vs H Q E →
      ∃ t, PSs (cxOf CX0 P w K mg base N qual (defScope st) f (.ref c) A outer s H E).nox (defBody st) t ∧ t { nx := fun _ H' => Q .non H', rt := Q } (start N vs) H) : FnOk P w K mg base CX0 (k + 1) f fd ps sp := by
  obtain ⟨oc, od, kV, doc, pm, an, cdv, ct, osl, rfl, lk, hcd⟩ := F.ex
  have e : cdv = .ref c := hc
  subst e
  refine fn_of lk hcd S len fun A outer s H vs Q E hr hsp => ?_
  obtain ⟨t, h, q⟩ := hbody A outer s H vs Q E hr hsp
  exact ⟨t, h.nox, q⟩
end
end L2

/-! a lambda of one parameter that is handed to a def with other things -/
namespace L2
open PySem PySem.Spec PyProof.Rows PySem.W LamX
/-- one parameter, no other name of its own: captured ones and globals -/
structure LamS1 (sc scope : Scope) (x : Str) : Prop where
  kind : scope.kind = .function
  co : scope.isCoroutine = false
  gen : scope.isGenerator = false
  own : ∀ y ∈ scope.names, y.2 ≠ .cell
  loc : ∀ y ∈ scope.names, y.2 = .local → y.1 = x
  hx : scope.names.lookup x = some .local
  free : ∀ y ∈ scope.names, y.2 = .free → sc.names.lookup y.1 = some .cell ∨ sc.names.lookup y.1 = some .free
def lamS1B (sc scope : Scope) (x : Str) : Bool :=
  decide (scope.kind = .function) && !scope.isCoroutine && !scope.isGenerator && decide (scope.names.lookup x = some .local) && scope.names.all fun y => !decide (y.2 = .cell) && (!decide (y.2 = .local) || decide (y.1 = x)) && (!decide (y.2 = .free) || decide (sc.names.lookup y.1 = some .cell) || decide (sc.names.lookup y.1 = some .free))
theorem lamS1_by {sc scope : Scope} {x : Str} (h : lamS1B sc scope x = true) : LamS1 sc scope x := by
  unfold lamS1B at h
  simp only [Bool.and_eq_true, Bool.or_eq_true, Bool.not_eq_true', decide_eq_true_eq, decide_eq_false_iff_not, List.all_eq_true] at h
  obtain ⟨⟨⟨⟨h1, h2⟩, h3⟩, h5⟩, h4⟩ := h
  refine ⟨h1, h2, h3, fun y hy => (h4 y hy).1.1, fun y hy e => ?_, h5, fun y hy e => ?_⟩
  · rcases (h4 y hy).1.2 with z | z
    · exact absurd e z
    · exact z
  · rcases (h4 y hy).2 with (z | z) | z
    · exact absurd e z
    · exact .inl z
    · exact .inr z
theorem LamS1.has {X : Cx} {scope : Scope} {x : Str} (L : LamS1 X.env.scope scope x) (ok : X.Ok) : ∀ y ∈ scope.names, y.2 = .free → ∃ c, X.env.cells.lookup y.1 = some c := fun y hy e => by
  rcases L.free y hy e with k | k
  · exact ok.has _ (.inl k)
  · exact ok.has _ (.inr k)
/-- the context of the lambda's body: the names of the def that made it, and the parameter behind them -/
def lamCx1 (X : Cx) (A : Around) (outer : List Env) (s : Shared) (H : Hp) (E : XK) (scope : Scope) (x : Str) (f c' : Addr) : Cx := { lamCx X A outer s H E scope f c' with N := X.N ++ [x] }
section
variable {X : Cx} {pins : List (Addr × Obj)} {σ : L2.St} {H HZ : Hp} {s s1 : Shared}
theorem lam_start1 {A : Around} {outer : List Env} {E : XK} {scope : Scope} {x : Str} {v : V} {u : Value} {f c' : Addr} {h₁ : Heap} {tk : Nat} (I : Inv X pins σ H s) (L : LamS1 X.env.scope scope x) (hxN : x ∉ X.N) (r : L2.RelV v u) (e0 : Env0 X.prog X.w X.K X.mg X.base A outer s1 HZ) (hd : A.handled = none)
    (un : Un (frs X.stack) [] H HZ s.heap s1.heap) (hns : h₁.Ns s1.heap.objs.size fun y => ([(x, u)] : List (Str × Value)).reverse.lookup y) (kp : ∀ b o, s1.heap.get? b = some o → h₁.get? b = some o) :
    Inv (lamCx1 X A outer s1 HZ E scope x f c') [] (σ ++ [some v]) HZ { s1 with heap := h₁, toks := tk } := by
  have hfree := L.has I.ok
  have cm : ∀ {y c}, (cloFrom X.env.cells scope.names []).lookup y = some c → X.env.cells.lookup y = some c := fun {y c} e => by
    rcases cloFrom_mem (PySem.mem_of_lookup e) with hm | ⟨h1, h2⟩
    · cases hm
    · obtain ⟨c1, hc⟩ := hfree _ h1 rfl
      have hc : X.env.cells.lookup y = some c1 := hc
      have e2 : c = c1 := by
        rw [h2, hc] <;> rfl
      rw [e2]
      exact hc
  have look : ∀ {y}, scope.names.lookup y = some .free → ∃ c, (cloFrom X.env.cells scope.names []).lookup y = some c := fun {y} hl => by
    have hy : (y, NameKind.free) ∈ scope.names := PySem.mem_of_lookup hl
    exact mem_lookup (cloFrom_has (cells := X.env.cells) (acc := []) hy)
  have cellK : ∀ {c : Addr} {v : Option Value}, H c = none → s.heap.IsCell c v → h₁.IsCell c v := fun {c v} n ⟨o, ho, hd⟩ => by
    obtain ⟨sl, q⟩ := un.any ho n (by simp)
    exact ⟨_, kp _ _ q, hd⟩
  have noA : ∀ b : Addr, b ∉ (lamCx1 X A outer s1 HZ E scope x f c').ex := fun b z => absurd (show b ∈ ([] : List Addr) from z) (by simp)
  have ln := I.len
  refine ⟨⟨e0.mod, L.kind, rfl, rfl, Nat.le_refl _, fun y z c e1 e2 => I.ok.inj y z c (cm e1) (cm e2), fun y hy => ?_, fun y c z _ => ?_, fun _ => hd, Around.frames_deeper e0.frames, .inr ⟨rfl, rfl⟩, fun b z => absurd z (noA b), e0.bs, e0.bsz, fun b _ _ => noA b,
      fun b z => absurd z (noA b), e0.funs, e0.frf⟩,
    rfl, e0.bare, Un.kept kp, ⟨_, hns, fun i y v' e1 e2 e3 => ?_⟩, fun y c e => ?_, e0.hok.fresh (Nat.le_refl _), fun y c e => ?_, fun q hq => absurd (show q ∈ ([] : List (Addr × Obj)) ++ [] from hq) (by simp), e0.hok.kept kp, ?_⟩
  · have hy : scope.names.lookup y = some .cell ∨ scope.names.lookup y = some .free := hy
    rcases hy with hy | hy
    · exact absurd rfl (L.own _ (PySem.mem_of_lookup hy))
    · exact look hy
  · have z : false = true := z
    cases z
  · have e1 : (X.N ++ [x])[i]? = some y := e1
    have e3 : Vis scope y := e3
    by_cases hi : i < X.N.length
    · rw [List.getElem?_append_left hi] at e1
      rw [List.getElem?_append_left (by omega)] at e2
      have nx : y ≠ x := fun z => hxN (z ▸ List.mem_of_getElem? e1)
      rcases e3 with k | k | k
      · exact absurd (L.loc _ (PySem.mem_of_lookup k) rfl) nx
      · exact absurd rfl (L.own _ (PySem.mem_of_lookup k))
      · obtain ⟨m, hn, hl⟩ := I.loc
        have hvis : Vis X.env.scope y := (L.free _ (PySem.mem_of_lookup k) rfl).elim (fun k => .inr (.inl k)) (fun k => .inr (.inr k))
        obtain ⟨w', r, q⟩ := hl i y v' e1 e2 hvis
        obtain ⟨c2, h2⟩ := look k
        refine ⟨w', r, .inr ⟨.inr k, c2, h2, ?_⟩⟩
        have c1 := cm h2
        rcases q with ⟨k', _⟩ | ⟨_, c3, e', z⟩
        · have k' : X.env.scope.names.lookup y = some .local := k'
          rcases L.free _ (PySem.mem_of_lookup k) rfl with k2 | k2 <;> rw [show X.env.scope.names.lookup y = _ from k2] at k' <;> cases k'
        · rw [c1] at e'
          cases e'
          exact cellK (I.freeC y _ c1) z
    · rw [List.getElem?_append_right (by omega)] at e1
      rw [List.getElem?_append_right (by omega)] at e2
      obtain hz : i - X.N.length = 0 := by
        cases h : i - X.N.length with
        | zero => rfl
        | succ j => rw [h] at e1; simp at e1
      rw [hz] at e1
      rw [ln, hz] at e2
      obtain rfl : x = y := Option.some.inj e1
      obtain rfl : v = v' := Option.some.inj (Option.some.inj e2)
      refine ⟨u, r, .inl ⟨L.hx, ?_⟩⟩
      show List.lookup x [(x, u)] = some u
      simp [List.lookup]
  · obtain ⟨w', z⟩ := I.cell y c (cm e)
    exact ⟨w', cellK (I.freeC y c (cm e)) z⟩
  · obtain ⟨v, o, ho, hd⟩ := I.cell y c (cm e)
    exact un.free c o ho (I.freeC y c (cm e)) (by simp)
  · show (σ ++ [some v]).length = (X.N ++ [x]).length
    rw [List.length_append, List.length_append, ln]
    rfl
/-- x(e), in the def that got the lambda: Z is that def's context, entered at s -/
theorem pe_act1 {CXg : CXT} {Eg : XK} {Ng : List Str} {qg : Str} {sg : Scope} {g f c' : Addr} {cdg pm ctv : Value} {params : Arguments} {body : Expr} {scope : Scope} {k i : Nat} {a x : Str} {pn : List (Addr × Obj)} {xe : Value → Shared → Prop} {W : WX} {E : XK} {tb te : TE} {e : Expr} {p1 p2 : Pos}
    (I : Inv X pins σ H s) (L : LamS1 X.env.scope scope x) (hxN : x ∉ X.N) (hf : s.heap.get? f = some (PySem.W.kla_obj "<lambda>" (X.env.qual ++ "<lambda>") params body scope (cloFrom X.env.cells scope.names []) pm c' ctv)) (hfn : H f = none) (hfr : f ∉ frs X.stack)
    (hbind : ∀ u : Value, bindArgs (PySem.W.kla_fn "<lambda>" (X.env.qual ++ "<lambda>") params body scope (cloFrom X.env.cells scope.names []) pm (.ref c') ctv) ⟨[u], []⟩ = pure [(x, u)])
    (tk : Takes ((cxOf CXg X.prog X.w X.K X.mg X.base Ng qg sg g cdg X.A X.stack s H Eg).tr pn xe) W) (hW : ∀ cls d σ' H', E cls d H' → W cls d σ' H') (hr : Room (k + 1) (X.A.deeper (envOfC qg sg s.heap.objs.size g cdg)))
    (hbody : ∀ (A : Around) (outer : List Env) (s : Shared) (H : Hp), Room k (A.deeper (lamEnv X scope s.heap.objs.size f c')) → PE (lamCx1 X A outer s H E scope x f c') body tb)
    (hN : Ng[i]? = some a) (hv : Vis sg a) (he : PE ((cxOf CXg X.prog X.w X.K X.mg X.base Ng qg sg g cdg X.A X.stack s H Eg).tr pn xe) e te) (hd : (a == ("__debug__" : Str)) = false := by decide) (hcd : (a == ("__classdict__" : Str)) = false := by decide)
    (hs : starEach [e] ((cxOf CXg X.prog X.w X.K X.mg X.base Ng qg sg g cdg X.A X.stack s H Eg).tr pn xe).env = (false, eval e ((cxOf CXg X.prog X.w X.K X.mg X.base Ng qg sg g cdg X.A X.stack s H Eg).tr pn xe).env) :: starEach [] ((cxOf CXg X.prog X.w X.K X.mg X.base Ng qg sg g cdg X.A X.stack s H Eg).tr pn xe).env := by rfl)
    (hpl : (backTo p2 (starEach [] ((cxOf CXg X.prog X.w X.K X.mg X.base Ng qg sg g cdg X.A X.stack s H Eg).tr pn xe).env)).any (·.1) = false := by rfl) :
    PE ((cxOf CXg X.prog X.w X.K X.mg X.base Ng qg sg g cdg X.A X.stack s H Eg).tr pn xe) (.Call (.Name a p1) [e] [] p2)
      (fun σZ HZ Q => σZ[i]? = some (some (.ref f)) ∧ te σZ HZ fun v H1 => H1 c' = some (CodeO c' (X.env.qual ++ "<lambda>")) ∧ tb (σ ++ [some v]) H1 Q) := by
  refine ⟨fun pinsZ sZ σZ HZ Q IZ h => ?_⟩
  obtain ⟨hsl, ht⟩ := h
  refine wpAny_Call_Name_kw (thn ((pe_var (pos := p1) (i := i) hN hv hd hcd).run pinsZ sZ σZ HZ (fun v H1 => v = .ref f ∧ H1 = HZ) IZ ⟨.ref f, hsl, rfl, rfl⟩) fun u s1 ⟨v, H1, I1, r1, q1⟩ => ?_)
  obtain ⟨ev, eH⟩ := q1
  subst ev
  rw [eH] at I1
  obtain rfl : u = Value.ref f := r1
  have of1 := fun (s2 : Shared) (H2 : Hp) (I2 : Inv ((cxOf CXg X.prog X.w X.K X.mg X.base Ng qg sg g cdg X.A X.stack s H Eg).tr pn xe) pinsZ σZ H2 s2) => I2.base.keep f _ hf hfn hfr (fun z => nomatch (show f ∈ ([] : List Addr) from z))
  refine PySem.W.callWith_F (first := []) ⟨_, _, _, _, of1 s1 HZ I1⟩ (thn ((pa_cons he pa_nil hs).run p2 pinsZ s1 σZ HZ (fun vs H2 => match vs with | [v] => H2 c' = some (CodeO c' (X.env.qual ++ "<lambda>")) ∧ tb (σ ++ [some v]) H2 Q | _ => False) I1 ?_) fun us s2 ⟨vs, H2, I2, r, q⟩ => ?_) hs hpl
  · exact ht
  match vs, q, r with
  | [v], q, r =>
  obtain ⟨u, rfl, rv⟩ : ∃ u, us = [u] ∧ L2.RelV v u := by
    cases r with
    | cons r1 r2 => cases r2; exact ⟨_, rfl, r1⟩
  have of2 := of1 s2 H2 I2
  refine ⟨⟨_, _, _, _, of2⟩, ?_⟩
  show wpAny _ _ (call (.ref f) [u]) _ _ _
  obtain ⟨hc, hb⟩ := q
  have un : Un (frs X.stack) [] H H2 s.heap s2.heap := I2.base
  obtain ⟨⟨oc, ws, t, hoc, hdc, hvc⟩, _, _⟩ := I2.hok c' _ hc
  have rc : codeAny (model X.prog X.w) (X.A.deeper (envOfC qg sg s.heap.objs.size g cdg)) (.call (.ref f) ⟨[u], []⟩) (CR (L2.CX X.prog X.w) (envOfC qg sg s.heap.objs.size g cdg :: X.stack) X.prog X.w H2 s2 Q E) s2 := by
    refine PySem.W.kla_callFunE hr.depth of2 rfl L.co L.gen rfl ⟨c', oc, ws, t, rfl, hoc, hdc, hvc⟩ ?_
    rw [hbind]
    refine wpAny_pure (wpAny_newFunctionEnv (fun y hy => L.own y hy) (fun y hy => by rw [List.mem_singleton.mp hy]; exact L.hx) (fun h₁ hns hsb => ⟨I2.nolimit.fresh _ hsb, ?_⟩) L.kind)
    show codeAny _ _ (.expr body (lamEnv X scope s2.heap.objs.size f c')) _ _
    have kp : ∀ b o, s2.heap.get? b = some o → h₁.get? b = some o := fun b o e => hsb.extBut b o (Nat.ne_of_lt (Heap.lt_size e)) (Heap.get?_push_of_some _ e)
    have J : Inv (lamCx1 X (X.A.deeper (envOfC qg sg s.heap.objs.size g cdg)) (envOfC qg sg s.heap.objs.size g cdg :: X.stack) s2 H2 E scope x f c') [] (σ ++ [some v]) H2 { s2 with heap := h₁, toks := s2.toks + ([(x, u)] : List (Str × Value)).length } :=
      lam_start1 I L hxN rv I2.env0 hr.hd un hns kp
    refine PySem.W.kla_codeExpr (wpAny_mono ((hbody _ _ s2 H2 (hr.deeper _)).run [] _ _ H2 Q J hb) (fun v s' hq => ?_) fun e s' hq => hq)
    obtain ⟨w', H', J', rv, q⟩ := hq
    exact ⟨w', H', J'.os, J'.bare, J'.base, J'.hok, rv, q⟩
  have hx : Passes (L2.CX X.prog X.w) ((cxOf CXg X.prog X.w X.K X.mg X.base Ng qg sg g cdg X.A X.stack s H Eg).tr pn xe) E := passes_call tk hW
  refine wpAny_call (codeAny_mono rc fun r s' hq => ?_)
  cases r with
  | error e => exact hx pinsZ σZ H2 s2 e s' I2 hq
  | ok fl =>
    cases fl with
    | ret u => exact I2.after hq
    | next => exact False.elim hq
    | brk => exact False.elim hq
    | cont => exact False.elim hq
end
/-- a def of three parameters that calls the third one -/
def GivesTo3 (P : Program) (w : World) (K : PySem.W.Frag) (mg : Str → Option Value) (base : Heap) (k : Nat) (Ng : List Str) (x : Str) (sg : Scope) (g : Addr) (bg : List Stmt) (a : Str) (TT : V → V → (V → Hp → VK → Prop) → Hp → VK → Prop) : Prop :=
  ∀ (q : Str) (cdg : Value) (A : Around) (outer : List Env) (f c' : Addr) (s : Shared) (H : Hp) (Q : VK) (v1 v2 : V) (tl : V → Hp → VK → Prop), Room k (A.deeper (envOfC x sg s.heap.objs.size g cdg)) →
    (∀ (e : Expr) (te : TE) (p1 p2 : Pos), PE (cxOf C8.CX0 P w K mg base Ng x sg g cdg A outer s H C8.E0).nox e te → (starEach [e] (cxOf C8.CX0 P w K mg base Ng x sg g cdg A outer s H C8.E0).nox.env = (false, eval e (cxOf C8.CX0 P w K mg base Ng x sg g cdg A outer s H C8.E0).nox.env) :: starEach [] (cxOf C8.CX0 P w K mg base Ng x sg g cdg A outer s H C8.E0).nox.env) →
      PE (cxOf C8.CX0 P w K mg base Ng x sg g cdg A outer s H C8.E0).nox (.Call (.Name a p1) [e] [] p2) (fun σZ HZ Q => σZ[2]? = some (some (.ref f)) ∧ te σZ HZ fun v H1 => H1 c' = some (CodeO c' q) ∧ tl v H1 Q)) →
    H c' = some (CodeO c' q) → TT v1 v2 tl H Q →
    ∃ t, PSs (cxOf C8.CX0 P w K mg base Ng x sg g cdg A outer s H C8.E0).nox bg t ∧ t { nx := fun _ H' => Q .non H', rt := Q } (L2.start Ng [v1, v2, .ref f]) H
def tLam3 (T : List (Addr × Str)) (TT : V → V → (V → Hp → VK → Prop) → Hp → VK → Prop) (t1 t2 t : TE) : TE := fun σ H Q => t1 σ H fun v1 H1 => t2 σ H1 fun v2 H2 => Tabs T H2 ∧ ∀ H3, ExtN H2 H3 → Tabs T H3 → TT v1 v2 (fun v H' Q' => t (σ ++ [some v]) H' Q') H3 Q
section
variable {X : Cx}
/-- x(e1, e2, lambda y: body) -/
theorem pe_lam3 {T : List (Addr × Str)} {TT : V → V → (V → Hp → VK → Prop) → Hp → VK → Prop} {x y a n1 n2 : Str} {st : Stmt} {g c P : Addr} {k : Nat} {fd : FuncData} {Ng : List Str} {e1 e2 : Expr} {t1 t2 : TE}
    {params : Arguments} {body : Expr} {scope : Scope} {t : TE} {p lpos pos : Pos} (F : Fun X.K x x st g fd) (hg : Gl X x) (hm : X.mg x = some (.ref g)) (hk : PySem.W.keepIn X.K (.ref g) = true)
    (hb : L2.Binds X.K fd [n1, n2, a] []) (Sg : FnScope Ng [n1, n2, a] (defScope st)) (hNg : Ng[2]? = some a) (hva : Vis (defScope st) a)
    (hG : GivesTo3 X.prog X.w X.K X.mg X.base (k + 1) Ng x (defScope st) g (defBody st) a TT) (h1 : PE X e1 t1) (h2 : PE X e2 t2)
    (TB : TabB X.base X.mg c P) (hcode : X.env.code = .ref c) (hmT : (P, X.env.qual ++ "<lambda>") ∈ T) (hu : ∀ p ∈ T, p.1 = P → p.2 = X.env.qual ++ "<lambda>") (hr : Room (k + 2) X.A) (L : LamS1 X.env.scope scope y) (hyN : y ∉ X.N) (hdef : defaultsOf params X.env = ([], []))
    (hbind : ∀ (q : Str) (cl : List (Str × Addr)) (pm cv ctv v : Value), bindArgs (PySem.W.kla_fn "<lambda>" q params body scope cl pm cv ctv) ⟨[v], []⟩ = pure [(y, v)])
    (hbody : ∀ (A : Around) (outer : List Env) (s : Shared) (H : Hp) (f c' : Addr), Room k (A.deeper (lamEnv X scope s.heap.objs.size f c')) → PE (lamCx1 X A outer s H (fun _ _ _ => False) scope y f c') body t)
    (hst : starEach (e1 :: [e2, .Lambda params body scope lpos]) X.env = (false, eval e1 X.env) :: starEach [e2, .Lambda params body scope lpos] X.env := by rfl) (hst2 : starEach (e2 :: [.Lambda params body scope lpos]) X.env = (false, eval e2 X.env) :: starEach [.Lambda params body scope lpos] X.env := by rfl)
    (hpl : (backTo pos (starEach [e2, .Lambda params body scope lpos] X.env)).any (·.1) = false := by rfl)
    (hdb : (x == ("__debug__" : Str)) = false := by decide) (hd : (a == ("__debug__" : Str)) = false := by decide) (hcd : (a == ("__classdict__" : Str)) = false := by decide) :
    PE X (.Call (.Name x p) [e1, e2, .Lambda params body scope lpos] [] pos) (tLam3 T TT t1 t2 t) := by
  refine ⟨fun pins s σ H Q I h => ?_⟩
  refine wpAny_Call_Name_kw (ld_glob I hg hm ?_ hdb)
  refine PySem.W.callWith_K (h₀ := X.base) I.ok.mod.kin hk ?_ hst hpl
  rw [hst]
  show wpAny _ _ (spliced ((false, eval e1 X.env) :: backTo pos (starEach [e2, .Lambda params body scope lpos] X.env))) _ _ s
  refine Calls.spliced_cons (thn (h1.run pins s σ H _ I h) fun u1 s1 ⟨v1, H1, I1, r1, q1⟩ => ?_)
  rw [hst2]
  show wpAny _ _ (spliced ((false, eval e2 X.env) :: backTo pos (starEach [.Lambda params body scope lpos] X.env))) _ _ s1
  refine Calls.spliced_cons (thn (h2.run pins s1 σ H1 _ I1 q1) fun u2 s2 ⟨v2, H2, I2, r2, q2⟩ => ?_)
  obtain ⟨hT, q2⟩ := q2
  show wpAny _ _ (spliced ((false, eval (.Lambda params body scope lpos) X.env) :: backTo pos (starEach [] X.env))) _ _ s2
  refine Calls.spliced_cons (lam_make2 I2 TB hcode hmT hu hT hdef (L.has I2.ok) fun f c' pm' ctv H3 s3 I3 eN T3 hf hfn hfr hco => ?_)
  refine Calls.spliced_nil ⟨I3.kIn, ?_⟩
  obtain ⟨oc, od, kV, doc, pm, an, cdv, ct, osl, rfl, lk, hcg⟩ := F.ex
  have rc : codeAny (model X.prog X.w) X.A (.call (.ref g) ⟨[u1, u2, .ref f], []⟩) (CR C8.CX0 X.stack X.prog X.w H3 s3 Q C8.E0) s3 := by
    refine run_ofS (N := Ng) (ps := [n1, n2, a]) (us := [u1, u2, .ref f]) (vs := [v1, v2, .ref f]) lk hcg Sg hr I3.env0 (hb s3 [u1, u2, .ref f] I3.kIn rfl) (.cons r1 (.cons r2 (.cons rfl .nil))) rfl fun hr' => ?_
    refine Exists.elim (hG _ cdv X.A X.stack f c' s3 H3 Q v1 v2 (fun v H' Q' => t (σ ++ [some v]) H' Q') hr' (fun e te p1 p2 he hs => ?_) hco (q2 H3 eN T3)) fun t' h' => ⟨t', h'.1.nox, h'.2⟩
    exact pe_act1 (i := 2) (pn := []) (xe := fun _ _ => False) (W := fun _ _ _ _ => False) (E := fun _ _ _ => False) I3 L hyN hf hfn hfr (fun u => hbind _ _ _ _ _ u) takes0 (fun _ _ _ _ z => z) hr' (fun A outer s H hr2 => hbody A outer s H f c' hr2) hNg hva he hd hcd hs rfl
  refine wpAny_call (codeAny_mono rc fun r s2 hq => ?_)
  cases r with
  | error e => exact (show False from hq).elim
  | ok fl =>
    cases fl with
    | ret u => exact I3.after hq
    | next => exact False.elim hq
    | brk => exact False.elim hq
    | cont => exact False.elim hq
end
/-- of several defs that the slot may hold -/
def tCallR (i : Nat) (S : Addr → Sp → Prop) (t : TA) : TE := fun σ H Q => ∃ f sp, σ[i]? = some (some (.ref f)) ∧ S f sp ∧ t σ H fun vs H1 => sp vs H1 Q (fun _ _ _ => False)
theorem pe_callR {X : Cx} {k i : Nat} {x : Str} {p pos : Pos} {e : Expr} {es : List Expr} {t : TA} {S : Addr → Sp → Prop} (A : ∀ f sp, S f sp → Held X.prog X.w X.K X.mg X.base k f sp) (hr : Room k X.A) (hN : X.N[i]? = some x) (hv : Vis X.env.scope x) (ha : PA X (e :: es) t)
    (hdb : (x == ("__debug__" : Str)) = false := by decide) (hcd : (x == ("__classdict__" : Str)) = false := by decide)
    (he : starEach (e :: es) X.env = (false, eval e X.env) :: starEach es X.env := by rfl) (hpl : (backTo pos (starEach es X.env)).any (·.1) = false := by rfl) : PE X (.Call (.Name x p) (e :: es) [] pos) (tCallR i S t) := by
  refine ⟨fun pins s σ H Q I h => ?_⟩
  obtain ⟨f, sp, hs, hS, ht⟩ := h
  obtain ⟨fd, ps, F, hk, hb⟩ := (A f sp hS).ex
  refine (pe_callL (i := i) (f := f) (sp := sp) (dvs := []) (E := fun _ _ _ => False) F hr hN hv hk hb .nil (fun _ _ _ _ _ _ _ z => z.elim) ha hdb hcd he hpl).run pins s σ H Q I ⟨hs, ?_⟩
  have e0 : (fun (vs : List V) (H1 : Hp) => sp (vs ++ []) H1 Q (fun _ _ _ => False)) = fun vs H1 => sp vs H1 Q (fun _ _ _ => False) := by
    funext vs H1
    rw [List.append_nil]
  show t σ H (fun vs H1 => sp (vs ++ []) H1 Q (fun _ _ _ => False))
  rw [e0]
  exact ht
/-- .. by keywords alone -/
structure HeldK (P : Program) (w : World) (K : PySem.W.Frag) (mg : Str → Option Value) (base : Heap) (k : Nat) (f : Addr) (sp : Sp) (ks : List Str) (gV : List V → List V → List V) : Prop where
  ex : ∃ (fd : FuncData) (ps : List Str) (g : List Value → List Value → List Value), FnOk P w K mg base (fun _ _ _ _ _ _ => False) k f fd ps sp ∧ PySem.W.keepIn K (.ref f) = true ∧ KBn K fd ps 0 ks g gV
theorem pe_callRK {X : Cx} {k i : Nat} {x : Str} {p pos : Pos} {kws : List Keyword} {ks : List Str} {tk : TA} {S : Addr → Sp → (List V → List V → List V) → Prop} (A : ∀ f sp gV, S f sp gV → HeldK X.prog X.w X.K X.mg X.base k f sp ks gV) (hr : Room k X.A) (hN : X.N[i]? = some x) (hv : Vis X.env.scope x)
    (hkw : PK X kws tk) (hall : (backToKw pos (keywordEach kws X.env)).all (·.1.isSome) = true := by rfl) (hks : (backToKw pos (keywordEach kws X.env)).filterMap (·.1) = ks := by rfl)
    (hdb : (x == ("__debug__" : Str)) = false := by decide) (hcd : (x == ("__classdict__" : Str)) = false := by decide)
    (hpl : ((backTo pos (starEach [] X.env)).any (·.1) || (backToKw pos (keywordEach kws X.env)).any (·.1.isNone)) = false := by rfl) :
    PE X (.Call (.Name x p) [] kws pos) (fun σ H Q => ∃ f sp gV, σ[i]? = some (some (.ref f)) ∧ S f sp gV ∧ tk σ H fun zs H2 => zs.length = ks.length ∧ sp (gV [] zs) H2 Q (fun _ _ _ => False)) := by
  refine ⟨fun pins s σ H Q I h => ?_⟩
  obtain ⟨f, sp, gV, hs, hS, ht⟩ := h
  obtain ⟨fd, ps, g, F, hk, hb⟩ := (A f sp gV hS).ex
  refine wpAny_Call_Name_kw (thn ((pe_var (pos := p) hN hv hdb hcd).run pins s σ H (fun v H1 => v = .ref f ∧ H1 = H) I ⟨.ref f, hs, rfl, rfl⟩) fun u s1 ⟨v, H1, I1, r1, q1⟩ => ?_)
  obtain ⟨rfl, rfl⟩ := q1
  cases r1
  refine PySem.W.callWith_KW0 (h₀ := X.base) I1.ok.mod.kin hk hall ?_ hpl
  refine thn (hkw.run pos pins s1 σ _ _ I1 ht) fun ws s2 ⟨zs, H2, I2, rz, l2, q2⟩ => ⟨I2.kIn, ?_⟩
  rw [hks]
  exact run_fnN F hr hb (fun _ _ _ _ _ _ _ z => z.elim) I2 .nil rz rfl l2 q2
theorem fac {α : Type} {P : α → Prop} {x : α} {l : List α} (h : P x) (t : ∀ p ∈ l, P p) : ∀ p ∈ x :: l, P p := fun p hp => by
  rcases List.mem_cons.mp hp with e | hp
  · rw [e]; exact h
  · exact t p hp
theorem fan {α : Type} {P : α → Prop} : ∀ p ∈ ([] : List α), P p := fun p hp => by cases hp
end L2

namespace L2
open PySem PySem.Spec PyProof.Rows
/-! ### several except clauses, with a name or without -/
/-- behind a clause with a name the slot is empty -/
def endsAs (D : Ends) : Option Nat → Ends
  | none => D
  | some i => { nx := fun σ' H' => D.nx (σ'.set i none) H', rt := D.rt, bk := fun σ' H' => D.bk (σ'.set i none) H', ct := fun σ' H' => D.ct (σ'.set i none) H' }
def slotAs (σ : L2.St) (a : Addr) : Option Nat → L2.St
  | none => σ
  | some i => σ.set i (some (.ref a))
/-- what a row of clauses wishes of an exception -/
def wRow (K : PySem.W.Frag) (Wo : WX) (D : Ends) : List (Value × Option Nat × (Addr → Value → Option Addr → TS)) → WX
  | [] => Wo
  | (c, i, ts) :: r => fun cls d σ H => ∃ y, PySem.W.exmOne K cls c = some y ∧ (y = true → ∀ a, H a = none → ts a cls d (endsAs D i) (slotAs σ a i) H) ∧ (y = false → wRow K Wo D r cls d σ H)
inductive Clauses (X : Cx) : List ExceptHandler → List (Value × Option Nat × (Addr → Value → Option Addr → TS)) → Prop
  | nil : Clauses X [] []
  | plain {x : Str} {c : Value} {ts : Addr → Value → Option Addr → TS} {z : Stmt} {zs : List Stmt} {p q : Pos} {hs : List ExceptHandler} {l : List (Value × Option Nat × (Addr → Value → Option Addr → TS))} (hc : Names X x c)
      (su : ∀ (a : Addr) (oe : Obj) (cls : Value) (d : Option Addr) (pn : List (Addr × Obj)), Zc cls d oe → (∃ vs, oe.data = .fields vs) → PSs (X.suite a ((a, oe) :: pn)) (z :: zs) (ts a cls d)) (r : Clauses X hs l) :
      Clauses X (.ExceptHandler (some (.Name x p)) none (z :: zs) q :: hs) ((c, none, ts) :: l)
  | named {x n : Str} {i : Nat} {c : Value} {ts : Addr → Value → Option Addr → TS} {z : Stmt} {zs : List Stmt} {p q : Pos} {hs : List ExceptHandler} {l : List (Value × Option Nat × (Addr → Value → Option Addr → TS))} (hN : X.N.Nodup) (hi : X.N[i]? = some n) (hk : X.env.kindOf n = some .local) (hc : Names X x c)
      (su : ∀ (a : Addr) (oe : Obj) (cls : Value) (d : Option Addr) (pn : List (Addr × Obj)), Zc cls d oe → (∃ vs, oe.data = .fields vs) → PSs (X.suite a ((a, oe) :: pn)) (z :: zs) (ts a cls d)) (r : Clauses X hs l) :
      Clauses X (.ExceptHandler (some (.Name x p)) (some n) (z :: zs) q :: hs) ((c, some i, ts) :: l)
section
variable {X : Cx} {body : List Stmt} {h0 : ExceptHandler} {hds : List ExceptHandler} {l : List (Value × Option Nat × (Addr → Value → Option Addr → TS))} {pos : Pos} {tb : WX → TS} {Wo : WX}
theorem ps_try_row (hst : X.stack = X.env :: X.outer) (hfm : X.env.frame = some X.env.locals) (tk : Takes X Wo)
    (hb : ∀ (W : WX) (pn : List (Addr × Obj)) (xe : Value → Shared → Prop), Takes (X.tr pn xe) W → PassesOwn (model X.prog X.w) X.A X.env xe → PSs (X.tr pn xe) body (tb W))
    (hh : Clauses X (h0 :: hds) l) : PS X (.Try body (h0 :: hds) [] [] pos) (fun D σ H => tb (wRow X.K Wo D l) D σ H) := by
  constructor
  intro pins s σ H D I h
  have hok := I.ok
  have hfrm : X.A.frames = some (X.env :: X.outer) := by rw [hok.frames, hst]
  refine wpAny_Try_except ?_
  have run := (hb (wRow X.K Wo D l) (X.pn ++ pins) (fun e t1 => wpAny (model X.prog X.w) X.A (noteFrame e X.env) (fun _ t2 => wpAny (model X.prog X.w) X.A (setFlight e none)
    (fun _ t3 => wpAny (model X.prog X.w) X.A (handleBy e X.env (h0 :: hds)) (SP X pins D) X.xe t3) X.xe t2) X.xe t1) (fun u s' xx => ?_) PassesOwn.looking).run [] s σ H D (I.toTry _) h
  · refine wpAny_mono run (fun f s1 hsp => ?_) (fun e s1 he => he)
    cases f with
    | ret u => obtain ⟨v, σ1, H1, J, r, q⟩ := hsp; exact ⟨v, σ1, H1, J.ofTry hok, r, q⟩
    | next => obtain ⟨σ1, H1, J, q⟩ := hsp; exact wpAny_execs_nil ⟨σ1, H1, J.ofTry hok, q⟩
    | cont => obtain ⟨σ1, H1, J, q⟩ := hsp; exact ⟨σ1, H1, J.ofTry hok, q⟩
    | brk => obtain ⟨σ1, H1, J, q⟩ := hsp; exact ⟨σ1, H1, J.ofTry hok, q⟩
  -- an exception has come out
  obtain ⟨a, B, sI, pins1, σ1, H1, cls, d, rfl, J0, nb, up, sky, na, os, ag, wi⟩ := xx
  have J : Inv X pins σ1 H1 sI := J0.ofTry hok
  have sky1 : Sky B (X.env :: X.outer) a (Zc cls d) X.env.locals s'.heap := by rw [← hst]; exact sky
  show wpAny (model X.prog X.w) X.A (noteFrame (.ref a) X.env) _ _ _
  refine Sky.land Zc.steady hfrm hfm sky1 fun h3 fl3 up3 => ?_
  have J3 : Inv X pins σ1 H1 { s' with heap := h3 } := J.landed nb fl3.1 (up.trans up3) os ag
  obtain ⟨oe3, vs3, he3, hz3, hd3⟩ := fl3.there
  have far : a ∉ frs (X.env :: X.outer) := fun hm => by
    obtain ⟨_, o1, e1, hnf⟩ := fl3.2.2.1.mem hm
    rw [he3] at e1
    cases e1
    exact hnf _ hd3
  have nL : a ≠ X.env.locals := fun z => far (List.mem_filterMap.mpr ⟨X.env, List.mem_cons_self, by rw [hfm, z]⟩)
  have nF : a ∉ X.fs := fun hm => by
    obtain ⟨e, he, q⟩ := List.mem_filterMap.mp hm
    exact far (List.mem_filterMap.mpr ⟨e, List.mem_cons_of_mem _ he, q⟩)
  have S3 := J3.suite he3 hd3 na nL nF
  have LT : PySem.W.Looks (model X.prog X.w) h3 (typeOf (.ref a)) cls := fun A Q E s k q => wpAny_typeOf_ref (k _ _ he3) (by rw [hz3.1]; exact q)
  have look : ∀ {x : Str} {c : Value} {p : Pos}, Names X x c → ∀ {Q E : Value → Shared → Prop}, Q c { s' with heap := h3 } → wpAny (model X.prog X.w) (X.A.mark (some (.ref a))) (eval (.Name x p) X.env) Q E { s' with heap := h3 } := by
    intro x c p hc Q E q
    obtain ⟨hg, hdbg, hm | ⟨hm, hv, hnn⟩⟩ := hc
    · exact ld_glob (X := X.suite a ((a, oe3) :: (X.pn ++ pins))) S3 hg hm q hdbg
    · exact ld_blt (X := X.suite a ((a, oe3) :: (X.pn ++ pins))) S3 hg hm hv q hnn hdbg
  have go : ∀ {hs1 : List ExceptHandler} {l1 : List (Value × Option Nat × (Addr → Value → Option Addr → TS))}, Clauses X hs1 l1 → wRow X.K Wo D l1 cls d σ1 H1 →
      wpAny (model X.prog X.w) X.A (handleBy (.ref a) X.env hs1) (SP X pins D) X.xe { s' with heap := h3 } := by
    intro hs1 l1 hk
    induction hk with
    | nil =>
      intro wi
      refine wpAny_handleBy_nil ?_
      obtain ⟨_, _, _, oe, vs, T, oT, ts1, he, hz, hd, h1, hr⟩ := id fl3
      unfold PySem.passOn
      refine wpAny_bind (wpAny_field he hd h1 ?_)
      rw [if_neg (show ¬ ((Value.ref T == Value.none) = true) from by simp)]
      have out : wpAny (model X.prog X.w) X.A (setFlight (.ref a) X.env.frame) (fun _ t4 => wpAny (model X.prog X.w) X.A (throw (.ref a) : Sem Flow) (SP X pins D) X.xe t4) X.xe { s' with heap := h3 } := by
        rw [hfm]
        exact HandSPX.setFlight_upZ fl3 fun h4 hh4 up4 => wpAny_throw (tk _ _ ⟨a, B, sI, pins, σ1, H1, cls, d, rfl, J, nb, (up.trans up3).trans up4, .inr (.inr (by rw [hst]; exact hh4)), na, os, ag, wi⟩)
      first
        | exact wpAny_bind (wpAny_pure (wpAny_bind out))
        | exact wpAny_bind out
    | plain hc su r ih =>
      rintro ⟨y, hy, yes, no⟩
      refine wpAny_handleBy_cons (codeAny_handlers_test ?_) (by intro q; cases q)
      refine look hc ((PySem.W.exm_one (M := model X.prog X.w) J3.kIn LT hy).here ?_)
      cases y with
      | false => exact ih (no rfl)
      | true =>
        refine codeAny_handlers_suite (HandSPX.lands_againZ fl3 fun h4 fl4 up4 => ?_)
        obtain ⟨oe4, vs4, he4, hz4, hd4⟩ := fl4.there
        have J4 : Inv X pins σ1 H1 { s' with heap := h4 } := J.landed nb fl4.1 ((up.trans up3).trans up4) os ag
        refine wpAny_mono ((su a oe4 cls d (X.pn ++ pins) hz4 ⟨_, hd4⟩).run [] _ _ H1 _ (J4.suite he4 hd4 na nL nF) (yes rfl a na)) (fun f s6 hsp => ?_) (fun _ _ z => False.elim z)
        cases f with
        | ret u => obtain ⟨v6, σ6, H6, S6, r6, q6⟩ := hsp; exact ⟨_, _, _, S6.unsuite hok, r6, q6⟩
        | next => obtain ⟨σ6, H6, S6, q6⟩ := hsp; exact ⟨_, _, S6.unsuite hok, q6⟩
        | cont => obtain ⟨σ6, H6, S6, q6⟩ := hsp; exact ⟨_, _, S6.unsuite hok, q6⟩
        | brk => obtain ⟨σ6, H6, S6, q6⟩ := hsp; exact ⟨_, _, S6.unsuite hok, q6⟩
    | @named x n i c ts z zs p q hs2 l2 hN hi hkk hc su r ih =>
      rintro ⟨y, hy, yes, no⟩
      refine wpAny_handleBy_cons (codeAny_handlers_test ?_) (by intro q; cases q)
      refine look hc ((PySem.W.exm_one (M := model X.prog X.w) J3.kIn LT hy).here ?_)
      cases y with
      | false => exact ih (no rfl)
      | true =>
        refine codeAny_handlers_suite_as (HandSPX.lands_againZ fl3 fun h4 fl4 up4 => ?_)
        obtain ⟨oe4, vs4, he4, hz4, hd4⟩ := fl4.there
        have J4 : Inv X pins σ1 H1 { s' with heap := h4 } := J.landed nb fl4.1 ((up.trans up3).trans up4) os ag
        refine store_ok (X := X.suite a ((a, oe4) :: (X.pn ++ pins))) (v := .ref a) (J4.suite he4 hd4 na nL nF) hN hi (.inl hkk) rfl (fun s5 S5 => ?_) (.inr hkk)
        refine wpAny_mono ((su a oe4 cls d (X.pn ++ pins) hz4 ⟨_, hd4⟩).run [] s5 _ H1 _ S5 (yes rfl a na)) (fun f s6 hsp => ?_) (fun _ _ z => False.elim z)
        have fin : ∀ {σ6 : L2.St} {H6 : Hp} {Q : Shared → Prop}, Inv (X.suite a ((a, oe4) :: (X.pn ++ pins))) [] σ6 H6 s6 → (∀ s7, Inv X pins (σ6.set i none) H6 s7 → Q s7) →
            wpAny (model X.prog X.w) X.A (do bindName X.env n .none; unbindBehindTheSuite X.env n q) (fun _ s7 => Q s7) X.xe s6 := fun S6 hq => gone_ok (S6.unsuite hok) hN hi hkk hq
        cases f with
        | ret u => obtain ⟨v6, σ6, H6, S6, r6, q6⟩ := hsp; exact fin S6 fun s7 J7 => ⟨_, _, _, J7, r6, q6⟩
        | next => obtain ⟨σ6, H6, S6, q6⟩ := hsp; exact fin S6 fun s7 J7 => ⟨_, _, J7, q6⟩
        | cont => obtain ⟨σ6, H6, S6, q6⟩ := hsp; exact fin S6 fun s7 J7 => ⟨_, _, J7, q6⟩
        | brk => obtain ⟨σ6, H6, S6, q6⟩ := hsp; exact fin S6 fun s7 J7 => ⟨_, _, J7, q6⟩
  exact go hh wi
end
end L2

/-! lambdas without a parameter, or with one that has a default of 0, as values that are kept -/
namespace L2
open PySem PySem.Spec PyProof.Rows PySem.W LamX
/-- what a lambda's object says -/
structure LamD where
  q : Str
  params : Arguments
  body : Expr
  scope : Scope
  cl : List (Str × Addr)
def FunO (f : Addr) (L : LamD) (dV : Value) (c' : Addr) : HO := .ext fun h => ∃ doc pm ctv, h.get? f = some (kdv_obj "<lambda>" L.q L.params (.expr L.body) L.scope L.cl dV doc pm c' ctv)
theorem funO_ne {f c' : Addr} {L : LamD} {dV : Value} (ps : Array Value) : FunO f L dV c' ≠ .tbl ps := fun z => by
  unfold FunO at z
  cases z
/-- at f stands a lambda -/
def LamAt (H : Hp) (f : Addr) (L : LamD) : Prop := ∃ c' dV, H f = some (FunO f L dV c') ∧ H c' = some (CodeO c' L.q) ∧ ((L.params.defaults = [] ∧ dV = .none) ∨ (L.params.defaults ≠ [] ∧ ∃ t0, dV = .ref t0 ∧ H t0 = some (.tup [.int 0])))
theorem LamAt.ext {H H' : Hp} {f : Addr} {L : LamD} (e : ExtN H H') (h : LamAt H f L) : LamAt H' f L := by
  obtain ⟨c', dV, h1, h2, h3⟩ := h
  refine ⟨c', dV, e _ _ h1 funO_ne, e _ _ h2 codeO_ne, h3.imp id fun ⟨n, t0, h4, h5⟩ => ⟨n, t0, h4, e _ _ h5 fun ps z => by cases z⟩⟩
theorem LamAt.same {H H' : Hp} {f : Addr} {L : LamD} (e : Same H H') (h : LamAt H f L) : LamAt H' f L := h.ext (.of e)
section
variable {X : Cx} {pins : List (Addr × Obj)} {σ : L2.St} {H : Hp} {s : Shared}
/-- the lambda is made: its code object is new, or found in the table -/
theorem tail_makeO {T : List (Addr × Str)} {c P : Addr} {q : Str} {params : Arguments} {body : Expr} {scope : Scope} {pos : Pos} {dV : Value} {clos : List (Str × Addr)} {E : Value → Shared → Prop} {Q : Value → Shared → Prop} (I : Inv X pins σ H s) (TB : TabB X.base X.mg c P) (hcode : X.env.code = .ref c)
    (hm : (P, q) ∈ T) (hu : ∀ p ∈ T, p.1 = P → p.2 = q) (hT : Tabs T H) (hcl : closureFor scope X.env = pure clos)
    (h : ∀ (f c' : Addr) (H1 : Hp) (s' : Shared), Inv X pins σ H1 s' → ExtN H H1 → Tabs T H1 → s.heap.objs.size ≤ f → H1 f = some (FunO f ⟨q, params, body, scope, clos⟩ dV c') → H1 c' = some (CodeO c' q) → Q (.ref f) s') :
    wpAny (model X.prog X.w) X.A (makeTail "<lambda>" q params (.expr body) scope X.env dV .none none pos pos.line) Q E s := by
  obtain ⟨ps, hP, ht, ha⟩ := hT _ hm
  have bP : s.heap.BuiltinsAt X.mg P := TB.bm.keeps I.bk
  have hP' : s.heap.get? P = some { cls := .none, data := .fields ps } := I.hok P _ hP
  cases hc : codeAmong pos ps.toList with
  | none =>
    refine kdv_makeTail (mg := X.mg) (c := c) (P := P) (ps := ps) hcl I.ok.glob (I.mod.glob.keeps I.bk) hcode (TB.code.keeps I.bk) hP' ht hc TB.gP bP fun c' ctv doc h' tk hx hge hlt hrec htb => ?_
    obtain ⟨c2, oc, vs, t, e2, hoc, hd, hv⟩ := hrec
    cases e2
    have hsz : s.heap.objs.size ≤ h'.objs.size := Nat.le_trans hge (Nat.le_of_lt hlt)
    have nC : H c' = none := I.hok.fresh hge
    have I1 := inv_table (t' := tk) (more := #[rawInt pos.line, rawInt pos.col, .ref c']) (h' := h') I hP hx htb hge ⟨oc, vs, t, hoc, hd, hv⟩
    generalize hH1 : upd (upd H P (.tbl (ps ++ #[rawInt pos.line, rawInt pos.col, .ref c']))) c' (CodeO c' q) = H1 at I1
    have hE : ExtN H H1 := fun b o e n => by
      rw [← hH1, upd_ne (ne_of_none e nC), upd_ne (fun z => n ps (Option.some.inj (e.symm.trans (by rw [z]; exact hP))))]
      exact e
    have hc1 : H1 c' = some (CodeO c' q) := by rw [← hH1, upd_same]
    have fF : H1 h'.objs.size = none := I1.hok.fresh (Nat.le_refl _)
    have I2 := I1.laid (t' := tk) (h' := h'.push (kdv_obj "<lambda>" q params (.expr body) scope clos dV doc ((X.mg "__name__").getD .none) c' ctv)) (a := h'.objs.size) (o := FunO h'.objs.size ⟨q, params, body, scope, clos⟩ dV c') (fun b o e => Heap.get?_push_of_some _ e) (Nat.le_refl _)
      ⟨⟨_, _, _, Heap.get?_push_size _ rfl⟩, ⟨_, Heap.get?_push_size _ rfl⟩, fun h1 h2 ⟨doc, pm, ctv, e⟩ st => ⟨doc, pm, ctv, st _ e⟩⟩
    have s12 : ∀ b o, H1 b = some o → upd H1 h'.objs.size (FunO h'.objs.size ⟨q, params, body, scope, clos⟩ dV c') b = some o := fun b o e => by rw [upd_ne (ne_of_none e fF)]; exact e
    have eL : (ps ++ #[rawInt pos.line, rawInt pos.col, .ref c']).toList = ps.toList ++ [rawInt pos.line, rawInt pos.col, .ref c'] := by simp
    refine h h'.objs.size c' _ _ I2 (hE.trans (.of s12)) (fun p hp => TabS.ext ?_ s12) hsz upd_same (s12 _ _ hc1)
    by_cases hb : p.1 = P
    · rw [hu p hp hb, hb]
      refine ⟨_, by rw [← hH1, upd_ne (ne_of_none hP nC), upd_same], by rw [eL]; exact PySem.TriplesOk_snoc _ _ _ _ ht, fun p' cv hcv => ?_⟩
      rw [eL] at hcv
      rcases among_app _ ht hcv with z | z
      · obtain ⟨c0, e1, e2⟩ := ha p' cv z
        exact ⟨c0, e1, hE _ _ e2 codeO_ne⟩
      · exact ⟨c', z, hc1⟩
    · obtain ⟨ps', a1, a2, a3⟩ := hT p hp
      refine ⟨ps', by rw [← hH1, upd_ne (ne_of_none a1 nC), upd_ne hb]; exact a1, a2, fun p' cv hcv => ?_⟩
      obtain ⟨c0, e1, e2⟩ := a3 p' cv hcv
      exact ⟨c0, e1, hE _ _ e2 codeO_ne⟩
  | some cv =>
    obtain ⟨c', e, hco⟩ := ha pos cv hc
    subst e
    refine kdv_makeTailHit (mg := X.mg) (c := c) (P := P) (ps := ps) hcl I.ok.glob (I.mod.glob.keeps I.bk) hcode (TB.code.keeps I.bk) hP' ht hc bP fun ctv doc h' tk hx hsz => ?_
    have fF : H h'.objs.size = none := I.hok.fresh hsz
    have I2 := I.laid (t' := tk) (h' := h'.push (kdv_obj "<lambda>" q params (.expr body) scope clos dV doc ((X.mg "__name__").getD .none) c' ctv)) (a := h'.objs.size) (o := FunO h'.objs.size ⟨q, params, body, scope, clos⟩ dV c') (fun b o e => Heap.get?_push_of_some _ (hx b o e)) hsz
      ⟨⟨_, _, _, Heap.get?_push_size _ rfl⟩, ⟨_, Heap.get?_push_size _ rfl⟩, fun h1 h2 ⟨doc, pm, ctv, e⟩ st => ⟨doc, pm, ctv, st _ e⟩⟩
    have s12 : ∀ b o, H b = some o → upd H h'.objs.size (FunO h'.objs.size ⟨q, params, body, scope, clos⟩ dV c') b = some o := fun b o e => by rw [upd_ne (ne_of_none e fF)]; exact e
    exact h h'.objs.size c' _ _ I2 (.of s12) (hT.ext s12) hsz upd_same (s12 _ _ hco)
end
/-- the lambda that X's text writes there -/
def lamD (X : Cx) (params : Arguments) (body : Expr) (scope : Scope) : LamD := ⟨X.env.qual ++ "<lambda>", params, body, scope, cloFrom X.env.cells scope.names []⟩
/-- the reading of a lambda: a new object that is kept -/
def tLamO (T : List (Addr × Str)) (L : LamD) : TE := fun σ H Q => Tabs T H ∧ ∀ (H1 : Hp) (f : Addr), ExtN H H1 → Tabs T H1 → H f = none → LamAt H1 f L → Q (.ref f) H1
section
variable {X : Cx}
/-- lambda: body; lambda x=0: body -/
theorem pe_lamO {T : List (Addr × Str)} {c P : Addr} {params : Arguments} {body : Expr} {scope : Scope} {pos : Pos} (TB : TabB X.base X.mg c P) (hcode : X.env.code = .ref c) (hmT : (P, X.env.qual ++ "<lambda>") ∈ T) (hu : ∀ p ∈ T, p.1 = P → p.2 = X.env.qual ++ "<lambda>")
    (hfree : ∀ y ∈ scope.names, y.2 = .free → X.env.scope.names.lookup y.1 = some .cell ∨ X.env.scope.names.lookup y.1 = some .free)
    (hk0 : params.kw_defaults = []) (hdef : params.defaults = [] ∨ ∃ j pc, params.defaults = [.Constant (.int 0) j pc]) : PE X (.Lambda params body scope pos) (tLamO T (lamD X params body scope)) := by
  refine ⟨fun pins s σ H Q I h => ?_⟩
  obtain ⟨hT, h⟩ := h
  have hfC : ∀ y ∈ scope.names, y.2 = .free → ∃ c, X.env.cells.lookup y.1 = some c := fun y hy e => (hfree y hy e).elim (fun z => I.ok.has _ (.inl z)) fun z => I.ok.has _ (.inr z)
  rcases hdef with hd | ⟨j, pc, hd⟩
  · refine kla_eval (by rw [defaultsOf_eq, hk0, hd]; rfl) ?_
    rw [makeFunction_eq]
    simp only [List.zip_nil_right, List.filterMap_nil, List.isEmpty_nil, if_true, pure_bind]
    refine tail_makeO I TB hcode hmT hu hT (closure_ok hfC) fun f c' H1 s' I1 e1 T1 hf h1 h2 => ?_
    exact ⟨.ref f, H1, I1, rfl, h H1 f e1 T1 (I.hok.fresh hf) ⟨c', .none, h1, h2, .inl ⟨hd, rfl⟩⟩⟩
  · refine kdv_lam (by rw [hd]; rfl) hk0 ?_
    rw [hd]
    refine kdv_all1 (thn (pe_int.run pins s σ H (fun v H1 => v = .int 0 ∧ H1 = H) I ⟨rfl, rfl⟩) fun u s1 ⟨v, H1, I1, r1, q1⟩ => kdv_all0 ?_)
    obtain ⟨rfl, rfl⟩ := q1
    rw [makeFunction_eq]
    simp only [List.zip_nil_right, List.filterMap_nil, List.isEmpty_nil, if_true, pure_bind, List.isEmpty_cons, Bool.false_eq_true, if_false]
    refine wpAny_bind (wpAny_newTextTuple ?_)
    have nT : H1 s1.heap.objs.size = none := I1.hok.fresh (Nat.le_refl _)
    have I2 := I1.laid (t' := s1.toks) (h' := s1.heap.push { cls := .type "tuple", data := .seq [u].toArray }) (a := s1.heap.objs.size) (o := .tup [.int 0]) (fun b o e => Heap.get?_push_of_some _ e) (Nat.le_refl _) ⟨by decide, [u], .cons r1 .nil, _, Heap.get?_push_size _ rfl, rfl, _, rfl⟩
    have s12 : ∀ b o, H1 b = some o → upd H1 s1.heap.objs.size (.tup [.int 0]) b = some o := fun b o e => by rw [upd_ne (ne_of_none e nT)]; exact e
    refine tail_makeO I2 TB hcode hmT hu (hT.ext s12) (closure_ok hfC) fun f c' H3 s' I3 e3 T3 hf h1 h2 => ?_
    refine ⟨.ref f, H3, I3, rfl, h H3 f ((ExtN.of s12).trans e3) T3 (I1.hok.fresh ?_) ⟨c', _, h1, h2, .inr ⟨by show params.defaults ≠ []; rw [hd]; exact List.cons_ne_nil _ _, _, rfl, e3 _ _ upd_same fun ps z => by cases z⟩⟩⟩
    exact Nat.le_trans (by rw [Heap.size_push]; omega) hf
end
/-- a lambda of X's text that is called without arguments: what its body does -/
inductive LamGood (X : Cx) (k : Nat) (params : Arguments) (body : Expr) (scope : Scope) : (XK → TE) → Prop
  | plain {t : XK → TE} (L : LamS X.env.scope scope) (hdef : params.defaults = [])
      (hbind : ∀ (q : Str) (cl : List (Str × Addr)) (doc pm cv ctv : Value), bindArgs (kdv_fn "<lambda>" q params (.expr body) scope cl .none doc pm cv ctv) ⟨[], []⟩ = pure [])
      (hbody : ∀ (A : Around) (outer : List Env) (s : Shared) (H : Hp) (E : XK) (f c' : Addr), Room k (A.deeper (lamEnv X scope s.heap.objs.size f c')) → PE (lamCx X A outer s H E scope f c') body (t E)) : LamGood X k params body scope t
  | dflt {x : Str} {t : XK → TE} (L : LamS1 X.env.scope scope x) (hxN : x ∉ X.N) (hdef : params.defaults ≠ [])
      (hbind : ∀ (q : Str) (cl : List (Str × Addr)) (t0 : Addr) (doc pm cv ctv : Value), ∃ k, bindArgs (kdv_fn "<lambda>" q params (.expr body) scope cl (.ref t0) doc pm cv ctv) ⟨[], []⟩ = seqItems? (.ref t0) >>= k ∧ ∀ v : Value, k (some #[v]) = pure [(x, v)])
      (hbody : ∀ (A : Around) (outer : List Env) (s : Shared) (H : Hp) (E : XK) (f c' : Addr), Room k (A.deeper (lamEnv X scope s.heap.objs.size f c')) → PE (lamCx1 X A outer s H E scope x f c') body (t E)) : LamGood X k params body scope (fun E σ H Q => t E (σ ++ [some (.int 0)]) H Q)
section
variable {X : Cx} {pins : List (Addr × Obj)} {σ : L2.St} {H : Hp} {s : Shared}
/-- x(), in a def that got the lambda: I is the maker's, who waits since s -/
theorem pe_actO {CXg : CXT} {Eg : XK} {Ng : List Str} {qg : Str} {sg : Scope} {g f : Addr} {cdg : Value} {params : Arguments} {body : Expr} {scope : Scope} {k i : Nat} {a : Str} {pn : List (Addr × Obj)} {xe : Value → Shared → Prop} {W : WX} {t : XK → TE} {p1 p2 : Pos}
    (I : Inv X pins σ H s) (LG : LamGood X k params body scope t)
    (tk : Takes ((cxOf CXg X.prog X.w X.K X.mg X.base Ng qg sg g cdg X.A X.stack s H Eg).tr pn xe) W) (hr : Room (k + 1) (X.A.deeper (envOfC qg sg s.heap.objs.size g cdg)))
    (hN : Ng[i]? = some a) (hv : Vis sg a) (hd : (a == ("__debug__" : Str)) = false := by decide) (hcd : (a == ("__classdict__" : Str)) = false := by decide) :
    PE ((cxOf CXg X.prog X.w X.K X.mg X.base Ng qg sg g cdg X.A X.stack s H Eg).tr pn xe) (.Call (.Name a p1) [] [] p2)
      (fun σZ HZ Q => σZ[i]? = some (some (.ref f)) ∧ LamAt HZ f (lamD X params body scope) ∧ ∃ E : XK, (∀ cls d H', E cls d H' → W cls d σZ H') ∧ t E σ HZ Q) := by
  refine ⟨fun pinsZ sZ σZ HZ Q IZ h => ?_⟩
  obtain ⟨hs, ⟨c', dV, hf, hc, hdv⟩, E, hW, ht⟩ := h
  refine wpAny_Call_Name_kw (thn ((pe_var (pos := p1) (i := i) hN hv hd hcd).run pinsZ sZ σZ HZ (fun v H1 => v = .ref f ∧ H1 = HZ) IZ ⟨.ref f, hs, rfl, rfl⟩) fun u s1 ⟨v, H1, I1, r1, q1⟩ => ?_)
  obtain ⟨ev, eH⟩ := q1
  subst ev
  rw [eH] at I1
  obtain rfl : u = Value.ref f := r1
  obtain ⟨⟨doc, pm, ctv, of1⟩, _, _⟩ := I1.hok f _ hf
  obtain ⟨⟨oc, vs, tt, hoc, hdc, hvc⟩, _, _⟩ := I1.hok c' _ hc
  refine PySem.W.callWith_F0 ⟨_, _, _, _, of1⟩ ?_
  have un : Un (frs X.stack) [] H HZ s.heap s1.heap := I1.base
  suffices rc : codeAny (model X.prog X.w) (X.A.deeper (envOfC qg sg s.heap.objs.size g cdg)) (.call (.ref f) ⟨[], []⟩) (CR (L2.CX X.prog X.w) (envOfC qg sg s.heap.objs.size g cdg :: X.stack) X.prog X.w HZ s1 Q E) s1 by
    refine wpAny_call (codeAny_mono rc fun r s' hq => ?_)
    cases r with
    | error e => exact tk e s' (XE.of_call I1 (fun cls d H' h => hW cls d H' h) hq)
    | ok fl =>
      cases fl with
      | ret u => exact I1.after hq
      | next => exact False.elim hq
      | brk => exact False.elim hq
      | cont => exact False.elim hq
  cases LG with
  | plain L hdef hbind hbody =>
    obtain ⟨_, rfl⟩ | ⟨nd, _⟩ := hdv
    · refine PySem.W.kla_callFunE hr.depth of1 rfl L.co L.gen rfl ⟨c', oc, vs, tt, rfl, hoc, hdc, hvc⟩ (BindsTo.of_eq (binds := []) (hbind _ _ _ _ _ _) _ _ _ _ ?_)
      refine wpAny_newFunctionEnv (fun y hy => (L.own y hy).2) (fun y hy => absurd hy (by simp)) (fun h₁ hns hsb => ⟨I1.nolimit.fresh _ hsb, ?_⟩) L.kind
      show codeAny _ _ (.expr body (lamEnv X scope s1.heap.objs.size f c')) _ _
      have kp : ∀ b o, s1.heap.get? b = some o → h₁.get? b = some o := fun b o e => hsb.extBut b o (Nat.ne_of_lt (Heap.lt_size e)) (Heap.get?_push_of_some _ e)
      have J : Inv (lamCx X (X.A.deeper (envOfC qg sg s.heap.objs.size g cdg)) (envOfC qg sg s.heap.objs.size g cdg :: X.stack) s1 HZ E scope f c') [] σ HZ { s1 with heap := h₁, toks := s1.toks + ([] : List (Str × Value)).length } :=
        lam_start2 I L I1.env0 hr.hd un hns kp
      refine PySem.W.kla_codeExpr (wpAny_mono ((hbody _ _ s1 HZ E _ _ (hr.deeper _)).run [] _ _ HZ Q J ht) (fun v s' hq => ?_) fun e s' hq => hq)
      obtain ⟨w', H', J', rv, q⟩ := hq
      exact ⟨w', H', J'.os, J'.bare, J'.base, J'.hok, rv, q⟩
    · exact absurd hdef nd
  | @dflt x t' L hxN hdef hbind hbody =>
    obtain ⟨nd, _⟩ | ⟨_, t0, rfl, h0⟩ := hdv
    · exact absurd nd hdef
    · obtain ⟨_, its, rv0, o0, g1, g2, n0, g3⟩ := (show ObjOk X.prog X.w HZ s1.heap t0 (.tup [.int 0]) from I1.hok t0 _ h0)
      obtain ⟨v, rfl, rv⟩ : ∃ v, its = [v] ∧ L2.RelV (.int 0) v := by
        cases rv0 with
        | cons r1 r2 => cases r2; exact ⟨_, rfl, r1⟩
      obtain ⟨kk, hb1, hb2⟩ := hbind (X.env.qual ++ "<lambda>") (cloFrom X.env.cells scope.names []) t0 doc pm (.ref c') ctv
      refine PySem.W.kla_callFunE hr.depth of1 rfl L.co L.gen rfl ⟨c', oc, vs, tt, rfl, hoc, hdc, hvc⟩ (BindsTo.of_defaults (binds := [(x, v)]) rfl g1 g3 hb1 (hb2 v) _ _ _ _ ?_)
      refine wpAny_newFunctionEnv (fun y hy => L.own y hy) (fun y hy => by rw [List.mem_singleton.mp hy]; exact L.hx) (fun h₁ hns hsb => ⟨I1.nolimit.fresh _ hsb, ?_⟩) L.kind
      show codeAny _ _ (.expr body (lamEnv X scope s1.heap.objs.size f c')) _ _
      have kp : ∀ b o, s1.heap.get? b = some o → h₁.get? b = some o := fun b o e => hsb.extBut b o (Nat.ne_of_lt (Heap.lt_size e)) (Heap.get?_push_of_some _ e)
      have J : Inv (lamCx1 X (X.A.deeper (envOfC qg sg s.heap.objs.size g cdg)) (envOfC qg sg s.heap.objs.size g cdg :: X.stack) s1 HZ E scope x f c') [] (σ ++ [some (.int 0)]) HZ { s1 with heap := h₁, toks := s1.toks + ([(x, v)] : List (Str × Value)).length } :=
        lam_start1 I L hxN rv I1.env0 hr.hd un hns kp
      refine PySem.W.kla_codeExpr (wpAny_mono ((hbody _ _ s1 HZ E _ _ (hr.deeper _)).run [] _ _ HZ Q J ht) (fun v s' hq => ?_) fun e s' hq => hq)
      obtain ⟨w', H', J', rv, q⟩ := hq
      exact ⟨w', H', J'.os, J'.bare, J'.base, J'.hok, rv, q⟩
end
/-- a def of one parameter that calls it -/
def GivesTo1 (P : Program) (w : World) (K : PySem.W.Frag) (mg : Str → Option Value) (base : Heap) (k : Nat) (Ng : List Str) (x : Str) (sg : Scope) (g : Addr) (bg : List Stmt) (a : Str) (TT : (XK → Hp → VK → Prop) → Hp → VK → Prop) : Prop :=
  ∀ (cdg : Value) (A : Around) (outer : List Env) (f : Addr) (L : LamD) (s : Shared) (H : Hp) (Q : VK) (tl : XK → Hp → VK → Prop), Room k (A.deeper (envOfC x sg s.heap.objs.size g cdg)) →
    (∀ (W : WX) (pn : List (Addr × Obj)) (xe : Value → Shared → Prop) (p1 p2 : Pos), Takes ((cxOf C8.CX0 P w K mg base Ng x sg g cdg A outer s H C8.E0).tr pn xe) W →
      PE ((cxOf C8.CX0 P w K mg base Ng x sg g cdg A outer s H C8.E0).tr pn xe) (.Call (.Name a p1) [] [] p2) (fun σZ HZ Q => σZ[0]? = some (some (.ref f)) ∧ LamAt HZ f L ∧ ∃ E : XK, (∀ cls d H', E cls d H' → W cls d σZ H') ∧ tl E HZ Q)) →
    LamAt H f L → TT tl H Q →
    ∃ t, PSs (cxOf C8.CX0 P w K mg base Ng x sg g cdg A outer s H C8.E0).nox bg t ∧ t { nx := fun _ H' => Q .non H', rt := Q } (L2.start Ng [.ref f]) H
section
variable {X : Cx}
/-- the call of such a def with a lambda that is kept: told of the very state -/
theorem run_lamO {pins : List (Addr × Obj)} {σ : L2.St} {H : Hp} {s : Shared} {Q : VK} {TT : (XK → Hp → VK → Prop) → Hp → VK → Prop} {x a : Str} {st : Stmt} {g f : Addr} {k : Nat} {fd : FuncData} {Ng : List Str} {params : Arguments} {body : Expr} {scope : Scope} {t : XK → TE}
    (F : Fun X.K x x st g fd) (hb : L2.Binds X.K fd [a] []) (Sg : FnScope Ng [a] (defScope st)) (hNg : Ng[0]? = some a) (hva : Vis (defScope st) a) (hG : GivesTo1 X.prog X.w X.K X.mg X.base (k + 1) Ng x (defScope st) g (defBody st) a TT)
    (LG : LamGood X k params body scope t) (hr : Room (k + 2) X.A) (I : Inv X pins σ H s) (hL : LamAt H f (lamD X params body scope)) (h : TT (fun E H' Q' => t E σ H' Q') H Q)
    (hd : (a == ("__debug__" : Str)) = false := by decide) (hcd : (a == ("__classdict__" : Str)) = false := by decide) :
    codeAny (model X.prog X.w) X.A (.call (.ref g) ⟨[.ref f], []⟩) (CR C8.CX0 X.stack X.prog X.w H s Q C8.E0) s := by
  obtain ⟨oc, od, kV, doc, pm, an, cdv, ct, osl, rfl, lk, hcg⟩ := F.ex
  refine run_ofS (N := Ng) (ps := [a]) (us := [.ref f]) (vs := [.ref f]) lk hcg Sg hr I.env0 (hb s [.ref f] I.kIn rfl) (.cons rfl .nil) rfl fun hr' => ?_
  refine Exists.elim (hG cdv X.A X.stack f _ s H Q (fun E H' Q' => t E σ H' Q') hr' (fun W pn xe p1 p2 tk => ⟨fun pinsZ sZ σZ HZ QZ IZ hz => ?_⟩) hL h) fun t' h' => ⟨t', h'.1.nox, h'.2⟩
  obtain ⟨z1, z2, E, hW, z3⟩ := hz
  exact (pe_actO (i := 0) I LG tk hr' hNg hva hd hcd).run pinsZ sZ σZ HZ QZ IZ ⟨z1, z2, E, hW, z3⟩
/-- x(lambda: body) -/
def tLamG (T : List (Addr × Str)) (TT : (XK → Hp → VK → Prop) → Hp → VK → Prop) (t : XK → TE) : TE := fun σ H Q => Tabs T H ∧ ∀ H1, ExtN H H1 → Tabs T H1 → TT (fun E H' Q' => t E σ H' Q') H1 Q
theorem pe_lamcallG {T : List (Addr × Str)} {TT : (XK → Hp → VK → Prop) → Hp → VK → Prop} {x a : Str} {st : Stmt} {g c P : Addr} {k : Nat} {fd : FuncData} {Ng : List Str} {params : Arguments} {body : Expr} {scope : Scope} {t : XK → TE} {p lpos pos : Pos}
    (F : Fun X.K x x st g fd) (hg : Gl X x) (hm : X.mg x = some (.ref g)) (hk : PySem.W.keepIn X.K (.ref g) = true) (hb : L2.Binds X.K fd [a] []) (Sg : FnScope Ng [a] (defScope st)) (hNg : Ng[0]? = some a) (hva : Vis (defScope st) a)
    (hG : GivesTo1 X.prog X.w X.K X.mg X.base (k + 1) Ng x (defScope st) g (defBody st) a TT)
    (TB : TabB X.base X.mg c P) (hcode : X.env.code = .ref c) (hmT : (P, X.env.qual ++ "<lambda>") ∈ T) (hu : ∀ p ∈ T, p.1 = P → p.2 = X.env.qual ++ "<lambda>") (hr : Room (k + 2) X.A)
    (hfree : ∀ y ∈ scope.names, y.2 = .free → X.env.scope.names.lookup y.1 = some .cell ∨ X.env.scope.names.lookup y.1 = some .free) (hk0 : params.kw_defaults = []) (hdef : params.defaults = [] ∨ ∃ j pc, params.defaults = [.Constant (.int 0) j pc]) (LG : LamGood X k params body scope t)
    (hdb : (x == ("__debug__" : Str)) = false := by decide) (hd : (a == ("__debug__" : Str)) = false := by decide) (hcd : (a == ("__classdict__" : Str)) = false := by decide) :
    PE X (.Call (.Name x p) [.Lambda params body scope lpos] [] pos) (tLamG T TT t) := by
  refine ⟨fun pins s σ H Q I h => ?_⟩
  obtain ⟨hT, h⟩ := h
  refine wpAny_Call_Name_kw (ld_glob I hg hm ?_ hdb)
  refine PySem.W.callWith_K (h₀ := X.base) I.ok.mod.kin hk ?_ (by rfl) (by rfl)
  show wpAny _ _ (spliced ((false, eval (.Lambda params body scope lpos) X.env) :: backTo pos (starEach [] X.env))) _ _ s
  refine Calls.spliced_cons (thn ((pe_lamO (pos := lpos) TB hcode hmT hu hfree hk0 hdef).run pins s σ H (fun v H1 => ∃ f, v = .ref f ∧ ExtN H H1 ∧ Tabs T H1 ∧ LamAt H1 f (lamD X params body scope)) I ⟨hT, fun H1 f e1 T1 _ hL => ⟨f, rfl, e1, T1, hL⟩⟩) fun u s1 ⟨v, H1, I1, r1, f, ev, e1, T1, hL⟩ => ?_)
  subst ev
  obtain rfl : u = Value.ref f := r1
  refine Calls.spliced_nil ⟨I1.kIn, ?_⟩
  refine wpAny_call (codeAny_mono (run_lamO F hb Sg hNg hva hG LG hr I1 hL (h H1 e1 T1) hd hcd) fun r s2 hq => ?_)
  cases r with
  | error e => exact (show False from hq).elim
  | ok fl =>
    cases fl with
    | ret u => exact I1.after hq
    | next => exact False.elim hq
    | brk => exact False.elim hq
    | cont => exact False.elim hq
end
/-- what a callee lets out goes on -/
theorem passY {X : Cx} {E : XK} (hs : X.stack = X.env :: X.outer) (hf : X.env.frame = some X.env.locals) (hex : X.ex = []) {E₁ : Value → Shared → Prop} (hx : X.xe = fun e s' => wpAny (model X.prog X.w) X.A (leaving X.env e) (fun _ s'' => L2.CX X.prog X.w X.outer X.H_0 X.s_0 E e s'') E₁ s') : Passes (L2.CX X.prog X.w) X E :=
  passes_call (takes_of hs hf hex hx) fun _ _ _ _ h => h
/-- isinstance(e, c), e a caught error with a dict of its own -/
def rIsX (K : PySem.W.Frag) (cls : Value) (d : Option Addr) (a : Addr) : List V → Hp → VK → Prop := fun xs H Q => ∃ (D dx : Addr) (fs : List (Str × V)) (c : V) (cv : Value) (b : Bool), cls = .ref D ∧ ExcC K D ∧ d = some dx ∧ H dx = some (.xd fs) ∧ xs = [.ref a, c] ∧ ClsV c cv ∧ PySem.W.kitOne K (.ref D) cv = some b ∧ Q (.bl b) H
theorem call_isX {X : Cx} {a : Addr} {cls : Value} {d : Option Addr} {oe : Obj} {pn : List (Addr × Obj)} (hz : Zc cls d oe) (hf : ∃ vs, oe.data = .fields vs) : CallR (X.suite a ((a, oe) :: pn)) (.builtin "isinstance") (rIsX X.K cls d a) := by
  intro pins s σ H xs us Q I r h
  obtain ⟨D, dx, fs, c, cv, b, rfl, C, rfl, hdx, rfl, hcv, e, q⟩ := h
  cases r with
  | cons rx rr =>
    cases rr with
    | cons rt rr =>
      cases rr
      cases rx
      have ec := hcv.eq rt
      subst ec
      obtain ⟨hget, _⟩ := I.pin (a, oe) (List.mem_append.mpr (.inl List.mem_cons_self))
      obtain ⟨vs, hv⟩ := hf
      obtain ⟨mA, ⟨od, es, ep, ho, _⟩, _⟩ := (show ObjOk X.prog X.w H s.heap dx (.xd fs) from I.hok dx _ hdx)
      have J : PySem.W.InstAt s.heap a oe D (some od) := by
        obtain ⟨oc, ood, oda, osl⟩ := oe
        obtain ⟨h1, h2⟩ := hz
        dsimp only at h1 h2 hv
        subst h1 h2 hv
        exact ⟨hget, rfl, rfl, ho⟩
      have hcl : (PySem.W.clsIn X.K D).isSome = true := by
        obtain ⟨cd, hc, _⟩ := any_some C.hd
        rw [hc]
        rfl
      exact PySem.W.kia_one (PySem.W.kitx_exc hcl C.hg C.hk C.hs C.ha C.hn C.ht C.hm) I.kIn J e (fun z => nomatch z) fun tk => ⟨.bl b, H, I.kept (t' := tk) fun _ _ z => z, rfl, q⟩
end L2

namespace L2
open PySem PySem.Spec PyProof.Rows
/-! ### least lengths -/
/-- how often a number is halved until it is below 64 -/
def lk (n : Nat) : Nat := n.log2 - 5
/-- whether one of the i lowest figures is 1 -/
def ro (n i : Nat) : Nat := if n % 2 ^ i = 0 then 0 else 1
def lenD (n : Nat) : Nat := n / 2 ^ lk n + ro n (lk n)
theorem lk_small {n : Nat} (h : n < 64) : lk n = 0 := by
  unfold lk
  by_cases e : n = 0
  · rw [e]; decide
  · have : n.log2 < 6 := (Nat.log2_lt e).mpr (by omega)
    omega
theorem lk_end (n : Nat) : n / 2 ^ lk n < 64 := by
  by_cases h : n < 64
  · rw [lk_small h]
    omega
  · have e : n ≠ 0 := by omega
    have h1 : n < 2 ^ (n.log2 + 1) := (Nat.log2_lt e).mp (Nat.lt_succ_self _)
    have h2 : 6 ≤ n.log2 := (Nat.le_log2 e).mpr (by omega)
    rw [Nat.div_lt_iff_lt_mul (Nat.two_pow_pos _)]
    have e2 : n.log2 + 1 = 6 + lk n := by unfold lk; omega
    rw [e2, Nat.pow_add] at h1
    exact h1
theorem lk_before {n i : Nat} (h : i < lk n) : 64 ≤ n / 2 ^ i := by
  have e : n ≠ 0 := fun e => by
    rw [e] at h
    have z : lk 0 = 0 := by decide
    omega
  rw [Nat.le_div_iff_mul_le (Nat.two_pow_pos _)]
  have h1 : 2 ^ n.log2 ≤ n := Nat.log2_self_le e
  have h2 : 6 + i ≤ n.log2 := by unfold lk at h; omega
  calc 64 * 2 ^ i = 2 ^ (6 + i) := by rw [Nat.pow_add]
    _ ≤ 2 ^ n.log2 := Nat.pow_le_pow_right (by decide) h2
    _ ≤ n := h1
theorem lk_low {n : Nat} (h : 64 ≤ n) : 32 ≤ n / 2 ^ lk n := by
  have e : n ≠ 0 := by omega
  rw [Nat.le_div_iff_mul_le (Nat.two_pow_pos _)]
  have h1 : 2 ^ n.log2 ≤ n := Nat.log2_self_le e
  have h2 : 6 ≤ n.log2 := (Nat.le_log2 e).mpr (by omega)
  calc 32 * 2 ^ lk n = 2 ^ (5 + lk n) := by rw [Nat.pow_add]
    _ ≤ 2 ^ n.log2 := Nat.pow_le_pow_right (by decide) (by unfold lk; omega)
    _ ≤ n := h1
theorem ro_le (n i : Nat) : ro n i ≤ 1 := by unfold ro; split <;> decide
theorem ro_zero (n : Nat) : ro n 0 = 0 := by unfold ro; rw [Nat.pow_zero, Nat.mod_one]; rfl
theorem ro_step (n i : Nat) : ro n (i + 1) = if n / 2 ^ i % 2 = 1 then 1 else ro n i := by
  unfold ro
  have h := Nat.mod_pow_succ (b := 2) (k := i) (x := n)
  have h2 : n / 2 ^ i % 2 < 2 := Nat.mod_lt _ (by decide)
  have hp : 0 < 2 ^ i := Nat.two_pow_pos _
  rw [h]
  by_cases e : n / 2 ^ i % 2 = 1
  · rw [if_pos e, e, if_neg (by omega)]
  · rw [if_neg e, show n / 2 ^ i % 2 = 0 by omega, Nat.mul_zero, Nat.add_zero]
theorem lenD_small {n : Nat} (h : n < 64) : lenD n = n := by
  unfold lenD
  rw [lk_small h, ro_zero, Nat.pow_zero, Nat.div_one, Nat.add_zero]
theorem lenD_mid {n : Nat} (h : 64 ≤ n) : 32 ≤ lenD n ∧ lenD n ≤ 64 := by
  have h1 := lk_low h
  have h2 := lk_end n
  have h3 := ro_le n (lk n)
  unfold lenD
  omega
theorem lenD_dbl {n : Nat} (h : 64 ≤ n) : lenD (2 * n) = lenD n := by
  have e : n ≠ 0 := by omega
  have hl : (2 * n).log2 = n.log2 + 1 := by
    have a1 : n < 2 ^ (n.log2 + 1) := (Nat.log2_lt e).mp (Nat.lt_succ_self _)
    have a2 : 2 ^ n.log2 ≤ n := Nat.log2_self_le e
    have b1 : (2 * n).log2 < n.log2 + 2 := (Nat.log2_lt (by omega)).mpr (by rw [Nat.pow_succ]; omega)
    have b2 : n.log2 + 1 ≤ (2 * n).log2 := (Nat.le_log2 (by omega)).mpr (by rw [Nat.pow_succ]; omega)
    omega
  have h2 : 6 ≤ n.log2 := (Nat.le_log2 e).mpr (by omega)
  have hk : lk (2 * n) = lk n + 1 := by unfold lk; omega
  unfold lenD ro
  rw [hk, Nat.pow_succ, Nat.mul_comm (2 ^ lk n) 2, Nat.mul_div_mul_left _ _ (by decide : 0 < 2), Nat.mul_mod_mul_left]
  congr 1
  by_cases z : n % 2 ^ lk n = 0
  · rw [if_pos z, if_pos (by omega)]
  · rw [if_neg z, if_neg (by omega)]
theorem ro_due (n i : Nat) : (if (n : Int) = (n : Int) / 2 ^ i * 2 ^ i then (0 : Int) else 1) = (ro n i : Int) := by
  unfold ro
  have hp : 0 < 2 ^ i := Nat.two_pow_pos _
  have e : ((n : Int) / 2 ^ i * 2 ^ i) = ((n / 2 ^ i * 2 ^ i : Nat) : Int) := by
    rw [Int.natCast_mul, Int.natCast_ediv, Int.natCast_pow]
    rfl
  rw [e]
  have h := Nat.div_add_mod n (2 ^ i)
  rw [Nat.mul_comm] at h
  by_cases z : n % 2 ^ i = 0
  · rw [if_pos z, if_pos (by omega)]
    rfl
  · rw [if_neg z, if_neg (by omega)]
    rfl
/-- whether a value is an int and no bool -/
def IntQ (K : PySem.W.Frag) (H : Hp) (v : V) (b : Bool) : Prop := ∃ t b1 b2, TyX K H v t ∧ PySem.W.kitOne K t (.type "int") = some b1 ∧ PySem.W.kitOne K t (.type "bool") = some b2 ∧ b = (b1 && !b2)
theorem IntQ.int {K : PySem.W.Frag} {H : Hp} (i : Int) : IntQ K H (.int i) true := ⟨_, true, false, .base (.int i), kit_ty (by decide +kernel), kit_ty (by decide +kernel), rfl⟩
theorem IntQ.bl {K : PySem.W.Frag} {H : Hp} (i : Bool) : IntQ K H (.bl i) false := ⟨_, true, true, .base (.bl i), kit_ty (by decide +kernel), kit_ty (by decide +kernel), rfl⟩
theorem IntQ.non {K : PySem.W.Frag} {H : Hp} : IntQ K H .non false := ⟨_, false, false, .base .non, kit_ty (by decide +kernel), kit_ty (by decide +kernel), rfl⟩
theorem IntQ.str {K : PySem.W.Frag} {H : Hp} (x : Str) : IntQ K H (.str x) false := ⟨_, false, false, .base (.str x), kit_ty (by decide +kernel), kit_ty (by decide +kernel), rfl⟩
theorem IntQ.lst {K : PySem.W.Frag} {H : Hp} {a : Addr} {xs : List V} (h : H a = some (.lst xs)) : IntQ K H (.ref a) false := ⟨_, false, false, .base (.lst h), kit_ty (by decide +kernel), kit_ty (by decide +kernel), rfl⟩
theorem IntQ.tup {K : PySem.W.Frag} {H : Hp} {a : Addr} {xs : List V} (h : H a = some (.tup xs)) : IntQ K H (.ref a) false := ⟨_, false, false, .base (.tup h), kit_ty (by decide +kernel), kit_ty (by decide +kernel), rfl⟩
theorem IntQ.dK {K : PySem.W.Frag} {H : Hp} {a : Addr} {xs : List (Key × V)} (h : H a = some (.dK xs)) : IntQ K H (.ref a) false := ⟨_, false, false, .base (.dK h), kit_ty (by decide +kernel), kit_ty (by decide +kernel), rfl⟩
/-- whether a value is an int within bounds -/
def InB (K : PySem.W.Frag) (H : Hp) (v : V) (lo : Int) (m : V) (ok : Bool) : Prop := (IntQ K H v false ∧ ok = false) ∨ (∃ i, v = .int i ∧ ((m = .non ∧ ok = decide (lo ≤ i)) ∨ ∃ hi, m = .int hi ∧ ok = (decide (lo ≤ i) && decide (i ≤ hi))))
theorem InB.yes {K : PySem.W.Frag} {H : Hp} {i lo hi : Int} (h1 : lo ≤ i) (h2 : i ≤ hi) : InB K H (.int i) lo (.int hi) true := .inr ⟨i, rfl, .inr ⟨hi, rfl, by rw [decide_eq_true h1, decide_eq_true h2]; rfl⟩⟩
theorem InB.odd {K : PySem.W.Frag} {H : Hp} {v m : V} {lo : Int} (h : IntQ K H v false) : InB K H v lo m false := .inl ⟨h, rfl⟩
theorem InB.low {K : PySem.W.Frag} {H : Hp} {i lo hi : Int} (h1 : i < lo) : InB K H (.int i) lo (.int hi) false := .inr ⟨i, rfl, .inr ⟨hi, rfl, by rw [decide_eq_false (by omega)]; rfl⟩⟩
theorem InB.high {K : PySem.W.Frag} {H : Hp} {i lo hi : Int} (h1 : hi < i) : InB K H (.int i) lo (.int hi) false := .inr ⟨i, rfl, .inr ⟨hi, rfl, by rw [decide_eq_false (show ¬ i ≤ hi by omega), Bool.and_false]⟩⟩
end L2

/-! values of any kind, and what checks say of them -/
namespace L2
open PySem PySem.Spec PyProof.Rows LamX
/-- a value and its type's name -/
inductive AnyV (H : Hp) : V → String → Prop
  | non : AnyV H .non "NoneType"
  | bl (b : Bool) : AnyV H (.bl b) "bool"
  | int (i : Int) : AnyV H (.int i) "int"
  | str (x : Str) : AnyV H (.str x) "str"
  | lst {p : Addr} {xs : List V} (h : H p = some (.lst xs)) : AnyV H (.ref p) "list"
  | tup {p : Addr} {xs : List V} (h : H p = some (.tup xs)) : AnyV H (.ref p) "tuple"
  | dK {p : Addr} {xs : List (Key × V)} (h : H p = some (.dK xs)) : AnyV H (.ref p) "dict"
theorem AnyV.ext {H H' : Hp} {v : V} {T : String} (e : ExtN H H') (h : AnyV H v T) : AnyV H' v T := by
  cases h with
  | non => exact .non
  | bl b => exact .bl b
  | int i => exact .int i
  | str x => exact .str x
  | lst h => exact .lst (e _ _ h fun ps z => by cases z)
  | tup h => exact .tup (e _ _ h fun ps z => by cases z)
  | dK h => exact .dK (e _ _ h fun ps z => by cases z)
theorem AnyV.same {H H' : Hp} {v : V} {T : String} (e : Same H H') (h : AnyV H v T) : AnyV H' v T := h.ext (.of e)
theorem AnyV.ty {K : PySem.W.Frag} {H : Hp} {v : V} {T : String} (h : AnyV H v T) : TyX K H v (.type T) := by
  cases h with
  | non => exact .base .non
  | bl b => exact .base (.bl b)
  | int i => exact .base (.int i)
  | str x => exact .base (.str x)
  | lst h => exact .base (.lst h)
  | tup h => exact .base (.tup h)
  | dK h => exact .base (.dK h)
/-- is the value a whole number, not a bool -/
def isI : V → Bool
  | .int _ => true
  | _ => false
theorem AnyV.intQ {K : PySem.W.Frag} {H : Hp} {v : V} {T : String} (h : AnyV H v T) : IntQ K H v (isI v) := by
  cases h with
  | non => exact .non
  | bl b => exact .bl b
  | int i => exact .int i
  | str x => exact .str x
  | lst h => exact .lst h
  | tup h => exact .tup h
  | dK h => exact .dK h
/-- .. within bounds -/
def leH : Option Int → Int → Bool
  | none, _ => true
  | some h, i => decide (i ≤ h)
def inR (lo : Int) (hi : Option Int) : V → Bool
  | .int i => decide (lo ≤ i) && leH hi i
  | _ => false
def hiV : Option Int → V
  | none => .non
  | some h => .int h
theorem AnyV.inB {K : PySem.W.Frag} {H : Hp} {v : V} {T : String} (h : AnyV H v T) (lo : Int) (hi : Option Int) : InB K H v lo (hiV hi) (inR lo hi v) := by
  cases h with
  | non => exact .odd .non
  | bl b => exact .odd (.bl b)
  | str x => exact .odd (.str x)
  | lst h => exact .odd (.lst h)
  | tup h => exact .odd (.tup h)
  | dK h => exact .odd (.dK h)
  | int i =>
    refine .inr ⟨i, rfl, ?_⟩
    cases hi with
    | none => exact .inl ⟨rfl, by show (decide (lo ≤ i) && true) = _; rw [Bool.and_true]⟩
    | some z => exact .inr ⟨z, rfl, rfl⟩
theorem inR_int {lo : Int} {hi : Option Int} {v : V} (h : inR lo hi v = true) : ∃ i, v = .int i ∧ lo ≤ i ∧ ∀ z, hi = some z → i ≤ z := by
  cases v with
  | int i =>
    have h : (decide (lo ≤ i) && leH hi i) = true := h
    obtain ⟨h1, h2⟩ := Bool.and_eq_true_iff.mp h
    refine ⟨i, rfl, of_decide_eq_true h1, fun z e => ?_⟩
    subst e
    exact of_decide_eq_true h2
  | _ => cases h
theorem inR_yes {lo hi i : Int} (h1 : lo ≤ i) (h2 : i ≤ hi) : inR lo (some hi) (.int i) = true := by
  show (decide (lo ≤ i) && decide (i ≤ hi)) = true
  rw [decide_eq_true h1, decide_eq_true h2]
  rfl
theorem inR_low {lo i : Int} {hi : Option Int} (h1 : i < lo) : inR lo hi (.int i) = false := by
  show (decide (lo ≤ i) && _) = false
  rw [decide_eq_false (by omega)]
  rfl
theorem inR_high {lo hi i : Int} (h1 : hi < i) : inR lo (some hi) (.int i) = false := by
  show (decide (lo ≤ i) && decide (i ≤ hi)) = false
  rw [show decide (i ≤ hi) = false from decide_eq_false (by omega), Bool.and_false]
/-- an error of the class C is let out, which keeps v under f -/
def Rz (E : XK) (H : Hp) (C : Addr) (f : Str) (v : V) : Prop := ∀ (dx : Addr) (H' : Hp), Same H H' → H dx = none → H' dx = some (.xd [(f, v)]) → E (.ref C) (some dx) H'
theorem Rz.same {E : XK} {H H1 : Hp} {C : Addr} {f : Str} {v : V} (s : Same H H1) (h : Rz E H C f v) : Rz E H1 C f v := fun dx H' s' n e => h dx H' (s.trans s') (by
  cases q : H dx with
  | none => rfl
  | some o => rw [s _ _ q] at n; cases n) e
/-- a list or a tuple -/
def RowAt (H : Hp) (p : Addr) (xs : List V) : Prop := H p = some (.lst xs) ∨ H p = some (.tup xs)
theorem RowAt.ext {H H' : Hp} {p : Addr} {xs : List V} (e : ExtN H H') (h : RowAt H p xs) : RowAt H' p xs := h.imp (fun h => e _ _ h fun ps z => by cases z) fun h => e _ _ h fun ps z => by cases z
theorem RowAt.same {H H' : Hp} {p : Addr} {xs : List V} (e : Same H H') (h : RowAt H p xs) : RowAt H' p xs := h.imp (e _ _) (e _ _)
/-- what is told of a row whose entries a test must let by: the first place that it does not, or -1 -/
inductive RowQ (ok : Hp → V → Bool → Prop) (H : Hp) (v : V) (lo hi : Int) : Option Int → Prop
  | odd {T : String} (h : AnyV H v T) (n1 : T ≠ "list") (n2 : T ≠ "tuple") : RowQ ok H v lo hi (some (-1))
  | len {p : Addr} {xs : List V} (e : v = .ref p) (h : RowAt H p xs) (hl : ¬ (lo ≤ (xs.length : Int) ∧ (xs.length : Int) ≤ hi)) : RowQ ok H v lo hi (some (-1))
  | item {p : Addr} {xs : List V} {i : Nat} {x : V} (e : v = .ref p) (h : RowAt H p xs) (hl : lo ≤ (xs.length : Int) ∧ (xs.length : Int) ≤ hi) (hx : xs[i]? = some x) (bad : ok H x false) (good : ∀ (j : Nat) (y : V), j < i → xs[j]? = some y → ok H y true) : RowQ ok H v lo hi (some (i : Int))
  | fine {p : Addr} {xs : List V} (e : v = .ref p) (h : RowAt H p xs) (hl : lo ≤ (xs.length : Int) ∧ (xs.length : Int) ≤ hi) (good : ∀ (j : Nat) (y : V), xs[j]? = some y → ok H y true) : RowQ ok H v lo hi none
theorem RowQ.ext {ok : Hp → V → Bool → Prop} (st : ∀ {H H' : Hp} {v : V} {b : Bool}, ExtN H H' → ok H v b → ok H' v b) {H H' : Hp} {v : V} {lo hi : Int} {r : Option Int} (e : ExtN H H') (h : RowQ ok H v lo hi r) : RowQ ok H' v lo hi r := by
  cases h with
  | odd h n1 n2 => exact .odd (h.ext e) n1 n2
  | len e1 h hl => exact .len e1 (h.ext e) hl
  | item e1 h hl hx bad good => exact .item e1 (h.ext e) hl hx (st e bad) fun j y hj hy => st e (good j y hj hy)
  | fine e1 h hl good => exact .fine e1 (h.ext e) hl fun j y hy => st e (good j y hy)
theorem RowQ.go {ok : Hp → V → Bool → Prop} {H : Hp} {v : V} {lo hi : Int} {r : Option Int} (h : RowQ ok H v lo hi r) : (∃ T, AnyV H v T ∧ T ≠ "list" ∧ T ≠ "tuple" ∧ r = some (-1)) ∨ (∃ p xs, v = .ref p ∧ RowAt H p xs ∧ ¬ (lo ≤ (xs.length : Int) ∧ (xs.length : Int) ≤ hi) ∧ r = some (-1)) ∨
    ∃ p xs, v = .ref p ∧ RowAt H p xs ∧ (lo ≤ (xs.length : Int) ∧ (xs.length : Int) ≤ hi) ∧ (∀ (j : Nat) (y : V), xs[j]? = some y → (∀ i, r = some i → (j : Int) ≤ i) → (ok H y true ∧ r ≠ some (j : Int)) ∨ (ok H y false ∧ r = some (j : Int))) ∧ ∀ i, r = some i → 0 ≤ i ∧ i < (xs.length : Int) := by
  cases h with
  | odd h n1 n2 => exact .inl ⟨_, h, n1, n2, rfl⟩
  | len e h hl => exact .inr (.inl ⟨_, _, e, h, hl, rfl⟩)
  | @item p xs i x e h hl hx bad good =>
    refine .inr (.inr ⟨p, xs, e, h, hl, fun j y hy up => ?_, fun z hz => ?_⟩)
    · have := up _ rfl
      rcases Nat.lt_or_ge j i with c | c
      · exact .inl ⟨good j y c hy, fun z => by have := Option.some.inj z; omega⟩
      · obtain rfl : j = i := by omega
        rw [hx] at hy
        rw [← Option.some.inj hy]
        exact .inr ⟨bad, rfl⟩
    · obtain rfl := Option.some.inj hz
      have := (List.getElem?_eq_some_iff.mp hx).1
      omega
  | @fine p xs e h hl good => exact .inr (.inr ⟨p, xs, e, h, hl, fun j y hy _ => .inl ⟨good j y hy, fun z => by cases z⟩, fun z hz => by cases hz⟩)
/-- an entry that is a whole number, or is none -/
def okInt (H : Hp) (v : V) (b : Bool) : Prop := ∃ T, AnyV H v T ∧ b = isI v
theorem okInt.ext {H H' : Hp} {v : V} {b : Bool} (e : ExtN H H') (h : okInt H v b) : okInt H' v b := h.imp fun _ h => ⟨h.1.ext e, h.2⟩
abbrev KeysQ := RowQ okInt
theorem keysExt {H H' : Hp} {v : V} {lo hi : Int} {r : Option Int} (e : ExtN H H') (h : KeysQ H v lo hi r) : KeysQ H' v lo hi r := RowQ.ext (ok := okInt) (fun {H1 H2 v b} e h => okInt.ext (H := H1) (H' := H2) (v := v) (b := b) e h) e h
theorem kit_lt {K : PySem.W.Frag} {H : Hp} {v : V} {T : String} (h : AnyV H v T) (n1 : T ≠ "list") (n2 : T ≠ "tuple") : PySem.W.kitAny K (.type T) [.type "list", .type "tuple"] = some false := by
  have go : ∀ T : String, kitB T "list" = some false → kitB T "tuple" = some false → PySem.W.kitAny K (.type T) [.type "list", .type "tuple"] = some false := fun T h1 h2 => kitAny_cons (b := false) (kit_ty h1) (fun _ => kitAny_cons (b := false) (kit_ty h2) (fun _ => kitAny_nil) fun z => nomatch z) fun z => nomatch z
  cases h with
  | non => exact go _ (by decide +kernel) (by decide +kernel)
  | bl b => exact go _ (by decide +kernel) (by decide +kernel)
  | int i => exact go _ (by decide +kernel) (by decide +kernel)
  | str x => exact go _ (by decide +kernel) (by decide +kernel)
  | lst h => exact absurd rfl n1
  | tup h => exact absurd rfl n2
  | dK h => exact go _ (by decide +kernel) (by decide +kernel)
theorem kit_row {K : PySem.W.Frag} {H : Hp} {p : Addr} {xs : List V} (h : RowAt H p xs) : ∃ t, TyX K H (.ref p) t ∧ PySem.W.kitAny K t [.type "list", .type "tuple"] = some true := by
  rcases h with hl | ht
  · exact ⟨_, .base (.lst hl), kitAny_cons (b := true) (kit_ty (by decide +kernel)) (fun z => nomatch z) (fun _ => rfl)⟩
  · exact ⟨_, .base (.tup ht), kitAny_cons (b := false) (kit_ty (by decide +kernel)) (fun _ => kitAny_cons (b := true) (kit_ty (by decide +kernel)) (fun z => nomatch z) (fun _ => rfl)) (fun z => nomatch z)⟩
/-- what two error classes are to each other -/
structure ExS (K : PySem.W.Frag) (C1 C2 : Addr) (b : Bool) : Prop where
  kit : PySem.W.kitOne K (.ref C1) (.ref C2) = some b
  exm : PySem.W.exmOne K (.ref C1) (.ref C2) = some b
theorem exS_mk {K : PySem.W.Frag} {C1 C2 : Addr} {b : Bool} (eB : PySem.W.subIn K (.ref C2) (.type "BaseException") = some true) (t : PySem.W.typeIn K (.ref C2) = some (.type "type")) (hc : PySem.W.isClsIn K C2 = true) (ss : PySem.W.subIn K (.ref C2) (.ref C2) = some true) (s : PySem.W.subIn K (.ref C1) (.ref C2) = some b) : ExS K C1 C2 b := by
  have hc' : (PySem.W.clsIn K C2).isSome = true := hc
  have k1 : PySem.W.kitCls K (.ref C1) (.ref C2) = some b := by
    unfold PySem.W.kitCls
    simp [hc', t, s]
  constructor
  · unfold PySem.W.kitOne
    split
    · rename_i e
      have e : C1 = C2 := Value.ref.inj (beq_iff_eq.mp e)
      rw [e, ss] at s
      exact s
    · exact k1
  · unfold PySem.W.exmOne
    simp [eB, k1]
section
variable {X : Cx} {a : Addr} {cls : Value} {d : Option Addr} {oe : Obj} {pn : List (Addr × Obj)}
/-- e.f of a caught error, its class told in the reading -/
theorem pe_xfA {e : Expr} {te : TE} {pos : Pos} {n : Str} (hz : Zc cls d oe) (hf : ∃ vs, oe.data = .fields vs) (he : PE (X.suite a ((a, oe) :: pn)) e te) (hb : attributeBase e n X.env (eval e X.env) = eval e X.env := by rfl) :
    PE (X.suite a ((a, oe) :: pn)) (.Attribute e n pos) (fun σ H Q => ∃ C, XfC X.K C ∧ PySem.W.findIn X.K (.ref C) n = some none ∧ tXf a cls d C n te σ H Q) :=
  ⟨fun pins s σ H Q I ⟨C, T, hno, h⟩ => (pe_xf T hno hz hf he hb).run pins s σ H Q I h⟩
end
section
variable {P : Program} {w : World} {K : PySem.W.Frag} {mg : Str → Option Value} {base : Heap}
/-- a def whose code object is known, and that errors may leave -/
theorem Fun.okXC {x qual : Str} {st : Stmt} {f c : Addr} {fd : FuncData} {N ps : List Str} {k : Nat} {sp : Sp} (F : Fun K x qual st f fd) (hc : fd.code = .ref c) (S : FnScope N ps (defScope st)) (len : ∀ vs H Q E, sp vs H Q E → vs.length = ps.length)
    (hbody : ∀ (A : Around) (outer : List Env) (s : Shared) (H : Hp) (vs : List V) (Q : VK) (E : XK), Room k (A.deeper (envOfC qual (defScope st) s.heap.objs.size f (.ref c))) → sp vs H Q E →
      ∃ t, PSs (cxOf (L2.CX P w) P w K mg base N qual (defScope st) f (.ref c) A outer s H E) (defBody st) t ∧ t { nx := fun _ H' => Q .non H', rt := Q } (start N vs) H) : FnOk P w K mg base (L2.CX P w) (k + 1) f fd ps sp := by
  obtain ⟨oc, od, kV, doc, pm, an, cdv, ct, osl, rfl, lk, hcd⟩ := F.ex
  have e : cdv = .ref c := hc
  subst e
  exact fn_of lk hcd S len fun A outer s H vs Q E hr hsp => hbody A outer s H vs Q E hr hsp
/-- a def that a slot may hold, and that errors may leave -/
structure HeldX (P : Program) (w : World) (K : PySem.W.Frag) (mg : Str → Option Value) (base : Heap) (k : Nat) (f : Addr) (sp : Sp) : Prop where
  ex : ∃ (fd : FuncData) (ps : List Str), FnOk P w K mg base (L2.CX P w) k f fd ps sp ∧ PySem.W.keepIn K (.ref f) = true ∧ L2.Binds K fd ps []
end
theorem pe_callRX {X : Cx} {E : XK} {k i : Nat} {x : Str} {p pos : Pos} {e : Expr} {es : List Expr} {t : TA} {S : Addr → Sp → Prop} (A : ∀ f sp, S f sp → HeldX X.prog X.w X.K X.mg X.base k f sp) (hr : Room k X.A) (hN : X.N[i]? = some x) (hv : Vis X.env.scope x) (hx : Passes (L2.CX X.prog X.w) X E) (ha : PA X (e :: es) t)
    (hdb : (x == ("__debug__" : Str)) = false := by decide) (hcd : (x == ("__classdict__" : Str)) = false := by decide)
    (he : starEach (e :: es) X.env = (false, eval e X.env) :: starEach es X.env := by rfl) (hpl : (backTo pos (starEach es X.env)).any (·.1) = false := by rfl) :
    PE X (.Call (.Name x p) (e :: es) [] pos) (fun σ H Q => ∃ f sp, σ[i]? = some (some (.ref f)) ∧ S f sp ∧ t σ H fun vs H1 => sp vs H1 Q E) := by
  refine ⟨fun pins s σ H Q I h => ?_⟩
  obtain ⟨f, sp, hs, hS, ht⟩ := h
  obtain ⟨fd, ps, F, hk, hb⟩ := (A f sp hS).ex
  refine (pe_callL (i := i) (f := f) (sp := sp) (dvs := []) (E := E) F hr hN hv hk hb .nil hx ha hdb hcd he hpl).run pins s σ H Q I ⟨hs, ?_⟩
  have e0 : (fun (vs : List V) (H1 : Hp) => sp (vs ++ []) H1 Q E) = fun vs H1 => sp vs H1 Q E := by
    funext vs H1
    rw [List.append_nil]
  show t σ H (fun vs H1 => sp (vs ++ []) H1 Q E)
  rw [e0]
  exact ht
/-- the lambda's captured names are the maker's -/
def freeB (sc scope : Scope) : Bool := scope.names.all fun y => !decide (y.2 = .free) || decide (sc.names.lookup y.1 = some .cell) || decide (sc.names.lookup y.1 = some .free)
theorem free_by {sc scope : Scope} (h : freeB sc scope = true) : ∀ y ∈ scope.names, y.2 = .free → sc.names.lookup y.1 = some .cell ∨ sc.names.lookup y.1 = some .free := fun y hy e => by
  unfold freeB at h
  have := List.all_eq_true.mp h y hy
  simp only [Bool.or_eq_true, Bool.not_eq_true', decide_eq_true_eq, decide_eq_false_iff_not] at this
  rcases this with (z | z) | z
  · exact absurd e z
  · exact .inl z
  · exact .inr z
end L2

/-! defs that are called where nothing is being shown: repr of lists and tuples -/
namespace L2
open PySem PySem.Spec PyProof.Rows
/-- a promise that is kept where no repr is under way -/
structure FnG (P : Program) (w : World) (K : PySem.W.Frag) (mg : Str → Option Value) (base : Heap) (CX : CXT) (k : Nat) (f : Addr) (fd : FuncData) (ps : List Str) (sp : Sp) : Prop where
  ln : ∀ vs H Q E, sp vs H Q E → vs.length = ps.length
  go : ∀ {A : Around} {outer : List Env} {s : Shared} {H : Hp} {ar : Args} {us : List Value} {vs : List V} {Q : VK} {E : XK}, A.guards = some [] → Room k A → Env0 P w K mg base A outer s H → BindsTo s fd ar (ps.zip us) → Vals vs us → sp vs H Q E →
    codeAny (model P w) A (.call (.ref f) ar) (CR CX outer P w H s Q E) s
theorem FnG.of {P : Program} {w : World} {K : PySem.W.Frag} {mg : Str → Option Value} {base : Heap} {CX : CXT} {k : Nat} {f : Addr} {fd : FuncData} {ps : List Str} {sp : Sp} (F : FnOk P w K mg base CX k f fd ps sp) : FnG P w K mg base CX k f fd ps sp :=
  ⟨F.len, fun _ r e b v h => F.run _ _ _ _ _ _ _ _ _ r e b v h⟩
section
variable {P : Program} {w : World} {K : PySem.W.Frag} {mg : Str → Option Value} {base : Heap} {CX : CXT} {k : Nat} {f : Addr} {N ps : List Str} {sp : Sp}
theorem fnG_body {x qual : Str} {dfs : Arguments} {bd : List Stmt} {sc : Scope} {dV kV doc pm cdv ct oc : Value} {an od : Option Addr} {osl : Array (Option Value)}
    (at_ : K.lookup f = some ⟨oc, od, .func (PySem.W.fnOf x qual dfs bd sc dV kV doc pm an cdv ct), osl⟩) (cd : PySem.W.codeIn K cdv qual = true) (S : FnScope N ps sc) (ln : ∀ vs H Q E, sp vs H Q E → vs.length = ps.length)
    (bdy : ∀ (A : Around) (outer : List Env) (s : Shared) (H : Hp) (vs : List V) (Q : VK) (E : XK), A.guards = some [] → Room k (A.deeper (envOfC qual sc s.heap.objs.size f cdv)) → sp vs H Q E →
      ∃ t, PSs (cxOf CX P w K mg base N qual sc f cdv A outer s H E) bd t ∧ t { nx := fun _ H' => Q .non H', rt := Q } (L2.start N vs) H) :
    FnG P w K mg base CX (k + 1) f (PySem.W.fnOf x qual dfs bd sc dV kV doc pm an cdv ct) ps sp := by
  refine ⟨ln, fun {A outer s H ar us vs Q E} gd room ev bt vv hs => ?_⟩
  have keepB : ∀ b o, base.get? b = some o → s.heap.get? b = some o := fun b o e => (ev.bs b o e).1
  have inK := ev.mod.kin.keeps keepB
  have free := ev.mod.nolimit.keeps keepB
  have kinds : ∀ y ∈ ps.zip us, sc.names.lookup y.1 = some .local ∨ (sc.names.lookup y.1 = some .cell ∧ ((cellsFrom (s.heap.objs.size + 1) sc.names []).lookup y.1).isSome = true) := by
    rintro ⟨n, v⟩ m
    exact (S.par n (List.of_mem_zip m).1).imp id fun q => ⟨q, PySem.W.cellsFrom_some _ _ _ (.inl q)⟩
  refine codeAny_call_function room.depth (inK _ _ at_) rfl S.co S.gen rfl (PySem.W.codeRec_of inK cd) (bt _ _ _ _ (wpAny_newFunctionEnv_cells S.kind kinds fun env ee s1 xx => ?_))
  cases ee
  refine ⟨free.keeps xx.toInCall.keep, codeAny_func ?_⟩
  obtain ⟨t, run, want⟩ := bdy A outer s H vs Q E gd (room.deeper _) hs
  have inv0 := inv_start (CX := CX) (E := E) S room.hd ev (ln _ _ _ _ hs) vv xx
  have done : ∀ {σ' : L2.St} {H' : Hp} {v : V} {u : Value} {s' : Shared}, Inv (cxOf CX P w K mg base N qual sc f cdv A outer s H E) [] σ' H' s' → L2.RelV v u → Q v H' → CE outer P w H s Q u s' := fun J rv q => ⟨_, _, J.os, J.bare, J.base, J.hok, rv, q⟩
  refine wpAny_mono (run.run [] s1 (L2.start N vs) H _ inv0 want) (fun fl s' res => ?_) fun _ _ z => z
  match fl, res with
  | .ret u, ⟨v, σ', H', J, rv, q⟩ => exact done J rv q
  | .next, ⟨σ', H', J, q⟩ => exact done (v := .non) (u := .none) J rfl q
  | .brk, ⟨_, _, _, q⟩ => exact q.elim
  | .cont, ⟨_, _, _, q⟩ => exact q.elim
theorem Fun.okG {x qual : Str} {st : Stmt} {fd : FuncData} (F : Fun K x qual st f fd) (S : FnScope N ps (defScope st)) (ln : ∀ vs H Q E, sp vs H Q E → vs.length = ps.length)
    (bdy : ∀ (cdv : Value) (A : Around) (outer : List Env) (s : Shared) (H : Hp) (vs : List V) (Q : VK) (E : XK), A.guards = some [] → Room k (A.deeper (envOfC qual (defScope st) s.heap.objs.size f cdv)) → sp vs H Q E →
      ∃ t, PSs (cxOf CX0 P w K mg base N qual (defScope st) f cdv A outer s H E).nox (defBody st) t ∧ t { nx := fun _ H' => Q .non H', rt := Q } (L2.start N vs) H) : FnG P w K mg base CX0 (k + 1) f fd ps sp := by
  obtain ⟨oc, od, kV, doc, pm, an, cdv, ct, osl, rfl, at_, cd⟩ := F.ex
  refine fnG_body at_ cd S ln fun A outer s H vs Q E gd room hs => ?_
  obtain ⟨t, h1, h2⟩ := bdy cdv A outer s H vs Q E gd room hs
  exact ⟨t, h1.nox, h2⟩
end
section
variable {X : Cx} {CX : CXT} {k : Nat} {f : Addr} {fd : FuncData} {ps : List Str} {sp : Sp} {E : XK} {dvs : List V} {ds : List Value}
theorem run_fnG {pins : List (Addr × Obj)} {σ : L2.St} {H : Hp} {s : Shared} {Q : VK} {us : List Value} {vs : List V} (F : FnG X.prog X.w X.K X.mg X.base CX k f fd ps sp) (gd : X.A.guards = some []) (room : Room k X.A) (bb : Binds X.K fd ps ds) (dd : Vals dvs ds)
    (px : Passes CX X E) (I : Inv X pins σ H s) (vv : Vals vs us) (hs : sp (vs ++ dvs) H Q E) : wpAny (model X.prog X.w) X.A (call (.ref f) us) (EP X pins σ Q) X.xe s := by
  have all := vv.append dd
  have same : (us ++ ds).length = ps.length := all.length.symm.trans (F.ln _ _ _ _ hs)
  refine wpAny_call (codeAny_mono (F.go (outer := X.stack) gd room I.env0 (bb s us I.kIn same) all hs) fun r s' res => ?_)
  match r, res with
  | .error e, res => exact px pins σ H s e s' I res
  | .ok (.ret u), res => exact I.after res
  | .ok .next, res => exact (show False from res).elim
  | .ok .brk, res => exact (show False from res).elim
  | .ok .cont, res => exact (show False from res).elim
theorem pe_callG {x : Str} {p pos : Pos} {e : Expr} {es : List Expr} {t : TA} (F : FnG X.prog X.w X.K X.mg X.base CX k f fd ps sp) (gd : X.A.guards = some []) (room : Room k X.A) (gl : Gl X x) (at_ : X.mg x = some (.ref f)) (kp : PySem.W.keepIn X.K (.ref f) = true)
    (bb : Binds X.K fd ps ds) (dd : Vals dvs ds) (px : Passes CX X E) (ha : PA X (e :: es) t) (nd : (x == ("__debug__" : Str)) = false := by decide) (h1 : starEach (e :: es) X.env = (false, eval e X.env) :: starEach es X.env := by rfl)
    (h2 : (backTo pos (starEach es X.env)).any (·.1) = false := by rfl) : PE X (.Call (.Name x p) (e :: es) [] pos) (tCall sp dvs E t) :=
  ⟨fun pins s σ H Q I h => wpAny_Call_Name_kw (ld_glob I gl at_ (PySem.W.callWith_K (h₀ := X.base) I.ok.mod.kin kp (thn (ha.run pos pins s σ H _ I h) fun us s1 ⟨vs, H1, I1, r, q⟩ => ⟨I1.kIn, run_fnG F gd room bb dd px I1 r q⟩) h1 h2) nd)⟩
/-- repr of an object that is data -/
def rReprD (K : PySem.W.Frag) : List V → Hp → VK → Prop := fun vs H Q => ∃ (p : Addr) (d : PyData), vs = [.ref p] ∧ Dp K H (.ref p) d ∧ d.showable = true ∧ d.hasDict = false ∧ d.depth ≤ 64 ∧ d.shown.length ≤ sizeLine ∧ Q (.str d.shown) H
theorem call_reprD (gd : X.A.guards = some []) (hu : X.A.units + 65 < cLine) : CallR X (.builtin "repr") (rReprD X.K) := by
  intro pins s σ H xs us Q I r h
  obtain ⟨p, d, rfl, hd, h1, h2, h3, h4, q⟩ := h
  obtain ⟨u, rfl, r1⟩ := vals1 r
  obtain ⟨as, rd⟩ := Dp.reads I d _ u hd r1
  cases r1
  refine repr_of_reads' rd h1 (fun z => by rw [h2] at z; cases z) gd (by omega) (fun _ _ e => e) (fun h' u tk keep => ⟨.str _, H, I.kept keep, ⟨_, rfl⟩, q⟩) h4
end
end L2
namespace L2
open PySem PySem.Spec PyProof.Rows
/-- the call of the law: the promise of a def that may show lists -/
theorem callG {P : Program} {w : World} {K : PySem.W.Frag} {mg mb : Str → Option Value} {CX : CXT} {k : Nat} {fa a : Addr} {fd : FuncData} {x : Str} {sp : Sp} {s1 : Shared} {us : List Value} {ns : List Int}
    (inK : K.In s1.heap) (top : s1.heap.Ns mainGlobals mg) (blt : s1.heap.Ns builtinsNs mb) (boot : ∀ y : Str, y ≠ "__name__" → mb y = bootBuiltins y) (free : s1.heap.NoLimit) (gen0 : s1.gens = #[])
    (scr : s1.heap.get? a = some { cls := .type "list", data := .seq us.toArray }) (isI : IntsAre us ns) (small : ns.length ≤ sizeLine) (room : Room k callerA)
    (F : ∀ base : Heap, K.In base → base.Ns mainGlobals mg → FnG P w K mg base CX k fa fd [x] sp) (bt : ∀ (s : Shared) (u : Value), BindsTo s fd ⟨[u], []⟩ [(x, u)])
    (want : ∀ H : Hp, Only H → SqL K H a (ns.map V.int) → sp [.ref a] H (fun v _ => v = .bl true) fun _ _ _ => False) (noX : ∀ H e s', CX [] H s1 (fun _ _ _ => False) e s' → False) :
    codeAny (model P w) callerA (.call (.ref fa) ⟨[.ref a], []⟩) (fun r s' => r = .ok (.ret (.bool true)) ∧ OldK s1.heap s'.heap ∧ s'.os = s1.os ∧ AllBare s'.gens) s1 := by
  have vv := vals_ints isI
  have lu := isI.length
  have main : ∀ H : Hp, Only H → SqL K H a (ns.map V.int) → HOk P w H s1.heap → (∀ b, H b ≠ none → b = a) → (H a ≠ none → K.lookup a = none) →
      codeAny (model P w) callerA (.call (.ref fa) ⟨[.ref a], []⟩) (fun r s' => r = .ok (.ret (.bool true)) ∧ OldK s1.heap s'.heap ∧ s'.os = s1.os ∧ AllBare s'.gens) s1 := by
    intro H only sq ok one out
    have hid : ∀ {b : Addr} {o : Obj}, s1.heap.get? b = some o → H b = none → (hidT s1.heap H).get? b = some o := fun e n => hidT_get e n
    have hidN : ∀ {b : Addr} {m : Str → Option Value}, s1.heap.Ns b m → (hidT s1.heap H).Ns b m := by
      rintro b m ⟨o, es, ep, e, d, r⟩
      refine ⟨o, es, ep, hid e ?_, d, r⟩
      match q : H b with
      | none => rfl
      | some u =>
        obtain rfl := one b (by rw [q]; exact Option.some_ne_none _)
        rw [scr] at e
        cases e
        exact absurd (show Data.seq us.toArray _ = Data.dict es ep from d) Data.noConfusion
    have kin : K.In (hidT s1.heap H) := fun b o e => hid (inK b o e) (by
      match q : H b with
      | none => rfl
      | some u =>
        obtain rfl := one b (by rw [q]; exact Option.some_ne_none _)
        rw [out (by rw [q]; exact Option.some_ne_none _)] at e
        cases e)
    obtain ⟨mc, f1, f2⟩ := free
    have ev : Env0 P w K mg (hidT s1.heap H) callerA [] s1 H := ⟨rfl, ⟨kin, hidN top, ⟨mb, hidN blt, boot⟩, ⟨mc, hidN f1, f2⟩⟩, fun b o e => of_hidT e, Nat.le_of_eq (hidT_size _ _), trivial, fun b hb => absurd (show b ∈ ([] : List Addr) from hb) List.not_mem_nil, ok, .of_eq gen0⟩
    refine codeAny_mono ((F _ kin (hidN top)).go (us := [.ref a]) (vs := [.ref a]) rfl room ev (bt s1 (.ref a)) (.cons rfl .nil) (want H only sq)) fun r s' res => ?_
    match r, res with
    | .error e, res => exact (noX H e s' res).elim
    | .ok .next, res => exact (show False from res).elim
    | .ok .brk, res => exact (show False from res).elim
    | .ok .cont, res => exact (show False from res).elim
    | .ok (.ret u), ⟨v, H', os, bare, un, ok', rv, q⟩ =>
      obtain rfl : v = .bl true := q
      obtain rfl : u = Value.bool true := rv
      refine ⟨rfl, OldK.of_keep fun b o e => ?_, os, bare⟩
      match q : H b with
      | none => exact un.keep b o e q (fun z => absurd (show b ∈ ([] : List Addr) from z) List.not_mem_nil) List.not_mem_nil
      | some u =>
        rcases only b with z | ⟨ob, xs, z⟩
        · rw [q] at z
          cases z
        · have e1 := (ok b _ z).1
          have e2 := (ok' b _ (un.frzs b ob _ z)).1
          rw [e] at e1
          cases e1
          exact e2
  match own : K.lookup a with
  | some o =>
    have e := inK a o own
    rw [scr] at e
    cases e
    exact main (fun _ => none) (fun _ => .inl rfl) (.inr ⟨_, us.toArray, _, own, rfl, rfl, rfl, by rw [List.size_toArray, lu]; exact small, by simpa using vv⟩) (fun b u z => nomatch (show (none : Option HO) = some u from z)) (fun b z => absurd rfl z) fun z => absurd rfl z
  | none =>
    refine main (fun b => if b = a then some (.frz { cls := .type "list", data := .seq us.toArray } (.lst (ns.map V.int))) else none) (fun b => ?_) (.inl (.inr ⟨{ cls := .type "list", data := .seq us.toArray }, if_pos rfl⟩)) (fun b u z => ?_) (fun b z => ?_) fun _ => own
    all_goals by_cases same : b = a
    · exact .inr ⟨_, _, if_pos same⟩
    · exact .inl (if_neg same)
    · have z2 := (if_pos same).symm.trans z
      cases z2
      subst same
      exact ⟨scr, by rw [List.length_map]; exact small, us, _, vv, scr⟩
    · have z2 := (if_neg same).symm.trans z
      cases z2
    · exact same
    · exact absurd (if_neg same) z
theorem walkG {l : PySem.W.OpenLaw} {n k : Nat} {q : Program} {loose : List Str} {XP : (Str → Option Value) → Heap → Prop} {YP : World → Heap → Prop} {d : DefRec} {K : Params → PySem.W.Frag} {CX : World → CXT} {sp : World → Sp} {x : Str}
    (most : l.most = some n) (small : n ≤ sizeLine) (nodef : d.params.defaults = []) (room : Room k callerA) (inK : ∀ (w : World) (h : Heap), YP w h → (K w.params).In h)
    (F : ∀ (w : World) (mg : Str → Option Value) (fa : Addr) (h : Heap), (K w.params).In h → h.Ns mainGlobals mg → mg d.name = some (.ref fa) → ∃ fd : FuncData, (∀ (s : Shared) (u : Value), BindsTo s fd ⟨[u], []⟩ [(x, u)]) ∧
      ∀ base : Heap, (K w.params).In base → base.Ns mainGlobals mg → FnG l.prog w (K w.params) mg base (CX w) k fa fd [x] (sp w))
    (want : ∀ (w : World) (H : Hp) (a : Addr) (ns : List Int), ns.length ≤ n → Only H → SqL (K w.params) H a (ns.map V.int) → sp w [.ref a] H (fun v _ => v = .bl true) fun _ _ _ => False)
    (noX : ∀ (w : World) (H : Hp) (s : Shared) (e : Value) (s' : Shared), CX w [] H s (fun _ _ _ => False) e s' → False) : PySem.W.WalkO q loose XP YP l.row.toRowW d [] (fun f vs => PySem.call f vs) := by
  refine Att.attach_call most nodef fun w s0 s1 mg mb fa o pm cd doc a vs ns G Y h1 h2 h3 at_ scr isI len gen0 => ?_
  obtain ⟨fd, bt, keep⟩ := F w mg fa _ (inK w _ Y) G.T.g at_
  exact callG (inK w _ Y) G.T.g G.T.b G.T.builtins G.T.nolimit gen0 scr isI (Nat.le_trans len small) room keep bt (fun H only sq => want w H a ns len only sq) fun H e s' => noX w H s1 e s'
end L2

/-! data in lists, what it shows -/
namespace L2
open PySem PySem.Spec PyProof.Rows
theorem dpAll_of {α : Type} {K : PySem.W.Frag} {H : Hp} (f : α → PyData) : ∀ {ts : List V} {as : List α}, ts.length = as.length → (∀ (i : Nat) (v : V) (a : α), ts[i]? = some v → as[i]? = some a → Dp K H v (f a)) → DpAll K H ts (as.map f)
  | [], [], _, _ => .nil
  | [], _ :: _, h, _ => by cases h
  | _ :: _, [], h, _ => by cases h
  | v :: ts, a :: as, hl, h => .cons (h 0 v a rfl rfl) (dpAll_of f (by simpa using hl) fun i v' a' h1 h2 => h (i + 1) v' a' h1 h2)
theorem canLay_of {α : Type} (f : α → PyData) (h : ∀ a, PyData.canLay0 (f a) = true) : ∀ (as : List α), PyData.canLayAll0 (as.map f) = true
  | [] => rfl
  | a :: as => by
    show (PyData.canLay0 (f a) && PyData.canLayAll0 (as.map f)) = true
    rw [h, canLay_of f h as]
    rfl
theorem depth_of {α : Type} (f : α → PyData) {n : Nat} (h : ∀ a, PyData.depth (f a) ≤ n) : ∀ (as : List α), PyData.depthAll (as.map f) ≤ n
  | [] => Nat.zero_le _
  | a :: as => Nat.max_le.mpr ⟨h a, depth_of f h as⟩
theorem shaped_of {d : PyData} (h1 : PyData.canLay0 d = true) (h2 : PyData.depth d ≤ 64) : SeqAt.shaped d = true := by
  unfold SeqAt.shaped
  exact Bool.and_eq_true_iff.mpr ⟨h1, decide_eq_true h2⟩
theorem eqv_same {d : PyData} (h : SeqAt.shaped d = true) : PyData.eqv d d = true := SeqAt.eqv_refl _ (SeqAt.canLay_of_shaped h)
/-! ints, shown -/
theorem showable_ints : ∀ (ns : List Int), (∀ n ∈ ns, n.natAbs.log2 < 1920) → PyData.showableAll (ns.map PyData.int) = true
  | [], _ => rfl
  | n :: ns, h => by
    show (decide (n.natAbs.log2 < 1920) && PyData.showableAll (ns.map PyData.int)) = true
    rw [decide_eq_true (h n (List.mem_cons_self ..)), showable_ints ns fun m hm => h m (List.mem_cons_of_mem _ hm)]
    rfl
theorem noDict_ints : ∀ (ns : List Int), PyData.hasDictAll (ns.map PyData.int) = false
  | [] => rfl
  | n :: ns => by
    show (false || PyData.hasDictAll (ns.map PyData.int)) = false
    rw [noDict_ints ns]
    rfl
theorem shown_ints_len : ∀ (ns : List Int), (∀ n ∈ ns, n.natAbs.log2 < 1920) → ((PyData.shownAll (ns.map PyData.int)).map (·.length)).sum ≤ 1921 * ns.length ∧ (PyData.shownAll (ns.map PyData.int)).length = ns.length
  | [], _ => ⟨Nat.le_refl _, rfl⟩
  | n :: ns, h => by
    obtain ⟨a1, a2⟩ := shown_ints_len ns fun m hm => h m (List.mem_cons_of_mem _ hm)
    have b : (PyData.shown (.int n)).length ≤ 1921 := int_text_len_1921 (h n (List.mem_cons_self ..))
    constructor
    · show (PyData.shown (.int n)).length + ((PyData.shownAll (ns.map PyData.int)).map (·.length)).sum ≤ 1921 * (ns.length + 1)
      omega
    · show (PyData.shownAll (ns.map PyData.int)).length + 1 = ns.length + 1
      rw [a2]
theorem show_ints {ns : List Int} (hl : ns.length ≤ 8000) (h : ∀ n ∈ ns, n.natAbs.log2 < 1920) : (PyData.list (ns.map PyData.int)).showable = true ∧ (PyData.list (ns.map PyData.int)).hasDict = false ∧ (PyData.list (ns.map PyData.int)).depth ≤ 64 ∧ (PyData.list (ns.map PyData.int)).shown.length ≤ sizeLine := by
  obtain ⟨a1, a2⟩ := shown_ints_len ns h
  refine ⟨showable_ints ns h, noDict_ints ns, ?_, ?_⟩
  · show PyData.depthAll (ns.map PyData.int) + 1 ≤ 64
    rw [depth_ints]
    decide
  · show (listText (PyData.shownAll (ns.map PyData.int))).length ≤ sizeLine
    refine Nat.le_trans (listText_len_le _) (Nat.le_trans ?_ (by decide : 15400003 ≤ sizeLine))
    rw [a2]
    omega
end L2

/-! pairs of a word and a value, in lists -/
namespace L2
open PySem PySem.Spec PyProof.Rows LamX
abbrev pdW (w : Str) (x : PyData) : PyData := .tuple [.str w, x]
/-- a value that is its own data -/
inductive Lone : V → PyData → Prop
  | non : Lone .non .none
  | bl (b : Bool) : Lone (.bl b) (.bool b)
  | int (i : Int) : Lone (.int i) (.int i)
  | str (x : Str) (h : PyData.canLay0 (.str x) = true) : Lone (.str x) (.str x)
theorem Lone.dp {K : PySem.W.Frag} {H : Hp} {v : V} {x : PyData} (h : Lone v x) : Dp K H v x := by
  cases h with
  | non => exact .non
  | bl b => exact .bl b
  | int i => exact .int i
  | str z _ => exact .str z
theorem Lone.canLay {v : V} {x : PyData} (h : Lone v x) : x.canLay0 = true := by
  cases h with
  | str z h => exact h
  | _ => rfl
theorem Lone.depth {v : V} {x : PyData} (h : Lone v x) : x.depth = 0 := by
  cases h <;> rfl
theorem dp_word {K : PySem.W.Frag} {H : Hp} {t : Addr} {w : Str} {v : V} {x : PyData} (h : H t = some (.tup [.str w, v])) (hv : Lone v x) : Dp K H (.ref t) (pdW w x) := .tup (L2.st_of h) (.cons (.str w) (.cons hv.dp .nil))
theorem dpAll_rep {K : PySem.W.Frag} {H : Hp} {d : PyData} : ∀ {rs : List V}, (∀ r ∈ rs, Dp K H r d) → DpAll K H rs (List.replicate rs.length d)
  | [], _ => .nil
  | r :: rs, h => .cons (h r List.mem_cons_self) (dpAll_rep fun z hz => h z (List.mem_cons_of_mem _ hz))
theorem dp_said {K : PySem.W.Frag} {H : Hp} {D : Addr} {rs : List V} {n : Nat} {w : Str} {v : V} {x : PyData} (hD : H D = some (.lst rs)) (hl : rs.length = n) (hr : ∀ r ∈ rs, ∃ t, r = .ref t ∧ H t = some (.tup [.str w, v])) (hv : Lone v x) : Dp K H (.ref D) (.list (List.replicate n (pdW w x))) := by
  subst hl
  exact .lst (L2.sq_of hD) (dpAll_rep fun r h => by
    obtain ⟨t, rfl, ht⟩ := hr r h
    exact dp_word ht hv)
theorem canLay_rep {d : PyData} (h : d.canLay0 = true) : ∀ n, PyData.canLayAll0 (List.replicate n d) = true
  | 0 => rfl
  | n + 1 => by
    show (d.canLay0 && PyData.canLayAll0 (List.replicate n d)) = true
    rw [h, canLay_rep h n]
    rfl
theorem depth_rep {d : PyData} {m : Nat} (h : d.depth ≤ m) : ∀ n, PyData.depthAll (List.replicate n d) ≤ m
  | 0 => Nat.zero_le _
  | n + 1 => Nat.max_le.mpr ⟨h, depth_rep h n⟩
theorem canLay_word {w : Str} {v : V} {x : PyData} (hw : PyData.canLay0 (.str w) = true) (hv : Lone v x) : (pdW w x).canLay0 = true := by
  show (PyData.canLay0 (.str w) && (PyData.canLay0 x && true)) = true
  rw [hw, hv.canLay]
  rfl
theorem depth_word {w : Str} {v : V} {x : PyData} (hv : Lone v x) : (pdW w x).depth ≤ 2 := by
  show max 0 (max x.depth 0) + 1 ≤ 2
  rw [hv.depth]
  decide
theorem shaped_word {w : Str} {v : V} {x : PyData} (hw : PyData.canLay0 (.str w) = true) (hv : Lone v x) : SeqAt.shaped (pdW w x) = true := shaped_of (canLay_word hw hv) (Nat.le_trans (depth_word hv) (by decide))
theorem shaped_said {w : Str} {v : V} {x : PyData} (hw : PyData.canLay0 (.str w) = true) (hv : Lone v x) (n : Nat) : SeqAt.shaped (.list (List.replicate n (pdW w x))) = true := by
  refine shaped_of (canLay_rep (canLay_word hw hv) n) ?_
  have := depth_rep (d := pdW w x) (m := 2) (depth_word hv) n
  show PyData.depthAll _ + 1 ≤ 64
  omega
theorem flat_one {v : V} : ∀ n : Nat, (List.replicate n [v]).flatten = List.replicate n v
  | 0 => rfl
  | n + 1 => by
    rw [List.replicate_succ, List.flatten_cons, flat_one n]
    rfl
/-- the other side: n times one pair -/
theorem dp_saidR {K : PySem.W.Frag} {H : Hp} {D t : Addr} {n : Nat} {w : Str} {v : V} {x : PyData} (hD : H D = some (.lst (List.replicate n [V.ref t]).flatten)) (ht : H t = some (.tup [.str w, v])) (hv : Lone v x) : Dp K H (.ref D) (.list (List.replicate n (pdW w x))) := by
  rw [flat_one] at hD
  exact dp_said hD List.length_replicate (fun r hr => ⟨t, List.eq_of_mem_replicate hr, ht⟩) hv
theorem ne_said {w : Str} {v : V} {x : PyData} (hw : PyData.canLay0 (.str w) = true) (hv : Lone v x) (n : Nat) : V.bl (!PyData.eqv (.list (List.replicate n (pdW w x))) (.list (List.replicate n (pdW w x)))) = V.bl false := by
  rw [eqv_same (shaped_said hw hv n)]
  rfl
theorem ne_word {w : Str} {v : V} {x : PyData} (hw : PyData.canLay0 (.str w) = true) (hv : Lone v x) : V.bl (!PyData.eqv (pdW w x) (pdW w x)) = V.bl false := by
  rw [eqv_same (shaped_word hw hv)]
  rfl
end L2
namespace L2
open PySem PySem.Spec PyProof.Rows LamX
theorem take_int {ns : List Int} {at_ j : Nat} {odd : V} {rest : List V} {y : V} (ha : at_ ≤ ns.length) (hj : j < at_) (hy : ((ns.map V.int).take at_ ++ odd :: rest)[j]? = some y) : ∃ z, y = .int z := by
  rw [List.getElem?_append_left (by rw [List.length_take, List.length_map]; omega), List.getElem?_take_of_lt hj, List.getElem?_map] at hy
  cases e : ns[j]? with
  | none => rw [e] at hy; cases hy
  | some z => rw [e] at hy; exact ⟨z, (Option.some.inj hy).symm⟩
/-- one thing put in that is no whole number -/
theorem keys_put {H : Hp} {p : Addr} {ns : List Int} {at_ : Nat} {odd : V} {To : String} {rest xs : List V} {lo hi : Int} (h : RowAt H p xs) (e : xs = (ns.map V.int).take at_ ++ odd :: rest) (ha : at_ ≤ ns.length) (h0 : lo ≤ 0) (hl : ((at_ + rest.length + 1 : Nat) : Int) ≤ hi) (ho : AnyV H odd To) (hi_ : isI odd = false) : KeysQ H (.ref p) lo hi (some (at_ : Int)) := by
  subst e
  have lt : ((ns.map V.int).take at_).length = at_ := by rw [List.length_take, List.length_map]; omega
  refine .item rfl h ?_ (x := odd) ?_ ⟨To, ho, hi_.symm⟩ fun j y hj hy => ?_
  · rw [List.length_append, lt, List.length_cons]
    omega
  · rw [List.getElem?_append_right (by omega), lt, Nat.sub_self]
    rfl
  · obtain ⟨z, rfl⟩ := take_int ha hj hy
    exact ⟨_, .int z, rfl⟩
theorem keys_rep {H : Hp} {p : Addr} {k : Nat} {i : Int} (h : RowAt H p (List.replicate k (V.int i))) (hk : 2000 < k) : KeysQ H (.ref p) 0 2000 (some (-1)) := .len rfl h (by rw [List.length_replicate]; omega)
end L2
namespace L2
open PySem PySem.Spec PyProof.Rows LamX
/-- which error a call lets out, by its class, field and word -/
def EErr (L : List (Addr × Str × Str)) (Q : VK) : XK := fun cls d H' => ∃ dx C f w v, d = some dx ∧ (C, f, w) ∈ L ∧ cls = .ref C ∧ H' dx = some (.xd [(f, v)]) ∧ ∀ t H'', Same H' H'' → H'' t = some (.tup [.str w, v]) → Q (.ref t) H''
theorem eErr {L : List (Addr × Str × Str)} {Q : VK} {C : Addr} {f w : Str} {v : V} {H : Hp} (h : (C, f, w) ∈ L) (q : ∀ t H', Same H H' → H' t = some (.tup [.str w, v]) → Q (.ref t) H') : Rz (EErr L Q) H C f v := fun dx H' s _ e => ⟨dx, C, f, w, v, rfl, h, rfl, e, fun t H'' s2 ht => q t H'' (s.trans s2) ht⟩
/-- .. and what is told if none comes -/
def TTerr (L : List (Addr × Str × Str)) (end_ : V) : (XK → Hp → VK → Prop) → Hp → VK → Prop := fun tl H Q => tl (EErr L Q) H fun _ H' => Q end_ H'
/-- an answer, or none -/
def okBool (H : Hp) (v : V) (b : Bool) : Prop := ∃ T, AnyV H v T ∧ b = decide (T = "bool")
theorem okBool.ext {H H' : Hp} {v : V} {b : Bool} (e : ExtN H H') (h : okBool H v b) : okBool H' v b := h.imp fun _ h => ⟨h.1.ext e, h.2⟩
abbrev AnsQ := RowQ okBool
theorem ansExt {H H' : Hp} {v : V} {lo hi : Int} {r : Option Int} (e : ExtN H H') (h : AnsQ H v lo hi r) : AnsQ H' v lo hi r := RowQ.ext (ok := okBool) (fun {H1 H2 v b} e h => okBool.ext (H := H1) (H' := H2) (v := v) (b := b) e h) e h
theorem AnyV.kitBool {K : PySem.W.Frag} {H : Hp} {v : V} {T : String} (h : AnyV H v T) : PySem.W.kitOne K (.type T) (.type "bool") = some (decide (T = "bool")) := by
  cases h <;> exact kit_ty (by decide +kernel)
end L2

/-! lambdas that stand in lists, called one by one in a comprehension of the def that made them -/
namespace L2
open PySem PySem.Spec PyProof.Rows PySem.W LamX
/-- at f stands a lambda of X's text: t is what its body does -/
def LamRun (X : Cx) (k : Nat) (t : XK → TE) (f : Addr) (H : Hp) : Prop := ∃ params body scope, LamAt H f (lamD X params body scope) ∧ LamGood X k params body scope t
theorem LamRun.ext {X : Cx} {k : Nat} {t : XK → TE} {f : Addr} {H H' : Hp} (e : ExtN H H') (h : LamRun X k t f H) : LamRun X k t f H' := by
  obtain ⟨a, b, c, h1, h2⟩ := h
  exact ⟨a, b, c, h1.ext e, h2⟩
def tLamR (X : Cx) (k : Nat) (T : List (Addr × Str)) (t : XK → TE) : TE := fun σ H Q => Tabs T H ∧ ∀ (H1 : Hp) (f : Addr), ExtN H H1 → Tabs T H1 → LamRun X k t f H1 → Q (.ref f) H1
section
variable {X : Cx}
theorem pe_lamR {k : Nat} {T : List (Addr × Str)} {c P : Addr} {params : Arguments} {body : Expr} {scope : Scope} {pos : Pos} {t : XK → TE} (TB : TabB X.base X.mg c P) (hcode : X.env.code = .ref c) (hmT : (P, X.env.qual ++ "<lambda>") ∈ T) (hu : ∀ p ∈ T, p.1 = P → p.2 = X.env.qual ++ "<lambda>")
    (hfree : ∀ y ∈ scope.names, y.2 = .free → X.env.scope.names.lookup y.1 = some .cell ∨ X.env.scope.names.lookup y.1 = some .free)
    (hk0 : params.kw_defaults = []) (hdef : params.defaults = [] ∨ ∃ j pc, params.defaults = [.Constant (.int 0) j pc]) (LG : LamGood X k params body scope t) : PE X (.Lambda params body scope pos) (tLamR X k T t) :=
  ⟨fun pins s σ H Q I h => (pe_lamO TB hcode hmT hu hfree hk0 hdef).run pins s σ H Q I ⟨h.1, fun H1 f e1 T1 _ hL => h.2 H1 f e1 T1 ⟨_, _, _, hL, LG⟩⟩⟩
/-- x(e), e a kept lambda of this def -/
theorem pe_callLamR {TT : (XK → Hp → VK → Prop) → Hp → VK → Prop} {x a : Str} {st : Stmt} {g : Addr} {k : Nat} {fd : FuncData} {Ng : List Str} {e : Expr} {te : TE} {p pos : Pos}
    (F : Fun X.K x x st g fd) (hg : Gl X x) (hm : X.mg x = some (.ref g)) (hk : PySem.W.keepIn X.K (.ref g) = true) (hb : L2.Binds X.K fd [a] []) (Sg : FnScope Ng [a] (defScope st)) (hNg : Ng[0]? = some a) (hva : Vis (defScope st) a)
    (hG : GivesTo1 X.prog X.w X.K X.mg X.base (k + 1) Ng x (defScope st) g (defBody st) a TT) (hr : Room (k + 2) X.A) (he : PE X e te)
    (hst : starEach [e] X.env = (false, eval e X.env) :: starEach [] X.env := by rfl) (hpl : (backTo pos (starEach [] X.env)).any (·.1) = false := by rfl)
    (hdb : (x == ("__debug__" : Str)) = false := by decide) (hd : (a == ("__debug__" : Str)) = false := by decide) (hcd : (a == ("__classdict__" : Str)) = false := by decide) :
    PE X (.Call (.Name x p) [e] [] pos) (fun σ H Q => te σ H fun v H1 => ∃ f t, v = .ref f ∧ LamRun X k t f H1 ∧ TT (fun E H' Q' => t E σ H' Q') H1 Q) := by
  refine ⟨fun pins s σ H Q I h => ?_⟩
  refine wpAny_Call_Name_kw (ld_glob I hg hm ?_ hdb)
  refine PySem.W.callWith_K (h₀ := X.base) I.ok.mod.kin hk ?_ hst hpl
  refine thn ((pa_cons he pa_nil hst).run pos pins s σ H (fun vs H1 => match vs with | [v] => ∃ f t, v = .ref f ∧ LamRun X k t f H1 ∧ TT (fun E H' Q' => t E σ H' Q') H1 Q | _ => False) I h) fun us s1 ⟨vs, H1, I1, r, q⟩ => ?_
  match vs, q, r with
  | [v], q, r =>
  obtain ⟨f, t, rfl, ⟨params, body, scope, hL, LG⟩, q⟩ := q
  obtain rfl := Vals.ref1 r
  refine ⟨I1.kIn, wpAny_call (codeAny_mono (run_lamO F hb Sg hNg hva hG LG hr I1 hL q hd hcd) fun r s2 hq => ?_)⟩
  cases r with
  | error e => exact (show False from hq).elim
  | ok fl =>
    cases fl with
    | ret u => exact I1.after hq
    | next => exact False.elim hq
    | brk => exact False.elim hq
    | cont => exact False.elim hq
/-- what a block's turns know: the def that waits, and the walk's own objects -/
structure Held0 (X : Cx) (pins : List (Addr × Obj)) (σ : L2.St) (H : Hp) (s : Shared) (fp : List Addr) : Prop where
  inv : Inv X pins σ H s
  fps : ∀ b ∈ fp, FpOk X pins H b ∧ b < s.heap.objs.size
theorem Held0.back {pins : List (Addr × Obj)} {σ : L2.St} {H H' : Hp} {s s' : Shared} {fp : List Addr} {scope : Scope} {ce : Env} {pins' : List (Addr × Obj)} {σ' : L2.St} (B : Held0 X pins σ H s fp) (I : Inv (X.blk s H scope ce fp) pins' σ' H' s') : Inv X pins σ H' s' :=
  B.inv.call' (ch := fp) I.os I.base I.hok I.bare fun b hb => ⟨(B.fps b hb).1.2.2.2.1, (B.fps b hb).1.2.1, (B.fps b hb).1.2.2.2.2.1, (B.fps b hb).1.2.2.2.2.2⟩
/-- .. in a comprehension's block -/
abbrev tLamB (X : Cx) (k : Nat) (TT : (XK → Hp → VK → Prop) → Hp → VK → Prop) (σ : L2.St) (te : TE) : TE := fun σB HB Q => te σB HB fun v H1 => ∃ f t, v = .ref f ∧ LamRun X k t f H1 ∧ TT (fun E H' Q' => t E σ H' Q') H1 Q
theorem pe_callLamB {TT : (XK → Hp → VK → Prop) → Hp → VK → Prop} {x a : Str} {st : Stmt} {g : Addr} {k : Nat} {fd : FuncData} {Ng : List Str} {e : Expr} {te : TE} {p pos : Pos} {pins : List (Addr × Obj)} {σ : L2.St} {H : Hp} {s : Shared} {fp : List Addr} {scope : Scope} {ce : Env}
    (B : Held0 X pins σ H s fp) (F : Fun X.K x x st g fd) (hg : Gl (X.blk s H scope ce fp) x) (hm : X.mg x = some (.ref g)) (hk : PySem.W.keepIn X.K (.ref g) = true) (hb : L2.Binds X.K fd [a] []) (Sg : FnScope Ng [a] (defScope st)) (hNg : Ng[0]? = some a) (hva : Vis (defScope st) a)
    (hG : GivesTo1 X.prog X.w X.K X.mg X.base (k + 1) Ng x (defScope st) g (defBody st) a TT) (hr : Room (k + 2) X.A) (he : PE (X.blk s H scope ce fp) e te)
    (hst : starEach [e] ce = (false, eval e ce) :: starEach [] ce := by rfl) (hpl : (backTo pos (starEach [] ce)).any (·.1) = false := by rfl)
    (hdb : (x == ("__debug__" : Str)) = false := by decide) (hd : (a == ("__debug__" : Str)) = false := by decide) (hcd : (a == ("__classdict__" : Str)) = false := by decide) :
    PE (X.blk s H scope ce fp) (.Call (.Name x p) [e] [] pos) (tLamB X k TT σ te) := by
  refine ⟨fun pinsB sB σB HB Q IB h => ?_⟩
  refine wpAny_Call_Name_kw (ld_glob IB hg hm ?_ hdb)
  refine PySem.W.callWith_K (h₀ := X.base) IB.ok.mod.kin hk ?_ hst hpl
  refine thn ((pa_cons he pa_nil hst).run pos pinsB sB σB HB (fun vs H1 => match vs with | [v] => ∃ f t, v = .ref f ∧ LamRun X k t f H1 ∧ TT (fun E H' Q' => t E σ H' Q') H1 Q | _ => False) IB h) fun us s1 ⟨vs, H1, I1, r, q⟩ => ?_
  match vs, q, r with
  | [v], q, r =>
  obtain ⟨f, t, rfl, ⟨params, body, scope, hL, LG⟩, q⟩ := q
  obtain rfl := Vals.ref1 r
  have rc := run_lamO (X := X) F hb Sg hNg hva hG LG hr (B.back I1) hL q hd hcd
  refine ⟨I1.kIn, wpAny_call (codeAny_mono rc fun r s2 hq => ?_)⟩
  cases r with
  | error e => exact (show False from hq).elim
  | ok fl =>
    cases fl with
    | ret u => exact I1.after hq
    | next => exact False.elim hq
    | brk => exact False.elim hq
    | cont => exact False.elim hq
end
section
variable {X : Cx}
/-- a comprehension whose turns know the def that waits -/
theorem pe_lcH {elt tg iter : Expr} {scope : Scope} {own : List (Str × Nat)} {pos : Pos} {wi : TI} {g : TG} {te : L2.St → TE} (hc : X.calm = true) (hN : X.N.Nodup) (hi : PI X tg iter wi) (ok : BlkOk X.N X.env.scope scope own)
    (hg : ∀ (s : Shared) (H : Hp) (C : Addr) (cl : List (Str × Addr)) (fp : List Addr), PG (X.blk s H scope (compEnvC scope cl C X.env) fp) tg g)
    (he : ∀ (pins : List (Addr × Obj)) (σ : L2.St) (s : Shared) (H : Hp) (C : Addr) (cl : List (Str × Addr)) (fp : List Addr), Held0 X pins σ H s fp → PE (X.blk s H scope (compEnvC scope cl C X.env) fp) elt (te σ)) (hs : ∀ x, foldedSetIterable iter X.env x = pure x := by intro _; rfl) :
    PE X (.ListComp elt [⟨tg, iter, [], 0⟩] scope pos) (fun σ H Q => tLc wi g tYes (te σ) (own.map (·.2)) σ H Q) := by
  constructor
  intro pins s σ H Q I h
  have cells : ∀ y ∈ scope.names, y.2 = .free → ∃ c, X.env.cells.lookup y.1 = some c := fun y hy e => (ok.free y hy e).elim (fun k => I.ok.has _ (.inl k)) fun k => I.ok.has _ (.inr k)
  rw [eval_ListComp]
  refine wpAny_comprehension_free (use := none) rfl hs (closure_ok cells) ok.kind (fun y hy e => (ok.uniq y hy).trans (by rw [e])) (thn (hi.run pins s σ H _ I h) fun _ _ hx => thn hx fun _ s2 h2 => ?_)
  obtain ⟨it, fp, tn, J, H2, rfl, I2, T, st2, f2, q⟩ := h2
  refine wpAny_newObj_type (newEnv_comp ?_) (by show 0 ≤ sizeLine; decide)
  have nD : H2 s2.heap.objs.size = none := I2.hok.fresh (Nat.le_refl _)
  obtain ⟨W, ⟨m0, w0⟩, turn⟩ := q _ nD
  have I3 := I2.laid (t' := s2.toks) (h' := s2.heap.push { cls := .type "list", data := .seq ([] : List Value).toArray }) (a := s2.heap.objs.size) (o := .lst []) (fun b o e => Heap.get?_push_of_some _ e) (Nat.le_refl _) ⟨Nat.zero_le _, [], 0, .nil, Heap.get?_push_size _ rfl⟩
  have B3 : ∀ b ∈ fp, FpOk X pins (upd H2 s2.heap.objs.size (.lst [])) b ∧ b < (s2.heap.push { cls := .type "list", data := .seq ([] : List Value).toArray }).objs.size := fun b hb => by
    obtain ⟨o, e, _⟩ := T.obj _ _ st2 b hb
    have l := Heap.lt_size e
    exact ⟨⟨(upd_ne (Nat.ne_of_lt l)).trans (f2 b hb).1, (f2 b hb).2⟩, by rw [Heap.size_push]; exact Nat.lt_succ_of_lt l⟩
  have t3 : tn 0 (s2.heap.push { cls := .type "list", data := .seq ([] : List Value).toArray }) := T.keep _ _ _ st2 fun b _ o e => Heap.get?_push_of_some _ e
  generalize hs3 : ({ s2 with heap := s2.heap.push { cls := .type "list", data := .seq ([] : List Value).toArray } } : Shared) = s3 at I3
  have e3 : s3.heap = s2.heap.push { cls := .type "list", data := .seq ([] : List Value).toArray } := by rw [← hs3]
  rw [← e3] at B3 t3
  generalize hDD : s2.heap.objs.size = D at nD w0 turn I3 B3 ⊢
  generalize hH3 : upd H2 D (.lst []) = H3 at I3 B3 w0
  have HB : Held0 X pins σ H3 s3 fp := ⟨I3, B3⟩
  have I4 := block_start I3 ok hN B3
  have pg := hg s3 H3 s3.heap.objs.size (cellsFrom (s3.heap.objs.size + 1) scope.names (cloFrom X.env.cells scope.names [])) fp
  have pe := he pins σ s3 H3 s3.heap.objs.size (cellsFrom (s3.heap.objs.size + 1) scope.names (cloFrom X.env.cells scope.names [])) fp HB
  show codeAny _ _ (.compStart (.ListComp elt [⟨tg, iter, [], 0⟩] scope pos) 0 (.ref it) (.ref D) (compEnvC scope (cellsFrom (s3.heap.objs.size + 1) scope.names (cloFrom X.env.cells scope.names [])) s3.heap.objs.size X.env)) (compPost (model X.prog X.w) X.A X.xe none _ (.ref D) s3.heap.objs.size) { s3 with heap := pushCells (s3.heap.push { cls := .type "dict", data := .dict #[] }) scope.names }
  generalize hce : compEnvC scope (cellsFrom (s3.heap.objs.size + 1) scope.names (cloFrom X.env.cells scope.names [])) s3.heap.objs.size X.env = ce at I4 pg pe ⊢
  have cL : ce.locals = s3.heap.objs.size := by rw [← hce]; rfl
  have t4 : tn 0 (pushCells (s3.heap.push { cls := .type "dict", data := .dict #[] }) scope.names) := T.keep _ _ _ t3 fun b _ o e => pushCells_keeps _ _ _ _ (Heap.get?_push_of_some _ e)
  generalize hs4 : ({ s3 with heap := pushCells (s3.heap.push { cls := .type "dict", data := .dict #[] }) scope.names } : Shared) = s4 at I4 ⊢
  have t4 : tn 0 s4.heap := by rw [← hs4]; exact t4
  have stay : ∀ {σ' : L2.St} {H' : Hp} {s' : Shared}, Inv (X.blk s3 H3 scope ce fp) [] σ' H' s' → (∀ b ∈ fp, H' b = none) → ∀ b ∈ fp, FpOk (X.blk s3 H3 scope ce fp) [] H' b := fun {σ' H' s'} I' hn b hb =>
    ⟨hn b hb, (I'.ok.exf b hb).1, I'.ok.exfs b hb, .inl hb, fun x c e => (I'.ok.exf b hb).2 x c e, fun p hp => absurd (show p ∈ ([] : List (Addr × Obj)) ++ [] from hp) (by simp)⟩
  have go : codeAny (model X.prog X.w) X.A (.compLoop (.ListComp elt [⟨tg, iter, [], 0⟩] scope pos) 0 (.ref it) (.ref D) ce) (compPost (model X.prog X.w) X.A X.xe none (EP X pins σ Q) (.ref D) s3.heap.objs.size) s4 := by
    refine compLoop_any (fun n s' => ∃ i H', Inv (X.blk s3 H3 scope ce fp) [] (wipe σ (own.map (·.2))) H' s' ∧ tn i s'.heap ∧ (∀ b ∈ fp, H' b = none) ∧ W i n H') (fun n s5 => ?_) m0 ⟨0, H3, I4, t4, fun b hb => (B3 b hb).1.1, w0⟩
    rintro ⟨i, H5, I5, t5, n5, w5⟩
    rcases turn i n H5 w5 with ⟨stop, done⟩ | ⟨go, Nx, hNx, step⟩
    · refine thnF (T.done (X.blk s3 H3 scope ce fp) rfl rfl rfl hc i [] s5 _ H5 (fun _ _ => False) I5 (stay I5 n5) t5 stop) fun r s6 ⟨hr, I6⟩ => ?_
      subst hr
      have I7 := HB.back I6
      have nC : H5 s3.heap.objs.size = none := cL ▸ (show H5 ce.locals = none from I6.free)
      obtain ⟨m, hn, _⟩ := I6.loc
      have hn : s6.heap.Ns ce.locals m := hn
      rw [cL] at hn
      obtain ⟨k0, k1, k2, k3, k4, k5⟩ := I3.fpOk (Nat.le_refl _) nC
      exact ⟨m, hn, fun h' sb => ⟨.ref D, H5, I7.turned (t' := s6.toks) (fun b o hb e => (sb.2 b hb).trans e) k0 k1 k3 k4 k5, rfl, done⟩⟩
    · refine thnF (T.item (X.blk s3 H3 scope ce fp) rfl rfl rfl hc i [] s5 _ H5 (fun _ _ => False) I5 (stay I5 n5) t5 go) fun r s6 ⟨u, hr, h6⟩ => ?_
      subst hr
      refine thnF h6 fun _ s7 ⟨x, H7, I7, r7, y7, t7, n7⟩ => ?_
      refine thnF (pg.run _ s7 _ H7 x u _ (I7.pinned (stay I7 n7) (T.obj _ _ t7)) r7 (step x H7 y7)) fun _ s8 ⟨σ8, H8, I8, hw8, q8⟩ => ?_
      refine thnF ((pts_nil (X := X.blk s3 H3 scope ce fp)).run _ s8 σ8 H8 _ I8 q8) fun b s9 ⟨H9, I9, q9⟩ => ?_
      have fin : ∀ {s' : Shared} {H' : Hp}, Inv (X.blk s3 H3 scope ce fp) ([] ++ pinsAt fp s7.heap) σ8 H' s' → Nx H' → ∃ m, m < n ∧ ∃ i H', Inv (X.blk s3 H3 scope ce fp) [] (wipe σ (own.map (·.2))) H' s' ∧ tn i s'.heap ∧ (∀ b ∈ fp, H' b = none) ∧ W i m H' := fun {s' H'} I' nx => by
        obtain ⟨m', hm, w'⟩ := hNx H' nx
        have pin : ∀ b ∈ fp, ∀ o, s7.heap.get? b = some o → s'.heap.get? b = some o ∧ H' b = none := fun b hb o e => ⟨(I'.pin (b, o) (List.mem_append_right _ (List.mem_append_right _ (mem_pinsAt hb e)))).1, (I'.pin (b, o) (List.mem_append_right _ (List.mem_append_right _ (mem_pinsAt hb e)))).2.1⟩
        refine ⟨m', hm, i + 1, H', (I'.unpinned (pins := [])).weak ?_ (fun j v e => ?_), T.keep _ _ _ t7 fun b hb o e => (pin b hb o e).1, fun b hb => ?_, w'⟩
        · rw [← hw8, wipe_length]
        · rw [← hw8] at e
          exact (wipe_some e).1
        · obtain ⟨o, e, _⟩ := T.obj _ _ t7 b hb
          exact (pin b hb o e).2
      cases b with
      | false =>
        simp only [Bool.false_eq_true, if_false] at q9 ⊢
        exact fin I9 q9
      | true =>
        simp only [if_true] at q9 ⊢
        refine thnF (pe.run _ s9 σ8 H9 _ I9 q9) fun z s10 ⟨yv, H10, I10, r10, acc, hD10, hz10, nx⟩ => ?_
        exact app_ok (X := X.blk s3 H3 scope ce fp) I10 hD10 hz10 r10 fun s11 I11 => fin I11 nx
  exact codeAny_compStart_list go (T.self X.A 0 _ _ _ t4 go)
end
end L2
namespace L2
open PySem PySem.Spec PyProof.Rows PySem.W LamX
theorem tabsPut {TT : List (Addr × Str)} {H : Hp} {D : Addr} {xs : List V} {o : HO} (t : Tabs TT H) (hs : H D = some (.lst xs)) : Tabs TT (upd H D o) := fun p hp => by
  obtain ⟨ps, h1, h2, h3⟩ := t p hp
  refine ⟨ps, ?_, h2, fun pos cv hc => ?_⟩
  · rw [upd_ne (fun e => by rw [e, hs] at h1; cases h1)]
    exact h1
  · obtain ⟨c, e1, e2⟩ := h3 pos cv hc
    refine ⟨c, e1, ?_⟩
    rw [upd_ne (fun e => ?_)]
    · exact e2
    · rw [e, hs] at e2
      have e3 := Option.some.inj e2
      unfold LamX.CodeO at e3
      cases e3
theorem LamRun.put {X : Cx} {k : Nat} {t : XK → TE} {f : Addr} {H : Hp} {D : Addr} {xs : List V} {o : HO} (h : LamRun X k t f H) (h4 : H D = some (.lst xs)) : LamRun X k t f (upd H D o) := by
  obtain ⟨p1, p2, p3, ⟨c', dV, z1, z2, z3⟩, z4⟩ := h
  have nf : ∀ {b : Addr} {q : HO}, H b = some q → (∀ xs, q ≠ .lst xs) → upd H D o b = some q := fun {b q} h n => by
    rw [upd_ne (fun q => by rw [q, h4] at h; exact n _ (Option.some.inj h).symm)]
    exact h
  exact ⟨p1, p2, p3, ⟨c', dV, nf z1 (fun xs y => by unfold FunO at y; cases y), nf z2 (fun xs y => by unfold LamX.CodeO at y; cases y), z3.imp id fun ⟨n, t0, y1, y2⟩ => ⟨n, t0, y1, nf y2 fun xs y => by cases y⟩⟩, z4⟩
/-- what calls have told so far, one by one -/
def SaidInv (T : List (Addr × Str)) (H5 : Hp) (D : Addr) (w : Str) (v : V) (i : Nat) (H' : Hp) : Prop := ExtN H5 H' ∧ Tabs T H' ∧ ∃ ts : List V, H' D = some (.lst ts) ∧ ts.length = i ∧ ∀ r ∈ ts, ∃ t, r = .ref t ∧ H' t = some (.tup [.str w, v])
theorem SaidInv.init {T : List (Addr × Str)} {H5 : Hp} {D : Addr} {w : Str} {v : V} (hD : H5 D = none) (T5 : Tabs T H5) : SaidInv T H5 D w v 0 (upd H5 D (.lst [])) := ⟨.of (same_upd hD), T5.ext (same_upd hD), [], upd_same, rfl, fun r h => by cases h⟩
theorem SaidInv.next {T : List (Addr × Str)} {H5 H' H'' : Hp} {D t : Addr} {w : Str} {v : V} {i : Nat} (h5 : H5 D = none) (I : SaidInv T H5 D w v i H') (e : ExtN H' H'') (T2 : Tabs T H'') (ht : H'' t = some (.tup [.str w, v])) (hi : i < 1000) : ∃ acc, H'' D = some (.lst acc) ∧ acc.length < sizeLine ∧ SaidInv T H5 D w v (i + 1) (upd H'' D (.lst (acc ++ [.ref t]))) := by
  obtain ⟨e1, _, ts, hD, lt, hts⟩ := I
  have hD2 := e _ _ hD fun ps z => by cases z
  have nD : ∀ {z : Addr}, H'' z = some (.tup [.str w, v]) → z ≠ D := fun h q => by rw [q, hD2] at h; cases h
  refine ⟨ts, hD2, Nat.lt_trans (by omega : ts.length < 1000) (by decide), fun b o h n => ?_, tabsPut T2 hD2, ts ++ [.ref t], upd_same, by rw [List.length_append, lt]; rfl, fun r hr => ?_⟩
  · rw [upd_ne (ne_of_none h h5)]
    exact e _ _ (e1 _ _ h n) n
  · rcases List.mem_append.mp hr with hr | hr
    · obtain ⟨z, rfl, hz⟩ := hts r hr
      have hz2 := e _ _ hz fun ps z => by cases z
      exact ⟨z, rfl, by rw [upd_ne (nD hz2)]; exact hz2⟩
    · rw [List.mem_singleton.mp hr]
      exact ⟨t, rfl, by rw [upd_ne (nD ht)]; exact ht⟩
theorem eq_said {w : Str} {v : V} {x : PyData} (hw : PyData.canLay0 (.str w) = true) (hv : Lone v x) (n : Nat) : V.bl (PyData.eqv (.list (List.replicate n (pdW w x))) (.list (List.replicate n (pdW w x)))) = V.bl true := by
  rw [eqv_same (shaped_said hw hv n)]
theorem eq_word {w : Str} {v : V} {x : PyData} (hw : PyData.canLay0 (.str w) = true) (hv : Lone v x) : V.bl (PyData.eqv (pdW w x) (pdW w x)) = V.bl true := by
  rw [eqv_same (shaped_word hw hv)]
end L2

/-! a comprehension of draws, each with a property -/
namespace L2
open PySem PySem.Spec PyProof.Rows
theorem lc_intsP {te : TE} {σ : L2.St} {H1 : Hp} {D p : Addr} {n j : Nat} {vs : List Nat} {Qd : Hp → Prop} (Pr : Int → Prop) (hn : n ≤ 1000000) (hs : Src H1 p) (hD : H1 D = none)
    (hw : ∀ v, wipe ((wipe σ vs).set j v) vs = wipe σ vs)
    (he : ∀ (k : Nat) (H3 : Hp) (R : VK), k < n → Dn p H1 H3 → (∀ (v : Int) (H4 : Hp), Pr v → Dn p H3 H4 → R (.int v) H4) → te ((wipe σ vs).set j (some (.int (0 + (k : Nat))))) H3 R)
    (hd : ∀ (ms : List Int) (H' : Hp), ms.length = n → (∀ v ∈ ms, Pr v) → Dn p H1 H' → H' D = some (.lst (ms.map V.int)) → Qd H') :
    ∃ W : Nat → Nat → Hp → Prop, (∃ m, W 0 m (L2.upd H1 D (.lst []))) ∧ ∀ i m H, W i m H →
      ((Itr 0 n).stop i H ∧ Qd H) ∨ ((Itr 0 n).go i H ∧ ∃ Nx : Hp → Prop, (∀ H', Nx H' → ∃ m', m' < m ∧ W (i + 1) m' H') ∧ ∀ x H', (Itr 0 n).yld i H x H' → gName j x (wipe σ vs) H' fun σ2 H2 => wipe σ2 vs = wipe σ vs ∧ tYes σ2 H2 fun b H3 =>
        if b = true then te σ2 H3 fun y H4 => ∃ acc, H4 D = some (.lst acc) ∧ acc.length < sizeLine ∧ Nx (L2.upd H4 D (.lst (acc ++ [y]))) else Nx H3) := by
  have nD : D ≠ p := hs.ne hD
  refine lc_range (lo := 0) (n := n) (fun i H => ∃ ms : List Int, ms.length = i ∧ (∀ v ∈ ms, Pr v) ∧ Dn p H1 H ∧ H D = some (.lst (ms.map V.int))) ⟨[], rfl, fun v h => by simp at h, (Dn.refl hs).new hD, upd_same⟩ ?_ ?_
  · rintro i H hi ⟨ms, hl, hp, dr, hh⟩
    refine ⟨hw _, ?_⟩
    refine he i H _ hi dr fun v H4 pv d4 => ?_
    have h4 := d4.1 _ _ nD hh
    refine ⟨_, h4, ?_, ms ++ [v], by simp [hl], fun z hz => ?_, ?_, ?_⟩
    · rw [List.length_map, hl]
      exact Nat.lt_of_le_of_lt (Nat.le_trans (Nat.le_of_lt hi) hn) (by decide)
    · rcases List.mem_append.mp hz with h | h
      · exact hp z h
      · rw [List.mem_singleton.mp h]
        exact pv
    · have dd := dr.trans d4
      refine ⟨fun b o nb e => ?_, dd.2.upd nD⟩
      rw [upd_ne (ne_of_none e hD)]
      exact dd.1 b o nb e
    · rw [show (ms ++ [v]).map V.int = ms.map V.int ++ [V.int v] from by simp]
      exact upd_same
  · rintro H ⟨ms, hl, hp, dr, hh⟩
    exact hd ms H hl hp dr hh
/-- tuple(x), whatever the frame is -/
def rTupOf (K : PySem.W.Frag) : List V → Hp → VK → Prop := fun xs H Q => ∃ p ys, xs = [V.ref p] ∧ ((SqL K H p ys ∧ ∀ l, H l = none → Q (.ref l) (upd H l (.tup ys))) ∨ (SqT K H p ys ∧ Q (.ref p) H))
theorem seqN {K : PySem.W.Frag} {H H' : Hp} {a : Addr} {xs : List V} (e : LamX.ExtN H H') (h : SqL K H a xs) : SqL K H' a xs := by
  rcases h with (h | ⟨o, h⟩) | h
  · exact .inl (.inl (e _ _ h fun ps z => by cases z))
  · exact .inl (.inr ⟨o, e _ _ h fun ps z => by cases z⟩)
  · exact .inr h
theorem lc_boolsD {te : TE} {σ : L2.St} {H1 : Hp} {D p : Addr} {n j : Nat} {vs : List Nat} {Qd : Hp → Prop} (hn : n ≤ 1000000) (hs : Src H1 p) (hD : H1 D = none)
    (hw : ∀ v, wipe ((wipe σ vs).set j v) vs = wipe σ vs)
    (he : ∀ (k : Nat) (H3 : Hp) (R : VK), k < n → Dn p H1 H3 → (∀ (v : Bool) (H4 : Hp), Dn p H3 H4 → R (.bl v) H4) → te ((wipe σ vs).set j (some (.int (0 + (k : Nat))))) H3 R)
    (hd : ∀ (ms : List Bool) (H' : Hp), ms.length = n → Dn p H1 H' → H' D = some (.lst (ms.map V.bl)) → Qd H') :
    ∃ W : Nat → Nat → Hp → Prop, (∃ m, W 0 m (L2.upd H1 D (.lst []))) ∧ ∀ i m H, W i m H →
      ((Itr 0 n).stop i H ∧ Qd H) ∨ ((Itr 0 n).go i H ∧ ∃ Nx : Hp → Prop, (∀ H', Nx H' → ∃ m', m' < m ∧ W (i + 1) m' H') ∧ ∀ x H', (Itr 0 n).yld i H x H' → gName j x (wipe σ vs) H' fun σ2 H2 => wipe σ2 vs = wipe σ vs ∧ tYes σ2 H2 fun b H3 =>
        if b = true then te σ2 H3 fun y H4 => ∃ acc, H4 D = some (.lst acc) ∧ acc.length < sizeLine ∧ Nx (L2.upd H4 D (.lst (acc ++ [y]))) else Nx H3) := by
  have nD : D ≠ p := hs.ne hD
  refine lc_range (lo := 0) (n := n) (fun i H => ∃ ms : List Bool, ms.length = i ∧ Dn p H1 H ∧ H D = some (.lst (ms.map V.bl))) ⟨[], rfl, (Dn.refl hs).new hD, upd_same⟩ ?_ ?_
  · rintro i H hi ⟨ms, hl, dr, hh⟩
    refine ⟨hw _, ?_⟩
    refine he i H _ hi dr fun v H4 d4 => ?_
    have h4 := d4.1 _ _ nD hh
    refine ⟨_, h4, ?_, ms ++ [v], by simp [hl], ?_, ?_⟩
    · rw [List.length_map, hl]
      exact Nat.lt_of_le_of_lt (Nat.le_trans (Nat.le_of_lt hi) hn) (by decide)
    · have dd := dr.trans d4
      refine ⟨fun b o nb e => ?_, dd.2.upd nD⟩
      rw [upd_ne (ne_of_none e hD)]
      exact dd.1 b o nb e
    · rw [show (ms ++ [v]).map V.bl = ms.map V.bl ++ [V.bl v] from by simp]
      exact upd_same
  · rintro H ⟨ms, hl, dr, hh⟩
    exact hd ms H hl dr hh
end L2

/-! readings of a row with something put in: xs[:i] + ys + xs[j:] -/
namespace L2
open PySem PySem.Spec PyProof.Rows LamX
section
variable {K : PySem.W.Frag} {σ : St} {H : Hp} {Q : VK}
/-- a part that is a number -/
def PartIs (σ : St) (t : TO) (o : Option Int) : Prop := ∀ H Q, Q o H → t σ H Q
theorem partNone : PartIs σ tNoPart none := fun _ _ q => q
theorem partVar {j : Nat} {i : Int} (h : σ[j]? = some (some (.int i))) : PartIs σ (tPart (tVar j)) (some i) := fun _ _ q => ⟨_, h, _, rfl, q⟩
/-- a slice of a list -/
theorem sl_go {i : Nat} {m : Addr} {xs : List V} {lo hi : TO} {l u : Option Int} (h1 : σ[i]? = some (some (.ref m))) (hm : H m = some (.lst xs)) (hl : PartIs σ lo l) (hu : PartIs σ hi u)
    (q : ∀ p H', H p = none → Same H H' → H' p = some (.lst (cutV xs l u)) → Q (.ref p) H') : tSl (rSlL K) (tVar i) lo hi σ H Q :=
  ⟨_, h1, hl _ _ (hu _ _ ⟨m, xs, rfl, L2.sq_of hm, fun p hp => q p _ hp (same_upd hp) upd_same⟩)⟩
/-- a displayed list of things that lie in the slots -/
def LstIs (σ : St) (t : TE) (ys : List V) : Prop := ∀ (H : Hp) (Q : VK), (∀ p H', Same H H' → H' p = some (.lst ys) → Q (.ref p) H') → t σ H Q
theorem cat_go {ta tb : TE} {xs ys : List V} {H : Hp} {Q : VK} (ha : ∀ Q1 : VK, (∀ p H', Same H H' → H' p = some (.lst xs) → Q1 (.ref p) H') → ta σ H Q1) (hb : ∀ (H1 : Hp) (Q1 : VK), Same H H1 → (∀ p H', Same H1 H' → H' p = some (.lst ys) → Q1 (.ref p) H') → tb σ H1 Q1)
    (sz : xs.length + ys.length ≤ sizeLine) (q : ∀ p H', H p = none → Same H H' → H' p = some (.lst (xs ++ ys)) → Q (.ref p) H') : tOp (rCatS K) ta tb σ H Q :=
  ha _ fun p1 H1 s1 k1 => hb H1 _ s1 fun p2 H2 s2 k2 => ⟨p1, p2, _, _, rfl, rfl, L2.sq_of (s2 _ _ k1), L2.sq_of k2, sz, fun p3 hp3 => q p3 _ ((s1.trans s2).free hp3) ((s1.trans s2).trans (same_upd hp3)) upd_same⟩
theorem cat3r {i : Nat} {m : Addr} {xs ys : List V} {k j : Nat} {tl : TE} {hi lo : TO} (h1 : σ[i]? = some (some (.ref m))) (hm : H m = some (.lst xs)) (hu : PartIs σ hi (some (k : Int))) (hlo : PartIs σ lo (some (j : Int))) (hl : ∀ (H1 : Hp) (Q1 : VK), Same H H1 → (∀ p H', Same H1 H' → H' p = some (.lst ys) → Q1 (.ref p) H') → tl σ H1 Q1)
    (sz : xs.length + ys.length + xs.length ≤ sizeLine) (q : ∀ p H', H p = none → Same H H' → H' p = some (.lst (xs.take k ++ ys ++ xs.drop j)) → Q (.ref p) H') :
    tOp (rCatS K) (tOp (rCatS K) (tSl (rSlL K) (tVar i) tNoPart hi) tl) (tSl (rSlL K) (tVar i) lo tNoPart) σ H Q := by
  have t1 : (xs.take k).length ≤ xs.length := by rw [List.length_take]; exact Nat.min_le_right _ _
  have t2 : (xs.drop j).length ≤ xs.length := by rw [List.length_drop]; exact Nat.sub_le _ _
  refine cat_go (xs := xs.take k ++ ys) (ys := xs.drop j) (fun Q1 q1 => cat_go (xs := xs.take k) (ys := ys) (fun Q2 q2 => sl_go h1 hm partNone hu fun p H' _ s e => q2 p H' s (by rw [← cut_take]; exact e)) (fun H1 Q2 s2 q2 => hl H1 Q2 s2 q2) (by omega) fun p H' _ => q1 p H')
    (fun H1 Q2 s1 q2 => sl_go h1 (s1 _ _ hm) hlo partNone fun p H' _ s e => q2 p H' s (by rw [← cut_drop]; exact e)) (by rw [List.length_append]; omega) q
theorem cat3 {i : Nat} {m : Addr} {xs ys : List V} {k j : Nat} {tl : TE} {hi lo : TO} (h1 : σ[i]? = some (some (.ref m))) (hm : H m = some (.lst xs)) (hu : PartIs σ hi (some (k : Int))) (hlo : PartIs σ lo (some (j : Int))) (hl : LstIs σ tl ys)
    (sz : xs.length + ys.length + xs.length ≤ sizeLine) (q : ∀ p H', H p = none → Same H H' → H' p = some (.lst (xs.take k ++ ys ++ xs.drop j)) → Q (.ref p) H') :
    tOp (rCatS K) (tOp (rCatS K) (tSl (rSlL K) (tVar i) tNoPart hi) tl) (tSl (rSlL K) (tVar i) lo tNoPart) σ H Q :=
  cat3r h1 hm hu hlo (fun H1 Q1 _ q1 => hl H1 Q1 q1) sz q
/-- xs + ys, xs a row in a slot -/
theorem cat2 {i : Nat} {m : Addr} {xs ys : List V} {tl : TE} (h1 : σ[i]? = some (some (.ref m))) (hm : H m = some (.lst xs)) (hl : LstIs σ tl ys) (sz : xs.length + ys.length ≤ sizeLine)
    (q : ∀ p H', H p = none → Same H H' → H' p = some (.lst (xs ++ ys)) → Q (.ref p) H') : tOp (rCatS K) (tVar i) tl σ H Q :=
  ⟨_, h1, hl _ _ fun p2 H2 s2 k2 => ⟨m, p2, _, _, rfl, rfl, L2.sq_of (s2 _ _ hm), L2.sq_of k2, sz, fun p3 hp3 => q p3 _ (s2.free hp3) (s2.trans (same_upd hp3)) upd_same⟩⟩
theorem lst1 {j : Nat} {v : V} (h : σ[j]? = some (some v)) : LstIs σ (tLst (tCons (tVar j) tNil)) [v] := fun H Q q => ⟨_, h, by show 1 ≤ sizeLine; decide, fun p hp => q p _ (same_upd hp) upd_same⟩
/-! ### displayed rows, item by item -/
def Stb (G : V → Hp → Prop) : Prop := ∀ v H H', Same H H' → G v H → G v H'
/-- each of the n things is one of G -/
def AllG (σ : St) (ta : TA) (G : V → Hp → Prop) (n : Nat) (H : Hp) : Prop := ∀ Q : List V → Hp → Prop, (∀ vs H', Same H H' → vs.length = n → (∀ y ∈ vs, G y H') → Q vs H') → ta σ H Q
def OneG (σ : St) (te : TE) (G : V → Hp → Prop) (H : Hp) : Prop := ∀ Q : VK, (∀ v H', Same H H' → G v H' → Q v H') → te σ H Q
theorem all_nil {G : V → Hp → Prop} {H : Hp} : AllG σ tNil G 0 H := fun Q q => q [] H (Same.refl H) rfl fun y hy => nomatch hy
theorem all_cons {G : V → Hp → Prop} (st : Stb G) {n : Nat} {te : TE} {ta : TA} {H : Hp} (h : OneG σ te G H) (t : ∀ H1, Same H H1 → AllG σ ta G n H1) : AllG σ (tCons te ta) G (n + 1) H := fun Q q =>
  h _ fun v H1 s1 g1 => t H1 s1 _ fun vs H2 s2 l2 g2 => q (v :: vs) H2 (s1.trans s2) (by rw [List.length_cons, l2]) fun y hy => by
    rcases List.mem_cons.mp hy with rfl | hy
    · exact st _ _ _ s2 g1
    · exact g2 y hy
theorem lst_all {G : V → Hp → Prop} (st : Stb G) {n : Nat} {ta : TA} (h : AllG σ ta G n H) (hn : n ≤ sizeLine) (q : ∀ p vs H', H p = none → Same H H' → H' p = some (.lst vs) → vs.length = n → (∀ y ∈ vs, G y H') → Q (.ref p) H') : tLst ta σ H Q :=
  h _ fun vs H1 s1 l1 g1 => ⟨by rw [l1]; exact hn, fun p hp => q p vs _ (s1.free hp) (s1.trans (same_upd hp)) upd_same l1 fun y hy => st _ _ _ (same_upd hp) (g1 y hy)⟩
theorem tup_all {G : V → Hp → Prop} (st : Stb G) {n : Nat} {ta : TA} (h : AllG σ ta G n H) (hn : n ≤ sizeLine) (q : ∀ p vs H', H p = none → Same H H' → H' p = some (.tup vs) → vs.length = n → (∀ y ∈ vs, G y H') → Q (.ref p) H') : tTup ta σ H Q :=
  h _ fun vs H1 s1 l1 g1 => ⟨by rw [l1]; exact hn, fun p hp => q p vs _ (s1.free hp) (s1.trans (same_upd hp)) upd_same l1 fun y hy => st _ _ _ (same_upd hp) (g1 y hy)⟩
/-- the same, each thing at its place told: what the row is, exactly -/
theorem lst_now {ta : TA} {xs : List V} (h : ∀ Q : List V → Hp → Prop, (∀ H', Same H H' → Q xs H') → ta σ H Q) (hn : xs.length ≤ sizeLine) (q : ∀ p H', Same H H' → H' p = some (.lst xs) → Q (.ref p) H') : tLst ta σ H Q :=
  h _ fun H1 s1 => ⟨hn, fun p hp => q p _ (s1.trans (same_upd hp)) upd_same⟩
theorem rep_of {te tn : TE} {xs : List V} {n : Int} (ht : ∀ Q1 : VK, (∀ p H', Same H H' → H' p = some (.lst xs) → Q1 (.ref p) H') → te σ H Q1) (hn : ∀ (H1 : Hp) (Q1 : VK), Q1 (.int n) H1 → tn σ H1 Q1) (h0 : 0 ≤ n) (h63 : n < 2 ^ 63) (sz : xs.length * n.toNat ≤ sizeLine)
    (q : ∀ p H', Same H H' → H' p = some (.lst (List.replicate n.toNat xs).flatten) → Q (.ref p) H') : tOp rRep te tn σ H Q :=
  ht _ fun p H1 s1 k1 => hn _ _ ⟨p, n, xs, rfl, rfl, k1, by omega, h63, sz, fun p2 hp => q p2 _ (s1.trans (same_upd hp)) upd_same⟩
/-- a pair: a thing, and where it is wrong -/
def PairG (R : V → Int → Hp → Prop) : V → Hp → Prop := fun y H => ∃ t v i, y = .ref t ∧ H t = some (.tup [v, .int i]) ∧ R v i H
theorem pair_stb {R : V → Int → Hp → Prop} (st : ∀ v i H H', Same H H' → R v i H → R v i H') : Stb (PairG R) := fun y H H' s h => by
  obtain ⟨t, v, i, e, ht, r⟩ := h
  exact ⟨t, v, i, e, s _ _ ht, st _ _ _ _ s r⟩
theorem pair_one {R : V → Int → Hp → Prop} (st : ∀ v i H H', Same H H' → R v i H → R v i H') {te tb : TE} {i : Int} {H : Hp} (h : OneG σ te (fun v H => R v i H) H) (hb : ∀ (H1 : Hp) (Q1 : VK), Q1 (.int i) H1 → tb σ H1 Q1) : OneG σ (tTup (tCons te (tCons tb tNil))) (PairG R) H := fun Q q =>
  h _ fun v H1 s1 r1 => hb _ _ ⟨by show 2 ≤ sizeLine; decide, fun t ht => q _ _ (s1.trans (same_upd ht)) ⟨t, v, i, rfl, upd_same, st _ _ _ _ (same_upd ht) r1⟩⟩
theorem mem_rep {n : Nat} {xs : List V} {y : V} (h : y ∈ (List.replicate n xs).flatten) : y ∈ xs := by
  obtain ⟨l, hl, hy⟩ := List.mem_flatten.mp h
  rw [List.mem_replicate] at hl
  rw [hl.2] at hy
  exact hy
theorem len_rep {n : Nat} {xs : List V} : (List.replicate n xs).flatten.length = n * xs.length := by
  induction n with
  | zero => simp
  | succ n ih => rw [List.replicate_succ, List.flatten_cons, List.length_append, ih, Nat.succ_mul, Nat.add_comm]
theorem lst2 {j : Nat} {v : V} (h : σ[j]? = some (some v)) : LstIs σ (tLst (tCons (tVar j) (tCons (tC .non) tNil))) [v, .non] := fun H Q q => ⟨_, h, by show 2 ≤ sizeLine; decide, fun p hp => q p _ (same_upd hp) upd_same⟩
theorem ne_len {H : Hp} {p q : Addr} {xs ys : List V} (h : H p = some (.lst xs)) (g : H q = some (.lst ys)) (n : xs.length ≠ ys.length) : p ≠ q := fun e => by
  rw [e, g] at h
  cases h
  exact n rfl
/-- xs * n -/
theorem rep_go {i : Nat} {m : Addr} {xs : List V} {n : Int} {tn : TE} (h1 : σ[i]? = some (some (.ref m))) (hm : H m = some (.lst xs)) (hn : ∀ (H1 : Hp) (Q1 : VK), Q1 (.int n) H1 → tn σ H1 Q1) (h0 : 0 ≤ n) (h63 : n < 2 ^ 63) (sz : xs.length * n.toNat ≤ sizeLine)
    (q : ∀ p H', Same H H' → H' p = some (.lst (List.replicate n.toNat xs).flatten) → Q (.ref p) H') : tOp rRep (tVar i) tn σ H Q :=
  ⟨_, h1, hn _ _ ⟨m, n, xs, rfl, rfl, hm, by omega, h63, sz, fun p hp => q p _ (same_upd hp) upd_same⟩⟩
/-! ### what a source's drawing leaves -/
theorem any_dn {H H' : Hp} {p : Addr} {v : V} {T : String} (hs : Src H p) (d : Dn p H H') (h : AnyV H v T) : AnyV H' v T := by
  have g : ∀ {b : Addr} {o : HO}, H b = some o → (∀ xs, o ≠ .lst xs) → H' b = some o := fun {b o} e n => d.1 b o (fun z => by
    obtain ⟨x, y, z0, _, e2⟩ := hs
    rw [z, e2] at e
    cases e
    exact n _ rfl) e
  cases h with
  | non => exact .non
  | bl b => exact .bl b
  | int i => exact .int i
  | str x => exact .str x
  | @lst q xs h =>
    by_cases c : q = p
    · obtain ⟨x, y, z, _, e⟩ := d.2
      rw [c]
      exact .lst e
    · exact .lst (d.1 _ _ c h)
  | tup h => exact .tup (g h fun _ z => nomatch z)
  | dK h => exact .dK (g h fun _ z => nomatch z)
theorem row_dn {H H' : Hp} {p q : Addr} {xs : List V} (d : Dn p H H') (n : q ≠ p) (h : RowAt H q xs) : RowAt H' q xs := h.imp (d.1 _ _ n) (d.1 _ _ n)
theorem keys_dn {H H' : Hp} {p : Addr} {v : V} {lo hi : Int} {r : Option Int} (hs : Src H p) (d : Dn p H H') (n : v ≠ .ref p) (h : KeysQ H v lo hi r) : KeysQ H' v lo hi r := by
  have g : ∀ {x : V} {b : Bool}, okInt H x b → okInt H' x b := fun h => h.imp fun _ h => ⟨any_dn hs d h.1, h.2⟩
  cases h with
  | odd h n1 n2 => exact .odd (any_dn hs d h) n1 n2
  | len e1 h hl => exact .len e1 (row_dn d (fun z => n (by rw [e1, z])) h) hl
  | item e1 h hl hx bad good => exact .item e1 (row_dn d (fun z => n (by rw [e1, z])) h) hl hx (g bad) fun j y hj hy => g (good j y hj hy)
  | fine e1 h hl good => exact .fine e1 (row_dn d (fun z => n (by rw [e1, z])) h) hl fun j y hy => g (good j y hy)
/-! ### one construct at a time -/
theorem st_name {i : Nat} {v : V} {σ : St} {H : Hp} {Q : St → Hp → Prop} (h : Q (σ.set i (some v)) H) : gName i v σ H Q := h
theorem st_seq {t u : TS} {D : Ends} {σ : St} {H : Hp} (h : t { D with nx := u D } σ H) : tSeq t u D σ H := h
theorem st_asg {te : TE} {g : TG} {D : Ends} {σ : St} {H : Hp} (h : te σ H fun x H1 => g x σ H1 D.nx) : tAsg te g D σ H := h
theorem st_ret {te : TE} {D : Ends} {σ : St} {H : Hp} (h : te σ H D.rt) : tRet te D σ H := h
theorem st_op {r : R2} {ta tb : TE} {σ : St} {H : Hp} {Q : VK} (h : ta σ H fun x H1 => tb σ H1 fun y H2 => r x y H2 Q) : tOp r ta tb σ H Q := h
theorem st_call {sp : Sp} {dvs : List V} {E : XK} {t : TA} {σ : St} {H : Hp} {Q : VK} (h : t σ H fun vs H1 => sp (vs ++ dvs) H1 Q E) : tCall sp dvs E t σ H Q := h
theorem st_cb {r : List V → Hp → VK → Prop} {t : TA} {σ : St} {H : Hp} {Q : VK} (h : t σ H fun vs H1 => r vs H1 Q) : tCB r t σ H Q := h
theorem st_cons {ta : TE} {tr : TA} {σ : St} {H : Hp} {Q : List V → Hp → Prop} (h : ta σ H fun x H1 => tr σ H1 fun xs H2 => Q (x :: xs) H2) : tCons ta tr σ H Q := h
theorem st_lst {t : TA} {σ : St} {H : Hp} {Q : VK} (h : t σ H fun xs H1 => xs.length ≤ sizeLine ∧ ∀ p, H1 p = none → Q (.ref p) (upd H1 p (.lst xs))) : tLst t σ H Q := h
theorem st_tup {t : TA} {σ : St} {H : Hp} {Q : VK} (h : t σ H fun xs H1 => xs.length ≤ sizeLine ∧ ∀ p, H1 p = none → Q (.ref p) (upd H1 p (.tup xs))) : tTup t σ H Q := h
theorem st_expr {te : TE} {D : Ends} {σ : St} {H : Hp} (h : te σ H fun _ H1 => D.nx σ H1) : tDrop te D σ H := h
theorem st_next {D : Ends} {σ : St} {H : Hp} (h : D.nx σ H) : tNext D σ H := h
theorem st_if {c : TT} {t u : TS} {D : Ends} {σ : St} {H : Hp} (h : c σ H fun b H1 => if b = true then t D σ H1 else u D σ H1) : tIfS c t u D σ H := h
theorem st_or {t u : TT} {σ : St} {H : Hp} {Q : Bool → Hp → Prop} (h : t σ H fun c H1 => if c = true then Q true H1 else u σ H1 Q) : tOr t u σ H Q := h
theorem st_test {te : TE} {σ : St} {H : Hp} {Q : Bool → Hp → Prop} (h : te σ H fun x H' => ∃ k, x = .bl k ∧ Q k H') : tTest te σ H Q := h
theorem st_bm {K : PySem.W.Frag} {r : V → List V → Hp → VK → Prop} {i : Nat} {t : TA} {σ : St} {H : Hp} {Q : VK} {l : Addr} {xs : List V} (e : σ[i]? = some (some (.ref l))) (hl : H l = some (.lst xs)) (h : t σ H fun vs H1 => r (.ref l) vs H1 Q) : tBM K "list" r (tVar i) t σ H Q :=
  ⟨_, e, .inl ⟨rfl, _, L2.sq_of hl⟩, h⟩
theorem st_var {i : Nat} {v : V} {σ : St} {H : Hp} {Q : VK} (e : σ[i]? = some (some v)) (h : Q v H) : tVar i σ H Q := ⟨_, e, h⟩
end
end L2

/-! the whole sort's object: its fields as a record, reading and setting one -/
namespace L2
open PySem PySem.Spec PyProof.Rows LamX
structure SS where
  many : V
  turned : V
  row : V
  least : V
  stack : V
  pat : V
  start : V
  found : V
  length : V
  border : V
  machine : V
  work : V
  waiting : V
  log : V
  steps : V
  marks : V
def fldsL (S : SS) : List (Str × V) :=
  [("many", S.many), ("turned", S.turned), ("row", S.row), ("least", S.least), ("stack", S.stack), ("patience_between", S.pat), ("start", S.start), ("found", S.found), ("length", S.length), ("border", S.border), ("machine", S.machine), ("work", S.work), ("waiting", S.waiting), ("log", S.log), ("steps", S.steps), ("marks", S.marks)]
def SObj (C : Addr) (H : Hp) (x : Addr) (S : SS) : Prop := ∃ dx, H x = some (.ins C dx (fldsL S))
section
variable {K : PySem.W.Frag} {C : Addr} {σ : St} {H : Hp} {Q : VK} {x : Addr} {S : SS}
/-- a field of an object in a slot -/
theorem fld_go {i : Nat} {f : Str} {v : V} (e : σ[i]? = some (some (.ref x))) (h : SObj C H x S) (cl : Cls K C) (n : NoAttr K C f) (l : (fldsL S).lookup f = some v) (q : Q v H) : tFld K (tVar i) f σ H Q := by
  obtain ⟨dx, hx⟩ := h
  exact ⟨_, e, x, C, dx, _, v, rfl, hx, cl, n, l, q⟩
/-- a field of any object -/
theorem fld_any {te : TE} {f : Str} {v : V} {y C2 dx : Addr} {fs : List (Str × V)} (h : ∀ Q1 : VK, Q1 (.ref y) H → te σ H Q1) (hy : H y = some (.ins C2 dx fs)) (cl : Cls K C2) (n : NoAttr K C2 f) (l : fs.lookup f = some v) (q : Q v H) : tFld K te f σ H Q :=
  h _ ⟨y, C2, dx, fs, v, rfl, hy, cl, n, l, q⟩
/-- all but x stands -/
def But (x : Addr) (H H' : Hp) : Prop := ∀ b o, b ≠ x → H b = some o → H' b = some o
theorem But.put {x : Addr} {H : Hp} {o : HO} : But x H (upd H x o) := fun b o n h => by rw [upd_ne n]; exact h
theorem But.of {x : Addr} {H H' : Hp} (s : Same H H') : But x H H' := fun b o _ h => s b o h
theorem But.trans {x : Addr} {H H1 H2 : Hp} (a : But x H H1) (b : But x H1 H2) : But x H H2 := fun y o n h => b y o n (a y o n h)
theorem But.refl {x : Addr} {H : Hp} : But x H H := fun _ _ _ h => h
/-- the value has been found: a field is set to it -/
theorem put_go {i : Nat} {f : Str} {y : V} {Qn : Hp → Prop} (e : σ[i]? = some (some (.ref x))) (h : SObj C H x S) (cl : Cls K C) (n : NoAttr K C f) (S2 : SS) (eS : fldsL S2 = putF f y (fldsL S)) (q : ∀ H', SObj C H' x S2 → But x H H' → Qn H') :
    tVar i σ H (fun x' H2 => ∃ a C dx fs, x' = .ref a ∧ H2 a = some (.ins C dx fs) ∧ Cls K C ∧ NoAttr K C f ∧ fs.length < 1000 ∧ Qn (upd H2 a (.ins C dx (putF f y fs)))) := by
  obtain ⟨dx, hx⟩ := h
  refine ⟨_, e, x, C, dx, _, rfl, hx, cl, n, by show 16 < 1000; decide, ?_⟩
  rw [← eS]
  exact q _ ⟨dx, upd_same⟩ .put
theorem st_sfld {ta tv : TE} {f : Str} {D : Ends} (h : tv σ H fun y H1 => ta σ H1 fun x H2 => ∃ a C dx fs, x = .ref a ∧ H2 a = some (.ins C dx fs) ∧ Cls K C ∧ NoAttr K C f ∧ fs.length < 1000 ∧ D.nx σ (upd H2 a (.ins C dx (putF f y fs)))) : sFld K ta tv f D σ H := h
/-- a method of the object in a slot -/
theorem meth_go {i : Nat} {m : Str} {sp : Sp} {dvs : List V} {E : XK} {t : TA} (e : σ[i]? = some (some (.ref x))) (h : SObj C H x S) (l : (fldsL S).lookup m = none) (q : t σ H fun vs H2 => sp (.ref x :: (vs ++ dvs)) H2 Q E) : tMeth C m sp dvs E (tVar i) t σ H Q := by
  obtain ⟨dx, hx⟩ := h
  exact ⟨_, e, x, dx, _, rfl, hx, l, q⟩
theorem SObj.but {y : Addr} {H' : Hp} (h : SObj C H x S) (b : But y H H') (n : x ≠ y) : SObj C H' x S := h.imp fun _ z => b _ _ n z
theorem SObj.same {H' : Hp} (h : SObj C H x S) (b : Same H H') : SObj C H' x S := h.imp fun _ z => b _ _ z
theorem SObj.fr2 {m r : Addr} {H' : Hp} (h : SObj C H x S) (b : Fr2 m r H H') (n1 : x ≠ m) (n2 : x ≠ r) : SObj C H' x S := h.imp fun _ z => b _ _ n1 n2 z
end
/-- either of two readings -/
theorem pe_alt {X : Cx} {e : Expr} {t u : TE} (h1 : PE X e t) (h2 : PE X e u) : PE X e (fun σ H Q => t σ H Q ∨ u σ H Q) := ⟨fun pins s σ H Q I h => h.elim (h1.run pins s σ H Q I) (h2.run pins s σ H Q I)⟩
/-! ### the lists that a sort keeps -/
/-- a list of pairs of any things, at most k -/
def LogAt (H : Hp) (l : Addr) (k : Nat) : Prop := ∃ es, H l = some (.lst es) ∧ es.length = k ∧ ∀ e ∈ es, ∃ t v w, e = .ref t ∧ H t = some (.tup [v, w])
/-- a list of pieces' steps -/
def StepsAt (H : Hp) (l : Addr) (k : Nat) : Prop := ∃ es, H l = some (.lst es) ∧ es.length = k ∧ ∀ e ∈ es, ∃ (t : Addr) (a b c d : Int), e = .ref t ∧ H t = some (.tup [.str "piece", .int a, .int b, .int c, .int d])
def MarksAt (H : Hp) (l : Addr) (k : Nat) : Prop := ∃ es, H l = some (.lst es) ∧ es.length = k
theorem LogAt.mv {H H' : Hp} {l : Addr} {k : Nat} (h : LogAt H l k) (e : ∀ x, H l = some (.lst x) → H' l = some (.lst x)) (t : ∀ b xs, H b = some (.tup xs) → H' b = some (.tup xs)) : LogAt H' l k := by
  obtain ⟨es, h1, h2, h3⟩ := h
  exact ⟨es, e _ h1, h2, fun y hy => by obtain ⟨b, v, w, e1, e2⟩ := h3 y hy; exact ⟨b, v, w, e1, t _ _ e2⟩⟩
theorem StepsAt.mv {H H' : Hp} {l : Addr} {k : Nat} (h : StepsAt H l k) (e : ∀ x, H l = some (.lst x) → H' l = some (.lst x)) (t : ∀ b xs, H b = some (.tup xs) → H' b = some (.tup xs)) : StepsAt H' l k := by
  obtain ⟨es, h1, h2, h3⟩ := h
  exact ⟨es, e _ h1, h2, fun y hy => by obtain ⟨b, p, q, r, s, e1, e2⟩ := h3 y hy; exact ⟨b, p, q, r, s, e1, t _ _ e2⟩⟩
theorem MarksAt.mv {H H' : Hp} {l : Addr} {k : Nat} (h : MarksAt H l k) (e : ∀ x, H l = some (.lst x) → H' l = some (.lst x)) : MarksAt H' l k := h.imp fun es h => ⟨e _ h.1, h.2⟩
theorem LogAt.push {H : Hp} {l t : Addr} {k : Nat} {v w : V} {xs : List V} (h : LogAt H l k) (hl : H l = some (.lst xs)) (ht : H t = some (.tup [v, w])) : LogAt (upd H l (.lst (xs ++ [.ref t]))) l (k + 1) := by
  obtain ⟨es, h1, h2, h3⟩ := h
  obtain rfl : es = xs := by rw [h1] at hl; cases hl; rfl
  have nt : ∀ {b : Addr} {ys : List V}, H b = some (.tup ys) → b ≠ l := fun e z => by rw [z, h1] at e; cases e
  refine ⟨_, upd_same, by rw [List.length_append, h2]; rfl, fun e he => ?_⟩
  rcases List.mem_append.mp he with he | he
  · obtain ⟨b, v2, w2, e1, e2⟩ := h3 e he
    exact ⟨b, v2, w2, e1, by rw [upd_ne (nt e2)]; exact e2⟩
  · rw [List.mem_singleton.mp he]
    exact ⟨t, v, w, rfl, by rw [upd_ne (nt ht)]; exact ht⟩
theorem StepsAt.push {H : Hp} {l t : Addr} {k : Nat} {a b c d : Int} {xs : List V} (h : StepsAt H l k) (hl : H l = some (.lst xs)) (ht : H t = some (.tup [.str "piece", .int a, .int b, .int c, .int d])) : StepsAt (upd H l (.lst (xs ++ [.ref t]))) l (k + 1) := by
  obtain ⟨es, h1, h2, h3⟩ := h
  obtain rfl : es = xs := by rw [h1] at hl; cases hl; rfl
  have nt : ∀ {b : Addr} {ys : List V}, H b = some (.tup ys) → b ≠ l := fun e z => by rw [z, h1] at e; cases e
  refine ⟨_, upd_same, by rw [List.length_append, h2]; rfl, fun e he => ?_⟩
  rcases List.mem_append.mp he with he | he
  · obtain ⟨b2, p, q, r, s, e1, e2⟩ := h3 e he
    exact ⟨b2, p, q, r, s, e1, by rw [upd_ne (nt e2)]; exact e2⟩
  · rw [List.mem_singleton.mp he]
    exact ⟨t, a, b, c, d, rfl, by rw [upd_ne (nt ht)]; exact ht⟩
theorem MarksAt.push {H : Hp} {l t : Addr} {k : Nat} {xs : List V} (h : MarksAt H l k) (hl : H l = some (.lst xs)) : MarksAt (upd H l (.lst (xs ++ [.ref t]))) l (k + 1) := by
  obtain ⟨es, h1, h2⟩ := h
  obtain rfl : es = xs := by rw [h1] at hl; cases hl; rfl
  exact ⟨_, upd_same, by rw [List.length_append, h2]; rfl⟩
end L2

/-! stacks and joins as data -/
namespace L2
open PySem PySem.Spec PyProof.Rows
def lvD : Option Nat → PyData
  | none => .none
  | some n => .int (n : Int)
def pcD (c : Pc) : PyData := .tuple [.int (c.st : Int), .int (c.ln : Int), lvD c.lv]
def psD (ps : List Pc) : PyData := .list (ps.map pcD)
def rowsD (w : Nat) (ls : List Nat) (k : Nat) : PyData := .list ((List.range k).map fun i => psD (Pile.sts w ls (i + 1)).1)
def trD (j : Nat × Nat × Nat) : PyData := .tuple [.int (j.1 : Int), .int (j.2.1 : Int), .int (j.2.2 : Int)]
def trisD (js : List (Nat × Nat × Nat)) : PyData := .list (js.map trD)
def bothD (a b : List (Nat × Nat × Nat)) : PyData := .tuple [trisD a, trisD b]
section
variable {K : PySem.W.Frag} {H H0 : Hp}
theorem dp_pc {v : V} {c : Pc} (h : PcAt H v c) : Dp K H v (pcD c) := by
  obtain ⟨t, rfl, ht⟩ := h
  refine .tup (L2.st_of ht) (.cons (.int _) (.cons (.int _) (.cons ?_ .nil)))
  cases c.lv with
  | none => exact .non
  | some n => exact .int _
theorem dp_pcs {r : Addr} {ps : List Pc} (h : PcsAt H r ps) : Dp K H (.ref r) (psD ps) := by
  obtain ⟨ts, h1, h2, h3⟩ := h
  exact .lst (L2.sq_of h1) (dpAll_of pcD h2 fun i v c a b => dp_pc (h3 i v c a b))
theorem dp_rows {sk : Addr} {w k : Nat} {ls : List Nat} (h : RowsAt H0 H sk w ls k) : Dp K H (.ref sk) (rowsD w ls k) := by
  obtain ⟨ts, h1, h2, h3⟩ := h
  refine .lst (L2.sq_of h1) (dpAll_of _ (by rw [h2, List.length_range]) fun i v j a b => ?_)
  have hi : i < k := h2 ▸ (List.getElem?_eq_some_iff.mp a).1
  rw [List.getElem?_range hi] at b
  obtain rfl := Option.some.inj b
  obtain ⟨l, rfl, _, _, hl⟩ := h3 i v a
  exact dp_pcs hl
theorem dp_tris {l : Addr} {js : List (Nat × Nat × Nat)} (h : TrisAt H l js) : Dp K H (.ref l) (trisD js) := by
  obtain ⟨ts, h1, h2, h3⟩ := h
  refine .lst (L2.sq_of h1) (dpAll_of trD h2 fun i v j a b => ?_)
  obtain ⟨t, rfl, ht⟩ := h3 i v j a b
  exact .tup (L2.st_of ht) (.cons (.int _) (.cons (.int _) (.cons (.int _) .nil)))
theorem dp_both {t a b : Addr} {ja jb : List (Nat × Nat × Nat)} (ht : H t = some (.tup [.ref a, .ref b])) (ha : TrisAt H a ja) (hb : TrisAt H b jb) : Dp K H (.ref t) (bothD ja jb) := .tup (L2.st_of ht) (.cons (dp_tris ha) (.cons (dp_tris hb) .nil))
end
theorem lay_pc (c : Pc) : PyData.canLay0 (pcD c) = true := by
  unfold pcD
  cases c.lv <;> rfl
theorem dep_pc (c : Pc) : PyData.depth (pcD c) ≤ 1 := by
  unfold pcD
  cases c.lv <;> exact Nat.le_refl 1
theorem shaped_rows (w : Nat) (ls : List Nat) (k : Nat) : SeqAt.shaped (rowsD w ls k) = true := by
  refine shaped_of (canLay_of _ (fun i => ?_) _) ?_
  · exact canLay_of pcD lay_pc _
  · refine Nat.le_trans (Nat.add_le_add_right (depth_of _ (n := 2) (fun i => ?_) _) 1) (by decide)
    exact Nat.add_le_add_right (depth_of pcD dep_pc _) 1
theorem lay_tris (js : List (Nat × Nat × Nat)) : PyData.canLay0 (trisD js) = true := canLay_of trD (fun _ => rfl) js
theorem dep_tris (js : List (Nat × Nat × Nat)) : PyData.depth (trisD js) ≤ 2 := Nat.add_le_add_right (depth_of trD (n := 1) (fun _ => Nat.le_refl 1) js) 1
theorem shaped_both (a b : List (Nat × Nat × Nat)) : SeqAt.shaped (bothD a b) = true := by
  refine shaped_of ?_ ?_
  · show (PyData.canLay0 (trisD a) && (PyData.canLay0 (trisD b) && true)) = true
    rw [lay_tris, lay_tris]
    rfl
  · show max (PyData.depth (trisD a)) (max (PyData.depth (trisD b)) 0) + 1 ≤ 64
    have := dep_tris a
    have := dep_tris b
    omega
namespace Pile
def dl (ls : List Nat) : List Nat := (List.range ls.length).map fun i => (sts ls.sum ls (i + 1)).1.length
def dep (ls : List Nat) : Nat := (dl ls).foldr max 0
end Pile
theorem foldr_max {L : List Nat} {m : Int} (hm : m ∈ L.map fun n : Nat => (n : Int)) (h : ∀ y ∈ L.map (fun n : Nat => (n : Int)), y ≤ m) : m = ((L.foldr max 0 : Nat) : Int) := by
  have a1 : ∀ {L : List Nat} {n : Nat}, n ∈ L → n ≤ L.foldr max 0 := by
    intro L
    induction L with
    | nil => intro n h; simp at h
    | cons x L ih =>
      intro n h
      rcases List.mem_cons.mp h with rfl | h
      · exact Nat.le_max_left _ _
      · exact Nat.le_trans (ih h) (Nat.le_max_right _ _)
  have a2 : ∀ {L : List Nat} {M : Nat}, (∀ n ∈ L, n ≤ M) → L.foldr max 0 ≤ M := by
    intro L
    induction L with
    | nil => intro M _; exact Nat.zero_le _
    | cons x L ih =>
      intro M h
      exact Nat.max_le.mpr ⟨h x (List.mem_cons_self ..), ih fun n hn => h n (List.mem_cons_of_mem _ hn)⟩
  obtain ⟨n, hn, rfl⟩ := List.mem_map.mp hm
  have b1 := a1 hn
  have b2 : L.foldr max 0 ≤ n := a2 fun k hk => by
    have := h k (List.mem_map.mpr ⟨k, hk, rfl⟩)
    omega
  omega
end L2

/-! powers of two that fall: no join makes room -/
namespace L2
open PySem PySem.Spec PyProof.Rows
namespace Pile
def pw (n : Nat) : List Nat := (List.range n).map fun k => 2 ^ (n - 1 - k)
theorem pw_len (n : Nat) : (pw n).length = n := by
  unfold pw
  rw [List.length_map, List.length_range]
theorem pw_get {n k : Nat} (h : k < n) : (pw n).getD k 0 = 2 ^ (n - 1 - k) := by
  unfold pw
  rw [List.getD_eq_getElem?_getD, List.getElem?_map, List.getElem?_range h]
  rfl
theorem pw_stt {n : Nat} : ∀ k, k ≤ n → stt (pw n) k + 2 ^ (n - k) = 2 ^ n
  | 0, _ => by
    show 0 + 2 ^ (n - 0) = 2 ^ n
    rw [Nat.zero_add, Nat.sub_zero]
  | k + 1, h => by
    have ih := pw_stt (n := n) k (by omega)
    rw [stt_succ (by rw [pw_len]; omega), pw_get (by omega)]
    have e : (2 : Nat) ^ (n - k) = 2 * 2 ^ (n - (k + 1)) := by
      rw [show n - k = (n - (k + 1)) + 1 by omega, Nat.pow_succ, Nat.mul_comm]
    rw [show n - 1 - k = n - (k + 1) by omega]
    omega
theorem pw_pos {n : Nat} : ∀ l ∈ pw n, 1 ≤ l := fun l h => by
  obtain ⟨k, _, rfl⟩ := List.mem_map.mp h
  exact Nat.two_pow_pos _
theorem pw_sum (n : Nat) : (pw n).sum + 1 = 2 ^ n := by
  have h := pw_stt (n := n) n (Nat.le_refl _)
  rw [Nat.sub_self] at h
  have e : stt (pw n) n = (pw n).sum := by
    unfold stt
    rw [List.take_of_length_le (by rw [pw_len]; exact Nat.le_refl n)]
  omega
/-- both middles, out of the whole: alike in the first figures, not in the next one -/
theorem deep_figs {q p W m e : Nat} (hq : 1 ≤ q) (hp : 1 ≤ p) (hW : W + 2 = 8 * (q * p)) (hm : m + 6 * p = 8 * (q * p)) (he : e + 3 * p = 8 * (q * p)) : m * q / W = e * q / W ∧ m * (2 * q) / W ≠ e * (2 * q) / W := by
  obtain ⟨q, rfl⟩ : ∃ r, q = r + 1 := ⟨q - 1, by omega⟩
  obtain ⟨p, rfl⟩ : ∃ r, p = r + 1 := ⟨p - 1, by omega⟩
  have x1 : (q + 1) * (p + 1) = q * p + q + p + 1 := by rw [Nat.add_mul, Nat.mul_add]; omega
  rw [x1] at hW hm he
  have eW : W = 8 * (q * p) + 8 * q + 8 * p + 6 := by omega
  have em : m = 8 * (q * p) + 8 * q + 2 * p + 2 := by omega
  have ee : e = 8 * (q * p) + 8 * q + 5 * p + 5 := by omega
  have w0 : 0 < W := by omega
  have mq : m * q = 8 * (q * p * q) + 8 * (q * q) + 2 * (q * p) + 2 * q := by
    rw [em]
    simp only [Nat.add_mul]
    rw [Nat.mul_assoc 8, Nat.mul_assoc 8 q q, Nat.mul_assoc 2 p q, Nat.mul_comm p q]
  have eq : e * q = 8 * (q * p * q) + 8 * (q * q) + 5 * (q * p) + 5 * q := by
    rw [ee]
    simp only [Nat.add_mul]
    rw [Nat.mul_assoc 8, Nat.mul_assoc 8 q q, Nat.mul_assoc 5 p q, Nat.mul_comm p q]
  have qW : q * W = 8 * (q * p * q) + 8 * (q * q) + 8 * (q * p) + 6 * q := by
    rw [eW, Nat.mul_comm]
    simp only [Nat.add_mul]
    rw [Nat.mul_assoc 8, Nat.mul_assoc 8 q q, Nat.mul_assoc 8 p q, Nat.mul_comm p q]
  have d1 : m * (q + 1) / W = q := by
    refine (Nat.div_eq_iff w0).mpr ?_
    rw [Nat.mul_add, Nat.mul_one]
    constructor <;> omega
  have d2 : e * (q + 1) / W = q := by
    refine (Nat.div_eq_iff w0).mpr ?_
    rw [Nat.mul_add, Nat.mul_one]
    constructor <;> omega
  refine ⟨by rw [d1, d2], ?_⟩
  have t1 : m * (2 * (q + 1)) = 2 * (m * q) + 2 * m := by rw [show 2 * (q + 1) = 2 * q + 2 by omega, Nat.mul_add, Nat.mul_left_comm]; omega
  have t2 : e * (2 * (q + 1)) = 2 * (e * q) + 2 * e := by rw [show 2 * (q + 1) = 2 * q + 2 by omega, Nat.mul_add, Nat.mul_left_comm]; omega
  have l1 : m * (2 * (q + 1)) / W < 2 * q + 1 := by
    refine (Nat.div_lt_iff_lt_mul w0).mpr ?_
    rw [t1, Nat.add_mul, Nat.mul_assoc, Nat.one_mul]
    omega
  have l2 : 2 * q + 1 ≤ e * (2 * (q + 1)) / W := by
    refine (Nat.le_div_iff_mul_le w0).mpr ?_
    rw [t2, Nat.add_mul, Nat.mul_assoc, Nat.one_mul]
    omega
  omega
theorem deep_lev {n k : Nat} (h : k + 1 < n) : Lv.lev (2 * (pw n).sum) (2 * stt (pw n) k + (pw n).getD k 0) ((pw n).getD k 0 + (pw n).getD (k + 1) 0) = k + 1 := by
  have s1 := pw_stt (n := n) k (by omega)
  have s2 := pw_sum n
  rw [pw_get (by omega), pw_get (by omega)]
  have e0 : (2 : Nat) ^ n = 2 ^ k * 2 ^ (n - 1 - (k + 1)) * 4 := by
    rw [← Nat.pow_add, show (4 : Nat) = 2 ^ 2 from rfl, ← Nat.pow_add]
    congr 1
    omega
  have e1 : (2 : Nat) ^ (n - k) = 4 * 2 ^ (n - 1 - (k + 1)) := by
    rw [show n - k = (n - 1 - (k + 1)) + 2 by omega, Nat.pow_add, Nat.mul_comm]
  have e2 : (2 : Nat) ^ (n - 1 - k) = 2 * 2 ^ (n - 1 - (k + 1)) := by
    rw [show n - 1 - k = (n - 1 - (k + 1)) + 1 by omega, Nat.pow_succ, Nat.mul_comm]
  have q1 : 1 ≤ (2 : Nat) ^ k := Nat.two_pow_pos _
  have p1 : 1 ≤ (2 : Nat) ^ (n - 1 - (k + 1)) := Nat.two_pow_pos _
  rw [e2]
  have ek : (2 : Nat) ^ (k + 1) = 2 * 2 ^ k := by rw [Nat.pow_succ, Nat.mul_comm]
  have x1 : 2 ^ (n - 1 - (k + 1)) ≤ 2 ^ k * 2 ^ (n - 1 - (k + 1)) := Nat.le_mul_of_pos_left _ q1
  obtain ⟨f1, f2⟩ := deep_figs (q := 2 ^ k) (p := 2 ^ (n - 1 - (k + 1))) (W := 2 * (pw n).sum) (m := 2 * stt (pw n) k + 2 * 2 ^ (n - 1 - (k + 1))) (e := 2 * stt (pw n) k + 2 * 2 ^ (n - 1 - (k + 1)) + (2 * 2 ^ (n - 1 - (k + 1)) + 2 ^ (n - 1 - (k + 1)))) q1 p1 (by omega) (by omega) (by omega)
  rw [← ek] at f2
  have pos : 0 < 2 * 2 ^ (n - 1 - (k + 1)) + 2 ^ (n - 1 - (k + 1)) := by omega
  have lt : 2 * stt (pw n) k + 2 * 2 ^ (n - 1 - (k + 1)) + (2 * 2 ^ (n - 1 - (k + 1)) + 2 ^ (n - 1 - (k + 1))) < 2 * (pw n).sum := by omega
  obtain ⟨_, r2, _, r4, r5⟩ := Lv.lev_right pos lt
  generalize Lv.lev (2 * (pw n).sum) (2 * stt (pw n) k + 2 * 2 ^ (n - 1 - (k + 1))) (2 * 2 ^ (n - 1 - (k + 1)) + 2 ^ (n - 1 - (k + 1))) = v at r2 r4 r5 ⊢
  rcases Nat.lt_trichotomy v (k + 1) with c | c | c
  · refine absurd ?_ r5
    rw [Lv.fig_shift (F := k) (by omega), Lv.fig_shift (F := k) (c := v) (by omega)]
    exact congrArg (fun z => z / 2 ^ (k - v)) f1
  · exact c
  · exact absurd (r4 (k + 1) c) f2
def stk (n k : Nat) : List Pc := (List.range k).map fun i => ⟨stt (pw n) i, (pw n).getD i 0, if i + 1 < k then some (i + 1) else none⟩
theorem stk_len (n k : Nat) : (stk n k).length = k := by
  unfold stk
  rw [List.length_map, List.length_range]
theorem stk_get {n k i : Nat} (h : i < k) : (stk n k)[i]? = some ⟨stt (pw n) i, (pw n).getD i 0, if i + 1 < k then some (i + 1) else none⟩ := by
  unfold stk
  rw [List.getElem?_map, List.getElem?_range h]
  rfl
theorem deep_sts {n : Nat} : ∀ k, k ≤ n → sts (pw n).sum (pw n) k = (stk n k, [])
  | 0, _ => rfl
  | k + 1, h => by
    have ih := deep_sts (n := n) k (by omega)
    show step (pw n).sum (stt (pw n) k) (sts (pw n).sum (pw n) k) ((pw n).getD k 0) = _
    rw [ih]
    cases k with
    | zero => rfl
    | succ k =>
      have last : (stk n (k + 1)).getLast? = some ⟨stt (pw n) k, (pw n).getD k 0, none⟩ := by
        rw [List.getLast?_eq_getElem?, stk_len, Nat.add_sub_cancel, stk_get (Nat.lt_succ_self _), if_neg (Nat.lt_irrefl _)]
      have hb : brd (pw n).sum (stk n (k + 1)) ((pw n).getD (k + 1) 0) = some (k + 1) := by
        unfold brd
        rw [last]
        exact congrArg some (deep_lev h)
      have no : hasTo (stk n (k + 1)) (k + 1) = false := by
        unfold hasTo
        rw [stk_len]
        cases k with
        | zero => rfl
        | succ k =>
          rw [show k + 1 + 1 - 2 = k by omega, stk_get (by omega), if_pos (by omega)]
          exact decide_eq_false (by omega)
      unfold step
      show (match brd (pw n).sum (stk n (k + 1)) ((pw n).getD (k + 1) 0) with
        | none => _
        | some b => _) = _
      rw [hb]
      show (put (room (k + 1) (stk n (k + 1)).length (stk n (k + 1), [])).1 _ _ _, (room (k + 1) (stk n (k + 1)).length (stk n (k + 1), [])).2) = _
      rw [room_stop no]
      refine Prod.ext ?_ rfl
      show put (stk n (k + 1)) _ _ _ = stk n (k + 1 + 1)
      unfold put
      rw [last]
      refine List.ext_getElem? fun i => ?_
      have ld : (stk n (k + 1)).dropLast.length = k := by rw [List.length_dropLast, stk_len]; rfl
      rcases Nat.lt_trichotomy i k with c | c | c
      · show ((stk n (k + 1)).dropLast ++ [_, _])[i]? = _
        rw [List.getElem?_append_left (by omega), List.getElem?_dropLast, if_pos (by rw [stk_len]; omega), stk_get (by omega), stk_get (by omega), if_pos (by omega), if_pos (by omega)]
      · subst c
        show ((stk n (i + 1)).dropLast ++ [_, _])[i]? = _
        rw [List.getElem?_append_right (by omega), ld, Nat.sub_self, stk_get (by omega), if_pos (by omega)]
        rfl
      · show ((stk n (k + 1)).dropLast ++ [_, _])[i]? = _
        rw [List.getElem?_append_right (by omega), ld]
        by_cases c2 : i = k + 1
        · subst c2
          rw [show k + 1 - k = 1 by omega, stk_get (by omega), if_neg (by omega)]
          rfl
        · rw [List.getElem?_eq_none (by simp; omega), List.getElem?_eq_none (by rw [stk_len]; omega)]
end Pile
end L2

/-! lambdas handed to a def that is called where nothing is being shown -/
namespace L2
open PySem PySem.Spec PyProof.Rows PySem.W LamX
def GivesTo1G (P : Program) (w : World) (K : PySem.W.Frag) (mg : Str → Option Value) (base : Heap) (k : Nat) (Ng : List Str) (x : Str) (sg : Scope) (g : Addr) (bg : List Stmt) (a : Str) (TT : (XK → Hp → VK → Prop) → Hp → VK → Prop) : Prop :=
  ∀ (cdg : Value) (A : Around) (outer : List Env) (f : Addr) (L : LamD) (s : Shared) (H : Hp) (Q : VK) (tl : XK → Hp → VK → Prop), A.guards = some [] → Room k (A.deeper (envOfC x sg s.heap.objs.size g cdg)) →
    (∀ (W : WX) (pn : List (Addr × Obj)) (xe : Value → Shared → Prop) (p1 p2 : Pos), Takes ((cxOf C8.CX0 P w K mg base Ng x sg g cdg A outer s H C8.E0).tr pn xe) W →
      PE ((cxOf C8.CX0 P w K mg base Ng x sg g cdg A outer s H C8.E0).tr pn xe) (.Call (.Name a p1) [] [] p2) (fun σZ HZ Q => σZ[0]? = some (some (.ref f)) ∧ LamAt HZ f L ∧ ∃ E : XK, (∀ cls d H', E cls d H' → W cls d σZ H') ∧ tl E HZ Q)) →
    LamAt H f L → TT tl H Q →
    ∃ t, PSs (cxOf C8.CX0 P w K mg base Ng x sg g cdg A outer s H C8.E0).nox bg t ∧ t { nx := fun _ H' => Q .non H', rt := Q } (L2.start Ng [.ref f]) H
section
variable {X : Cx}
theorem run_lamOG {pins : List (Addr × Obj)} {σ : L2.St} {H : Hp} {s : Shared} {Q : VK} {TT : (XK → Hp → VK → Prop) → Hp → VK → Prop} {x a : Str} {st : Stmt} {g f : Addr} {k : Nat} {fd : FuncData} {Ng : List Str} {params : Arguments} {body : Expr} {scope : Scope} {t : XK → TE}
    (F : Fun X.K x x st g fd) (hb : L2.Binds X.K fd [a] []) (Sg : FnScope Ng [a] (defScope st)) (hNg : Ng[0]? = some a) (hva : Vis (defScope st) a) (hG : GivesTo1G X.prog X.w X.K X.mg X.base (k + 1) Ng x (defScope st) g (defBody st) a TT)
    (LG : LamGood X k params body scope t) (gd : X.A.guards = some []) (hr : Room (k + 2) X.A) (I : Inv X pins σ H s) (hL : LamAt H f (lamD X params body scope)) (h : TT (fun E H' Q' => t E σ H' Q') H Q)
    (hd : (a == ("__debug__" : Str)) = false := by decide) (hcd : (a == ("__classdict__" : Str)) = false := by decide) :
    codeAny (model X.prog X.w) X.A (.call (.ref g) ⟨[.ref f], []⟩) (CR C8.CX0 X.stack X.prog X.w H s Q C8.E0) s := by
  obtain ⟨oc, od, kV, doc, pm, an, cdv, ct, osl, rfl, lk, hcg⟩ := F.ex
  refine run_ofS (N := Ng) (ps := [a]) (us := [.ref f]) (vs := [.ref f]) lk hcg Sg hr I.env0 (hb s [.ref f] I.kIn rfl) (.cons rfl .nil) rfl fun hr' => ?_
  refine Exists.elim (hG cdv X.A X.stack f _ s H Q (fun E H' Q' => t E σ H' Q') gd hr' (fun W pn xe p1 p2 tk => ⟨fun pinsZ sZ σZ HZ QZ IZ hz => ?_⟩) hL h) fun t' h' => ⟨t', h'.1.nox, h'.2⟩
  obtain ⟨z1, z2, E, hW, z3⟩ := hz
  exact (pe_actO (i := 0) I LG tk hr' hNg hva hd hcd).run pinsZ sZ σZ HZ QZ IZ ⟨z1, z2, E, hW, z3⟩
theorem pe_lamcallGG {T : List (Addr × Str)} {TT : (XK → Hp → VK → Prop) → Hp → VK → Prop} {x a : Str} {st : Stmt} {g c P : Addr} {k : Nat} {fd : FuncData} {Ng : List Str} {params : Arguments} {body : Expr} {scope : Scope} {t : XK → TE} {p lpos pos : Pos}
    (F : Fun X.K x x st g fd) (hg : Gl X x) (hm : X.mg x = some (.ref g)) (hk : PySem.W.keepIn X.K (.ref g) = true) (hb : L2.Binds X.K fd [a] []) (Sg : FnScope Ng [a] (defScope st)) (hNg : Ng[0]? = some a) (hva : Vis (defScope st) a)
    (hG : GivesTo1G X.prog X.w X.K X.mg X.base (k + 1) Ng x (defScope st) g (defBody st) a TT) (gd : X.A.guards = some [])
    (TB : TabB X.base X.mg c P) (hcode : X.env.code = .ref c) (hmT : (P, X.env.qual ++ "<lambda>") ∈ T) (hu : ∀ p ∈ T, p.1 = P → p.2 = X.env.qual ++ "<lambda>") (hr : Room (k + 2) X.A)
    (hfree : ∀ y ∈ scope.names, y.2 = .free → X.env.scope.names.lookup y.1 = some .cell ∨ X.env.scope.names.lookup y.1 = some .free) (hk0 : params.kw_defaults = []) (hdef : params.defaults = [] ∨ ∃ j pc, params.defaults = [.Constant (.int 0) j pc]) (LG : LamGood X k params body scope t)
    (hdb : (x == ("__debug__" : Str)) = false := by decide) (hd : (a == ("__debug__" : Str)) = false := by decide) (hcd : (a == ("__classdict__" : Str)) = false := by decide) :
    PE X (.Call (.Name x p) [.Lambda params body scope lpos] [] pos) (tLamG T TT t) := by
  refine ⟨fun pins s σ H Q I h => ?_⟩
  obtain ⟨hT, h⟩ := h
  refine wpAny_Call_Name_kw (ld_glob I hg hm ?_ hdb)
  refine PySem.W.callWith_K (h₀ := X.base) I.ok.mod.kin hk ?_ (by rfl) (by rfl)
  show wpAny _ _ (spliced ((false, eval (.Lambda params body scope lpos) X.env) :: backTo pos (starEach [] X.env))) _ _ s
  refine Calls.spliced_cons (thn ((pe_lamO (pos := lpos) TB hcode hmT hu hfree hk0 hdef).run pins s σ H (fun v H1 => ∃ f, v = .ref f ∧ ExtN H H1 ∧ Tabs T H1 ∧ LamAt H1 f (lamD X params body scope)) I ⟨hT, fun H1 f e1 T1 _ hL => ⟨f, rfl, e1, T1, hL⟩⟩) fun u s1 ⟨v, H1, I1, r1, f, ev, e1, T1, hL⟩ => ?_)
  subst ev
  obtain rfl : u = Value.ref f := r1
  refine Calls.spliced_nil ⟨I1.kIn, ?_⟩
  refine wpAny_call (codeAny_mono (run_lamOG F hb Sg hNg hva hG LG gd hr I1 hL (h H1 e1 T1) hd hcd) fun r s2 hq => ?_)
  cases r with
  | error e => exact (show False from hq).elim
  | ok fl =>
    cases fl with
    | ret u => exact I1.after hq
    | next => exact False.elim hq
    | brk => exact False.elim hq
    | cont => exact False.elim hq
end
end L2

/-! repr of data that may hold dicts of ints -/
namespace L2
open PySem PySem.Spec PyProof.Rows
/-- what repr sees: data without dicts, dicts of ints, lists and tuples of such -/
inductive ShD (K : PySem.W.Frag) (H : Hp) : V → PyData → Prop
  | flat {v : V} {d : PyData} (h : Dp K H v d) (n : d.hasDict = false) : ShD K H v d
  | dict {a : Addr} (kvs : List (Int × Int)) (h : H a = some (.dK (kvs.map fun p => ((.inl p.1 : Key), V.int p.2)))) : ShD K H (.ref a) (.dict (kvs.map fun p => (.int p.1, .int p.2)))
  | lst {a : Addr} {xs : List V} {ds : List PyData} (h : SqL K H a xs) (hl : xs.length = ds.length) (hi : ∀ (i : Nat) (v : V) (d : PyData), xs[i]? = some v → ds[i]? = some d → ShD K H v d) : ShD K H (.ref a) (.list ds)
  | tup {a : Addr} {xs : List V} {ds : List PyData} (h : SqT K H a xs) (hl : xs.length = ds.length) (hi : ∀ (i : Nat) (v : V) (d : PyData), xs[i]? = some v → ds[i]? = some d → ShD K H v d) : ShD K H (.ref a) (.tuple ds)
/-- what the heap says of it -/
def Shown (P : Program) (w : World) (h : Heap) (u : Value) (d : PyData) : Prop := ∃ as bs, Reads h u d as ∧ ReadAtMost h d.depth bs ∧ ReprK P w bs h d.depth u d.shown
theorem shown_all {P : Program} {w : World} {h : Heap} : ∀ {ds : List PyData} {us : List Value}, us.length = ds.length → (∀ (i : Nat) (u : Value) (d : PyData), us[i]? = some u → ds[i]? = some d → Shown P w h u d) →
    ∃ as bs, ReadsAll h us ds as ∧ ReadAtMost h (PyData.depthAll ds) bs ∧ ReprAllK P w bs h (PyData.depthAll ds) us (PyData.shownAll ds)
  | [], [], _, _ => ⟨[], [], .nil, (fun _ z => nomatch z), .nil⟩
  | d :: ds, u :: us, hl, hi => by
    obtain ⟨a1, b1, r1, m1, k1⟩ := hi 0 u d rfl rfl
    obtain ⟨a2, b2, r2, m2, k2⟩ := shown_all (ds := ds) (us := us) (Nat.succ.inj hl) fun i u d x y => hi (i + 1) u d x y
    have e : PyData.depthAll (d :: ds) = max d.depth (PyData.depthAll ds) := by simp only [PyData.depthAll]
    rw [e]
    refine ⟨a1 ++ a2, b1 ++ b2, .cons r1 r2, (m1.mono (Nat.le_max_left _ _)).append (m2.mono (Nat.le_max_right _ _)), ?_⟩
    have e2 : PyData.shownAll (d :: ds) = d.shown :: PyData.shownAll ds := by simp only [PyData.shownAll]
    rw [e2]
    exact .cons ((k1.more fun b z => List.mem_append_left _ z).level_le (Nat.le_max_left _ _)) (k2.more_le (fun b z => List.mem_append_right _ z) (Nat.le_max_right _ _))
  | [], _ :: _, hl, _ => nomatch hl
  | _ :: _, [], hl, _ => nomatch hl
/-- the entries of a dict of ints -/
theorem ent_reads {P : Program} {w : World} {h : Heap} : ∀ {kvs : List (Int × Int)} {es : List DictEntry} {vs : List (Key × Value)}, Pairs (mixKind P w) es vs → KV (kvs.map fun p => ((.inl p.1 : Key), V.int p.2)) vs →
    ReadsAll h (es.map (·.key)) (kvs.map fun p => .int p.1) [] ∧ ReadsAll h (es.map (·.val)) (kvs.map fun p => .int p.2) []
  | [], _, _, hp, hk => by
    cases hk
    cases hp
    exact ⟨.nil, .nil⟩
  | p :: kvs, _, _, hp, hk => by
    cases hk with
    | cons r rs =>
      cases hp with
      | cons i v hs =>
        obtain ⟨q1, q2⟩ := ent_reads hs rs
        obtain ⟨e1, e2⟩ := r
        rw [← e1] at i
        have i : keyIs (Sum.inl p.1) _ = true := i
        obtain ⟨j, t, e3, e4⟩ | ⟨x, t, e3, _⟩ := keyIs_shape i
        · cases e3
          obtain ⟨t2, e5⟩ := e2
          refine ⟨?_, ?_⟩
          · rw [List.map_cons, List.map_cons, e4]
            exact ReadsAll.cons (as := []) (.int _ _) q1
          · rw [List.map_cons, List.map_cons, v, e5]
            exact ReadsAll.cons (as := []) (.int _ _) q2
        · cases e3
theorem keysKv (kvs : List (Int × Int)) : (kvs.map fun p => ((.int p.1 : PyData), (.int p.2 : PyData))).map (·.1) = kvs.map fun p => .int p.1 := by rw [List.map_map]; rfl
theorem valsKv (kvs : List (Int × Int)) : (kvs.map fun p => ((.int p.1 : PyData), (.int p.2 : PyData))).map (·.2) = kvs.map fun p => .int p.2 := by rw [List.map_map]; rfl
theorem noDictI : ∀ ns : List (Int × Int), PyData.hasDictAll (ns.map fun p => .int p.1) = false ∧ PyData.hasDictAll (ns.map fun p => .int p.2) = false
  | [] => ⟨rfl, rfl⟩
  | p :: r => by
    obtain ⟨h1, h2⟩ := noDictI r
    constructor
    · rw [List.map_cons]; simp only [PyData.hasDictAll, PyData.hasDict, Bool.false_or]; exact h1
    · rw [List.map_cons]; simp only [PyData.hasDictAll, PyData.hasDict, Bool.false_or]; exact h2
theorem showAll_at : ∀ {ds : List PyData} {i : Nat} {d : PyData}, PyData.showableAll ds = true → ds[i]? = some d → d.showable = true
  | [], i, d, _, h => by cases h
  | x :: ds, i, d, hs, h => by
    have hs' : x.showable = true ∧ PyData.showableAll ds = true := by simpa [PyData.showableAll] using hs
    cases i with
    | zero => cases h; exact hs'.1
    | succ i => exact showAll_at hs'.2 h
theorem shownAll_at : ∀ {ds : List PyData} {i : Nat} {d : PyData}, ds[i]? = some d → d.shown ∈ PyData.shownAll ds
  | [], i, d, h => by cases h
  | x :: ds, i, d, h => by
    simp only [PyData.shownAll]
    cases i with
    | zero => cases h; exact List.mem_cons_self
    | succ i => exact List.mem_cons_of_mem _ (shownAll_at h)
section
variable {X : Cx} {pins : List (Addr × Obj)} {σ : L2.St} {H : Hp} {s : Shared}
/-- a dict's own facts -/
theorem dict_facts (I : Inv X pins σ H s) {a : Addr} {kvs : List (Int × Int)} (h : H a = some (.dK (kvs.map fun p => ((.inl p.1 : Key), V.int p.2)))) (hs : PyData.showableKv (kvs.map fun p => (.int p.1, .int p.2)) = true) (hz : (PyData.dict (kvs.map fun p => (.int p.1, .int p.2))).shown.length ≤ sizeLine) :
    ∃ o es n bs, s.heap.get? a = some o ∧ o.cls = .type "dict" ∧ o.data = .dict es n ∧ (a == sysModules) = false ∧ Reads s.heap (.ref a) (.dict (kvs.map fun p => (.int p.1, .int p.2))) [a] ∧ a ∉ bs ∧ ReadAtMost s.heap (PyData.depthKv (kvs.map fun p => (.int p.1, .int p.2))) bs ∧
      ReprEntriesK X.prog X.w bs s.heap (PyData.depthKv (kvs.map fun p => (.int p.1, .int p.2))) es.toList (PyData.shownKv (kvs.map fun p => (.int p.1, .int p.2))) := by
  obtain ⟨_, hsys, vs, hkv, o, es, ep, ho, hx, hd, _, hp, _⟩ := dk_of I.hok h
  obtain ⟨q1, q2⟩ := ent_reads (h := s.heap) hp hkv
  rw [← keysKv] at q1
  rw [← valsKv] at q2
  have hz' : (dictText (PyData.shownKv (kvs.map fun p => (.int p.1, .int p.2)))).length ≤ sizeLine := by simpa only [PyData.shown] using hz
  obtain ⟨s1, s2⟩ := PyData.showableKv_split _ hs
  obtain ⟨n1, n2⟩ := noDictI kvs
  have r : Reads s.heap (.ref a) (.dict (kvs.map fun p => (.int p.1, .int p.2))) [a] := Reads.dict (as := []) (bs := []) ho hx.1 hd q1 q2
  obtain ⟨b1, m1, k1⟩ := ReprAllK.of_readsAll (prog := X.prog) (w := X.w) q1 s1 (fun z => by rw [keysKv, n1] at z; cases z) (fun t ht => let ⟨p, hp, hl⟩ := PyData.shownKv_key_le _ t ht; Nat.le_trans hl (Nat.le_trans (dictText_mem_le hp) hz'))
  obtain ⟨b2, m2, k2⟩ := ReprAllK.of_readsAll (prog := X.prog) (w := X.w) q2 s2 (fun z => by rw [valsKv, n2] at z; cases z) (fun t ht => let ⟨p, hp, hl⟩ := PyData.shownKv_val_le _ t ht; Nat.le_trans hl (Nat.le_trans (dictText_mem_le hp) hz'))
  have mb := (m1.mono (PyData.depthAll_keys_le (kvs.map fun p => ((.int p.1 : PyData), (.int p.2 : PyData))))).append (m2.mono (PyData.depthAll_vals_le (kvs.map fun p => ((.int p.1 : PyData), (.int p.2 : PyData)))))
  refine ⟨o, es, ep, b1 ++ b2, ho, hx.1, hd, hsys, r, not_mem_of_deeper r (by simp only [PyData.depth]; omega) mb, mb, ?_⟩
  rw [PyData.shownKv_eq]
  exact ReprEntriesK.of_two es.toList _ _ (k1.more_le (fun b z => List.mem_append_left _ z) (PyData.depthAll_keys_le _)) (k2.more_le (fun b z => List.mem_append_right _ z) (PyData.depthAll_vals_le _))
theorem ShD.go (I : Inv X pins σ H s) {v : V} {d : PyData} (h : ShD X.K H v d) : ∀ {u : Value}, RelV v u → d.showable = true → d.shown.length ≤ sizeLine → Shown X.prog X.w s.heap u d := by
  induction h with
  | flat hd n =>
    intro u r hs hz
    obtain ⟨as, rd⟩ := Dp.reads I _ _ u hd r
    obtain ⟨bs, m, k⟩ := ReprK.of_reads (prog := X.prog) (w := X.w) rd hs (fun z => by rw [n] at z; cases z) hz
    exact ⟨as, bs, rd, m, k⟩
  | @dict a kvs h =>
    intro u r hs hz
    cases r
    obtain ⟨o, es, n, bs, h1, h2, h3, h4, rd, na, m, k⟩ := dict_facts I h (by simpa [PyData.showable] using hs) hz
    refine ⟨[a], a :: bs, rd, ReadAtMost.cons rd (by simp only [PyData.depth]; omega) m, ?_⟩
    simp only [PyData.depth, PyData.shown]
    exact ReprK.dict h1 h2 h3 h4 na k
  | @lst a xs ds h hl hi ih =>
    intro u r hs hz
    cases r
    obtain ⟨its, rv, ⟨o, n, ho, hc, _, hd⟩, _⟩ := I.list h
    have hz' : (listText (PyData.shownAll ds)).length ≤ sizeLine := by simpa only [PyData.shown] using hz
    have hs' : PyData.showableAll ds = true := by simpa [PyData.showable] using hs
    obtain ⟨as, bs, rd, m, k⟩ := shown_all (P := X.prog) (w := X.w) (h := s.heap) (ds := ds) (us := its) (by rw [← rv.length]; exact hl) fun i u d hu hdi => by
      obtain ⟨v, hv⟩ : ∃ v, xs[i]? = some v := ⟨_, List.getElem?_eq_getElem (by rw [rv.length]; exact (List.getElem?_eq_some_iff.mp hu).1)⟩
      obtain ⟨u2, hu2, r2⟩ := rv.get hv
      rw [hu] at hu2
      cases hu2
      exact ih i v d hv hdi r2 (showAll_at hs' hdi) (Nat.le_trans (listText_mem_le (shownAll_at hdi)) hz')
    have R : Reads s.heap (.ref a) (.list ds) (a :: as) := .list ho hc hd (by simpa using rd)
    have na : a ∉ bs := not_mem_of_deeper R (by simp only [PyData.depth]; omega) m
    refine ⟨_, a :: bs, R, ReadAtMost.cons R (by simp only [PyData.depth]; omega) m, ?_⟩
    simp only [PyData.depth, PyData.shown]
    cases its with
    | nil =>
      cases rd
      simp only [PyData.shownAll, listText_nil]
      exact ReprK.listEmpty ho hc hd
    | cons x l => exact ReprK.list ho hc hd na (by simpa using k.length_eq) fun i y e => k.item i y (by simpa using e)
  | @tup a xs ds h hl hi ih =>
    intro u r hs hz
    cases r
    obtain ⟨its, rv, ⟨o, ho, hc, n, hd⟩, _⟩ := I.tuple h
    have hz' : (tupleText (PyData.shownAll ds)).length ≤ sizeLine := by simpa only [PyData.shown] using hz
    have hs' : PyData.showableAll ds = true := by simpa [PyData.showable] using hs
    obtain ⟨as, bs, rd, m, k⟩ := shown_all (P := X.prog) (w := X.w) (h := s.heap) (ds := ds) (us := its) (by rw [← rv.length]; exact hl) fun i u d hu hdi => by
      obtain ⟨v, hv⟩ : ∃ v, xs[i]? = some v := ⟨_, List.getElem?_eq_getElem (by rw [rv.length]; exact (List.getElem?_eq_some_iff.mp hu).1)⟩
      obtain ⟨u2, hu2, r2⟩ := rv.get hv
      rw [hu] at hu2
      cases hu2
      exact ih i v d hv hdi r2 (showAll_at hs' hdi) (Nat.le_trans (tupleText_mem_le (shownAll_at hdi)) hz')
    have R : Reads s.heap (.ref a) (.tuple ds) as := .tuple ho hc hd (by simpa using rd)
    have na : a ∉ bs := not_mem_of_deeper R (by simp only [PyData.depth]; omega) m
    refine ⟨_, a :: bs, R, ReadAtMost.cons R (by simp only [PyData.depth]; omega) m, ?_⟩
    simp only [PyData.depth, PyData.shown]
    exact ReprK.tuple ho hc hd na (by simpa using k)
def rReprS (K : PySem.W.Frag) : List V → Hp → VK → Prop := fun vs H Q => ∃ (v : V) (d : PyData), vs = [v] ∧ ShD K H v d ∧ d.showable = true ∧ d.depth ≤ 64 ∧ d.shown.length ≤ sizeLine ∧ Q (.str d.shown) H
theorem call_reprS (gd : X.A.guards = some []) (hu : X.A.units + 65 < cLine) : CallR X (.builtin "repr") (rReprS X.K) := by
  intro pins s σ H xs us Q I r h
  obtain ⟨v, d, rfl, hd, h1, h3, h4, q⟩ := h
  obtain ⟨u, rfl, r1⟩ := vals1 r
  cases hd with
  | flat hd n =>
    obtain ⟨as, rd⟩ := Dp.reads I d _ u hd r1
    cases hd with
    | non =>
      cases r1
      exact PySem.P.repr_of_none ⟨.str _, H, I.tok _, ⟨_, rfl⟩, q⟩
    | bl b =>
      cases r1
      exact PySem.P.repr_of_bool ⟨.str _, H, I.tok _, ⟨_, rfl⟩, q⟩
    | int i =>
      obtain ⟨t, rfl⟩ := r1
      exact PySem.P.repr_of_int (by simpa [PyData.showable] using h1) ⟨.str _, H, I.tok _, ⟨_, rfl⟩, q⟩
    | str x =>
      obtain ⟨t, rfl⟩ := r1
      exact PySem.P.repr_of_str ⟨.str _, H, I.tok _, ⟨_, rfl⟩, q⟩ (by simpa only [PyData.shown] using h4)
    | lst _ _ =>
      cases r1
      exact repr_of_reads' rd h1 (fun z => by rw [n] at z; cases z) gd (by omega) (fun _ _ e => e) (fun h' u tk keep => ⟨.str _, H, I.kept keep, ⟨_, rfl⟩, q⟩) h4
    | tup _ _ =>
      cases r1
      exact repr_of_reads' rd h1 (fun z => by rw [n] at z; cases z) gd (by omega) (fun _ _ e => e) (fun h' u tk keep => ⟨.str _, H, I.kept keep, ⟨_, rfl⟩, q⟩) h4
  | @dict a kvs h =>
    cases r1
    obtain ⟨o, es, n, bs, g1, g2, g3, g4, rd, na, m, k⟩ := dict_facts I h (by simpa [PyData.showable] using h1) h4
    simp only [PyData.depth] at h3
    simp only [PyData.shown] at h4 q
    exact call_repr_slot (by omega) ⟨o, g1, g2⟩ F.slot_dict_repr (call_dict_reprK g1 g2 g3 g4 na k gd (fun b _ => Clear.nil b) (by show X.A.units + 1 + _ < cLine; omega) (fun _ _ e => e) (fun h' u tk keep => ⟨_, _, rfl, .str _, H, I.kept keep, ⟨_, rfl⟩, q⟩) h4)
  | @lst a xs ds h hl hi =>
    have sh := ShD.go I (.lst h hl hi) r1 h1 h4
    cases r1
    obtain ⟨its, rv, ⟨o, n, ho, hc, _, hd⟩, _⟩ := I.list h
    have hz' : (listText (PyData.shownAll ds)).length ≤ sizeLine := by simpa only [PyData.shown] using h4
    have hs' : PyData.showableAll ds = true := by simpa [PyData.showable] using h1
    obtain ⟨as, bs, rd, m, k⟩ := shown_all (P := X.prog) (w := X.w) (h := s.heap) (ds := ds) (us := its) (by rw [← rv.length]; exact hl) fun i u d hu hdi => by
      obtain ⟨v, hv⟩ : ∃ v, xs[i]? = some v := ⟨_, List.getElem?_eq_getElem (by rw [rv.length]; exact (List.getElem?_eq_some_iff.mp hu).1)⟩
      obtain ⟨u2, hu2, r2⟩ := rv.get hv
      rw [hu] at hu2
      cases hu2
      exact ShD.go I (hi i v d hv hdi) r2 (showAll_at hs' hdi) (Nat.le_trans (listText_mem_le (shownAll_at hdi)) hz')
    have na : a ∉ bs := not_mem_of_deeper (Reads.list ho hc hd (by simpa using rd)) (by simp only [PyData.depth]; omega) m
    simp only [PyData.depth] at h3
    simp only [PyData.shown] at q
    refine call_repr_slot (by omega) ⟨o, ho, hc⟩ F.slot_list_repr.toG ?_
    cases its with
    | nil =>
      cases rd
      simp only [PyData.shownAll, listText_nil] at q
      exact call_list_repr_empty ⟨o, ho, hc⟩ ho hd ⟨_, _, rfl, .str _, H, I.tok _, ⟨_, rfl⟩, q⟩
    | cons x l => exact call_list_reprK ho hc hd na (by simpa using k.length_eq) (fun i y e => k.item i y (by simpa using e)) gd (fun b _ => Clear.nil b) (by show X.A.units + 1 + _ < cLine; omega) (fun _ _ e => e) (fun h' u tk keep => ⟨_, _, rfl, .str _, H, I.kept keep, ⟨_, rfl⟩, q⟩) hz'
  | @tup a xs ds h hl hi =>
    cases r1
    obtain ⟨its, rv, ⟨o, ho, hc, n, hd⟩, _⟩ := I.tuple h
    have hz' : (tupleText (PyData.shownAll ds)).length ≤ sizeLine := by simpa only [PyData.shown] using h4
    have hs' : PyData.showableAll ds = true := by simpa [PyData.showable] using h1
    obtain ⟨as, bs, rd, m, k⟩ := shown_all (P := X.prog) (w := X.w) (h := s.heap) (ds := ds) (us := its) (by rw [← rv.length]; exact hl) fun i u d hu hdi => by
      obtain ⟨v, hv⟩ : ∃ v, xs[i]? = some v := ⟨_, List.getElem?_eq_getElem (by rw [rv.length]; exact (List.getElem?_eq_some_iff.mp hu).1)⟩
      obtain ⟨u2, hu2, r2⟩ := rv.get hv
      rw [hu] at hu2
      cases hu2
      exact ShD.go I (hi i v d hv hdi) r2 (showAll_at hs' hdi) (Nat.le_trans (tupleText_mem_le (shownAll_at hdi)) hz')
    have na : a ∉ bs := not_mem_of_deeper (Reads.tuple ho hc hd (by simpa using rd)) (by simp only [PyData.depth]; omega) m
    simp only [PyData.depth] at h3
    simp only [PyData.shown] at q
    exact call_repr_slot (by omega) ⟨o, ho, hc⟩ F.slot_tuple_repr (call_tuple_reprK ho hc hd na (by simpa using k) gd (fun b _ => Clear.nil b) (by show X.A.units + 1 + _ < cLine; omega) (fun _ _ e => e) (fun h' u tk keep => ⟨_, _, rfl, .str _, H, I.kept keep, ⟨_, rfl⟩, q⟩) hz')
end
end L2

/-! defs that make lambdas and are called where nothing is being shown; the end of a law of such defs -/
namespace L2
open PySem PySem.Spec PyProof.Rows LamX
theorem Fun.okGC {P : Program} {w : World} {K : PySem.W.Frag} {mg : Str → Option Value} {base : Heap} {x qual : Str} {st : Stmt} {f c : Addr} {fd : FuncData} {N ps : List Str} {k : Nat} {sp : Sp} (F : Fun K x qual st f fd) (known : fd.code = .ref c) (S : FnScope N ps (defScope st)) (ln : ∀ vs H Q E, sp vs H Q E → vs.length = ps.length)
    (bdy : ∀ (A : Around) (outer : List Env) (s : Shared) (H : Hp) (vs : List V) (Q : VK) (E : XK), A.guards = some [] → Room k (A.deeper (envOfC qual (defScope st) s.heap.objs.size f (.ref c))) → sp vs H Q E →
      ∃ t, PSs (cxOf CX0 P w K mg base N qual (defScope st) f (.ref c) A outer s H E).nox (defBody st) t ∧ t { nx := fun _ H' => Q .non H', rt := Q } (L2.start N vs) H) : FnG P w K mg base CX0 (k + 1) f fd ps sp := by
  obtain ⟨oc, od, kV, doc, pm, an, cdv, ct, osl, rfl, at_, cd⟩ := F.ex
  obtain rfl : cdv = .ref c := known
  refine fnG_body at_ cd S ln fun A outer s H vs Q E gd room hs => ?_
  obtain ⟨t, h1, h2⟩ := bdy A outer s H vs Q E gd room hs
  exact ⟨t, h1.nox, h2⟩
/-- what is told of the heap where a law begins: its tables, and the script if the frame doesn't hold it -/
def lawHp (K : PySem.W.Frag) (ts : List Addr) (a : Addr) (ob : Obj) (xs : List V) : Hp := fun b =>
  bif decide (b ∈ ts) then some (.tbl #[]) else bif decide (b = a) && (K.lookup a).isNone then some (.frz ob (.lst xs)) else none
inductive LawB (K : PySem.W.Frag) (ts : List Addr) (a : Addr) (ob : Obj) (xs : List V) (b : Addr) : Prop
  | tab (m : b ∈ ts) (e : lawHp K ts a ob xs b = some (.tbl #[]))
  | scr (m : b ∉ ts) (here : b = a) (own : K.lookup a = none) (e : lawHp K ts a ob xs b = some (.frz ob (.lst xs)))
  | out (m : b ∉ ts) (far : b ≠ a ∨ K.lookup a ≠ none) (e : lawHp K ts a ob xs b = none)
theorem lawB (K : PySem.W.Frag) (ts : List Addr) (a : Addr) (ob : Obj) (xs : List V) (b : Addr) : LawB K ts a ob xs b := by
  by_cases m : b ∈ ts
  · exact .tab m (by simp [lawHp, m])
  · by_cases here : b = a
    · cases own : K.lookup a with
      | none => exact .scr m here own (by simp [lawHp, m, here, own]; rw [← here]; simp [m])
      | some o => exact .out m (.inr (by rw [own]; exact Option.some_ne_none _)) (by simp [lawHp, m, own])
    · exact .out m (.inl here) (by simp [lawHp, m, here])
/-- where a law begins -/
structure LawStart (K : PySem.W.Frag) (h : Heap) (ts : List Addr) (a : Addr) (us : List Value) (ns : List Int) : Prop where
  kin : K.In h
  tab : ∀ b ∈ ts, h.get? b = some (PySem.W.tabObj #[])
  ntab : ∀ b ∈ ts, K.lookup b = none
  scr : h.get? a = some { cls := .type "list", data := .seq us.toArray }
  nums : IntsAre us ns
  small : ns.length ≤ sizeLine
abbrev scrO (us : List Value) : Obj := { cls := .type "list", data := .seq us.toArray }
section
variable {P : Program} {w : World} {K : PySem.W.Frag} {h : Heap} {ts : List Addr} {a : Addr} {us : List Value} {ns : List Int}
theorem LawStart.apart (L : LawStart K h ts a us ns) : a ∉ ts := fun m => by
  have e := (L.tab a m).symm.trans L.scr
  cases congrArg Obj.data (Option.some.inj e)
theorem LawStart.ok (L : LawStart K h ts a us ns) : HOk P w (lawHp K ts a (scrO us) (ns.map V.int)) h := fun b u e => by
  rcases lawB K ts a (scrO us) (ns.map V.int) b with ⟨m, z⟩ | ⟨m, rfl, own, z⟩ | ⟨m, far, z⟩
  · obtain rfl := Option.some.inj (z.symm.trans e)
    exact L.tab b m
  · obtain rfl := Option.some.inj (z.symm.trans e)
    exact ⟨L.scr, by rw [List.length_map]; exact L.small, us, _, vals_ints L.nums, L.scr⟩
  · rw [z] at e
    cases e
theorem LawStart.seq (L : LawStart K h ts a us ns) : SqL K (lawHp K ts a (scrO us) (ns.map V.int)) a (ns.map V.int) := by
  rcases lawB K ts a (scrO us) (ns.map V.int) a with ⟨m, _⟩ | ⟨_, _, _, z⟩ | ⟨_, far, _⟩
  · exact absurd m L.apart
  · exact .inl (.inr ⟨_, z⟩)
  · rcases far with far | far
    · exact absurd rfl far
    · cases own : K.lookup a with
      | none => exact absurd own far
      | some o =>
        obtain rfl := Option.some.inj ((L.kin a o own).symm.trans L.scr)
        exact .inr ⟨_, us.toArray, _, own, rfl, rfl, rfl, by rw [List.size_toArray, L.nums.length]; exact L.small, by simpa using vals_ints L.nums⟩
/-- an object of another kind stands in the base, too -/
theorem LawStart.hid (L : LawStart K h ts a us ns) {b : Addr} {o : Obj} (e : h.get? b = some o) (n1 : o.data ≠ (scrO us).data) (n2 : o.data ≠ .fields #[]) : (hidT h (lawHp K ts a (scrO us) (ns.map V.int))).get? b = some o := by
  refine hidT_get e ?_
  rcases lawB K ts a (scrO us) (ns.map V.int) b with ⟨m, _⟩ | ⟨_, rfl, _, _⟩ | ⟨_, _, z⟩
  · exact absurd (congrArg Obj.data (Option.some.inj (e.symm.trans (L.tab b m)))) n2
  · exact absurd (congrArg Obj.data (Option.some.inj (e.symm.trans L.scr))) n1
  · exact z
theorem LawStart.hidK (L : LawStart K h ts a us ns) : K.In (hidT h (lawHp K ts a (scrO us) (ns.map V.int))) := fun b o e => by
  refine hidT_get (L.kin b o e) ?_
  rcases lawB K ts a (scrO us) (ns.map V.int) b with ⟨m, _⟩ | ⟨_, rfl, own, _⟩ | ⟨_, _, z⟩
  · rw [L.ntab b m] at e
    cases e
  · rw [own] at e
    cases e
  · exact z
theorem LawStart.hidN (L : LawStart K h ts a us ns) {b : Addr} {m : Str → Option Value} (N : h.Ns b m) : (hidT h (lawHp K ts a (scrO us) (ns.map V.int))).Ns b m := by
  obtain ⟨o, es, ep, e, dd, r⟩ := N
  exact ⟨o, es, ep, L.hid e (fun z => by rw [dd] at z; cases z) (fun z => by rw [dd] at z; cases z), dd, r⟩
/-- the tables' code objects stand in the base -/
theorem LawStart.tabB (L : LawStart K h ts a us ns) {mg : Str → Option Value} {c p : Addr} (m : p ∈ ts) (C : PySem.W.CodeHd h c p) (top : h.Ns mainGlobals mg)
    (bm : ∃ (bm : Addr) (ob : Obj), mg "__builtins__" = some (.ref bm) ∧ bm ≠ builtinsNs ∧ h.get? bm = some ob ∧ ob.cls = .type "module" ∧ ob.dict = some builtinsNs ∧ ob.data = .plain) : TabB (hidT h (lawHp K ts a (scrO us) (ns.map V.int))) mg c p := by
  obtain ⟨q, qo, q1, q2, q3, q4, q5, q6⟩ := bm
  obtain ⟨go, es, ep, g1, g2, _⟩ := top
  obtain ⟨o, vs, file, tf, flags, tg, inF, text, tt, c1, c2, c3, c4, rest⟩ := C
  refine ⟨⟨o, vs, file, tf, flags, tg, inF, text, tt, L.hid c1 (fun z => ?_) (fun z => ?_), c2, c3, c4, rest⟩, ⟨q, qo, q1, q2, fun z => ?_, fun z => ?_, L.hid q3 (fun z => ?_) (fun z => ?_), q4, q5, q6⟩, fun z => ?_⟩
  · rw [c3] at z; cases z
  · rw [c3] at z; cases z; simp at c4
  · rw [z, g1] at q3; cases q3; rw [g2] at q6; cases q6
  · rw [z, L.tab p m] at q3; cases q3; cases q6
  · rw [q6] at z; cases z
  · rw [q6] at z; cases z
  · rw [z, L.tab p m] at g1; cases g1; cases g2
/-- what a run may have changed: the tables alone -/
theorem LawStart.old (L : LawStart K h ts a us ns) (code : ∀ b ∈ ts, ∃ c, PySem.W.CodeHd h c b) {H' : Hp} {h' : Heap} (un : Un [] [] (lawHp K ts a (scrO us) (ns.map V.int)) H' h h') (ok : HOk P w H' h') : OldK h h' := by
  have after : ∀ b o, h.get? b = some o → (b ∉ ts ∧ h'.get? b = some o) ∨ (b ∈ ts ∧ o = PySem.W.tabObj #[] ∧ ∃ more : Array Value, h'.get? b = some (PySem.W.tabObj more)) := fun b o e => by
    rcases lawB K ts a (scrO us) (ns.map V.int) b with ⟨m, z⟩ | ⟨m, rfl, _, z⟩ | ⟨m, _, z⟩
    · obtain ⟨more, g⟩ := un.tbls b #[] z
      rw [Array.empty_append] at g
      exact .inr ⟨m, (Option.some.inj (e.symm.trans (L.tab b m))), more, ok b _ g⟩
    · obtain rfl := Option.some.inj (e.symm.trans L.scr)
      exact .inl ⟨m, (ok b _ (un.frzs b _ _ z)).1⟩
    · exact .inl ⟨m, un.keep b o e z List.not_mem_nil List.not_mem_nil⟩
  refine ⟨fun b o e => ?_, fun b o e => ?_⟩
  · rcases after b o e with ⟨_, r⟩ | ⟨m, rfl, more, r⟩
    · exact .inl r
    · obtain ⟨c, C⟩ := code b m
      exact .inr (.inl ⟨(C.tab (L.tab b m)).isCodeTable, rfl, #[], more, rfl, by rw [Array.empty_append]; exact r⟩)
  · rcases after b o e with ⟨_, r⟩ | ⟨_, _, more, r⟩
    · exact ⟨_, r⟩
    · exact ⟨_, r⟩
end
/-- what is known of a law that may show lists, and makes lambdas -/
def LawAtG (l : PySem.W.OpenLaw) (w : World) (K : PySem.W.Frag) (CX : CXT) (k n : Nat) (x : Str) (mg : Str → Option Value) (fa : Addr) (h : Heap) : Prop :=
  ∃ (fd : FuncData) (cs : List (Addr × Addr)) (sp : Sp), (∀ p ∈ cs, h.get? p.2 = some (PySem.W.tabObj #[]) ∧ K.lookup p.2 = none ∧ PySem.W.CodeHd h p.1 p.2) ∧ (∀ (s : Shared) (u : Value), BindsTo s fd ⟨[u], []⟩ [(x, u)]) ∧
    (∀ (H : Hp) (a : Addr) (ns : List Int), ns.length ≤ n → (∀ p ∈ cs, H p.2 = some (.tbl #[])) → SqL K H a (ns.map V.int) → sp [.ref a] H (fun v _ => v = .bl true) fun _ _ _ => False) ∧
    ∀ base : Heap, K.In base → base.Ns mainGlobals mg → (∀ p ∈ cs, TabB base mg p.1 p.2) → FnG l.prog w K mg base CX k fa fd [x] sp
theorem walkGT {l : PySem.W.OpenLaw} {n k : Nat} {q : Program} {loose : List Str} {XP : (Str → Option Value) → Heap → Prop} {YP : World → Heap → Prop} {d : DefRec} {K : Params → PySem.W.Frag} {CX : World → CXT} {x : Str}
    (most : l.most = some n) (small : n ≤ sizeLine) (nodef : d.params.defaults = []) (room : Room k callerA) (inK : ∀ (w : World) (h : Heap), YP w h → (K w.params).In h)
    (F : ∀ (w : World) (mg : Str → Option Value) (fa : Addr) (h : Heap), YP w h → (K w.params).In h → h.Ns mainGlobals mg → mg d.name = some (.ref fa) → LawAtG l w (K w.params) (CX w) k n x mg fa h)
    (noX : ∀ (w : World) (H : Hp) (s : Shared) (e : Value) (s' : Shared), CX w [] H s (fun _ _ _ => False) e s' → False) : PySem.W.WalkO q loose XP YP l.row.toRowW d [] (fun f vs => PySem.call f vs) := by
  refine Att.attach_call most nodef fun w s0 s1 mg mb fa o pm cd doc a us ns G Y h1 h2 h3 at_ scr isI len gen0 => ?_
  obtain ⟨fd, cs, sp, tabs, bt, want, keep⟩ := F w mg fa _ Y (inK w _ Y) G.T.g at_
  have mem : ∀ p ∈ cs, p.2 ∈ cs.map (·.2) := fun p hp => List.mem_map.mpr ⟨p, hp, rfl⟩
  have back : ∀ b ∈ cs.map (·.2), ∃ p ∈ cs, p.2 = b := fun b hb => List.mem_map.mp hb
  have L : LawStart (K w.params) s1.heap (cs.map (·.2)) a us ns := ⟨inK w _ Y, fun b hb => by obtain ⟨p, hp, rfl⟩ := back b hb; exact (tabs p hp).1, fun b hb => by obtain ⟨p, hp, rfl⟩ := back b hb; exact (tabs p hp).2.1, scr, isI, Nat.le_trans len small⟩
  have TB : ∀ p ∈ cs, TabB (hidT s1.heap (lawHp (K w.params) (cs.map (·.2)) a (scrO us) (ns.map V.int))) mg p.1 p.2 := fun p hp => L.tabB (mem p hp) (tabs p hp).2.2 G.T.g G.T.bmain
  obtain ⟨mc, f1, f2⟩ := G.T.nolimit
  have ev : Env0 l.prog w (K w.params) mg (hidT s1.heap (lawHp (K w.params) (cs.map (·.2)) a (scrO us) (ns.map V.int))) callerA [] s1 (lawHp (K w.params) (cs.map (·.2)) a (scrO us) (ns.map V.int)) :=
    ⟨rfl, ⟨L.hidK, L.hidN G.T.g, ⟨mb, L.hidN G.T.b, G.T.builtins⟩, ⟨mc, L.hidN f1, f2⟩⟩, fun b o e => of_hidT e, Nat.le_of_eq (hidT_size _ _), trivial, fun b hb => absurd (show b ∈ ([] : List Addr) from hb) List.not_mem_nil, L.ok, .of_eq gen0⟩
  have starts := want (lawHp (K w.params) (cs.map (·.2)) a (scrO us) (ns.map V.int)) a ns len (fun p hp => by
    rcases lawB (K w.params) (cs.map (·.2)) a (scrO us) (ns.map V.int) p.2 with ⟨_, z⟩ | ⟨m, _, _, _⟩ | ⟨m, _, _⟩
    · exact z
    · exact absurd (mem p hp) m
    · exact absurd (mem p hp) m) L.seq
  refine codeAny_mono ((keep _ L.hidK (L.hidN G.T.g) TB).go (us := [.ref a]) (vs := [.ref a]) rfl room ev (bt s1 (.ref a)) (.cons rfl .nil) starts) fun r s' res => ?_
  match r, res with
  | .error e, res => exact (noX w _ s1 e s' res).elim
  | .ok .next, res => exact (show False from res).elim
  | .ok .brk, res => exact (show False from res).elim
  | .ok .cont, res => exact (show False from res).elim
  | .ok (.ret u), ⟨v, H', os, bare, un, ok', rv, qq⟩ =>
    obtain rfl : v = .bl true := qq
    obtain rfl : u = Value.bool true := rv
    exact ⟨rfl, L.old (fun b hb => by obtain ⟨p, hp, rfl⟩ := back b hb; exact ⟨_, (tabs p hp).2.2⟩) un ok', os, bare⟩
/-- the same, the frame told by a Hook -/
theorem walkGTE {l : PySem.W.OpenLaw} {n k : Nat} {q : Program} {loose : List Str} {XP : (Str → Option Value) → Heap → Prop} {YP : World → Heap → Prop} {d : DefRec} {CX : World → CXT} {x : Str}
    (most : l.most = some n) (small : n ≤ sizeLine) (nodef : d.params.defaults = []) (room : Room k callerA)
    (F : ∀ (w : World) (mg : Str → Option Value) (fa : Addr) (h : Heap), YP w h → h.Ns mainGlobals mg → mg d.name = some (.ref fa) → ∃ K : PySem.W.Frag, K.In h ∧ LawAtG l w K (CX w) k n x mg fa h)
    (noX : ∀ (w : World) (H : Hp) (s : Shared) (e : Value) (s' : Shared), CX w [] H s (fun _ _ _ => False) e s' → False) : PySem.W.WalkO q loose XP YP l.row.toRowW d [] (fun f vs => PySem.call f vs) := by
  refine Att.attach_call most nodef fun w s0 s1 mg mb fa o pm cd doc a us ns G Y h1 h2 h3 at_ scr isI len gen0 => ?_
  obtain ⟨K, inK, fd, cs, sp, tabs, bt, want, keep⟩ := F w mg fa _ Y G.T.g at_
  have mem : ∀ p ∈ cs, p.2 ∈ cs.map (·.2) := fun p hp => List.mem_map.mpr ⟨p, hp, rfl⟩
  have back : ∀ b ∈ cs.map (·.2), ∃ p ∈ cs, p.2 = b := fun b hb => List.mem_map.mp hb
  have L : LawStart K s1.heap (cs.map (·.2)) a us ns := ⟨inK, fun b hb => by obtain ⟨p, hp, rfl⟩ := back b hb; exact (tabs p hp).1, fun b hb => by obtain ⟨p, hp, rfl⟩ := back b hb; exact (tabs p hp).2.1, scr, isI, Nat.le_trans len small⟩
  have TB : ∀ p ∈ cs, TabB (hidT s1.heap (lawHp K (cs.map (·.2)) a (scrO us) (ns.map V.int))) mg p.1 p.2 := fun p hp => L.tabB (mem p hp) (tabs p hp).2.2 G.T.g G.T.bmain
  obtain ⟨mc, f1, f2⟩ := G.T.nolimit
  have ev : Env0 l.prog w K mg (hidT s1.heap (lawHp K (cs.map (·.2)) a (scrO us) (ns.map V.int))) callerA [] s1 (lawHp K (cs.map (·.2)) a (scrO us) (ns.map V.int)) :=
    ⟨rfl, ⟨L.hidK, L.hidN G.T.g, ⟨mb, L.hidN G.T.b, G.T.builtins⟩, ⟨mc, L.hidN f1, f2⟩⟩, fun b o e => of_hidT e, Nat.le_of_eq (hidT_size _ _), trivial, fun b hb => absurd (show b ∈ ([] : List Addr) from hb) List.not_mem_nil, L.ok, .of_eq gen0⟩
  have starts := want (lawHp K (cs.map (·.2)) a (scrO us) (ns.map V.int)) a ns len (fun p hp => by
    rcases lawB K (cs.map (·.2)) a (scrO us) (ns.map V.int) p.2 with ⟨_, z⟩ | ⟨m, _, _, _⟩ | ⟨m, _, _⟩
    · exact z
    · exact absurd (mem p hp) m
    · exact absurd (mem p hp) m) L.seq
  refine codeAny_mono ((keep _ L.hidK (L.hidN G.T.g) TB).go (us := [.ref a]) (vs := [.ref a]) rfl room ev (bt s1 (.ref a)) (.cons rfl .nil) starts) fun r s' res => ?_
  match r, res with
  | .error e, res => exact (noX w _ s1 e s' res).elim
  | .ok .next, res => exact (show False from res).elim
  | .ok .brk, res => exact (show False from res).elim
  | .ok .cont, res => exact (show False from res).elim
  | .ok (.ret u), ⟨v, H', os, bare, un, ok', rv, qq⟩ =>
    obtain rfl : v = .bl true := qq
    obtain rfl : u = Value.bool true := rv
    exact ⟨rfl, L.old (fun b hb => by obtain ⟨p, hp, rfl⟩ := back b hb; exact ⟨_, (tabs p hp).2.2⟩) un ok', os, bare⟩
end L2

/-! what repr can show, part by part -/
namespace L2
open PySem PySem.Spec PyProof.Rows LamX
structure Shw (n k : Nat) (d : PyData) : Prop where
  sh : d.showable = true
  lv : d.leavesShort 24 = true
  dp : d.depth ≤ k
  bk : d.bulk ≤ n
structure Shws (n k : Nat) (ds : List PyData) : Prop where
  sh : PyData.showableAll ds = true
  lv : PyData.leavesShortAll 24 ds = true
  dp : PyData.depthAll ds ≤ k
  bk : PyData.bulkAll ds ≤ n
theorem Shw.mono {n k n2 k2 : Nat} {d : PyData} (h : Shw n k d) (a : n ≤ n2) (b : k ≤ k2) : Shw n2 k2 d := ⟨h.sh, h.lv, Nat.le_trans h.dp b, Nat.le_trans h.bk a⟩
theorem Shws.mono {n k n2 k2 : Nat} {d : List PyData} (h : Shws n k d) (a : n ≤ n2) (b : k ≤ k2) : Shws n2 k2 d := ⟨h.sh, h.lv, Nat.le_trans h.dp b, Nat.le_trans h.bk a⟩
theorem Shws.nil : Shws 0 0 [] := ⟨rfl, rfl, Nat.le_refl _, Nat.le_refl _⟩
theorem Shws.cons {n m k : Nat} {d : PyData} {ds : List PyData} (h : Shw n k d) (t : Shws m k ds) : Shws (n + 1 + m) k (d :: ds) := by
  refine ⟨?_, ?_, ?_, ?_⟩
  · show (d.showable && PyData.showableAll ds) = true
    rw [h.sh, t.sh]
    rfl
  · show (d.leavesShort 24 && PyData.leavesShortAll 24 ds) = true
    rw [h.lv, t.lv]
    rfl
  · exact Nat.max_le.mpr ⟨h.dp, t.dp⟩
  · have := h.bk
    have := t.bk
    show d.bulk + 1 + PyData.bulkAll ds ≤ _
    omega
theorem Shws.app {n m k : Nat} : ∀ {xs ys : List PyData}, Shws n k xs → Shws m k ys → Shws (n + m) k (xs ++ ys)
  | [], ys, _, t => t.mono (Nat.le_add_left _ _) (Nat.le_refl _)
  | x :: xs, ys, h, t => by
    have s1 : (x.showable && PyData.showableAll xs) = true := h.sh
    have s2 : (x.leavesShort 24 && PyData.leavesShortAll 24 xs) = true := h.lv
    obtain ⟨a1, a2⟩ := Bool.and_eq_true_iff.mp s1
    obtain ⟨b1, b2⟩ := Bool.and_eq_true_iff.mp s2
    have d0 : max x.depth (PyData.depthAll xs) ≤ k := h.dp
    have c0 : x.bulk + 1 + PyData.bulkAll xs ≤ n := h.bk
    have r := Shws.cons (n := x.bulk) ⟨a1, b1, Nat.le_trans (Nat.le_max_left _ _) d0, Nat.le_refl _⟩ (Shws.app (n := PyData.bulkAll xs) ⟨a2, b2, Nat.le_trans (Nat.le_max_right _ _) d0, Nat.le_refl _⟩ t)
    exact r.mono (by omega) (Nat.le_refl _)
theorem Shw.int {i : Int} (h : i.natAbs < 10 ^ 23) : Shw 0 0 (.int i) := by
  refine ⟨?_, ?_, Nat.le_refl _, Nat.le_refl _⟩
  · simp only [PyData.showable, decide_eq_true_eq]
    by_cases z : i.natAbs = 0
    · rw [z]
      decide
    · exact (Nat.log2_lt z).mpr (Nat.lt_trans h (Nat.lt_of_lt_of_le (by decide : (10 : Nat) ^ 23 < 2 ^ 80) (Nat.pow_le_pow_right (by decide) (by decide))))
  · simp only [PyData.leavesShort, decide_eq_true_eq]
    have e := int_text_length_le10 (k := 23) (by decide) h
    show (Str.ofString (toString i)).length ≤ 24
    rw [PySem.ofString_length]
    exact e
theorem Shw.non : Shw 0 0 .none := ⟨rfl, rfl, Nat.le_refl _, Nat.le_refl _⟩
theorem Shw.bl (b : Bool) : Shw 0 0 (.bool b) := ⟨rfl, rfl, Nat.le_refl _, Nat.le_refl _⟩
theorem Shws.ints : ∀ {ns : List Int}, (∀ z ∈ ns, z.natAbs < 10 ^ 23) → Shws ns.length 0 (ns.map PyData.int)
  | [], _ => Shws.nil
  | z :: ns, h => by
    have r := Shws.cons (Shw.int (h z List.mem_cons_self)) (Shws.ints fun y hy => h y (List.mem_cons_of_mem _ hy))
    exact r.mono (by rw [List.length_cons]; omega) (Nat.le_refl _)
theorem Shws.lst {n k : Nat} {ds : List PyData} (h : Shws n k ds) : Shw n (k + 1) (.list ds) := ⟨h.sh, h.lv, Nat.succ_le_succ h.dp, h.bk⟩
theorem Shws.tup {n k : Nat} {ds : List PyData} (h : Shws n k ds) : Shw n (k + 1) (.tuple ds) := ⟨h.sh, h.lv, Nat.succ_le_succ h.dp, h.bk⟩
theorem Shw.fits {n k : Nat} {d : PyData} (h : Shw n k d) (hn : n ≤ 2 ^ 19) : d.shown.length ≤ sizeLine := by
  have h1 := PyData.shown_le_bulk 24 (by decide) d h.lv
  have e : (2 : Nat) ^ 19 = 524288 := by decide
  have h2 : (24 + 2) * d.bulk ≤ 26 * 524288 := Nat.mul_le_mul (by omega) (by have := h.bk; omega)
  rw [sizeLine_eq]
  omega
/-- items that stand for data -/
def ShDs (K : PySem.W.Frag) (H : Hp) (xs : List V) (ds : List PyData) : Prop := xs.length = ds.length ∧ ∀ (i : Nat) (v : V) (d : PyData), xs[i]? = some v → ds[i]? = some d → ShD K H v d
section
variable {K : PySem.W.Frag} {H : Hp}
theorem ShDs.nil : ShDs K H [] [] := ⟨rfl, fun i v d h => by simp at h⟩
theorem ShDs.cons {v : V} {d : PyData} {xs : List V} {ds : List PyData} (h : ShD K H v d) (t : ShDs K H xs ds) : ShDs K H (v :: xs) (d :: ds) := by
  refine ⟨by rw [List.length_cons, List.length_cons, t.1], fun i u e h1 h2 => ?_⟩
  cases i with
  | zero =>
    cases h1
    cases h2
    exact h
  | succ i => exact t.2 i u e h1 h2
theorem ShDs.app : ∀ {xs ys : List V} {ds es : List PyData}, ShDs K H xs ds → ShDs K H ys es → ShDs K H (xs ++ ys) (ds ++ es)
  | [], ys, [], es, _, t => t
  | x :: xs, ys, d :: ds, es, h, t => by
    refine ShDs.cons (h.2 0 x d rfl rfl) (ShDs.app ⟨Nat.succ.inj h.1, fun i u e h1 h2 => h.2 (i + 1) u e h1 h2⟩ t)
  | [], _, _ :: _, _, h, _ => nomatch h.1
  | _ :: _, _, [], _, h, _ => nomatch h.1
theorem ShDs.ints : ∀ (ns : List Int), ShDs K H (ns.map V.int) (ns.map PyData.int)
  | [] => ShDs.nil
  | z :: ns => ShDs.cons (.flat (.int z) rfl) (ShDs.ints ns)
theorem ShDs.lst {a : Addr} {xs : List V} {ds : List PyData} (h : SqL K H a xs) (t : ShDs K H xs ds) : ShD K H (.ref a) (.list ds) := .lst h t.1 t.2
theorem ShDs.tup {a : Addr} {xs : List V} {ds : List PyData} (h : SqT K H a xs) (t : ShDs K H xs ds) : ShD K H (.ref a) (.tuple ds) := .tup h t.1 t.2
end
end L2

/-! sources of draws whose first number may be of any sign; ints by draws, with a bound told of each -/
namespace L2
open PySem PySem.Spec PyProof.Rows
def SrcZ (H : Hp) (p : Addr) : Prop := ∃ x y z : Int, H p = some (.lst [.int x, .int y, .int z])
theorem SrcZ.put {H : Hp} {p : Addr} {x y z : Int} : SrcZ (L2.upd H p (.lst [.int x, .int y, .int z])) p := ⟨x, y, z, upd_same⟩
theorem SrcZ.ne {H : Hp} {p q : Addr} (h : SrcZ H p) (n : H q = none) : q ≠ p := fun e => by
  obtain ⟨x, y, z, hp⟩ := h
  rw [← e, n] at hp
  cases hp
theorem SrcZ.at {H H' : Hp} {p : Addr} (h : SrcZ H p) (e : H' p = H p) : SrcZ H' p := by
  obtain ⟨x, y, z, hp⟩ := h
  exact ⟨x, y, z, e.trans hp⟩
theorem SrcZ.upd {H : Hp} {p q : Addr} {o : HO} (h : SrcZ H p) (n : q ≠ p) : SrcZ (L2.upd H q o) p := h.at (upd_ne (Ne.symm n))
theorem SrcZ.new {H : Hp} {p q : Addr} {o : HO} (h : SrcZ H p) (n : H q = none) : SrcZ (L2.upd H q o) p := h.upd (h.ne n)
theorem SrcZ.same {H H' : Hp} {p : Addr} (h : SrcZ H p) (e : Same H H') : SrcZ H' p := by
  obtain ⟨x, y, z, hp⟩ := h
  exact ⟨x, y, z, e _ _ hp⟩
def DnZ (p : Addr) (H H' : Hp) : Prop := SB p H H' ∧ SrcZ H' p
theorem DnZ.put {p : Addr} {H : Hp} {x y z : Int} : DnZ p H (L2.upd H p (.lst [.int x, .int y, .int z])) := ⟨SB.put, .put⟩
theorem DnZ.trans {p : Addr} {H H1 H2 : Hp} (a : DnZ p H H1) (b : DnZ p H1 H2) : DnZ p H H2 := ⟨a.1.trans b.1, b.2⟩
theorem DnZ.new {p q : Addr} {H H' : Hp} {o : HO} (a : DnZ p H H') (n : H' q = none) : DnZ p H (L2.upd H' q o) := ⟨a.1.trans (SB.new n), a.2.new n⟩
theorem DnZ.same {p : Addr} {H H' H2 : Hp} (a : DnZ p H H') (e : Same H' H2) : DnZ p H H2 := ⟨a.1.trans (SB.of e), a.2.same e⟩
theorem DnZ.refl {p : Addr} {H : Hp} (h : SrcZ H p) : DnZ p H H := ⟨SB.refl p H, h⟩
theorem DnZ.free {p q : Addr} {H H' : Hp} (a : DnZ p H H') (n : H' q = none) : H q = none := a.1.free (a.2.ne n) n
/-- a comprehension over range(n), each item an int reckoned by draws, of which something is told -/
theorem lc_intsZ {te : TE} {σ : L2.St} {H1 : Hp} {D p : Addr} {n j : Nat} {vs : List Nat} {Qd : Hp → Prop} (Pr : Int → Prop) (hn : n ≤ 1000000) (hs : SrcZ H1 p) (hD : H1 D = none)
    (hw : ∀ v, wipe ((wipe σ vs).set j v) vs = wipe σ vs)
    (he : ∀ (k : Nat) (H3 : Hp) (R : VK), k < n → DnZ p H1 H3 → (∀ (v : Int) (H4 : Hp), Pr v → DnZ p H3 H4 → R (.int v) H4) → te ((wipe σ vs).set j (some (.int (0 + (k : Nat))))) H3 R)
    (hd : ∀ (ms : List Int) (H' : Hp), ms.length = n → (∀ v ∈ ms, Pr v) → DnZ p H1 H' → H' D = some (.lst (ms.map V.int)) → Qd H') :
    ∃ W : Nat → Nat → Hp → Prop, (∃ m, W 0 m (L2.upd H1 D (.lst []))) ∧ ∀ i m H, W i m H →
      ((Itr 0 n).stop i H ∧ Qd H) ∨ ((Itr 0 n).go i H ∧ ∃ Nx : Hp → Prop, (∀ H', Nx H' → ∃ m', m' < m ∧ W (i + 1) m' H') ∧ ∀ x H', (Itr 0 n).yld i H x H' → gName j x (wipe σ vs) H' fun σ2 H2 => wipe σ2 vs = wipe σ vs ∧ tYes σ2 H2 fun b H3 =>
        if b = true then te σ2 H3 fun y H4 => ∃ acc, H4 D = some (.lst acc) ∧ acc.length < sizeLine ∧ Nx (L2.upd H4 D (.lst (acc ++ [y]))) else Nx H3) := by
  have nD : D ≠ p := hs.ne hD
  refine lc_range (lo := 0) (n := n) (fun i H => ∃ ms : List Int, ms.length = i ∧ (∀ v ∈ ms, Pr v) ∧ DnZ p H1 H ∧ H D = some (.lst (ms.map V.int))) ⟨[], rfl, fun v h => by simp at h, (DnZ.refl hs).new hD, upd_same⟩ ?_ ?_
  · rintro i H hi ⟨ms, hl, hp, dr, hh⟩
    refine ⟨hw _, ?_⟩
    refine he i H _ hi dr fun v H4 pv d4 => ?_
    have h4 := d4.1 _ _ nD hh
    refine ⟨_, h4, ?_, ms ++ [v], by simp [hl], fun u hu => ?_, ?_, ?_⟩
    · rw [List.length_map, hl]
      exact Nat.lt_of_le_of_lt (Nat.le_trans (Nat.le_of_lt hi) hn) (by decide)
    · rcases List.mem_append.mp hu with hu | hu
      · exact hp u hu
      · rw [List.mem_singleton.mp hu]
        exact pv
    · have dd := dr.trans d4
      refine ⟨fun b o nb e => ?_, dd.2.upd nD⟩
      rw [upd_ne (ne_of_none e hD)]
      exact dd.1 b o nb e
    · rw [map_snoc]
      exact upd_same
  · rintro H ⟨ms, hl, hp, dr, hh⟩
    exact hd ms H hl hp dr hh
/-- a comprehension over a list of ints, each item an int reckoned by draws -/
theorem lc_listZ {K : PySem.W.Frag} {te : TE} {σ : L2.St} {H1 : Hp} {D p l : Addr} {ns : List Int} {j : Nat} {vs : List Nat} {Qd : Hp → Prop} (Pr : Int → Prop) (hn : ns.length ≤ 1000000) (hs : SrcZ H1 p) (hD : H1 D = none) (hl : H1 l = some (.lst (ns.map V.int))) (nl : l ≠ p)
    (hw : ∀ v, wipe ((wipe σ vs).set j v) vs = wipe σ vs)
    (he : ∀ (z : Int) (H3 : Hp) (R : VK), z ∈ ns → DnZ p H1 H3 → (∀ (v : Int) (H4 : Hp), Pr v → DnZ p H3 H4 → R (.int v) H4) → te ((wipe σ vs).set j (some (.int z))) H3 R)
    (hd : ∀ (ms : List Int) (H' : Hp), ms.length = ns.length → (∀ v ∈ ms, Pr v) → DnZ p H1 H' → H' D = some (.lst (ms.map V.int)) → Qd H') :
    ∃ W : Nat → Nat → Hp → Prop, (∃ m, W 0 m (L2.upd H1 D (.lst []))) ∧ ∀ i m H, W i m H →
      ((Itl K l).stop i H ∧ Qd H) ∨ ((Itl K l).go i H ∧ ∃ Nx : Hp → Prop, (∀ H', Nx H' → ∃ m', m' < m ∧ W (i + 1) m' H') ∧ ∀ x H', (Itl K l).yld i H x H' → gName j x (wipe σ vs) H' fun σ2 H2 => wipe σ2 vs = wipe σ vs ∧ tYes σ2 H2 fun b H3 =>
        if b = true then te σ2 H3 fun y H4 => ∃ acc, H4 D = some (.lst acc) ∧ acc.length < sizeLine ∧ Nx (L2.upd H4 D (.lst (acc ++ [y]))) else Nx H3) := by
  have nD : D ≠ p := hs.ne hD
  refine lc_list (K := K) (a := l) (xs := ns.map V.int) (fun i H => ∃ ms : List Int, ms.length = i ∧ (∀ v ∈ ms, Pr v) ∧ DnZ p H1 H ∧ H D = some (.lst (ms.map V.int))) ⟨[], rfl, fun v h => by simp at h, (DnZ.refl hs).new hD, upd_same⟩ (fun i H _ ⟨ms, _, _, dr, _⟩ => L2.sq_of (dr.1 _ _ nl hl)) ?_ ?_
  · rintro i y H hy ⟨ms, hm, hp, dr, hh⟩
    obtain ⟨z, hz, rfl⟩ : ∃ z, z ∈ ns ∧ y = .int z := by
      rw [List.getElem?_map] at hy
      cases e : ns[i]? with
      | none => rw [e] at hy; cases hy
      | some z => rw [e] at hy; exact ⟨z, List.mem_of_getElem? e, (Option.some.inj hy).symm⟩
    have hi : i < ns.length := by
      have := (List.getElem?_eq_some_iff.mp hy).1
      rwa [List.length_map] at this
    refine ⟨hw _, ?_⟩
    refine he z H _ hz dr fun v H4 pv d4 => ?_
    have h4 := d4.1 _ _ nD hh
    refine ⟨_, h4, ?_, ms ++ [v], by simp [hm], fun u hu => ?_, ?_, ?_⟩
    · rw [List.length_map, hm]
      exact Nat.lt_of_le_of_lt (Nat.le_trans (Nat.le_of_lt hi) hn) (by decide)
    · rcases List.mem_append.mp hu with hu | hu
      · exact hp u hu
      · rw [List.mem_singleton.mp hu]
        exact pv
    · have dd := dr.trans d4
      refine ⟨fun b o nb e => ?_, dd.2.upd nD⟩
      rw [upd_ne (ne_of_none e hD)]
      exact dd.1 b o nb e
    · rw [map_snoc]
      exact upd_same
  · rintro H ⟨ms, hm, hp, dr, hh⟩
    exact hd ms H (by rw [hm, List.length_map]) hp dr hh
end L2

/-! list(zip(a, b)) of two lists: every tuple is kept -/
namespace PySem
open Sem (wp)
theorem lz_no_len : typeLookup (.type "zip") "__len__" = pure none := am_miss_of_fast (by decide +kernel)
theorem lz_no_hint : typeLookup (.type "zip") "__length_hint__" = pure none := am_miss_of_fast (by decide +kernel)
/-- the pairs given so far, kept in a list -/
structure Gvn (h : Heap) (lo : Nat) (acc : Array Value) (xs ys : Array Value) : Prop where
  each : ∀ (j : Nat) (v : Value), acc[j]? = some v → ∃ (T : Addr) (x y : Value), v = Value.ref T ∧ IsPair h T x y ∧ xs[j]? = some x ∧ ys[j]? = some y ∧ lo ≤ T
  apart : acc.toList.Nodup
theorem Gvn.nil {h : Heap} {lo : Nat} {xs ys : Array Value} : Gvn h lo #[] xs ys := ⟨fun j v e => by simp at e, List.nodup_nil⟩
/-- how far a zip is -/
def ZAt (h : Heap) (z TI TO i1 i2 l1 l2 : Addr) (k : Nat) : Prop :=
  ((k = 0 ∧ ∃ a b, IsZip h z TI TO .none ∧ IsPair h TO a b) ∨ ∃ T f a b, IsZipHeld h z TI TO T f ∧ IsPair h T a b) ∧ IsPair h TI (.ref i1) (.ref i2) ∧ h.IsListIter i1 l1 k ∧ h.IsListIter i2 l2 k
theorem ZAt.isZip {h : Heap} {z TI TO i1 i2 l1 l2 : Addr} {k : Nat} (x : ZAt h z TI TO i1 i2 l1 l2 k) : ∃ o, h.get? z = some o ∧ o.cls = .type "zip" := by
  rcases x.1 with ⟨_, a, b, q, _⟩ | ⟨T, f, a, b, q, _⟩
  · exact ⟨_, q, rfl⟩
  · exact ⟨_, q, rfl⟩
/-- the places that change -/
abbrev zchg (z TO i1 i2 S : Addr) : List Addr := [z, TO, i1, i2, S]
section
variable {prog : Program} {w : World} {A : Around} {R : Result → Shared → Prop} {z TI TO i1 i2 l1 l2 S : Addr} {xs ys : Array Value} {lo : Nat}
theorem ZAt.pair {h : Heap} {k : Nat} (Z : ZAt h z TI TO i1 i2 l1 l2 k) {T : Addr} {x y : Value} (p : IsPair h T x y) : T ≠ z ∧ T ≠ i1 ∧ T ≠ i2 := by
  obtain ⟨oz, ez, cz⟩ := Z.isZip
  obtain ⟨o1, e1, d1, _⟩ := Z.2.2.1
  obtain ⟨o2, e2, d2, _⟩ := Z.2.2.2
  refine ⟨fun e => ?_, fun e => ?_, fun e => ?_⟩
  · rw [← e, p] at ez
    rw [← Option.some.inj ez] at cz
    exact absurd (Value.type.inj cz) (by decide)
  · rw [← e, p] at e1
    rw [← Option.some.inj e1] at d1
    exact absurd (Value.type.inj d1) (by decide)
  · rw [← e, p] at e2
    rw [← Option.some.inj e2] at d2
    exact absurd (Value.type.inj d2) (by decide)
/-- one pair more -/
theorem Gvn.push {h h' : Heap} {acc : Array Value} {k : Nat} {T : Addr} {x y : Value} (G : Gvn h lo acc xs ys) (ak : acc.size = k) (keep : ∀ (j : Nat) (v : Value) (T : Addr) (x y : Value), acc[j]? = some v → v = Value.ref T → IsPair h T x y → IsPair h' T x y) (hT : IsPair h' T x y) (hx : xs[k]? = some x) (hy : ys[k]? = some y) (hl : lo ≤ T) (new : h.get? T = none) : Gvn h' lo (acc.push (Value.ref T)) xs ys := by
  refine ⟨fun j v e => ?_, ?_⟩
  · rw [Array.getElem?_push] at e
    by_cases c : j = acc.size
    · rw [if_pos c] at e
      obtain rfl := Option.some.inj e
      exact ⟨T, x, y, rfl, hT, by rw [c, ak]; exact hx, by rw [c, ak]; exact hy, hl⟩
    · rw [if_neg c] at e
      obtain ⟨T', x', y', rfl, p, q⟩ := G.each j v e
      exact ⟨T', x', y', rfl, keep j _ T' x' y' e rfl p, q⟩
  · rw [Array.toList_push]
    refine List.nodup_append.mpr ⟨G.apart, List.nodup_cons.mpr ⟨by simp, List.nodup_nil⟩, fun a ha b hb e => ?_⟩
    rw [List.mem_singleton.mp hb] at e
    subst e
    obtain ⟨j, hj⟩ := List.getElem?_of_mem ha
    obtain ⟨T', x', y', e', p, _⟩ := G.each j _ (by rw [← Array.getElem?_toList]; exact hj)
    cases e'
    have p : h.get? T = some _ := p
    rw [new] at p
    cases p
theorem pair_list {h : Heap} {T S : Addr} {x y : Value} {o : Obj} (p : IsPair h T x y) (e : h.get? S = some o) (c : o.cls = .type "list") : T ≠ S := fun q => by
  rw [q] at p
  have p : h.get? S = some _ := p
  rw [e] at p
  have := Option.some.inj p
  rw [this] at c
  exact absurd (Value.type.inj c) (by decide)
theorem lz_loop (hh : A.handled = none) (D : ZipApart z TI TO i1 i2 l1 l2) (hS : S ≠ z ∧ S ≠ TI ∧ S ≠ TO ∧ S ≠ i1 ∧ S ≠ i2 ∧ S ≠ l1 ∧ S ≠ l2) (res : Value) :
    ∀ (m k : Nat) (s : Shared) (acc : Array Value) (c : Nat), k + m = min xs.size ys.size → xs.size + ys.size ≤ 1000 → ZAt s.heap z TI TO i1 i2 l1 l2 k → s.heap.IsList l1 xs → s.heap.IsList l2 ys →
    s.heap.get? S = some { cls := .type "list", dict := none, data := .seq acc c, slots := #[] } → acc.size = k → Gvn s.heap lo acc xs ys → lo ≤ s.heap.objs.size →
    (∀ h' acc' c', (∀ b o, b ∉ zchg z TO i1 i2 S → s.heap.get? b = some o → h'.get? b = some o) → h'.get? S = some { cls := .type "list", dict := none, data := .seq acc' c', slots := #[] } → acc'.size = min xs.size ys.size → Gvn h' lo acc' xs ys → R (.ok (.ret res)) { s with heap := h' }) →
    codeAny (model prog w) A (.builtin "list.extend.loop" ⟨[.ref S, .ref z, res], []⟩) R s := by
  obtain ⟨S1, S2, S3, S4, S5, S6, S7⟩ := hS
  intro m
  induction m with
  | zero =>
    intro k s acc c km small Z L1 L2 hl ak G hlo out
    refine codeAny_builtin F.entry_extend_loop ?_
    rw [Around.under_plainId F.plain_extend_loop _]
    show wpAny _ A.in1 (pyNext (.ref z) >>= _) _ _ s
    have last : xs[k]? = none ∨ ys[k]? = none := by
      rcases Nat.le_total xs.size ys.size with q | q
      · exact .inl (Array.getElem?_eq_none (by omega))
      · exact .inr (Array.getElem?_eq_none (by omega))
    rcases Z.1 with ⟨k0, a, b, hz, hO⟩ | ⟨T, f, a, b, hz, hT⟩
    · have ea : acc = #[] := Array.eq_empty_of_size_eq_zero (by omega)
      subst ea
      refine wpAny_bind (wpAny_pyNext_zip_end hh D hz Z.2.1 hO Z.2.2.1 Z.2.2.2 L1 L2 last fun h' keep => wpAny_pure ?_)
      exact out h' #[] c (fun b o nb e => keep b o (fun q => nb (by simp [q])) (fun q => nb (by simp [q])) (fun q => nb (by simp [q])) (fun q => nb (by simp [q])) e) (keep _ _ S1 S3 S4 S5 hl) (by omega) .nil
    · refine wpAny_bind (wpAny_pyNext_zip_end_held hh D hz hT Z.2.1 Z.2.2.1 Z.2.2.2 L1 L2 last fun h' keep => wpAny_pure ?_)
      refine out h' acc c (fun b o nb e => keep b o (fun q => nb (by simp [q])) (fun q => nb (by simp [q])) (fun q => nb (by simp [q])) e) (keep _ _ S1 S4 S5 hl) (by omega) ⟨fun j v e => ?_, G.apart⟩
      obtain ⟨T, x, y, rfl, p, q⟩ := G.each j v e
      obtain ⟨n1, n2, n3⟩ := Z.pair p
      exact ⟨T, x, y, rfl, keep _ _ n1 n2 n3 p, q⟩
  | succ m ih =>
    intro k s acc c km small Z L1 L2 hl ak G hlo out
    refine codeAny_builtin F.entry_extend_loop ?_
    rw [Around.under_plainId F.plain_extend_loop _]
    show wpAny _ A.in1 (pyNext (.ref z) >>= _) _ _ s
    obtain ⟨x, hx⟩ : ∃ x, xs[k]? = some x := ⟨_, Array.getElem?_eq_getElem (by omega)⟩
    obtain ⟨y, hy⟩ : ∃ y, ys[k]? = some y := ⟨_, Array.getElem?_eq_getElem (by omega)⟩
    have nl1 : ∀ {b : Addr} {o : Obj} {n : String}, s.heap.get? b = some o → o.cls = .type n → n ≠ "list" → l1 ≠ b ∧ l2 ≠ b := fun {b o n} e cl ne => by
      obtain ⟨o1, e1, c1, _⟩ := L1
      obtain ⟨o2, e2, c2, _⟩ := L2
      refine ⟨fun q => ?_, fun q => ?_⟩
      · rw [q, e] at e1
        rw [← Option.some.inj e1, cl] at c1
        exact ne (Value.type.inj c1)
      · rw [q, e] at e2
        rw [← Option.some.inj e2, cl] at c2
        exact ne (Value.type.inj c2)
    have Tsz : s.heap.get? s.heap.objs.size = none := by
      cases q : s.heap.get? s.heap.objs.size with
      | none => rfl
      | some o => exact absurd (Heap.lt_size q) (Nat.lt_irrefl _)
    -- what is the same in both cases
    have go : ∀ (h' : Heap) (T0 : Addr) (f : Bool) (a b : Value), IsZipHeld h' z TI TO T0 f → IsPair h' T0 a b → h'.IsListIter i1 l1 (k + 1) → h'.IsListIter i2 l2 (k + 1) → IsPair h' s.heap.objs.size x y → h'.objs.size = s.heap.objs.size + 1 →
        (∀ c o, c ≠ z → c ≠ TO → c ≠ i1 → c ≠ i2 → s.heap.get? c = some o → h'.get? c = some o) → (∀ (j : Nat) (v : Value) (T : Addr) (x y : Value), acc[j]? = some v → v = Value.ref T → IsPair s.heap T x y → IsPair h' T x y) →
        wpAny (model prog w) A.in1 (updateSeq S (·.push (Value.ref s.heap.objs.size)) >>= fun _ => again (.builtin "list.extend.loop" ⟨[.ref S, .ref z, res], []⟩))
          (fun fin s' => match fin with | .done f => R (.ok f) s' | .again c' => c'.quiet = true ∧ codeAny (model prog w) A c' R s') (fun e s' => R (.error e) s') { s with heap := h' } := fun h' T0 f a b hz' hT0 h1' h2' hp hsz keep kacc => by
      have hl' := keep _ _ S1 S3 S4 S5 hl
      refine wpAny_bind ?_
      have upO : ∀ b o, b ≠ S → h'.get? b = some o → (h'.update S (Obj.mapSeq (·.push (Value.ref s.heap.objs.size)))).get? b = some o := fun b o n e => (Heap.get?_update_other _ _ (Ne.symm n)).trans e
      have nTS : s.heap.objs.size ≠ S := fun q => by
        have := Heap.lt_size hl
        rw [← q] at this
        exact Nat.lt_irrefl _ this
      have G2 := G.push (h' := h'.update S (Obj.mapSeq (·.push (Value.ref s.heap.objs.size)))) ak (fun j v T x y e ev p => upO _ _ (pair_list p hl rfl) (kacc j v T x y e ev p)) (upO _ _ nTS hp) hx hy hlo Tsz
      refine wpAny_updateSeq hl' rfl (wpAny_pure ⟨plainId_quiet F.plain_extend_loop _, ih (k + 1) _ (acc.push (Value.ref s.heap.objs.size)) _ (by omega) small ⟨.inr ⟨T0, f, a, b, upO _ _ (Ne.symm S1) hz', upO _ _ (pair_list hT0 hl' rfl) hT0⟩, upO _ _ (Ne.symm S2) (keep _ _ D.TIz D.TITO D.TIi1 D.TIi2 Z.2.1), h1'.at fun o e => upO _ _ (Ne.symm S4) e, h2'.at fun o e => upO _ _ (Ne.symm S5) e⟩ ?_ ?_ (Heap.get?_update_self _ hl' rfl) (by rw [Array.size_push, ak]) G2 ?_ ?_⟩) (by rw [ak]; exact Nat.le_trans (by omega : k ≤ 1000) (by decide)) (by show (acc.push _).size ≤ sizeLine + 1; rw [Array.size_push, ak]; exact Nat.le_trans (by omega : k + 1 ≤ 1001) (by decide))
      · obtain ⟨o, e, r⟩ := L1
        exact ⟨o, upO _ _ (Ne.symm S6) (keep _ _ D.l1z D.l1TO D.l1i1 D.l1i2 e), r⟩
      · obtain ⟨o, e, r⟩ := L2
        exact ⟨o, upO _ _ (Ne.symm S7) (keep _ _ D.l2z D.l2TO D.l2i1 D.l2i2 e), r⟩
      · show lo ≤ (h'.update S _).objs.size
        rw [Heap.size_update, hsz]
        omega
      · intro h2 acc2 c2 k2 hS2 sz2 g2
        refine out h2 acc2 c2 (fun b o nb e => k2 b o nb (upO b o (fun q => nb (by simp [q])) (keep b o (fun q => nb (by simp [q])) (fun q => nb (by simp [q])) (fun q => nb (by simp [q])) (fun q => nb (by simp [q])) e))) hS2 sz2 g2
    rcases Z.1 with ⟨k0, a, b, hz, hO⟩ | ⟨T, f, a, b, hz, hT⟩
    · have ea : acc = #[] := Array.eq_empty_of_size_eq_zero (by omega)
      refine wpAny_bind (wpAny_pyNext_zip_item D hz Z.2.1 hO Z.2.2.1 Z.2.2.2 L1 L2 hx hy fun h' z' _ h1' h2' hp hsz keep => ?_)
      exact go h' _ false x y z' hp h1' h2' hp hsz keep fun j v T x y e _ _ => by rw [ea] at e; simp at e
    · refine wpAny_bind (wpAny_pyNext_zip_item_held D hz hT Z.2.1 Z.2.2.1 Z.2.2.2 L1 L2 hx hy fun h' z' h1' h2' hp hsz keep => ?_)
      obtain ⟨m1, m2, m3⟩ := Z.pair hT
      refine go h' T true a b z' (keep _ _ m1 m2 m3 hT) h1' h2' hp hsz (fun c o n1 _ n3 n4 e => keep c o n1 n3 n4 e) fun j v T x y e ev p => ?_
      obtain ⟨n1, n2, n3⟩ := Z.pair p
      exact keep _ _ n1 n2 n3 p
theorem lz_extend (hh : A.handled = none) (D : ZipApart z TI TO i1 i2 l1 l2) (hS : S ≠ z ∧ S ≠ TI ∧ S ≠ TO ∧ S ≠ i1 ∧ S ≠ i2 ∧ S ≠ l1 ∧ S ≠ l2) (res : Value) {s : Shared} {c₀ : Nat} {a b : Value} (small : xs.size + ys.size ≤ 1000)
    (hz : IsZip s.heap z TI TO .none) (hO : IsPair s.heap TO a b) (hI : IsPair s.heap TI (.ref i1) (.ref i2)) (h1 : s.heap.IsListIter i1 l1 0) (h2 : s.heap.IsListIter i2 l2 0) (L1 : s.heap.IsList l1 xs) (L2 : s.heap.IsList l2 ys)
    (hl : s.heap.get? S = some { cls := .type "list", data := .seq #[] c₀ }) (hlo : lo ≤ s.heap.objs.size)
    (out : ∀ h' acc' c', (∀ b o, b ∉ zchg z TO i1 i2 S → s.heap.get? b = some o → h'.get? b = some o) → h'.get? S = some { cls := .type "list", dict := none, data := .seq acc' c', slots := #[] } → acc'.size = min xs.size ys.size → Gvn h' lo acc' xs ys → R (.ok (.ret res)) { s with heap := h' }) :
    wpAny (model prog w) A.in1 (Builtin.List.listExtendWith (.ref S) (.ref z) res)
      (fun fin s' => match fin with | .done f => R (.ok f) s' | .again c' => c'.quiet = true ∧ codeAny (model prog w) A c' R s') (fun e s' => R (.error e) s') s := by
  have ty : s.TypeIs (.ref z) "zip" := ⟨_, hz, rfl⟩
  unfold Builtin.List.listExtendWith
  refine wpAny_bind (wpAny_typeOf ty ?_)
  have e1 : Builtin.List.listSameRef (.ref S) (.ref z) = false := by simp [Builtin.List.listSameRef, hS.1]
  have e2 : (Value.type "zip" == Value.type "list") = false := by decide
  have e3 : (Value.type "zip" == Value.type "tuple") = false := by decide
  simp only [e1, e2, e3, Bool.or_false, Bool.false_eq_true, if_false]
  refine wpAny_bind (wpAny_pyIter_zip hz ?_)
  refine wpAny_bind (wpAny_holding ?_)
  unfold Builtin.List.listLengthHint
  refine wpAny_bind (wpAny_specialOf ty lz_no_len ?_)
  show wpAny _ A.in1 (specialOf (Value.ref z) (Str.ofString "__length_hint__") >>= _) _ _ _
  refine wpAny_bind (wpAny_specialOf ty lz_no_hint ?_)
  refine wpAny_pure ?_
  show wpAny _ A.in1 (rule "list.extend.makes-room" >>= fun _ => Builtin.List.listTouch (.ref S) >>= fun _ => again (.builtin "list.extend.loop" ⟨[.ref S, .ref z, res], []⟩)) _ _ _
  refine wpAny_bind (wpAny_rule (wpAny_bind ?_))
  show wpAny _ A.in1 (updateSeq S (·.push .none) >>= fun _ => updateSeq S (·.pop)) _ _ _
  refine wpAny_bind (wpAny_updateSeq hl rfl ?_)
  have g2 := Heap.get?_update_self (Obj.mapSeq (·.push Value.none)) hl rfl
  refine wpAny_updateSeq (hz := by seq_fits) g2 rfl ?_
  have g3 := Heap.get?_update_self (Obj.mapSeq (·.pop)) g2 rfl
  have keep : ∀ b o, b ≠ S → s.heap.get? b = some o → ((s.heap.update S (Obj.mapSeq (·.push Value.none))).update S (Obj.mapSeq (·.pop))).get? b = some o :=
    fun b o n e => (Heap.get?_update_other _ _ (Ne.symm n)).trans ((Heap.get?_update_other _ _ (Ne.symm n)).trans e)
  obtain ⟨S1, S2, S3, S4, S5, S6, S7⟩ := id hS
  refine wpAny_pure ⟨plainId_quiet F.plain_extend_loop _, lz_loop hh D hS res (min xs.size ys.size) 0 _ #[] _ (Nat.zero_add _) small ⟨.inl ⟨rfl, a, b, keep _ _ (Ne.symm S1) hz, keep _ _ (Ne.symm S3) hO⟩, keep _ _ (Ne.symm S2) hI, h1.at fun o e => keep _ _ (Ne.symm S4) e, h2.at fun o e => keep _ _ (Ne.symm S5) e⟩
    (let ⟨o, e, r⟩ := L1; ⟨o, keep _ _ (Ne.symm S6) e, r⟩) (let ⟨o, e, r⟩ := L2; ⟨o, keep _ _ (Ne.symm S7) e, r⟩) g3 rfl .nil (by show lo ≤ ((s.heap.update S _).update S _).objs.size; rw [Heap.size_update, Heap.size_update]; exact hlo) fun h' acc' c' k q sz g => ?_⟩
  exact out h' acc' c' (fun b o nb e => k b o nb (keep b o (fun q => nb (by simp [q])) e)) q sz g
end
section
variable {prog : Program} {w : World} {A : Around} {E : Value → Shared → Prop} {s : Shared} {z TI TO i1 i2 l1 l2 : Addr} {xs ys : Array Value}
theorem lz_call {Q : Value → Shared → Prop} (hh : A.handled = none) (D : ZipApart z TI TO i1 i2 l1 l2) {a b : Value} (small : xs.size + ys.size ≤ 1000)
    (hz : IsZip s.heap z TI TO .none) (hO : IsPair s.heap TO a b) (hI : IsPair s.heap TI (.ref i1) (.ref i2)) (h1 : s.heap.IsListIter i1 l1 0) (h2 : s.heap.IsListIter i2 l2 0) (L1 : s.heap.IsList l1 xs) (L2 : s.heap.IsList l2 ys)
    (out : ∀ h' acc' c', (∀ b o, b ∉ zchg z TO i1 i2 s.heap.objs.size → s.heap.get? b = some o → h'.get? b = some o) → h'.get? s.heap.objs.size = some { cls := .type "list", dict := none, data := .seq acc' c', slots := #[] } → acc'.size = min xs.size ys.size → Gvn h' (s.heap.objs.size + 1) acc' xs ys → Q (.ref s.heap.objs.size) { s with heap := h' }) :
    wpAny (model prog w) A (call (.type "list") [.ref z]) Q E s := by
  refine callType_codes (Q₁ := fun obj t => obj = .ref s.heap.objs.size ∧ t = { s with heap := s.heap.push { cls := .type "list", data := .seq #[] } }) F.called_list (F.typeCall_list_1 _) F.entry_list_init (code_list_new _ ⟨rfl, rfl⟩) fun obj t ht => ?_
  obtain ⟨rfl, rfl⟩ := ht
  have hl : (s.heap.push { cls := .type "list", data := .seq #[] }).get? s.heap.objs.size = some { cls := .type "list", data := .seq #[] } := Heap.get?_push_size _ rfl
  have up : ∀ b o, s.heap.get? b = some o → (s.heap.push { cls := .type "list", data := .seq #[] }).get? b = some o := fun b o e => Heap.get?_push_of_some _ e
  have big : ∀ {b : Addr} {o : Obj}, s.heap.get? b = some o → s.heap.objs.size ≠ b := fun e q => Nat.lt_irrefl _ (q ▸ Heap.lt_size e)
  obtain ⟨o1, q1, r1⟩ := id h1
  obtain ⟨o2, q2, r2⟩ := id h2
  obtain ⟨p1, u1, v1⟩ := id L1
  obtain ⟨p2, u2, v2⟩ := id L2
  refine ⟨⟨_, hl, rfl⟩, F.args_list_init_2 _ _, ?_⟩
  show wpAny _ _ (do let old ← Builtin.List.listItems (.ref s.heap.objs.size); Builtin.List.listUpdate (.ref s.heap.objs.size) (fun _ => #[]); letGo old.toList.reverse; Builtin.List.listExtendWith (.ref s.heap.objs.size) (.ref z) .none) _ _ _
  refine wpAny_bind ?_
  unfold Builtin.List.listItems
  refine wpAny_bind (wpAny_seqItems hl rfl (wpAny_pure ?_))
  show wpAny _ _ (updateSeq s.heap.objs.size (fun _ => #[]) >>= fun _ => letGo (#[] : Array Value).toList.reverse >>= fun _ => Builtin.List.listExtendWith (.ref s.heap.objs.size) (.ref z) .none) _ _ _
  refine wpAny_bind (wpAny_updateSeq hl rfl ?_)
  have hl2 := Heap.get?_update_self (Obj.mapSeq (fun _ => (#[] : Array Value))) hl rfl
  have keep : ∀ b o, s.heap.get? b = some o → ((s.heap.push { cls := .type "list", data := .seq #[] }).update s.heap.objs.size (Obj.mapSeq (fun _ => (#[] : Array Value)))).get? b = some o := fun b o e => (Heap.get?_update_other _ _ (big e)).trans (up b o e)
  refine wpAny_bind (wpAny_letGo ?_)
  refine lz_extend (A := A.in1) (lo := s.heap.objs.size + 1) hh D ⟨big hz, big hI, big hO, big q1, big q2, big u1, big u2⟩ .none small (keep _ _ hz) (keep _ _ hO) (keep _ _ hI) ⟨o1, keep _ _ q1, r1⟩ ⟨o2, keep _ _ q2, r2⟩ ⟨p1, keep _ _ u1, v1⟩ ⟨p2, keep _ _ u2, v2⟩ hl2 (by
    show _ ≤ (Heap.update _ _ _).objs.size
    rw [Heap.size_update, Heap.size_push]
    exact Nat.le_refl _) fun h' acc' c' k q sz g => ?_
  exact ⟨rfl, out h' acc' c' (fun b o nb e => k b o nb (keep b o e)) q sz g⟩
end
end PySem
namespace L2
open PySem PySem.Spec PyProof.Rows
section
variable {X : Cx} {pins : List (Addr × Obj)} {σ : St}
/-- new objects that stand in the heap are tracked, many at once -/
theorem laidMany : ∀ (L : List (Addr × HO)) {H : Hp} {s : Shared} (h' : Heap), Inv X pins σ H s → (∀ b u, s.heap.get? b = some u → h'.get? b = some u) →
    (∀ q ∈ L, s.heap.get? q.1 = none ∧ H q.1 = none ∧ ∀ (H : Hp) (G : Heap), G.get? q.1 = h'.get? q.1 → ObjOk X.prog X.w H G q.1 q.2) → (L.map (·.1)).Nodup →
    ∃ H', Inv X pins σ H' { s with heap := h' } ∧ Same H H' ∧ (∀ q ∈ L, H' q.1 = some q.2) ∧ ∀ b, (∀ q ∈ L, q.1 ≠ b) → H' b = H b
  | [], H, s, h', I, k, _, _ => ⟨H, I.kept (t' := s.toks) k, Same.refl _, (fun q h => by cases h), fun _ _ => rfl⟩
  | q :: L, H, s, h', I, k, h, nd => by
    obtain ⟨G, g1, g2⟩ := restrict h' fun b => decide (b ≠ q.1)
    have gk : ∀ b, b ≠ q.1 → G.get? b = h'.get? b := fun b n => g1 b (decide_eq_true n)
    have gq : G.get? q.1 = none := g2 q.1 (decide_eq_false fun z => z rfl)
    obtain ⟨n1, n2⟩ := List.nodup_cons.mp nd
    obtain ⟨f1, f2, f3⟩ := h q (List.mem_cons_self ..)
    have ap : ∀ p ∈ L, p.1 ≠ q.1 := fun p hp e => n1 (by show q.1 ∈ _; rw [← e]; exact List.mem_map.mpr ⟨p, hp, rfl⟩)
    obtain ⟨H1, I1, s1, t1, o1⟩ := laidMany L (s := s) G I (fun b u e => by
      rw [gk b (fun z => by rw [z, f1] at e; cases e)]
      exact k b u e) (fun p hp => by
      obtain ⟨a1, a2, a3⟩ := h p (List.mem_cons_of_mem _ hp)
      exact ⟨a1, a2, fun H G' e => a3 H G' (e.trans (gk _ (ap p hp)))⟩) n2
    have hq : H1 q.1 = none := (o1 q.1 ap).trans f2
    refine ⟨upd H1 q.1 q.2, Inv.laidN (s := { s with heap := G }) (t' := s.toks) I1 (fun b u e => by
      have e : G.get? b = some u := e
      rw [gk b (fun z => by rw [z, gq] at e; cases e)] at e
      exact e) gq hq (f3 _ _ rfl), fun b o e => ?_, fun p hp => ?_, fun b hb => ?_⟩
    · rw [upd_ne (fun z => by rw [z, f2] at e; cases e)]
      exact s1 _ _ e
    · rcases List.mem_cons.mp hp with rfl | hp
      · exact upd_same
      · rw [upd_ne (ap p hp)]
        exact t1 p hp
    · rw [upd_ne (fun z => hb q (List.mem_cons_self ..) z.symm)]
      exact o1 b fun p hp => hb p (List.mem_cons_of_mem _ hp)
end
def tLZip (K : PySem.W.Frag) (ta : TA) : TE := fun σ H Q => ta σ H fun vs H1 => ∃ (a b : Addr) (xs ys : List V), vs = [V.ref a, V.ref b] ∧ SqL K H1 a xs ∧ SqL K H1 b ys ∧ xs.length + ys.length ≤ 1000 ∧
  ∀ (l : Addr) (H2 : Hp) (ts : List V), Same H1 H2 → H1 l = none → H2 l = some (.lst ts) → ts.length = min xs.length ys.length → (∀ (i : Nat) (x y : V), xs[i]? = some x → ys[i]? = some y → ∃ t, ts[i]? = some (V.ref t) ∧ H2 t = some (.tup [x, y])) → Q (V.ref l) H2
theorem pe_listZip {X : Cx} {e e2 : Expr} {ta : TA} {p q r pos : Pos} (hc : X.calm = true) (hgL : Gl X "list") (hmL : X.mg "list" = none) (hvL : bootBuiltins "list" = some (.type "list")) (hg : Gl X "zip") (hm : X.mg "zip" = none) (ha : PA X [e, e2] ta)
    (hs : starEach [e, e2] X.env = (false, eval e X.env) :: starEach [e2] X.env := by rfl) (hpl : (backTo r (starEach [e2] X.env)).any (·.1) = false := by rfl) :
    PE X (.Call (.Name "list" p) [.Call (.Name "zip" q) [e, e2] [] r] [] pos) (tLZip X.K ta) := by
  refine ⟨fun pins s σ H Q I h => ?_⟩
  refine wpAny_Call_Name_kw (ld_blt I hgL hmL hvL ?_ (by decide) (by decide))
  refine PyProof.Rows.callWith_type1 ?_ rfl rfl
  show wpAny _ _ (spliced ((false, eval (.Call (.Name "zip" q) [e, e2] [] r) X.env) :: backTo pos (starEach [] X.env))) _ _ s
  refine Calls.spliced_cons ?_
  refine Call_ (ld_blt I hg hm PyProof.Rows.boot_zip (PyProof.Rows.callWith_type1 (thn (ha.run r pins s σ H _ I h) fun us s1 ⟨vs, H1, I1, r1, q1⟩ => ?_) hs hpl))
  obtain ⟨a, b, xs, ys, ex, hqx, hqy, small, out⟩ := q1
  subst ex
  cases r1 with
  | cons r rr =>
    cases rr with
    | cons r' rr =>
      cases rr
      cases r
      cases r'
      obtain ⟨its, rv, p1, _⟩ := I1.list hqx
      obtain ⟨its2, rv2, p2, _⟩ := I1.list hqy
      have la : a < s1.heap.objs.size := p1.lt
      have lb : b < s1.heap.objs.size := p2.lt
      refine call_zip_2 p1.isList p2.isList fun h1 hz hTI hTO hi1 hi2 hsz hk => ?_
      refine Calls.spliced_nil ?_
      have ll1 := rv.length
      have ll2 := rv2.length
      refine lz_call (s := { s1 with heap := h1 }) (I.ok.hd hc) (PySem.W.ktu_apart s1.heap.objs.size a b la lb) (xs := its.toArray) (ys := its2.toArray) (by simp; omega) hz hTO hTI hi1 hi2 ?_ ?_ fun h2 acc c keep hl sz g => ?_
      · obtain ⟨o, eo, ro⟩ := p1.isList
        exact ⟨o, hk _ _ eo, ro⟩
      · obtain ⟨o, eo, ro⟩ := p2.isList
        exact ⟨o, hk _ _ eo, ro⟩
      have hsz : h1.objs.size = s1.heap.objs.size + 5 := hsz
      have k12 : ∀ b u, s1.heap.get? b = some u → h2.get? b = some u := fun b u eb => by
        have lt := Heap.lt_size eb
        refine keep b u (fun hm => ?_) (hk b u eb)
        have : b = s1.heap.objs.size + 4 ∨ b = s1.heap.objs.size + 3 ∨ b = s1.heap.objs.size ∨ b = s1.heap.objs.size + 1 ∨ b = h1.objs.size := by simpa using hm
        rcases this with q | q | q | q | q
        · rw [q] at lt
          exact Nat.not_lt_of_le (Nat.le_add_right _ _) lt
        · rw [q] at lt
          exact Nat.not_lt_of_le (Nat.le_add_right _ _) lt
        · rw [q] at lt
          exact Nat.lt_irrefl _ lt
        · rw [q] at lt
          exact Nat.not_lt_of_le (Nat.le_add_right _ _) lt
        · rw [q, hsz] at lt
          exact Nat.not_lt_of_le (Nat.le_add_right _ _) lt
      -- the new objects, tracked
      have free : ∀ b, s1.heap.objs.size ≤ b → s1.heap.get? b = none ∧ H1 b = none := fun b lb => by
        refine ⟨?_, I1.hok.fresh lb⟩
        cases e : s1.heap.get? b with
        | none => rfl
        | some o => exact absurd (Heap.lt_size e) (Nat.not_lt_of_le lb)
      have lacc : acc.toList.length = min xs.length ys.length := by
        rw [Array.length_toList, sz, ll1, ll2]
        simp
      obtain ⟨ts, hts⟩ : ∃ ts : List V, ts = acc.toList.map fun v => match v with | .ref t => V.ref t | _ => V.non := ⟨_, rfl⟩
      have lts : ts.length = min xs.length ys.length := by rw [hts, List.length_map, lacc]
      have at_ : ∀ (i : Nat) (x y : V), xs[i]? = some x → ys[i]? = some y → ∃ T u v, acc.toList[i]? = some (Value.ref T) ∧ ts[i]? = some (V.ref T) ∧ RelV x u ∧ RelV y v ∧ IsPair h2 T u v ∧ h1.objs.size + 1 ≤ T := fun i x y ex ey => by
        obtain ⟨u, eu, ru⟩ := rv.get ex
        obtain ⟨v, ev, rv'⟩ := rv2.get ey
        have li1 := (List.getElem?_eq_some_iff.mp ex).1
        have li2 := (List.getElem?_eq_some_iff.mp ey).1
        have li : i < acc.toList.length := by rw [lacc]; omega
        have ea : acc.toList[i]? = some acc.toList[i] := List.getElem?_eq_getElem li
        obtain ⟨T, x', y', e', p, g1, g2, g3⟩ := g.each i acc.toList[i] (by rw [← Array.getElem?_toList]; exact ea)
        have g1 : its[i]? = some x' := by simpa using g1
        have g2 : its2[i]? = some y' := by simpa using g2
        rw [eu] at g1
        rw [ev] at g2
        obtain rfl := Option.some.inj g1
        obtain rfl := Option.some.inj g2
        refine ⟨T, u, v, by rw [ea, e'], ?_, ru, rv', p, g3⟩
        rw [hts, List.getElem?_map, ea, e']
        rfl
      obtain ⟨L, hL⟩ : ∃ L : List (Addr × HO), L = (List.range (min xs.length ys.length)).map fun i => ((match acc.toList[i]? with | some (Value.ref t) => t | _ => 0), HO.tup [xs.getD i .non, ys.getD i .non]) := ⟨_, rfl⟩
      have inL : ∀ i, i < min xs.length ys.length → ∃ T u v, acc.toList[i]? = some (Value.ref T) ∧ ts[i]? = some (V.ref T) ∧ RelV (xs.getD i .non) u ∧ RelV (ys.getD i .non) v ∧ IsPair h2 T u v ∧ h1.objs.size + 1 ≤ T := fun i hi => by
        have e1 : xs[i]? = some (xs.getD i .non) := by rw [List.getD_eq_getElem?_getD, List.getElem?_eq_getElem (by omega)]; rfl
        have e2 : ys[i]? = some (ys.getD i .non) := by rw [List.getD_eq_getElem?_getD, List.getElem?_eq_getElem (by omega)]; rfl
        exact at_ i _ _ e1 e2
      have memL : ∀ q ∈ L, ∃ i, i < min xs.length ys.length ∧ acc.toList[i]? = some (Value.ref q.1) ∧ q.2 = HO.tup [xs.getD i .non, ys.getD i .non] ∧ h1.objs.size + 1 ≤ q.1 ∧ ∃ u v, RelV (xs.getD i .non) u ∧ RelV (ys.getD i .non) v ∧ IsPair h2 q.1 u v := fun q hq => by
        rw [hL] at hq
        obtain ⟨i, hi, rfl⟩ := List.mem_map.mp hq
        have hi := List.mem_range.mp hi
        obtain ⟨T, u, v, a1, _, a3, a4, a5, a6⟩ := inL i hi
        refine ⟨i, hi, ?_⟩
        rw [a1]
        exact ⟨rfl, rfl, a6, u, v, a3, a4, a5⟩
      have ndL : (L.map (·.1)).Nodup := by
        rw [hL, List.map_map]
        refine List.pairwise_map.mpr (List.Pairwise.imp_of_mem (R := fun i j => i < j) ?_ List.pairwise_lt_range)
        intro i j hi hj lt e
        have hi := List.mem_range.mp hi
        have hj := List.mem_range.mp hj
        obtain ⟨T, _, _, a1, _⟩ := inL i hi
        obtain ⟨T', _, _, b1, _⟩ := inL j hj
        have e : (match acc.toList[i]? with | some (Value.ref t) => t | _ => 0) = (match acc.toList[j]? with | some (Value.ref t) => t | _ => 0) := e
        rw [a1, b1] at e
        have e : T = T' := e
        rw [← e] at b1
        exact absurd ((List.getElem_inj (h₀ := (List.getElem?_eq_some_iff.mp a1).1) (h₁ := (List.getElem?_eq_some_iff.mp b1).1) g.apart).mp ((List.getElem?_eq_some_iff.mp a1).2.trans (List.getElem?_eq_some_iff.mp b1).2.symm)) (Nat.ne_of_lt lt)
      obtain ⟨H2, I2, s12, t2, o2⟩ := laidMany ((h1.objs.size, HO.lst ts) :: L) (s := s1) h2 I1 k12 (fun q hq => by
        rcases List.mem_cons.mp hq with rfl | hq
        · have fr := free h1.objs.size (by omega)
          refine ⟨fr.1, fr.2, fun H G e => ⟨by rw [lts]; exact Nat.le_trans (by omega : _ ≤ 1000) (by decide), acc.toList, c, vals_of_at (by rw [lts, lacc]) fun j x u ex eu => ?_, by rw [e]; simpa using hl⟩⟩
          have lj := (List.getElem?_eq_some_iff.mp eu).1
          rw [lacc] at lj
          obtain ⟨T, _, _, a1, a2, _⟩ := inL j lj
          rw [a1] at eu
          rw [a2] at ex
          rw [← Option.some.inj ex, ← Option.some.inj eu]
          rfl
        · obtain ⟨i, hi, a1, a2, a3, u, v, a4, a5, a6⟩ := memL q hq
          have fr := free q.1 (by omega)
          refine ⟨fr.1, fr.2, fun H G e => ?_⟩
          rw [a2]
          exact ⟨by show 2 ≤ sizeLine; decide, [u, v], .cons a4 (.cons a5 .nil), ⟨_, e.trans a6, rfl, _, rfl⟩⟩) (by
        rw [List.map_cons]
        refine List.nodup_cons.mpr ⟨fun hm => ?_, ndL⟩
        obtain ⟨q, hq, e⟩ := List.mem_map.mp hm
        obtain ⟨i, _, _, _, a3, _⟩ := memL q hq
        have e : q.1 = h1.objs.size := e
        rw [e] at a3
        omega)
      refine ⟨.ref h1.objs.size, H2, I2, rfl, out _ H2 ts s12 (free h1.objs.size (by omega)).2 (t2 _ (List.mem_cons_self ..)) lts fun i x y ex ey => ?_⟩
      have li1 := (List.getElem?_eq_some_iff.mp ex).1
      have li2 := (List.getElem?_eq_some_iff.mp ey).1
      obtain ⟨T, _, _, a1, a2, _⟩ := inL i (by omega)
      refine ⟨T, a2, ?_⟩
      have e1 : xs.getD i .non = x := by rw [List.getD_eq_getElem?_getD, ex]; rfl
      have e2 : ys.getD i .non = y := by rw [List.getD_eq_getElem?_getD, ey]; rfl
      have hm : (T, HO.tup [x, y]) ∈ L := by
        rw [hL]
        refine List.mem_map.mpr ⟨i, List.mem_range.mpr (by omega), ?_⟩
        rw [a1, e1, e2]
      exact t2 (T, HO.tup [x, y]) (List.mem_cons_of_mem _ hm)
end L2

/-! the least cost of joining pieces that lie side by side -/
namespace Mn
/-- the least of a row (0 of none) -/
def least : List Nat → Nat
  | [] => 0
  | [x] => x
  | x :: y :: r => min x (least (y :: r))
theorem least_le : ∀ {xs : List Nat} {x : Nat}, x ∈ xs → least xs ≤ x
  | [y], x, h => by rw [List.mem_singleton.mp h]; exact Nat.le_refl _
  | y :: z :: r, x, h => by
    show min y (least (z :: r)) ≤ x
    rcases List.mem_cons.mp h with rfl | h
    · exact Nat.min_le_left _ _
    · exact Nat.le_trans (Nat.min_le_right _ _) (least_le h)
theorem least_mem : ∀ {xs : List Nat}, xs ≠ [] → least xs ∈ xs
  | [], h => absurd rfl h
  | [y], _ => List.mem_singleton.mpr rfl
  | y :: z :: r, _ => by
    show min y (least (z :: r)) ∈ _
    by_cases c : y ≤ least (z :: r)
    · rw [Nat.min_eq_left c]
      exact List.mem_cons_self ..
    · rw [Nat.min_eq_right (by omega)]
      exact List.mem_cons_of_mem _ (least_mem (List.cons_ne_nil _ _))
theorem least_is {xs : List Nat} {m : Nat} (h : m ∈ xs) (l : ∀ x ∈ xs, m ≤ x) : least xs = m :=
  Nat.le_antisymm (least_le h) (l _ (least_mem fun e => by rw [e] at h; cases h))
/-- the least cost, by so many turns -/
def ms : Nat → List Nat → Nat
  | 0, _ => 0
  | k + 1, b => if b.length < 2 then 0 else least ((List.range (b.length - 1)).map fun c => ms k (b.take (c + 1)) + ms k (b.drop (c + 1))) + b.sum
theorem ms_more : ∀ {k b}, List.length b ≤ k → ms k b = ms b.length b
  | 0, b, h => by
    rw [show b.length = 0 from Nat.le_zero.mp h]
  | k + 1, b, h => by
    cases e : b.length with
    | zero =>
      show (if b.length < 2 then 0 else _) = 0
      rw [if_pos (by omega)]
    | succ n =>
      show (if b.length < 2 then 0 else _) = (if b.length < 2 then 0 else _)
      by_cases c : b.length < 2
      · rw [if_pos c, if_pos c]
      · rw [if_neg c, if_neg c]
        congr 2
        refine List.map_congr_left fun i hi => ?_
        have hi := List.mem_range.mp hi
        have l1 : (b.take (i + 1)).length = i + 1 := by rw [List.length_take]; omega
        have l2 : (b.drop (i + 1)).length = b.length - (i + 1) := List.length_drop
        rw [ms_more (k := k) (b := b.take (i + 1)) (by omega), ms_more (k := k) (b := b.drop (i + 1)) (by omega)]
        have n1 : b.length = n + 1 := e
        rw [ms_more (k := n) (b := b.take (i + 1)) (by omega), ms_more (k := n) (b := b.drop (i + 1)) (by omega)]
termination_by k b => k
/-- the least cost of joining the pieces of b -/
def M (b : List Nat) : Nat := ms b.length b
theorem M_few {b : List Nat} (h : b.length < 2) : M b = 0 := by
  unfold M
  cases e : b.length with
  | zero => rfl
  | succ n =>
    show (if b.length < 2 then 0 else _) = 0
    rw [if_pos h]
theorem M_eq {b : List Nat} (h : 2 ≤ b.length) : M b = least ((List.range (b.length - 1)).map fun c => M (b.take (c + 1)) + M (b.drop (c + 1))) + b.sum := by
  obtain ⟨n, e⟩ : ∃ n, b.length = n + 1 := ⟨b.length - 1, by omega⟩
  have : M b = ms (n + 1) b := by unfold M; rw [e]
  rw [this]
  show (if b.length < 2 then 0 else _) = _
  rw [if_neg (by omega)]
  congr 2
  refine List.map_congr_left fun i hi => ?_
  have hi := List.mem_range.mp hi
  have l1 : (b.take (i + 1)).length = i + 1 := by rw [List.length_take]; omega
  have l2 : (b.drop (i + 1)).length = b.length - (i + 1) := List.length_drop
  rw [ms_more (k := n) (b := b.take (i + 1)) (by omega), ms_more (k := n) (b := b.drop (i + 1)) (by omega)]
  rfl
/-- one join more -/
theorem M_join {u v : List Nat} (hu : u ≠ []) (hv : v ≠ []) : M (u ++ v) ≤ M u + M v + (u ++ v).sum := by
  have l1 : 0 < u.length := List.length_pos_iff.mpr hu
  have l2 : 0 < v.length := List.length_pos_iff.mpr hv
  have ll : (u ++ v).length = u.length + v.length := List.length_append
  rw [M_eq (by omega)]
  refine Nat.add_le_add_right (least_le (List.mem_map.mpr ⟨u.length - 1, List.mem_range.mpr (by omega), ?_⟩)) _
  rw [show u.length - 1 + 1 = u.length by omega, List.take_left, List.drop_left]
/-- the pieces that stand, as blocks of the lengths; what the joins have cost is at least what the blocks cost at best -/
def Stand (ls : List Nat) (ps : List Nat) (paid : Nat) : Prop := ∃ bs : List (List Nat), bs.flatten = ls ∧ (∀ b ∈ bs, b ≠ []) ∧ bs.map List.sum = ps ∧ (bs.map M).sum ≤ paid
theorem Stand.init {ls : List Nat} : Stand ls ls 0 := by
  refine ⟨ls.map fun x => [x], ?_, ?_, ?_, ?_⟩
  · induction ls with
    | nil => rfl
    | cons x r ih => show x :: ((r.map fun x => [x]).flatten) = _; rw [ih]
  · intro b hb
    obtain ⟨x, _, rfl⟩ := List.mem_map.mp hb
    exact List.cons_ne_nil _ _
  · rw [List.map_map]
    conv => rhs; rw [← List.map_id ls]
    refine List.map_congr_left fun x _ => ?_
    show [x].sum = x
    simp
  · refine Nat.le_of_eq ?_
    rw [List.map_map]
    induction ls with
    | nil => rfl
    | cons x r ih =>
      show M [x] + _ = 0
      rw [M_few (by show 1 < 2; decide), Nat.zero_add]
      exact ih
theorem Stand.join {ls p q : List Nat} {x y paid : Nat} (h : Stand ls (p ++ x :: y :: q) paid) : Stand ls (p ++ (x + y) :: q) (paid + (x + y)) := by
  obtain ⟨bs, e1, e2, e3, e4⟩ := h
  obtain ⟨b1, r1, rfl, rfl, r2⟩ := List.map_eq_append_iff.mp e3
  obtain ⟨u, r3, rfl, rfl, r4⟩ := List.map_eq_cons_iff.mp r2
  obtain ⟨v, r5, rfl, rfl, rfl⟩ := List.map_eq_cons_iff.mp r4
  have hu := e2 u (by simp)
  have hv := e2 v (by simp)
  refine ⟨b1 ++ (u ++ v) :: r5, ?_, fun b hb => ?_, ?_, ?_⟩
  · rw [← e1]; simp
  · rcases List.mem_append.mp hb with hb | hb
    · exact e2 b (List.mem_append_left _ hb)
    · rcases List.mem_cons.mp hb with rfl | hb
      · intro z
        exact hu (List.append_eq_nil_iff.mp z).1
      · exact e2 b (List.mem_append_right _ (List.mem_cons_of_mem _ (List.mem_cons_of_mem _ hb)))
  · simp [List.sum_append]
  · have := M_join hu hv
    rw [List.sum_append] at this
    simp only [List.map_append, List.map_cons, List.sum_append, List.sum_cons] at e4 ⊢
    omega
/-- when one piece stands, the joins have cost at least the least -/
theorem Stand.done {ls : List Nat} {x paid : Nat} (h : Stand ls [x] paid) : M ls ≤ paid := by
  obtain ⟨bs, e1, e2, e3, e4⟩ := h
  obtain ⟨b, r, rfl, _, r2⟩ := List.map_eq_cons_iff.mp e3
  obtain rfl := List.map_eq_nil_iff.mp r2
  have : b = ls := by rw [← e1]; simp
  rw [← this]
  simpa using e4
end Mn
namespace Mn
/-- the least cost of joining the pieces lo to hi - 1 -/
def C (ls : List Nat) (lo hi : Nat) : Nat := M ((ls.drop lo).take (hi - lo))
theorem C_one {ls : List Nat} {lo : Nat} : C ls lo (lo + 1) = 0 := by
  unfold C
  refine M_few ?_
  rw [List.length_take]
  omega
theorem cut_left {ls : List Nat} {lo hi k : Nat} (h : k ≤ hi - lo) : ((ls.drop lo).take (hi - lo)).take k = (ls.drop lo).take (lo + k - lo) := by
  rw [List.take_take, Nat.min_eq_left h, Nat.add_sub_cancel_left]
theorem cut_right {ls : List Nat} {lo hi k : Nat} (h : lo + k ≤ hi) : ((ls.drop lo).take (hi - lo)).drop k = (ls.drop (lo + k)).take (hi - (lo + k)) := by
  rw [List.drop_take, List.drop_drop]
  congr 1
  omega
theorem C_rec {ls : List Nat} {lo hi : Nat} (h : lo + 2 ≤ hi) (hn : hi ≤ ls.length) : C ls lo hi = least ((List.range (hi - lo - 1)).map fun c => C ls lo (lo + 1 + c) + C ls (lo + 1 + c) hi) + ((ls.drop lo).take (hi - lo)).sum := by
  have ll : ((ls.drop lo).take (hi - lo)).length = hi - lo := by
    rw [List.length_take, List.length_drop]
    omega
  unfold C
  rw [M_eq (by omega), ll]
  congr 2
  refine List.map_congr_left fun c hc => ?_
  have hc := List.mem_range.mp hc
  rw [cut_left (by omega), cut_right (by omega), show lo + (c + 1) = lo + 1 + c by omega]
theorem C_all {ls : List Nat} : C ls 0 ls.length = M ls := by
  unfold C
  rw [List.drop_zero, Nat.sub_zero, List.take_length]
end Mn

/-! the joins as a way; levels on the stack rise; pieces that are all alike -/
namespace L2
namespace Pile
/-- neighbours joined, one after another, of pieces (start, length) -/
inductive Way : List (Nat × Nat) → List (Nat × Nat × Nat) → List (Nat × Nat) → Prop
  | nil (R : List (Nat × Nat)) : Way R [] R
  | cons {p q : List (Nat × Nat)} {s a b : Nat} {js : List (Nat × Nat × Nat)} {R' : List (Nat × Nat)} : Way (p ++ (s, a + b) :: q) js R' → Way (p ++ (s, a) :: (s + a, b) :: q) ((s, a, b) :: js) R'
theorem Way.trans {R R1 R2 : List (Nat × Nat)} {js js1 : List (Nat × Nat × Nat)} (h : Way R js R1) (h2 : Way R1 js1 R2) : Way R (js ++ js1) R2 := by
  induction h with
  | nil => exact h2
  | cons _ ih => exact .cons (ih h2)
theorem Way.count {R R1 : List (Nat × Nat)} {js : List (Nat × Nat × Nat)} (h : Way R js R1) : R.length = R1.length + js.length := by
  induction h with
  | nil => rfl
  | cons _ ih =>
    simp only [List.length_append, List.length_cons] at ih ⊢
    omega
theorem Way.stand {R R1 : List (Nat × Nat)} {js : List (Nat × Nat × Nat)} (h : Way R js R1) {ls : List Nat} : ∀ {paid : Nat}, Mn.Stand ls (R.map (·.2)) paid → Mn.Stand ls (R1.map (·.2)) (paid + (js.map fun j => j.2.1 + j.2.2).sum) := by
  induction h with
  | nil => intro paid s; simpa using s
  | cons _ ih =>
    intro paid s
    rw [List.map_append, List.map_cons, List.map_cons] at s
    have := s.join
    rw [List.map_cons, List.sum_cons, ← Nat.add_assoc]
    refine ih ?_
    rw [List.map_append, List.map_cons]
    exact this
def row (ps : List Pc) : List (Nat × Nat) := ps.map fun c => (c.st, c.ln)
/-- the pieces that are still to come -/
def singles (ls : List Nat) (k : Nat) : List (Nat × Nat) := (List.range' k (ls.length - k)).map fun i => (stt ls i, ls.getD i 0)
theorem singles_succ {ls : List Nat} {k : Nat} (h : k < ls.length) : singles ls k = (stt ls k, ls.getD k 0) :: singles ls (k + 1) := by
  unfold singles
  rw [show ls.length - k = (ls.length - (k + 1)) + 1 by omega, List.range'_succ]
  rfl
theorem singles_end {ls : List Nat} : singles ls ls.length = [] := by
  unfold singles
  rw [Nat.sub_self]
  rfl
theorem singles_len {ls : List Nat} {k : Nat} : (singles ls k).length = ls.length - k := by
  unfold singles
  rw [List.length_map, List.length_range']
theorem singles_lens {ls : List Nat} : (singles ls 0).map (·.2) = ls := by
  unfold singles
  rw [List.map_map]
  refine List.ext_getElem (by simp) fun i h1 h2 => ?_
  rw [List.getElem_map]
  show ls.getD _ 0 = _
  rw [List.getElem_range', List.getD_eq_getElem?_getD]
  have : 0 + 1 * i = i := by omega
  rw [this, List.getElem?_eq_getElem h2]
  rfl
theorem two_of {ps : List Pc} {i : Nat} {c d : Pc} (hc : ps[i]? = some c) (hd : ps[i + 1]? = some d) : ps = ps.take i ++ c :: d :: ps.drop (i + 2) := by
  obtain ⟨h1, e1⟩ := List.getElem?_eq_some_iff.mp hc
  obtain ⟨h2, e2⟩ := List.getElem?_eq_some_iff.mp hd
  conv => lhs; rw [← List.take_append_drop i ps, List.drop_eq_getElem_cons h1, List.drop_eq_getElem_cons h2, e1, e2]
theorem Way.joinAt {ps : List Pc} {e i : Nat} (v : Inv ps e) (h : i + 1 < ps.length) (q : List (Nat × Nat)) : Way (row ps ++ q) [jn ps i] (row (Pile.join ps i) ++ q) := by
  obtain ⟨c, hc⟩ : ∃ c, ps[i]? = some c := ⟨_, List.getElem?_eq_getElem (by omega)⟩
  obtain ⟨d, hd⟩ : ∃ d, ps[i + 1]? = some d := ⟨_, List.getElem?_eq_getElem h⟩
  have sd := (v.side i c d hc hd).1
  have e1 : row ps ++ q = row (ps.take i) ++ (c.st, c.ln) :: (c.st + c.ln, d.ln) :: (row (ps.drop (i + 2)) ++ q) := by
    conv => lhs; rw [two_of hc hd]
    unfold row
    rw [sd]
    simp
  have e2 : row (Pile.join ps i) ++ q = row (ps.take i) ++ (c.st, c.ln + d.ln) :: (row (ps.drop (i + 2)) ++ q) := by
    rw [join_eq hc hd]
    unfold row
    simp
  have e3 : jn ps i = (c.st, c.ln, d.ln) := by
    unfold jn
    rw [hc, hd]
  rw [e1, e2, e3]
  exact .cons (.nil _)
theorem way_room {e b : Nat} : ∀ (k : Nat) (s : List Pc × List (Nat × Nat × Nat)), Inv s.1 e → ∀ q, ∃ js, (room b k s).2 = s.2 ++ js ∧ Way (row s.1 ++ q) js (row (room b k s).1 ++ q)
  | 0, s, _, q => ⟨[], (List.append_nil _).symm, .nil _⟩
  | k + 1, s, v, q => by
    unfold room
    cases z : hasTo s.1 b with
    | false => exact ⟨[], (List.append_nil _).symm, .nil _⟩
    | true =>
      have h2 := hasTo_two z
      obtain ⟨js, e1, w⟩ := way_room (b := b) k (join s.1 (s.1.length - 2), s.2 ++ [jn s.1 (s.1.length - 2)]) (v.join (by omega)) q
      refine ⟨jn s.1 (s.1.length - 2) :: js, ?_, (Way.joinAt v (by omega) q).trans w⟩
      exact e1.trans (by simp)
theorem way_fin {e : Nat} : ∀ (k : Nat) (s : List Pc × List (Nat × Nat × Nat)), Inv s.1 e → ∃ js, (fin k s).2 = s.2 ++ js ∧ Way (row s.1) js (row (fin k s).1)
  | 0, s, _ => ⟨[], (List.append_nil _).symm, .nil _⟩
  | k + 1, s, v => by
    by_cases h : 1 < s.1.length
    · rw [fin_step h]
      have n := next_lt (ps := s.1) (by omega)
      obtain ⟨js, e1, w⟩ := way_fin k (join s.1 (next s.1), s.2 ++ [jn s.1 (next s.1)]) (v.join n)
      refine ⟨jn s.1 (next s.1) :: js, e1.trans (by simp), ?_⟩
      have := Way.joinAt v n []
      rw [List.append_nil, List.append_nil] at this
      exact this.trans w
    · rw [fin_stop (by omega)]
      exact ⟨[], (List.append_nil _).symm, .nil _⟩
theorem fin_one : ∀ (k : Nat) (s : List Pc × List (Nat × Nat × Nat)), s.1.length ≤ k + 1 → (fin k s).1.length ≤ 1
  | 0, s, h => h
  | k + 1, s, h => by
    by_cases c : 1 < s.1.length
    · rw [fin_step c]
      have n := next_lt (ps := s.1) (by omega)
      have l := join_len n
      exact fin_one k (join s.1 (next s.1), s.2 ++ [jn s.1 (next s.1)]) (by show (join s.1 (next s.1)).length ≤ _; omega)
    · rw [fin_stop (by omega)]
      omega
theorem row_put (ps : List Pc) (st l : Nat) (b : Option Nat) : row (put ps st l b) = row ps ++ [(st, l)] := by
  unfold put
  cases h : ps.getLast? with
  | none => rw [List.getLast?_eq_none_iff.mp h]; rfl
  | some c =>
    obtain ⟨qs, rfl⟩ := List.getLast?_eq_some_iff.mp h
    rw [List.dropLast_concat]
    unfold row
    simp
theorem way_sts {w : Nat} {ls : List Nat} : ∀ k, k ≤ ls.length → Way (singles ls 0) (sts w ls k).2 (row (sts w ls k).1 ++ singles ls k)
  | 0, _ => .nil _
  | k + 1, h => by
    have ih := way_sts (w := w) (ls := ls) k (by omega)
    obtain ⟨v1, v2, v3⟩ := sts_inv (w := w) (ls := ls) k (by omega)
    rw [singles_succ (by omega : k < ls.length)] at ih
    show Way _ (step w (ls.take k).sum (sts w ls k) (ls.getD k 0)).2 (row (step w (ls.take k).sum (sts w ls k) (ls.getD k 0)).1 ++ _)
    have ap : ∀ (ps : List Pc) (b : Option Nat), row (put ps (ls.take k).sum (ls.getD k 0) b) ++ singles ls (k + 1) = row ps ++ (stt ls k, ls.getD k 0) :: singles ls (k + 1) := fun ps b => by
      rw [row_put, List.append_assoc]
      rfl
    unfold step
    cases brd w (sts w ls k).1 (ls.getD k 0) with
    | none =>
      show Way _ (sts w ls k).2 (row (put _ _ _ _) ++ _)
      rw [ap]
      exact ih
    | some b =>
      show Way _ (room b (sts w ls k).1.length (sts w ls k)).2 (row (put (room b (sts w ls k).1.length (sts w ls k)).1 _ _ _) ++ _)
      rw [ap]
      obtain ⟨js, e1, wr⟩ := way_room (b := b) (sts w ls k).1.length (sts w ls k) v1 ((stt ls k, ls.getD k 0) :: singles ls (k + 1))
      rw [e1]
      exact ih.trans wr
theorem way_joins {ls : List Nat} (h0 : 0 < ls.length) (h200 : ls.length ≤ 200) : ∃ x, Way (singles ls 0) (joins ls) [x] := by
  have w := way_sts (w := ls.sum) (ls := ls) ls.length (Nat.le_refl _)
  obtain ⟨v1, v2, v3⟩ := sts_inv (w := ls.sum) (ls := ls) ls.length (Nat.le_refl _)
  rw [singles_end, List.append_nil] at w
  obtain ⟨js, e1, w2⟩ := way_fin 200 ((sts ls.sum ls ls.length).1, []) v1
  have w3 := w.trans w2
  have l1 := fin_one 200 ((sts ls.sum ls ls.length).1, []) (by show (sts ls.sum ls ls.length).1.length ≤ _; omega)
  have c := fin_cnt 200 ((sts ls.sum ls ls.length).1, [])
  have cw := w3.count
  have l0 : (row (fin 200 ((sts ls.sum ls ls.length).1, [])).1).length = 1 := by
    have e : (row (fin 200 ((sts ls.sum ls ls.length).1, [])).1).length = (fin 200 ((sts ls.sum ls ls.length).1, [])).1.length := List.length_map _
    have cs := sts_cnt (w := ls.sum) (ls := ls) ls.length
    have z : (sts ls.sum ls ls.length).1 ≠ [] := fun z => by have := v3 z; omega
    have lp := List.length_pos_iff.mpr z
    have c2 := w2.count
    have er : (row (sts ls.sum ls ls.length).1).length = (sts ls.sum ls ls.length).1.length := List.length_map _
    rw [singles_len] at cw
    rw [e]
    rw [e] at c2
    rw [List.nil_append] at e1
    -- the row never is empty
    have ne : ∀ {R R1 : List (Nat × Nat)} {js : List (Nat × Nat × Nat)}, Way R js R1 → R ≠ [] → R1 ≠ [] := fun h => by
      induction h with
      | nil => exact fun h => h
      | cons _ ih => exact fun _ => ih (by simp)
    have := ne w2 (fun q => by have q2 := congrArg List.length q; simp only [row, List.length_map, List.length_nil] at q2; omega)
    have := List.length_pos_iff.mpr this
    rw [e] at this
    omega
  obtain ⟨x, hx⟩ := List.length_eq_one_iff.mp l0
  refine ⟨x, ?_⟩
  rw [List.nil_append] at e1
  unfold joins
  rw [← hx, e1]
  exact w3
theorem joins_count {ls : List Nat} (h0 : 0 < ls.length) (h200 : ls.length ≤ 200) : (joins ls).length + 1 = ls.length := by
  obtain ⟨x, w⟩ := way_joins h0 h200
  have := w.count
  rw [singles_len] at this
  simp only [List.length_singleton] at this
  omega
/-- the sort's own joins cost at least the least -/
theorem least_price {ls : List Nat} (h0 : 0 < ls.length) (h200 : ls.length ≤ 200) : Mn.M ls ≤ price ls := by
  obtain ⟨x, w⟩ := way_joins h0 h200
  have s := w.stand (ls := ls) (paid := 0) (by rw [singles_lens]; exact Mn.Stand.init)
  rw [Nat.zero_add] at s
  exact s.done
end Pile
end L2
namespace Mn
theorem two_pow_ge (s : Nat) : s + 2 ≤ 2 ^ (s + 1) := by
  induction s with
  | zero => decide
  | succ s ih => rw [Nat.pow_succ]; omega
theorem sum_alike (x : Nat) : ∀ n : Nat, (List.replicate n x).sum = n * x
  | 0 => by simp
  | n + 1 => by rw [List.replicate_succ, List.sum_cons, sum_alike x n, Nat.add_mul, Nat.one_mul, Nat.add_comm]
/-- alike pieces cost at least so much -/
theorem M_alike {x : Nat} : ∀ (n s : Nat), 1 ≤ n → x * (s + 2) * n ≤ M (List.replicate n x) + x * 2 ^ (s + 1) := by
  intro n
  induction n using Nat.strongRecOn with
  | _ n ih =>
    intro s h1
    rcases Nat.lt_or_ge n 2 with c | c
    · have : n = 1 := by omega
      subst this
      rw [Nat.mul_one]
      exact Nat.le_trans (Nat.mul_le_mul_left x (two_pow_ge s)) (Nat.le_add_left _ _)
    · rw [M_eq (by rw [List.length_replicate]; exact c), List.length_replicate]
      have hm := least_mem (xs := (List.range (n - 1)).map fun c => M ((List.replicate n x).take (c + 1)) + M ((List.replicate n x).drop (c + 1))) (fun e => by
        have := congrArg List.length e
        simp at this
        omega)
      obtain ⟨k, hk, e⟩ := List.mem_map.mp hm
      have hk := List.mem_range.mp hk
      rw [← e, List.take_replicate, List.drop_replicate, show min (k + 1) n = k + 1 by omega, sum_alike]

      have e2 : n = (k + 1) + (n - (k + 1)) := by omega
      cases s with
      | zero =>
        have a := ih (k + 1) (by omega) 0 (by omega)
        have b := ih (n - (k + 1)) (by omega) 0 (by omega)
        have e3 : x * (0 + 2) * n = x * (0 + 2) * (k + 1) + x * (0 + 2) * (n - (k + 1)) := by rw [← Nat.mul_add, ← e2]
        have e4 : x * 2 ≤ n * x := by rw [Nat.mul_comm]; exact Nat.mul_le_mul_right _ c
        have e5 : x * 2 ^ (0 + 1) = x * 2 := rfl
        omega
      | succ s =>
        have a := ih (k + 1) (by omega) s (by omega)
        have b := ih (n - (k + 1)) (by omega) s (by omega)
        have e3 : x * (s + 2) * n = x * (s + 2) * (k + 1) + x * (s + 2) * (n - (k + 1)) := by rw [← Nat.mul_add, ← e2]
        have e4 : x * (s + 1 + 2) * n = x * (s + 2) * n + n * x := by rw [show s + 1 + 2 = (s + 2) + 1 by omega, Nat.mul_add x (s + 2) 1, Nat.add_mul, Nat.mul_one, Nat.mul_comm n x]
        have e5 : x * 2 ^ (s + 1 + 1) = x * 2 ^ (s + 1) + x * 2 ^ (s + 1) := by rw [Nat.pow_succ 2 (s + 1), ← Nat.mul_assoc, Nat.mul_two]
        omega
end Mn
namespace L2
namespace Pile
/-- the level of the border behind piece i -/
def lvA (ls : List Nat) (i : Nat) : Nat := Lv.lev (2 * ls.sum) (2 * stt ls i + ls.getD i 0) (ls.getD i 0 + ls.getD (i + 1) 0)
def mid (ls : List Nat) (i : Nat) : Nat := 2 * stt ls i + ls.getD i 0
theorem stt_all {ls : List Nat} : stt ls ls.length = ls.sum := by unfold stt; rw [List.take_length]
theorem mid_succ {ls : List Nat} {i : Nat} (h : i + 1 < ls.length) : mid ls (i + 1) = mid ls i + (ls.getD i 0 + ls.getD (i + 1) 0) := by
  have := stt_succ (ls := ls) (i := i) (by omega)
  unfold mid
  omega
theorem mid_lt {ls : List Nat} (h1 : ∀ l ∈ ls, 1 ≤ l) {i : Nat} (h : i < ls.length) : mid ls i < 2 * ls.sum := by
  have e1 := stt_succ (ls := ls) (i := i) h
  have e2 := stt_le h1 (i := i + 1) (k := ls.length) h (Nat.le_refl _)
  have e3 := getD_pos h1 h
  rw [stt_all] at e2
  unfold mid
  omega
theorem lvA_mul {ls : List Nat} (h1 : ∀ l ∈ ls, 1 ≤ l) {t : Nat} (ht : 0 < t) {i : Nat} (h : i + 1 < ls.length) : lvA (ls.map fun l => l * t) i = lvA ls i := by
  have g : ∀ j, j < ls.length → (ls.map fun l => l * t).getD j 0 = ls.getD j 0 * t := fun j hj => by
    rw [List.getD_eq_getElem?_getD, List.getD_eq_getElem?_getD, List.getElem?_map, List.getElem?_eq_getElem hj]
    rfl
  have p := getD_pos h1 h
  have m := mid_lt h1 h
  rw [mid_succ h] at m
  unfold lvA
  rw [sum_mul, stt_mul, g i (by omega), g (i + 1) h, ← Nat.mul_assoc, ← Nat.mul_assoc, ← Nat.add_mul, ← Nat.add_mul]
  exact lev_mul ht (by omega) m
open Lv in
theorem fig_next {W m c : Nat} (hW : 0 < W) : fig W m (c + 1) = 2 * fig W m c ∨ fig W m (c + 1) = 2 * fig W m c + 1 := by
  have e : fig W m c = fig W m (c + 1) / 2 ^ (c + 1 - c) := fig_shift (by omega)
  rw [show c + 1 - c = 1 by omega, Nat.pow_one] at e
  omega
open Lv in
/-- in the first figure in which they are unlike, the lower one has 0, the upper one 1 -/
theorem lev_odd {W m d : Nat} (hd : 0 < d) (h : m + d < W) : fig W m (lev W m d) % 2 = 0 ∧ fig W (m + d) (lev W m d) % 2 = 1 := by
  obtain ⟨_, a2, _, a4, a5⟩ := lev_right hd h
  obtain ⟨c, hc⟩ : ∃ c, lev W m d = c + 1 := ⟨lev W m d - 1, by omega⟩
  rw [hc] at a5 ⊢
  have e := a4 c (by omega)
  have le : fig W m (c + 1) ≤ fig W (m + d) (c + 1) := by
    unfold fig
    exact Nat.div_le_div_right (Nat.mul_le_mul_right _ (by omega))
  have x := fig_next (W := W) (m := m) (c := c) (by omega)
  have y := fig_next (W := W) (m := m + d) (c := c) (by omega)
  rw [e] at x
  omega
/-- the levels on the stack rise, and are those of the borders -/
structure Rise (ls : List Nat) (k : Nat) (ps : List Pc) : Prop where
  at_ : ∀ c ∈ ps, ∀ v, c.lv = some v → (∃ i, i + 1 ≤ k ∧ c.st + c.ln = stt ls (i + 1) ∧ v = lvA ls i) ∧ Lv.fig (2 * ls.sum) (mid ls k) v % 2 = 1
  up : (ps.filterMap (·.lv)).Pairwise (· < ·)
  beg : ∀ c, ps[0]? = some c → c.st = 0
theorem Rise.pop {ls : List Nat} {k : Nat} {ps : List Pc} {e : Nat} (r : Rise ls k ps) (v : Inv ps e) (h : 2 ≤ ps.length) (top : ∀ c, ps.getLast? = some c → c.lv = none) : Rise ls k (join ps (ps.length - 2)) ∧ ∀ c, (join ps (ps.length - 2)).getLast? = some c → c.lv = none := by
  obtain ⟨c, hc⟩ : ∃ c, ps[ps.length - 2]? = some c := ⟨_, List.getElem?_eq_getElem (by omega)⟩
  obtain ⟨d, hd⟩ : ∃ d, ps[ps.length - 2 + 1]? = some d := ⟨_, List.getElem?_eq_getElem (by omega)⟩
  have hdn : d.lv = none := top d (by rw [List.getLast?_eq_getElem?, ← hd]; congr 1; omega)
  have ej := join_eq hc hd
  have dr : ps.drop (ps.length - 2 + 2) = [] := List.drop_eq_nil_of_le (by omega)
  rw [dr, List.append_nil] at ej
  refine ⟨⟨fun x hx w hw => ?_, ?_, fun x hx => ?_⟩, fun x hx => ?_⟩
  · rw [ej] at hx
    rcases List.mem_append.mp hx with hx | hx
    · exact r.at_ x (List.mem_of_mem_take hx) w hw
    · rw [List.mem_singleton.mp hx] at hw
      rw [hdn] at hw
      cases hw
  · rw [ej, List.filterMap_append]
    have : [(⟨c.st, c.ln + d.ln, d.lv⟩ : Pc)].filterMap (·.lv) = [] := by
      rw [hdn]
      rfl
    rw [this, List.append_nil]
    exact r.up.sublist ((List.take_sublist _ _).filterMap _)
  · rw [join_get hc hd] at hx
    by_cases z : 0 < ps.length - 2
    · rw [if_pos z] at hx
      exact r.beg x hx
    · rw [if_neg z, if_pos (by omega)] at hx
      rw [← Option.some.inj hx]
      exact r.beg c (by rw [← hc]; congr 1; omega)
  · rw [ej, List.getLast?_concat] at hx
    rw [← Option.some.inj hx]
    exact hdn
theorem Rise.room {ls : List Nat} {k b e : Nat} : ∀ (f : Nat) (s : List Pc × List (Nat × Nat × Nat)), Inv s.1 e → Rise ls k s.1 → (∀ c, s.1.getLast? = some c → c.lv = none) → Rise ls k (room b f s).1 ∧ ∀ c, (room b f s).1.getLast? = some c → c.lv = none
  | 0, s, _, r, t => ⟨r, t⟩
  | f + 1, s, v, r, t => by
    unfold Pile.room
    cases z : hasTo s.1 b with
    | false => exact ⟨r, t⟩
    | true =>
      have h2 := hasTo_two z
      obtain ⟨r', t'⟩ := r.pop v h2 t
      exact Rise.room f _ (v.join (by omega)) r' t'
/-- the levels that stay are at most the border's -/
theorem stop_le {b : Nat} {ps : List Pc} {e : Nat} (v : Inv ps e) (up : (ps.filterMap (·.lv)).Pairwise (· < ·)) (top : ∀ c, ps.getLast? = some c → c.lv = none) (h : hasTo ps b = false) : ∀ x ∈ ps.filterMap (·.lv), x ≤ b := by
  intro x hx
  rcases Nat.lt_or_ge ps.length 2 with c | c
  · match ps, c with
    | [], _ => simp at hx
    | [y], _ =>
      have : y.lv = none := top y rfl
      simp [this] at hx
  · obtain ⟨c1, hc⟩ : ∃ c, ps[ps.length - 2]? = some c := ⟨_, List.getElem?_eq_getElem (by omega)⟩
    obtain ⟨d, hd⟩ : ∃ d, ps[ps.length - 2 + 1]? = some d := ⟨_, List.getElem?_eq_getElem (by omega)⟩
    have hdn : d.lv = none := top d (by rw [List.getLast?_eq_getElem?, ← hd]; congr 1; omega)
    have lc := (v.side _ c1 d hc hd).2
    obtain ⟨w, hw⟩ := Option.ne_none_iff_exists'.mp lc
    have e1 := two_of hc hd
    have dr : ps.drop (ps.length - 2 + 2) = [] := List.drop_eq_nil_of_le (by omega)
    rw [dr] at e1
    have ef : ps.filterMap (·.lv) = (ps.take (ps.length - 2)).filterMap (·.lv) ++ [w] := by
      conv => lhs; rw [e1]
      simp [List.filterMap_append, hw, hdn]
    have wb : w ≤ b := by
      unfold hasTo at h
      obtain ⟨n, hn⟩ : ∃ n, ps.length = n + 2 := ⟨ps.length - 2, by omega⟩
      rw [hc] at h
      obtain ⟨x1, x2, x3⟩ := c1
      have hw : x3 = some w := hw
      subst hw
      rw [hn] at h
      have := of_decide_eq_false h
      omega
    rw [ef] at hx up
    rcases List.mem_append.mp hx with hx | hx
    · have := (List.pairwise_append.mp up).2.2 x hx w (List.mem_singleton_self _)
      omega
    · rw [List.mem_singleton.mp hx]
      exact wb
theorem sts_rise {ls : List Nat} (h1 : ∀ l ∈ ls, 1 ≤ l) : ∀ k, k < ls.length → Rise ls k (sts ls.sum ls (k + 1)).1
  | 0, h => by
    have e : (sts ls.sum ls 1).1 = [⟨0, ls.getD 0 0, none⟩] := rfl
    rw [e]
    refine ⟨fun c hc v hv => ?_, List.Pairwise.nil, fun c hc => ?_⟩
    · rw [List.mem_singleton.mp hc] at hv
      cases hv
    · have hc : some (⟨0, ls.getD 0 0, none⟩ : Pc) = some c := hc
      rw [← Option.some.inj hc]
  | k + 1, h => by
    have ih := sts_rise h1 k (by omega)
    obtain ⟨v1, v2, v3⟩ := sts_inv (w := ls.sum) (ls := ls) (k + 1) (by omega)
    have la := sts_last (w := ls.sum) (ls := ls) (k := k)
    have top : ∀ c, (sts ls.sum ls (k + 1)).1.getLast? = some c → c.lv = none := fun c hc => by
      rw [la] at hc
      rw [← Option.some.inj hc]
    show Rise ls (k + 1) (step ls.sum (ls.take (k + 1)).sum (sts ls.sum ls (k + 1)) (ls.getD (k + 1) 0)).1
    have eb : brd ls.sum (sts ls.sum ls (k + 1)).1 (ls.getD (k + 1) 0) = some (lvA ls k) := by
      unfold brd
      rw [la]
      rfl
    unfold step
    rw [eb]
    show Rise ls (k + 1) (put (Pile.room (lvA ls k) (sts ls.sum ls (k + 1)).1.length (sts ls.sum ls (k + 1))).1 _ _ _)
    obtain ⟨r, t⟩ := Rise.room (b := lvA ls k) (sts ls.sum ls (k + 1)).1.length (sts ls.sum ls (k + 1)) v1 ih top
    obtain ⟨q1, q2, q3, q4⟩ := room_inv (b := lvA ls k) (sts ls.sum ls (k + 1)).1.length (sts ls.sum ls (k + 1)) v1
    have q3 := q3 (Nat.le_refl _)
    have q4 := q4 (fun z => by rw [z] at la; cases la)
    have sl := stop_le q1 r.up t q3
    generalize (Pile.room (lvA ls k) (sts ls.sum ls (k + 1)).1.length (sts ls.sum ls (k + 1))).1 = ps at r t q1 q3 q4 sl ⊢
    have p1 := getD_pos h1 h
    have ml := mid_lt h1 h
    have ms := mid_succ h
    rw [ms] at ml
    have od := lev_odd (W := 2 * ls.sum) (m := mid ls k) (d := ls.getD k 0 + ls.getD (k + 1) 0) (by omega) ml
    obtain ⟨_, _, _, al, _⟩ := Lv.lev_right (W := 2 * ls.sum) (m := mid ls k) (d := ls.getD k 0 + ls.getD (k + 1) 0) (by omega) ml
    have el : Lv.lev (2 * ls.sum) (mid ls k) (ls.getD k 0 + ls.getD (k + 1) 0) = lvA ls k := rfl
    rw [el, ← ms] at od
    rw [el, ← ms] at al
    obtain ⟨qs, hq⟩ : ∃ c, ps.getLast? = some c := by
      cases z : ps.getLast? with
      | none => exact absurd (List.getLast?_eq_none_iff.mp z) q4
      | some c => exact ⟨c, rfl⟩
    have hl := q1.last _ hq
    have hn := t _ hq
    obtain ⟨rs, rfl⟩ := List.getLast?_eq_some_iff.mp hq
    have ep : put (rs ++ [qs]) (ls.take (k + 1)).sum (ls.getD (k + 1) 0) (some (lvA ls k)) = rs ++ [⟨qs.st, qs.ln, some (lvA ls k)⟩, ⟨(ls.take (k + 1)).sum, ls.getD (k + 1) 0, none⟩] := by
      unfold put
      rw [hq, List.dropLast_concat]
    rw [ep]
    have em : (rs ++ [qs]).filterMap (·.lv) = rs.filterMap (·.lv) := by
      rw [List.filterMap_append]
      simp [hn]
    rw [em] at sl
    have up := r.up
    rw [em] at up
    have lt : ∀ x ∈ rs.filterMap (·.lv), x < lvA ls k := fun x hx => by
      have le := sl x hx
      obtain ⟨c, hc, ec⟩ := List.mem_filterMap.mp hx
      have := (r.at_ c (List.mem_append_left _ hc) x ec).2
      rcases Nat.lt_or_ge x (lvA ls k) with z | z
      · exact z
      · have : x = lvA ls k := by omega
        subst this
        omega
    refine ⟨fun c hc v hv => ?_, ?_, fun c hc => ?_⟩
    · rcases List.mem_append.mp hc with hc | hc
      · obtain ⟨⟨i, i1, i2, i3⟩, o⟩ := r.at_ c (List.mem_append_left _ hc) v hv
        refine ⟨⟨i, by omega, i2, i3⟩, ?_⟩
        rw [← al v (lt v (List.mem_filterMap.mpr ⟨c, hc, hv⟩))]
        exact o
      · rcases List.mem_cons.mp hc with rfl | hc
        · rw [← Option.some.inj hv]
          exact ⟨⟨k, Nat.le_refl _, hl, rfl⟩, od.2⟩
        · rw [List.mem_singleton.mp hc] at hv
          cases hv
    · rw [List.filterMap_append]
      have : [(⟨qs.st, qs.ln, some (lvA ls k)⟩ : Pc), ⟨(ls.take (k + 1)).sum, ls.getD (k + 1) 0, none⟩].filterMap (·.lv) = [lvA ls k] := rfl
      rw [this]
      refine List.pairwise_append.mpr ⟨up, List.pairwise_singleton _ _, fun x hx y hy => ?_⟩
      rw [List.mem_singleton.mp hy]
      exact lt x hx
    · cases rs with
      | nil =>
        have hc : some (⟨qs.st, qs.ln, some (lvA ls k)⟩ : Pc) = some c := hc
        rw [← Option.some.inj hc]
        exact r.beg qs rfl
      | cons y ys =>
        exact r.beg c hc
end Pile
end L2
namespace L2
open PySem PySem.Spec PyProof.Rows
theorem valV_drop {kvs : List (Key × V)} {k j : Key} (h : j ≠ k) : valV (dropK kvs k) j = valV kvs j := by
  unfold dropK
  induction kvs with
  | nil => rfl
  | cons p r ih =>
    by_cases e : p.1 = k
    · rw [List.filter_cons_of_neg (by simp [e]), ih, valV_neg (fun z => h (z.symm.trans e))]
    · rw [List.filter_cons_of_pos (by simp [e])]
      by_cases e2 : p.1 = j
      · rw [valV_pos e2, valV_pos e2]
      · rw [valV_neg e2, valV_neg e2, ih]
/-- a dict by ints tells how long the piece is that begins there -/
def Agr (kvs : List (Key × V)) (R : List (Nat × Nat)) : Prop := R.Pairwise (fun x y => x.1 < y.1) ∧ ∀ x ∈ R, valV kvs (.inl (x.1 : Int)) = some (.int (x.2 : Int))
theorem Agr.join {kvs : List (Key × V)} {p q : List (Nat × Nat)} {s a b : Nat} (h : Agr kvs (p ++ (s, a) :: (s + a, b) :: q)) : Agr (dropK (putK kvs (.inl (s : Int)) (.int ((a : Int) + (b : Int)))) (.inl ((s : Int) + (a : Int)))) (p ++ (s, a + b) :: q) := by
  obtain ⟨h1, h2⟩ := h
  have pw := List.pairwise_append.mp h1
  have pc := List.pairwise_cons.mp pw.2.1
  have pd := List.pairwise_cons.mp pc.2
  have sa := pc.1 (s + a, b) (List.mem_cons_self ..)
  have sa : s < s + a := sa
  refine ⟨?_, fun x hx => ?_⟩
  · refine List.pairwise_append.mpr ⟨pw.1, List.pairwise_cons.mpr ⟨fun y hy => pc.1 y (List.mem_cons_of_mem _ hy), pd.2⟩, fun x hx y hy => ?_⟩
    rcases List.mem_cons.mp hy with rfl | hy
    · exact pw.2.2 x hx (s, a) (List.mem_cons_self ..)
    · exact pw.2.2 x hx y (List.mem_cons_of_mem _ (List.mem_cons_of_mem _ hy))
  · have ne : ∀ {m n : Int}, m ≠ n → (Sum.inl m : Key) ≠ .inl n := fun h e => h (Sum.inl.inj e)
    have other : ∀ y ∈ p ++ (s, a) :: (s + a, b) :: q, y.1 ≠ s → y.1 ≠ s + a → valV (dropK (putK kvs (.inl (s : Int)) (.int ((a : Int) + (b : Int)))) (.inl ((s : Int) + (a : Int)))) (.inl (y.1 : Int)) = some (.int (y.2 : Int)) := fun y hy n1 n2 => by
      rw [valV_drop (ne (by omega)), valV_put, if_neg (ne (by omega))]
      exact h2 y hy
    rcases List.mem_append.mp hx with hx | hx
    · have l1 : x.1 < s := pw.2.2 x hx (s, a) (List.mem_cons_self ..)
      exact other x (List.mem_append_left _ hx) (by omega) (by omega)
    · rcases List.mem_cons.mp hx with rfl | hx
      · rw [valV_drop (ne (by show (s : Int) ≠ _; omega)), valV_put, if_pos rfl]
        rfl
      · have l2 : s + a < x.1 := pd.1 x hx
        exact other x (List.mem_append_right _ (List.mem_cons_of_mem _ (List.mem_cons_of_mem _ hx))) (by omega) (by omega)
theorem Agr.two {kvs : List (Key × V)} {p q : List (Nat × Nat)} {s a b : Nat} (h : Agr kvs (p ++ (s, a) :: (s + a, b) :: q)) : valV kvs (.inl (s : Int)) = some (.int (a : Int)) ∧ valV kvs (.inl ((s : Int) + (a : Int))) = some (.int (b : Int)) := by
  refine ⟨h.2 (s, a) (by simp), ?_⟩
  have := h.2 (s + a, b) (by simp)
  rw [show (((s + a, b) : Nat × Nat).1 : Int) = (s : Int) + (a : Int) from Int.natCast_add _ _] at this
  exact this
/-- the dict as the lengths are put into it -/
theorem Agr.snoc {kvs : List (Key × V)} {R : List (Nat × Nat)} {s l : Nat} (h : Agr kvs R) (lt : ∀ x ∈ R, x.1 < s) : Agr (putK kvs (.inl (s : Int)) (.int (l : Int))) (R ++ [(s, l)]) := by
  refine ⟨List.pairwise_append.mpr ⟨h.1, List.pairwise_singleton _ _, fun x hx y hy => ?_⟩, fun x hx => ?_⟩
  · rw [List.mem_singleton.mp hy]
    exact lt x hx
  · rw [valV_put]
    rcases List.mem_append.mp hx with hx | hx
    · have := lt x hx
      rw [if_neg fun e => ?_]
      · exact h.2 x hx
      · have := Sum.inl.inj e
        omega
    · rw [List.mem_singleton.mp hx, if_pos rfl]
/-- the first k pieces -/
def ones (ls : List Nat) (k : Nat) : List (Nat × Nat) := (List.range k).map fun i => (Pile.stt ls i, ls.getD i 0)
theorem ones_succ {ls : List Nat} {k : Nat} : ones ls (k + 1) = ones ls k ++ [(Pile.stt ls k, ls.getD k 0)] := by
  unfold ones
  rw [List.range_succ, List.map_append]
  rfl
theorem ones_all {ls : List Nat} : ones ls ls.length = Pile.singles ls 0 := by
  unfold ones Pile.singles
  rw [Nat.sub_zero, List.range_eq_range']
theorem ones_lt {ls : List Nat} (h1 : ∀ l ∈ ls, 1 ≤ l) {k : Nat} (hk : k ≤ ls.length) : ∀ x ∈ ones ls k, x.1 < Pile.stt ls k := by
  intro x hx
  obtain ⟨i, hi, rfl⟩ := List.mem_map.mp hx
  exact Pile.stt_lt h1 (List.mem_range.mp hi) hk
end L2
namespace L2
open PySem PySem.Spec PyProof.Rows
/-- a loop over zip of two lists, the second one not the longer -/
theorem for_zipS {K : PySem.W.Frag} {a b : Addr} {xs ys : List V} {g : TG} {tb : TS} {D : Ends} {σ : L2.St} {H : Hp} (hl : ys.length ≤ xs.length) (Pv : Nat → L2.St → Hp → Prop) (h0 : Pv 0 σ H) (hq : ∀ i σ H, Pv i σ H → SqL K H a xs ∧ SqL K H b ys)
    (hs : ∀ (i : Nat) (x y : V) (T : Addr) (σ : L2.St) (H : Hp), xs[i]? = some x → ys[i]? = some y → Pv i σ H → H T = none → g (.ref T) σ (upd H T (.tup [x, y])) fun σ2 H2 => tb { D with nx := Pv (i + 1), ct := Pv (i + 1), bk := D.nx } σ2 H2) (hd : ∀ σ H, Pv ys.length σ H → D.nx σ H) :
    ∃ W : Nat → Nat → L2.St → Hp → Prop, (∃ m, W 0 m σ H) ∧ ∀ i m σ H, W i m σ H →
      ((Itz K a b).stop i H ∧ D.nx σ H) ∨ ((Itz K a b).go i H ∧ ∃ N : L2.St → Hp → Prop, (∀ σ' H', N σ' H' → ∃ m', m' < m ∧ W (i + 1) m' σ' H') ∧ ∀ v H', (Itz K a b).yld i H v H' → g v σ H' fun σ2 H2 => tb { D with nx := N, ct := N, bk := D.nx } σ2 H2) := by
  refine ⟨fun i m σ H => m = ys.length - i ∧ i ≤ ys.length ∧ Pv i σ H, ⟨ys.length, rfl, Nat.zero_le _, h0⟩, ?_⟩
  rintro i m σ H ⟨rfl, hi, p⟩
  obtain ⟨qx, qy⟩ := hq i σ H p
  by_cases hlt : i < ys.length
  · have hx : xs[i]? = some xs[i] := List.getElem?_eq_getElem (by omega)
    have hy : ys[i]? = some ys[i] := List.getElem?_eq_getElem hlt
    refine .inr ⟨⟨xs, ys, _, _, qx, qy, hx, hy⟩, Pv (i + 1), fun σ' H' p' => ⟨ys.length - (i + 1), by omega, rfl, hlt, p'⟩, fun v H' y => ?_⟩
    obtain ⟨T, x', y', rfl, hT, rfl, f1, f2⟩ := y
    exact hs i x' y' T σ H (f1 xs qx) (f2 ys qy) p hT
  · have e : i = ys.length := by omega
    subst e
    exact .inl ⟨⟨xs, ys, qx, qy, Or.inr (Nat.le_refl _)⟩, hd σ H p⟩
theorem sorted_same : ∀ {a b : List Int}, a.Pairwise (· < ·) → b.Pairwise (· < ·) → (∀ x, x ∈ a ↔ x ∈ b) → a = b
  | [], [], _, _, _ => rfl
  | [], y :: b, _, _, h => absurd ((h y).mpr (List.mem_cons_self ..)) (by simp)
  | x :: a, [], _, _, h => absurd ((h x).mp (List.mem_cons_self ..)) (by simp)
  | x :: a, y :: b, pa, pb, h => by
    have ca := List.pairwise_cons.mp pa
    have cb := List.pairwise_cons.mp pb
    have e : x = y := by
      rcases List.mem_cons.mp ((h x).mp (List.mem_cons_self ..)) with e | m
      · exact e
      · rcases List.mem_cons.mp ((h y).mpr (List.mem_cons_self ..)) with e | m2
        · exact e.symm
        · have := cb.1 x m
          have := ca.1 y m2
          omega
    subst e
    congr 1
    refine sorted_same ca.2 cb.2 fun z => ⟨fun m => ?_, fun m => ?_⟩
    · rcases List.mem_cons.mp ((h z).mp (List.mem_cons_of_mem _ m)) with e | m2
      · have := ca.1 z m
        omega
      · exact m2
    · rcases List.mem_cons.mp ((h z).mpr (List.mem_cons_of_mem _ m)) with e | m2
      · have := cb.1 z m
        omega
      · exact m2
theorem cut_init (xs : List V) : cutV xs none (some (-1)) = xs.take (xs.length - 1) := by
  unfold cutV
  have e : HT.sIx xs.length xs.length (some (-1)) = xs.length - 1 := by
    show (if (-1 : Int) < 0 then ((-1 : Int) + (xs.length : Int)).toNat else min (-1 : Int).toNat xs.length) = _
    rw [if_pos (by omega)]
    omega
  rw [HT.sIx_none, e, List.drop_zero, Nat.sub_zero]
end L2
namespace L2
namespace Pile
theorem fin_late {ls : List Nat} (h0 : 0 < ls.length) (h200 : ls.length ≤ 200) : (fin 200 ((sts ls.sum ls ls.length).1, [])).2.length + 1 = (sts ls.sum ls ls.length).1.length := by
  have j := joins_count h0 h200
  have c := sts_cnt (w := ls.sum) (ls := ls) ls.length
  unfold joins at j
  rw [List.length_append] at j
  omega
theorem lens_mul {ls : List Nat} (h1 : ∀ l ∈ ls, 1 ≤ l) {t : Nat} (ht : 0 < t) : ((List.range (ls.map fun l => l * t).length).map fun i => (sts (ls.map fun l => l * t).sum (ls.map fun l => l * t) (i + 1)).1.length) = (List.range ls.length).map fun i => (sts ls.sum ls (i + 1)).1.length := by
  rw [List.length_map]
  refine List.map_congr_left fun i hi => ?_
  rw [sum_mul, sts_mul h1 ht _ (by have := List.mem_range.mp hi; omega)]
  exact List.length_map _
/-- pieces that are all alike -/
theorem alike {x n : Nat} : List.replicate n x = (List.replicate n 1).map fun l => l * x := by
  rw [List.map_replicate, Nat.one_mul]
theorem ones_pos {n : Nat} : ∀ l ∈ List.replicate n 1, 1 ≤ l := fun l hl => by rw [List.eq_of_mem_replicate hl]; decide
theorem even_rnds {s : Nat} (h : s < 6) : rnds (List.replicate (2 ^ s) 1) = List.replicate (2 ^ s) s := by
  have : ∀ s : Fin 6, rnds (List.replicate (2 ^ s.val) 1) = List.replicate (2 ^ s.val) s.val := by decide +kernel
  exact this ⟨s, h⟩
theorem even_price {s : Nat} (h : s < 6) : price (List.replicate (2 ^ s) 1) = s * 2 ^ s := by
  have : ∀ s : Fin 6, price (List.replicate (2 ^ s.val) 1) = s.val * 2 ^ s.val := by decide +kernel
  exact this ⟨s, h⟩
theorem even_deep {s : Nat} (h : s < 6) : (((List.range (List.replicate (2 ^ s) 1).length).map fun i => (sts (List.replicate (2 ^ s) 1).sum (List.replicate (2 ^ s) 1) (i + 1)).1.length)).foldr max 0 = s + 1 := by
  have : ∀ s : Fin 6, (((List.range (List.replicate (2 ^ s.val) 1).length).map fun i => (sts (List.replicate (2 ^ s.val) 1).sum (List.replicate (2 ^ s.val) 1) (i + 1)).1.length)).foldr max 0 = s.val + 1 := by decide +kernel
  exact this ⟨s, h⟩
theorem even_least {s x : Nat} (h : s < 6) (h0 : 0 < x) : Mn.M (List.replicate (2 ^ s) x) = x * s * 2 ^ s := by
  have p2 : 0 < 2 ^ s := Nat.two_pow_pos s
  have b : 2 ^ s ≤ 2 ^ 5 := Nat.pow_le_pow_right (by decide) (by omega)
  have le := least_price (ls := List.replicate (2 ^ s) x) (by rw [List.length_replicate]; exact p2) (by rw [List.length_replicate]; omega)
  have ge := Mn.M_alike (x := x) (2 ^ s) s p2
  rw [alike, price_mul ones_pos h0, even_price h, ← alike] at le
  have e1 : x * (s + 2) * 2 ^ s = x * s * 2 ^ s + x * 2 ^ (s + 1) := by
    rw [Nat.mul_add, Nat.add_mul, Nat.pow_succ, Nat.mul_comm (2 ^ s) 2, ← Nat.mul_assoc x 2]
  have e2 : s * 2 ^ s * x = x * s * 2 ^ s := by rw [Nat.mul_comm, ← Nat.mul_assoc]
  omega
end Pile
end L2

/-! is a row of joins a way: by the borders that stand -/
namespace L2
open PySem PySem.Spec PyProof.Rows
abbrev Tri := Int × Int × Int
/-- each join takes out the border between two neighbours -/
inductive Obey : List Int → List (Option Tri) → Prop
  | nil {bs : List Int} (h : bs.length = 2) : Obey bs []
  | cons {p q : List Int} {s f g : Int} {rs : List (Option Tri)} : Obey (p ++ s :: (s + f + g) :: q) rs → Obey (p ++ s :: (s + f) :: (s + f + g) :: q) (some (s, f, g) :: rs)
def Srt (bs : List Int) : Prop := bs.Pairwise (· < ·)
theorem Srt.split : ∀ {p p' : List Int} {s : Int} {r r' : List Int}, Srt (p ++ s :: r) → p ++ s :: r = p' ++ s :: r' → p = p' ∧ r = r'
  | [], [], s, r, r', _, e => ⟨rfl, (List.cons.inj e).2⟩
  | [], x :: p', s, r, r', h, e => by
    obtain ⟨e1, e2⟩ := List.cons.inj e
    have := (List.pairwise_cons.mp h).1 s (by rw [e2]; simp)
    omega
  | x :: p, [], s, r, r', h, e => by
    obtain ⟨e1, e2⟩ := List.cons.inj e
    have := (List.pairwise_cons.mp h).1 s (by simp)
    omega
  | x :: p, y :: p', s, r, r', h, e => by
    obtain ⟨rfl, e2⟩ := List.cons.inj e
    obtain ⟨a, b⟩ := Srt.split (List.pairwise_cons.mp h).2 e2
    exact ⟨by rw [a], b⟩
theorem Srt.drop1 {p q : List Int} {s m : Int} (h : Srt (p ++ s :: m :: q)) : Srt (p ++ s :: q) := by
  refine h.sublist ?_
  exact List.Sublist.append (List.Sublist.refl _) (List.Sublist.cons_cons _ (List.sublist_cons_self _ _))
theorem obey_some {p q : List Int} {s m e f g : Int} {rs : List (Option Tri)} (h : Srt (p ++ s :: m :: e :: q)) : Obey (p ++ s :: m :: e :: q) (some (s, f, g) :: rs) ↔ m - s = f ∧ e - m = g ∧ Obey (p ++ s :: e :: q) rs := by
  constructor
  · intro o
    generalize hb : p ++ s :: m :: e :: q = bs at o h
    cases o with
    | @cons p' q' _ _ _ _ o =>
      rw [← hb] at h
      obtain ⟨rfl, e2⟩ := h.split hb
      obtain ⟨rfl, e3⟩ := List.cons.inj e2
      obtain ⟨rfl, rfl⟩ := List.cons.inj e3
      exact ⟨by omega, by omega, o⟩
  · rintro ⟨rfl, rfl, o⟩
    have : Obey (p ++ s :: (s + (m - s)) :: (s + (m - s) + (e - m)) :: q) (some (s, m - s, e - m) :: rs) := .cons (by rw [show s + (m - s) + (e - m) = e by omega]; exact o)
    rw [show s + (m - s) + (e - m) = e by omega, show s + (m - s) = m by omega] at this
    exact this
/-- where a join begins, two borders more stand behind -/
theorem obey_at {bs : List Int} {s f g : Int} {rs : List (Option Tri)} (o : Obey bs (some (s, f, g) :: rs)) : ∃ p m e q, bs = p ++ s :: m :: e :: q := by
  cases o with
  | cons o => exact ⟨_, _, _, _, rfl⟩
theorem obey_none {bs : List Int} {rs : List (Option Tri)} : ¬ Obey bs (none :: rs) := by
  intro o
  cases o
theorem obey_len : ∀ {rs : List (Option Tri)} {bs : List Int}, Obey bs rs → bs.length = rs.length + 2
  | [], bs, o => by
    cases o with
    | nil h => exact h
  | r :: rs, bs, o => by
    cases o with
    | cons o =>
      have := obey_len o
      simp only [List.length_append, List.length_cons] at this ⊢
      omega
theorem obey_all : ∀ {rs : List (Option Tri)} {bs : List Int}, Obey bs rs → ∀ r ∈ rs, r ≠ none
  | [], bs, _, r, h => by cases h
  | x :: rs, bs, o, r, h => by
    cases o with
    | cons o =>
      rcases List.mem_cons.mp h with rfl | h
      · exact fun z => by cases z
      · exact obey_all o r h
/-- how long the piece is that begins there -/
def nxt : List Int → Int → Option Int
  | a :: b :: r, k => if a = k then some (b - a) else nxt (b :: r) k
  | _, _ => none
theorem nxt_low : ∀ {l : List Int} {k : Int}, (∀ x ∈ l, k < x) → nxt l k = none
  | [], k, _ => rfl
  | [a], k, _ => rfl
  | a :: b :: r, k, h => by
    show (if a = k then _ else nxt (b :: r) k) = none
    have := h a (List.mem_cons_self ..)
    rw [if_neg (by omega)]
    exact nxt_low fun x hx => h x (List.mem_cons_of_mem _ hx)
theorem nxt_here : ∀ {p : List Int} {s m : Int} {r : List Int}, Srt (p ++ s :: m :: r) → nxt (p ++ s :: m :: r) s = some (m - s)
  | [], s, m, r, _ => by
    show (if s = s then some (m - s) else _) = _
    rw [if_pos rfl]
  | x :: p, s, m, r, h => by
    have hx := (List.pairwise_cons.mp h).1 s (by simp)
    have ih := nxt_here (List.pairwise_cons.mp h).2
    cases p with
    | nil =>
      show (if x = s then _ else nxt (s :: m :: r) s) = _
      rw [if_neg (by omega)]
      exact ih
    | cons y p =>
      show (if x = s then _ else nxt (y :: (p ++ s :: m :: r)) s) = _
      rw [if_neg (by omega)]
      exact ih
theorem nxt_two : ∀ {bs : List Int} {s f : Int}, nxt bs s = some f → ∃ p q, bs = p ++ s :: (s + f) :: q
  | [], s, f, h => by cases h
  | [a], s, f, h => by cases h
  | a :: b :: r, s, f, h => by
    have h : (if a = s then some (b - a) else nxt (b :: r) s) = some f := h
    by_cases c : a = s
    · rw [if_pos c] at h
      have e := Option.some.inj h
      exact ⟨[], r, by rw [← c, ← e, show a + (b - a) = b by omega]; rfl⟩
    · rw [if_neg c] at h
      obtain ⟨p, q, e⟩ := nxt_two h
      exact ⟨a :: p, q, by rw [e]; rfl⟩
theorem nxt_end : ∀ {p : List Int} {s : Int}, Srt (p ++ [s]) → nxt (p ++ [s]) s = none
  | [], s, _ => rfl
  | x :: p, s, h => by
    have hx := (List.pairwise_cons.mp h).1 s (by simp)
    have ih := nxt_end (List.pairwise_cons.mp h).2
    cases p with
    | nil =>
      show (if x = s then _ else _) = none
      rw [if_neg (by omega)]
      rfl
    | cons y p =>
      show (if x = s then _ else nxt (y :: (p ++ [s])) s) = none
      rw [if_neg (by omega)]
      exact ih
theorem nxt_join : ∀ {p : List Int} {s m e : Int} {q : List Int} {k : Int}, Srt (p ++ s :: m :: e :: q) → nxt (p ++ s :: e :: q) k = if k = s then some (e - s) else if k = m then none else nxt (p ++ s :: m :: e :: q) k
  | [], s, m, e, q, k, h => by
    have h1 := List.pairwise_cons.mp h
    have h2 := List.pairwise_cons.mp h1.2
    have sm := h1.1 m (by simp)
    show (if s = k then some (e - s) else nxt (e :: q) k) = if k = s then _ else if k = m then none else (if s = k then some (m - s) else (if m = k then some (e - m) else nxt (e :: q) k))
    by_cases c : k = s
    · rw [if_pos c, if_pos c.symm]
    · rw [if_neg c, if_neg (show ¬ s = k from fun z => c z.symm)]
      by_cases c2 : k = m
      · rw [if_pos c2, c2]
        exact nxt_low h2.1
      · rw [if_neg c2, if_neg (show ¬ s = k from fun z => c z.symm), if_neg (show ¬ m = k from fun z => c2 z.symm)]
  | x :: p, s, m, e, q, k, h => by
    have h1 := List.pairwise_cons.mp h
    have ih := nxt_join (k := k) h1.2
    have xs := h1.1 s (by simp)
    have xm := h1.1 m (by simp)
    cases p with
    | nil =>
      show (if x = k then some (s - x) else nxt (s :: e :: q) k) = if k = s then _ else if k = m then none else (if x = k then some (s - x) else nxt (s :: m :: e :: q) k)
      by_cases c : x = k
      · rw [if_pos c, if_neg (by omega), if_neg (by omega), if_pos c]
      · rw [if_neg c, if_neg c]
        exact ih
    | cons y p =>
      show (if x = k then some (y - x) else nxt (y :: (p ++ s :: e :: q)) k) = if k = s then _ else if k = m then none else (if x = k then some (y - x) else nxt (y :: (p ++ s :: m :: e :: q)) k)
      by_cases c : x = k
      · rw [if_pos c, if_neg (by omega), if_neg (by omega), if_pos c]
      · rw [if_neg c, if_neg c]
        exact ih
/-- the dict holds the lengths of the pieces -/
def AgrZ (kvs : List (Key × V)) (bs : List Int) : Prop := ∀ k : Int, valV kvs (.inl k) = (nxt bs k).map V.int
theorem AgrZ.join {kvs : List (Key × V)} {p q : List Int} {s m e : Int} (h : AgrZ kvs (p ++ s :: m :: e :: q)) (o : Srt (p ++ s :: m :: e :: q)) : AgrZ (dropK (putK kvs (.inl s) (.int ((m - s) + (e - m)))) (.inl (s + (m - s)))) (p ++ s :: e :: q) := by
  intro k
  have sm : s < m := (List.pairwise_cons.mp (List.pairwise_append.mp o).2.1).1 m (by simp)
  rw [nxt_join o, show s + (m - s) = m by omega, show (m - s) + (e - m) = e - s by omega]
  by_cases c : k = s
  · subst c
    rw [valV_drop (fun z => by have := Sum.inl.inj z; omega), valV_put, if_pos rfl, if_pos rfl]
    rfl
  · rw [if_neg c]
    by_cases c2 : k = m
    · subst c2
      rw [if_pos rfl]
      unfold dropK
      have : ∀ l : List (Key × V), valV (l.filter fun kv => decide (kv.1 ≠ (.inl k : Key))) (.inl k) = none := fun l => by
        induction l with
        | nil => rfl
        | cons z r ih =>
          by_cases ez : z.1 = .inl k
          · rw [List.filter_cons_of_neg (by simp [ez])]
            exact ih
          · rw [List.filter_cons_of_pos (by simp [ez]), valV_neg ez]
            exact ih
      exact this _
    · rw [if_neg c2, valV_drop (fun z => c2 (Sum.inl.inj z)), valV_put, if_neg (fun z => c (Sum.inl.inj z))]
      exact h k
/-- the borders of the pieces -/
def bords (ls : List Nat) : List Int := (List.range (ls.length + 1)).map fun i => ((Pile.stt ls i : Nat) : Int)
theorem bords_len (ls : List Nat) : (bords ls).length = ls.length + 1 := by unfold bords; rw [List.length_map, List.length_range]
theorem bords_srt {ls : List Nat} (h1 : ∀ l ∈ ls, 1 ≤ l) : Srt (bords ls) := by
  unfold bords Srt
  refine List.pairwise_map.mpr (List.Pairwise.imp_of_mem (R := fun i j => i < j) ?_ List.pairwise_lt_range)
  intro i j hi hj lt
  have := List.mem_range.mp hj
  exact Int.ofNat_lt.mpr (Pile.stt_lt h1 lt (by omega))
/-- the first k pieces' lengths by their starts -/
def bordsTo (ls : List Nat) (k : Nat) : List Int := (List.range (k + 1)).map fun i => ((Pile.stt ls i : Nat) : Int)
theorem nxt_snoc : ∀ {p : List Int} {a b k : Int}, Srt (p ++ [a, b]) → nxt (p ++ [a, b]) k = if k = a then some (b - a) else nxt (p ++ [a]) k
  | [], a, b, k, h => by
    show (if a = k then some (b - a) else none) = if k = a then _ else none
    by_cases c : k = a
    · rw [if_pos c, if_pos c.symm]
    · rw [if_neg c, if_neg (fun z => c z.symm)]
  | x :: p, a, b, k, h => by
    have h1 := List.pairwise_cons.mp h
    have ih := nxt_snoc (k := k) h1.2
    have xa := h1.1 a (by simp)
    cases p with
    | nil =>
      show (if x = k then some (a - x) else nxt [a, b] k) = if k = a then _ else (if x = k then some (a - x) else nxt [a] k)
      by_cases c : x = k
      · rw [if_pos c, if_neg (by omega), if_pos c]
      · rw [if_neg c, if_neg c]
        exact ih
    | cons y p =>
      show (if x = k then some (y - x) else nxt (y :: (p ++ [a, b])) k) = if k = a then _ else (if x = k then some (y - x) else nxt (y :: (p ++ [a])) k)
      by_cases c : x = k
      · rw [if_pos c, if_neg (by omega), if_pos c]
      · rw [if_neg c, if_neg c]
        exact ih
theorem agr_put {ls : List Nat} (h1 : ∀ l ∈ ls, 1 ≤ l) {k : Nat} (hk : k < ls.length) {kvs : List (Key × V)} (h : AgrZ kvs (bordsTo ls k)) : AgrZ (putK kvs (.inl ((Pile.stt ls k : Nat) : Int)) (.int ((ls.getD k 0 : Nat) : Int))) (bordsTo ls (k + 1)) := by
  intro j
  have e : bordsTo ls (k + 1) = (List.range k).map (fun i => ((Pile.stt ls i : Nat) : Int)) ++ [((Pile.stt ls k : Nat) : Int), ((Pile.stt ls (k + 1) : Nat) : Int)] := by
    unfold bordsTo
    rw [List.range_succ, List.range_succ, List.map_append, List.map_append]
    simp
  have e2 : bordsTo ls k = (List.range k).map (fun i => ((Pile.stt ls i : Nat) : Int)) ++ [((Pile.stt ls k : Nat) : Int)] := by
    unfold bordsTo
    rw [List.range_succ, List.map_append]
    rfl
  have so : Srt (bordsTo ls (k + 1)) := by
    unfold bordsTo Srt
    refine List.pairwise_map.mpr (List.Pairwise.imp_of_mem (R := fun i j => i < j) ?_ List.pairwise_lt_range)
    intro i j hi hj lt
    have := List.mem_range.mp hj
    exact Int.ofNat_lt.mpr (Pile.stt_lt h1 lt (by omega))
  rw [e] at so ⊢
  have sx := Pile.stt_succ hk
  rw [nxt_snoc so, valV_put]
  by_cases c : j = ((Pile.stt ls k : Nat) : Int)
  · rw [if_pos c, if_pos (by rw [c])]
    show some _ = some _
    congr 2
    omega
  · rw [if_neg c, if_neg (fun z => c (Sum.inl.inj z)), h j, e2]
theorem agr_zero {ls : List Nat} : AgrZ [] (bordsTo ls 0) := fun k => rfl
/-! things that may be a way -/
inductive EntQ (p : Addr) (H : Hp) : V → Option Tri → Prop
  | tri {t : Addr} {s f g : Int} : H t = some (.tup [.int s, .int f, .int g]) → EntQ p H (.ref t) (some (s, f, g))
  | odd {v : V} {T : String} : AnyV H v T → T ≠ "tuple" → v ≠ .ref p → EntQ p H v none
  | len {t : Addr} {xs : List V} : H t = some (.tup xs) → xs.length ≠ 3 → xs.length ≤ 10 → EntQ p H (.ref t) none
  | part {t : Addr} {x y z : V} {dx dy dz : PyData} : H t = some (.tup [x, y, z]) → Lone x dx → Lone y dy → Lone z dz → ¬ (isI x = true ∧ isI y = true ∧ isI z = true) → EntQ p H (.ref t) none
inductive ThQ (p : Addr) (H : Hp) : V → Option (List (Option Tri)) → Prop
  | odd {v : V} {T : String} : AnyV H v T → T ≠ "list" → T ≠ "tuple" → v ≠ .ref p → ThQ p H v none
  | row {a : Addr} {xs : List V} {rs : List (Option Tri)} : RowAt H a xs → a ≠ p → xs.length = rs.length → xs.length ≤ 200 → (∀ (i : Nat) (v : V) (r : Option Tri), xs[i]? = some v → rs[i]? = some r → EntQ p H v r) → ThQ p H (.ref a) (some rs)
theorem Lone.any {v : V} {d : PyData} (h : Lone v d) (H : Hp) : ∃ T, AnyV H v T := by
  cases h with
  | non => exact ⟨_, .non⟩
  | bl b => exact ⟨_, .bl b⟩
  | int i => exact ⟨_, .int i⟩
  | str x _ => exact ⟨_, .str x⟩
theorem strOk_of (s : String) : PyData.canLay0 (.str (Str.ofString s)) = true := by
  show PyData.strOk (Str.ofString s) = true
  unfold PyData.strOk
  rw [Str.ofString_eq_toList]
  simp only [List.all_toArray, List.all_map, List.all_eq_true, Function.comp_apply, decide_eq_true_eq]
  intro c _
  rcases c.valid with h | h
  · exact Nat.lt_trans h (by decide)
  · exact h.2
theorem inV_ints (s : Int) (ns : List Int) : inV (.int s) (ns.map V.int) = decide (s ∈ ns) := by
  induction ns with
  | nil => rfl
  | cons x r ih =>
    show (eqV (.int x) (.int s) || inV (.int s) (r.map V.int)) = _
    rw [ih]
    show ((x == s) || decide (s ∈ r)) = decide (s ∈ x :: r)
    by_cases c : s ∈ r
    · rw [decide_eq_true c, Bool.or_true, decide_eq_true (List.mem_cons_of_mem _ c)]
    · rw [decide_eq_false c, Bool.or_false]
      by_cases e : x = s
      · subst e
        rw [decide_eq_true (List.mem_cons_self ..)]
        simp
      · rw [decide_eq_false (by simp; exact ⟨fun z => e z.symm, c⟩)]
        exact beq_false_of_ne e
theorem cut_two (xs : List V) (h : 2 ≤ xs.length) : cutV xs none (some (-2)) = xs.take (xs.length - 2) := by
  unfold cutV
  have e : HT.sIx xs.length xs.length (some (-2)) = xs.length - 2 := by
    show (if (-2 : Int) < 0 then ((-2 : Int) + (xs.length : Int)).toNat else min (-2 : Int).toNat xs.length) = _
    rw [if_pos (by omega)]
    omega
  rw [HT.sIx_none, e, List.drop_zero, Nat.sub_zero]
/-- a border with two behind it -/
theorem in_take {bs : List Int} {s : Int} : s ∈ bs.take (bs.length - 2) ↔ ∃ p m e q, bs = p ++ s :: m :: e :: q := by
  constructor
  · intro h
    obtain ⟨i, hi⟩ := List.getElem?_of_mem h
    rw [List.getElem?_take] at hi
    by_cases c : i < bs.length - 2
    · rw [if_pos c] at hi
      obtain ⟨h1, e1⟩ := List.getElem?_eq_some_iff.mp hi
      refine ⟨bs.take i, bs[i + 1], bs[i + 2], bs.drop (i + 3), ?_⟩
      conv => lhs; rw [← List.take_append_drop i bs, List.drop_eq_getElem_cons h1, List.drop_eq_getElem_cons (show i + 1 < bs.length by omega), List.drop_eq_getElem_cons (show i + 2 < bs.length by omega), e1]
    · rw [if_neg c] at hi
      cases hi
  · rintro ⟨p, m, e, q, rfl⟩
    have : (p ++ s :: m :: e :: q).length - 2 = p.length + (q.length + 1) := by simp only [List.length_append, List.length_cons]; omega
    rw [this, List.take_length_add_append]
    exact List.mem_append_right _ (by simp)
def Due (ls : List Nat) : Option (List (Option Tri)) → Prop
  | none => False
  | some rs => Obey (bords ls) rs
theorem EntQ.same {p : Addr} {H H' : Hp} {v : V} {r : Option Tri} (h : EntQ p H v r) (s : Same H H') : EntQ p H' v r := by
  cases h with
  | tri h => exact .tri (s _ _ h)
  | odd h n m => exact .odd (h.ext (.of s)) n m
  | len h n m => exact .len (s _ _ h) n m
  | part h a b c d => exact .part (s _ _ h) a b c d
theorem EntQ.ext {p : Addr} {H H' : Hp} {v : V} {r : Option Tri} (h : EntQ p H v r) (s : LamX.ExtN H H') : EntQ p H' v r := by
  cases h with
  | tri h => exact .tri (s _ _ h fun ps z => by cases z)
  | odd h n m => exact .odd (h.ext s) n m
  | len h n m => exact .len (s _ _ h fun ps z => by cases z) n m
  | part h a b c d => exact .part (s _ _ h fun ps z => by cases z) a b c d
theorem ThQ.ext {p : Addr} {H H' : Hp} {v : V} {r : Option (List (Option Tri))} (h : ThQ p H v r) (s : LamX.ExtN H H') : ThQ p H' v r := by
  cases h with
  | odd h n m o => exact .odd (h.ext s) n m o
  | row h n l k it => exact .row (h.ext s) n l k fun i v r a b => (it i v r a b).ext s
theorem ThQ.same {p : Addr} {H H' : Hp} {v : V} {r : Option (List (Option Tri))} (h : ThQ p H v r) (s : Same H H') : ThQ p H' v r := h.ext (.of s)
end L2

namespace K38
open PySem PySem.Spec PyProof.Rows L2 
def topS (i : Nat) : Stmt := PySem.Challenge.pw_askedorder_k38_ways_judged.main.body.getD i (.Pass ⟨0, 0, 0, 0⟩)
abbrev s_InvalidKeys___init__ : Stmt := inClass (topS 2) 0
abbrev N_InvalidKeys___init__ : List Str := ["self", "index"]
abbrev P_InvalidKeys___init__ : List Str := ["self", "index"]
theorem sc_InvalidKeys___init__ : FnScope N_InvalidKeys___init__ P_InvalidKeys___init__ (defScope s_InvalidKeys___init__) := ⟨rfl, rfl, rfl, by decide +kernel, rfl, by decide +kernel, by decide +kernel⟩
abbrev s_InvalidQuestion___init__ : Stmt := inClass (topS 3) 0
abbrev N_InvalidQuestion___init__ : List Str := ["self", "question"]
abbrev P_InvalidQuestion___init__ : List Str := ["self", "question"]
theorem sc_InvalidQuestion___init__ : FnScope N_InvalidQuestion___init__ P_InvalidQuestion___init__ (defScope s_InvalidQuestion___init__) := ⟨rfl, rfl, rfl, by decide +kernel, rfl, by decide +kernel, by decide +kernel⟩
abbrev s_InvalidAnswers___init__ : Stmt := inClass (topS 4) 0
abbrev N_InvalidAnswers___init__ : List Str := ["self", "index"]
abbrev P_InvalidAnswers___init__ : List Str := ["self", "index"]
theorem sc_InvalidAnswers___init__ : FnScope N_InvalidAnswers___init__ P_InvalidAnswers___init__ (defScope s_InvalidAnswers___init__) := ⟨rfl, rfl, rfl, by decide +kernel, rfl, by decide +kernel, by decide +kernel⟩
abbrev s_InvalidOrder___init__ : Stmt := inClass (topS 5) 0
abbrev N_InvalidOrder___init__ : List Str := ["self", "index"]
abbrev P_InvalidOrder___init__ : List Str := ["self", "index"]
theorem sc_InvalidOrder___init__ : FnScope N_InvalidOrder___init__ P_InvalidOrder___init__ (defScope s_InvalidOrder___init__) := ⟨rfl, rfl, rfl, by decide +kernel, rfl, by decide +kernel, by decide +kernel⟩
abbrev s_InvalidLengths___init__ : Stmt := inClass (topS 6) 0
abbrev N_InvalidLengths___init__ : List Str := ["self", "index"]
abbrev P_InvalidLengths___init__ : List Str := ["self", "index"]
theorem sc_InvalidLengths___init__ : FnScope N_InvalidLengths___init__ P_InvalidLengths___init__ (defScope s_InvalidLengths___init__) := ⟨rfl, rfl, rfl, by decide +kernel, rfl, by decide +kernel, by decide +kernel⟩
abbrev s_InvalidNumber___init__ : Stmt := inClass (topS 7) 0
abbrev N_InvalidNumber___init__ : List Str := ["self", "name"]
abbrev P_InvalidNumber___init__ : List Str := ["self", "name"]
theorem sc_InvalidNumber___init__ : FnScope N_InvalidNumber___init__ P_InvalidNumber___init__ (defScope s_InvalidNumber___init__) := ⟨rfl, rfl, rfl, by decide +kernel, rfl, by decide +kernel, by decide +kernel⟩
abbrev s_TooLarge___init__ : Stmt := inClass (topS 8) 0
abbrev N_TooLarge___init__ : List Str := ["self", "limit"]
abbrev P_TooLarge___init__ : List Str := ["self", "limit"]
theorem sc_TooLarge___init__ : FnScope N_TooLarge___init__ P_TooLarge___init__ (defScope s_TooLarge___init__) := ⟨rfl, rfl, rfl, by decide +kernel, rfl, by decide +kernel, by decide +kernel⟩
abbrev s_Mismatch___init__ : Stmt := inClass (topS 9) 0
abbrev N_Mismatch___init__ : List Str := ["self", "name"]
abbrev P_Mismatch___init__ : List Str := ["self", "name"]
theorem sc_Mismatch___init__ : FnScope N_Mismatch___init__ P_Mismatch___init__ (defScope s_Mismatch___init__) := ⟨rfl, rfl, rfl, by decide +kernel, rfl, by decide +kernel, by decide +kernel⟩
abbrev s_is_integer : Stmt := topS 11
abbrev N_is_integer : List Str := ["value"]
abbrev P_is_integer : List Str := ["value"]
theorem sc_is_integer : FnScope N_is_integer P_is_integer (defScope s_is_integer) := ⟨rfl, rfl, rfl, by decide +kernel, rfl, by decide +kernel, by decide +kernel⟩
abbrev s_is_within : Stmt := topS 12
abbrev N_is_within : List Str := ["value", "least", "most"]
abbrev P_is_within : List Str := ["value", "least", "most"]
theorem sc_is_within : FnScope N_is_within P_is_within (defScope s_is_within) := ⟨rfl, rfl, rfl, by decide +kernel, rfl, by decide +kernel, by decide +kernel⟩
abbrev s_check_lengths : Stmt := topS 13
abbrev N_check_lengths : List Str := ["lengths", "fewest", "most", "longest", "index", "length"]
abbrev P_check_lengths : List Str := ["lengths", "fewest", "most", "longest"]
theorem sc_check_lengths : FnScope N_check_lengths P_check_lengths (defScope s_check_lengths) := ⟨rfl, rfl, rfl, by decide +kernel, rfl, by decide +kernel, by decide +kernel⟩
abbrev s_level_between : Stmt := topS 15
abbrev N_level_between : List Str := ["start", "first", "second", "whole", "middle", "distance", "figures", "one", "other"]
abbrev P_level_between : List Str := ["start", "first", "second", "whole"]
theorem sc_level_between : FnScope N_level_between P_level_between (defScope s_level_between) := ⟨rfl, rfl, rfl, by decide +kernel, rfl, by decide +kernel, by decide +kernel⟩
abbrev s_PieceStack___init__ : Stmt := inClass (topS 16) 0
abbrev N_PieceStack___init__ : List Str := ["self", "whole"]
abbrev P_PieceStack___init__ : List Str := ["self", "whole"]
theorem sc_PieceStack___init__ : FnScope N_PieceStack___init__ P_PieceStack___init__ (defScope s_PieceStack___init__) := ⟨rfl, rfl, rfl, by decide +kernel, rfl, by decide +kernel, by decide +kernel⟩
abbrev s_PieceStack_border_to : Stmt := inClass (topS 16) 1
abbrev N_PieceStack_border_to : List Str := ["self", "length", "start", "first", "_"]
abbrev P_PieceStack_border_to : List Str := ["self", "length"]
theorem sc_PieceStack_border_to : FnScope N_PieceStack_border_to P_PieceStack_border_to (defScope s_PieceStack_border_to) := ⟨rfl, rfl, rfl, by decide +kernel, rfl, by decide +kernel, by decide +kernel⟩
abbrev s_PieceStack_has_to_join : Stmt := inClass (topS 16) 2
abbrev N_PieceStack_has_to_join : List Str := ["self", "border"]
abbrev P_PieceStack_has_to_join : List Str := ["self", "border"]
theorem sc_PieceStack_has_to_join : FnScope N_PieceStack_has_to_join P_PieceStack_has_to_join (defScope s_PieceStack_has_to_join) := ⟨rfl, rfl, rfl, by decide +kernel, rfl, by decide +kernel, by decide +kernel⟩
abbrev s_PieceStack_put : Stmt := inClass (topS 16) 3
abbrev N_PieceStack_put : List Str := ["self", "start", "length", "border", "below", "its_length", "_"]
abbrev P_PieceStack_put : List Str := ["self", "start", "length", "border"]
theorem sc_PieceStack_put : FnScope N_PieceStack_put P_PieceStack_put (defScope s_PieceStack_put) := ⟨rfl, rfl, rfl, by decide +kernel, rfl, by decide +kernel, by decide +kernel⟩
abbrev s_PieceStack_next_to_join : Stmt := inClass (topS 16) 4
abbrev N_PieceStack_next_to_join : List Str := ["self", "top"]
abbrev P_PieceStack_next_to_join : List Str := ["self"]
theorem sc_PieceStack_next_to_join : FnScope N_PieceStack_next_to_join P_PieceStack_next_to_join (defScope s_PieceStack_next_to_join) := ⟨rfl, rfl, rfl, by decide +kernel, rfl, by decide +kernel, by decide +kernel⟩
abbrev s_PieceStack_join_at : Stmt := inClass (topS 16) 5
abbrev N_PieceStack_join_at : List Str := ["self", "place", "start", "first", "_", "second", "border"]
abbrev P_PieceStack_join_at : List Str := ["self", "place"]
theorem sc_PieceStack_join_at : FnScope N_PieceStack_join_at P_PieceStack_join_at (defScope s_PieceStack_join_at) := ⟨rfl, rfl, rfl, by decide +kernel, rfl, by decide +kernel, by decide +kernel⟩
abbrev s_is_way_of : Stmt := topS 18
abbrev N_is_way_of : List Str := ["lengths", "joins", "pieces", "start", "length", "entry", "first", "second"]
abbrev P_is_way_of : List Str := ["lengths", "joins"]
theorem sc_is_way_of : FnScope N_is_way_of P_is_way_of (defScope s_is_way_of) := ⟨rfl, rfl, rfl, by decide +kernel, rfl, by decide +kernel, by decide +kernel⟩
abbrev s_is_join : Stmt := topS 19
abbrev N_is_join : List Str := ["entry", "pieces", "start", "first", "second"]
abbrev P_is_join : List Str := ["entry", "pieces"]
theorem sc_is_join : FnScope N_is_join P_is_join (defScope s_is_join) := ⟨rfl, rfl, rfl, by decide +kernel, rfl, by decide +kernel, by decide +kernel⟩
abbrev s_is_way : Stmt := topS 22
abbrev N_is_way : List Str := ["lengths", "joins"]
abbrev P_is_way : List Str := ["lengths", "joins"]
theorem sc_is_way : FnScope N_is_way P_is_way (defScope s_is_way) := ⟨rfl, rfl, rfl, by decide +kernel, rfl, by decide +kernel, by decide +kernel⟩
abbrev s_first_unlike : Stmt := topS 23
abbrev N_first_unlike : List Str := ["lengths", "joins", "place", "done"]
abbrev P_first_unlike : List Str := ["lengths", "joins"]
theorem sc_first_unlike : FnScope N_first_unlike P_first_unlike (defScope s_first_unlike) := ⟨rfl, rfl, rfl, by decide +kernel, rfl, by decide +kernel, by decide +kernel⟩
abbrev s_all_joins : Stmt := topS 24
abbrev N_all_joins : List Str := ["lengths", "_", "amid", "at_end"]
abbrev P_all_joins : List Str := ["lengths"]
theorem sc_all_joins : FnScope N_all_joins P_all_joins (defScope s_all_joins) := ⟨rfl, rfl, rfl, by decide +kernel, rfl, by decide +kernel, by decide +kernel⟩
abbrev s_pile_up : Stmt := topS 25
abbrev N_pile_up : List Str := ["lengths", "piles", "stacks", "amid", "start", "length", "border", "at_end"]
abbrev P_pile_up : List Str := ["lengths"]
theorem sc_pile_up : FnScope N_pile_up P_pile_up (defScope s_pile_up) := ⟨rfl, rfl, rfl, by decide +kernel, rfl, by decide +kernel, by decide +kernel⟩
abbrev s_check_pieces : Stmt := topS 26
abbrev N_check_pieces : List Str := ["lengths"]
abbrev P_check_pieces : List Str := ["lengths"]
theorem sc_check_pieces : FnScope N_check_pieces P_check_pieces (defScope s_check_pieces) := ⟨rfl, rfl, rfl, by decide +kernel, rfl, by decide +kernel, by decide +kernel⟩
abbrev s_mixed : Stmt := topS 28
abbrev N_mixed : List Str := ["cell", "draw", "figure"]
abbrev P_mixed : List Str := ["cell", "draw"]
theorem sc_mixed : FnScope N_mixed P_mixed (defScope s_mixed) := ⟨rfl, rfl, rfl, by decide +kernel, rfl, by decide +kernel, by decide +kernel⟩
abbrev s_source : Stmt := topS 29
abbrev N_source : List Str := ["cell"]
abbrev P_source : List Str := ["cell"]
theorem sc_source : FnScope N_source P_source (defScope s_source) := ⟨rfl, rfl, rfl, by decide +kernel, rfl, by decide +kernel, by decide +kernel⟩
abbrev s_take : Stmt := topS 30
abbrev N_take : List Str := ["source", "bound", "drawn"]
abbrev P_take : List Str := ["source", "bound"]
theorem sc_take : FnScope N_take P_take (defScope s_take) := ⟨rfl, rfl, rfl, by decide +kernel, rfl, by decide +kernel, by decide +kernel⟩
abbrev s_pick : Stmt := topS 31
abbrev N_pick : List Str := ["source", "options"]
abbrev P_pick : List Str := ["source", "options"]
theorem sc_pick : FnScope N_pick P_pick (defScope s_pick) := ⟨rfl, rfl, rfl, by decide +kernel, rfl, by decide +kernel, by decide +kernel⟩
abbrev s_said : Stmt := topS 32
abbrev N_said : List Str := ["ask", "error", "words", "marks"]
abbrev P_said : List Str := ["ask"]
theorem sc_said : FnScope N_said P_said (defScope s_said) := ⟨rfl, rfl, rfl, by decide +kernel, rfl, by decide +kernel, by decide +kernel⟩
abbrev s_level : Stmt := topS 33
abbrev N_level : List Str := ["begin", "one", "two", "size", "low", "high", "count"]
abbrev P_level : List Str := ["begin", "one", "two", "size"]
theorem sc_level : FnScope N_level P_level (defScope s_level) := ⟨rfl, rfl, rfl, by decide +kernel, rfl, by decide +kernel, by decide +kernel⟩
abbrev s_lengths : Stmt := topS 34
abbrev N_lengths : List Str := ["source", "upper", "great", "size", "way", "found", "k", "one"]
abbrev P_lengths : List Str := ["source", "upper", "great"]
theorem sc_lengths : FnScope N_lengths P_lengths (defScope s_lengths) := ⟨rfl, rfl, rfl, by decide +kernel, rfl, by decide +kernel, by decide +kernel⟩
abbrev s_starts : Stmt := topS 35
abbrev N_starts : List Str := ["parts", "found", "length"]
abbrev P_starts : List Str := ["parts"]
theorem sc_starts : FnScope N_starts P_starts (defScope s_starts) := ⟨rfl, rfl, rfl, by decide +kernel, rfl, by decide +kernel, by decide +kernel⟩
abbrev s_note : Stmt := topS 36
abbrev N_note : List Str := ["pile", "done", "place", "begin", "first", "gone", "second", "mark"]
abbrev P_note : List Str := ["pile", "done", "place"]
theorem sc_note : FnScope N_note P_note (defScope s_note) := ⟨rfl, rfl, rfl, by decide +kernel, rfl, by decide +kernel, by decide +kernel⟩
abbrev s_piled : Stmt := topS 37
abbrev N_piled : List Str := ["parts", "starts", "pile", "done", "stacks", "at", "length", "mark", "many", "place"]
abbrev P_piled : List Str := ["parts"]
theorem sc_piled : FnScope N_piled P_piled (defScope s_piled) := ⟨rfl, rfl, rfl, by decide +kernel, rfl, by decide +kernel, by decide +kernel⟩
abbrev s_deep : Stmt := topS 38
abbrev N_deep : List Str := ["found", "turn"]
abbrev P_deep : List Str := []
theorem sc_deep : FnScope N_deep P_deep (defScope s_deep) := ⟨rfl, rfl, rfl, by decide +kernel, rfl, by decide +kernel, by decide +kernel⟩
abbrev s_drawn_way : Stmt := topS 39
abbrev N_drawn_way : List Str := ["source", "parts", "pieces", "found", "at"]
abbrev P_drawn_way : List Str := ["source", "parts"]
theorem sc_drawn_way : FnScope N_drawn_way P_drawn_way (defScope s_drawn_way) := ⟨rfl, rfl, rfl, by decide +kernel, rfl, by decide +kernel, by decide +kernel⟩
abbrev s_obeys : Stmt := topS 40
abbrev N_obeys : List Str := ["parts", "way", "borders", "begin", "first", "second", "at"]
abbrev P_obeys : List Str := ["parts", "way"]
theorem sc_obeys : FnScope N_obeys P_obeys (defScope s_obeys) := ⟨rfl, rfl, rfl, by decide +kernel, rfl, by decide +kernel, by decide +kernel⟩
abbrev s_spoilt : Stmt := topS 41
abbrev N_spoilt : List Str := ["source", "way", "at", "begin", "first", "second", "odd", "made"]
abbrev P_spoilt : List Str := ["source", "way"]
theorem sc_spoilt : FnScope N_spoilt P_spoilt (defScope s_spoilt) := ⟨rfl, rfl, rfl, by decide +kernel, rfl, by decide +kernel, by decide +kernel⟩
abbrev s_is_row : Stmt := topS 42
abbrev N_is_row : List Str := ["thing", "row", "part"]
abbrev P_is_row : List Str := ["thing"]
theorem sc_is_row : FnScope N_is_row P_is_row (defScope s_is_row) := ⟨rfl, rfl, rfl, by decide +kernel, rfl, by decide +kernel, by decide +kernel⟩
abbrev s_judged : Stmt := topS 43
abbrev N_judged : List Str := ["parts", "thing", "mine", "due", "heard", "places", "at", "join"]
abbrev P_judged : List Str := ["parts", "thing", "mine"]
theorem sc_judged : FnScope N_judged P_judged (defScope s_judged) := ⟨rfl, rfl, rfl, by decide +kernel, rfl, by decide +kernel, by decide +kernel⟩
abbrev s_law : Stmt := topS 44
abbrev N_law : List Str := ["script", "cell", "source", "parts", "stacks", "early", "late", "mine", "turn", "way", "heard"]
abbrev P_law : List Str := ["script"]
theorem sc_law : FnScope N_law P_law (defScope s_law) := ⟨rfl, rfl, rfl, by decide +kernel, rfl, by decide +kernel, by decide +kernel⟩
def kg_first_unlike_0_joins_lengths {α : Type} : List α → List α → List α
  | [], [a, b] => [b, a]
  | _, _ => []
theorem kg_vals_first_unlike_0_joins_lengths : ∀ {vs zs : List V} {us ws : List Value}, Vals vs us → Vals zs ws → Vals (kg_first_unlike_0_joins_lengths vs zs) (kg_first_unlike_0_joins_lengths us ws)
  | _, _, _, _, .nil, .cons r_a (.cons r_b .nil) => .cons r_b (.cons r_a .nil)
  | _, _, _, _, .cons _ _, _ => .nil
  | _, _, _, _, .nil, .nil => .nil
  | _, _, _, _, .nil, .cons _ .nil => .nil
  | _, _, _, _, .nil, .cons _ (.cons _ (.cons _ _)) => .nil
def kg_is_way_0_joins_lengths {α : Type} : List α → List α → List α
  | [], [a, b] => [b, a]
  | _, _ => []
theorem kg_vals_is_way_0_joins_lengths : ∀ {vs zs : List V} {us ws : List Value}, Vals vs us → Vals zs ws → Vals (kg_is_way_0_joins_lengths vs zs) (kg_is_way_0_joins_lengths us ws)
  | _, _, _, _, .nil, .cons r_a (.cons r_b .nil) => .cons r_b (.cons r_a .nil)
  | _, _, _, _, .cons _ _, _ => .nil
  | _, _, _, _, .nil, .nil => .nil
  | _, _, _, _, .nil, .cons _ .nil => .nil
  | _, _, _, _, .nil, .cons _ (.cons _ (.cons _ _)) => .nil
def lq_judged : Str := "_law_judged.<locals>.<lambda>"
def lq_law : Str := "law.<locals>.<lambda>"
structure Ad where
  (lc_judged lp_judged : Addr) (lc_law lp_law : Addr) (InvalidKeys___init__ : Addr) (InvalidQuestion___init__ : Addr) (InvalidAnswers___init__ : Addr) (InvalidOrder___init__ : Addr) (InvalidLengths___init__ : Addr) (InvalidNumber___init__ : Addr) (TooLarge___init__ : Addr) (Mismatch___init__ : Addr) (is_integer : Addr) (is_within : Addr) (check_lengths : Addr) (level_between : Addr) (PieceStack___init__ : Addr) (PieceStack_border_to : Addr) (PieceStack_has_to_join : Addr) (PieceStack_put : Addr) (PieceStack_next_to_join : Addr) (PieceStack_join_at : Addr) (is_way_of : Addr) (is_join : Addr) (is_way : Addr) (first_unlike : Addr) (all_joins : Addr) (pile_up : Addr) (check_pieces : Addr) (mixed : Addr) (source : Addr) (take : Addr) (pick : Addr) (said : Addr) (level : Addr) (lengths : Addr) (starts : Addr) (note : Addr) (piled : Addr) (deep : Addr) (drawn_way : Addr) (obeys : Addr) (spoilt : Addr) (is_row : Addr) (judged : Addr) (law : Addr) (t_MOST_LENGTHS : Tok) (c_PieceStack : Addr) (c_InvalidKeys : Addr) (c_InvalidQuestion : Addr) (c_InvalidNumber : Addr) (c_InvalidAnswers : Addr) (c_InvalidOrder : Addr) (c_InvalidLengths : Addr) (c_TooLarge : Addr) (c_Mismatch : Addr) (c_SortError : Addr)
def LT (a : Ad) : List (Addr × Str) := [(a.lp_judged, lq_judged), (a.lp_law, lq_law)]
structure Fd where
  (InvalidKeys___init__ : FuncData) (InvalidQuestion___init__ : FuncData) (InvalidAnswers___init__ : FuncData) (InvalidOrder___init__ : FuncData) (InvalidLengths___init__ : FuncData) (InvalidNumber___init__ : FuncData) (TooLarge___init__ : FuncData) (Mismatch___init__ : FuncData) (is_integer : FuncData) (is_within : FuncData) (check_lengths : FuncData) (level_between : FuncData) (PieceStack___init__ : FuncData) (PieceStack_border_to : FuncData) (PieceStack_has_to_join : FuncData) (PieceStack_put : FuncData) (PieceStack_next_to_join : FuncData) (PieceStack_join_at : FuncData) (is_way_of : FuncData) (is_join : FuncData) (is_way : FuncData) (first_unlike : FuncData) (all_joins : FuncData) (pile_up : FuncData) (check_pieces : FuncData) (mixed : FuncData) (source : FuncData) (take : FuncData) (pick : FuncData) (said : FuncData) (level : FuncData) (lengths : FuncData) (starts : FuncData) (note : FuncData) (piled : FuncData) (deep : FuncData) (drawn_way : FuncData) (obeys : FuncData) (spoilt : FuncData) (is_row : FuncData) (judged : FuncData) (law : FuncData)
/-- what the top has written -/
structure Txt (K : PySem.W.Frag) (mg : Str → Option Value) (a : Ad) (d : Fd) : Prop where
  f_InvalidKeys___init__ : Fun K "__init__" "InvalidKeys.__init__" s_InvalidKeys___init__ a.InvalidKeys___init__ d.InvalidKeys___init__
  b_InvalidKeys___init__ : Binds K d.InvalidKeys___init__ P_InvalidKeys___init__ []
  f_InvalidQuestion___init__ : Fun K "__init__" "InvalidQuestion.__init__" s_InvalidQuestion___init__ a.InvalidQuestion___init__ d.InvalidQuestion___init__
  b_InvalidQuestion___init__ : Binds K d.InvalidQuestion___init__ P_InvalidQuestion___init__ []
  f_InvalidAnswers___init__ : Fun K "__init__" "InvalidAnswers.__init__" s_InvalidAnswers___init__ a.InvalidAnswers___init__ d.InvalidAnswers___init__
  b_InvalidAnswers___init__ : Binds K d.InvalidAnswers___init__ P_InvalidAnswers___init__ []
  f_InvalidOrder___init__ : Fun K "__init__" "InvalidOrder.__init__" s_InvalidOrder___init__ a.InvalidOrder___init__ d.InvalidOrder___init__
  b_InvalidOrder___init__ : Binds K d.InvalidOrder___init__ P_InvalidOrder___init__ []
  f_InvalidLengths___init__ : Fun K "__init__" "InvalidLengths.__init__" s_InvalidLengths___init__ a.InvalidLengths___init__ d.InvalidLengths___init__
  b_InvalidLengths___init__ : Binds K d.InvalidLengths___init__ P_InvalidLengths___init__ []
  f_InvalidNumber___init__ : Fun K "__init__" "InvalidNumber.__init__" s_InvalidNumber___init__ a.InvalidNumber___init__ d.InvalidNumber___init__
  b_InvalidNumber___init__ : Binds K d.InvalidNumber___init__ P_InvalidNumber___init__ []
  f_TooLarge___init__ : Fun K "__init__" "TooLarge.__init__" s_TooLarge___init__ a.TooLarge___init__ d.TooLarge___init__
  b_TooLarge___init__ : Binds K d.TooLarge___init__ P_TooLarge___init__ []
  f_Mismatch___init__ : Fun K "__init__" "Mismatch.__init__" s_Mismatch___init__ a.Mismatch___init__ d.Mismatch___init__
  b_Mismatch___init__ : Binds K d.Mismatch___init__ P_Mismatch___init__ []
  g_is_integer : mg "is_integer" = some (.ref a.is_integer)
  k_is_integer : PySem.W.keepIn K (.ref a.is_integer) = true
  f_is_integer : Fun K "is_integer" "is_integer" s_is_integer a.is_integer d.is_integer
  b_is_integer : Binds K d.is_integer P_is_integer []
  g_is_within : mg "is_within" = some (.ref a.is_within)
  k_is_within : PySem.W.keepIn K (.ref a.is_within) = true
  f_is_within : Fun K "is_within" "is_within" s_is_within a.is_within d.is_within
  b_is_within : Binds K d.is_within P_is_within []
  g_check_lengths : mg "check_lengths" = some (.ref a.check_lengths)
  k_check_lengths : PySem.W.keepIn K (.ref a.check_lengths) = true
  f_check_lengths : FunV K "check_lengths" "check_lengths" s_check_lengths a.check_lengths d.check_lengths
  b_check_lengths_1 : ∃ ds, Vals [.non] ds ∧ Binds K d.check_lengths P_check_lengths ds
  b_check_lengths : Binds K d.check_lengths P_check_lengths []
  g_level_between : mg "level_between" = some (.ref a.level_between)
  k_level_between : PySem.W.keepIn K (.ref a.level_between) = true
  f_level_between : Fun K "level_between" "level_between" s_level_between a.level_between d.level_between
  b_level_between : Binds K d.level_between P_level_between []
  m_PieceStack___init__ : Meth K a.c_PieceStack "__init__" a.PieceStack___init__
  f_PieceStack___init__ : Fun K "__init__" "PieceStack.__init__" s_PieceStack___init__ a.PieceStack___init__ d.PieceStack___init__
  b_PieceStack___init__ : Binds K d.PieceStack___init__ P_PieceStack___init__ []
  m_PieceStack_border_to : Meth K a.c_PieceStack "border_to" a.PieceStack_border_to
  f_PieceStack_border_to : Fun K "border_to" "PieceStack.border_to" s_PieceStack_border_to a.PieceStack_border_to d.PieceStack_border_to
  b_PieceStack_border_to : Binds K d.PieceStack_border_to P_PieceStack_border_to []
  m_PieceStack_has_to_join : Meth K a.c_PieceStack "has_to_join" a.PieceStack_has_to_join
  f_PieceStack_has_to_join : Fun K "has_to_join" "PieceStack.has_to_join" s_PieceStack_has_to_join a.PieceStack_has_to_join d.PieceStack_has_to_join
  b_PieceStack_has_to_join : Binds K d.PieceStack_has_to_join P_PieceStack_has_to_join []
  m_PieceStack_put : Meth K a.c_PieceStack "put" a.PieceStack_put
  f_PieceStack_put : Fun K "put" "PieceStack.put" s_PieceStack_put a.PieceStack_put d.PieceStack_put
  b_PieceStack_put : Binds K d.PieceStack_put P_PieceStack_put []
  m_PieceStack_next_to_join : Meth K a.c_PieceStack "next_to_join" a.PieceStack_next_to_join
  f_PieceStack_next_to_join : Fun K "next_to_join" "PieceStack.next_to_join" s_PieceStack_next_to_join a.PieceStack_next_to_join d.PieceStack_next_to_join
  b_PieceStack_next_to_join : Binds K d.PieceStack_next_to_join P_PieceStack_next_to_join []
  m_PieceStack_join_at : Meth K a.c_PieceStack "join_at" a.PieceStack_join_at
  f_PieceStack_join_at : Fun K "join_at" "PieceStack.join_at" s_PieceStack_join_at a.PieceStack_join_at d.PieceStack_join_at
  b_PieceStack_join_at : Binds K d.PieceStack_join_at P_PieceStack_join_at []
  g_is_way_of : mg "is_way_of" = some (.ref a.is_way_of)
  k_is_way_of : PySem.W.keepIn K (.ref a.is_way_of) = true
  f_is_way_of : Fun K "is_way_of" "is_way_of" s_is_way_of a.is_way_of d.is_way_of
  b_is_way_of : Binds K d.is_way_of P_is_way_of []
  g_is_join : mg "_is_join" = some (.ref a.is_join)
  k_is_join : PySem.W.keepIn K (.ref a.is_join) = true
  f_is_join : Fun K "_is_join" "_is_join" s_is_join a.is_join d.is_join
  b_is_join : Binds K d.is_join P_is_join []
  g_is_way : mg "is_way" = some (.ref a.is_way)
  k_is_way : PySem.W.keepIn K (.ref a.is_way) = true
  f_is_way : Fun K "is_way" "is_way" s_is_way a.is_way d.is_way
  b_is_way : Binds K d.is_way P_is_way []
  kn_is_way_0_joins_lengths : KBn K d.is_way P_is_way 0 ["joins", "lengths"] (fun us ws => kg_is_way_0_joins_lengths us ws) (fun us ws => kg_is_way_0_joins_lengths us ws)
  g_first_unlike : mg "first_unlike" = some (.ref a.first_unlike)
  k_first_unlike : PySem.W.keepIn K (.ref a.first_unlike) = true
  f_first_unlike : Fun K "first_unlike" "first_unlike" s_first_unlike a.first_unlike d.first_unlike
  b_first_unlike : Binds K d.first_unlike P_first_unlike []
  kn_first_unlike_0_joins_lengths : KBn K d.first_unlike P_first_unlike 0 ["joins", "lengths"] (fun us ws => kg_first_unlike_0_joins_lengths us ws) (fun us ws => kg_first_unlike_0_joins_lengths us ws)
  g_all_joins : mg "_all_joins" = some (.ref a.all_joins)
  k_all_joins : PySem.W.keepIn K (.ref a.all_joins) = true
  f_all_joins : Fun K "_all_joins" "_all_joins" s_all_joins a.all_joins d.all_joins
  b_all_joins : Binds K d.all_joins P_all_joins []
  g_pile_up : mg "_pile_up" = some (.ref a.pile_up)
  k_pile_up : PySem.W.keepIn K (.ref a.pile_up) = true
  f_pile_up : Fun K "_pile_up" "_pile_up" s_pile_up a.pile_up d.pile_up
  b_pile_up : Binds K d.pile_up P_pile_up []
  g_check_pieces : mg "_check_pieces" = some (.ref a.check_pieces)
  k_check_pieces : PySem.W.keepIn K (.ref a.check_pieces) = true
  f_check_pieces : Fun K "_check_pieces" "_check_pieces" s_check_pieces a.check_pieces d.check_pieces
  b_check_pieces : Binds K d.check_pieces P_check_pieces []
  g_mixed : mg "_law_mixed" = some (.ref a.mixed)
  k_mixed : PySem.W.keepIn K (.ref a.mixed) = true
  f_mixed : Fun K "_law_mixed" "_law_mixed" s_mixed a.mixed d.mixed
  b_mixed : Binds K d.mixed P_mixed []
  g_source : mg "_law_source" = some (.ref a.source)
  k_source : PySem.W.keepIn K (.ref a.source) = true
  f_source : Fun K "_law_source" "_law_source" s_source a.source d.source
  b_source : Binds K d.source P_source []
  g_take : mg "_law_take" = some (.ref a.take)
  k_take : PySem.W.keepIn K (.ref a.take) = true
  f_take : Fun K "_law_take" "_law_take" s_take a.take d.take
  b_take : Binds K d.take P_take []
  g_pick : mg "_law_pick" = some (.ref a.pick)
  k_pick : PySem.W.keepIn K (.ref a.pick) = true
  f_pick : Fun K "_law_pick" "_law_pick" s_pick a.pick d.pick
  b_pick : Binds K d.pick P_pick []
  g_said : mg "_law_said" = some (.ref a.said)
  k_said : PySem.W.keepIn K (.ref a.said) = true
  f_said : Fun K "_law_said" "_law_said" s_said a.said d.said
  b_said : Binds K d.said P_said []
  g_level : mg "_law_level" = some (.ref a.level)
  k_level : PySem.W.keepIn K (.ref a.level) = true
  f_level : Fun K "_law_level" "_law_level" s_level a.level d.level
  b_level : Binds K d.level P_level []
  g_lengths : mg "_law_lengths" = some (.ref a.lengths)
  k_lengths : PySem.W.keepIn K (.ref a.lengths) = true
  f_lengths : Fun K "_law_lengths" "_law_lengths" s_lengths a.lengths d.lengths
  b_lengths : Binds K d.lengths P_lengths []
  g_starts : mg "_law_starts" = some (.ref a.starts)
  k_starts : PySem.W.keepIn K (.ref a.starts) = true
  f_starts : Fun K "_law_starts" "_law_starts" s_starts a.starts d.starts
  b_starts : Binds K d.starts P_starts []
  g_note : mg "_law_note" = some (.ref a.note)
  k_note : PySem.W.keepIn K (.ref a.note) = true
  f_note : Fun K "_law_note" "_law_note" s_note a.note d.note
  b_note : Binds K d.note P_note []
  g_piled : mg "_law_piled" = some (.ref a.piled)
  k_piled : PySem.W.keepIn K (.ref a.piled) = true
  f_piled : Fun K "_law_piled" "_law_piled" s_piled a.piled d.piled
  b_piled : Binds K d.piled P_piled []
  g_deep : mg "_law_deep" = some (.ref a.deep)
  k_deep : PySem.W.keepIn K (.ref a.deep) = true
  f_deep : Fun K "_law_deep" "_law_deep" s_deep a.deep d.deep
  b_deep : Binds K d.deep P_deep []
  g_drawn_way : mg "_law_drawn_way" = some (.ref a.drawn_way)
  k_drawn_way : PySem.W.keepIn K (.ref a.drawn_way) = true
  f_drawn_way : Fun K "_law_drawn_way" "_law_drawn_way" s_drawn_way a.drawn_way d.drawn_way
  b_drawn_way : Binds K d.drawn_way P_drawn_way []
  g_obeys : mg "_law_obeys" = some (.ref a.obeys)
  k_obeys : PySem.W.keepIn K (.ref a.obeys) = true
  f_obeys : Fun K "_law_obeys" "_law_obeys" s_obeys a.obeys d.obeys
  b_obeys : Binds K d.obeys P_obeys []
  g_spoilt : mg "_law_spoilt" = some (.ref a.spoilt)
  k_spoilt : PySem.W.keepIn K (.ref a.spoilt) = true
  f_spoilt : Fun K "_law_spoilt" "_law_spoilt" s_spoilt a.spoilt d.spoilt
  b_spoilt : Binds K d.spoilt P_spoilt []
  g_is_row : mg "_law_is_row" = some (.ref a.is_row)
  k_is_row : PySem.W.keepIn K (.ref a.is_row) = true
  f_is_row : Fun K "_law_is_row" "_law_is_row" s_is_row a.is_row d.is_row
  b_is_row : Binds K d.is_row P_is_row []
  g_judged : mg "_law_judged" = some (.ref a.judged)
  k_judged : PySem.W.keepIn K (.ref a.judged) = true
  f_judged : Fun K "_law_judged" "_law_judged" s_judged a.judged d.judged
  b_judged : Binds K d.judged P_judged []
  g_law : mg "law" = some (.ref a.law)
  k_law : PySem.W.keepIn K (.ref a.law) = true
  f_law : Fun K "law" "law" s_law a.law d.law
  b_law : Binds K d.law P_law []
  lc_judged : d.judged.code = .ref a.lc_judged
  lc_law : d.law.code = .ref a.lc_law
  lne_judged_law : a.lp_judged ≠ a.lp_law
  g_MOST_LENGTHS : mg "MOST_LENGTHS" = some (.int 200 a.t_MOST_LENGTHS)
  z_bool : mg "bool" = none
  z_enumerate : mg "enumerate" = none
  z_int : mg "int" = none
  z_isinstance : mg "isinstance" = none
  z_len : mg "len" = none
  z_list : mg "list" = none
  z_range : mg "range" = none
  z_repr : mg "repr" = none
  z_sorted : mg "sorted" = none
  z_str : mg "str" = none
  z_sum : mg "sum" = none
  z_tuple : mg "tuple" = none
  z_zip : mg "zip" = none
  x_InvalidKeys : ExC K mg a.c_InvalidKeys a.InvalidKeys___init__ "InvalidKeys" "index"
  x_InvalidQuestion : ExC K mg a.c_InvalidQuestion a.InvalidQuestion___init__ "InvalidQuestion" "question"
  x_InvalidNumber : ExC K mg a.c_InvalidNumber a.InvalidNumber___init__ "InvalidNumber" "name"
  x_InvalidAnswers : ExC K mg a.c_InvalidAnswers a.InvalidAnswers___init__ "InvalidAnswers" "index"
  x_InvalidOrder : ExC K mg a.c_InvalidOrder a.InvalidOrder___init__ "InvalidOrder" "index"
  x_InvalidLengths : ExC K mg a.c_InvalidLengths a.InvalidLengths___init__ "InvalidLengths" "index"
  x_TooLarge : ExC K mg a.c_TooLarge a.TooLarge___init__ "TooLarge" "limit"
  x_Mismatch : ExC K mg a.c_Mismatch a.Mismatch___init__ "Mismatch" "name"
  xb : ExB K mg a.c_SortError "SortError"
  s_InvalidKeys_InvalidKeys : ExS K a.c_InvalidKeys a.c_InvalidKeys true
  s_InvalidKeys_InvalidQuestion : ExS K a.c_InvalidKeys a.c_InvalidQuestion false
  s_InvalidKeys_InvalidNumber : ExS K a.c_InvalidKeys a.c_InvalidNumber false
  s_InvalidKeys_InvalidAnswers : ExS K a.c_InvalidKeys a.c_InvalidAnswers false
  s_InvalidKeys_InvalidOrder : ExS K a.c_InvalidKeys a.c_InvalidOrder false
  s_InvalidKeys_InvalidLengths : ExS K a.c_InvalidKeys a.c_InvalidLengths false
  s_InvalidKeys_TooLarge : ExS K a.c_InvalidKeys a.c_TooLarge false
  s_InvalidKeys_Mismatch : ExS K a.c_InvalidKeys a.c_Mismatch false
  s_InvalidKeys_SortError : ExS K a.c_InvalidKeys a.c_SortError true
  s_InvalidQuestion_InvalidKeys : ExS K a.c_InvalidQuestion a.c_InvalidKeys false
  s_InvalidQuestion_InvalidQuestion : ExS K a.c_InvalidQuestion a.c_InvalidQuestion true
  s_InvalidQuestion_InvalidNumber : ExS K a.c_InvalidQuestion a.c_InvalidNumber false
  s_InvalidQuestion_InvalidAnswers : ExS K a.c_InvalidQuestion a.c_InvalidAnswers false
  s_InvalidQuestion_InvalidOrder : ExS K a.c_InvalidQuestion a.c_InvalidOrder false
  s_InvalidQuestion_InvalidLengths : ExS K a.c_InvalidQuestion a.c_InvalidLengths false
  s_InvalidQuestion_TooLarge : ExS K a.c_InvalidQuestion a.c_TooLarge false
  s_InvalidQuestion_Mismatch : ExS K a.c_InvalidQuestion a.c_Mismatch false
  s_InvalidQuestion_SortError : ExS K a.c_InvalidQuestion a.c_SortError true
  s_InvalidNumber_InvalidKeys : ExS K a.c_InvalidNumber a.c_InvalidKeys false
  s_InvalidNumber_InvalidQuestion : ExS K a.c_InvalidNumber a.c_InvalidQuestion false
  s_InvalidNumber_InvalidNumber : ExS K a.c_InvalidNumber a.c_InvalidNumber true
  s_InvalidNumber_InvalidAnswers : ExS K a.c_InvalidNumber a.c_InvalidAnswers false
  s_InvalidNumber_InvalidOrder : ExS K a.c_InvalidNumber a.c_InvalidOrder false
  s_InvalidNumber_InvalidLengths : ExS K a.c_InvalidNumber a.c_InvalidLengths false
  s_InvalidNumber_TooLarge : ExS K a.c_InvalidNumber a.c_TooLarge false
  s_InvalidNumber_Mismatch : ExS K a.c_InvalidNumber a.c_Mismatch false
  s_InvalidNumber_SortError : ExS K a.c_InvalidNumber a.c_SortError true
  s_InvalidAnswers_InvalidKeys : ExS K a.c_InvalidAnswers a.c_InvalidKeys false
  s_InvalidAnswers_InvalidQuestion : ExS K a.c_InvalidAnswers a.c_InvalidQuestion false
  s_InvalidAnswers_InvalidNumber : ExS K a.c_InvalidAnswers a.c_InvalidNumber false
  s_InvalidAnswers_InvalidAnswers : ExS K a.c_InvalidAnswers a.c_InvalidAnswers true
  s_InvalidAnswers_InvalidOrder : ExS K a.c_InvalidAnswers a.c_InvalidOrder false
  s_InvalidAnswers_InvalidLengths : ExS K a.c_InvalidAnswers a.c_InvalidLengths false
  s_InvalidAnswers_TooLarge : ExS K a.c_InvalidAnswers a.c_TooLarge false
  s_InvalidAnswers_Mismatch : ExS K a.c_InvalidAnswers a.c_Mismatch false
  s_InvalidAnswers_SortError : ExS K a.c_InvalidAnswers a.c_SortError true
  s_InvalidOrder_InvalidKeys : ExS K a.c_InvalidOrder a.c_InvalidKeys false
  s_InvalidOrder_InvalidQuestion : ExS K a.c_InvalidOrder a.c_InvalidQuestion false
  s_InvalidOrder_InvalidNumber : ExS K a.c_InvalidOrder a.c_InvalidNumber false
  s_InvalidOrder_InvalidAnswers : ExS K a.c_InvalidOrder a.c_InvalidAnswers false
  s_InvalidOrder_InvalidOrder : ExS K a.c_InvalidOrder a.c_InvalidOrder true
  s_InvalidOrder_InvalidLengths : ExS K a.c_InvalidOrder a.c_InvalidLengths false
  s_InvalidOrder_TooLarge : ExS K a.c_InvalidOrder a.c_TooLarge false
  s_InvalidOrder_Mismatch : ExS K a.c_InvalidOrder a.c_Mismatch false
  s_InvalidOrder_SortError : ExS K a.c_InvalidOrder a.c_SortError true
  s_InvalidLengths_InvalidKeys : ExS K a.c_InvalidLengths a.c_InvalidKeys false
  s_InvalidLengths_InvalidQuestion : ExS K a.c_InvalidLengths a.c_InvalidQuestion false
  s_InvalidLengths_InvalidNumber : ExS K a.c_InvalidLengths a.c_InvalidNumber false
  s_InvalidLengths_InvalidAnswers : ExS K a.c_InvalidLengths a.c_InvalidAnswers false
  s_InvalidLengths_InvalidOrder : ExS K a.c_InvalidLengths a.c_InvalidOrder false
  s_InvalidLengths_InvalidLengths : ExS K a.c_InvalidLengths a.c_InvalidLengths true
  s_InvalidLengths_TooLarge : ExS K a.c_InvalidLengths a.c_TooLarge false
  s_InvalidLengths_Mismatch : ExS K a.c_InvalidLengths a.c_Mismatch false
  s_InvalidLengths_SortError : ExS K a.c_InvalidLengths a.c_SortError true
  s_TooLarge_InvalidKeys : ExS K a.c_TooLarge a.c_InvalidKeys false
  s_TooLarge_InvalidQuestion : ExS K a.c_TooLarge a.c_InvalidQuestion false
  s_TooLarge_InvalidNumber : ExS K a.c_TooLarge a.c_InvalidNumber false
  s_TooLarge_InvalidAnswers : ExS K a.c_TooLarge a.c_InvalidAnswers false
  s_TooLarge_InvalidOrder : ExS K a.c_TooLarge a.c_InvalidOrder false
  s_TooLarge_InvalidLengths : ExS K a.c_TooLarge a.c_InvalidLengths false
  s_TooLarge_TooLarge : ExS K a.c_TooLarge a.c_TooLarge true
  s_TooLarge_Mismatch : ExS K a.c_TooLarge a.c_Mismatch false
  s_TooLarge_SortError : ExS K a.c_TooLarge a.c_SortError true
  s_Mismatch_InvalidKeys : ExS K a.c_Mismatch a.c_InvalidKeys false
  s_Mismatch_InvalidQuestion : ExS K a.c_Mismatch a.c_InvalidQuestion false
  s_Mismatch_InvalidNumber : ExS K a.c_Mismatch a.c_InvalidNumber false
  s_Mismatch_InvalidAnswers : ExS K a.c_Mismatch a.c_InvalidAnswers false
  s_Mismatch_InvalidOrder : ExS K a.c_Mismatch a.c_InvalidOrder false
  s_Mismatch_InvalidLengths : ExS K a.c_Mismatch a.c_InvalidLengths false
  s_Mismatch_TooLarge : ExS K a.c_Mismatch a.c_TooLarge false
  s_Mismatch_Mismatch : ExS K a.c_Mismatch a.c_Mismatch true
  s_Mismatch_SortError : ExS K a.c_Mismatch a.c_SortError true
  ec_InvalidKeys : ExcC K a.c_InvalidKeys
  ec_InvalidQuestion : ExcC K a.c_InvalidQuestion
  ec_InvalidNumber : ExcC K a.c_InvalidNumber
  ec_InvalidAnswers : ExcC K a.c_InvalidAnswers
  ec_InvalidOrder : ExcC K a.c_InvalidOrder
  ec_InvalidLengths : ExcC K a.c_InvalidLengths
  ec_TooLarge : ExcC K a.c_TooLarge
  ec_Mismatch : ExcC K a.c_Mismatch
  cl_PieceStack : Cls K a.c_PieceStack
  g_PieceStack : mg "PieceStack" = some (.ref a.c_PieceStack)
  mk_PieceStack : Mk K a.c_PieceStack a.PieceStack___init__
  n_whole : NoAttr K a.c_PieceStack "whole"
  n_piled : NoAttr K a.c_PieceStack "piled"
/-! keywords -/
theorem kbn_is_way_0_joins_lengths {K : PySem.W.Frag} {f : Addr} {fd : FuncData} (F : Fun K "is_way" "is_way" s_is_way f fd) : KBn K fd P_is_way 0 ["joins", "lengths"] (fun us ws => kg_is_way_0_joins_lengths us ws) (fun us ws => kg_is_way_0_joins_lengths us ws) := by
  obtain ⟨oc, od, kV, doc, pm, an, cdv, ct, osl, rfl, lk, hcd⟩ := F.ex
  refine ⟨fun s us ws _ h1 h2 => ?_, fun {vs us zs ws} r1 r2 => ?_⟩
  · match us, ws, h1, h2 with
    | [], [_, _], _, _ => exact .of_eq rfl
  · exact kg_vals_is_way_0_joins_lengths r1 r2
theorem kbn_first_unlike_0_joins_lengths {K : PySem.W.Frag} {f : Addr} {fd : FuncData} (F : Fun K "first_unlike" "first_unlike" s_first_unlike f fd) : KBn K fd P_first_unlike 0 ["joins", "lengths"] (fun us ws => kg_first_unlike_0_joins_lengths us ws) (fun us ws => kg_first_unlike_0_joins_lengths us ws) := by
  obtain ⟨oc, od, kV, doc, pm, an, cdv, ct, osl, rfl, lk, hcd⟩ := F.ex
  refine ⟨fun s us ws _ h1 h2 => ?_, fun {vs us zs ws} r1 r2 => ?_⟩
  · match us, ws, h1, h2 with
    | [], [_, _], _, _ => exact .of_eq rfl
  · exact kg_vals_first_unlike_0_joins_lengths r1 r2
end K38

namespace K38
open PySem PySem.Spec PyProof.Rows L2 

def spIsIntX (K : PySem.W.Frag) : Sp := fun vs H Q _ => ∃ v b, vs = [v] ∧ IntQ K H v b ∧ Q (.bl b) H
section
variable {P : Program} {w : World} {K : PySem.W.Frag} {mg : Str → Option Value} {base : Heap} {a : Ad} {d : Fd}
theorem ok_is_integer (T : Txt K mg a d) : FnOk P w K mg base CX0 1 a.is_integer d.is_integer P_is_integer (spIsIntX K) := by
  refine T.f_is_integer.ok sc_is_integer (fun vs H Q E h => ?_) (fun cdv A outer s H vs Q E hr h => ?_)
  · obtain ⟨v, b, rfl, _⟩ := h
    rfl
  · obtain ⟨v, b, rfl, ⟨t, b1, b2, ty, k1, k2, rfl⟩, q⟩ := h
    refine ⟨_, (pss_one (ps_ret (pe_and (pe_callB call_isi (by rfl) T.z_isinstance (by decide +kernel) (pa_cons (pv 0) (pa_cons (pe_bltn (v := .ty "int") (u := .type "int") (by rfl) T.z_int (by decide +kernel) rfl) pa_nil))) (pe_one (pe_not (pe_callB call_isi (by rfl) T.z_isinstance (by decide +kernel) (pa_cons (pv 0) (pa_cons (pe_bltn (v := .ty "bool") (u := .type "bool") (by rfl) T.z_bool (by decide +kernel) rfl) pa_nil)))))))), ?_⟩
    refine ⟨_, rfl, v, .ty "int", t, .type "int", b1, rfl, .ty _, ty, k1, b1, rfl, ?_⟩
    cases b1 with
    | false => exact iteF q
    | true => exact iteT ⟨_, rfl, v, .ty "bool", t, .type "bool", b2, rfl, .ty _, ty, k2, b2, rfl, q⟩
end
def spLeastN : Sp := fun vs H Q _ => ∃ v lo, vs = [.int v, .int lo, .non] ∧ lo ≤ v ∧ Q (.bl true) H
/-- keys: a list or a tuple of ints -/
def KeysAt (H : Hp) (p : Addr) (ns : List Int) : Prop := H p = some (.lst (ns.map V.int)) ∨ H p = some (.tup (ns.map V.int))
theorem KeysAt.same {H H' : Hp} {p : Addr} {ns : List Int} (e : Same H H') (h : KeysAt H p ns) : KeysAt H' p ns := h.imp (e _ _) (e _ _)
theorem keys_item {ns : List Int} {i : Nat} {x : V} (h : (ns.map V.int)[i]? = some x) : ∃ z, ns[i]? = some z ∧ x = .int z := by
  rw [List.getElem?_map] at h
  cases e : ns[i]? with
  | none => rw [e] at h; cases h
  | some z => rw [e] at h; exact ⟨z, rfl, (Option.some.inj h).symm⟩
def spCheckLens : Sp := fun vs H Q _ => ∃ p ns lo hi, vs = [.ref p, .int lo, .int hi, .non] ∧ KeysAt H p ns ∧ lo ≤ (ns.length : Int) ∧ (ns.length : Int) ≤ hi ∧ (∀ z ∈ ns, 1 ≤ z) ∧ ∀ H', Same H H' → Q .non H'
def spPieces : Sp := fun vs H Q _ => ∃ p ns, vs = [.ref p] ∧ KeysAt H p ns ∧ 0 < ns.length ∧ ns.length ≤ 200 ∧ (∀ z ∈ ns, 1 ≤ z) ∧ ∀ H', Same H H' → Q .non H'
section
variable {P : Program} {w : World} {K : PySem.W.Frag} {mg : Str → Option Value} {base : Heap} {a : Ad} {d : Fd}
theorem ok_is_within (T : Txt K mg a d) : FnOk P w K mg base CX0 2 a.is_within d.is_within P_is_within spLeastN := by
  have G_is_integer : FnOk P w K mg base CX0 1 a.is_integer d.is_integer P_is_integer (spIsIntX K) := ok_is_integer T
  refine T.f_is_within.ok sc_is_within (fun vs H Q E h => ?_) (fun cdv A outer s H vs Q E hr h => ?_)
  · obtain ⟨v, lo, rfl, _⟩ := h
    rfl
  · obtain ⟨v, lo, rfl, h1, q⟩ := h
    refine ⟨_, (pss_one (ps_ret (pe_and (pe_call G_is_integer (hr.mono (by decide)) (by rfl) T.g_is_integer T.k_is_integer T.b_is_integer .nil pass0 (pa_cons (pv 0) pa_nil)) (pe_and (pe_cmpR op_ge (pv 0) (pv 1) (nomark _)) (pe_one (pe_or (pe_cmpR op_isN (pv 2) pe_non (nomark _)) (pe_one (pe_cmpR op_le (pv 0) (pv 2) (nomark _))))))))), ?_⟩
    refine ⟨_, rfl, .int v, true, rfl, IntQ.int v, true, rfl, iteT ?_⟩
    refine ⟨_, rfl, _, rfl, _, _, rfl, rfl, true, congrArg V.bl (decide_eq_true h1), iteT ?_⟩
    exact ⟨_, rfl, rfl, true, rfl, iteT q⟩
theorem ok_check_lengths (T : Txt K mg a d) : FnOk P w K mg base CX0 3 a.check_lengths d.check_lengths P_check_lengths spCheckLens := by
  have G_is_within : FnOk P w K mg base CX0 2 a.is_within d.is_within P_is_within spLeastN := ok_is_within T
  refine T.f_check_lengths.ok sc_check_lengths (fun vs H Q E h => ?_) (fun cdv A outer s H vs Q E hr h => ?_)
  · obtain ⟨p, ns, lo, hi, rfl, _⟩ := h
    rfl
  · obtain ⟨p, ns, lo, hi, rfl, hK, hl1, hl2, h1, q⟩ := h
    refine ⟨_, (pss_cons (ps_if (PW.pt (pw_or (pt_not (pt_val (pe_callB call_isiT (by rfl) T.z_isinstance (by decide +kernel) (pa_cons (pv 0) (pa_cons (pe_tup (pa_cons (pe_bltn (v := .ty "list") (u := .type "list") (by rfl) T.z_list (by decide +kernel) rfl) (pa_cons (pe_bltn (v := .ty "tuple") (u := .type "tuple") (by rfl) T.z_tuple (by decide +kernel) rfl) pa_nil))) pa_nil))))) (pw_or1 (pt_not (pt_chain op_le op_le (pv 1) (pe_callB call_len_seq (by rfl) T.z_len PySem.boot_len (pa_cons (pv 0) pa_nil)) (pv 2)))))) (pss_one ps_never) pss_nil)
    (pss_one (ps_for PassesOwn.never rfl (pi_enumA (by rfl) T.z_enumerate (pa_cons (pv 0) pa_nil)) (pg_tup rfl (pgs_cons (pg_name (i := 4) sc_check_lengths.nd rfl (Or.inl rfl)) (pgs_cons (pg_name (i := 5) sc_check_lengths.nd rfl (Or.inl rfl)) pgs_nil)))
      (pss_one (ps_if (pt_not (pt_val (pe_call G_is_within (hr.mono (by decide)) (by rfl) T.g_is_within T.k_is_within T.b_is_within .nil pass0 (pa_cons (pv 5) (pa_cons pe_int (pa_cons (pv 3) pa_nil)))))) (pss_one ps_never) pss_nil))))), ?_⟩
    refine ⟨_, rfl, by show 2 ≤ sizeLine; decide, fun tp htp => ?_⟩
    have s1 : Same H (upd H tp (.tup [.ty "list", .ty "tuple"])) := same_upd htp
    have hK1 := hK.same s1
    have hT : upd H tp (.tup [.ty "list", .ty "tuple"]) tp = some (.tup [.ty "list", .ty "tuple"]) := upd_same
    generalize upd H tp (.tup [.ty "list", .ty "tuple"]) = H1 at s1 hK1 hT ⊢
    have cs : Paired ClsV [.ty "list", .ty "tuple"] [.type "list", .type "tuple"] := .cons (.ty _) (.cons (.ty _) .nil)
    have hS : SqL K H1 p (ns.map V.int) ∨ SqT K H1 p (ns.map V.int) := hK1.imp L2.sq_of L2.st_of
    obtain ⟨t, hty, hkit⟩ : ∃ t, TyX K H1 (.ref p) t ∧ PySem.W.kitAny K t [.type "list", .type "tuple"] = some true := by
      rcases hK1 with hl | ht
      · exact ⟨_, .base (.lst hl), kitAny_cons (b := true) (kit_ty (by decide +kernel)) (fun z => nomatch z) (fun _ => rfl)⟩
      · exact ⟨_, .base (.tup ht), kitAny_cons (b := false) (kit_ty (by decide +kernel)) (fun _ => kitAny_cons (b := true) (kit_ty (by decide +kernel)) (fun z => nomatch z) (fun _ => rfl)) (fun z => nomatch z)⟩
    refine ⟨.ref p, tp, _, t, _, true, rfl, hT, cs, hty, hkit, true, rfl, iteF ?_⟩
    have el : (ns.map V.int).length = ns.length := List.length_map _
    refine ⟨_, rfl, _, rfl, p, _, rfl, hS, _, _, rfl, rfl, true, congrArg V.bl (decide_eq_true (by rw [el]; exact hl1)), iteT ⟨_, rfl, _, _, rfl, rfl, true, congrArg V.bl (decide_eq_true (by rw [el]; exact hl2)), iteF ?_⟩⟩
    · refine ⟨_, rfl, p, ns.map V.int, rfl, hS.imp (fun hs => ⟨hs, ?_⟩) (fun hs => ⟨hs, ?_⟩)⟩
      · refine for_iteL (K := K) (a := p) (xs := ns.map V.int) (fun i σ H' => (∃ u v, σ = [some (.ref p), some (.int lo), some (.int hi), some .non, u, v]) ∧ Same H1 H') ⟨⟨_, _, rfl⟩, Same.refl _⟩ (fun i σ H' _ h => h.2.seq hs) ?_ ?_
        · rintro i y σ H2 Tp hy ⟨⟨u, v, rfl⟩, sm⟩ hn
          obtain ⟨z, hz, rfl⟩ := keys_item hy
          refine ⟨Tp, _, rfl, L2.st_of upd_same, rfl, _, _, rfl, _, _, rfl, rfl, ?_⟩
          refine ⟨_, rfl, _, rfl, z, 1, rfl, h1 z (List.mem_of_getElem? hz), true, rfl, iteF ?_⟩
          exact ⟨⟨_, _, rfl⟩, sm.trans (same_upd hn)⟩
        · rintro σ H' ⟨_, sm⟩
          exact q H' (s1.trans sm)
      · refine for_iteT (K := K) (a := p) (xs := ns.map V.int) (fun i σ H' => (∃ u v, σ = [some (.ref p), some (.int lo), some (.int hi), some .non, u, v]) ∧ Same H1 H') ⟨⟨_, _, rfl⟩, Same.refl _⟩ (fun i σ H' _ h => Same.tupS h.2 hs) ?_ ?_
        · rintro i y σ H2 Tp hy ⟨⟨u, v, rfl⟩, sm⟩ hn
          obtain ⟨z, hz, rfl⟩ := keys_item hy
          refine ⟨Tp, _, rfl, L2.st_of upd_same, rfl, _, _, rfl, _, _, rfl, rfl, ?_⟩
          refine ⟨_, rfl, _, rfl, z, 1, rfl, h1 z (List.mem_of_getElem? hz), true, rfl, iteF ?_⟩
          exact ⟨⟨_, _, rfl⟩, sm.trans (same_upd hn)⟩
        · rintro σ H' ⟨_, sm⟩
          exact q H' (s1.trans sm)
theorem ok_check_pieces (T : Txt K mg a d) : FnOk P w K mg base CX0 4 a.check_pieces d.check_pieces P_check_pieces spPieces := by
  have G_check_lengths : FnOk P w K mg base CX0 3 a.check_lengths d.check_lengths P_check_lengths spCheckLens := ok_check_lengths T
  refine T.f_check_pieces.ok sc_check_pieces (fun vs H Q E h => ?_) (fun cdv A outer s H vs Q E hr h => ?_)
  · obtain ⟨p, ns, rfl, _⟩ := h
    rfl
  · obtain ⟨p, ns, rfl, hK, l0, l1, h1, q⟩ := h
    refine ⟨_, (pss_one (ps_expr (pe_call (dvs := [.non]) G_check_lengths (hr.mono (by decide)) (by rfl) T.g_check_lengths T.k_check_lengths T.b_check_lengths_1.choose_spec.2 T.b_check_lengths_1.choose_spec.1 pass0 (pa_cons (pv 0) (pa_cons pe_int (pa_cons (pe_glob (v := .int 200) rfl T.g_MOST_LENGTHS ⟨_, rfl⟩) pa_nil)))))), ?_⟩
    exact ⟨_, rfl, p, ns, 1, 200, rfl, hK, by omega, by omega, h1, fun H' s' => q H' s'⟩
end

end K38

namespace K38
open PySem PySem.Spec PyProof.Rows L2 
def spLevel : Sp := fun vs H Q _ => ∃ (s f g w : Nat), vs = [.int (s : Int), .int (f : Int), .int (g : Int), .int (w : Int)] ∧ 0 < g ∧ s + f + g ≤ w ∧ w < 2 ^ 1000 ∧ Q (.int ((Lv.lev (2 * w) (2 * s + f) (f + g) : Nat) : Int)) H
theorem bits_nat (n : Nat) : (Builtin.Int.intBits (n : Int) : Nat) = PF.bl n := by
  unfold Builtin.Int.intBits PF.bl
  rcases Nat.eq_zero_or_pos n with h | h
  · subst h
    rfl
  · simp [Nat.pos_iff_ne_zero.mp h]
theorem shl_cond {n k : Nat} (h : n < 2 ^ 2000) (h2 : k ≤ 2000) : CShl (n : Int) (k : Int) := by
  refine ⟨Int.natCast_nonneg _, ?_⟩
  have b : Builtin.Int.intBits (n : Int) ≤ 2000 := by rw [bits_nat]; exact Lv.bl_le.mpr h
  omega
theorem fig_int (W m c : Nat) : (m : Int) * 2 ^ c / (W : Int) = ((Lv.fig W m c : Nat) : Int) := by
  unfold Lv.fig
  rw [Int.natCast_ediv, Int.natCast_mul, Int.natCast_pow]
  rfl
section
variable {P : Program} {w : World} {K : PySem.W.Frag} {mg : Str → Option Value} {base : Heap} {a : Ad} {d : Fd}
theorem ok_level_between (T : Txt K mg a d) : FnOk P w K mg base CX0 1 a.level_between d.level_between P_level_between spLevel := by
  refine T.f_level_between.ok sc_level_between (fun vs H Q E h => ?_) (fun cdv A outer s0 H vs Q E hr h => ?_)
  · obtain ⟨s, f, g, w, rfl, _⟩ := h
    rfl
  · obtain ⟨s, f, g, w, rfl, hg, hw, h2, q⟩ := h
    refine ⟨_, (pss_cons (ps_set (i := 4) sc_level_between.nd rfl (Or.inl rfl) (pe_op op_add (pe_op op_mul pe_int (pv 0)) (pv 1)))
    (pss_cons (ps_set (i := 5) sc_level_between.nd rfl (Or.inl rfl) (pe_op op_add (pv 1) (pv 2)))
    (pss_cons (ps_set (i := 6) sc_level_between.nd rfl (Or.inl rfl) (pe_op op_add (pe_op op_sub (pe_bits (pe_op op_mul pe_int (pv 3))) (pe_bits (pv 5))) pe_int))
    (pss_cons (ps_set (i := 7) sc_level_between.nd rfl (Or.inl rfl) (pe_op op_fdivW (pe_op op_shlN (pv 4) (pv 6)) (pe_op op_mul pe_int (pv 3))))
    (pss_cons (ps_set (i := 8) sc_level_between.nd rfl (Or.inl rfl) (pe_op op_fdivW (pe_op op_shlN (pe_op op_add (pv 4) (pv 5)) (pv 6)) (pe_op op_mul pe_int (pv 3))))
    (pss_one (ps_ret (pe_op op_add (pe_op op_sub (pv 6) (pe_bits (pe_op op_xor (pv 7) (pv 8)))) pe_int)))))))), ?_⟩
    have em : (2 : Int) * (s : Int) + (f : Int) = ((2 * s + f : Nat) : Int) := by omega
    have ed : (f : Int) + (g : Int) = ((f + g : Nat) : Int) := by omega
    have eW : (2 : Int) * (w : Int) = ((2 * w : Nat) : Int) := by omega
    have lt : 2 * s + f + (f + g) < 2 * w := by omega
    obtain ⟨r1, r2, r3, r4, r5⟩ := Lv.lev_right (W := 2 * w) (m := 2 * s + f) (d := f + g) (by omega) lt
    have big : 2 * w < 2 ^ 1001 := by rw [show (1001 : Nat) = 1000 + 1 from rfl, Nat.pow_succ]; omega
    have bW : PF.bl (2 * w) ≤ 1001 := Lv.bl_le.mpr big
    have bd : PF.bl (f + g) ≤ PF.bl (2 * w) := Lv.bl_le.mpr (Nat.lt_of_le_of_lt (by omega) (Lv.bl_le.mp (Nat.le_refl _)))
    have ef : ((Builtin.Int.intBits ((2 * w : Nat) : Int) : Nat) : Int) - ((Builtin.Int.intBits ((f + g : Nat) : Int) : Nat) : Int) + 1 = ((Lv.enough (2 * w) (f + g) : Nat) : Int) := by
      rw [bits_nat, bits_nat]
      unfold Lv.enough
      omega
    have eF : Lv.enough (2 * w) (f + g) ≤ 2000 := by unfold Lv.enough; omega
    have up : (2 : Nat) ^ 1001 ≤ 2 ^ 2000 := Nat.pow_le_pow_right (by decide) (by decide)
    have up2 : (2 : Nat) ^ 1001 ≤ 2 ^ 1002 := Nat.pow_le_pow_right (by decide) (by decide)
    refine ⟨_, rfl, _, _, rfl, rfl, .inl ⟨by decide, by decide⟩, _, rfl, _, _, rfl, rfl, ?_⟩
    dsimp only
    rw [em]
    refine ⟨_, rfl, _, rfl, _, _, rfl, rfl, ?_⟩
    dsimp only
    rw [ed]
    refine ⟨_, rfl, _, _, rfl, rfl, .inl ⟨by decide, by decide⟩, _, congrArg V.int eW, _, rfl, _, rfl, _, _, rfl, rfl, _, _, rfl, rfl, ?_⟩
    dsimp only
    rw [ef]
    have cond : CDivW (((2 * s + f : Nat) : Int) * 2 ^ Lv.enough (2 * w) (f + g)) ((2 * w : Nat) : Int) := wide_div (b := 1002) (by omega) (by rw [Int.natAbs_natCast]; omega) (by decide) (by decide)
    refine ⟨_, rfl, _, rfl, ((2 * s + f : Nat) : Int), Lv.enough (2 * w) (f + g), rfl, rfl, shl_cond (by omega) eF, _, rfl, _, _, rfl, rfl, .inl ⟨by decide, by decide⟩, _, ((2 * w : Nat) : Int), rfl, congrArg V.int eW, cond, ?_⟩
    dsimp only
    rw [fig_int]
    refine ⟨_, rfl, _, rfl, _, _, rfl, rfl, _, rfl, ((2 * s + f + (f + g) : Nat) : Int), Lv.enough (2 * w) (f + g), congrArg V.int (Int.natCast_add _ _).symm, rfl, shl_cond (by omega) eF, _, rfl, _, _, rfl, rfl, .inl ⟨by decide, by decide⟩, _, ((2 * w : Nat) : Int), rfl, congrArg V.int eW, wide_div (b := 1002) (by omega) (by rw [Int.natAbs_natCast]; omega) (by decide) (by decide), ?_⟩
    dsimp only
    rw [fig_int]
    refine ⟨_, rfl, _, rfl, _, rfl, _, _, rfl, rfl, _, rfl, _, _, rfl, rfl, _, _, rfl, rfl, ?_⟩
    have ex : (Builtin.Int.intBits (Builtin.bitXor ((Lv.fig (2 * w) (2 * s + f) (Lv.enough (2 * w) (f + g)) : Nat) : Int) ((Lv.fig (2 * w) (2 * s + f + (f + g)) (Lv.enough (2 * w) (f + g)) : Nat) : Int)) : Nat) = PF.bl (Lv.fig (2 * w) (2 * s + f) (Lv.enough (2 * w) (f + g)) ^^^ Lv.fig (2 * w) (2 * s + f + (f + g)) (Lv.enough (2 * w) (f + g))) := by
      rw [Bits.bitXor_pp (Int.natCast_nonneg _) (Int.natCast_nonneg _), Int.toNat_natCast, Int.toNat_natCast, bits_nat]
    dsimp only
    rw [ex]
    have fin : ((Lv.enough (2 * w) (f + g) : Nat) : Int) - ((PF.bl (Lv.fig (2 * w) (2 * s + f) (Lv.enough (2 * w) (f + g)) ^^^ Lv.fig (2 * w) (2 * s + f + (f + g)) (Lv.enough (2 * w) (f + g))) : Nat) : Int) + 1 = ((Lv.lev (2 * w) (2 * s + f) (f + g) : Nat) : Int) := by
      unfold Lv.lev
      omega
    rw [fin]
    exact q
theorem ok_llevel (T : Txt K mg a d) : FnOk P w K mg base CX0 1 a.level d.level P_level spLevel := by
  refine T.f_level.ok sc_level (fun vs H Q E h => ?_) (fun cdv A outer s0 H vs Q E hr h => ?_)
  · obtain ⟨s, f, g, w, rfl, _⟩ := h
    rfl
  · obtain ⟨s, f, g, w, rfl, hg, hw, h2, q⟩ := h
    refine ⟨_, (pss_cons (ps_set (i := 4) sc_level.nd rfl (Or.inl rfl) (pe_op op_add (pe_op op_mul pe_int (pv 0)) (pv 1)))
    (pss_cons (ps_par (i := 5) (j := 6) rfl sc_level.nd rfl rfl (by decide) rfl rfl (pa_cons (pe_op op_add (pe_op op_add (pv 4) (pv 1)) (pv 2)) (pa_cons pe_int pa_nil)) (by rfl))
    (pss_cons (ps_while PassesOwn.never (pt_cmpR op_eq (pe_op op_fdivW (pe_op op_shlN (pv 4) (pv 6)) (pe_op op_mul pe_int (pv 3))) (pe_op op_fdivW (pe_op op_shlN (pv 5) (pv 6)) (pe_op op_mul pe_int (pv 3))) (nomark _))
      (pss_one (ps_set (i := 6) sc_level.nd rfl (Or.inl rfl) (pe_op op_add (pv 6) pe_int))))
    (pss_one (ps_ret (pv 6)))))), ?_⟩
    have em : (2 : Int) * (s : Int) + (f : Int) = ((2 * s + f : Nat) : Int) := by omega
    have eh : ((2 * s + f : Nat) : Int) + (f : Int) + (g : Int) = ((2 * s + f + (f + g) : Nat) : Int) := by omega
    have eW : (2 : Int) * (w : Int) = ((2 * w : Nat) : Int) := by omega
    have lt : 2 * s + f + (f + g) < 2 * w := by omega
    obtain ⟨r1, r2, r3, r4, r5⟩ := Lv.lev_right (W := 2 * w) (m := 2 * s + f) (d := f + g) (by omega) lt
    have big : 2 * w < 2 ^ 1001 := by rw [show (1001 : Nat) = 1000 + 1 from rfl, Nat.pow_succ]; omega
    have bW : PF.bl (2 * w) ≤ 1001 := Lv.bl_le.mpr big
    have eF : Lv.enough (2 * w) (f + g) ≤ 2000 := by unfold Lv.enough; omega
    have up : (2 : Nat) ^ 1001 ≤ 2 ^ 2000 := Nat.pow_le_pow_right (by decide) (by decide)
    have up2 : (2 : Nat) ^ 1001 ≤ 2 ^ 1002 := Nat.pow_le_pow_right (by decide) (by decide)
    refine ⟨_, rfl, _, _, rfl, rfl, .inl ⟨by decide, by decide⟩, _, rfl, _, _, rfl, rfl, ?_⟩
    dsimp only
    rw [em]
    refine ⟨_, rfl, _, rfl, _, _, rfl, rfl, _, rfl, _, _, rfl, rfl, _, _, rfl, ?_⟩
    dsimp only
    rw [eh]
    refine while_by (fun σ H' => H' = H ∧ ∃ c, 1 ≤ c ∧ c ≤ Lv.lev (2 * w) (2 * s + f) (f + g) ∧ σ = [some (.int (s : Int)), some (.int (f : Int)), some (.int (g : Int)), some (.int (w : Int)), some (.int ((2 * s + f : Nat) : Int)), some (.int ((2 * s + f + (f + g) : Nat) : Int)), some (.int ((c : Nat) : Int))])
      (fun σ _ => match σ with
        | [_, _, _, _, _, _, some (.int c)] => Lv.lev (2 * w) (2 * s + f) (f + g) - c.toNat
        | _ => 0) ⟨rfl, 1, Nat.le_refl _, r2, rfl⟩ ?_ ?_
    · rintro σ _ ⟨rfl, c, c1, c2, rfl⟩
      have cF : c ≤ 2000 := by omega
      refine ⟨_, rfl, _, rfl, ((2 * s + f : Nat) : Int), c, rfl, rfl, shl_cond (by omega) cF, _, rfl, _, _, rfl, rfl, .inl ⟨by decide, by decide⟩, _, ((2 * w : Nat) : Int), rfl, congrArg V.int eW, wide_div (b := 1002) (by omega) (by rw [Int.natAbs_natCast]; omega) (by decide) (by decide), ?_⟩
      refine ⟨_, rfl, _, rfl, ((2 * s + f + (f + g) : Nat) : Int), c, rfl, rfl, shl_cond (by omega) cF, _, rfl, _, _, rfl, rfl, .inl ⟨by decide, by decide⟩, _, ((2 * w : Nat) : Int), rfl, congrArg V.int eW, wide_div (b := 1002) (by omega) (by rw [Int.natAbs_natCast]; omega) (by decide) (by decide), ?_⟩
      dsimp only
      rw [fig_int, fig_int]
      refine ⟨rfl, decide (c < Lv.lev (2 * w) (2 * s + f) (f + g)), ?_, ?_⟩
      · refine congrArg V.bl (decide_eq_decide.mpr ⟨fun z => ?_, fun z => ?_⟩)
        · rcases Nat.lt_or_ge c (Lv.lev (2 * w) (2 * s + f) (f + g)) with h | h
          · exact h
          · have e : c = Lv.lev (2 * w) (2 * s + f) (f + g) := by omega
            rw [e] at z
            exact absurd (Int.ofNat_inj.mp (V.int.inj z)) r5
        · rw [r4 c z]
      · by_cases h : c < Lv.lev (2 * w) (2 * s + f) (f + g)
        · rw [decide_eq_true h]
          refine iteT ⟨_, rfl, _, _, rfl, rfl, ⟨rfl, c + 1, by omega, h, rfl⟩, ?_⟩
          show Lv.lev (2 * w) (2 * s + f) (f + g) - ((c : Int) + 1).toNat < Lv.lev (2 * w) (2 * s + f) (f + g) - ((c : Nat) : Int).toNat
          omega
        · have e : c = Lv.lev (2 * w) (2 * s + f) (f + g) := by omega
          rw [decide_eq_false h]
          refine iteF ⟨_, rfl, ?_⟩
          rw [e]
          exact q
    · rintro σ H' Q1 Q2 hq ⟨v1, e1, v2, e2, i1, k1, e3, e4, e5, v3, e6, i2, j2, e7, e8, e9, i3, j3, e10, e11, e12, u1, f1, u2, f2, i4, k4, f3, f4, f5, u3, f6, i5, j5, f7, f8, f9, i6, j6, f10, f11, f12, g1, b, g2, g3⟩
      exact ⟨v1, e1, v2, e2, i1, k1, e3, e4, e5, v3, e6, i2, j2, e7, e8, e9, i3, j3, e10, e11, e12, u1, f1, u2, f2, i4, k4, f3, f4, f5, u3, f6, i5, j5, f7, f8, f9, i6, j6, f10, f11, f12, g1, b, g2, hq _ _ g3⟩
end

def spInitS (C : Addr) : Sp := fun vs H Q _ => ∃ (x dx : Addr) (w : Nat), vs = [.ref x, .int (w : Int)] ∧ H x = some (.ins C dx []) ∧ ∀ (r : Addr) (H' : Hp), H r = none → StkAt C H' x r w [] → Fr2 x r H H' → Q .non H'
def spBorder (C : Addr) : Sp := fun vs H Q _ => ∃ (x r : Addr) (w g : Nat) (ps : List Pc) (c : Pc), vs = [.ref x, .int (g : Int)] ∧ StkAt C H x r w ps ∧ ps.getLast? = some c ∧ 0 < g ∧ c.st + c.ln + g ≤ w ∧ w < 2 ^ 1000 ∧ Q (.int ((Lv.lev (2 * w) (2 * c.st + c.ln) (c.ln + g) : Nat) : Int)) H
def spHas (C : Addr) : Sp := fun vs H Q _ => ∃ (x r : Addr) (w b : Nat) (ps : List Pc), vs = [.ref x, .int (b : Int)] ∧ StkAt C H x r w ps ∧ (∀ c, 2 ≤ ps.length → ps[ps.length - 2]? = some c → c.lv ≠ none) ∧ Q (.bl (Pile.hasTo ps b)) H
def spNext (C : Addr) : Sp := fun vs H Q _ => ∃ (x r : Addr) (w : Nat) (ps : List Pc), vs = [.ref x] ∧ StkAt C H x r w ps ∧ 2 ≤ ps.length ∧ Q (.int ((Pile.next ps : Nat) : Int)) H
def spJoin (C : Addr) : Sp := fun vs H Q _ => ∃ (x r : Addr) (w i : Nat) (ps : List Pc) (c e : Pc), vs = [.ref x, .int (i : Int)] ∧ StkAt C H x r w ps ∧ ps.length ≤ 1000 ∧ ps[i]? = some c ∧ ps[i + 1]? = some e ∧
  ∀ (t : Addr) (H' : Hp), H t = none → H' t = some (.tup [.int (c.st : Int), .int (c.ln : Int), .int (e.ln : Int)]) → StkAt C H' x r w (Pile.join ps i) → Fr2 x r H H' → Q (.ref t) H'
def spPutS (C : Addr) : Sp := fun vs H Q _ => ∃ (x r : Addr) (w s l : Nat) (b : Option Nat) (ps : List Pc), vs = [.ref x, .int (s : Int), .int (l : Int), optV b] ∧ StkAt C H x r w ps ∧ ps.length ≤ 1000 ∧ ∀ H', StkAt C H' x r w (Pile.put ps s l b) → Fr2 x r H H' → Q .non H'
theorem atI_back {xs : List V} {k : Nat} {v : V} (h0 : 0 < k) (h1 : k ≤ xs.length) (h : xs[xs.length - k]? = some v) : atI xs (-(k : Int)) = some v := by
  have e : ixN xs.length (-(k : Int)) = some (xs.length - k) := by
    unfold ixN
    rw [if_neg (by omega), if_pos (by omega)]
    exact congrArg some (by omega)
  unfold atI
  rw [e]
  exact h
section
variable {P : Program} {w : World} {K : PySem.W.Frag} {mg : Str → Option Value} {base : Heap} {a : Ad} {d : Fd}
theorem ok_initS (T : Txt K mg a d) : FnOk P w K mg base CX0 1 a.PieceStack___init__ d.PieceStack___init__ P_PieceStack___init__ (spInitS a.c_PieceStack) := by
  refine T.f_PieceStack___init__.ok sc_PieceStack___init__ (fun vs H Q E h => ?_) (fun cdv A outer s0 H vs Q E hr h => ?_)
  · obtain ⟨x, dx, w, rfl, _⟩ := h
    rfl
  · obtain ⟨x, dx, w, rfl, hx, q⟩ := h
    refine ⟨_, (pss_cons (ps_fld (pv 0) (pv 1) rfl)
    (pss_one (ps_fld (pv 0) (pe_lst pa_nil) rfl))), ?_⟩
    refine ⟨_, rfl, _, rfl, x, a.c_PieceStack, dx, _, rfl, hx, T.cl_PieceStack, T.n_whole, by show 0 < 1000; decide, ?_⟩
    refine ⟨Nat.zero_le _, fun r hr0 => ⟨_, rfl, x, a.c_PieceStack, dx, [("whole", .int (w : Int))], rfl, ?_, T.cl_PieceStack, T.n_piled, by show 1 < 1000; decide, ?_⟩⟩
    · exact same_upd hr0 _ _ upd_same
    · have nxr : x ≠ r := fun e => by
        rw [← e, upd_same] at hr0
        cases hr0
      refine q r _ (by rw [upd_ne nxr.symm] at hr0; exact hr0) ⟨nxr, ⟨dx, upd_same⟩, [], by rw [upd_ne nxr.symm]; exact upd_same, rfl, fun i v c h => by simp at h⟩ ((Fr2.putx.trans Fr2.putr).trans Fr2.putx)
theorem ok_border (T : Txt K mg a d) : FnOk P w K mg base CX0 2 a.PieceStack_border_to d.PieceStack_border_to P_PieceStack_border_to (spBorder a.c_PieceStack) := by
  have G_level_between : FnOk P w K mg base CX0 1 a.level_between d.level_between P_level_between spLevel := ok_level_between T
  refine T.f_PieceStack_border_to.ok sc_PieceStack_border_to (fun vs H Q E h => ?_) (fun cdv A outer s0 H vs Q E hr h => ?_)
  · obtain ⟨x, r, w, g, ps, c, rfl, _⟩ := h
    rfl
  · obtain ⟨x, r, w, g, ps, c, rfl, ⟨n, ⟨dx, hx⟩, ts, hts, lts, hi⟩, hc, g0, hw, w2, q⟩ := h
    refine ⟨_, (pss_cons (ps_asg (pe_ix ix_list (pe_fld (pv 0) rfl) (pe_un un_neg pe_int) (fun _ _ => rfl)) (pg_tup rfl (pgs_cons (pg_name (i := 2) sc_PieceStack_border_to.nd rfl (Or.inl rfl)) (pgs_cons (pg_name (i := 3) sc_PieceStack_border_to.nd rfl (Or.inl rfl)) (pgs_cons (pg_name (i := 4) sc_PieceStack_border_to.nd rfl (Or.inl rfl)) pgs_nil)))))
    (pss_one (ps_ret (pe_call G_level_between (hr.mono (by decide)) (by rfl) T.g_level_between T.k_level_between T.b_level_between .nil pass0 (pa_cons (pv 2) (pa_cons (pv 3) (pa_cons (pv 1) (pa_cons (pe_fld (pv 0) rfl) pa_nil)))))))), ?_⟩
    have hc2 : ps[ps.length - 1]? = some c := by rw [← List.getLast?_eq_getElem?]; exact hc
    obtain ⟨t, ht1, ht2⟩ := PcsAt.item lts hi hc2
    have lp : 0 < ps.length := by
      cases ps with
      | nil => cases hc
      | cons _ _ => exact Nat.succ_pos _
    refine ⟨_, rfl, x, a.c_PieceStack, dx, _, _, rfl, hx, T.cl_PieceStack, T.n_piled, rfl, _, rfl, r, ts, _, _, rfl, rfl, L2.sq_of hts, atI_back (k := 1) (by decide) (by omega) (by rw [lts]; exact ht1), ?_⟩
    refine ⟨t, _, rfl, L2.st_of ht2, rfl, _, _, rfl, _, _, rfl, _, _, rfl, rfl, ?_⟩
    refine ⟨_, rfl, _, rfl, _, rfl, _, rfl, x, a.c_PieceStack, dx, _, _, rfl, hx, T.cl_PieceStack, T.n_whole, rfl, c.st, c.ln, g, w, rfl, g0, hw, w2, q⟩
theorem ok_has (T : Txt K mg a d) : FnOk P w K mg base CX0 1 a.PieceStack_has_to_join d.PieceStack_has_to_join P_PieceStack_has_to_join (spHas a.c_PieceStack) := by
  refine T.f_PieceStack_has_to_join.ok sc_PieceStack_has_to_join (fun vs H Q E h => ?_) (fun cdv A outer s0 H vs Q E hr h => ?_)
  · obtain ⟨x, r, w, b, ps, rfl, _⟩ := h
    rfl
  · obtain ⟨x, r, w, b, ps, rfl, ⟨n, ⟨dx, hx⟩, ts, hts, lts, hi⟩, hlv, q⟩ := h
    refine ⟨_, (pss_one (ps_ret (pe_and (pe_cmpR op_gt (pe_callB call_len_seq (by rfl) T.z_len PySem.boot_len (pa_cons (pe_fld (pv 0) rfl) pa_nil)) pe_int (nomark _)) (pe_one (pe_cmpR op_gt (pe_ix ix_tup (pe_ix ix_list (pe_fld (pv 0) rfl) (pe_un un_neg pe_int) (fun _ _ => rfl)) pe_int (fun _ _ => rfl)) (pv 1) (nomark _)))))), ?_⟩
    refine ⟨_, rfl, x, a.c_PieceStack, dx, _, _, rfl, hx, T.cl_PieceStack, T.n_piled, rfl, r, ts, rfl, .inl (L2.sq_of hts), _, _, rfl, rfl, ?_⟩
    by_cases h2 : 2 ≤ ps.length
    · obtain ⟨c, hc⟩ : ∃ c, ps[ps.length - 2]? = some c := ⟨_, List.getElem?_eq_getElem (by omega)⟩
      obtain ⟨t, ht1, ht2⟩ := PcsAt.item lts hi hc
      obtain ⟨v, hv⟩ := Option.ne_none_iff_exists'.mp (hlv c h2 hc)
      rw [hv] at ht2
      refine ⟨true, congrArg V.bl (decide_eq_true (by omega)), iteT ?_⟩
      refine ⟨_, rfl, x, a.c_PieceStack, dx, _, _, rfl, hx, T.cl_PieceStack, T.n_piled, rfl, _, rfl, r, ts, _, _, rfl, rfl, L2.sq_of hts, atI_back (k := 2) (by decide) (by omega) (by rw [lts]; exact ht1), t, _, 2, _, rfl, rfl, L2.st_of ht2, rfl, _, rfl, _, _, rfl, rfl, ?_⟩
      have e : Pile.hasTo ps b = decide (b < v) := by
        unfold Pile.hasTo
        rw [hc]
        cases c
        cases hv
        match hl : ps.length, h2 with
        | n + 2, _ => rfl
      have e2 : decide ((b : Int) < (v : Int)) = decide (b < v) := decide_eq_decide.mpr (by omega)
      show Q (.bl (decide ((b : Int) < (v : Int)))) H
      rw [e2, ← e]
      exact q
    · refine ⟨false, congrArg V.bl (decide_eq_false (by omega)), iteF ?_⟩
      have e : Pile.hasTo ps b = false := by
        unfold Pile.hasTo
        match hl : ps.length with
        | 0 => rfl
        | 1 => rfl
        | n + 2 => omega
      rw [← e]
      exact q
theorem ok_nextJ (T : Txt K mg a d) : FnOk P w K mg base CX0 1 a.PieceStack_next_to_join d.PieceStack_next_to_join P_PieceStack_next_to_join (spNext a.c_PieceStack) := by
  refine T.f_PieceStack_next_to_join.ok sc_PieceStack_next_to_join (fun vs H Q E h => ?_) (fun cdv A outer s0 H vs Q E hr h => ?_)
  · obtain ⟨x, r, w, ps, rfl, _⟩ := h
    rfl
  · obtain ⟨x, r, w, ps, rfl, ⟨n, ⟨dx, hx⟩, ts, hts, lts, hi⟩, h2, q⟩ := h
    refine ⟨_, (pss_cons (ps_set (i := 1) sc_PieceStack_next_to_join.nd rfl (Or.inl rfl) (pe_op op_sub (pe_callB call_len_seq (by rfl) T.z_len PySem.boot_len (pa_cons (pe_fld (pv 0) rfl) pa_nil)) pe_int))
    (pss_cons (ps_if (PW.pt (pw_and (pt_cmpR op_ge (pv 1) pe_int (nomark _)) (pw_and1 (pt_cmpR op_lt (pe_ix ix_tup (pe_ix ix_list (pe_fld (pv 0) rfl) (pe_op op_sub (pv 1) pe_int) (fun _ _ => rfl)) pe_int (fun _ _ => rfl)) (pe_ix ix_tup (pe_ix ix_list (pe_fld (pv 0) rfl) (pv 1) (fun _ _ => rfl)) pe_int (fun _ _ => rfl)) (nomark _))))) (pss_one (ps_ret (pe_op op_sub (pv 1) pe_int))) pss_nil)
    (pss_one (ps_ret (pe_op op_sub (pv 1) pe_int))))), ?_⟩
    refine ⟨_, rfl, x, a.c_PieceStack, dx, _, _, rfl, hx, T.cl_PieceStack, T.n_piled, rfl, r, ts, rfl, .inl (L2.sq_of hts), _, _, rfl, rfl, ?_⟩
    have e1 : (ts.length : Int) - 1 = ((ps.length - 1 : Nat) : Int) := by omega
    dsimp only
    rw [e1]
    obtain ⟨c1, hc1⟩ : ∃ c, ps[ps.length - 1]? = some c := ⟨_, List.getElem?_eq_getElem (by omega)⟩
    obtain ⟨t1, k1, k2⟩ := PcsAt.item lts hi hc1
    have e3 : ((ps.length - 1 : Nat) : Int) - 1 = ((ps.length - 2 : Nat) : Int) := by omega
    by_cases h3 : 3 ≤ ps.length
    · obtain ⟨c3, hc3⟩ : ∃ c, ps[ps.length - 3]? = some c := ⟨_, List.getElem?_eq_getElem (by omega)⟩
      obtain ⟨t3, k3, k4⟩ := PcsAt.item lts hi hc3
      have e2 : ((ps.length - 1 : Nat) : Int) - 2 = ((ps.length - 3 : Nat) : Int) := by omega
      refine ⟨_, rfl, _, _, rfl, rfl, true, congrArg V.bl (decide_eq_true (by omega)), iteT ?_⟩
      refine ⟨_, rfl, x, a.c_PieceStack, dx, _, _, rfl, hx, T.cl_PieceStack, T.n_piled, rfl, _, rfl, _, _, rfl, rfl, r, ts, _, _, rfl, rfl, L2.sq_of hts, by rw [e2]; exact atI_nat k3, t3, _, 1, _, rfl, rfl, L2.st_of k4, rfl, ?_⟩
      refine ⟨_, rfl, x, a.c_PieceStack, dx, _, _, rfl, hx, T.cl_PieceStack, T.n_piled, rfl, _, rfl, r, ts, _, _, rfl, rfl, L2.sq_of hts, atI_nat k1, t1, _, 1, _, rfl, rfl, L2.st_of k2, rfl, _, _, rfl, rfl, decide (c3.ln < c1.ln), congrArg V.bl (decide_eq_decide.mpr (by omega)), ?_⟩
      have e : Pile.next ps = if c3.ln < c1.ln then ps.length - 3 else ps.length - 2 := by
        unfold Pile.next
        rw [hc1, hc3]
        simp [h3]
      by_cases c : c3.ln < c1.ln
      · rw [if_pos c] at e
        rw [decide_eq_true c]
        refine iteT ⟨_, rfl, _, _, rfl, rfl, ?_⟩
        dsimp only
        rw [e2, ← e]
        exact q
      · rw [if_neg c] at e
        rw [decide_eq_false c]
        refine iteF ⟨_, rfl, _, _, rfl, rfl, ?_⟩
        dsimp only
        rw [e3, ← e]
        exact q
    · refine ⟨_, rfl, _, _, rfl, rfl, false, congrArg V.bl (decide_eq_false (by omega)), iteF ?_⟩
      refine ⟨_, rfl, _, _, rfl, rfl, ?_⟩
      have e : Pile.next ps = ps.length - 2 := by
        unfold Pile.next
        split
        · rw [if_neg (by omega)]
        · rfl
      dsimp only
      rw [e3, ← e]
      exact q
theorem ok_joinAt (T : Txt K mg a d) : FnOk P w K mg base CX0 1 a.PieceStack_join_at d.PieceStack_join_at P_PieceStack_join_at (spJoin a.c_PieceStack) := by
  refine T.f_PieceStack_join_at.ok sc_PieceStack_join_at (fun vs H Q E h => ?_) (fun cdv A outer s0 H vs Q E hr h => ?_)
  · obtain ⟨x, r, w, i, ps, c, e, rfl, _⟩ := h
    rfl
  · obtain ⟨x, r, w, i, ps, c, e, rfl, hSt, lp, hc, he, q⟩ := h
    obtain ⟨n, ⟨dx, hx⟩, ts, hts, lts, hi⟩ := id hSt
    refine ⟨_, (pss_cons (ps_asg (pe_ix ix_list (pe_fld (pv 0) rfl) (pv 1) (fun _ _ => rfl)) (pg_tup rfl (pgs_cons (pg_name (i := 2) sc_PieceStack_join_at.nd rfl (Or.inl rfl)) (pgs_cons (pg_name (i := 3) sc_PieceStack_join_at.nd rfl (Or.inl rfl)) (pgs_cons (pg_name (i := 4) sc_PieceStack_join_at.nd rfl (Or.inl rfl)) pgs_nil)))))
    (pss_cons (ps_asg (pe_ix ix_list (pe_fld (pv 0) rfl) (pe_op op_add (pv 1) pe_int) (fun _ _ => rfl)) (pg_tup rfl (pgs_cons (pg_name (i := 4) sc_PieceStack_join_at.nd rfl (Or.inl rfl)) (pgs_cons (pg_name (i := 5) sc_PieceStack_join_at.nd rfl (Or.inl rfl)) (pgs_cons (pg_name (i := 6) sc_PieceStack_join_at.nd rfl (Or.inl rfl)) pgs_nil)))))
    (pss_cons (ps_asg (pe_lst (pa_cons (pe_tup (pa_cons (pv 2) (pa_cons (pe_op op_add (pv 3) (pv 5)) (pa_cons (pv 6) pa_nil)))) pa_nil)) (pg_slice (pe_fld (pv 0) rfl) (po_some (pv 1)) (po_some (pe_op op_add (pv 1) pe_int))))
    (pss_one (ps_ret (pe_tup (pa_cons (pv 2) (pa_cons (pv 3) (pa_cons (pv 5) pa_nil))))))))), ?_⟩
    obtain ⟨t1, k1, k2⟩ := PcsAt.item lts hi hc
    obtain ⟨t2, k3, k4⟩ := PcsAt.item lts hi he
    have li := (List.getElem?_eq_some_iff.mp he).1
    refine ⟨_, rfl, x, a.c_PieceStack, dx, _, _, rfl, hx, T.cl_PieceStack, T.n_piled, rfl, _, rfl, r, ts, _, _, rfl, rfl, L2.sq_of hts, atI_nat k1, ?_⟩
    refine ⟨t1, _, rfl, L2.st_of k2, rfl, _, _, rfl, _, _, rfl, _, _, rfl, rfl, ?_⟩
    refine ⟨_, rfl, x, a.c_PieceStack, dx, _, _, rfl, hx, T.cl_PieceStack, T.n_piled, rfl, _, rfl, _, _, rfl, rfl, r, ts, _, _, rfl, rfl, L2.sq_of hts, by exact atI_nat k3, ?_⟩
    refine ⟨t2, _, rfl, L2.st_of k4, rfl, _, _, rfl, _, _, rfl, _, _, rfl, rfl, ?_⟩
    refine ⟨_, rfl, _, rfl, _, rfl, _, _, rfl, rfl, _, rfl, by show 3 ≤ sizeLine; decide, fun t ht => ⟨by show 1 ≤ sizeLine; decide, fun l hl => ?_⟩⟩
    have s1 := same_upd (o := .tup [.int (c.st : Int), .int ((c.ln : Int) + (e.ln : Int)), optV e.lv]) ht
    have hT : upd H t (.tup [.int (c.st : Int), .int ((c.ln : Int) + (e.ln : Int)), optV e.lv]) t = some (.tup [.int (c.st : Int), .int ((c.ln : Int) + (e.ln : Int)), optV e.lv]) := upd_same
    dsimp only at hl ⊢
    generalize upd H t (.tup [.int (c.st : Int), .int ((c.ln : Int) + (e.ln : Int)), optV e.lv]) = H1 at s1 hT hl ⊢
    have s2 := same_upd (o := .lst [.ref t]) hl
    have hL : upd H1 l (.lst [.ref t]) l = some (.lst [.ref t]) := upd_same
    have hT2 := s2 _ _ hT
    generalize upd H1 l (.lst [.ref t]) = H2 at s2 hL hT2 ⊢
    have s12 := s1.trans s2
    have hx2 := s12 _ _ hx
    have hts2 := s12 _ _ hts
    have nrl : r ≠ l := fun z => by rw [← z, s1 _ _ hts] at hl; cases hl
    refine ⟨_, rfl, x, a.c_PieceStack, dx, _, _, rfl, hx2, T.cl_PieceStack, T.n_piled, rfl, _, rfl, _, rfl, _, rfl, _, _, rfl, rfl, _, rfl, r, l, _, _, (i : Int), (i : Int) + 2, rfl, rfl, rfl, rfl, hts2, hL, nrl, by omega, by omega, by omega, ?_, ?_⟩
    · exact Nat.le_trans (by rw [List.length_singleton]; omega : _ ≤ 1001) (by decide)
    have t1' : ((i : Int)).toNat = i := by omega
    have t2' : ((i : Int) + 2).toNat = i + 2 := by omega
    rw [t1', t2']
    have ej : Pile.join ps i = ps.take i ++ [⟨c.st, c.ln + e.ln, e.lv⟩] ++ ps.drop (i + 2) := by
      unfold Pile.join
      rw [hc, he]
    have hP : PcsAt (upd H2 r (.lst (ts.take i ++ [.ref t] ++ ts.drop (i + 2)))) r (Pile.join ps i) := by
      refine PcsAt.write ?_ ?_ ⟨_, hts2⟩
      · rw [ej]
        simp only [List.length_append, List.length_take, List.length_drop, List.length_singleton]
        omega
      · intro j v c' hv hc'
        rw [ej] at hc'
        have l1 : (ts.take i).length = i := by rw [List.length_take]; omega
        have l2 : (ps.take i).length = i := by rw [List.length_take]; omega
        rw [List.append_assoc] at hv hc'
        rcases Nat.lt_trichotomy j i with h | h | h
        · rw [List.getElem?_append_left (by omega), List.getElem?_take, if_pos h] at hv hc'
          exact (hi j v c' hv hc').keep fun _ _ => s12 _ _
        · rw [List.getElem?_append_right (by omega)] at hv hc'
          rw [l1, h, Nat.sub_self] at hv
          rw [l2, h, Nat.sub_self] at hc'
          have e1 := Option.some.inj hv
          have e2 := Option.some.inj hc'
          rw [← e1, ← e2]
          exact ⟨t, rfl, by rw [hT2, Int.natCast_add]⟩
        · rw [List.getElem?_append_right (by omega)] at hv hc'
          rw [l1] at hv
          rw [l2] at hc'
          obtain ⟨m, hm⟩ : ∃ m, j - i = m + 1 := ⟨j - i - 1, by omega⟩
          rw [hm, List.singleton_append, List.getElem?_cons_succ, List.getElem?_drop] at hv hc'
          exact (hi _ v c' hv hc').keep fun _ _ => s12 _ _
    have hx3 : upd H2 r (.lst (ts.take i ++ [.ref t] ++ ts.drop (i + 2))) x = some (.ins a.c_PieceStack dx [("whole", .int (w : Int)), ("piled", .ref r)]) := by rw [upd_ne n]; exact hx2
    have fr3 : Fr2 x r H (upd H2 r (.lst (ts.take i ++ [.ref t] ++ ts.drop (i + 2)))) := (Fr2.of s12).trans Fr2.putr
    generalize upd H2 r (.lst (ts.take i ++ [.ref t] ++ ts.drop (i + 2))) = H3 at hP hx3 fr3 ⊢
    refine ⟨_, rfl, _, rfl, _, rfl, by show 3 ≤ sizeLine; decide, fun t3 ht3 => ?_⟩
    have s4 := same_upd (o := .tup [.int (c.st : Int), .int (c.ln : Int), .int (e.ln : Int)]) ht3
    have f3 : H t3 = none := by
      cases hz : H t3 with
      | none => rfl
      | some o =>
        by_cases z1 : t3 = x
        · rw [z1, hx3] at ht3; cases ht3
        · by_cases z2 : t3 = r
          · obtain ⟨_, hr3, _⟩ := hP
            rw [z2, hr3] at ht3; cases ht3
          · rw [fr3 _ _ z1 z2 hz] at ht3; cases ht3
    exact q t3 _ f3 upd_same ⟨n, ⟨dx, s4 _ _ hx3⟩, hP.same s4⟩ (fr3.trans (Fr2.of s4))
theorem ok_putS (T : Txt K mg a d) : FnOk P w K mg base CX0 1 a.PieceStack_put d.PieceStack_put P_PieceStack_put (spPutS a.c_PieceStack) := by
  refine T.f_PieceStack_put.ok sc_PieceStack_put (fun vs H Q E h => ?_) (fun cdv A outer s0 H vs Q E hr h => ?_)
  · obtain ⟨x, r, w, s, l, b, ps, rfl, _⟩ := h
    rfl
  · obtain ⟨x, r, w, s, l, b, ps, rfl, hSt, lp, q⟩ := h
    obtain ⟨n, ⟨dx, hx⟩, ts, hts, lts, hi⟩ := id hSt
    refine ⟨_, (pss_cons (ps_if (pt_truth (pe_fld (pv 0) rfl) (by intro _; rfl)) (pss_cons (ps_asg (pe_bm0 PySem.F.plainAttrs_list PySem.F.slot_list_pop PySem.F.type_list_pop mt_pop (pe_fld (pv 0) rfl)) (pg_tup rfl (pgs_cons (pg_name (i := 4) sc_PieceStack_put.nd rfl (Or.inl rfl)) (pgs_cons (pg_name (i := 5) sc_PieceStack_put.nd rfl (Or.inl rfl)) (pgs_cons (pg_name (i := 6) sc_PieceStack_put.nd rfl (Or.inl rfl)) pgs_nil)))))
      (pss_one (ps_expr (pe_bm PySem.F.plainAttrs_list PySem.F.slot_list_append PySem.F.type_list_append mt_append (pe_fld (pv 0) rfl) (pa_cons (pe_tup (pa_cons (pv 4) (pa_cons (pv 5) (pa_cons (pv 3) pa_nil)))) pa_nil))))) pss_nil)
    (pss_one (ps_expr (pe_bm PySem.F.plainAttrs_list PySem.F.slot_list_append PySem.F.type_list_append mt_append (pe_fld (pv 0) rfl) (pa_cons (pe_tup (pa_cons (pv 1) (pa_cons (pv 2) (pa_cons pe_non pa_nil)))) pa_nil))))), ?_⟩
    refine ⟨_, rfl, x, a.c_PieceStack, dx, _, _, rfl, hx, T.cl_PieceStack, T.n_piled, rfl, ?_⟩
    -- the new piece comes on top of these
    have top : ∀ (ts1 : List V) (ps1 : List Pc) (H1 : Hp), H1 x = some (.ins a.c_PieceStack dx [("whole", .int (w : Int)), ("piled", .ref r)]) → H1 r = some (.lst ts1) → ts1.length = ps1.length →
        (∀ (i : Nat) (v : V) (c : Pc), ts1[i]? = some v → ps1[i]? = some c → PcAt H1 v c) → Fr2 x r H H1 → Pile.put ps s l b = ps1 ++ [⟨s, l, none⟩] → ∀ (t : Addr), H1 t = none →
        Q .non (upd (upd H1 t (.tup [.int (s : Int), .int (l : Int), .non])) r (.lst (ts1 ++ [.ref t]))) := by
      intro ts1 ps1 H1 hx1 hr1 l1 hi1 fr1 ep t ht
      have s1 := same_upd (o := .tup [.int (s : Int), .int (l : Int), .non]) ht
      have hT : upd H1 t (.tup [.int (s : Int), .int (l : Int), .non]) t = some (.tup [.int (s : Int), .int (l : Int), .non]) := upd_same
      generalize upd H1 t (.tup [.int (s : Int), .int (l : Int), .non]) = H2 at s1 hT ⊢
      refine q _ ⟨n, ⟨dx, by rw [upd_ne n]; exact s1 _ _ hx1⟩, ?_⟩ ((fr1.trans (Fr2.of s1)).trans Fr2.putr)
      rw [ep]
      refine PcsAt.write (by rw [List.length_append, List.length_append, l1]; rfl) (fun i v c hv hc => ?_) ⟨_, s1 _ _ hr1⟩
      rcases Nat.lt_or_ge i ps1.length with h | h
      · rw [List.getElem?_append_left (by omega)] at hv hc
        exact (hi1 i v c hv hc).keep fun _ _ => s1 _ _
      · rw [List.getElem?_append_right (by omega)] at hv hc
        rw [l1] at hv
        have e0 : i - ps1.length = 0 := by
          have := (List.getElem?_eq_some_iff.mp hv).1
          simp only [List.length_singleton] at this
          omega
        rw [e0] at hv hc
        rw [← Option.some.inj hv, ← Option.some.inj hc]
        exact ⟨t, rfl, hT⟩
    cases hlast : ps.getLast? with
    | none =>
      have ep : ps = [] := List.getLast?_eq_none_iff.mp hlast
      subst ep
      have et : ts = [] := List.length_eq_zero_iff.mp lts
      subst et
      refine ⟨false, .inl ⟨[], L2.sq_of hts, rfl⟩, iteF ?_⟩
      refine ⟨_, rfl, x, a.c_PieceStack, dx, _, _, rfl, hx, T.cl_PieceStack, T.n_piled, rfl, .inl ⟨rfl, _, L2.sq_of hts⟩, _, rfl, _, rfl, by show 3 ≤ sizeLine; decide, fun t ht => ?_⟩
      refine ⟨r, [], _, rfl, rfl, same_upd ht _ _ hts, by show 0 < sizeLine; decide, ?_⟩
      exact top [] [] H hx hts rfl (fun i v c h => by simp at h) (Fr2.refl _ _ _) rfl t ht
    | some c =>
      have hc : ps[ps.length - 1]? = some c := by rw [← List.getLast?_eq_getElem?]; exact hlast
      have lpos : 0 < ps.length := Nat.lt_of_le_of_lt (Nat.zero_le _) (List.getElem?_eq_some_iff.mp hc).1
      obtain ⟨t1, k1, k2⟩ := PcsAt.item lts hi hc
      have nz : (!ts.isEmpty) = true := by
        cases ts with
        | nil => rw [← lts] at lpos; exact absurd lpos (Nat.lt_irrefl 0)
        | cons _ _ => rfl
      refine ⟨true, .inl ⟨ts, L2.sq_of hts, nz.symm⟩, iteT ?_⟩
      refine ⟨_, rfl, x, a.c_PieceStack, dx, _, _, rfl, hx, T.cl_PieceStack, T.n_piled, rfl, .inl ⟨rfl, _, L2.sq_of hts⟩, r, ts, _, rfl, rfl, hts, by rw [lts]; exact k1, ?_⟩
      have hx1 : upd H r (.lst ts.dropLast) x = some (.ins a.c_PieceStack dx [("whole", .int (w : Int)), ("piled", .ref r)]) := by rw [upd_ne n]; exact hx
      have hr1 : upd H r (.lst ts.dropLast) r = some (.lst ts.dropLast) := upd_same
      have kt : ∀ (t : Addr) (xs : List V), H t = some (.tup xs) → upd H r (.lst ts.dropLast) t = some (.tup xs) := fun t xs h => by rw [upd_ne (fun z => by rw [z, hts] at h; cases h)]; exact h
      have fr1 : Fr2 x r H (upd H r (.lst ts.dropLast)) := Fr2.putr
      generalize upd H r (.lst ts.dropLast) = H1 at hx1 hr1 kt fr1 ⊢
      refine ⟨t1, _, rfl, L2.st_of (kt _ _ k2), rfl, _, _, rfl, _, _, rfl, _, _, rfl, rfl, ?_⟩
      refine ⟨_, rfl, x, a.c_PieceStack, dx, _, _, rfl, hx1, T.cl_PieceStack, T.n_piled, rfl, .inl ⟨rfl, _, L2.sq_of hr1⟩, _, rfl, _, rfl, _, rfl, by show 3 ≤ sizeLine; decide, fun t2 ht2 => ?_⟩
      have s2 := same_upd (o := .tup [.int (c.st : Int), .int (c.ln : Int), optV b]) ht2
      have hT2 : upd H1 t2 (.tup [.int (c.st : Int), .int (c.ln : Int), optV b]) t2 = some (.tup [.int (c.st : Int), .int (c.ln : Int), optV b]) := upd_same
      generalize upd H1 t2 (.tup [.int (c.st : Int), .int (c.ln : Int), optV b]) = H2 at s2 hT2 ⊢
      refine ⟨r, ts.dropLast, _, rfl, rfl, s2 _ _ hr1, ?_, ?_⟩
      · rw [List.length_dropLast]
        exact Nat.lt_of_le_of_lt (by omega : _ ≤ 1000) (by decide)
      have hx3 : upd H2 r (.lst (ts.dropLast ++ [.ref t2])) x = some (.ins a.c_PieceStack dx [("whole", .int (w : Int)), ("piled", .ref r)]) := by rw [upd_ne n]; exact s2 _ _ hx1
      have hr3 : upd H2 r (.lst (ts.dropLast ++ [.ref t2])) r = some (.lst (ts.dropLast ++ [.ref t2])) := upd_same
      have kt3 : ∀ (t : Addr) (xs : List V), H2 t = some (.tup xs) → upd H2 r (.lst (ts.dropLast ++ [.ref t2])) t = some (.tup xs) := fun t xs h => by rw [upd_ne (fun z => by rw [z, s2 _ _ hr1] at h; cases h)]; exact h
      have fr3 : Fr2 x r H (upd H2 r (.lst (ts.dropLast ++ [.ref t2]))) := (fr1.trans (Fr2.of s2)).trans Fr2.putr
      have hT3 := kt3 _ _ hT2
      generalize upd H2 r (.lst (ts.dropLast ++ [.ref t2])) = H3 at hx3 hr3 kt3 fr3 hT3 ⊢
      refine ⟨_, rfl, x, a.c_PieceStack, dx, _, _, rfl, hx3, T.cl_PieceStack, T.n_piled, rfl, .inl ⟨rfl, _, L2.sq_of hr3⟩, _, rfl, _, rfl, by show 3 ≤ sizeLine; decide, fun t4 ht4 => ?_⟩
      refine ⟨r, _, _, rfl, rfl, same_upd ht4 _ _ hr3, ?_, ?_⟩
      · rw [List.length_append, List.length_dropLast]
        exact Nat.lt_of_le_of_lt (by show ts.length - 1 + 1 ≤ 1001; omega) (by decide)
      have ld : ts.dropLast.length = ps.dropLast.length := by rw [List.length_dropLast, List.length_dropLast, lts]
      refine top _ (ps.dropLast ++ [⟨c.st, c.ln, b⟩]) H3 hx3 hr3 (by rw [List.length_append, List.length_append, ld]; rfl) (fun i v c' hv hc' => ?_) fr3 ?_ t4 ht4
      · rcases Nat.lt_or_ge i ps.dropLast.length with h | h
        · rw [List.getElem?_append_left (by omega)] at hv hc'
          rw [List.getElem?_dropLast] at hv hc'
          split at hv
          · split at hc'
            · exact (hi i v c' hv hc').keep fun t xs h => kt3 _ _ (s2 _ _ (kt _ _ h))
            · cases hc'
          · cases hv
        · rw [List.getElem?_append_right (by omega)] at hv hc'
          rw [ld] at hv
          have e0 : i - ps.dropLast.length = 0 := by
            have := (List.getElem?_eq_some_iff.mp hv).1
            simp only [List.length_singleton] at this
            omega
          rw [e0] at hv hc'
          rw [← Option.some.inj hv, ← Option.some.inj hc']
          exact ⟨t2, rfl, hT3⟩
      · unfold Pile.put
        rw [hlast]
        simp
end

end K38

namespace K38
open PySem PySem.Spec PyProof.Rows L2 
def spPile : Sp := fun vs H Q _ => ∃ (p : Addr) (ls : List Nat), vs = [.ref p] ∧ KeysAt H p (ls.map fun n : Nat => (n : Int)) ∧ ls.length ≤ 200 ∧ (∀ l ∈ ls, 1 ≤ l) ∧ ls.sum < 2 ^ 1000 ∧
  ∀ (t sk am en : Addr) (H' : Hp), Same H H' → H t = none → H sk = none → H am = none → H en = none → sk ≠ am → sk ≠ en → am ≠ en → H' t = some (.tup [.ref sk, .ref am, .ref en]) → RowsAt H H' sk ls.sum ls ls.length → TrisAt H' am (Pile.sts ls.sum ls ls.length).2 → TrisAt H' en (Pile.fin 200 ((Pile.sts ls.sum ls ls.length).1, [])).2 → Q (.ref t) H'
theorem sum_cast (ls : List Nat) : (ls.map fun n : Nat => (n : Int)).sum = ((ls.sum : Nat) : Int) := by
  induction ls with
  | nil => rfl
  | cons a r ih => rw [List.map_cons, List.sum_cons, List.sum_cons, ih, Int.natCast_add]
theorem len_item {ls : List Nat} {i : Nat} {v : V} (h : ((ls.map fun n : Nat => (n : Int)).map V.int)[i]? = some v) : ∃ n : Nat, v = .int (n : Int) ∧ ls[i]? = some n ∧ ls.getD i 0 = n ∧ n ∈ ls ∧ i < ls.length := by
  rw [List.map_map, List.getElem?_map] at h
  cases e : ls[i]? with
  | none => rw [e] at h; cases h
  | some n =>
    rw [e] at h
    exact ⟨n, (Option.some.inj h).symm, rfl, by rw [List.getD_eq_getElem?_getD, e]; rfl, List.mem_of_getElem? e, (List.getElem?_eq_some_iff.mp e).1⟩
section
variable {P : Program} {w : World} {K : PySem.W.Frag} {mg : Str → Option Value} {base : Heap} {a : Ad} {d : Fd}
theorem ok_pile_up (T : Txt K mg a d) : FnOk P w K mg base CX0 3 a.pile_up d.pile_up P_pile_up spPile := by
  have G_PieceStack___init__ : FnOk P w K mg base CX0 1 a.PieceStack___init__ d.PieceStack___init__ P_PieceStack___init__ (spInitS a.c_PieceStack) := ok_initS T
  have G_PieceStack_border_to : FnOk P w K mg base CX0 2 a.PieceStack_border_to d.PieceStack_border_to P_PieceStack_border_to (spBorder a.c_PieceStack) := ok_border T
  have G_PieceStack_has_to_join : FnOk P w K mg base CX0 1 a.PieceStack_has_to_join d.PieceStack_has_to_join P_PieceStack_has_to_join (spHas a.c_PieceStack) := ok_has T
  have G_PieceStack_join_at : FnOk P w K mg base CX0 1 a.PieceStack_join_at d.PieceStack_join_at P_PieceStack_join_at (spJoin a.c_PieceStack) := ok_joinAt T
  have G_PieceStack_put : FnOk P w K mg base CX0 1 a.PieceStack_put d.PieceStack_put P_PieceStack_put (spPutS a.c_PieceStack) := ok_putS T
  have G_PieceStack_next_to_join : FnOk P w K mg base CX0 1 a.PieceStack_next_to_join d.PieceStack_next_to_join P_PieceStack_next_to_join (spNext a.c_PieceStack) := ok_nextJ T
  refine T.f_pile_up.ok sc_pile_up (fun vs H Q E h => ?_) (fun cdv A outer s0 H vs Q E hr h => ?_)
  · obtain ⟨p, ls, rfl, _⟩ := h
    rfl
  · obtain ⟨p, ls, rfl, hK, h200, h1, hW, q⟩ := h
    refine ⟨_, (pss_cons (ps_set (i := 1) sc_pile_up.nd rfl (Or.inl rfl) (pe_make T.mk_PieceStack G_PieceStack___init__ (hr.mono (by decide)) (by rfl) T.g_PieceStack T.b_PieceStack___init__ .nil pass0 (pa_cons (pe_callB (cr_sumLT rfl) (by rfl) T.z_sum (by decide +kernel) (pa_cons (pv 0) pa_nil)) pa_nil)))
    (pss_cons (ps_set (i := 2) sc_pile_up.nd rfl (Or.inl rfl) (pe_lst pa_nil))
    (pss_cons (ps_set (i := 3) sc_pile_up.nd rfl (Or.inl rfl) (pe_lst pa_nil))
    (pss_cons (ps_set (i := 4) sc_pile_up.nd rfl (Or.inl rfl) pe_int)
    (pss_cons (ps_for PassesOwn.never rfl (pi_lt (pv 0)) (pg_name (i := 5) sc_pile_up.nd rfl (Or.inl rfl))
      (pss_cons (ps_set (i := 6) sc_pile_up.nd rfl (Or.inl rfl) (pe_ifExp (pt_truth (pe_fld (pv 1) rfl) (by intro _; rfl)) (pe_meth (pv 1) T.cl_PieceStack T.m_PieceStack_border_to G_PieceStack_border_to (hr.mono (by decide)) T.b_PieceStack_border_to .nil pass0 (pa_cons (pv 5) pa_nil)) pe_non))
        (pss_cons (ps_while PassesOwn.never (PW.pt (pw_and (pt_cmpR op_notN (pv 6) pe_non (nomark _)) (pw_and1 (pt_val (pe_meth (pv 1) T.cl_PieceStack T.m_PieceStack_has_to_join G_PieceStack_has_to_join (hr.mono (by decide)) T.b_PieceStack_has_to_join .nil pass0 (pa_cons (pv 6) pa_nil))))))
          (pss_one (ps_expr (pe_bm PySem.F.plainAttrs_list PySem.F.slot_list_append PySem.F.type_list_append mt_append (pv 3) (pa_cons (pe_meth (pv 1) T.cl_PieceStack T.m_PieceStack_join_at G_PieceStack_join_at (hr.mono (by decide)) T.b_PieceStack_join_at .nil pass0 (pa_cons (pe_op op_sub (pe_callB call_len_seq (by rfl) T.z_len PySem.boot_len (pa_cons (pe_fld (pv 1) rfl) pa_nil)) pe_int) pa_nil)) pa_nil)))))
        (pss_cons (ps_expr (pe_meth (pv 1) T.cl_PieceStack T.m_PieceStack_put G_PieceStack_put (hr.mono (by decide)) T.b_PieceStack_put .nil pass0 (pa_cons (pv 4) (pa_cons (pv 5) (pa_cons (pv 6) pa_nil)))))
        (pss_cons (ps_expr (pe_bm PySem.F.plainAttrs_list PySem.F.slot_list_append PySem.F.type_list_append mt_append (pv 2) (pa_cons (pe_callTy call_list_of (by rfl) T.z_list (by decide +kernel) (pa_cons (pe_fld (pv 1) rfl) pa_nil)) pa_nil)))
        (pss_one (ps_aug (i := 4) sc_pile_up.nd rfl (Or.inl rfl) (pv 5) ip_add)))))))
    (pss_cons (ps_set (i := 7) sc_pile_up.nd rfl (Or.inl rfl) (pe_lst pa_nil))
    (pss_cons (ps_while PassesOwn.never (pt_cmpR op_gt (pe_callB call_len_seq (by rfl) T.z_len PySem.boot_len (pa_cons (pe_fld (pv 1) rfl) pa_nil)) pe_int (nomark _))
      (pss_one (ps_expr (pe_bm PySem.F.plainAttrs_list PySem.F.slot_list_append PySem.F.type_list_append mt_append (pv 7) (pa_cons (pe_meth (pv 1) T.cl_PieceStack T.m_PieceStack_join_at G_PieceStack_join_at (hr.mono (by decide)) T.b_PieceStack_join_at .nil pass0 (pa_cons (pe_meth0 (pv 1) T.cl_PieceStack T.m_PieceStack_next_to_join G_PieceStack_next_to_join (hr.mono (by decide)) T.b_PieceStack_next_to_join .nil pass0) pa_nil)) pa_nil)))))
    (pss_one (ps_ret (pe_tup (pa_cons (pv 2) (pa_cons (pv 3) (pa_cons (pv 7) pa_nil))))))))))))), ?_⟩
    refine ⟨_, rfl, p, _, rfl, hK.imp L2.sq_of L2.st_of, ?_⟩
    rw [sum_cast]
    intro x dx hx hdx nxd
    have s1 : Same H (upd (upd H dx (.own x)) x (.ins a.c_PieceStack dx [])) := (same_upd hdx).trans (same_upd (by rw [upd_ne nxd.symm]; exact hx))
    have hxi : upd (upd H dx (.own x)) x (.ins a.c_PieceStack dx []) x = some (.ins a.c_PieceStack dx []) := upd_same
    generalize upd (upd H dx (.own x)) x (.ins a.c_PieceStack dx []) = H1 at s1 hxi ⊢
    refine ⟨x, dx, ls.sum, rfl, hxi, fun r H2 rN S2 fr2 => ⟨rfl, ?_⟩⟩
    have rH : H r = none := sfree s1 rN
    have K2 : Same H H2 := fun b o h => fr2 b o (fun e => by rw [e, hx] at h; cases h) (fun e => by rw [e, rH] at h; cases h) (s1 _ _ h)
    refine ⟨Nat.zero_le _, fun sk hsk => ⟨Nat.zero_le _, fun am ham => ?_⟩⟩
    have hskH : H sk = none := sfree K2 hsk
    have s3 : Same H2 (upd (upd H2 sk (.lst [])) am (.lst [])) := (same_upd hsk).trans (same_upd ham)
    have nsa : sk ≠ am := fun e => by rw [← e, upd_same] at ham; cases ham
    have hamH2 : H2 am = none := by rw [upd_ne nsa.symm] at ham; exact ham
    have hamH : H am = none := sfree K2 hamH2
    have S3 := S2.same s3
    have q1 : upd (upd H2 sk (.lst [])) am (.lst []) sk = some (.lst []) := by rw [upd_ne nsa]; exact upd_same
    have q2 : upd (upd H2 sk (.lst [])) am (.lst []) am = some (.lst []) := upd_same
    generalize upd (upd H2 sk (.lst [])) am (.lst []) = H3 at s3 S3 q1 q2 ⊢
    have nrs : r ≠ sk := fun e => by
      obtain ⟨_, _, ts, h, _⟩ := S2
      rw [e, hsk] at h
      cases h
    have nra : r ≠ am := fun e => by
      obtain ⟨_, _, ts, h, _⟩ := S2
      rw [e, hamH2] at h
      cases h
    have p0 : Pl H H3 r sk am ls.sum ls ([], []) 0 := ⟨K2.trans s3, rH, hskH, hamH, nrs, nra, nsa, S3.2.2, ⟨[], q2, rfl, fun i v j h => by simp at h⟩, ⟨[], q1, rfl, fun i v h => by simp at h⟩⟩
    have hK3 := hK.same (K2.trans s3)
    -- the pieces come
    refine ⟨_, rfl, p, (ls.map fun n : Nat => (n : Int)).map V.int, rfl, ?_⟩
    refine for_lt (K := K) (a := p) (xs := (ls.map fun n : Nat => (n : Int)).map V.int) (fun i σ H' => i ≤ ls.length ∧ (∃ (u5 u6 : Option V), σ = [some (.ref p), some (.ref x), some (.ref sk), some (.ref am), some (.int (((ls.take i).sum : Nat) : Int)), u5, u6, none]) ∧ StkAt a.c_PieceStack H' x r ls.sum (Pile.sts ls.sum ls i).1 ∧ Pl H H' r sk am ls.sum ls (Pile.sts ls.sum ls i) i)
      ⟨Nat.zero_le _, ⟨_, _, rfl⟩, S3, p0⟩ ?_ ?_ ?_
    · rcases hK with hl | ht
      · exact .inl fun i σ' H' ⟨_, _, _, pp⟩ => L2.sq_of (pp.keep _ _ hl)
      · exact .inr fun i σ' H' ⟨_, _, _, pp⟩ => L2.st_of (pp.keep _ _ ht)
    · rintro i v σ H4 hv ⟨li, ⟨u5, u6, rfl⟩, S4, P4⟩
      obtain ⟨n, rfl, hn1, hn2, hn3, hlt⟩ := len_item hv
      obtain ⟨v1, v2, v3⟩ := Pile.sts_inv (w := ls.sum) (ls := ls) i (by omega)
      have n1 := h1 n hn3
      have est := Pile.sum_take hlt
      have sumle : (ls.take i).sum + n ≤ ls.sum := by
        rw [hn2] at est
        have e2 : (ls.take (i + 1)).sum + (ls.drop (i + 1)).sum = ls.sum := by rw [← List.sum_append, List.take_append_drop]
        omega
      obtain ⟨nxr, ⟨dx4, hx4⟩, ts4, ht4, lt4, hi4⟩ := id S4
      refine ⟨_, rfl, x, a.c_PieceStack, dx4, _, _, rfl, hx4, T.cl_PieceStack, T.n_piled, rfl, ?_⟩
      have hbr : ∃ b, Pile.brd ls.sum (Pile.sts ls.sum ls i).1 n = b := ⟨_, rfl⟩
      cases hg : (Pile.sts ls.sum ls i).1.getLast?
      case' none =>
        have ep : (Pile.sts ls.sum ls i).1 = [] := List.getLast?_eq_none_iff.mp hg
        have et : ts4 = [] := List.length_eq_zero_iff.mp (by rw [lt4, ep]; rfl)
        refine ⟨false, .inl ⟨ts4, L2.sq_of ht4, by rw [et]; rfl⟩, iteF ?_⟩
        obtain ⟨b, hb0, hb⟩ : ∃ b : Option Nat, optV b = V.non ∧ Pile.brd ls.sum (Pile.sts ls.sum ls i).1 n = b := ⟨none, rfl, by unfold Pile.brd; rw [hg]⟩
      case' some c =>
        have lpos : 0 < ts4.length := by
          rw [lt4]
          cases z : (Pile.sts ls.sum ls i).1 with
          | nil => rw [z] at hg; cases hg
          | cons _ _ => exact Nat.succ_pos _
        have nz : (!ts4.isEmpty) = true := by
          cases ts4 with
          | nil => exact absurd lpos (Nat.lt_irrefl 0)
          | cons _ _ => rfl
        have lc := v1.last c hg
        refine ⟨true, .inl ⟨ts4, L2.sq_of ht4, nz.symm⟩, iteT ?_⟩
        refine ⟨_, rfl, x, dx4, _, rfl, hx4, rfl, _, rfl, x, r, ls.sum, n, (Pile.sts ls.sum ls i).1, c, rfl, S4, hg, n1, by omega, hW, ?_⟩
        obtain ⟨b, hb0, hb⟩ : ∃ b : Option Nat, optV b = V.int ((Lv.lev (2 * ls.sum) (2 * c.st + c.ln) (c.ln + n) : Nat) : Int) ∧ Pile.brd ls.sum (Pile.sts ls.sum ls i).1 n = b := ⟨some _, rfl, by unfold Pile.brd; rw [hg]⟩
      all_goals
        refine while_to (fun σ H' => ∃ s', σ = [some (.ref p), some (.ref x), some (.ref sk), some (.ref am), some (.int (((ls.take i).sum : Nat) : Int)), some (.int (n : Int)), some (optV b), none] ∧ StkAt a.c_PieceStack H' x r ls.sum s'.1 ∧ Pl H H' r sk am ls.sum ls s' i ∧ Pile.Inv s'.1 (ls.take i).sum ∧ s'.1.length ≤ i ∧ s'.2.length + s'.1.length ≤ i ∧ Pile.res b s' = Pile.res b (Pile.sts ls.sum ls i))
          (fun σ H' => σ = [some (.ref p), some (.ref x), some (.ref sk), some (.ref am), some (.int (((ls.take i).sum : Nat) : Int)), some (.int (n : Int)), some (optV b), none] ∧ StkAt a.c_PieceStack H' x r ls.sum (Pile.res b (Pile.sts ls.sum ls i)).1 ∧ Pl H H' r sk am ls.sum ls (Pile.res b (Pile.sts ls.sum ls i)) i ∧ (Pile.res b (Pile.sts ls.sum ls i)).1.length ≤ i)
          (fun _ H' => lenAt H' r) ⟨Pile.sts ls.sum ls i, by rw [hb0]; rfl, S4, P4, v1, v2, Nat.le_of_eq (Pile.sts_cnt i), rfl⟩ ?_ ?_ ?_
        · rintro σ H5 ⟨s', rfl, S5, P5, v5, l5, c5, e5⟩
          obtain ⟨nx5, ⟨dx5, hx5⟩, ts5, ht5, lt5, hi5⟩ := id S5
          obtain rfl | ⟨v, rfl⟩ : b = none ∨ ∃ v, b = some v := by
            cases b
            · exact .inl rfl
            · exact .inr ⟨_, rfl⟩
          · obtain rfl : s' = Pile.sts ls.sum ls i := e5
            exact ⟨_, rfl, rfl, false, rfl, iteF (iteF ⟨rfl, S5, P5, l5⟩)⟩
          · refine ⟨_, rfl, rfl, true, rfl, iteT ?_⟩
            refine ⟨_, rfl, x, dx5, _, rfl, hx5, rfl, _, rfl, x, r, ls.sum, v, s'.1, rfl, S5, fun c h2 hc => (v5.side _ c _ hc (List.getElem?_eq_getElem (show s'.1.length - 2 + 1 < s'.1.length by omega))).2, _, rfl, ?_⟩
            cases hz : Pile.hasTo s'.1 v with
            | false =>
              have e6 : Pile.res (some v) (Pile.sts ls.sum ls i) = s' := by rw [← e5, Pile.res_stop hz]
              rw [e6]
              exact iteF ⟨rfl, S5, P5, l5⟩
            | true =>
              have h2 := Pile.hasTo_two hz
              obtain ⟨c, hc⟩ : ∃ c, s'.1[s'.1.length - 2]? = some c := ⟨_, List.getElem?_eq_getElem (by omega)⟩
              obtain ⟨e, he⟩ : ∃ e, s'.1[s'.1.length - 2 + 1]? = some e := ⟨_, List.getElem?_eq_getElem (by omega)⟩
              obtain ⟨us5, hus5, lus5, _⟩ := id P5.tris
              refine iteT ⟨_, rfl, .inl ⟨rfl, _, L2.sq_of hus5⟩, _, rfl, x, dx5, _, rfl, hx5, rfl, _, rfl, x, a.c_PieceStack, dx5, _, _, rfl, hx5, T.cl_PieceStack, T.n_piled, rfl, r, ts5, rfl, .inl (L2.sq_of ht5), _, _, rfl, rfl, x, r, ls.sum, s'.1.length - 2, s'.1, c, e, congrArg (fun z : Int => [V.ref x, V.int z]) (by rw [lt5]; omega), S5, by omega, hc, he, fun t H6 tN ht6 S6 fr6 => ?_⟩
              have P6 := P5.stack hx (.inr ⟨_, _, _, hx5⟩) fr6 S6.2.2
              obtain ⟨us6, hus6, lus6, P7⟩ := P6.tri (j := (c.st, c.ln, e.ln)) ht6
              have ej : Pile.jn s'.1 (s'.1.length - 2) = (c.st, c.ln, e.ln) := by
                unfold Pile.jn
                rw [hc, he]
              have jl := Pile.join_len (ps := s'.1) (i := s'.1.length - 2) (by omega)
              have lus6 : us6.length = s'.2.length := lus6
              refine ⟨am, us6, .ref t, rfl, rfl, hus6, Nat.lt_of_le_of_lt (by omega : us6.length ≤ 200) (by decide), ⟨(Pile.join s'.1 (s'.1.length - 2), s'.2 ++ [Pile.jn s'.1 (s'.1.length - 2)]), rfl, S6.push hus6 P7.pcs, by rw [ej]; exact P7, v5.join (by omega), by show (Pile.join s'.1 (s'.1.length - 2)).length ≤ i; omega, ?_, ?_⟩, ?_⟩
              · have := Pile.cnt_join (s := s') (i := s'.1.length - 2) (by omega)
                show (s'.2 ++ [Pile.jn s'.1 (s'.1.length - 2)]).length + (Pile.join s'.1 (s'.1.length - 2)).length ≤ i
                omega
              · rw [← e5]
                exact (Pile.room_step hz).symm
              · show lenAt _ r < lenAt H5 r
                rw [P7.pcs.lenAt, P5.pcs.lenAt]
                show (Pile.join s'.1 (s'.1.length - 2)).length < s'.1.length
                omega
        · rintro σ H5 ⟨rfl, S5, P5, l5⟩
          obtain ⟨nx5, ⟨dx5, hx5⟩, ts5, ht5, lt5, hi5⟩ := id S5
          refine ⟨_, rfl, x, dx5, _, rfl, hx5, rfl, _, rfl, _, rfl, _, rfl, x, r, ls.sum, (ls.take i).sum, n, b, _, rfl, S5, by omega, fun H6 S6 fr6 => ?_⟩
          have P6 := P5.stack hx (.inr ⟨_, _, _, hx5⟩) fr6 S6.2.2
          obtain ⟨nx6, ⟨dx6, hx6⟩, ts6, ht6, lt6, hi6⟩ := id S6
          obtain ⟨rs6, hrs6, lrs6, _⟩ := id P6.rows
          have es : Pile.sts ls.sum ls (i + 1) = (Pile.put (Pile.res b (Pile.sts ls.sum ls i)).1 (ls.take i).sum n b, (Pile.res b (Pile.sts ls.sum ls i)).2) := by
            show Pile.step ls.sum (ls.take i).sum (Pile.sts ls.sum ls i) (ls.getD i 0) = _
            rw [hn2, Pile.step_res, hb]
          refine ⟨_, rfl, .inl ⟨rfl, _, L2.sq_of hrs6⟩, _, rfl, x, a.c_PieceStack, dx6, _, _, rfl, hx6, T.cl_PieceStack, T.n_piled, rfl, r, ts6, rfl, .inl (L2.sq_of ht6), fun l hl => ⟨sk, rs6, .ref l, rfl, rfl, same_upd hl _ _ hrs6, Nat.lt_of_le_of_lt (by omega : rs6.length ≤ 200) (by decide), ?_⟩⟩
          have P7 := P6.row hl (by rw [es]) ht6 hrs6
          refine ⟨_, rfl, _, rfl, _, _, rfl, rfl, hlt, ⟨some (.int (n : Int)), some (optV b), ?_⟩, ?_, by rw [es]; exact P7⟩
          · rw [Pile.sum_take hlt, hn2, Int.natCast_add]
            rfl
          · rw [es]
            exact (S6.same (same_upd hl)).push (same_upd hl _ _ hrs6) P7.pcs
        · rintro σ H' Q1 Q2 hq ⟨v1, e1, e2, k, e3, h⟩
          refine ⟨v1, e1, e2, k, e3, ?_⟩
          cases k with
          | false => exact iteF (hq _ _ (outF h))
          | true =>
            obtain ⟨v2, f1, p2, dx2, fs2, f2, f3, f4, v3, f5, x', r', w', b', ps', g1, g2, g3, k', g4, g5⟩ := outT h
            exact iteT ⟨v2, f1, p2, dx2, fs2, f2, f3, f4, v3, f5, x', r', w', b', ps', g1, g2, g3, k', g4, hq _ _ g5⟩
    · have el : ((ls.map fun n : Nat => (n : Int)).map V.int).length = ls.length := by rw [List.length_map, List.length_map]
      rw [el]
      rintro σ H4 ⟨li, ⟨u5, u6, rfl⟩, S4, P4⟩
      obtain ⟨v1, v2, v3⟩ := Pile.sts_inv (w := ls.sum) (ls := ls) ls.length (Nat.le_refl _)
      refine ⟨Nat.zero_le _, fun en hen => ?_⟩
      have hxo : x = r ∨ ∃ C dx f, H4 x = some (.ins C dx f) := by
        obtain ⟨_, ⟨dx4, hx4⟩, _⟩ := S4
        exact .inr ⟨_, _, _, hx4⟩
      have ner : en ≠ r := fun e => by
        obtain ⟨_, _, ts, h, _⟩ := S4
        rw [e, h] at hen
        cases hen
      have nex : en ≠ x := fun e => by
        obtain ⟨_, ⟨dx4, hx4⟩, _⟩ := S4
        rw [e, hx4] at hen
        cases hen
      refine while_to (fun σ H' => ∃ m s', σ = [some (.ref p), some (.ref x), some (.ref sk), some (.ref am), some (.int (((ls.take ls.length).sum : Nat) : Int)), u5, u6, some (.ref en)] ∧ StkAt a.c_PieceStack H' x r ls.sum s'.1 ∧ Fr2 x r H4 H' ∧ TrisAt H' en s'.2 ∧ Pile.Inv s'.1 (ls.take ls.length).sum ∧ s'.2.length + s'.1.length ≤ 200 ∧ s'.1.length ≤ m ∧ Pile.fin m s' = Pile.fin 200 ((Pile.sts ls.sum ls ls.length).1, []))
          (fun σ H' => σ = [some (.ref p), some (.ref x), some (.ref sk), some (.ref am), some (.int (((ls.take ls.length).sum : Nat) : Int)), u5, u6, some (.ref en)] ∧ (∃ ps', StkAt a.c_PieceStack H' x r ls.sum ps') ∧ Fr2 x r H4 H' ∧ TrisAt H' en (Pile.fin 200 ((Pile.sts ls.sum ls ls.length).1, [])).2)
          (fun _ H' => lenAt H' r) ⟨200, ((Pile.sts ls.sum ls ls.length).1, []), rfl, S4.same (same_upd hen), Fr2.of (same_upd hen), ⟨[], upd_same, rfl, fun i v j h => by simp at h⟩, v1, by show 0 + (Pile.sts ls.sum ls ls.length).1.length ≤ 200; omega, by show (Pile.sts ls.sum ls ls.length).1.length ≤ 200; omega, rfl⟩ ?_ ?_ ?_
      · rintro σ H5 ⟨m, s', rfl, S5, fr5, T5, v5, c5, m5, e5⟩
        obtain ⟨nx5, ⟨dx5, hx5⟩, ts5, ht5, lt5, hi5⟩ := id S5
        refine ⟨_, rfl, x, a.c_PieceStack, dx5, _, _, rfl, hx5, T.cl_PieceStack, T.n_piled, rfl, r, ts5, rfl, .inl (L2.sq_of ht5), _, _, rfl, rfl, ?_⟩
        by_cases h2 : 1 < s'.1.length
        · refine ⟨true, congrArg V.bl (decide_eq_true (by omega)), iteT ?_⟩
          have hn := Pile.next_lt (ps := s'.1) (by omega)
          obtain ⟨c, hc⟩ : ∃ c, s'.1[Pile.next s'.1]? = some c := ⟨_, List.getElem?_eq_getElem (by omega)⟩
          obtain ⟨e, he⟩ : ∃ e, s'.1[Pile.next s'.1 + 1]? = some e := ⟨_, List.getElem?_eq_getElem hn⟩
          obtain ⟨us5, hus5, lus5, _⟩ := id T5
          refine ⟨_, rfl, .inl ⟨rfl, _, L2.sq_of hus5⟩, _, rfl, x, dx5, _, rfl, hx5, rfl, _, rfl, x, dx5, _, rfl, hx5, rfl, x, r, ls.sum, s'.1, rfl, S5, h2, x, r, ls.sum, Pile.next s'.1, s'.1, c, e, rfl, S5, by omega, hc, he, fun t H6 tN ht6 S6 fr6 => ?_⟩
          have kt : ∀ t xs, H5 t = some (.tup xs) → H6 t = some (.tup xs) := fun t xs h => fr6 _ _ (fun e => by rw [e, hx5] at h; cases h) (fun e => by rw [e, ht5] at h; cases h) h
          have T6 := T5.keep (fun xs h => fr6 _ _ nex ner h) kt
          have hus6 := fr6 _ _ nex ner hus5
          have T7 := TrisAt.push (j := (c.st, c.ln, e.ln)) hus6 T6 ht6
          have ej : Pile.jn s'.1 (Pile.next s'.1) = (c.st, c.ln, e.ln) := by
            unfold Pile.jn
            rw [hc, he]
          have jl := Pile.join_len (ps := s'.1) (i := Pile.next s'.1) hn
          have P7 : PcsAt (upd H6 en (.lst (us5 ++ [.ref t]))) r (Pile.join s'.1 (Pile.next s'.1)) := S6.2.2.keep (fun xs h => by rw [upd_ne ner.symm]; exact h) (fun t' xs h => by rw [upd_ne (fun e => by rw [e, hus6] at h; cases h)]; exact h)
          obtain ⟨m', rfl⟩ : ∃ m', m = m' + 1 := ⟨m - 1, by omega⟩
          refine ⟨en, us5, .ref t, rfl, rfl, hus6, Nat.lt_of_le_of_lt (by omega : us5.length ≤ 200) (by decide), ⟨m', (Pile.join s'.1 (Pile.next s'.1), s'.2 ++ [Pile.jn s'.1 (Pile.next s'.1)]), rfl, S6.push hus6 P7, ?_, by rw [ej]; exact T7, v5.join hn, ?_, ?_, ?_⟩, ?_⟩
          · refine fun b o n1 n2 h => ?_
            rw [upd_ne (fun e => by rw [e, hen] at h; cases h)]
            exact fr6 _ _ n1 n2 (fr5 _ _ n1 n2 h)
          · have := Pile.cnt_join (s := s') (i := Pile.next s'.1) hn
            show (s'.2 ++ [Pile.jn s'.1 (Pile.next s'.1)]).length + (Pile.join s'.1 (Pile.next s'.1)).length ≤ 200
            omega
          · show (Pile.join s'.1 (Pile.next s'.1)).length ≤ m'
            omega
          · rw [← e5]
            exact (Pile.fin_step h2).symm
          · show lenAt _ r < lenAt H5 r
            rw [P7.lenAt, S5.2.2.lenAt]
            omega
        · refine ⟨false, congrArg V.bl (decide_eq_false (by omega)), iteF ⟨rfl, ⟨_, S5⟩, fr5, ?_⟩⟩
          rw [← e5, Pile.fin_stop (by omega)]
          exact T5
      · rintro σ H5 ⟨rfl, ⟨ps', S5⟩, fr5, T5⟩
        have P5 := P4.stack hx hxo fr5 S5.2.2
        have henH : H en = none := sfree P4.keep hen
        refine ⟨_, rfl, _, rfl, _, rfl, by show 3 ≤ sizeLine; decide, fun t ht => ?_⟩
        have s6 := same_upd (o := .tup [.ref sk, .ref am, .ref en]) ht
        have nae : am ≠ en := fun e => by
          obtain ⟨ts, h, _⟩ := P4.tris
          rw [e, hen] at h
          cases h
        have nse : sk ≠ en := fun e => by
          obtain ⟨ts, h, _⟩ := P4.rows
          rw [e, hen] at h
          cases h
        exact q t sk am en _ (P5.keep.trans s6) (sfree P5.keep ht) hskH hamH henH nsa nse nae upd_same (P5.rowsAt.same s6) (P5.tris.keep (fun _ h => s6 _ _ h) fun _ _ h => s6 _ _ h) (T5.keep (fun _ h => s6 _ _ h) fun _ _ h => s6 _ _ h)
      · rintro σ H' Q1 Q2 hq ⟨v1, e1, xa, Ca, dxa, fsa, va, a1, a2, a3, a4, a5, pa, ya, a6, a7, i1, j1, b1, b2, k, b3, h⟩
        exact ⟨v1, e1, xa, Ca, dxa, fsa, va, a1, a2, a3, a4, a5, pa, ya, a6, a7, i1, j1, b1, b2, k, b3, hq _ _ h⟩
end

end K38

namespace K38
open PySem PySem.Spec PyProof.Rows L2 
/-- lengths: so many, from 1 on, together below 2 ^ 1000 -/
structure LenOk (ls : List Nat) : Prop where
  l0 : 0 < ls.length
  l1 : ls.length ≤ 200
  pos : ∀ l ∈ ls, 1 ≤ l
  top : ls.sum < 2 ^ 1000
theorem LenOk.zs {ls : List Nat} (h : LenOk ls) : ∀ z ∈ (ls.map fun n : Nat => (n : Int)), 1 ≤ z := fun z hz => by
  obtain ⟨n, m, rfl⟩ := List.mem_map.mp hz
  have := h.pos n m
  omega

def spAll : Sp := fun vs H Q _ => ∃ (p : Addr) (ls : List Nat), vs = [.ref p] ∧ KeysAt H p (ls.map fun n : Nat => (n : Int)) ∧ LenOk ls ∧ ∀ (l : Addr) (H' : Hp), Same H H' → H l = none → TrisAt H' l (Pile.joins ls) → Q (.ref l) H'
section
variable {P : Program} {w : World} {K : PySem.W.Frag} {mg : Str → Option Value} {base : Heap} {a : Ad} {d : Fd}
theorem ok_all (T : Txt K mg a d) : FnOk P w K mg base CX0 4 a.all_joins d.all_joins P_all_joins spAll := by
  have G_pile_up : FnOk P w K mg base CX0 3 a.pile_up d.pile_up P_pile_up spPile := ok_pile_up T
  refine T.f_all_joins.ok sc_all_joins (fun vs H Q E h => ?_) (fun cdv A outer s0 H vs Q E hr h => ?_)
  · obtain ⟨p, ls, rfl, _⟩ := h
    rfl
  · obtain ⟨p, ls, rfl, hK, ok, q⟩ := h
    refine ⟨_, (pss_cons (ps_asg (pe_call G_pile_up (hr.mono (by decide)) (by rfl) T.g_pile_up T.k_pile_up T.b_pile_up .nil pass0 (pa_cons (pv 0) pa_nil)) (pg_tup rfl (pgs_cons (pg_name (i := 1) sc_all_joins.nd rfl (Or.inl rfl)) (pgs_cons (pg_name (i := 2) sc_all_joins.nd rfl (Or.inl rfl)) (pgs_cons (pg_name (i := 3) sc_all_joins.nd rfl (Or.inl rfl)) pgs_nil)))))
    (pss_one (ps_ret (pe_op op_catS (pv 2) (pv 3))))), ?_⟩
    refine ⟨_, rfl, p, ls, rfl, hK, ok.l1, ok.pos, ok.top, fun t sk am en H1 S1 _ _ _ _ _ _ _ ht _ Ta Te => ⟨t, _, rfl, L2.st_of ht, rfl, _, _, rfl, _, _, rfl, _, _, rfl, rfl, ?_⟩⟩
    obtain ⟨us1, h1, l1, i1⟩ := id Ta
    obtain ⟨us2, h2, l2, i2⟩ := id Te
    have c1 := Pile.sts_cnt (w := ls.sum) (ls := ls) ls.length
    have lf : (Pile.fin 200 ((Pile.sts ls.sum ls ls.length).1, [])).2.length ≤ 200 := by
      have c2 : (Pile.fin 200 ((Pile.sts ls.sum ls ls.length).1, [])).2.length + (Pile.fin 200 ((Pile.sts ls.sum ls ls.length).1, [])).1.length = 0 + (Pile.sts ls.sum ls ls.length).1.length := Pile.fin_cnt 200 ((Pile.sts ls.sum ls ls.length).1, [])
      have := ok.l1
      omega
    have := ok.l1
    refine ⟨_, rfl, _, rfl, am, en, _, _, rfl, rfl, L2.sq_of h1, L2.sq_of h2, Nat.le_trans (by omega : us1.length + us2.length ≤ 400) (by decide), fun l hl => ?_⟩
    have s2 := same_upd (o := .lst (us1 ++ us2)) hl
    exact q l _ (S1.trans s2) (sfree S1 hl) (TrisAt.append (Ta.keep (fun _ h => s2 _ _ h) fun _ _ h => s2 _ _ h) (Te.keep (fun _ h => s2 _ _ h) fun _ _ h => s2 _ _ h) (s2 _ _ h1) (s2 _ _ h2) upd_same)
end

end K38

namespace K38
open PySem PySem.Spec PyProof.Rows L2 
theorem anyTup {K : PySem.W.Frag} {H : Hp} {v : V} {T : String} (h : AnyV H v T) : PySem.W.kitOne K (.type T) (.type "tuple") = some (decide (T = "tuple")) := by
  cases h <;> exact kit_ty (by decide +kernel)
theorem anyRow {K : PySem.W.Frag} {H : Hp} {v : V} {T : String} (h : AnyV H v T) (n1 : T ≠ "list") (n2 : T ≠ "tuple") : PySem.W.kitAny K (.type T) [.type "list", .type "tuple"] = some false := by
  cases h with
  | lst h => exact absurd rfl n1
  | tup h => exact absurd rfl n2
  | _ => exact kitAny_cons (b := false) (kit_ty (by decide +kernel)) (fun _ => kitAny_cons (b := false) (kit_ty (by decide +kernel)) (fun _ => rfl) (fun z => nomatch z)) (fun z => nomatch z)
theorem isI_int {H : Hp} {v : V} {T : String} (h : AnyV H v T) : isI v = true → T = "int" := by
  cases h <;> intro e <;> first | rfl | cases e
/-- the join fits the borders -/
def JoinOk (bs : List Int) (r : Option Tri) : Prop := ∃ (s f g : Int) (p q : List Int), r = some (s, f, g) ∧ bs = p ++ s :: (s + f) :: (s + f + g) :: q
theorem obey_join {bs : List Int} {r : Option Tri} {rs : List (Option Tri)} (o : Obey bs (r :: rs)) : JoinOk bs r := by
  cases o with
  | cons o => exact ⟨_, _, _, _, _, rfl, rfl⟩
theorem join_get {bs : List Int} {s f g : Int} (o : Srt bs) : JoinOk bs (some (s, f, g)) ↔ nxt bs s = some f ∧ nxt bs (s + f) = some g := by
  constructor
  · rintro ⟨s', f', g', p, q, e, rfl⟩
    injection e with e
    injection e with e1 e
    injection e with e2 e3
    subst e1 e2 e3
    refine ⟨?_, ?_⟩
    · rw [nxt_here o]
      congr 1
      omega
    · have := nxt_here (p := p ++ [s]) (s := s + f) (m := s + f + g) (r := q) (by rw [List.append_assoc]; exact o)
      rw [List.append_assoc] at this
      rw [show p ++ s :: (s + f) :: (s + f + g) :: q = p ++ ([s] ++ (s + f) :: (s + f + g) :: q) from rfl, this]
      congr 1
      omega
  · rintro ⟨h1, h2⟩
    obtain ⟨p, q, rfl⟩ := nxt_two h1
    cases q with
    | nil =>
      have := nxt_end (p := p ++ [s]) (s := s + f) (by rw [List.append_assoc]; exact o)
      rw [List.append_assoc] at this
      rw [show p ++ [s, s + f] = p ++ ([s] ++ [s + f]) from rfl, this] at h2
      cases h2
    | cons m q =>
      have := nxt_here (p := p ++ [s]) (s := s + f) (m := m) (r := q) (by rw [List.append_assoc]; exact o)
      rw [List.append_assoc] at this
      rw [show p ++ s :: (s + f) :: m :: q = p ++ ([s] ++ (s + f) :: m :: q) from rfl, this] at h2
      have := Option.some.inj h2
      refine ⟨s, f, g, p, q, rfl, ?_⟩
      rw [show s + f + g = m by omega]
def spIsJoin : Sp := fun vs H Q _ => ∃ (p0 D : Addr) (v : V) (r : Option Tri) (bs : List Int) (kvs : List (L2.Key × V)), vs = [v, .ref D] ∧ EntQ p0 H v r ∧ H D = some (.dK kvs) ∧ AgrZ kvs bs ∧ Srt bs ∧ ∀ b : Bool, (b = true ↔ JoinOk bs r) → Q (.bl b) H
def spWayOf : Sp := fun vs H Q _ => ∃ (p0 p : Addr) (v : V) (ls : List Nat) (r : Option (List (Option Tri))), vs = [.ref p, v] ∧ KeysAt H p (ls.map fun n : Nat => (n : Int)) ∧ LenOk ls ∧ ThQ p0 H v r ∧ ∀ (b : Bool) (H' : Hp), (b = true ↔ Due ls r) → Same H H' → Q (.bl b) H'
section
variable {P : Program} {w : World} {K : PySem.W.Frag} {mg : Str → Option Value} {base : Heap} {a : Ad} {d : Fd}
theorem ok_is_join (T : Txt K mg a d) : FnOk P w K mg base CX0 2 a.is_join d.is_join P_is_join spIsJoin := by
  have G_is_integer : FnOk P w K mg base CX0 1 a.is_integer d.is_integer P_is_integer (spIsIntX K) := ok_is_integer T
  refine T.f_is_join.ok sc_is_join (fun vs H Q E h => ?_) (fun cdv A outer s0 H vs Q E hr h => ?_)
  · obtain ⟨p0, D, v, r, bs, kvs, rfl, _⟩ := h
    rfl
  · obtain ⟨p0, D, v, r, bs, kvs, rfl, hv, hD, ag, so, q⟩ := h
    refine ⟨_, (pss_cons (ps_if (PW.pt (pw_or (pt_not (pt_val (pe_callB call_isi (by rfl) T.z_isinstance (by decide +kernel) (pa_cons (pv 0) (pa_cons (pe_bltn (v := .ty "tuple") (u := .type "tuple") (by rfl) T.z_tuple (by decide +kernel) rfl) pa_nil))))) (pw_or1 (pt_cmpR op_ne (pe_callB call_len_seq (by rfl) T.z_len PySem.boot_len (pa_cons (pv 0) pa_nil)) pe_int (nomark _))))) (pss_one (ps_ret pe_bl)) pss_nil)
    (pss_cons (ps_asg (pv 0) (pg_tup rfl (pgs_cons (pg_name (i := 2) sc_is_join.nd rfl (Or.inl rfl)) (pgs_cons (pg_name (i := 3) sc_is_join.nd rfl (Or.inl rfl)) (pgs_cons (pg_name (i := 4) sc_is_join.nd rfl (Or.inl rfl)) pgs_nil)))))
    (pss_cons (ps_if (PW.pt (pw_or (pt_not (pt_val (pe_call G_is_integer (hr.mono (by decide)) (by rfl) T.g_is_integer T.k_is_integer T.b_is_integer .nil pass0 (pa_cons (pv 2) pa_nil)))) (pw_or (pt_not (pt_val (pe_call G_is_integer (hr.mono (by decide)) (by rfl) T.g_is_integer T.k_is_integer T.b_is_integer .nil pass0 (pa_cons (pv 3) pa_nil)))) (pw_or1 (pt_not (pt_val (pe_call G_is_integer (hr.mono (by decide)) (by rfl) T.g_is_integer T.k_is_integer T.b_is_integer .nil pass0 (pa_cons (pv 4) pa_nil)))))))) (pss_one (ps_ret pe_bl)) pss_nil)
    (pss_one (ps_ret (pe_and (pe_cmpR op_eq (pe_dget1 (hu_of hr) (pv 1) (pv 2) ⟨rfl, rfl, rfl, rfl⟩) (pv 3) (nomark _)) (pe_one (pe_cmpR op_eq (pe_dget1 (hu_of hr) (pv 1) (pe_op op_add (pv 2) (pv 3)) ⟨rfl, rfl, rfl, rfl⟩) (pv 4) (nomark _))))))))), ?_⟩
    cases hv with
    | odd h n _ =>
      refine ⟨_, rfl, v, .ty "tuple", _, .type "tuple", false, rfl, .ty _, h.ty, (anyTup h).trans (congrArg some (decide_eq_false n)), false, rfl, iteT (iteT ?_)⟩
      exact q false ⟨(fun z => by cases z), fun ⟨_, _, _, _, _, z, _⟩ => by cases z⟩
    | @len t xs h n l =>
      refine ⟨_, rfl, .ref t, .ty "tuple", _, .type "tuple", true, rfl, .ty _, .base (.tup h), kit_ty (by decide +kernel), true, rfl, iteF ?_⟩
      refine ⟨_, rfl, t, _, rfl, .inr (L2.st_of h), rfl, true, ?_, iteT ?_⟩
      · refine congrArg V.bl ?_
        rw [decide_eq_false (fun z => n (by have := V.int.inj z; omega))]
        rfl
      · exact q false ⟨(fun z => by cases z), fun ⟨_, _, _, _, _, z, _⟩ => by cases z⟩
    | @part t x y z dx dy dz h lx ly lz n =>
      obtain ⟨X, hx⟩ := lx.any H
      obtain ⟨Y, hy⟩ := ly.any H
      obtain ⟨Z, hz⟩ := lz.any H
      refine ⟨_, rfl, .ref t, .ty "tuple", _, .type "tuple", true, rfl, .ty _, .base (.tup h), kit_ty (by decide +kernel), true, rfl, iteF ?_⟩
      refine ⟨_, rfl, t, _, rfl, .inr (L2.st_of h), rfl, false, rfl, iteF ?_⟩
      refine ⟨_, rfl, t, _, rfl, L2.st_of h, rfl, _, _, rfl, _, _, rfl, _, _, rfl, rfl, ?_⟩
      have no : Q (.bl false) H := q false ⟨(fun z => by cases z), fun ⟨_, _, _, _, _, z, _⟩ => by cases z⟩
      cases ex : isI x with
      | false => exact ⟨_, rfl, x, false, rfl, by rw [← ex]; exact hx.intQ, false, rfl, iteT (iteT no)⟩
      | true =>
        refine ⟨_, rfl, x, true, rfl, by rw [← ex]; exact hx.intQ, true, rfl, iteF ?_⟩
        cases ey : isI y with
        | false => exact ⟨_, rfl, y, false, rfl, by rw [← ey]; exact hy.intQ, false, rfl, iteT (iteT no)⟩
        | true =>
          refine ⟨_, rfl, y, true, rfl, by rw [← ey]; exact hy.intQ, true, rfl, iteF ?_⟩
          cases ez : isI z with
          | false => exact ⟨_, rfl, z, false, rfl, by rw [← ez]; exact hz.intQ, false, rfl, iteT no⟩
          | true => exact absurd ⟨ex, ey, ez⟩ n
    | @tri t s f g ht =>
      refine ⟨_, rfl, .ref t, .ty "tuple", _, .type "tuple", true, rfl, .ty _, .base (.tup ht), kit_ty (by decide +kernel), true, rfl, iteF ?_⟩
      refine ⟨_, rfl, t, _, rfl, .inr (L2.st_of ht), rfl, false, rfl, iteF ?_⟩
      refine ⟨_, rfl, t, _, rfl, L2.st_of ht, rfl, _, _, rfl, _, _, rfl, _, _, rfl, rfl, ?_⟩
      refine ⟨_, rfl, _, true, rfl, IntQ.int _, true, rfl, iteF ⟨_, rfl, _, true, rfl, IntQ.int _, true, rfl, iteF ⟨_, rfl, _, true, rfl, IntQ.int _, true, rfl, iteF ?_⟩⟩⟩
      have iD : IsD H D := .inl ⟨kvs, .inl hD⟩
      have jg := join_get (g := g) (f := f) (s := s) so
      refine ⟨_, rfl, D, rfl, iD, _, rfl, _, DGet.k (k := .inl s) hD, ?_⟩
      rw [ag s]
      cases e1 : nxt bs s with
      | none =>
        refine ⟨_, rfl, rfl, false, rfl, iteF ?_⟩
        exact q false ⟨(fun z => by cases z), fun z => by rw [e1] at jg; cases (jg.mp z).1⟩
      | some f' =>
        by_cases c : f' = f
        · subst c
          refine ⟨_, rfl, rfl, true, congrArg V.bl (decide_eq_true rfl), iteT ?_⟩
          refine ⟨_, rfl, D, rfl, iD, _, rfl, _, rfl, _, _, rfl, rfl, _, DGet.k (k := .inl (s + f')) hD, ?_⟩
          rw [ag]
          cases e2 : nxt bs (s + f') with
          | none =>
            refine ⟨_, rfl, rfl, ?_⟩
            exact q false ⟨(fun z => by cases z), fun z => by rw [e2] at jg; cases (jg.mp z).2⟩
          | some g' =>
            refine ⟨_, rfl, rfl, ?_⟩
            refine q _ ?_
            rw [jg, e1, e2]
            constructor
            · intro z
              have z := of_decide_eq_true z
              exact ⟨rfl, congrArg some (V.int.inj z)⟩
            · rintro ⟨_, z⟩
              exact decide_eq_true (congrArg V.int (Option.some.inj z))
        · refine ⟨_, rfl, rfl, false, congrArg V.bl (decide_eq_false fun z => c (V.int.inj z)), iteF ?_⟩
          exact q false ⟨(fun z => by cases z), fun z => by rw [e1] at jg; exact absurd (Option.some.inj (jg.mp z).1) c⟩
theorem ok_is_way_of (T : Txt K mg a d) : FnOk P w K mg base CX0 3 a.is_way_of d.is_way_of P_is_way_of spWayOf := by
  have G_is_join : FnOk P w K mg base CX0 2 a.is_join d.is_join P_is_join spIsJoin := ok_is_join T
  refine T.f_is_way_of.ok sc_is_way_of (fun vs H Q E h => ?_) (fun cdv A outer s0 H vs Q E hr h => ?_)
  · obtain ⟨p0, p, v, ls, r, rfl, _⟩ := h
    rfl
  · obtain ⟨p0, p, v, ls, r, rfl, hK, LO, hv, q⟩ := h
    refine ⟨_, (pss_cons (ps_if (PW.pt (pw_or (pt_not (pt_val (pe_callB call_isiT (by rfl) T.z_isinstance (by decide +kernel) (pa_cons (pv 1) (pa_cons (pe_tup (pa_cons (pe_bltn (v := .ty "list") (u := .type "list") (by rfl) T.z_list (by decide +kernel) rfl) (pa_cons (pe_bltn (v := .ty "tuple") (u := .type "tuple") (by rfl) T.z_tuple (by decide +kernel) rfl) pa_nil))) pa_nil))))) (pw_or1 (pt_cmpR op_ne (pe_callB call_len_seq (by rfl) T.z_len PySem.boot_len (pa_cons (pv 1) pa_nil)) (pe_op op_sub (pe_callB call_len_seq (by rfl) T.z_len PySem.boot_len (pa_cons (pv 0) pa_nil)) pe_int) (nomark _))))) (pss_one (ps_ret pe_bl)) pss_nil)
    (pss_cons (ps_set (i := 2) sc_is_way_of.nd rfl (Or.inl rfl) pe_dnewK)
    (pss_cons (ps_set (i := 3) sc_is_way_of.nd rfl (Or.inl rfl) pe_int)
    (pss_cons (ps_for PassesOwn.never rfl (pi_lt (pv 0)) (pg_name (i := 4) sc_is_way_of.nd rfl (Or.inl rfl))
      (pss_cons (ps_dput (hu_of hr) (pv 2) (pv 3) (pv 4) rfl)
        (pss_one (ps_aug (i := 3) sc_is_way_of.nd rfl (Or.inl rfl) (pv 4) ip_add))))
    (pss_cons (ps_for PassesOwn.never rfl (pi_lt (pv 1)) (pg_name (i := 5) sc_is_way_of.nd rfl (Or.inl rfl))
      (pss_cons (ps_if (pt_not (pt_val (pe_call G_is_join (hr.mono (by decide)) (by rfl) T.g_is_join T.k_is_join T.b_is_join .nil pass0 (pa_cons (pv 5) (pa_cons (pv 2) pa_nil))))) (pss_one (ps_ret pe_bl)) pss_nil)
        (pss_cons (ps_asg (pv 5) (pg_tup rfl (pgs_cons (pg_name (i := 3) sc_is_way_of.nd rfl (Or.inl rfl)) (pgs_cons (pg_name (i := 6) sc_is_way_of.nd rfl (Or.inl rfl)) (pgs_cons (pg_name (i := 7) sc_is_way_of.nd rfl (Or.inl rfl)) pgs_nil)))))
        (pss_cons (ps_dput (hu_of hr) (pv 2) (pv 3) (pe_op op_add (pv 6) (pv 7)) rfl)
        (pss_one (ps_ddel (pv 2) (pe_op op_add (pv 3) (pv 6))))))))
    (pss_one (ps_ret pe_bl))))))), ?_⟩
    have l0 := LO.l0
    have l200 := LO.l1
    have el : ((ls.map fun n : Nat => (n : Int)).map V.int).length = ls.length := by rw [List.length_map, List.length_map]
    refine ⟨_, rfl, by show 2 ≤ sizeLine; decide, fun tp htp => ?_⟩
    have s1 : Same H (upd H tp (.tup [.ty "list", .ty "tuple"])) := same_upd htp
    have hT1 : upd H tp (.tup [.ty "list", .ty "tuple"]) tp = some (.tup [.ty "list", .ty "tuple"]) := upd_same
    generalize upd H tp (.tup [.ty "list", .ty "tuple"]) = H1 at s1 hT1 ⊢
    have cs : Paired ClsV [.ty "list", .ty "tuple"] [.type "list", .type "tuple"] := .cons (.ty _) (.cons (.ty _) .nil)
    cases hv with
    | odd h n1 n2 _ =>
      refine ⟨v, tp, _, _, _, false, rfl, hT1, cs, (h.same s1).ty, anyRow h n1 n2, false, rfl, iteT (iteT ?_)⟩
      exact q false _ ⟨(fun z => by cases z), fun z => z.elim⟩ s1
    | @row l xs rs hx np lx l2 its =>
      have hx1 := hx.same s1
      obtain ⟨t, hty, hkit⟩ : ∃ t, TyX K H1 (.ref l) t ∧ PySem.W.kitAny K t [.type "list", .type "tuple"] = some true := by
        rcases hx1 with h | h
        · exact ⟨_, .base (.lst h), kitAny_cons (b := true) (kit_ty (by decide +kernel)) (fun z => nomatch z) (fun _ => rfl)⟩
        · exact ⟨_, .base (.tup h), kitAny_cons (b := false) (kit_ty (by decide +kernel)) (fun _ => kitAny_cons (b := true) (kit_ty (by decide +kernel)) (fun z => nomatch z) (fun _ => rfl)) (fun z => nomatch z)⟩
      refine ⟨.ref l, tp, _, t, _, true, rfl, hT1, cs, hty, hkit, true, rfl, iteF ?_⟩
      by_cases lens : rs.length + 1 = ls.length
      case neg =>
        refine ⟨_, rfl, l, _, rfl, hx1.imp L2.sq_of L2.st_of, _, rfl, p, _, rfl, (hK.same s1).imp L2.sq_of L2.st_of, _, _, rfl, rfl, rfl, true, ?_, iteT ?_⟩
        · refine congrArg V.bl ?_
          rw [decide_eq_false (fun z => lens (by have := V.int.inj z; omega))]
          rfl
        · refine q false _ ⟨(fun z => by cases z), fun z => ?_⟩ s1
          have := obey_len z
          rw [bords_len] at this
          omega
      refine ⟨_, rfl, l, _, rfl, hx1.imp L2.sq_of L2.st_of, _, rfl, p, _, rfl, (hK.same s1).imp L2.sq_of L2.st_of, _, _, rfl, rfl, rfl, false, ?_, iteF ?_⟩
      · refine congrArg V.bl ?_
        rw [show decide (V.int ((xs.length : Nat) : Int) = (fun i j : Int => V.int (i - j)) ((((ls.map fun n : Nat => (n : Int)).map V.int).length : Nat) : Int) 1) = true from decide_eq_true (congrArg V.int (by omega))]
        rfl
      intro D hD
      have s2 := same_upd (o := .dK []) hD
      have h2 : upd H1 D (.dK []) D = some (.dK []) := upd_same
      generalize upd H1 D (.dK []) = H2 at s2 h2 ⊢
      have S12 := s1.trans s2
      have DH : H D = none := sfree s1 hD
      refine ⟨_, rfl, p, (ls.map fun n : Nat => (n : Int)).map V.int, rfl, ?_⟩
      refine for_lt (K := K) (a := p) (xs := (ls.map fun n : Nat => (n : Int)).map V.int) (fun i σ H' => (∃ (u4 u5 u6 u7 : Option V), σ = [some (.ref p), some (.ref l), some (.ref D), some (.int ((Pile.stt ls i : Nat) : Int)), u4, u5, u6, u7]) ∧ Same H H' ∧ ∃ kvs, H' D = some (.dK kvs) ∧ kvs.length ≤ i ∧ AgrZ kvs (bordsTo ls i))
        ⟨⟨_, _, _, _, rfl⟩, S12, [], h2, Nat.le_refl _, agr_zero⟩ ?_ ?_ ?_
      · rcases hK with hl | ht
        · exact .inl fun i σ' H' ⟨_, s, _⟩ => L2.sq_of (s _ _ hl)
        · exact .inr fun i σ' H' ⟨_, s, _⟩ => L2.st_of (s _ _ ht)
      · rintro i v σ H3 hv ⟨⟨u4, u5, u6, u7, rfl⟩, s3, kvs, h3, lk, ag⟩
        obtain ⟨n, rfl, hn1, hn2, hn3, hlt⟩ := len_item hv
        refine ⟨_, rfl, _, rfl, _, rfl, D, _, rfl, DPut.k (k := .inl ((Pile.stt ls i : Nat) : Int)) h3 (Nat.lt_of_le_of_lt (by omega : kvs.length ≤ 200) (by decide)), ?_⟩
        refine ⟨_, rfl, _, rfl, _, _, rfl, rfl, ⟨some (.int (n : Int)), u5, u6, u7, ?_⟩, fun b o e => ?_, _, upd_same, Nat.le_trans (length_putK _ _ _) (by omega), ?_⟩
        · rw [Pile.stt_succ hlt, hn2, Int.natCast_add]
          rfl
        · rw [upd_ne (ne_of_none e DH)]
          exact s3 _ _ e
        · have := agr_put LO.pos hlt ag
          rw [hn2] at this
          exact this
      · rintro σ H3 ⟨⟨u4, u5, u6, u7, rfl⟩, s3, kvs, h3, lk, ag⟩
        rw [el] at ag lk
        have hx3 := hx.same s3
        refine ⟨_, rfl, l, xs, rfl, ?_⟩
        refine for_lt (K := K) (a := l) (xs := xs) (fun i σ H' => (∃ (u3 u4 u5 u6 u7 : Option V), σ = [some (.ref p), some (.ref l), some (.ref D), u3, u4, u5, u6, u7]) ∧ Same H H' ∧ ∃ kvs bs, H' D = some (.dK kvs) ∧ kvs.length ≤ 200 + i ∧ AgrZ kvs bs ∧ Srt bs ∧ bs.length + i = ls.length + 1 ∧ (Obey bs (rs.drop i) ↔ Obey (bords ls) rs))
          ⟨⟨_, _, _, _, _, rfl⟩, s3, kvs, _, h3, by omega, ag, bords_srt LO.pos, bords_len ls, Iff.rfl⟩ ?_ ?_ ?_
        · rcases hx with hl | ht
          · exact .inl fun i σ' H' ⟨_, s, _⟩ => L2.sq_of (s _ _ hl)
          · exact .inr fun i σ' H' ⟨_, s, _⟩ => L2.st_of (s _ _ ht)
        · rintro i v σ H4 hv ⟨⟨u3, u4, u5, u6, u7, rfl⟩, s4, kvs, bs, h4, lk, ag, so, bl, ob⟩
          have li : i < xs.length := (List.getElem?_eq_some_iff.mp hv).1
          have er : rs[i]? = some rs[i] := List.getElem?_eq_getElem (by omega)
          have hq := its i v rs[i] hv er
          have ed : rs.drop i = rs[i] :: rs.drop (i + 1) := List.drop_eq_getElem_cons (by omega)
          rw [ed] at ob
          generalize rs[i] = r at hq ob
          refine ⟨_, rfl, _, rfl, p0, D, v, r, bs, kvs, rfl, hq.same s4, h4, ag, so, fun b hb => ⟨b, rfl, ?_⟩⟩
          cases b with
          | false =>
            refine iteT ?_
            refine q false _ ⟨(fun z => by cases z), fun z => ?_⟩ s4
            have := hb.mpr (obey_join (ob.mpr z))
            cases this
          | true =>
            refine iteF ?_
            obtain ⟨s, f, g, pp, qq, rfl, rfl⟩ := hb.mp rfl
            cases hq.same s4 with
            | @tri t _ _ _ ht4 =>
              refine ⟨_, rfl, t, _, rfl, L2.st_of ht4, rfl, _, _, rfl, _, _, rfl, _, _, rfl, rfl, ?_⟩
              have aj := ag.join so
              rw [show s + f - s = f by omega, show s + f + g - (s + f) = g by omega] at aj
              refine ⟨_, rfl, _, rfl, _, _, rfl, rfl, _, rfl, _, rfl, D, _, rfl, DPut.k (k := .inl s) h4 (Nat.lt_of_le_of_lt (by omega : kvs.length ≤ 400) (by decide)), ?_⟩
              have jg := (join_get (s := s) (f := f) (g := g) so).mp ⟨s, f, g, pp, qq, rfl, rfl⟩
              have f0 : f ≠ 0 := by
                have := (List.pairwise_cons.mp (List.pairwise_append.mp so).2.1).1 (s + f) (by simp)
                omega
              refine ⟨_, rfl, _, rfl, _, rfl, _, _, rfl, rfl, D, _, .inl (s + f), rfl, upd_same, rfl, ?_, ?_⟩
              · rw [valV_put, if_neg (fun z => f0 (by have := Sum.inl.inj z; omega)), ag, jg.2]
                rfl
              · refine ⟨⟨_, _, _, _, _, rfl⟩, fun b o e => ?_, _, _, upd_same, Nat.le_trans (dropK_le _ _) (Nat.le_trans (length_putK _ _ _) (by omega)), aj, so.drop1, ?_, ?_⟩
                · rw [upd_ne (ne_of_none e DH), upd_ne (ne_of_none e DH)]
                  exact s4 _ _ e
                · simp only [List.length_append, List.length_cons] at bl ⊢
                  omega
                · rw [← ob, obey_some so]
                  exact ⟨fun z => ⟨by omega, by omega, z⟩, fun z => z.2.2⟩
        · rintro σ H4 ⟨⟨u3, u4, u5, u6, u7, rfl⟩, s4, kvs, bs, h4, lk, ag, so, bl, ob⟩
          rw [lx, List.drop_length] at ob
          exact q true _ ⟨fun _ => ob.mp (.nil (by omega)), fun _ => rfl⟩ s4
end

end K38

namespace K38
open PySem PySem.Spec PyProof.Rows L2 
/-- the same join -/
def SameJ (r : Option Tri) (j : Nat × Nat × Nat) : Prop := r = some ((j.1 : Int), (j.2.1 : Int), (j.2.2 : Int))
def FirstD (rs : List (Option Tri)) (js : List (Nat × Nat × Nat)) : Option Nat → Prop
  | none => ∀ (i : Nat) (r : Option Tri) (j : Nat × Nat × Nat), rs[i]? = some r → js[i]? = some j → SameJ r j
  | some k => (∃ (r : Option Tri) (j : Nat × Nat × Nat), rs[k]? = some r ∧ js[k]? = some j ∧ ¬ SameJ r j) ∧ ∀ (i : Nat) (r : Option Tri) (j : Nat × Nat × Nat), i < k → rs[i]? = some r → js[i]? = some j → SameJ r j
theorem FirstD.uniq {rs : List (Option Tri)} {js : List (Nat × Nat × Nat)} {o o' : Option Nat} (h : FirstD rs js o) (h' : FirstD rs js o') : o = o' := by
  cases o with
  | none =>
    cases o' with
    | none => rfl
    | some k =>
      obtain ⟨⟨r, j, a, b, c⟩, _⟩ := h'
      exact absurd (h k r j a b) c
  | some k =>
    cases o' with
    | none =>
      obtain ⟨⟨r, j, a, b, c⟩, _⟩ := h
      exact absurd (h' k r j a b) c
    | some k' =>
      obtain ⟨⟨r, j, a, b, c⟩, d⟩ := h
      obtain ⟨⟨r', j', a', b', c'⟩, d'⟩ := h'
      rcases Nat.lt_trichotomy k k' with z | z | z
      · exact absurd (d' k r j z a b) c
      · rw [z]
      · exact absurd (d k' r' j' z a' b') c'
def triD (r : Tri) : PyData := .tuple [.int r.1, .int r.2.1, .int r.2.2]
theorem shaped_tri (r : Tri) : SeqAt.shaped (triD r) = true := shaped_of rfl (Nat.le_trans (Nat.le_refl 1) (by decide))
theorem eqv_tri (a b : Tri) : PyData.eqv (triD a) (triD b) = decide (a = b) := by
  by_cases c : a = b
  · rw [decide_eq_true c, c]
    exact eqv_same (shaped_tri b)
  · rw [decide_eq_false c]
    obtain ⟨a1, a2, a3⟩ := a
    obtain ⟨b1, b2, b3⟩ := b
    rw [Bool.eq_false_iff]
    intro z
    unfold triD at z
    simp only [PyData.eqv, PyData.eqvAll, Bool.and_true, Bool.and_eq_true, beq_iff_eq] at z
    obtain ⟨z1, z2, z3⟩ := z
    exact c (by rw [z1, z2, z3])
theorem ix_keysR {K : PySem.W.Frag} {H : Hp} {p : Addr} {xs : List V} {i : Nat} {j : Int} {v : V} {Q : VK} (hS : RowAt H p xs) (ej : j = (i : Int)) (e : xs[i]? = some v) (q : Q v H) : rIx K (.ref p) (.int j) H Q := by
  subst ej
  rcases hS with h | h
  · exact .inl ⟨p, _, _, _, rfl, rfl, L2.sq_of h, atI_nat e, q⟩
  · exact .inr (.inl ⟨p, _, _, _, rfl, rfl, L2.st_of h, atI_nat e, q⟩)
def spUnlike (C : Addr) : Sp := fun vs H Q E => ∃ (p0 p : Addr) (v : V) (ls : List Nat) (r : Option (List (Option Tri))), vs = [.ref p, v] ∧ KeysAt H p (ls.map fun n : Nat => (n : Int)) ∧ LenOk ls ∧ ThQ p0 H v r ∧ (¬ Due ls r → Rz E H C "name" (.str "joins")) ∧ (Due ls r → ∀ rs o H', r = some rs → FirstD rs (Pile.joins ls) o → Same H H' → Q (optV o) H')
section
variable {P : Program} {w : World} {K : PySem.W.Frag} {mg : Str → Option Value} {base : Heap} {a : Ad} {d : Fd}
theorem ok_is_way (T : Txt K mg a d) : FnOk P w K mg base CX0 5 a.is_way d.is_way P_is_way spWayOf := by
  have G_check_pieces : FnOk P w K mg base CX0 4 a.check_pieces d.check_pieces P_check_pieces spPieces := ok_check_pieces T
  have G_is_way_of : FnOk P w K mg base CX0 3 a.is_way_of d.is_way_of P_is_way_of spWayOf := ok_is_way_of T
  refine T.f_is_way.ok sc_is_way (fun vs H Q E h => ?_) (fun cdv A outer s0 H vs Q E hr h => ?_)
  · obtain ⟨p0, p, v, ls, r, rfl, _⟩ := h
    rfl
  · obtain ⟨p0, p, v, ls, r, rfl, hK, LO, hv, q⟩ := h
    refine ⟨_, (pss_cons (ps_expr (pe_call G_check_pieces (hr.mono (by decide)) (by rfl) T.g_check_pieces T.k_check_pieces T.b_check_pieces .nil pass0 (pa_cons (pv 0) pa_nil)))
    (pss_one (ps_ret (pe_call G_is_way_of (hr.mono (by decide)) (by rfl) T.g_is_way_of T.k_is_way_of T.b_is_way_of .nil pass0 (pa_cons (pv 0) (pa_cons (pv 1) pa_nil)))))), ?_⟩
    refine ⟨_, rfl, p, _, rfl, hK, by rw [List.length_map]; exact LO.l0, by rw [List.length_map]; exact LO.l1, LO.zs, fun H1 s1 => ?_⟩
    exact ⟨_, rfl, _, rfl, p0, p, v, ls, r, rfl, hK.same s1, LO, hv.same s1, fun b H2 hb s2 => q b _ hb (s1.trans s2)⟩
theorem ok_err_mismatch (T : Txt K mg a d) : FnOk P w K mg base CX0 1 a.Mismatch___init__ d.Mismatch___init__ P_Mismatch___init__ (spErr a.c_Mismatch "name") := by
  refine T.f_Mismatch___init__.ok sc_Mismatch___init__ (fun vs H Q E h => ?_) (fun cdv A outer s H vs Q E hr h => ?_)
  · obtain ⟨e, v, rfl, _⟩ := h
    rfl
  · obtain ⟨e, v, rfl, he, q⟩ := h
    refine ⟨_, (pss_cons (ps_expr (pe_baseinit (by rfl) T.xb.g T.xb.r1 T.xb.r2 T.xb.vi (pa_cons (pv 0) (pa_cons pe_str pa_nil))))
    (pss_one (ps_ost (pv 0) (pv 1)))), ?_⟩
    refine ⟨_, rfl, e, a.c_Mismatch, _, rfl, by show 1 ≤ 1000; decide, T.x_Mismatch.ox, he, ?_⟩
    exact ⟨_, rfl, _, rfl, e, a.c_Mismatch, rfl, T.x_Mismatch.ox, T.x_Mismatch.no, .inl ⟨he, fun dx hd ne => q dx hd ne⟩⟩
theorem ok_first_unlike (T : Txt K mg a d) : FnOk P w K mg base (L2.CX P w) 5 a.first_unlike d.first_unlike P_first_unlike (spUnlike a.c_Mismatch) := by
  have G_check_pieces : FnOk P w K mg base CX0 4 a.check_pieces d.check_pieces P_check_pieces spPieces := ok_check_pieces T
  have G_is_way_of : FnOk P w K mg base CX0 3 a.is_way_of d.is_way_of P_is_way_of spWayOf := ok_is_way_of T
  have G_all_joins : FnOk P w K mg base CX0 4 a.all_joins d.all_joins P_all_joins spAll := ok_all T
  have G_Mismatch___init__ : FnOk P w K mg base CX0 1 a.Mismatch___init__ d.Mismatch___init__ P_Mismatch___init__ (spErr a.c_Mismatch "name") := ok_err_mismatch T
  refine T.f_first_unlike.okX sc_first_unlike (fun vs H Q E h => ?_) (fun cdv A outer s0 H vs Q E hr h => ?_)
  · obtain ⟨p0, p, v, ls, r, rfl, _⟩ := h
    rfl
  · obtain ⟨p0, p, v, ls, r, rfl, hK, LO, hv, rz, q⟩ := h
    refine ⟨_, (pss_cons (ps_expr (pe_call G_check_pieces (hr.mono (by decide)) (by rfl) T.g_check_pieces T.k_check_pieces T.b_check_pieces .nil pass0 (pa_cons (pv 0) pa_nil)))
    (pss_cons (ps_if (pt_not (pt_val (pe_call G_is_way_of (hr.mono (by decide)) (by rfl) T.g_is_way_of T.k_is_way_of T.b_is_way_of .nil pass0 (pa_cons (pv 0) (pa_cons (pv 1) pa_nil))))) (pss_one (ps_raise rfl (takes_of rfl rfl rfl rfl) (pmk_oex T.x_Mismatch.ox T.x_Mismatch.ii T.x_Mismatch.ti G_Mismatch___init__ (hr.mono (by decide)) T.b_Mismatch___init__ .nil pass0 (by rfl) T.x_Mismatch.g (pa_cons pe_str pa_nil)))) pss_nil)
    (pss_cons (ps_for (passes_of rfl) rfl (pi_enumA (by rfl) T.z_enumerate (pa_cons (pe_call G_all_joins (hr.mono (by decide)) (by rfl) T.g_all_joins T.k_all_joins T.b_all_joins .nil pass0 (pa_cons (pv 0) pa_nil)) pa_nil)) (pg_tup rfl (pgs_cons (pg_name (i := 2) sc_first_unlike.nd rfl (Or.inl rfl)) (pgs_cons (pg_name (i := 3) sc_first_unlike.nd rfl (Or.inl rfl)) pgs_nil)))
      (pss_one (ps_if (pt_cmpR (op_neD hr.units) (pe_ix ix_seq (pv 1) (pv 2) (fun _ _ => rfl)) (pv 3) (nomark _)) (pss_one (ps_ret (pv 2))) pss_nil)))
    (pss_one (ps_ret pe_non))))), ?_⟩
    refine ⟨_, rfl, p, _, rfl, hK, by rw [List.length_map]; exact LO.l0, by rw [List.length_map]; exact LO.l1, LO.zs, fun H1 s1 => ?_⟩
    refine ⟨_, rfl, _, rfl, p0, p, v, ls, r, rfl, hK.same s1, LO, hv.same s1, fun b H2 hb s2 => ⟨b, rfl, ?_⟩⟩
    have s02 := s1.trans s2
    cases b with
    | false =>
      refine iteT ?_
      have zz := (rz fun z => by have := hb.mpr z; cases this).same s02
      exact ⟨by show 1 ≤ 1000; decide, fun e heN => ⟨e, _, rfl, upd_same, fun dx hdx ne => ⟨rfl, dx, [("name", .str "joins")], upd_same, by rw [upd_ne ne, upd_same], by rw [upd_ne ne] at hdx; exact hdx, (zz) dx _ (fun b o h => by
          rw [upd_ne ne] at hdx
          have nbd : b ≠ dx := ne_of_none h hdx
          have nbe : b ≠ e := ne_of_none h heN
          rw [upd_ne nbd, del_ne nbe, upd_ne nbe, upd_ne nbd, upd_ne nbe]
          exact h) (by rw [upd_ne ne] at hdx; exact hdx) upd_same⟩⟩⟩
    | true =>
      refine iteF ?_
      have due := hb.mp rfl
      cases hv.same s02 with
      | odd _ _ _ _ => exact due.elim
      | @row l xs rs hx np lx l2 its =>
        refine ⟨_, rfl, p, ls, rfl, hK.same s02, LO, fun e H3 s3 _ hE => ?_⟩
        have hx3 := hx.same s3
        obtain ⟨ts, hts, lts, jts⟩ := id hE
        have ol := obey_len due
        rw [bords_len] at ol
        have jc := Pile.joins_count LO.l0 LO.l1
        refine ⟨e, _, rfl, .inl ⟨L2.sq_of hts, ?_⟩⟩
        refine for_iteL (K := K) (a := e) (xs := ts) (fun i σ H' => (∃ (u2 u3 : Option V), σ = [some (.ref p), some (.ref l), u2, u3]) ∧ Same H3 H' ∧ ∀ (k : Nat) (r : Option Tri) (j : Nat × Nat × Nat), k < i → rs[k]? = some r → (Pile.joins ls)[k]? = some j → SameJ r j) ⟨⟨_, _, rfl⟩, Same.refl _, fun k r j hk => absurd hk (Nat.not_lt_zero _)⟩ (fun i σ H' _ h => L2.sq_of (h.2.1 _ _ hts)) ?_ ?_
        · rintro i y σ H4 Tp hy ⟨⟨u2, u3, rfl⟩, s4, fd⟩ hn
          obtain ⟨t, j, rfl, hj, hm, ht⟩ := TrisAt.item lts jts hy
          have s5 := s4.trans (same_upd (o := .tup [.int (i : Nat), .ref t]) hn)
          refine ⟨Tp, _, rfl, L2.st_of upd_same, rfl, _, _, rfl, _, _, rfl, rfl, ?_⟩
          generalize upd H4 Tp (.tup [.int (i : Nat), .ref t]) = H5 at s5 ⊢
          have li := (List.getElem?_eq_some_iff.mp hj).1
          have exi : xs[i]? = some xs[i] := List.getElem?_eq_getElem (by omega)
          have eri : rs[i]? = some rs[i] := List.getElem?_eq_getElem (by omega)
          have hq := its i _ _ exi eri
          have nn := obey_all due rs[i] (List.getElem_mem _)
          generalize hxi : xs[i] = vi at exi hq
          generalize rs[i] = ri at eri hq nn
          cases hq with
          | @tri t2 s f g ht2 =>
            have ht2' := s5 _ _ (s3 _ _ ht2)
            refine ⟨_, rfl, _, rfl, ix_keysR (hx3.same s5) rfl exi ⟨_, rfl, triD (s, f, g), triD ((j.1 : Int), (j.2.1 : Int), (j.2.2 : Int)), .tup (L2.st_of ht2') (.cons (.int _) (.cons (.int _) (.cons (.int _) .nil))), .tup (L2.st_of (s5 _ _ ht)) (.cons (.int _) (.cons (.int _) (.cons (.int _) .nil))), shaped_tri _, shaped_tri _, ?_⟩⟩
            rw [eqv_tri]
            by_cases c : ((s, f, g) : Tri) = ((j.1 : Int), (j.2.1 : Int), (j.2.2 : Int))
            · refine ⟨false, by rw [decide_eq_true c]; rfl, iteF ⟨⟨_, _, rfl⟩, s5, fun k r j' hk a b => ?_⟩⟩
              rcases Nat.lt_or_ge k i with z | z
              · exact fd k r j' z a b
              · have : k = i := by omega
                subst this
                rw [eri] at a
                rw [hj] at b
                rw [← Option.some.inj a, ← Option.some.inj b]
                exact congrArg some c
            · refine ⟨true, by rw [decide_eq_false c]; rfl, iteT ⟨_, rfl, ?_⟩⟩
              exact q due rs (some i) _ rfl ⟨⟨_, j, eri, hj, fun z => c (Option.some.inj z)⟩, fun k r j' hk a b => fd k r j' hk a b⟩ ((s02.trans s3).trans s5)
          | _ => exact absurd rfl nn
        · rintro σ H4 ⟨⟨u2, u3, rfl⟩, s4, fd⟩
          refine q due rs none _ rfl (fun i r j a b => fd i r j ?_ a b) ((s02.trans s3).trans s4)
          have := (List.getElem?_eq_some_iff.mp b).1
          omega
end

end K38

namespace K38
open PySem PySem.Spec PyProof.Rows L2 
def spMixed : Sp := fun vs H Q _ => ∃ c e, vs = [.int c, .int e] ∧ ∀ v : Int, Q (.int v) H
def spSource : Sp := fun vs H Q _ => ∃ c, vs = [.int c] ∧ ∀ p x y z, H p = none → Q (.ref p) (upd H p (.lst [.int x, .int y, .int z]))
def spTake : Sp := fun vs H Q _ => ∃ p b, vs = [.ref p, .int b] ∧ SrcZ H p ∧ 0 < b ∧ b.natAbs < 2 ^ 200 ∧ ∀ v x y z : Int, 0 ≤ v → v < b → Q (.int v) (upd H p (.lst [.int x, .int y, .int z]))
section
variable {P : Program} {w : World} {K : PySem.W.Frag} {mg : Str → Option Value} {base : Heap} {a : Ad} {d : Fd}
theorem ok_mixed (T : Txt K mg a d) : FnOk P w K mg base CX0 1 a.mixed d.mixed P_mixed spMixed := by
  refine T.f_mixed.ok sc_mixed (fun vs H Q E h => ?_) (fun cdv A outer s H vs Q E hr h => ?_)
  · obtain ⟨c, e, rfl, _⟩ := h
    rfl
  · obtain ⟨c, e, rfl, q⟩ := h
    refine ⟨_, (pss_cons (ps_set (i := 2) sc_mixed.nd rfl (Or.inl rfl) (pe_op op_mod (pe_callTy call_int1 (by rfl) T.z_int (by decide +kernel) (pa_cons (pe_op op_mul (pe_op op_add (pe_op op_mod (pe_callTy call_int1 (by rfl) T.z_int (by decide +kernel) (pa_cons (pv 0) pa_nil)) pe_int) pe_int) (pe_op op_add (pe_op op_mul (pv 1) pe_int) pe_int)) pa_nil)) pe_int))
    (pss_cons (ps_set (i := 2) sc_mixed.nd rfl (Or.inl rfl) (pe_op op_mod (pe_callTy call_int1 (by rfl) T.z_int (by decide +kernel) (pa_cons (pe_op op_mul (pe_op op_add (pv 2) (pe_op op_mul (pe_op op_mod (pe_callTy call_int1 (by rfl) T.z_int (by decide +kernel) (pa_cons (pe_op op_fdivW (pv 0) pe_int) pa_nil)) pe_int) (pe_op op_add (pv 1) pe_int))) pe_int) pa_nil)) pe_int))
    (pss_cons (ps_set (i := 2) sc_mixed.nd rfl (Or.inl rfl) (pe_op op_mod (pe_callTy call_int1 (by rfl) T.z_int (by decide +kernel) (pa_cons (pe_op op_mul (pv 2) (pe_op op_add (pe_op op_add (pe_op op_fdivW (pv 2) pe_int) pe_int) (pv 1))) pa_nil)) pe_int))
    (pss_one (ps_ret (pe_op op_mod (pe_callTy call_int1 (by rfl) T.z_int (by decide +kernel) (pa_cons (pe_op op_mul (pv 2) (pe_op op_add (pe_op op_fdivW (pv 2) pe_int) pe_int)) pa_nil)) pe_int)))))), ?_⟩
    have k1 := mb c (c := 2147483646) (by decide)
    refine ⟨_, rfl, .inl ⟨_, rfl, _, _, rfl, rfl, (by show (0 : Int) < 2147483646; decide), _, _, rfl, rfl, _, rfl, _, _, rfl, rfl, .inr ⟨by decide, by decide⟩, _, _, rfl, rfl, _, _, rfl, rfl, .inl (lt64 (c := 2147483647) (by omega) (by omega) (by decide)), .inl ⟨_, rfl, _, _, rfl, rfl, (by show (0 : Int) < 2147483647; decide), ?_⟩⟩⟩
    have k2 := mb (c / 2147483646) (c := 1000003) (by decide)
    refine ⟨_, rfl, _, rfl, _, _, rfl, rfl, ⟨by decide, by decide⟩, .inl ⟨_, rfl, _, _, rfl, rfl, (by show (0 : Int) < 1000003; decide), _, rfl, _, _, rfl, rfl, _, _, rfl, rfl, .inl (lt64 (c := 1000003) (by omega) (by omega) (by decide)), _, _, rfl, rfl, _, _, rfl, rfl, .inr ⟨by decide, by decide⟩, .inl ⟨_, rfl, _, _, rfl, rfl, (by show (0 : Int) < 2147483629; decide), ?_⟩⟩⟩
    refine ⟨_, rfl, _, rfl, _, _, rfl, rfl, ⟨by decide, by decide⟩, _, _, rfl, rfl, _, rfl, _, _, rfl, rfl, _, _, rfl, rfl, .inl (mbw _ (c := 2147483629) (by decide) (by decide)), .inl ⟨_, rfl, _, _, rfl, rfl, (by show (0 : Int) < 2147483587; decide), ?_⟩⟩
    refine ⟨_, rfl, _, rfl, _, _, rfl, rfl, ⟨by decide, by decide⟩, _, _, rfl, rfl, _, _, rfl, rfl, .inl (mbw _ (c := 2147483587) (by decide) (by decide)), .inl ⟨_, rfl, _, _, rfl, rfl, (by show (0 : Int) < 2147483563; decide), q _⟩⟩
theorem ok_source (T : Txt K mg a d) : FnOk P w K mg base CX0 1 a.source d.source P_source spSource := by
  refine T.f_source.ok sc_source (fun vs H Q E h => ?_) (fun cdv A outer s H vs Q E hr h => ?_)
  · obtain ⟨c, rfl, _⟩ := h
    rfl
  · obtain ⟨c, rfl, q⟩ := h
    refine ⟨_, (pss_one (ps_ret (pe_lst (pa_cons (pv 0) (pa_cons (pv 0) (pa_cons pe_int pa_nil)))))), ?_⟩
    exact ⟨_, rfl, _, rfl, by show 3 ≤ sizeLine; decide, fun p hp => q p _ _ _ hp⟩
theorem ok_take (T : Txt K mg a d) : FnOk P w K mg base CX0 2 a.take d.take P_take spTake := by
  have G_mixed : FnOk P w K mg base CX0 1 a.mixed d.mixed P_mixed spMixed := ok_mixed T
  refine T.f_take.ok sc_take (fun vs H Q E h => ?_) (fun cdv A outer s H vs Q E hr h => ?_)
  · obtain ⟨p, b, rfl, _⟩ := h
    rfl
  · obtain ⟨p, b, rfl, ⟨x, y, z, hp⟩, b0, b64, q⟩ := h
    refine ⟨_, (pss_cons (ps_if (pt_cmpR op_ge (pe_ix ix_list (pv 0) pe_int (fun _ _ => rfl)) (pe_op op_powW pe_int pe_int) (nomark _)) (pss_cons (ps_set (i := 2) sc_take.nd rfl (Or.inl rfl) (pe_op op_mod (pe_callTy call_int1 (by rfl) T.z_int (by decide +kernel) (pa_cons (pe_ix ix_list (pv 0) pe_int (fun _ _ => rfl)) pa_nil)) (pv 1)))
      (pss_cons (ps_asg (pe_op op_fdivW (pe_ix ix_list (pv 0) pe_int (fun _ _ => rfl)) (pv 1)) (pg_sub (pv 0) pe_int set_list))
      (pss_one (ps_ret (pv 2))))) pss_nil)
    (pss_cons (ps_asg (pe_op op_add (pe_ix ix_list (pv 0) pe_int (fun _ _ => rfl)) pe_int) (pg_sub (pv 0) pe_int set_list))
    (pss_one (ps_ret (pe_op op_mod (pe_callTy call_int1 (by rfl) T.z_int (by decide +kernel) (pa_cons (pe_call G_mixed (hr.mono (by decide)) (by rfl) T.g_mixed T.k_mixed T.b_mixed .nil pass0 (pa_cons (pe_ix ix_list (pv 0) pe_int (fun _ _ => rfl)) (pa_cons (pe_ix ix_list (pv 0) pe_int (fun _ _ => rfl)) pa_nil))) pa_nil)) (pv 1)))))), ?_⟩
    have hS := L2.sq_of (K := K) hp
    have g0 : atI [V.int x, V.int y, V.int z] 0 = some (.int x) := atI_nat (j := 0) rfl
    have g1 : atI [V.int x, V.int y, V.int z] 1 = some (.int y) := atI_nat (j := 1) rfl
    have g2 : atI [V.int x, V.int y, V.int z] 2 = some (.int z) := atI_nat (j := 2) rfl
    refine ⟨_, rfl, p, _, _, _, rfl, rfl, hS, g0, _, _, rfl, rfl, ⟨by decide, by decide⟩, _, _, rfl, rfl, _, rfl, ite2 (fun _ => ?_) (fun _ => ?_)⟩
    · refine ⟨_, rfl, p, _, _, _, rfl, rfl, hS, g0, .inl ⟨_, rfl, _, rfl, _, _, rfl, rfl, b0, ?_⟩⟩
      refine ⟨_, rfl, p, _, _, _, rfl, rfl, hS, g0, _, rfl, _, _, rfl, rfl, wide_div b0 b64 (by decide) (by decide), ?_⟩
      refine ⟨_, rfl, p, _, _, 0, rfl, rfl, hp, rfl, ?_⟩
      exact ⟨_, rfl, q _ _ _ _ (mb x b0).1 (mb x b0).2⟩
    · refine ⟨_, rfl, p, _, _, _, rfl, rfl, hS, g2, _, _, rfl, rfl, ?_⟩
      refine ⟨_, rfl, p, _, _, 2, rfl, rfl, hp, rfl, ?_⟩
      have hp' : upd H p (.lst ([V.int x, V.int y, V.int z].set 2 (.int (z + 1)))) p = some (.lst [V.int x, V.int y, V.int (z + 1)]) := upd_same
      have hS' := L2.sq_of (K := K) hp'
      have g1' : atI [V.int x, V.int y, V.int (z + 1)] 1 = some (.int y) := atI_nat (j := 1) rfl
      have g2' : atI [V.int x, V.int y, V.int (z + 1)] 2 = some (.int (z + 1)) := atI_nat (j := 2) rfl
      refine ⟨_, rfl, p, _, _, _, rfl, rfl, hS', g1', _, rfl, p, _, _, _, rfl, rfl, hS', g2', y, z + 1, rfl, fun v => ?_⟩
      exact .inl ⟨_, rfl, _, rfl, _, _, rfl, rfl, b0, q _ _ _ _ (mb v b0).1 (mb v b0).2⟩
end

def spPick (K : PySem.W.Frag) : Sp := fun vs H Q _ => ∃ p r xs, vs = [.ref p, .ref r] ∧ SrcZ H p ∧ r ≠ p ∧ SqL K H r xs ∧ 0 < xs.length ∧ xs.length < 2 ^ 60 ∧ ∀ (v : V) (H' : Hp), v ∈ xs → DnZ p H H' → Q v H'
section
variable {P : Program} {w : World} {K : PySem.W.Frag} {mg : Str → Option Value} {base : Heap} {a : Ad} {d : Fd}
theorem ok_pick (T : Txt K mg a d) : FnOk P w K mg base CX0 3 a.pick d.pick P_pick (spPick K) := by
  have G_take : FnOk P w K mg base CX0 2 a.take d.take P_take spTake := ok_take T
  refine T.f_pick.ok sc_pick (fun vs H Q E h => ?_) (fun cdv A outer s H vs Q E hr h => ?_)
  · obtain ⟨p, r, xs, rfl, _⟩ := h
    rfl
  · obtain ⟨p, r, xs, rfl, hs, ne, hx, l0, l1, q⟩ := h
    refine ⟨_, (pss_one (ps_ret (pe_ix ix_list (pv 1) (pe_call G_take (hr.mono (by decide)) (by rfl) T.g_take T.k_take T.b_take .nil pass0 (pa_cons (pv 0) (pa_cons (pe_callB call_len_seq (by rfl) T.z_len PySem.boot_len (pa_cons (pv 1) pa_nil)) pa_nil))) (fun _ _ => rfl)))), ?_⟩
    refine ⟨_, rfl, _, rfl, _, rfl, r, xs, rfl, .inl hx, p, _, rfl, hs, by omega, ?_, fun v x y z v0 v1 => ?_⟩
    · have e : ((xs.length : Nat) : Int).natAbs = xs.length := Int.natAbs_natCast _
      rw [e]
      exact Nat.lt_trans l1 (by decide)
    · obtain ⟨i, rfl⟩ : ∃ i : Nat, v = (i : Int) := ⟨v.toNat, (Int.toNat_of_nonneg v0).symm⟩
      have hi : i < xs.length := by omega
      have gi : xs[i]? = some xs[i] := List.getElem?_eq_getElem hi
      exact ⟨r, xs, _, xs[i], rfl, rfl, SB.seq SB.put ne hx, atI_nat gi, q _ _ (List.getElem_mem hi) .put⟩
end

end K38

namespace K38
open PySem PySem.Spec PyProof.Rows L2 
def starts (ls : List Nat) (n : Nat) : List V := nV ((List.range n).map fun i => Pile.stt ls i)
theorem starts_len (ls : List Nat) (n : Nat) : (starts ls n).length = n := by
  unfold starts nV
  rw [List.length_map, List.length_map, List.length_range]
theorem starts_get {ls : List Nat} {n i : Nat} (h : i < n) : (starts ls n)[i]? = some (.int ((Pile.stt ls i : Nat) : Int)) := by
  unfold starts nV
  rw [List.getElem?_map, List.getElem?_map, List.getElem?_range h]
  rfl
theorem nV_item {ls : List Nat} {i : Nat} {v : V} (h : (nV ls)[i]? = some v) : ∃ n : Nat, v = .int (n : Int) ∧ ls[i]? = some n ∧ ls.getD i 0 = n ∧ n ∈ ls ∧ i < ls.length := by
  unfold nV at h
  rw [List.getElem?_map] at h
  cases e : ls[i]? with
  | none => rw [e] at h; cases h
  | some n =>
    rw [e] at h
    exact ⟨n, (Option.some.inj h).symm, rfl, by rw [List.getD_eq_getElem?_getD, e]; rfl, List.mem_of_getElem? e, (List.getElem?_eq_some_iff.mp e).1⟩
theorem nV_at {ls : List Nat} {i : Nat} (h : i < ls.length) : (nV ls)[i]? = some (.int ((ls.getD i 0 : Nat) : Int)) := by
  unfold nV
  rw [List.getElem?_map, List.getElem?_eq_getElem h, List.getD_eq_getElem?_getD, List.getElem?_eq_getElem h]
  rfl
def spStarts : Sp := fun vs H Q _ => ∃ (p : Addr) (ls : List Nat), vs = [.ref p] ∧ H p = some (.lst (nV ls)) ∧ ls.length ≤ 1000 ∧ ∀ (l : Addr) (H' : Hp), Same H H' → H l = none → H' l = some (.lst (starts ls (ls.length + 1))) → Q (.ref l) H'
def spNote : Sp := fun vs H Q _ => ∃ (H0 : Hp) (r sk am : Addr) (w i k e : Nat) (ls : List Nat) (s : List Pc × List (Nat × Nat × Nat)), vs = [.ref r, .ref am, .int (i : Int)] ∧ Pl H0 H r sk am w ls s k ∧ Pile.Inv s.1 e ∧ i + 1 < s.1.length ∧ s.1.length ≤ 200 ∧ s.2.length ≤ 200 ∧ ∀ H', Pl H0 H' r sk am w ls (Pile.join s.1 i, s.2 ++ [Pile.jn s.1 i]) k → Q .non H'
def spPiled : Sp := fun vs H Q _ => ∃ (p : Addr) (ls : List Nat), vs = [.ref p] ∧ H p = some (.lst (nV ls)) ∧ LenOk ls ∧ ∀ (t sk ea la : Addr) (H' : Hp), Same H H' → H t = none → H sk = none → H ea = none → H la = none → H' t = some (.tup [.ref sk, .ref ea, .ref la]) →
  RowsAt H H' sk ls.sum ls ls.length → TrisAt H' ea (Pile.sts ls.sum ls ls.length).2 → TrisAt H' la (Pile.fin 200 ((Pile.sts ls.sum ls ls.length).1, [])).2 → Q (.ref t) H'
section
variable {P : Program} {w : World} {K : PySem.W.Frag} {mg : Str → Option Value} {base : Heap} {a : Ad} {d : Fd}
theorem ok_starts (T : Txt K mg a d) : FnOk P w K mg base CX0 1 a.starts d.starts P_starts spStarts := by
  refine T.f_starts.ok sc_starts (fun vs H Q E h => ?_) (fun cdv A outer s0 H vs Q E hr h => ?_)
  · obtain ⟨p, ls, rfl, _⟩ := h
    rfl
  · obtain ⟨p, ls, rfl, hp, l200, q⟩ := h
    refine ⟨_, (pss_cons (ps_set (i := 1) sc_starts.nd rfl (Or.inl rfl) (pe_lst (pa_cons pe_int pa_nil)))
    (pss_cons (ps_for PassesOwn.never rfl (pi_list (pv 0)) (pg_name (i := 2) sc_starts.nd rfl (Or.inl rfl))
      (pss_one (ps_expr (pe_bm PySem.F.plainAttrs_list PySem.F.slot_list_append PySem.F.type_list_append mt_append (pv 1) (pa_cons (pe_op op_add (pe_ix ix_list (pv 1) (pe_un un_neg pe_int) (fun _ _ => rfl)) (pv 2)) pa_nil)))))
    (pss_one (ps_ret (pv 1))))), ?_⟩
    refine ⟨by show 1 ≤ sizeLine; decide, fun l hl => ?_⟩
    refine ⟨_, rfl, p, rfl, ⟨_, L2.sq_of (same_upd hl _ _ hp)⟩, ?_⟩
    refine for_list (K := K) (a := p) (xs := nV ls) (fun i σ H' => (∃ u, σ = [some (.ref p), some (.ref l), u]) ∧ Same H H' ∧ H' l = some (.lst (starts ls (i + 1)))) ⟨⟨_, rfl⟩, same_upd hl, upd_same⟩ (fun i σ H' _ h => L2.sq_of (h.2.1 _ _ hp)) ?_ ?_
    · rintro i v σ H1 hv ⟨⟨u, rfl⟩, s1, h1⟩
      obtain ⟨n, rfl, hn1, hn2, hn3, hlt⟩ := nV_item hv
      refine ⟨_, rfl, .inl ⟨rfl, _, L2.sq_of h1⟩, _, rfl, _, rfl, l, _, _, _, rfl, rfl, L2.sq_of h1, atI_back (k := 1) (by decide) (by rw [starts_len]; omega) (by rw [starts_len]; exact starts_get (by omega)), _, rfl, _, _, rfl, rfl, l, _, _, rfl, rfl, h1, ?_, ⟨_, rfl⟩, fun b o e => ?_, ?_⟩
      · rw [starts_len]
        exact Nat.lt_of_le_of_lt (by omega : _ ≤ 1001) (by decide)
      · rw [upd_ne (ne_of_none e hl)]
        exact s1 _ _ e
      · rw [upd_same]
        unfold starts
        rw [List.range_succ (n := i + 1), List.map_append]
        show some (HO.lst (_ ++ [V.int (((Pile.stt ls (i + 1 - 1) : Nat) : Int) + (n : Int))])) = some (HO.lst (nV (_ ++ [Pile.stt ls (i + 1)])))
        rw [← nV_snoc, Pile.stt_succ hlt, hn2, Int.natCast_add]
        rfl
    · rintro σ H1 ⟨⟨u, rfl⟩, s1, h1⟩
      refine ⟨_, rfl, q l _ s1 hl ?_⟩
      rw [h1]
      unfold nV
      rw [List.length_map]
theorem ok_note (T : Txt K mg a d) : FnOk P w K mg base CX0 1 a.note d.note P_note spNote := by
  refine T.f_note.ok sc_note (fun vs H Q E h => ?_) (fun cdv A outer s0 H vs Q E hr h => ?_)
  · obtain ⟨H0, r, sk, am, w, i, k, e, ls, s, rfl, _⟩ := h
    rfl
  · obtain ⟨H0, r, sk, am, w, i, k, e, ls, s, rfl, Pl0, v0, hi, l1, l2, q⟩ := h
    refine ⟨_, (pss_cons (ps_asg (pe_ix ix_list (pv 0) (pv 2) (fun _ _ => rfl)) (pg_tup rfl (pgs_cons (pg_name (i := 3) sc_note.nd rfl (Or.inl rfl)) (pgs_cons (pg_name (i := 4) sc_note.nd rfl (Or.inl rfl)) (pgs_cons (pg_name (i := 5) sc_note.nd rfl (Or.inl rfl)) pgs_nil)))))
    (pss_cons (ps_asg (pe_slice sl_tup (pe_ix ix_list (pv 0) (pe_op op_add (pv 2) pe_int) (fun _ _ => rfl)) (po_some pe_int) po_none) (pg_tup rfl (pgs_cons (pg_name (i := 6) sc_note.nd rfl (Or.inl rfl)) (pgs_cons (pg_name (i := 7) sc_note.nd rfl (Or.inl rfl)) pgs_nil))))
    (pss_cons (ps_asg (pe_lst (pa_cons (pe_tup (pa_cons (pv 3) (pa_cons (pe_op op_add (pv 4) (pv 6)) (pa_cons (pv 7) pa_nil)))) pa_nil)) (pg_slice (pv 0) (po_some (pv 2)) (po_some (pe_op op_add (pv 2) pe_int))))
    (pss_one (ps_expr (pe_bm PySem.F.plainAttrs_list PySem.F.slot_list_append PySem.F.type_list_append mt_append (pv 1) (pa_cons (pe_tup (pa_cons (pv 3) (pa_cons (pv 4) (pa_cons (pv 6) pa_nil)))) pa_nil))))))), ?_⟩
    obtain ⟨ts, hts, lts, its⟩ := id Pl0.pcs
    obtain ⟨c, hc⟩ : ∃ c, s.1[i]? = some c := ⟨_, List.getElem?_eq_getElem (by omega)⟩
    obtain ⟨e, he⟩ : ∃ e, s.1[i + 1]? = some e := ⟨_, List.getElem?_eq_getElem hi⟩
    obtain ⟨t1, k1, k2⟩ := PcsAt.item lts its hc
    obtain ⟨t2, k3, k4⟩ := PcsAt.item lts its he
    refine ⟨_, rfl, _, rfl, r, ts, _, _, rfl, rfl, L2.sq_of hts, atI_nat k1, ?_⟩
    refine ⟨t1, _, rfl, L2.st_of k2, rfl, _, _, rfl, _, _, rfl, _, _, rfl, rfl, ?_⟩
    refine ⟨_, rfl, _, rfl, _, _, rfl, rfl, r, ts, _, _, rfl, rfl, L2.sq_of hts, by exact atI_nat k3, 1, rfl, t2, _, rfl, L2.st_of k4, by show ¬ (HT.sIx 3 0 (some 1) = 0 ∧ HT.sIx 3 3 none = 3); decide, fun u hu => ?_⟩
    refine ⟨u, [.int (e.ln : Int), optV e.lv], rfl, L2.st_of upd_same, rfl, _, _, rfl, _, _, rfl, rfl, ?_⟩
    have s1 : Same H (upd H u (.tup (cutV [.int (e.st : Int), .int (e.ln : Int), optV e.lv] (some 1) none))) := same_upd hu
    generalize upd H u (.tup (cutV [.int (e.st : Int), .int (e.ln : Int), optV e.lv] (some 1) none)) = H1 at s1 ⊢
    have P1 := Pl0.same s1
    refine ⟨_, rfl, _, rfl, _, rfl, _, _, rfl, rfl, _, rfl, by show 3 ≤ sizeLine; decide, fun t ht => ⟨by show 1 ≤ sizeLine; decide, fun l hl => ?_⟩⟩
    have s2 := same_upd (o := .tup [.int (c.st : Int), .int ((c.ln : Int) + (e.ln : Int)), optV e.lv]) ht
    have hT : upd H1 t (.tup [.int (c.st : Int), .int ((c.ln : Int) + (e.ln : Int)), optV e.lv]) t = some (.tup [.int (c.st : Int), .int ((c.ln : Int) + (e.ln : Int)), optV e.lv]) := upd_same
    dsimp only at hl ⊢
    generalize upd H1 t (.tup [.int (c.st : Int), .int ((c.ln : Int) + (e.ln : Int)), optV e.lv]) = H2 at s2 hT hl ⊢
    have s3 := same_upd (o := .lst [.ref t]) hl
    have hL : upd H2 l (.lst [.ref t]) l = some (.lst [.ref t]) := upd_same
    have hT3 := s3 _ _ hT
    generalize upd H2 l (.lst [.ref t]) = H3 at s3 hL hT3 ⊢
    have P3 := P1.same (s2.trans s3)
    have hts3 := (s1.trans (s2.trans s3)) _ _ hts
    have nrl : r ≠ l := fun z => by rw [← z, s2 _ _ (s1 _ _ hts)] at hl; cases hl
    refine ⟨_, rfl, _, rfl, _, rfl, _, rfl, _, _, rfl, rfl, _, rfl, r, l, _, _, (i : Int), (i : Int) + 2, rfl, rfl, rfl, rfl, hts3, hL, nrl, by omega, by omega, by omega, ?_, ?_⟩
    · exact Nat.le_trans (by rw [List.length_singleton]; omega : _ ≤ 1001) (by decide)
    have t1' : ((i : Int)).toNat = i := by omega
    have t2' : ((i : Int) + 2).toNat = i + 2 := by omega
    rw [t1', t2']
    have hP := PcsAt.joined hts3 P3.pcs hc he hT3
    have P4 := P3.stack Pl0.nr (.inl rfl) (Fr2.putr (x := r) (r := r) (u := .lst (ts.take i ++ [.ref t] ++ ts.drop (i + 2)))) hP
    generalize upd H3 r (.lst (ts.take i ++ [.ref t] ++ ts.drop (i + 2))) = H4 at P4 ⊢
    obtain ⟨us, hus, lus, _⟩ := id P4.tris
    refine ⟨_, rfl, .inl ⟨rfl, _, L2.sq_of hus⟩, _, rfl, _, rfl, _, rfl, by show 3 ≤ sizeLine; decide, fun t5 ht5 => ?_⟩
    have P5 := P4.same (same_upd (o := .tup [.int (c.st : Int), .int (c.ln : Int), .int (e.ln : Int)]) ht5)
    obtain ⟨us6, hus6, lus6, P6⟩ := P5.tri (t := t5) (j := (c.st, c.ln, e.ln)) upd_same
    have ej : Pile.jn s.1 i = (c.st, c.ln, e.ln) := by
      unfold Pile.jn
      rw [hc, he]
    refine ⟨am, us6, .ref t5, rfl, rfl, hus6, Nat.lt_of_le_of_lt (show us6.length ≤ 200 from lus6 ▸ l2) (by decide), ?_⟩
    refine q _ ?_
    rw [ej]
    exact P6
end

end K38

namespace K38
open PySem PySem.Spec PyProof.Rows L2 
def spIsRow : Sp := fun vs H Q _ => ∃ (p0 : Addr) (v : V) (r : Option (List (Option Tri))), vs = [v] ∧ ThQ p0 H v r ∧ ∀ (b : Bool) (H' : Hp), (b = true ↔ ∃ rs, r = some rs ∧ ∀ x ∈ rs, x ≠ none) → Same H H' → Q (.bl b) H'
def spObeys : Sp := fun vs H Q _ => ∃ (p0 p : Addr) (v : V) (ls : List Nat) (rs : List (Option Tri)), vs = [.ref p, v] ∧ H p = some (.lst (nV ls)) ∧ LenOk ls ∧ ThQ p0 H v (some rs) ∧ (∀ x ∈ rs, x ≠ none) ∧ ∀ (b : Bool) (H' : Hp), (b = true ↔ Obey (bords ls) rs) → Same H H' → Q (.bl b) H'
theorem starts_bords (ls : List Nat) : starts ls (ls.length + 1) = (bords ls).map V.int := by
  unfold starts bords nV
  rw [List.map_map, List.map_map]
  rfl
theorem flat_ints (ns : List Int) : (ns.map V.int).all flatV = true := by
  refine List.all_eq_true.mpr fun v hv => ?_
  obtain ⟨i, _, rfl⟩ := List.mem_map.mp hv
  rfl
theorem eqV_same (i : Int) : eqV (.int i) (.int i) = true := by
  show (i == i) = true
  exact beq_self_eq_true i
theorem eqV_ne {i j : Int} (h : i ≠ j) : eqV (.int i) (.int j) = false := by
  show (i == j) = false
  exact beq_false_of_ne h
theorem idx_nat {n k : Nat} {i : Int} (e : i = (k : Int)) (h : k < n) : seqIndex? i n = some k := by
  subst e
  show (if (decide (0 ≤ (if (k : Int) < 0 then (k : Int) + (n : Int) else (k : Int))) && decide ((if (k : Int) < 0 then (k : Int) + (n : Int) else (k : Int)) < (n : Int))) = true then some (if (k : Int) < 0 then (k : Int) + (n : Int) else (k : Int)).toNat else none) = some k
  rw [if_neg (show ¬ (k : Int) < 0 by omega), decide_eq_true (show (0 : Int) ≤ (k : Int) by omega), decide_eq_true (show (k : Int) < (n : Int) by omega)]
  rfl
/-- what of three things is no whole number -/
def odds (xs : List V) : List V := xs.filter fun v => !isI v
theorem dp_odds {K : PySem.W.Frag} {H : Hp} {D : Addr} {x y z : V} {dx dy dz : PyData} (lx : Lone x dx) (ly : Lone y dy) (lz : Lone z dz) (h : H D = some (.lst (odds [x, y, z]))) (n : ¬ (isI x = true ∧ isI y = true ∧ isI z = true)) : ∃ d, Dp K H (.ref D) d ∧ SeqAt.shaped d = true ∧ PyData.eqv d (.list []) = false := by
  have one : ∀ {v : V} {d : PyData} {vs : List V} {ds : List PyData}, Lone v d → DpAll K H vs ds → PyData.canLayAll0 ds = true → PyData.depthAll ds = 0 → ∃ ds', DpAll K H (odds [v] ++ vs) ds' ∧ PyData.canLayAll0 ds' = true ∧ PyData.depthAll ds' = 0 ∧ (isI v = true → ds' = ds) ∧ (isI v = false → ds' ≠ []) := fun {v d vs ds} lv h1 h2 h3 => by
    cases e : isI v with
    | true =>
      refine ⟨ds, ?_, h2, h3, fun _ => rfl, fun z => by cases z⟩
      have : odds [v] = [] := by unfold odds; simp [e]
      rw [this]
      exact h1
    | false =>
      refine ⟨d :: ds, ?_, ?_, ?_, (fun z => by cases z), fun _ z => by cases z⟩
      · have : odds [v] = [v] := by unfold odds; simp [e]
        rw [this]
        exact .cons lv.dp h1
      · show (PyData.canLay0 d && PyData.canLayAll0 ds) = true
        rw [lv.canLay, h2]
        rfl
      · show max (PyData.depth d) (PyData.depthAll ds) = 0
        rw [lv.depth, h3]
        rfl
  obtain ⟨d1, a1, a2, a3, a4, a5⟩ := one lz .nil rfl rfl
  obtain ⟨d2, b1, b2, b3, b4, b5⟩ := one ly a1 a2 a3
  obtain ⟨d3, c1, c2, c3, c4, c5⟩ := one lx b1 b2 b3
  have eo : odds [x] ++ (odds [y] ++ (odds [z] ++ [])) = odds [x, y, z] := by
    unfold odds
    rw [List.append_nil, ← List.filter_append, ← List.filter_append]
    rfl
  rw [eo] at c1
  have ne : d3 ≠ [] := by
    intro q
    cases ex : isI x with
    | false => exact c5 ex q
    | true =>
      rw [c4 ex] at q
      cases ey : isI y with
      | false => exact b5 ey q
      | true =>
        rw [b4 ey] at q
        cases ez : isI z with
        | false => exact a5 ez q
        | true => exact n ⟨ex, ey, ez⟩
  refine ⟨.list d3, .lst (L2.sq_of h) c1, ?_, ?_⟩
  · refine shaped_of c2 ?_
    show PyData.depthAll d3 + 1 ≤ 64
    rw [c3]
    decide
  · cases d3 with
    | nil => exact absurd rfl ne
    | cons u us => rfl
section
variable {P : Program} {w : World} {K : PySem.W.Frag} {mg : Str → Option Value} {base : Heap} {a : Ad} {d : Fd}
theorem ok_obeys (T : Txt K mg a d) : FnOk P w K mg base CX0 2 a.obeys d.obeys P_obeys spObeys := by
  have G_starts : FnOk P w K mg base CX0 1 a.starts d.starts P_starts spStarts := ok_starts T
  refine T.f_obeys.ok sc_obeys (fun vs H Q E h => ?_) (fun cdv A outer s0 H vs Q E hr h => ?_)
  · obtain ⟨p0, p, v, ls, rs, rfl, _⟩ := h
    rfl
  · obtain ⟨p0, p, v, ls, rs, rfl, hp, LO, hv, all, q⟩ := h
    refine ⟨_, (pss_cons (ps_set (i := 2) sc_obeys.nd rfl (Or.inl rfl) (pe_call G_starts (hr.mono (by decide)) (by rfl) T.g_starts T.k_starts T.b_starts .nil pass0 (pa_cons (pv 0) pa_nil)))
    (pss_cons (ps_for PassesOwn.never rfl (pi_lt (pv 1)) (pg_tup rfl (pgs_cons (pg_name (i := 3) sc_obeys.nd rfl (Or.inl rfl)) (pgs_cons (pg_name (i := 4) sc_obeys.nd rfl (Or.inl rfl)) (pgs_cons (pg_name (i := 5) sc_obeys.nd rfl (Or.inl rfl)) pgs_nil))))
      (pss_cons (ps_if (pt_cmpR op_notIn_seq (pv 3) (pe_slice sl_list (pv 2) po_none (po_some (pe_un un_neg pe_int))) (by rfl)) (pss_one (ps_ret pe_bl)) pss_nil)
        (pss_cons (ps_set (i := 6) sc_obeys.nd rfl (Or.inl rfl) (pe_bm PySem.F.plainAttrs_list PySem.F.slot_list_index PySem.F.type_list_index mt_index (pv 2) (pa_cons (pv 3) pa_nil)))
        (pss_cons (ps_if (PW.pt (pw_or (pt_cmpR op_ne (pe_op op_sub (pe_ix ix_list (pv 2) (pe_op op_add (pv 6) pe_int) (fun _ _ => rfl)) (pv 3)) (pv 4) (nomark _)) (pw_or1 (pt_cmpR op_ne (pe_op op_sub (pe_ix ix_list (pv 2) (pe_op op_add (pv 6) pe_int) (fun _ _ => rfl)) (pe_ix ix_list (pv 2) (pe_op op_add (pv 6) pe_int) (fun _ _ => rfl))) (pv 5) (nomark _))))) (pss_one (ps_ret pe_bl)) pss_nil)
        (pss_one (ps_expr (pe_bm PySem.F.plainAttrs_list PySem.F.slot_list_pop PySem.F.type_list_pop mt_popAt (pv 2) (pa_cons (pe_op op_add (pv 6) pe_int) pa_nil))))))))
    (pss_one (ps_ret (pe_cmpR op_eq (pe_callB call_len_seq (by rfl) T.z_len PySem.boot_len (pa_cons (pv 2) pa_nil)) pe_int (nomark _)))))), ?_⟩
    have l200 := LO.l1
    cases hv with
    | @row l xs _ hx np lx l2 its =>
      refine ⟨_, rfl, p, ls, rfl, hp, by omega, fun B H1 s1 hB h1 => ?_⟩
      rw [starts_bords] at h1
      refine ⟨_, rfl, l, xs, rfl, ?_⟩
      refine for_lt (K := K) (a := l) (xs := xs) (fun i σ H' => (∃ (u3 u4 u5 u6 : Option V), σ = [some (.ref p), some (.ref l), some (.ref B), u3, u4, u5, u6]) ∧ Same H H' ∧ ∃ bs, H' B = some (.lst (bs.map V.int)) ∧ Srt bs ∧ 1 ≤ bs.length ∧ bs.length ≤ 201 ∧ (Obey bs (rs.drop i) ↔ Obey (bords ls) rs))
        ⟨⟨_, _, _, _, rfl⟩, s1, _, h1, bords_srt LO.pos, by rw [bords_len]; omega, by rw [bords_len]; omega, Iff.rfl⟩ ?_ ?_ ?_
      · rcases hx with hl | ht
        · exact .inl fun i σ' H' ⟨_, s, _⟩ => L2.sq_of (s _ _ hl)
        · exact .inr fun i σ' H' ⟨_, s, _⟩ => L2.st_of (s _ _ ht)
      · rintro i v σ H2 hv ⟨⟨u3, u4, u5, u6, rfl⟩, s2, bs, h2, so, b1, b201, ob⟩
        have li : i < xs.length := (List.getElem?_eq_some_iff.mp hv).1
        have er : rs[i]? = some rs[i] := List.getElem?_eq_getElem (by omega)
        have hq := its i v rs[i] hv er
        have nn := all rs[i] (List.getElem_mem _)
        have ed : rs.drop i = rs[i] :: rs.drop (i + 1) := List.drop_eq_getElem_cons (by omega)
        rw [ed] at ob
        generalize rs[i] = r at hq ob nn
        cases hq.same s2 with
        | @tri t s f g ht =>
          refine ⟨t, _, rfl, L2.st_of ht, rfl, _, _, rfl, _, _, rfl, _, _, rfl, rfl, ?_⟩
          have lb : (bs.map V.int).length = bs.length := List.length_map _
          have tk : cutV (bs.map V.int) none (some (-2)) = (bs.take (bs.length - 2)).map V.int := by
            by_cases c2 : 2 ≤ bs.length
            · rw [cut_two _ (by rw [lb]; exact c2), lb, List.map_take]
            · match bs, b1, c2 with
              | [x], _, _ => rfl
              | x :: y :: r, _, c2 => exact absurd (by simp) c2
          refine ⟨_, rfl, _, rfl, _, rfl, _, rfl, B, _, rfl, L2.sq_of h2, fun C hC => ?_⟩
          rw [tk]
          have s3 := same_upd (o := .lst ((bs.take (bs.length - 2)).map V.int)) hC
          have h3 := s3 _ _ h2
          have s03 := s2.trans s3
          refine ⟨C, _, rfl, .inl (L2.sq_of upd_same), rfl, flat_ints _, ?_⟩
          generalize upd H2 C (.lst ((bs.take (bs.length - 2)).map V.int)) = H3 at h3 s03 ⊢
          rw [if_pos rfl, inV_ints]
          by_cases c : s ∈ bs.take (bs.length - 2)
          case neg =>
            refine ⟨true, by rw [decide_eq_false c]; rfl, iteT ?_⟩
            refine q false _ ⟨(fun z => by cases z), fun z => ?_⟩ s03
            obtain ⟨p', m, e, q', eb⟩ := obey_at (ob.mpr z)
            exact absurd (in_take.mpr ⟨p', m, e, q', eb⟩) c
          refine ⟨false, by rw [decide_eq_true c]; rfl, iteF ?_⟩
          obtain ⟨pp, m, e, qq, rfl⟩ := in_take.mp c
          have pl : pp.length + 3 ≤ 201 := by simp only [List.length_append, List.length_cons] at b201; omega
          have os := obey_some (f := f) (g := g) (rs := rs.drop (i + 1)) so
          have g0 : ((pp ++ s :: m :: e :: qq).map V.int)[pp.length]? = some (.int s) := by rw [List.getElem?_map, List.getElem?_append_right (Nat.le_refl _), Nat.sub_self]; rfl
          have g1 : ((pp ++ s :: m :: e :: qq).map V.int)[pp.length + 1]? = some (.int m) := by rw [List.getElem?_map, List.getElem?_append_right (by omega), show pp.length + 1 - pp.length = 1 by omega]; rfl
          have g2 : ((pp ++ s :: m :: e :: qq).map V.int)[pp.length + 2]? = some (.int e) := by rw [List.getElem?_map, List.getElem?_append_right (by omega), show pp.length + 2 - pp.length = 2 by omega]; rfl
          refine ⟨_, rfl, .inl ⟨rfl, _, L2.sq_of h3⟩, _, rfl, B, _, _, pp.length, _, rfl, rfl, L2.sq_of h3, rfl, flat_ints _, g0, eqV_same _, fun k z hk hz => ?_, ?_⟩
          · rw [List.getElem?_map, List.getElem?_append_left hk, List.getElem?_eq_getElem hk] at hz
            rw [← Option.some.inj hz]
            have := (List.pairwise_append.mp so).2.2 pp[k] (List.getElem_mem _) s (by simp)
            exact eqV_ne (by omega)
          have aI : ∀ {k : Nat} {x : V} {j : Int}, ((pp ++ s :: m :: e :: qq).map V.int)[k]? = some x → j = (k : Int) → atI ((pp ++ s :: m :: e :: qq).map V.int) j = some x := fun h e => by rw [e]; exact atI_nat h
          refine ⟨_, rfl, _, rfl, _, _, rfl, rfl, B, _, _, _, rfl, rfl, L2.sq_of h3, aI g1 (by omega), _, rfl, _, _, rfl, rfl, _, rfl, ?_⟩
          by_cases c1 : m - s = f
          case neg =>
            refine ⟨rfl, true, by rw [decide_eq_false (fun z => c1 (V.int.inj z))]; rfl, iteT (iteT ?_)⟩
            exact q false _ ⟨(fun z => by cases z), fun z => absurd (os.mp (ob.mpr z)).1 c1⟩ s03
          refine ⟨rfl, false, by rw [decide_eq_true (congrArg V.int c1)]; rfl, iteF ?_⟩
          refine ⟨_, rfl, _, rfl, _, _, rfl, rfl, B, _, _, _, rfl, rfl, L2.sq_of h3, aI g2 (by omega), _, rfl, _, rfl, _, _, rfl, rfl, B, _, _, _, rfl, rfl, L2.sq_of h3, aI g1 (by omega), _, _, rfl, rfl, _, rfl, ?_⟩
          by_cases c2 : e - m = g
          case neg =>
            refine ⟨rfl, true, by rw [decide_eq_false (fun z => c2 (V.int.inj z))]; rfl, iteT ?_⟩
            exact q false _ ⟨(fun z => by cases z), fun z => absurd (os.mp (ob.mpr z)).2.1 c2⟩ s03
          refine ⟨rfl, false, by rw [decide_eq_true (congrArg V.int c2)]; rfl, iteF ?_⟩
          refine ⟨_, rfl, .inl ⟨rfl, _, L2.sq_of h3⟩, _, rfl, _, _, rfl, rfl, B, _, _, pp.length + 1, _, rfl, rfl, h3, by omega, by omega, idx_nat (by omega) (by rw [List.length_map]; simp), g1, ?_⟩
          have ee : ((pp ++ s :: m :: e :: qq).map V.int).eraseIdx (pp.length + 1) = (pp ++ s :: e :: qq).map V.int := by
            rw [List.map_append, List.eraseIdx_append_of_length_le (by rw [List.length_map]; omega), List.length_map, show pp.length + 1 - pp.length = 1 by omega, List.map_append]
            rfl
          rw [ee]
          have hB0 : H B = none := hB
          refine ⟨⟨_, _, _, _, rfl⟩, fun b o eb => ?_, _, upd_same, so.drop1, by simp only [List.length_append, List.length_cons]; omega, by simp only [List.length_append, List.length_cons] at b201 ⊢; omega, ?_⟩
          · rw [upd_ne (ne_of_none eb hB0)]
            exact s03 _ _ eb
          · rw [← ob, os]
            exact ⟨fun z => ⟨c1, c2, z⟩, fun z => z.2.2⟩
        | _ => exact absurd rfl nn
      · rintro σ H2 ⟨⟨u3, u4, u5, u6, rfl⟩, s2, bs, h2, so, b1, b201, ob⟩
        rw [lx, List.drop_length] at ob
        refine ⟨_, rfl, B, _, rfl, .inl (L2.sq_of h2), rfl, ?_⟩
        refine q _ _ ?_ s2
        rw [← ob]
        constructor
        · intro z
          have := V.int.inj (of_decide_eq_true z)
          rw [List.length_map] at this
          exact .nil (by omega)
        · intro z
          have := obey_len z
          refine decide_eq_true (congrArg V.int ?_)
          rw [List.length_map, this]
          rfl
theorem lone_kits {K : PySem.W.Frag} {H : Hp} {v : V} {d : PyData} (l : Lone v d) : ∃ T b1 b2, TyX K H v (.type T) ∧ PySem.W.kitOne K (.type T) (.type "bool") = some b1 ∧ PySem.W.kitOne K (.type T) (.type "int") = some b2 ∧ isI v = (!b1 && b2) := by
  cases l with
  | non => exact ⟨_, false, false, .base .non, kit_ty (by decide +kernel), kit_ty (by decide +kernel), rfl⟩
  | bl b => exact ⟨_, true, true, .base (.bl b), kit_ty (by decide +kernel), kit_ty (by decide +kernel), rfl⟩
  | int i => exact ⟨_, false, true, .base (.int i), kit_ty (by decide +kernel), kit_ty (by decide +kernel), rfl⟩
  | str x h => exact ⟨_, false, false, .base (.str x), kit_ty (by decide +kernel), kit_ty (by decide +kernel), rfl⟩
theorem odds_snoc {xs : List V} {v : V} : odds (xs ++ [v]) = odds xs ++ if isI v = true then [] else [v] := by
  unfold odds
  rw [List.filter_append]
  congr 1
  cases e : isI v <;> simp [e]
theorem ok_is_row (T : Txt K mg a d) : FnOk P w K mg base CX0 1 a.is_row d.is_row P_is_row spIsRow := by
  refine T.f_is_row.ok sc_is_row (fun vs H Q E h => ?_) (fun cdv A outer s0 H vs Q E hr h => ?_)
  · obtain ⟨p0, v, r, rfl, _⟩ := h
    rfl
  · obtain ⟨p0, v, r, rfl, hv, q⟩ := h
    refine ⟨_, (pss_cons (ps_if (pt_not (pt_val (pe_callB call_isiT (by rfl) T.z_isinstance (by decide +kernel) (pa_cons (pv 0) (pa_cons (pe_tup (pa_cons (pe_bltn (v := .ty "list") (u := .type "list") (by rfl) T.z_list (by decide +kernel) rfl) (pa_cons (pe_bltn (v := .ty "tuple") (u := .type "tuple") (by rfl) T.z_tuple (by decide +kernel) rfl) pa_nil))) pa_nil))))) (pss_one (ps_ret pe_bl)) pss_nil)
    (pss_cons (ps_for PassesOwn.never rfl (pi_lt (pv 0)) (pg_name (i := 1) sc_is_row.nd rfl (Or.inl rfl))
      (pss_cons (ps_if (PW.pt (pw_or (pt_not (pt_val (pe_callB call_isi (by rfl) T.z_isinstance (by decide +kernel) (pa_cons (pv 1) (pa_cons (pe_bltn (v := .ty "tuple") (u := .type "tuple") (by rfl) T.z_tuple (by decide +kernel) rfl) pa_nil))))) (pw_or1 (pt_cmpR op_ne (pe_callB call_len_seq (by rfl) T.z_len PySem.boot_len (pa_cons (pv 1) pa_nil)) pe_int (nomark _))))) (pss_one (ps_ret pe_bl)) pss_nil)
        (pss_one (ps_if (pt_cmpR (op_neD hr.units) (pe_lc (own := [("part", 2)]) (g := gName 2)  rfl sc_is_row.nd (pi_tup (pv 1)) (blkOk_by (N := N_is_row) (sc := defScope s_is_row) (by decide +kernel)) (fun _ _ _ _ _ => pg_name (i := 2) sc_is_row.nd rfl (Or.inl rfl)) (fun _ _ _ _ _ => (pts_one (PW.pt (pw_or (pt_val (pe_callB (show CallR _ _ (rIsi K) from call_isi) (by rfl) T.z_isinstance (by decide +kernel) (pa_cons (pv 2) (pa_cons (pe_bltn (v := .ty "bool") (u := .type "bool") (by rfl) T.z_bool (by decide +kernel) rfl) pa_nil)))) (pw_or1 (pt_not (pt_val (pe_callB (show CallR _ _ (rIsi K) from call_isi) (by rfl) T.z_isinstance (by decide +kernel) (pa_cons (pv 2) (pa_cons (pe_bltn (v := .ty "int") (u := .type "int") (by rfl) T.z_int (by decide +kernel) rfl) pa_nil)))))))))) (fun _ _ _ _ _ => (pv 2))) (pe_lst pa_nil) (nomark _)) (pss_one (ps_ret pe_bl)) pss_nil))))
    (pss_one (ps_ret pe_bl)))), ?_⟩
    refine ⟨_, rfl, by show 2 ≤ sizeLine; decide, fun tp htp => ?_⟩
    have s1 : Same H (upd H tp (.tup [.ty "list", .ty "tuple"])) := same_upd htp
    have hT1 : upd H tp (.tup [.ty "list", .ty "tuple"]) tp = some (.tup [.ty "list", .ty "tuple"]) := upd_same
    generalize upd H tp (.tup [.ty "list", .ty "tuple"]) = H1 at s1 hT1 ⊢
    have cs : Paired ClsV [.ty "list", .ty "tuple"] [.type "list", .type "tuple"] := .cons (.ty _) (.cons (.ty _) .nil)
    cases hv with
    | odd h n1 n2 _ =>
      refine ⟨v, tp, _, _, _, false, rfl, hT1, cs, (h.same s1).ty, anyRow h n1 n2, false, rfl, iteT ?_⟩
      exact q false _ ⟨(fun z => by cases z), fun ⟨_, z, _⟩ => by cases z⟩ s1
    | @row l xs rs hx np lx l2 its =>
      have hx1 := hx.same s1
      obtain ⟨t, hty, hkit⟩ : ∃ t, TyX K H1 (.ref l) t ∧ PySem.W.kitAny K t [.type "list", .type "tuple"] = some true := by
        rcases hx1 with h | h
        · exact ⟨_, .base (.lst h), kitAny_cons (b := true) (kit_ty (by decide +kernel)) (fun z => nomatch z) (fun _ => rfl)⟩
        · exact ⟨_, .base (.tup h), kitAny_cons (b := false) (kit_ty (by decide +kernel)) (fun _ => kitAny_cons (b := true) (kit_ty (by decide +kernel)) (fun z => nomatch z) (fun _ => rfl)) (fun z => nomatch z)⟩
      refine ⟨.ref l, tp, _, t, _, true, rfl, hT1, cs, hty, hkit, true, rfl, iteF ?_⟩
      refine ⟨_, rfl, l, xs, rfl, ?_⟩
      refine for_lt (K := K) (a := l) (xs := xs) (fun i σ H' => (∃ (u1 u2 : Option V), σ = [some (.ref l), u1, u2]) ∧ Same H H' ∧ ∀ (k : Nat) (x : Option Tri), k < i → rs[k]? = some x → x ≠ none)
        ⟨⟨_, _, rfl⟩, s1, fun k x hk => absurd hk (Nat.not_lt_zero _)⟩ ?_ ?_ ?_
      · rcases hx with hl | ht
        · exact .inl fun i σ' H' ⟨_, s, _⟩ => L2.sq_of (s _ _ hl)
        · exact .inr fun i σ' H' ⟨_, s, _⟩ => L2.st_of (s _ _ ht)
      · rintro i v σ H2 hv ⟨⟨u1, u2, rfl⟩, s2, so⟩
        have li : i < xs.length := (List.getElem?_eq_some_iff.mp hv).1
        have er : rs[i]? = some rs[i] := List.getElem?_eq_getElem (by omega)
        have hq := its i v rs[i] hv er
        have bad : rs[i] = none → Q (.bl false) H2 := fun z => q false _ ⟨(fun z => by cases z), fun ⟨rs', e, all⟩ => by
          rw [← Option.some.inj e] at all
          exact absurd z (all _ (List.getElem_mem _))⟩ s2
        have bad2 : ∀ {H'}, Same H2 H' → rs[i] = none → Q (.bl false) H' := fun s' z => q false _ ⟨(fun z => by cases z), fun ⟨rs', e, all⟩ => by
          rw [← Option.some.inj e] at all
          exact absurd z (all _ (List.getElem_mem _))⟩ (s2.trans s')
        generalize rs[i] = ri at hq er bad bad2
        -- the comprehension
        have comp : ∀ {t : Addr} {x y z : V} {dx dy dz : PyData} {R : VK}, H2 t = some (.tup [x, y, z]) → Lone x dx → Lone y dy → Lone z dz → (∀ D H', H2 D = none → Same H2 H' → H' D = some (.lst (odds [x, y, z])) → R (.ref D) H') →
            tLc (iTup K (tVar 1)) (gName 2) (tOr (tB (tCB (rIsi K) (tCons (tVar 2) (tCons (tC (V.ty "bool")) tNil)))) (tNot (tB (tCB (rIsi K) (tCons (tVar 2) (tCons (tC (V.ty "int")) tNil)))))) (tVar 2) (List.map (fun x => x.snd) [((Str.ofString "part"), 2)]) [some (.ref l), some (.ref t), u2] H2 R := fun {t x y z dx dy dz R} ht l1 l2 l3 fin => by
          refine ⟨_, rfl, t, rfl, ⟨_, L2.st_of ht⟩, fun D hD => ?_⟩
          refine lc_tup (K := K) (a := t) (xs := [x, y, z]) (fun i H' => Same H2 H' ∧ H' D = some (.lst (odds (([x, y, z] : List V).take i)))) ⟨same_upd hD, upd_same⟩ (fun i H' _ h => L2.st_of (h.1 _ _ ht)) ?_ ?_
          · rintro i v H3 hv ⟨s3, h3⟩
            have lv : ∃ d, Lone v d := by
              rcases i with _ | _ | _ | i
              · obtain rfl := Option.some.inj hv; exact ⟨_, l1⟩
              · obtain rfl := Option.some.inj hv; exact ⟨_, l2⟩
              · obtain rfl := Option.some.inj hv; exact ⟨_, l3⟩
              · simp at hv
            obtain ⟨d, ld⟩ := lv
            obtain ⟨T, b1, b2, ty, k1, k2, ei⟩ := lone_kits (K := K) (H := H3) ld
            have lo : (odds (([x, y, z] : List V).take i)).length < sizeLine := by
              have := List.length_filter_le (fun v => !isI v) (([x, y, z] : List V).take i)
              rw [List.length_take] at this
              exact Nat.lt_of_le_of_lt (Nat.le_trans this (Nat.min_le_right _ _)) (by show 3 < sizeLine; decide)
            have tk : ([x, y, z] : List V).take (i + 1) = ([x, y, z] : List V).take i ++ [v] := by rw [List.take_add_one, hv]; rfl
            have inn : isI v = false → ∃ acc, H3 D = some (.lst acc) ∧ acc.length < sizeLine ∧ Same H2 (upd H3 D (.lst (acc ++ [v]))) ∧ upd H3 D (.lst (acc ++ [v])) D = some (.lst (odds (([x, y, z] : List V).take (i + 1)))) := fun e => by
              refine ⟨_, h3, lo, fun b o h => ?_, ?_⟩
              · rw [upd_ne (ne_of_none h hD)]
                exact s3 _ _ h
              · rw [upd_same, tk, odds_snoc, e]
                rfl
            have outt : isI v = true → Same H2 H3 ∧ H3 D = some (.lst (odds (([x, y, z] : List V).take (i + 1)))) := fun e => by
              refine ⟨s3, ?_⟩
              rw [h3, tk, odds_snoc, e]
              simp
            refine ⟨rfl, _, rfl, v, .ty "bool", _, .type "bool", b1, rfl, .ty _, ty, k1, b1, rfl, ?_⟩
            cases b1 with
            | true =>
              refine iteT (iteT ⟨_, rfl, ?_⟩)
              exact inn (by rw [ei]; rfl)
            | false =>
              refine iteF ⟨_, rfl, v, .ty "int", _, .type "int", b2, rfl, .ty _, ty, k2, b2, rfl, ?_⟩
              cases b2 with
              | true => exact iteF (outt (by rw [ei]; rfl))
              | false => exact iteT ⟨_, rfl, inn (by rw [ei]; rfl)⟩
          · rintro H3 ⟨s3, h3⟩
            exact fin D H3 hD s3 h3
        cases hq.same s2 with
        | odd h n _ =>
          refine ⟨_, rfl, v, .ty "tuple", _, .type "tuple", false, rfl, .ty _, h.ty, (anyTup h).trans (congrArg some (decide_eq_false n)), false, rfl, iteT (iteT ?_)⟩
          exact bad rfl
        | @len t xs' h n _ =>
          refine ⟨_, rfl, .ref t, .ty "tuple", _, .type "tuple", true, rfl, .ty _, .base (.tup h), kit_ty (by decide +kernel), true, rfl, iteF ?_⟩
          refine ⟨_, rfl, t, _, rfl, .inr (L2.st_of h), rfl, true, ?_, iteT ?_⟩
          · refine congrArg V.bl ?_
            rw [decide_eq_false (fun z => n (by have := V.int.inj z; omega))]
            rfl
          · exact bad rfl
        | @part t x y z dx dy dz h lx' ly lz n =>
          refine ⟨_, rfl, .ref t, .ty "tuple", _, .type "tuple", true, rfl, .ty _, .base (.tup h), kit_ty (by decide +kernel), true, rfl, iteF ?_⟩
          refine ⟨_, rfl, t, _, rfl, .inr (L2.st_of h), rfl, false, rfl, iteF ?_⟩
          unfold tNext tIfS tTest tOp
          dsimp only
          refine comp h lx' ly lz fun D H3 hD s3 h3 => ?_
          refine ⟨by show 0 ≤ sizeLine; decide, fun e he => ?_⟩
          have s4 := same_upd (o := .lst []) he
          obtain ⟨dd, e1, e2, e3⟩ := dp_odds (K := K) lx' ly lz (s4 _ _ h3) n
          refine ⟨_, _, e1, .lst (ds := []) (L2.sq_of upd_same) .nil, e2, by decide +kernel, true, by rw [e3]; rfl, iteT ?_⟩
          exact bad2 (s3.trans s4) rfl
        | @tri t s f g h =>
          refine ⟨_, rfl, .ref t, .ty "tuple", _, .type "tuple", true, rfl, .ty _, .base (.tup h), kit_ty (by decide +kernel), true, rfl, iteF ?_⟩
          refine ⟨_, rfl, t, _, rfl, .inr (L2.st_of h), rfl, false, rfl, iteF ?_⟩
          unfold tNext tIfS tTest tOp
          dsimp only
          refine comp h (.int s) (.int f) (.int g) fun D H3 hD s3 h3 => ?_
          refine ⟨by show 0 ≤ sizeLine; decide, fun e he => ?_⟩
          have s4 := same_upd (o := .lst []) he
          refine ⟨.list [], .list [], .lst (L2.sq_of (s4 _ _ h3)) .nil, .lst (L2.sq_of upd_same) .nil, by decide +kernel, by decide +kernel, false, rfl, iteF ?_⟩
          refine ⟨⟨_, _, rfl⟩, s2.trans (s3.trans s4), fun k x hk e => ?_⟩
          rcases Nat.lt_or_ge k i with z | z
          · exact so k x z e
          · have : k = i := by omega
            subst this
            rw [er] at e
            rw [← Option.some.inj e]
            exact fun z => by cases z
      · rintro σ H2 ⟨⟨u1, u2, rfl⟩, s2, so⟩
        refine q true _ ⟨fun _ => ⟨rs, rfl, fun x hx => ?_⟩, fun _ => rfl⟩ s2
        obtain ⟨k, hk⟩ := List.getElem?_of_mem hx
        exact so k x (by have := (List.getElem?_eq_some_iff.mp hk).1; omega) hk
end

end K38

namespace K38
open PySem PySem.Spec PyProof.Rows L2 
theorem stt_all (ls : List Nat) : Pile.stt ls ls.length = ls.sum := by
  unfold Pile.stt
  rw [List.take_length]
section
variable {P : Program} {w : World} {K : PySem.W.Frag} {mg : Str → Option Value} {base : Heap} {a : Ad} {d : Fd}
theorem ok_piled (T : Txt K mg a d) : FnOk P w K mg base CX0 2 a.piled d.piled P_piled spPiled := by
  have G_starts : FnOk P w K mg base CX0 1 a.starts d.starts P_starts spStarts := ok_starts T
  have G_level : FnOk P w K mg base CX0 1 a.level d.level P_level spLevel := ok_llevel T
  have G_note : FnOk P w K mg base CX0 1 a.note d.note P_note spNote := ok_note T
  refine T.f_piled.ok sc_piled (fun vs H Q E h => ?_) (fun cdv A outer s0 H vs Q E hr h => ?_)
  · obtain ⟨p, ls, rfl, _⟩ := h
    rfl
  · obtain ⟨p, ls, rfl, hp, ok, q⟩ := h
    refine ⟨_, (pss_cons (ps_asg (pe_tup (pa_cons (pe_call G_starts (hr.mono (by decide)) (by rfl) T.g_starts T.k_starts T.b_starts .nil pass0 (pa_cons (pv 0) pa_nil)) (pa_cons (pe_lst pa_nil) (pa_cons (pe_lst pa_nil) (pa_cons (pe_lst pa_nil) pa_nil))))) (pg_tup rfl (pgs_cons (pg_name (i := 1) sc_piled.nd rfl (Or.inl rfl)) (pgs_cons (pg_name (i := 2) sc_piled.nd rfl (Or.inl rfl)) (pgs_cons (pg_name (i := 3) sc_piled.nd rfl (Or.inl rfl)) (pgs_cons (pg_name (i := 4) sc_piled.nd rfl (Or.inl rfl)) pgs_nil))))))
    (pss_cons (ps_for PassesOwn.never rfl (pi_enumA (by rfl) T.z_enumerate (pa_cons (pv 0) pa_nil)) (pg_tup rfl (pgs_cons (pg_name (i := 5) sc_piled.nd rfl (Or.inl rfl)) (pgs_cons (pg_name (i := 6) sc_piled.nd rfl (Or.inl rfl)) pgs_nil)))
      (pss_cons (ps_if (pt_cmpR op_gt (pv 5) pe_int (nomark _)) (pss_cons (ps_set (i := 7) sc_piled.nd rfl (Or.inl rfl) (pe_call G_level (hr.mono (by decide)) (by rfl) T.g_level T.k_level T.b_level .nil pass0 (pa_cons (pe_ix ix_list (pv 1) (pe_op op_sub (pv 5) pe_int) (fun _ _ => rfl)) (pa_cons (pe_ix ix_list (pv 0) (pe_op op_sub (pv 5) pe_int) (fun _ _ => rfl)) (pa_cons (pv 6) (pa_cons (pe_ix ix_list (pv 1) (pe_un un_neg pe_int) (fun _ _ => rfl)) pa_nil))))))
          (pss_cons (ps_while PassesOwn.never (PW.pt (pw_and (pt_cmpR op_gt (pe_callB call_len_seq (by rfl) T.z_len PySem.boot_len (pa_cons (pv 2) pa_nil)) pe_int (nomark _)) (pw_and1 (pt_cmpR op_gt (pe_ix ix_tup (pe_ix ix_list (pv 2) (pe_un un_neg pe_int) (fun _ _ => rfl)) pe_int (fun _ _ => rfl)) (pv 7) (nomark _)))))
            (pss_one (ps_expr (pe_call G_note (hr.mono (by decide)) (by rfl) T.g_note T.k_note T.b_note .nil pass0 (pa_cons (pv 2) (pa_cons (pv 3) (pa_cons (pe_op op_sub (pe_callB call_len_seq (by rfl) T.z_len PySem.boot_len (pa_cons (pv 2) pa_nil)) pe_int) pa_nil)))))))
          (pss_one (ps_asg (pe_op op_catA (pe_slice sl_tup (pe_ix ix_list (pv 2) (pe_un un_neg pe_int) (fun _ _ => rfl)) po_none (po_some pe_int)) (pe_tup (pa_cons (pv 7) pa_nil))) (pg_sub (pv 2) (pe_un un_neg pe_int) set_list))))) pss_nil)
        (pss_cons (ps_expr (pe_bm PySem.F.plainAttrs_list PySem.F.slot_list_append PySem.F.type_list_append mt_append (pv 2) (pa_cons (pe_tup (pa_cons (pe_ix ix_list (pv 1) (pv 5) (fun _ _ => rfl)) (pa_cons (pv 6) (pa_cons pe_non pa_nil)))) pa_nil)))
        (pss_one (ps_expr (pe_bm PySem.F.plainAttrs_list PySem.F.slot_list_append PySem.F.type_list_append mt_append (pv 4) (pa_cons (pe_callTy call_list_of (by rfl) T.z_list (by decide +kernel) (pa_cons (pv 2) pa_nil)) pa_nil)))))))
    (pss_cons (ps_set (i := 8) sc_piled.nd rfl (Or.inl rfl) (pe_callB call_len_seq (by rfl) T.z_len PySem.boot_len (pa_cons (pv 3) pa_nil)))
    (pss_cons (ps_while PassesOwn.never (pt_cmpR op_gt (pe_callB call_len_seq (by rfl) T.z_len PySem.boot_len (pa_cons (pv 2) pa_nil)) pe_int (nomark _))
      (pss_cons (ps_set (i := 9) sc_piled.nd rfl (Or.inl rfl) (pe_op op_sub (pe_callB call_len_seq (by rfl) T.z_len PySem.boot_len (pa_cons (pv 2) pa_nil)) pe_int))
        (pss_cons (ps_if (PW.pt (pw_and (pt_cmpR op_gt (pv 9) pe_int (nomark _)) (pw_and1 (pt_cmpR op_lt (pe_ix ix_tup (pe_ix ix_list (pv 2) (pe_op op_sub (pv 9) pe_int) (fun _ _ => rfl)) pe_int (fun _ _ => rfl)) (pe_ix ix_tup (pe_ix ix_list (pv 2) (pe_op op_add (pv 9) pe_int) (fun _ _ => rfl)) pe_int (fun _ _ => rfl)) (nomark _))))) (pss_one (ps_set (i := 9) sc_piled.nd rfl (Or.inl rfl) (pe_op op_sub (pv 9) pe_int))) pss_nil)
        (pss_one (ps_expr (pe_call G_note (hr.mono (by decide)) (by rfl) T.g_note T.k_note T.b_note .nil pass0 (pa_cons (pv 2) (pa_cons (pv 3) (pa_cons (pv 9) pa_nil)))))))))
    (pss_one (ps_ret (pe_tup (pa_cons (pv 4) (pa_cons (pe_slice sl_list (pv 3) po_none (po_some (pv 8))) (pa_cons (pe_slice sl_list (pv 3) (po_some (pv 8)) po_none) pa_nil)))))))))), ?_⟩
    have l200 := ok.l1
    refine ⟨_, rfl, p, ls, rfl, hp, by omega, fun sl H1 S1 slN hsl => ⟨Nat.zero_le _, fun r hr0 => ⟨Nat.zero_le _, fun am ham => ⟨Nat.zero_le _, fun sk hsk => ⟨by show 4 ≤ sizeLine; decide, fun t ht => ?_⟩⟩⟩⟩⟩
    have nar : am ≠ r := fun e => by rw [e, upd_same] at ham; cases ham
    have ham1 : H1 am = none := by rw [upd_ne nar] at ham; exact ham
    have nsa : sk ≠ am := fun e => by rw [e, upd_same] at hsk; cases hsk
    rw [upd_ne nsa] at hsk
    have nsr : sk ≠ r := fun e => by rw [e, upd_same] at hsk; cases hsk
    have hsk1 : H1 sk = none := by rw [upd_ne nsr] at hsk; exact hsk
    have hsk2 : upd (upd H1 r (.lst [])) am (.lst []) sk = none := by rw [upd_ne nsa]; exact hsk
    have sA : Same H1 (upd (upd (upd H1 r (.lst [])) am (.lst [])) sk (.lst [])) := ((same_upd hr0).trans (same_upd ham)).trans (same_upd hsk2)
    have q1 : upd (upd (upd H1 r (.lst [])) am (.lst [])) sk (.lst []) r = some (.lst []) := by rw [upd_ne nsr.symm, upd_ne nar.symm]; exact upd_same
    have q2 : upd (upd (upd H1 r (.lst [])) am (.lst [])) sk (.lst []) am = some (.lst []) := by rw [upd_ne nsa.symm]; exact upd_same
    have q3 : upd (upd (upd H1 r (.lst [])) am (.lst [])) sk (.lst []) sk = some (.lst []) := upd_same
    generalize upd (upd (upd H1 r (.lst [])) am (.lst [])) sk (.lst []) = H2 at sA q1 q2 q3 ht ⊢
    have p0 : Pl H1 H2 r sk am ls.sum ls ([], []) 0 := ⟨sA, hr0, hsk1, ham1, nsr.symm, nar.symm, nsa, ⟨[], q1, rfl, fun i v c h => by simp at h⟩, ⟨[], q2, rfl, fun i v j h => by simp at h⟩, ⟨[], q3, rfl, fun i v h => by simp at h⟩⟩
    have p1 := p0.same (same_upd (o := .tup [.ref sl, .ref r, .ref am, .ref sk]) ht)
    refine ⟨t, _, rfl, L2.st_of upd_same, rfl, _, _, rfl, _, _, rfl, _, _, rfl, _, _, rfl, rfl, ?_⟩
    generalize upd H2 t (.tup [.ref sl, .ref r, .ref am, .ref sk]) = H3 at p1 ⊢
    have hp1 := S1 _ _ hp
    refine ⟨_, rfl, p, nV ls, rfl, .inl ⟨L2.sq_of (p1.keep _ _ hp1), ?_⟩⟩
    have ln : (nV ls).length = ls.length := List.length_map _
    refine for_iteL (K := K) (a := p) (xs := nV ls) (fun i σ H' => (∃ u5 u6 u7, σ = [some (.ref p), some (.ref sl), some (.ref r), some (.ref am), some (.ref sk), u5, u6, u7, none, none]) ∧ Pl H1 H' r sk am ls.sum ls (Pile.sts ls.sum ls i) i) ⟨⟨_, _, _, rfl⟩, p1⟩ (fun i σ H' _ h => L2.sq_of (h.2.keep _ _ hp1)) ?_ ?_
    · rintro i y σ H4 Tp hy ⟨⟨u5, u6, u7, rfl⟩, P4⟩ hn
      obtain ⟨n, rfl, hn1, hn2, hn3, hlt⟩ := nV_item hy
      have P5 := P4.same (same_upd (o := .tup [.int (i : Nat), .int (n : Int)]) hn)
      refine ⟨Tp, _, rfl, L2.st_of upd_same, rfl, _, _, rfl, _, _, rfl, rfl, ?_⟩
      generalize upd H4 Tp (.tup [.int (i : Nat), .int (n : Int)]) = H5 at P5 ⊢
      obtain ⟨v1, v2, v3⟩ := Pile.sts_inv (w := ls.sum) (ls := ls) i (by omega)
      have n1 := ok.pos n hn3
      have est := Pile.stt_succ hlt
      rw [hn2] at est
      have sumle : Pile.stt ls (i + 1) ≤ ls.sum := by
        rw [← stt_all]
        exact Pile.stt_le ok.pos hlt (Nat.le_refl _)
      have es0 : Pile.sts ls.sum ls (i + 1) = Pile.step ls.sum (Pile.stt ls i) (Pile.sts ls.sum ls i) n := by
        rw [← hn2]
        rfl
      by_cases h0 : i = 0
      case' pos =>
        refine ⟨_, rfl, _, _, rfl, rfl, false, congrArg V.bl (decide_eq_false (by omega)), iteF ?_⟩
        have ep : (Pile.sts ls.sum ls i).1 = [] := by rw [h0]; rfl
        obtain ⟨ps1, js1, Pq, eq1, lq1⟩ : ∃ ps1 js1, Pl H1 H5 r sk am ls.sum ls (ps1, js1) i ∧ Pile.sts ls.sum ls (i + 1) = (ps1 ++ [⟨Pile.stt ls i, n, none⟩], js1) ∧ ps1.length ≤ 200 := by
          refine ⟨_, _, P5, ?_, by omega⟩
          rw [es0]
          unfold Pile.step Pile.brd
          rw [ep]
          rfl
        generalize H5 = H6 at Pq ⊢
      case' neg =>
        refine ⟨_, rfl, _, _, rfl, rfl, true, congrArg V.bl (decide_eq_true (by omega)), iteT ?_⟩
        obtain ⟨m, rfl⟩ : ∃ m, i = m + 1 := ⟨i - 1, by omega⟩
        have em : ((m + 1 : Nat) : Int) - 1 = (m : Int) := by omega
        have hp5 := P5.keep _ _ hp1
        have hsl5 := P5.keep _ _ hsl
        have slast := Pile.sts_last (w := ls.sum) (ls := ls) (k := m)
        have est0 := Pile.stt_succ (ls := ls) (i := m) (by omega)
        have lm := Pile.getD_pos ok.pos (i := m) (by omega)
        refine ⟨_, rfl, _, rfl, _, _, rfl, rfl, sl, _, _, .int ((Pile.stt ls m : Nat) : Int), rfl, rfl, L2.sq_of hsl5, by rw [em]; exact atI_nat (starts_get (by omega)), ?_⟩
        refine ⟨_, rfl, _, rfl, _, _, rfl, rfl, p, _, _, .int ((ls.getD m 0 : Nat) : Int), rfl, rfl, L2.sq_of hp5, by rw [em]; exact atI_nat (nV_at (by omega)), _, rfl, ?_⟩
        refine ⟨_, rfl, _, rfl, sl, _, _, .int ((ls.sum : Nat) : Int), rfl, rfl, L2.sq_of hsl5, atI_back (k := 1) (by decide) (by rw [starts_len]; omega) (by rw [starts_len, ← stt_all]; exact starts_get (by omega)), Pile.stt ls m, ls.getD m 0, n, ls.sum, rfl, by omega, by omega, ok.top, ?_⟩
        have hbr : Pile.brd ls.sum (Pile.sts ls.sum ls (m + 1)).1 n = some (Lv.lev (2 * ls.sum) (2 * Pile.stt ls m + ls.getD m 0) (ls.getD m 0 + n)) := by
          unfold Pile.brd
          rw [slast]
          rfl
        generalize Lv.lev (2 * ls.sum) (2 * Pile.stt ls m + ls.getD m 0) (ls.getD m 0 + n) = b at hbr ⊢
        refine while_to (fun σ H' => ∃ s', σ = [some (.ref p), some (.ref sl), some (.ref r), some (.ref am), some (.ref sk), some (.int ((m + 1 : Nat) : Int)), some (.int (n : Int)), some (.int (b : Int)), none, none] ∧ Pl H1 H' r sk am ls.sum ls s' (m + 1) ∧ Pile.Inv s'.1 (ls.take (m + 1)).sum ∧ s'.1.length ≤ m + 1 ∧ s'.2.length + s'.1.length ≤ m + 1 ∧ s'.1 ≠ [] ∧ Pile.room b s'.1.length s' = Pile.room b (Pile.sts ls.sum ls (m + 1)).1.length (Pile.sts ls.sum ls (m + 1)))
          (fun σ H' => σ = [some (.ref p), some (.ref sl), some (.ref r), some (.ref am), some (.ref sk), some (.int ((m + 1 : Nat) : Int)), some (.int (n : Int)), some (.int (b : Int)), none, none] ∧ Pl H1 H' r sk am ls.sum ls (Pile.room b (Pile.sts ls.sum ls (m + 1)).1.length (Pile.sts ls.sum ls (m + 1))) (m + 1) ∧ (Pile.room b (Pile.sts ls.sum ls (m + 1)).1.length (Pile.sts ls.sum ls (m + 1))).1.length ≤ m + 1 ∧ (Pile.room b (Pile.sts ls.sum ls (m + 1)).1.length (Pile.sts ls.sum ls (m + 1))).1 ≠ [])
          (fun _ H' => lenAt H' r) ⟨Pile.sts ls.sum ls (m + 1), rfl, P5, v1, v2, Nat.le_of_eq (Pile.sts_cnt (m + 1)), fun z => absurd (v3 z) (by omega), rfl⟩ ?_ ?_ ?_
        · rintro σ H6 ⟨s', rfl, P6, v6, l6, c6, ne6, e6⟩
          obtain ⟨ts6, hts6, lts6, its6⟩ := id P6.pcs
          have stop : Pile.hasTo s'.1 b = false → Pl H1 H6 r sk am ls.sum ls (Pile.room b (Pile.sts ls.sum ls (m + 1)).1.length (Pile.sts ls.sum ls (m + 1))) (m + 1) ∧ (Pile.room b (Pile.sts ls.sum ls (m + 1)).1.length (Pile.sts ls.sum ls (m + 1))).1.length ≤ m + 1 ∧ (Pile.room b (Pile.sts ls.sum ls (m + 1)).1.length (Pile.sts ls.sum ls (m + 1))).1 ≠ [] := fun hz => by
            rw [← e6, Pile.room_stop hz]
            exact ⟨P6, l6, ne6⟩
          refine ⟨_, rfl, r, ts6, rfl, .inl (L2.sq_of hts6), _, _, rfl, rfl, ?_⟩
          by_cases h2 : 2 ≤ s'.1.length
          · obtain ⟨c, hc⟩ : ∃ c, s'.1[s'.1.length - 2]? = some c := ⟨_, List.getElem?_eq_getElem (by omega)⟩
            obtain ⟨t2, ht1, ht2⟩ := PcsAt.item lts6 its6 hc
            obtain ⟨v, hv⟩ := Option.ne_none_iff_exists'.mp (v6.side _ c _ hc (List.getElem?_eq_getElem (show s'.1.length - 2 + 1 < s'.1.length by omega))).2
            rw [hv] at ht2
            have eh : Pile.hasTo s'.1 b = decide (b < v) := by
              unfold Pile.hasTo
              rw [hc]
              cases c
              cases hv
              match hl : s'.1.length, h2 with
              | n + 2, _ => rfl
            refine ⟨true, congrArg V.bl (decide_eq_true (by omega)), iteT ⟨_, rfl, _, rfl, r, ts6, _, _, rfl, rfl, L2.sq_of hts6, atI_back (k := 2) (by decide) (by omega) (by rw [lts6]; exact ht1), t2, _, 2, _, rfl, rfl, L2.st_of ht2, rfl, _, rfl, _, _, rfl, rfl, decide (b < v), congrArg V.bl (decide_eq_decide.mpr (by omega)), ?_⟩⟩
            by_cases hz : b < v
            · rw [decide_eq_true hz] at eh ⊢
              refine iteT ⟨_, rfl, _, rfl, _, rfl, r, ts6, rfl, .inl (L2.sq_of hts6), _, _, rfl, rfl, H1, r, sk, am, ls.sum, s'.1.length - 2, m + 1, _, ls, s', congrArg (fun z : Int => [V.ref r, V.ref am, V.int z]) (by rw [lts6]; omega), P6, v6, by omega, by omega, by omega, fun H7 P7 => ⟨⟨_, rfl, P7, v6.join (by omega), ?_, ?_, ?_, ?_⟩, ?_⟩⟩
              · show (Pile.join s'.1 (s'.1.length - 2)).length ≤ m + 1
                rw [Pile.join_len (by omega)]
                omega
              · have := Pile.cnt_join (s := s') (i := s'.1.length - 2) (by omega)
                show (s'.2 ++ [Pile.jn s'.1 (s'.1.length - 2)]).length + (Pile.join s'.1 (s'.1.length - 2)).length ≤ m + 1
                omega
              · intro z
                have z : Pile.join s'.1 (s'.1.length - 2) = [] := z
                have := Pile.join_len (ps := s'.1) (i := s'.1.length - 2) (by omega)
                rw [z, List.length_nil] at this
                omega
              · rw [← e6]
                exact (Pile.room_step eh).symm
              · show lenAt _ r < lenAt H6 r
                rw [P7.pcs.lenAt, P6.pcs.lenAt]
                show (Pile.join s'.1 (s'.1.length - 2)).length < s'.1.length
                rw [Pile.join_len (by omega)]
                omega
            · rw [decide_eq_false hz] at eh ⊢
              exact iteF ⟨rfl, stop eh⟩
          · refine ⟨false, congrArg V.bl (decide_eq_false (by omega)), iteF (iteF ⟨rfl, stop ?_⟩)⟩
            cases z : Pile.hasTo s'.1 b with
            | false => rfl
            | true => exact absurd (Pile.hasTo_two z) h2
        rotate_left
        · rintro σ H' Q1 Q2 hq ⟨v1, e1, r', ts', e2, e3, i1, j1, e4, e5, k, e6, h⟩
          refine ⟨v1, e1, r', ts', e2, e3, i1, j1, e4, e5, k, e6, ?_⟩
          cases k with
          | false => exact iteF (hq _ _ (outF h))
          | true =>
            obtain ⟨w1, f1, w2, f2, r2, t2, i2, x2, f3, f4, f5, f6, a1, a2, a3, a4, a5, a6, a7, a8, w3, f7, i3, j3, f8, f9, k', f10, f11⟩ := outT h
            exact iteT ⟨w1, f1, w2, f2, r2, t2, i2, x2, f3, f4, f5, f6, a1, a2, a3, a4, a5, a6, a7, a8, w3, f7, i3, j3, f8, f9, k', f10, hq _ _ f11⟩
        rintro σ H6 ⟨rfl, P6, l6, ne6⟩
        obtain ⟨ts6, hts6, lts6, its6⟩ := id P6.pcs
        have lpos := List.length_pos_iff.mpr ne6
        obtain ⟨c, hc⟩ : ∃ c, (Pile.room b (Pile.sts ls.sum ls (m + 1)).1.length (Pile.sts ls.sum ls (m + 1))).1[(Pile.room b (Pile.sts ls.sum ls (m + 1)).1.length (Pile.sts ls.sum ls (m + 1))).1.length - 1]? = some c := ⟨_, List.getElem?_eq_getElem (by omega)⟩
        obtain ⟨t1, ht1, ht2⟩ := PcsAt.item lts6 its6 hc
        have epu : Pile.sts ls.sum ls (m + 1 + 1) = ((Pile.room b (Pile.sts ls.sum ls (m + 1)).1.length (Pile.sts ls.sum ls (m + 1))).1.dropLast ++ [⟨c.st, c.ln, some b⟩] ++ [⟨Pile.stt ls (m + 1), n, none⟩], (Pile.room b (Pile.sts ls.sum ls (m + 1)).1.length (Pile.sts ls.sum ls (m + 1))).2) := by
          rw [es0]
          unfold Pile.step
          rw [hbr]
          show (Pile.put (Pile.room b (Pile.sts ls.sum ls (m + 1)).1.length (Pile.sts ls.sum ls (m + 1))).1 _ _ _, _) = _
          unfold Pile.put
          rw [List.getLast?_eq_getElem?, hc]
          simp
        refine ⟨_, rfl, _, rfl, r, ts6, _, _, rfl, rfl, L2.sq_of hts6, atI_back (k := 1) (by decide) (by omega) (by rw [lts6]; exact ht1), 2, rfl, t1, _, rfl, L2.st_of ht2, by show ¬ (HT.sIx 3 0 none = 0 ∧ HT.sIx 3 3 (some 2) = 3); decide, fun u hu => ⟨_, rfl, by show 1 ≤ sizeLine; decide, fun u2 hu2 => ?_⟩⟩
        have s7 : Same H6 (upd H6 u (.tup (cutV [.int (c.st : Int), .int (c.ln : Int), optV c.lv] none (some 2)))) := same_upd hu
        have hu7 : upd H6 u (.tup (cutV [.int (c.st : Int), .int (c.ln : Int), optV c.lv] none (some 2))) u = some (.tup [.int (c.st : Int), .int (c.ln : Int)]) := upd_same
        generalize upd H6 u (.tup (cutV [.int (c.st : Int), .int (c.ln : Int), optV c.lv] none (some 2))) = H7 at s7 hu7 hu2 ⊢
        have s8 : Same H7 (upd H7 u2 (.tup [.int (b : Int)])) := same_upd hu2
        have hu8 : upd H7 u2 (.tup [.int (b : Int)]) u2 = some (.tup [.int (b : Int)]) := upd_same
        have hu78 := s8 _ _ hu7
        generalize upd H7 u2 (.tup [.int (b : Int)]) = H8 at s8 hu8 hu78 ⊢
        refine ⟨u, u2, _, _, rfl, rfl, L2.st_of hu78, L2.st_of hu8, by show 3 ≤ sizeLine; decide, fun z => absurd z (List.cons_ne_nil _ _), fun _ z => absurd z (List.cons_ne_nil _ _), fun _ _ u3 hu3 => ?_⟩
        have P8 := P6.same (s7.trans s8)
        have s9 : Same H8 (upd H8 u3 (.tup ([.int (c.st : Int), .int (c.ln : Int)] ++ [.int (b : Int)]))) := same_upd hu3
        have hu9 : upd H8 u3 (.tup ([.int (c.st : Int), .int (c.ln : Int)] ++ [.int (b : Int)])) u3 = some (.tup [.int (c.st : Int), .int (c.ln : Int), optV (some b)]) := upd_same
        have P9 := P8.same s9
        have hts9 := s9 _ _ (s8 _ _ (s7 _ _ hts6))
        generalize upd H8 u3 (.tup ([.int (c.st : Int), .int (c.ln : Int)] ++ [.int (b : Int)])) = H9 at s9 hu9 P9 hts9 ⊢
        refine ⟨_, rfl, _, rfl, r, ts6, _, ts6.length - 1, rfl, rfl, hts9, by unfold ixN; rw [if_neg (by omega), if_pos (by omega)]; exact congrArg some (by omega), ?_⟩
        obtain ⟨ps1, js1, Pq, eq1, lq1⟩ : ∃ ps1 js1, Pl H1 (upd H9 r (.lst (ts6.set (ts6.length - 1) (.ref u3)))) r sk am ls.sum ls (ps1, js1) (m + 1) ∧ Pile.sts ls.sum ls (m + 1 + 1) = (ps1 ++ [⟨Pile.stt ls (m + 1), n, none⟩], js1) ∧ ps1.length ≤ 200 :=
          ⟨_, _, P9.stack hr0 (.inl rfl) (Fr2.putr (x := r) (r := r)) (PcsAt.relast (c := ⟨c.st, c.ln, some b⟩) hts9 P9.pcs lpos hu9), epu, by rw [List.length_append, List.length_dropLast, List.length_singleton]; omega⟩
        clear hts6 P6
        generalize upd H9 r (.lst (ts6.set (ts6.length - 1) (.ref u3))) = H6 at Pq ⊢
        generalize m + 1 = i at Pq eq1 hlt ⊢
      all_goals
        obtain ⟨ts6, hts6, lts6, _⟩ := id Pq.pcs
        have hsl6 := Pq.keep _ _ hsl
        refine ⟨_, rfl, .inl ⟨rfl, _, L2.sq_of hts6⟩, _, rfl, _, rfl, sl, _, _, _, rfl, rfl, L2.sq_of hsl6, atI_nat (starts_get (by omega)), _, rfl, by show 3 ≤ sizeLine; decide, fun u hu => ?_⟩
        have P7 := Pq.same (same_upd (o := .tup [.int ((Pile.stt ls i : Nat) : Int), .int (n : Int), .non]) hu)
        have hts7 := same_upd (o := .tup [.int ((Pile.stt ls i : Nat) : Int), .int (n : Int), .non]) hu _ _ hts6
        have hu7 : upd H6 u (.tup [.int ((Pile.stt ls i : Nat) : Int), .int (n : Int), .non]) u = some (.tup [.int ((Pile.stt ls i : Nat) : Int), .int (n : Int), optV none]) := upd_same
        refine ⟨r, ts6, .ref u, rfl, rfl, hts7, Nat.lt_of_le_of_lt (show ts6.length ≤ 200 from lts6 ▸ lq1) (by decide), ?_⟩
        generalize upd H6 u (.tup [.int ((Pile.stt ls i : Nat) : Int), .int (n : Int), .non]) = H7 at P7 hts7 hu7 ⊢
        have P8 := P7.stack hr0 (.inl rfl) (Fr2.putr (x := r) (r := r) (u := .lst (ts6 ++ [.ref u]))) (PcsAt.snoc (c := ⟨Pile.stt ls i, n, none⟩) hts7 P7.pcs hu7)
        have h8 : upd H7 r (.lst (ts6 ++ [.ref u])) r = some (.lst (ts6 ++ [.ref u])) := upd_same
        generalize upd H7 r (.lst (ts6 ++ [.ref u])) = H8 at P8 h8 ⊢
        obtain ⟨rs8, hrs8, lrs8, _⟩ := id P8.rows
        refine ⟨_, rfl, .inl ⟨rfl, _, L2.sq_of hrs8⟩, _, rfl, r, _, rfl, .inl (L2.sq_of h8), fun l hl => ⟨sk, rs8, .ref l, rfl, rfl, same_upd hl _ _ hrs8, Nat.lt_of_le_of_lt (by omega : rs8.length ≤ 200) (by decide), ⟨_, _, _, rfl⟩, ?_⟩⟩
        rw [eq1]
        exact P8.row hl (by rw [eq1]) h8 hrs8
    · rw [ln]
      rintro σ H4 ⟨⟨u5, u6, u7, rfl⟩, P4⟩
      obtain ⟨v1, v2, v3⟩ := Pile.sts_inv (w := ls.sum) (ls := ls) ls.length (Nat.le_refl _)
      have cn := Pile.sts_cnt (w := ls.sum) (ls := ls) ls.length
      obtain ⟨us4, hus4, lus4, _⟩ := id P4.tris
      refine ⟨_, rfl, am, us4, rfl, .inl (L2.sq_of hus4), ?_⟩
      rw [show (us4.length : Int) = (((Pile.sts ls.sum ls ls.length).2.length : Nat) : Int) by rw [lus4]]
      refine while_to (fun σ H' => ∃ m s', (∃ u9, σ = [some (.ref p), some (.ref sl), some (.ref r), some (.ref am), some (.ref sk), u5, u6, u7, some (.int (((Pile.sts ls.sum ls ls.length).2.length : Nat) : Int)), u9]) ∧ Pl H1 H' r sk am ls.sum ls s' ls.length ∧ Pile.Inv s'.1 (ls.take ls.length).sum ∧ s'.2.length + s'.1.length ≤ ls.length ∧ s'.1.length ≤ m ∧ Pile.fin m s' = Pile.fin 200 (Pile.sts ls.sum ls ls.length))
          (fun σ H' => (∃ u9, σ = [some (.ref p), some (.ref sl), some (.ref r), some (.ref am), some (.ref sk), u5, u6, u7, some (.int (((Pile.sts ls.sum ls ls.length).2.length : Nat) : Int)), u9]) ∧ Pl H1 H' r sk am ls.sum ls (Pile.fin 200 (Pile.sts ls.sum ls ls.length)) ls.length)
          (fun _ H' => lenAt H' r) ⟨200, Pile.sts ls.sum ls ls.length, ⟨_, rfl⟩, P4, v1, by omega, by omega, rfl⟩ ?_ ?_ ?_
      · rintro σ H5 ⟨m, s', ⟨u9, rfl⟩, P5, v5, c5, m5, e5⟩
        obtain ⟨ts5, hts5, lts5, its5⟩ := id P5.pcs
        refine ⟨_, rfl, r, ts5, rfl, .inl (L2.sq_of hts5), _, _, rfl, rfl, ?_⟩
        by_cases h2 : 1 < s'.1.length
        · refine ⟨true, congrArg V.bl (decide_eq_true (by omega)), iteT ?_⟩
          have hn := Pile.next_lt (ps := s'.1) (by omega)
          obtain ⟨m', rfl⟩ : ∃ m', m = m' + 1 := ⟨m - 1, by omega⟩
          have eA : (ts5.length : Int) - 2 = ((s'.1.length - 2 : Nat) : Int) := by rw [lts5]; omega
          have go : ∀ H7, Pl H1 H7 r sk am ls.sum ls (Pile.join s'.1 (Pile.next s'.1), s'.2 ++ [Pile.jn s'.1 (Pile.next s'.1)]) ls.length →
              Pile.Inv (Pile.join s'.1 (Pile.next s'.1)) (ls.take ls.length).sum ∧ (s'.2 ++ [Pile.jn s'.1 (Pile.next s'.1)]).length + (Pile.join s'.1 (Pile.next s'.1)).length ≤ ls.length ∧ (Pile.join s'.1 (Pile.next s'.1)).length ≤ m' ∧ Pile.fin m' (Pile.join s'.1 (Pile.next s'.1), s'.2 ++ [Pile.jn s'.1 (Pile.next s'.1)]) = Pile.fin 200 (Pile.sts ls.sum ls ls.length) ∧ lenAt H7 r < lenAt H5 r := fun H7 P7 => by
            have jl := Pile.join_len hn
            refine ⟨v5.join hn, ?_, by omega, ?_, ?_⟩
            · rw [Pile.cnt_join (s := s') hn]
              exact c5
            · rw [← e5]
              exact (Pile.fin_step h2).symm
            · rw [P7.pcs.lenAt, P5.pcs.lenAt]
              show (Pile.join s'.1 (Pile.next s'.1)).length < s'.1.length
              omega
          refine ⟨_, rfl, r, ts5, rfl, .inl (L2.sq_of hts5), _, _, rfl, rfl, ?_⟩
          dsimp only
          rw [eA]
          obtain ⟨c1, hc1⟩ : ∃ c, s'.1[s'.1.length - 1]? = some c := ⟨_, List.getElem?_eq_getElem (by omega)⟩
          obtain ⟨t1, k1, k2⟩ := PcsAt.item lts5 its5 hc1
          have eB : ((s'.1.length - 2 : Nat) : Int) + 1 = ((s'.1.length - 1 : Nat) : Int) := by omega
          rcases Nat.lt_or_ge 2 s'.1.length with h3 | h3
          case' inl =>
            have h3 : 3 ≤ s'.1.length := h3
            obtain ⟨c3, hc3⟩ : ∃ c, s'.1[s'.1.length - 3]? = some c := ⟨_, List.getElem?_eq_getElem (by omega)⟩
            obtain ⟨t3, k3, k4⟩ := PcsAt.item lts5 its5 hc3
            have eC : ((s'.1.length - 2 : Nat) : Int) - 1 = ((s'.1.length - 3 : Nat) : Int) := by omega
            have en : Pile.next s'.1 = if c3.ln < c1.ln then s'.1.length - 3 else s'.1.length - 2 := by
              unfold Pile.next
              rw [hc1, hc3]
              simp [h3]
            refine ⟨_, rfl, _, _, rfl, rfl, true, congrArg V.bl (decide_eq_true (by omega)), iteT ?_⟩
            refine ⟨_, rfl, _, rfl, _, _, rfl, rfl, r, ts5, _, _, rfl, rfl, L2.sq_of hts5, by rw [eC]; exact atI_nat k3, t3, _, 1, _, rfl, rfl, L2.st_of k4, rfl, ?_⟩
            refine ⟨_, rfl, _, rfl, _, _, rfl, rfl, r, ts5, _, _, rfl, rfl, L2.sq_of hts5, by rw [eB]; exact atI_nat k1, t1, _, 1, _, rfl, rfl, L2.st_of k2, rfl, _, _, rfl, rfl, decide (c3.ln < c1.ln), congrArg V.bl (decide_eq_decide.mpr (by omega)), ?_⟩
            by_cases c : c3.ln < c1.ln
            case' pos =>
              rw [if_pos c] at en
              rw [decide_eq_true c]
              refine iteT ⟨_, rfl, _, _, rfl, rfl, ?_⟩
              dsimp only
              rw [eC, ← en]
            case' neg =>
              rw [if_neg c] at en
              rw [decide_eq_false c]
              refine iteF ?_
              rw [← en]
          case' inr =>
            have en : Pile.next s'.1 = s'.1.length - 2 := by
              unfold Pile.next
              split
              · rw [if_neg (by omega)]
              · rfl
            refine ⟨_, rfl, _, _, rfl, rfl, false, congrArg V.bl (decide_eq_false (by omega)), iteF (iteF ?_)⟩
            rw [← en]
          all_goals
            refine ⟨_, rfl, _, rfl, _, rfl, H1, r, sk, am, ls.sum, Pile.next s'.1, ls.length, _, ls, s', rfl, P5, v5, hn, by omega, by omega, fun H7 P7 => ?_⟩
            obtain ⟨g1, g2, g3, g4, g5⟩ := go H7 P7
            exact ⟨⟨m', _, ⟨_, rfl⟩, P7, g1, g2, g3, g4⟩, g5⟩
        · refine ⟨false, congrArg V.bl (decide_eq_false (by omega)), iteF ⟨⟨_, rfl⟩, ?_⟩⟩
          rw [← e5, Pile.fin_stop (by omega)]
          exact P5
      · rintro σ H5 ⟨⟨u9, rfl⟩, P5⟩
        obtain ⟨us5, hus5, lus5, _⟩ := id P5.tris
        have ef := Pile.fin_pre (e := (Pile.sts ls.sum ls ls.length).2) 200 (Pile.sts ls.sum ls ls.length).1 []
        rw [List.append_nil] at ef
        have ef : Pile.fin 200 (Pile.sts ls.sum ls ls.length) = _ := ef
        rw [ef] at P5 lus5
        refine ⟨_, rfl, _, rfl, _, rfl, _, rfl, am, us5, rfl, L2.sq_of hus5, fun ea hea => ?_⟩
        rw [cut_take]
        have s6 := same_upd (o := .lst (us5.take (Pile.sts ls.sum ls ls.length).2.length)) hea
        have h6 : upd H5 ea (.lst (us5.take (Pile.sts ls.sum ls ls.length).2.length)) ea = some (.lst (us5.take (Pile.sts ls.sum ls ls.length).2.length)) := upd_same
        have heaH := sfree P5.keep hea
        generalize upd H5 ea (.lst (us5.take (Pile.sts ls.sum ls ls.length).2.length)) = H6 at s6 h6 ⊢
        refine ⟨_, rfl, _, rfl, _, rfl, am, us5, rfl, L2.sq_of (s6 _ _ hus5), fun la hla => ?_⟩
        rw [cut_drop]
        have s7 := same_upd (o := .lst (us5.drop (Pile.sts ls.sum ls ls.length).2.length)) hla
        have h7 : upd H6 la (.lst (us5.drop (Pile.sts ls.sum ls ls.length).2.length)) la = some (.lst (us5.drop (Pile.sts ls.sum ls ls.length).2.length)) := upd_same
        have hlaH := sfree P5.keep (sfree s6 hla)
        generalize upd H6 la (.lst (us5.drop (Pile.sts ls.sum ls ls.length).2.length)) = H7 at s7 h7 ⊢
        refine ⟨by show 3 ≤ sizeLine; decide, fun t ht => ?_⟩
        have s8 := same_upd (o := .tup [.ref sk, .ref ea, .ref la]) ht
        have s68 := (s6.trans s7).trans s8
        have P8 := P5.same s68
        refine q t sk ea la _ (S1.trans P8.keep) (sfree S1 (sfree P5.keep (sfree s6 (sfree s7 ht)))) (sfree S1 hsk1) (sfree S1 heaH) (sfree S1 hlaH) upd_same (P8.rowsAt.base S1) ?_ ?_
        · have z := P8.tris.take (s68 _ _ hus5) (Pile.sts ls.sum ls ls.length).2.length (s8 _ _ (s7 _ _ h6))
          have z : TrisAt _ ea (((Pile.sts ls.sum ls ls.length).2 ++ (Pile.fin 200 ((Pile.sts ls.sum ls ls.length).1, [])).2).take (Pile.sts ls.sum ls ls.length).2.length) := z
          rw [List.take_left] at z
          exact z
        · have z := P8.tris.drop (s68 _ _ hus5) (Pile.sts ls.sum ls ls.length).2.length (s8 _ _ h7)
          have z : TrisAt _ la (((Pile.sts ls.sum ls ls.length).2 ++ (Pile.fin 200 ((Pile.sts ls.sum ls ls.length).1, [])).2).drop (Pile.sts ls.sum ls ls.length).2.length) := z
          rw [List.drop_left] at z
          exact z
      · rintro σ H' Q1 Q2 hq ⟨v1, e1, r', ts', e2, e3, i1, j1, e4, e5, k, e6, h⟩
        exact ⟨v1, e1, r', ts', e2, e3, i1, j1, e4, e5, k, e6, hq _ _ h⟩
end

end K38

namespace K38
open PySem PySem.Spec PyProof.Rows L2 
/-- a list of rows of three whole numbers -/
def RowI (H : Hp) (v : V) : Prop := ∃ (t : Addr) (s f g : Int), v = .ref t ∧ H t = some (.tup [.int s, .int f, .int g]) ∧ s.natAbs < 2 ^ 1000
def WayL (H : Hp) (l : Addr) : Prop := ∃ xs, H l = some (.lst xs) ∧ xs.length ≤ 60 ∧ ∀ v ∈ xs, RowI H v
def PairI (H : Hp) (v : V) : Prop := ∃ (t : Addr) (s f : Int), v = .ref t ∧ H t = some (.tup [.int s, .int f]) ∧ s.natAbs < 2 ^ 1000
theorem RowI.keep {H H' : Hp} {v : V} (h : RowI H v) (k : ∀ t xs, H t = some (.tup xs) → H' t = some (.tup xs)) : RowI H' v := by
  obtain ⟨t, s, f, g, e, h, b⟩ := h
  exact ⟨t, s, f, g, e, k _ _ h, b⟩
theorem PairI.keep {H H' : Hp} {v : V} (h : PairI H v) (k : ∀ t xs, H t = some (.tup xs) → H' t = some (.tup xs)) : PairI H' v := by
  obtain ⟨t, s, f, e, h, b⟩ := h
  exact ⟨t, s, f, e, k _ _ h, b⟩
theorem take_sum : ∀ (ls : List Nat) (i : Nat), Pile.stt ls i ≤ ls.sum := fun ls i => by
  have := congrArg List.sum (List.take_append_drop i ls)
  rw [List.sum_append] at this
  show (ls.take i).sum ≤ _
  omega
/-- a list that is written to holds no tuple -/
theorem tup_keep {H : Hp} {l : Addr} {xs : List V} {o : HO} (h : H l = some (.lst xs)) : ∀ (t : Addr) (ys : List V), H t = some (.tup ys) → upd H l o t = some (.tup ys) := fun t ys e => by
  rw [upd_ne (fun z => by rw [z, h] at e; cases e)]
  exact e
theorem lenAt_of {H : Hp} {l : Addr} {xs : List V} (h : H l = some (.lst xs)) : lenAt H l = xs.length := by
  unfold lenAt
  rw [h]
def spDeep : Sp := fun vs H Q _ => vs = [] ∧ ∀ (p q : Addr) (ys : List V) (H' : Hp), Same H H' → H p = none → H q = none → H' p = some (.lst [.ref q]) → H' q = some (.lst ys) → Q (.ref p) H'
def spDrawn : Sp := fun vs H Q _ => ∃ (p q : Addr) (ls : List Nat), vs = [.ref p, .ref q] ∧ SrcZ H p ∧ H q = some (.lst (nV ls)) ∧ q ≠ p ∧ LenOk ls ∧ ls.length ≤ 60 ∧ ∀ l H', H l = none → DnZ p H H' → WayL H' l → Q (.ref l) H'
section
variable {P : Program} {w : World} {K : PySem.W.Frag} {mg : Str → Option Value} {base : Heap} {a : Ad} {d : Fd}
theorem ok_deep (T : Txt K mg a d) : FnOk P w K mg base CX0 1 a.deep d.deep P_deep spDeep := by
  refine T.f_deep.ok sc_deep (fun vs H Q E h => ?_) (fun cdv A outer s0 H vs Q E hr h => ?_)
  · obtain ⟨rfl, _⟩ := h
    rfl
  · obtain ⟨rfl, q⟩ := h
    refine ⟨_, (pss_cons (ps_set (i := 0) sc_deep.nd rfl (Or.inl rfl) (pe_lst pa_nil))
    (pss_cons (ps_for PassesOwn.never rfl (pi_range1 (by rfl) T.z_range (pa_cons pe_int pa_nil)) (pg_name (i := 1) sc_deep.nd rfl (Or.inl rfl))
      (pss_one (ps_set (i := 0) sc_deep.nd rfl (Or.inl rfl) (pe_lst (pa_cons (pv 0) pa_nil)))))
    (pss_one (ps_ret (pv 0))))), ?_⟩
    refine ⟨by show 0 ≤ sizeLine; decide, fun l hl => ?_⟩
    refine ⟨2000, rfl, by decide, by decide, ?_⟩
    refine for_range (lo := 0) (n := 2000) (fun i σ H' => ∃ (p : Addr) (xs : List V) (v : Option V), σ = [some (.ref p), v] ∧ Same H H' ∧ H p = none ∧ H' p = some (.lst xs) ∧ (0 < i → ∃ q ys, xs = [.ref q] ∧ H q = none ∧ H' q = some (.lst ys))) ⟨l, [], none, rfl, same_upd hl, hl, upd_same, fun z => absurd z (Nat.lt_irrefl _)⟩ ?_ ?_
    · rintro i σ H1 hi ⟨p, xs, v, rfl, s1, hp, h1, _⟩
      refine ⟨_, rfl, by show 1 ≤ sizeLine; decide, fun l2 hl2 => ?_⟩
      exact ⟨l2, [.ref p], _, rfl, s1.trans (same_upd hl2), sfree s1 hl2, upd_same, fun _ => ⟨p, xs, rfl, hp, same_upd hl2 _ _ h1⟩⟩
    · rintro σ H1 ⟨p, xs, v, rfl, s1, hp, h1, one⟩
      obtain ⟨r, ys, rfl, hr, h2⟩ := one (by decide)
      exact ⟨_, rfl, q p r ys H1 s1 hp hr h1 h2⟩
theorem ok_drawn_way (T : Txt K mg a d) : FnOk P w K mg base CX0 3 a.drawn_way d.drawn_way P_drawn_way spDrawn := by
  have G_starts : FnOk P w K mg base CX0 1 a.starts d.starts P_starts spStarts := ok_starts T
  have G_take : FnOk P w K mg base CX0 2 a.take d.take P_take spTake := ok_take T
  refine T.f_drawn_way.ok sc_drawn_way (fun vs H Q E h => ?_) (fun cdv A outer s0 H vs Q E hr h => ?_)
  · obtain ⟨p, q, ls, rfl, _⟩ := h
    rfl
  · obtain ⟨p, qa, ls, rfl, hs, hq, nqp, LO, l60, q⟩ := h
    refine ⟨_, (pss_cons (ps_par (i := 2) (j := 3) rfl sc_drawn_way.nd rfl rfl (by decide) rfl rfl (pa_cons (pe_listZip rfl (by rfl) T.z_list (by decide +kernel) (by rfl) T.z_zip (pa_cons (pe_call G_starts (hr.mono (by decide)) (by rfl) T.g_starts T.k_starts T.b_starts .nil pass0 (pa_cons (pv 1) pa_nil)) (pa_cons (pv 1) pa_nil))) (pa_cons (pe_lst pa_nil) pa_nil)) (by rfl))
    (pss_cons (ps_while PassesOwn.never (pt_cmpR op_gt (pe_callB call_len_seq (by rfl) T.z_len PySem.boot_len (pa_cons (pv 2) pa_nil)) pe_int (nomark _))
      (pss_cons (ps_set (i := 4) sc_drawn_way.nd rfl (Or.inl rfl) (pe_call G_take (hr.mono (by decide)) (by rfl) T.g_take T.k_take T.b_take .nil pass0 (pa_cons (pv 0) (pa_cons (pe_op op_sub (pe_callB call_len_seq (by rfl) T.z_len PySem.boot_len (pa_cons (pv 2) pa_nil)) pe_int) pa_nil))))
        (pss_cons (ps_expr (pe_bm PySem.F.plainAttrs_list PySem.F.slot_list_append PySem.F.type_list_append mt_append (pv 3) (pa_cons (pe_tup (pa_cons (pe_ix ix_tup (pe_ix ix_list (pv 2) (pv 4) (fun _ _ => rfl)) pe_int (fun _ _ => rfl)) (pa_cons (pe_ix ix_tup (pe_ix ix_list (pv 2) (pv 4) (fun _ _ => rfl)) pe_int (fun _ _ => rfl)) (pa_cons (pe_ix ix_tup (pe_ix ix_list (pv 2) (pe_op op_add (pv 4) pe_int) (fun _ _ => rfl)) pe_int (fun _ _ => rfl)) pa_nil)))) pa_nil)))
        (pss_one (ps_asg (pe_lst (pa_cons (pe_tup (pa_cons (pe_ix ix_tup (pe_ix ix_list (pv 2) (pv 4) (fun _ _ => rfl)) pe_int (fun _ _ => rfl)) (pa_cons (pe_op op_add (pe_ix ix_tup (pe_ix ix_list (pv 2) (pv 4) (fun _ _ => rfl)) pe_int (fun _ _ => rfl)) (pe_ix ix_tup (pe_ix ix_list (pv 2) (pe_op op_add (pv 4) pe_int) (fun _ _ => rfl)) pe_int (fun _ _ => rfl))) pa_nil))) pa_nil)) (pg_slice (pv 2) (po_some (pv 4)) (po_some (pe_op op_add (pv 4) pe_int))))))))
    (pss_one (ps_ret (pv 3))))), ?_⟩
    refine ⟨_, rfl, qa, ls, rfl, hq, by omega, fun B H1 s1 hB h1 => ?_⟩
    have hq1 := s1 _ _ hq
    have ln : (nV ls).length = ls.length := by unfold nV; rw [List.length_map]
    refine ⟨_, rfl, B, qa, _, _, rfl, L2.sq_of h1, L2.sq_of hq1, by rw [starts_len, ln]; omega, fun L H2 ts s2 hL h2 lts its => ?_⟩
    rw [starts_len, ln] at lts
    refine ⟨by show 0 ≤ sizeLine; decide, fun F hF => ?_⟩
    have d3 := ((DnZ.refl hs).same (s1.trans s2)).new (o := .lst []) hF
    have h3 := same_upd (o := .lst []) hF _ _ h2
    have f3 : upd H2 F (.lst []) F = some (.lst []) := upd_same
    have nLF : L ≠ F := fun z => by rw [← z, h2] at hF; cases hF
    have hL0 := sfree s1 hL
    have hF0 := sfree s1 (sfree s2 hF)
    have p3 : ∀ v ∈ ts, PairI (upd H2 F (.lst [])) v := fun v hv => by
      obtain ⟨i, hi⟩ := List.getElem?_of_mem hv
      have li := (List.getElem?_eq_some_iff.mp hi).1
      obtain ⟨n, hn⟩ : ∃ n, ls[i]? = some n := ⟨_, List.getElem?_eq_getElem (by omega)⟩
      obtain ⟨t, e1, e2⟩ := its i _ _ (starts_get (ls := ls) (n := ls.length + 1) (i := i) (by omega)) (show (nV ls)[i]? = some (.int (n : Int)) by unfold nV; rw [List.getElem?_map, hn]; rfl)
      rw [hi] at e1
      have top := LO.top
      have le : Pile.stt ls i ≤ ls.sum := take_sum ls i
      exact ⟨t, _, _, Option.some.inj e1, same_upd hF _ _ e2, by rw [Int.natAbs_natCast]; omega⟩
    generalize upd H2 F (.lst []) = H3 at d3 h3 f3 p3 ⊢
    have nL := hs.ne hL0
    have nF := hs.ne hF0
    refine ⟨_, _, rfl, ?_⟩
    refine while_to (fun σ H' => ∃ (u : Option V) (xs fs : List V), σ = [some (.ref p), some (.ref qa), some (.ref L), some (.ref F), u] ∧ DnZ p H H' ∧ H' L = some (.lst xs) ∧ (∀ v ∈ xs, PairI H' v) ∧ H' F = some (.lst fs) ∧ (∀ v ∈ fs, RowI H' v) ∧ xs.length + fs.length ≤ 60)
      (fun σ H' => ∃ (u : Option V) (xs fs : List V), σ = [some (.ref p), some (.ref qa), some (.ref L), some (.ref F), u] ∧ DnZ p H H' ∧ H' F = some (.lst fs) ∧ (∀ v ∈ fs, RowI H' v) ∧ fs.length ≤ 60)
      (fun _ H' => lenAt H' L) ⟨_, ts, [], rfl, d3, h3, p3, f3, (fun v hv => by cases hv), by rw [lts, List.length_nil]; omega⟩ ?_ ?_ ?_
    · rintro σ H4 ⟨u, xs, fs, rfl, d4, h4, p4, f4, r4, c4⟩
      refine ⟨_, rfl, L, xs, rfl, .inl (L2.sq_of h4), _, _, rfl, rfl, ?_⟩
      by_cases c : 1 < xs.length
      case neg =>
        refine ⟨false, congrArg V.bl (decide_eq_false (by omega)), iteF ?_⟩
        exact ⟨_, xs, fs, rfl, d4, f4, r4, by omega⟩
      refine ⟨true, congrArg V.bl (decide_eq_true (by omega)), iteT ?_⟩
      refine ⟨_, rfl, _, rfl, L, xs, rfl, .inl (L2.sq_of h4), _, _, rfl, rfl, p, _, rfl, d4.2, by omega, by omega, fun v x y z v0 v1 => ?_⟩
      obtain ⟨i, rfl⟩ : ∃ i : Nat, v = (i : Int) := ⟨v.toNat, by omega⟩
      have i1 : i + 1 < xs.length := by omega
      have d5 := d4.trans (DnZ.put (p := p) (H := H4) (x := x) (y := y) (z := z))
      have kp : ∀ b o, b ≠ p → H4 b = some o → upd H4 p (.lst [.int x, .int y, .int z]) b = some o := fun b o n e => by rw [upd_ne n]; exact e
      have kt : ∀ t ys, H4 t = some (.tup ys) → upd H4 p (.lst [.int x, .int y, .int z]) t = some (.tup ys) := by
        obtain ⟨_, _, _, e⟩ := d4.2
        exact tup_keep e
      have h5 := kp _ _ nL h4
      have f5 := kp _ _ nF f4
      have p5 : ∀ v ∈ xs, PairI (upd H4 p (.lst [.int x, .int y, .int z])) v := fun v hv => (p4 v hv).keep kt
      have r5 : ∀ v ∈ fs, RowI (upd H4 p (.lst [.int x, .int y, .int z])) v := fun v hv => (r4 v hv).keep kt
      have e45 : lenAt H4 L = xs.length := lenAt_of h4
      generalize upd H4 p (.lst [.int x, .int y, .int z]) = H5 at d5 h5 f5 p5 r5 ⊢
      have g0 : xs[i]? = some xs[i] := List.getElem?_eq_getElem (by omega)
      have g1 : xs[i + 1]? = some xs[i + 1] := List.getElem?_eq_getElem i1
      obtain ⟨t0, b0, l0, e0, ht0, bd0⟩ := p5 xs[i] (List.getElem_mem _)
      obtain ⟨t1, b1, l1, e1, ht1, bd1⟩ := p5 xs[i + 1] (List.getElem_mem _)
      rw [e0] at g0
      rw [e1] at g1
      have aI : ∀ {k : Nat} {x : V} {j : Int}, xs[k]? = some x → j = (k : Int) → atI xs j = some x := fun h e => by rw [e]; exact atI_nat h
      refine ⟨_, rfl, .inl ⟨rfl, _, L2.sq_of f5⟩, ?_⟩
      refine ⟨_, rfl, _, rfl, L, xs, _, _, rfl, rfl, L2.sq_of h5, aI g0 rfl, t0, _, _, _, rfl, rfl, L2.st_of ht0, rfl, ?_⟩
      refine ⟨_, rfl, _, rfl, L, xs, _, _, rfl, rfl, L2.sq_of h5, aI g0 rfl, t0, _, _, _, rfl, rfl, L2.st_of ht0, rfl, ?_⟩
      refine ⟨_, rfl, _, rfl, _, _, rfl, rfl, L, xs, _, _, rfl, rfl, L2.sq_of h5, aI g1 (by omega), t1, _, _, _, rfl, rfl, L2.st_of ht1, rfl, ?_⟩
      refine ⟨by show 3 ≤ sizeLine; decide, fun t ht => ?_⟩
      have s6 := same_upd (o := .tup [.int b0, .int l0, .int l1]) ht
      have hT : upd H5 t (.tup [.int b0, .int l0, .int l1]) t = some (.tup [.int b0, .int l0, .int l1]) := upd_same
      have d6 := d5.new (o := .tup [.int b0, .int l0, .int l1]) ht
      have h6 := s6 _ _ h5
      have f6 := s6 _ _ f5
      have p6 : ∀ v ∈ xs, PairI (upd H5 t (.tup [.int b0, .int l0, .int l1])) v := fun v hv => (p5 v hv).keep fun _ _ => s6 _ _
      have r6 : ∀ v ∈ fs, RowI (upd H5 t (.tup [.int b0, .int l0, .int l1])) v := fun v hv => (r5 v hv).keep fun _ _ => s6 _ _
      have t06 := s6 _ _ ht0
      have t16 := s6 _ _ ht1
      generalize upd H5 t (.tup [.int b0, .int l0, .int l1]) = H6 at hT d6 h6 f6 p6 r6 t06 t16 ⊢
      refine ⟨F, fs, .ref t, rfl, rfl, f6, Nat.lt_of_le_of_lt (by omega : fs.length ≤ 60) (by decide), ?_⟩
      have kF := tup_keep (o := .lst (fs ++ [.ref t])) f6
      have d7 : DnZ p H (upd H6 F (.lst (fs ++ [.ref t]))) := ⟨fun b o nb e => by
        rw [upd_ne (fun z => by rw [z, hF0] at e; cases e)]
        exact d6.1 b o nb e, d6.2.upd nF⟩
      have h7 : upd H6 F (.lst (fs ++ [.ref t])) L = some (.lst xs) := by rw [upd_ne nLF]; exact h6
      have f7 : upd H6 F (.lst (fs ++ [.ref t])) F = some (.lst (fs ++ [.ref t])) := upd_same
      have p7 : ∀ v ∈ xs, PairI (upd H6 F (.lst (fs ++ [.ref t]))) v := fun v hv => (p6 v hv).keep kF
      have r7 : ∀ v ∈ fs ++ [.ref t], RowI (upd H6 F (.lst (fs ++ [.ref t]))) v := fun v hv => by
        rcases List.mem_append.mp hv with hv | hv
        · exact (r6 v hv).keep kF
        · exact ⟨t, _, _, _, List.mem_singleton.mp hv, kF _ _ hT, bd0⟩
      have t07 := kF _ _ t06
      have t17 := kF _ _ t16
      generalize upd H6 F (.lst (fs ++ [.ref t])) = H7 at d7 h7 f7 p7 r7 t07 t17 ⊢
      refine ⟨_, rfl, _, rfl, L, xs, _, _, rfl, rfl, L2.sq_of h7, aI g0 rfl, t0, _, _, _, rfl, rfl, L2.st_of t07, rfl, ?_⟩
      refine ⟨_, rfl, _, rfl, L, xs, _, _, rfl, rfl, L2.sq_of h7, aI g0 rfl, t0, _, _, _, rfl, rfl, L2.st_of t07, rfl, ?_⟩
      refine ⟨_, rfl, _, rfl, _, _, rfl, rfl, L, xs, _, _, rfl, rfl, L2.sq_of h7, aI g1 (by omega), t1, _, _, _, rfl, rfl, L2.st_of t17, rfl, _, _, rfl, rfl, ?_⟩
      refine ⟨by show 2 ≤ sizeLine; decide, fun u2 hu2 => ⟨by show 1 ≤ sizeLine; decide, fun n2 hn2 => ?_⟩⟩
      have s8 := same_upd (o := .tup [.int b0, .int (l0 + l1)]) hu2
      have hU : upd H7 u2 (.tup [.int b0, .int (l0 + l1)]) u2 = some (.tup [.int b0, .int (l0 + l1)]) := upd_same
      dsimp only at hn2 ⊢
      have s9 := same_upd (o := .lst [.ref u2]) hn2
      have hN : upd (upd H7 u2 (.tup [.int b0, .int (l0 + l1)])) n2 (.lst [.ref u2]) n2 = some (.lst [.ref u2]) := upd_same
      have hU9 := s9 _ _ hU
      have s79 := s8.trans s9
      have d9 := d7.same s79
      have h9 := s79 _ _ h7
      have f9 := s79 _ _ f7
      have p9 : ∀ v ∈ xs, PairI (upd (upd H7 u2 (.tup [.int b0, .int (l0 + l1)])) n2 (.lst [.ref u2])) v := fun v hv => (p7 v hv).keep fun _ _ => s79 _ _
      have r9 : ∀ v ∈ fs ++ [.ref t], RowI (upd (upd H7 u2 (.tup [.int b0, .int (l0 + l1)])) n2 (.lst [.ref u2])) v := fun v hv => (r7 v hv).keep fun _ _ => s79 _ _
      have nLn : L ≠ n2 := fun z => by rw [← z, s8 _ _ h7] at hn2; cases hn2
      generalize upd (upd H7 u2 (.tup [.int b0, .int (l0 + l1)])) n2 (.lst [.ref u2]) = H9 at hN hU9 d9 h9 f9 p9 r9 ⊢
      refine ⟨_, rfl, _, rfl, _, rfl, _, rfl, _, _, rfl, rfl, _, rfl, L, n2, _, _, (i : Int), (i : Int) + 2, rfl, rfl, rfl, rfl, h9, hN, nLn, by omega, by omega, by omega, ?_, ?_⟩
      · exact Nat.le_trans (by rw [List.length_singleton]; omega : _ ≤ 1001) (by decide)
      rw [show ((i : Int)).toNat = i by omega, show ((i : Int) + 2).toNat = i + 2 by omega]
      have kL := tup_keep (o := .lst (xs.take i ++ [.ref u2] ++ xs.drop (i + 2))) h9
      have wl : (xs.take i ++ [V.ref u2] ++ xs.drop (i + 2)).length + 1 = xs.length := by
        simp only [List.length_append, List.length_take, List.length_drop, List.length_singleton]
        omega
      refine ⟨⟨_, _, fs ++ [.ref t], rfl, ⟨fun b o nb e => ?_, d9.2.upd nL⟩, upd_same, fun v hv => ?_, by rw [upd_ne (Ne.symm nLF)]; exact f9, fun v hv => (r9 v hv).keep kL, ?_⟩, ?_⟩
      · rw [upd_ne (fun z => by rw [z, hL0] at e; cases e)]
        exact d9.1 b o nb e
      · rcases List.mem_append.mp hv with hv | hv
        · rcases List.mem_append.mp hv with hv | hv
          · exact (p9 v (List.mem_of_mem_take hv)).keep kL
          · exact ⟨u2, _, _, List.mem_singleton.mp hv, kL _ _ hU9, bd0⟩
        · exact (p9 v (List.mem_of_mem_drop hv)).keep kL
      · rw [List.length_append (as := fs), List.length_singleton]
        omega
      · show lenAt _ L < lenAt H4 L
        rw [e45, lenAt_of upd_same]
        omega
    · rintro σ H4 ⟨u, xs, fs, rfl, d4, f4, r4, c4⟩
      exact ⟨_, rfl, q F H4 hF0 d4 ⟨fs, f4, by omega, r4⟩⟩
    · rintro σ H' Q1 Q2 hq ⟨v1, e1, r', ts', e2, e3, i1, j1, e4, e5, k, e6, h⟩
      exact ⟨v1, e1, r', ts', e2, e3, i1, j1, e4, e5, k, e6, hq _ _ h⟩
end

end K38

namespace K38
open PySem PySem.Spec PyProof.Rows L2 
abbrev EL (a : Ad) : List (Addr × Str × Str) := [(a.c_Mismatch, "name", "mismatch")]
/-- what is told: the value, or what was refused -/
def TTtold (L : List (Addr × Str × Str)) : (XK → Hp → VK → Prop) → Hp → VK → Prop := fun tl H Q => tl (EErr L Q) H fun v H1 => 2 ≤ sizeLine ∧ ∀ t, H1 t = none → Q (.ref t) (upd H1 t (.tup [.str "told", v]))
section
variable {P : Program} {w : World} {K : PySem.W.Frag} {mg : Str → Option Value} {base : Heap} {a : Ad} {d : Fd}
theorem gives_said {k : Nat} (T : Txt K mg a d) : GivesTo1 P w K mg base k N_said "_law_said" (defScope s_said) a.said (defBody s_said) "ask" (TTtold (EL a)) := by
  intro cdg A outer f L s H Q tl hr act hL h
  refine ⟨_, (pss_one (ps_try_as (i := 1) rfl rfl sc_said.nd rfl rfl ⟨rfl, by decide, Or.inl T.xb.g⟩ takes0 (fun W pn xe tk _ => (pss_one (ps_ret (pe_tup (pa_cons pe_str (pa_cons (act W pn xe _ _ tk) pa_nil)))))) (fun a1 oe cls d pn hz hf => (pss_cons (ps_if (PW.pt (pw_or (pt_val (pe_callB (call_isX hz hf) (by rfl) T.z_isinstance (by decide +kernel) (pa_cons (pv 1) (pa_cons (pe_glob (v := .ref a.c_InvalidNumber) (by rfl) T.x_InvalidNumber.g rfl) pa_nil)))) (pw_or1 (pt_val (pe_callB (call_isX hz hf) (by rfl) T.z_isinstance (by decide +kernel) (pa_cons (pv 1) (pa_cons (pe_glob (v := .ref a.c_Mismatch) (by rfl) T.x_Mismatch.g rfl) pa_nil))))))) (pss_one (ps_ret (pe_tup (pa_cons (pe_ix (show IxR _ (rIxL K) from ix_list) (pe_lst (pa_cons pe_str (pa_cons pe_str pa_nil))) (pe_callTy call_int1 (by rfl) T.z_int (by decide +kernel) (pa_cons (pe_callB (call_isX hz hf) (by rfl) T.z_isinstance (by decide +kernel) (pa_cons (pv 1) (pa_cons (pe_glob (v := .ref a.c_Mismatch) (by rfl) T.x_Mismatch.g rfl) pa_nil))) pa_nil)) (fun _ _ => rfl)) (pa_cons (pe_xf T.x_Mismatch.xf T.x_Mismatch.no hz hf (pv 1)) pa_nil))))) pss_nil)
      (pss_cons (ps_if (PW.pt (pw_or (pt_val (pe_callB (call_isX hz hf) (by rfl) T.z_isinstance (by decide +kernel) (pa_cons (pv 1) (pa_cons (pe_glob (v := .ref a.c_InvalidLengths) (by rfl) T.x_InvalidLengths.g rfl) pa_nil)))) (pw_or (pt_val (pe_callB (call_isX hz hf) (by rfl) T.z_isinstance (by decide +kernel) (pa_cons (pv 1) (pa_cons (pe_glob (v := .ref a.c_InvalidAnswers) (by rfl) T.x_InvalidAnswers.g rfl) pa_nil)))) (pw_or1 (pt_val (pe_callB (call_isX hz hf) (by rfl) T.z_isinstance (by decide +kernel) (pa_cons (pv 1) (pa_cons (pe_glob (v := .ref a.c_InvalidOrder) (by rfl) T.x_InvalidOrder.g rfl) pa_nil)))))))) (pss_cons ps_never
        (pss_cons ps_never
        (pss_one ps_never))) pss_nil)
      (pss_cons (ps_if (pt_val (pe_callB (call_isX hz hf) (by rfl) T.z_isinstance (by decide +kernel) (pa_cons (pv 1) (pa_cons (pe_glob (v := .ref a.c_InvalidKeys) (by rfl) T.x_InvalidKeys.g rfl) pa_nil)))) (pss_one ps_never) pss_nil)
      (pss_cons (ps_if (pt_val (pe_callB (call_isX hz hf) (by rfl) T.z_isinstance (by decide +kernel) (pa_cons (pv 1) (pa_cons (pe_glob (v := .ref a.c_InvalidQuestion) (by rfl) T.x_InvalidQuestion.g rfl) pa_nil)))) (pss_one ps_never) pss_nil)
      (pss_one (ps_ret (pe_ifExp (pt_val (pe_callB (call_isX hz hf) (by rfl) T.z_isinstance (by decide +kernel) (pa_cons (pv 1) (pa_cons (pe_glob (v := .ref a.c_TooLarge) (by rfl) T.x_TooLarge.g rfl) pa_nil)))) (pe_tup (pa_cons pe_str (pa_cons (pe_xf T.x_TooLarge.xf T.x_TooLarge.no hz hf (pv 1)) pa_nil))) (pe_tup (pa_cons pe_str (pa_cons pe_non pa_nil))))))))))))), ?_⟩
  refine ⟨rfl, hL, EErr (EL a) Q, fun cls d H' hE => ?_, h⟩
  obtain ⟨dx, C, fl, w1, v, rfl, hm, rfl, hx, q⟩ := hE
  cases List.mem_singleton.mp hm
  refine ⟨true, T.s_Mismatch_SortError.exm, fun _ a1 ha1 => ?_, fun z => nomatch z⟩
  refine ⟨_, rfl, _, dx, _, _, _, false, rfl, T.ec_Mismatch, rfl, hx, rfl, .own _, T.s_Mismatch_InvalidNumber.kit, false, rfl, iteF ⟨_, rfl, _, dx, _, _, _, true, rfl, T.ec_Mismatch, rfl, hx, rfl, .own _, T.s_Mismatch_Mismatch.kit, true, rfl, iteT ?_⟩⟩
  refine ⟨by show 2 ≤ sizeLine; decide, fun l hl => ?_⟩
  have s1 := same_upd (o := .lst [.str "number", .str "mismatch"]) hl
  have h1 : upd H' l (.lst [.str "number", .str "mismatch"]) l = some (.lst [.str "number", .str "mismatch"]) := upd_same
  have hx1 := s1 _ _ hx
  generalize upd H' l (.lst [.str "number", .str "mismatch"]) = H1 at s1 h1 hx1 ⊢
  refine ⟨_, rfl, _, dx, _, _, _, true, rfl, T.ec_Mismatch, rfl, hx1, rfl, .own _, T.s_Mismatch_Mismatch.kit, .inr ⟨_, rfl, l, _, _, _, rfl, rfl, L2.sq_of h1, atI_nat (j := 1) rfl, ?_⟩⟩
  exact ⟨_, rfl, rfl, rfl, dx, _, v, rfl, hx1, rfl, by show 2 ≤ sizeLine; decide, fun t ht => q t _ (s1.trans (same_upd ht)) upd_same⟩
end

end K38

namespace K38
open PySem PySem.Spec PyProof.Rows L2 
abbrev En (p : Addr) (H : Hp) (v : V) : Prop := ∃ r, EntQ p H v r
abbrev Th (p : Addr) (H : Hp) (v : V) : Prop := ∃ r, ThQ p H v r
theorem RowI.en {p : Addr} {H : Hp} {v : V} (h : RowI H v) : En p H v := by
  obtain ⟨t, s, f, g, rfl, h, _⟩ := h
  exact ⟨_, .tri h⟩
theorem src_tup {H H' : Hp} {p t : Addr} {xs : List V} (hS : SrcZ H p) (d : DnZ p H H') (h : H t = some (.tup xs)) : H' t = some (.tup xs) := d.1 _ _ (fun z => by
  obtain ⟨_, _, _, e⟩ := hS
  rw [z, e] at h
  cases h) h
theorem anyZ {H H' : Hp} {p : Addr} {v : V} {T : String} (h : AnyV H v T) (n : v ≠ .ref p) (d : DnZ p H H') : AnyV H' v T := by
  cases h with
  | non => exact .non
  | bl => exact .bl _
  | int => exact .int _
  | str => exact .str _
  | lst h => exact .lst (d.1 _ _ (fun e => n (congrArg V.ref e)) h)
  | tup h => exact .tup (d.1 _ _ (fun e => n (congrArg V.ref e)) h)
  | dK h => exact .dK (d.1 _ _ (fun e => n (congrArg V.ref e)) h)
theorem entZ {p : Addr} {H H' : Hp} {v : V} {r : Option Tri} (h : EntQ p H v r) (hS : SrcZ H p) (d : DnZ p H H') : EntQ p H' v r := by
  cases h with
  | tri h => exact .tri (src_tup hS d h)
  | odd h n m => exact .odd (anyZ h m d) n m
  | len h n m => exact .len (src_tup hS d h) n m
  | part h a b c e => exact .part (src_tup hS d h) a b c e
theorem thZ {p : Addr} {H H' : Hp} {v : V} {r : Option (List (Option Tri))} (h : ThQ p H v r) (hS : SrcZ H p) (d : DnZ p H H') : ThQ p H' v r := by
  cases h with
  | odd h n m o => exact .odd (anyZ h o d) n m o
  | row h n l k it => exact .row (h.imp (d.1 _ _ n) (d.1 _ _ n)) n l k fun i v r a b => entZ (it i v r a b) hS d
theorem En.same {p : Addr} {H H' : Hp} {v : V} (h : En p H v) (s : Same H H') : En p H' v := h.imp fun _ h => EntQ.same h s
theorem Th.same {p : Addr} {H H' : Hp} {v : V} (h : Th p H v) (s : Same H H') : Th p H' v := h.imp fun _ h => ThQ.same h s
theorem En.z {p : Addr} {H H' : Hp} {v : V} (h : En p H v) (hS : SrcZ H p) (d : DnZ p H H') : En p H' v := h.imp fun _ h => entZ h hS d
theorem Th.z {p : Addr} {H H' : Hp} {v : V} (h : Th p H v) (hS : SrcZ H p) (d : DnZ p H H') : Th p H' v := h.imp fun _ h => thZ h hS d
theorem rs_of {p : Addr} {H : Hp} : ∀ {xs : List V}, (∀ v ∈ xs, En p H v) → ∃ rs : List (Option Tri), xs.length = rs.length ∧ ∀ (i : Nat) (v : V) (r : Option Tri), xs[i]? = some v → rs[i]? = some r → EntQ p H v r
  | [], _ => ⟨[], rfl, fun i v r a _ => by simp at a⟩
  | x :: xs, h => by
    obtain ⟨r, hr⟩ := h x (List.mem_cons_self ..)
    obtain ⟨rs, l, it⟩ := rs_of fun v hv => h v (List.mem_cons_of_mem _ hv)
    refine ⟨r :: rs, by rw [List.length_cons, List.length_cons, l], fun i v r' a b => ?_⟩
    cases i with
    | zero =>
      rw [← Option.some.inj a, ← Option.some.inj b]
      exact hr
    | succ i => exact it i v r' a b
theorem th_row {p a : Addr} {H : Hp} {xs : List V} (h : RowAt H a xs) (n : a ≠ p) (l : xs.length ≤ 200) (it : ∀ v ∈ xs, En p H v) : Th p H (.ref a) := by
  obtain ⟨rs, e, it⟩ := rs_of it
  exact ⟨_, .row h n e l it⟩
/-- what a heap keeps while things are made -/
structure Sx (Pr : Addr → Hp → V → Prop) (p : Addr) (H0 B H : Hp) (xs acc : List V) : Prop where
  d : DnZ p H0 H
  s : Same B H
  x : ∀ v ∈ xs, En p H v
  o : ∀ v ∈ acc, Pr p H v
section
variable {Pr : Addr → Hp → V → Prop} {p t : Addr} {H0 B H H' : Hp} {xs acc : List V} {o : HO}
theorem Sx.ne (S : Sx Pr p H0 B H xs acc) (n : H t = none) : V.ref t ≠ V.ref p := fun e => S.d.2.ne n (V.ref.inj e)
theorem Sx.nl (S : Sx Pr p H0 B H xs acc) {ys : List V} (h : H t = some (.lst ys)) (n : H0 t = none) (hs : SrcZ H0 p) : t ≠ p := hs.ne n
theorem Sx.fresh {Pr' : Addr → Hp → V → Prop} (S : Sx Pr' p H0 B H xs acc) : Sx Pr p H0 H H xs [] := ⟨S.d, Same.refl _, S.x, fun v hv => by cases hv⟩
theorem Sx.add (S : Sx Pr p H0 B H xs acc) {v : V} (e : Pr p H v) : Sx Pr p H0 B H xs (acc ++ [v]) := ⟨S.d, S.s, S.x, fun u hu => by
  rcases List.mem_append.mp hu with hu | hu
  · exact S.o u hu
  · rw [List.mem_singleton.mp hu]
    exact e⟩
theorem Sx.same (S : Sx En p H0 B H xs acc) (s : Same H H') : Sx En p H0 B H' xs acc := ⟨S.d.same s, S.s.trans s, fun v hv => (S.x v hv).same s, fun v hv => (S.o v hv).same s⟩
theorem Sx.sameT (S : Sx Th p H0 B H xs acc) (s : Same H H') : Sx Th p H0 B H' xs acc := ⟨S.d.same s, S.s.trans s, fun v hv => (S.x v hv).same s, fun v hv => (S.o v hv).same s⟩
theorem Sx.put (S : Sx En p H0 B H xs acc) (n : H t = none) : Sx En p H0 B (upd H t o) xs acc := S.same (same_upd n)
theorem Sx.putT (S : Sx Th p H0 B H xs acc) (n : H t = none) : Sx Th p H0 B (upd H t o) xs acc := S.sameT (same_upd n)
theorem Sx.tri (S : Sx En p H0 B H xs acc) (n : H t = none) (b f g : Int) : Sx En p H0 B (upd H t (.tup [.int b, .int f, .int g])) xs (acc ++ [.ref t]) := (S.put n).add ⟨_, .tri upd_same⟩
theorem Sx.part (S : Sx En p H0 B H xs acc) (n : H t = none) {x y z : V} {dx dy dz : PyData} (lx : Lone x dx) (ly : Lone y dy) (lz : Lone z dz) (no : ¬ (isI x = true ∧ isI y = true ∧ isI z = true)) : Sx En p H0 B (upd H t (.tup [x, y, z])) xs (acc ++ [.ref t]) := (S.put n).add ⟨_, .part upd_same lx ly lz no⟩
theorem Sx.len (S : Sx En p H0 B H xs acc) (n : H t = none) {ys : List V} (h : ys.length ≠ 3) (h10 : ys.length ≤ 10) : Sx En p H0 B (upd H t (.tup ys)) xs (acc ++ [.ref t]) := (S.put n).add ⟨_, .len upd_same h h10⟩
theorem Sx.lstE (S : Sx En p H0 B H xs acc) (n : H t = none) {ys : List V} (ne : V.ref t ≠ V.ref p) : Sx En p H0 B (upd H t (.lst ys)) xs (acc ++ [.ref t]) := (S.put n).add ⟨_, .odd (.lst upd_same) (by decide) ne⟩
theorem Sx.row (S : Sx Th p H0 B H xs acc) (n : H t = none) {ys : List V} (it : ∀ v ∈ ys, En p H v) (l : ys.length ≤ 200) : Sx Th p H0 B (upd H t (.lst ys)) xs (acc ++ [.ref t]) := (S.putT n).add (th_row (.inl upd_same) (S.d.2.ne n) l fun v hv => (it v hv).same (same_upd n))
theorem Sx.tup0 (S : Sx Th p H0 B H xs acc) (n : H t = none) (ne : V.ref t ≠ V.ref p) : Sx Th p H0 B (upd H t (.tup [])) xs (acc ++ [.ref t]) := (S.putT n).add (th_row (.inr upd_same) (S.d.2.ne n) (by decide) fun v hv => by cases hv)
theorem Sx.dk (S : Sx Th p H0 B H xs acc) (n : H t = none) (ne : V.ref t ≠ V.ref p) : Sx Th p H0 B (upd H t (.dK [])) xs (acc ++ [.ref t]) := (S.putT n).add ⟨_, .odd (.dK upd_same) (by decide) (by decide) ne⟩
theorem Sx.cat (S : Sx En p H0 B H xs acc) {A : List V} (oA : ∀ v ∈ A, En p B v) : ∀ v ∈ A ++ acc, En p H v := fun v hv => by
  rcases List.mem_append.mp hv with hv | hv
  · exact (oA v hv).same S.s
  · exact S.o v hv
theorem Sx.catT (S : Sx Th p H0 B H xs acc) {A : List V} (oA : ∀ v ∈ A, Th p B v) : ∀ v ∈ A ++ acc, Th p H v := fun v hv => by
  rcases List.mem_append.mp hv with hv | hv
  · exact (oA v hv).same S.s
  · exact S.o v hv
theorem Sx.z (S : Sx Th p H0 B H xs acc) (d : DnZ p H H') : Sx Th p H0 H' H' xs acc := ⟨S.d.trans d, Same.refl _, fun v hv => (S.x v hv).z S.d.2 d, fun v hv => (S.o v hv).z S.d.2 d⟩
end
theorem th_deep {p e r : Addr} {H : Hp} {ys : List V} (h : H e = some (.lst [.ref r])) (g : H r = some (.lst ys)) (n : V.ref e ≠ V.ref p) (m : V.ref r ≠ V.ref p) : Th p H (.ref e) := th_row (.inl h) (fun z => n (congrArg V.ref z)) (by show 1 ≤ 200; decide) fun v hv => by
  rw [List.mem_singleton.mp hv]
  exact ⟨_, .odd (.lst g) (by decide) m⟩
theorem cutL {xs : List V} {lo hi : Option Int} {n : Nat} (h : xs.length ≤ n) : (cutV xs lo hi).length ≤ n := by
  unfold cutV
  rw [List.length_take, List.length_drop]
  omega
theorem revL {xs : List V} {n : Nat} (h : xs.length ≤ n) : xs.reverse.length ≤ n := by rw [List.length_reverse]; exact h
theorem sz2 {a b : List V} (ha : a.length ≤ 60) (hb : b.length ≤ 60) : a.length + b.length ≤ sizeLine := Nat.le_trans (by omega : _ ≤ 120) (by decide)
theorem sz3 {a b c : List V} (ha : a.length ≤ 60) (hb : b.length ≤ 60) (hc : c.length ≤ 60) : a.length + b.length + c.length ≤ sizeLine := Nat.le_trans (by omega : _ ≤ 180) (by decide)
theorem len2 {a b : List V} (ha : a.length ≤ 60) (hb : b.length ≤ 60) : (a ++ b).length ≤ 200 := by rw [List.length_append]; omega
theorem len3 {a b c : List V} (ha : a.length ≤ 60) (hb : b.length ≤ 60) (hc : c.length ≤ 60) : (a ++ b ++ c).length ≤ 200 := by rw [List.length_append, List.length_append]; omega
theorem app_le {A zs : List V} {n : Nat} (h : A.length ≤ n) : (A ++ zs).length ≤ n + zs.length := by rw [List.length_append]; omega
theorem app_pos {A zs : List V} (h : 0 < A.length) : 0 < (A ++ zs).length := by rw [List.length_append]; omega
theorem rep_mem {x v : V} (h : v ∈ (List.replicate (Int.toNat 3) [x]).flatten) : v ∈ [x] := by
  have h : v ∈ [x, x, x] := h
  simpa using h
theorem log_le {b : Int} (h : b.natAbs < 2 ^ 1000) : b.natAbs.log2 < 1920 := by
  by_cases z : b.natAbs = 0
  · rw [z]
    decide
  · have := (Nat.log2_lt z).mpr h
    omega
theorem way_dp {K : PySem.W.Frag} {H : Hp} : ∀ {xs : List V}, (∀ v ∈ xs, RowI H v) → ∃ ds, DpAll K H xs ds ∧ PyData.canLayAll0 ds = true ∧ PyData.depthAll ds ≤ 1 ∧ (xs ≠ [] → ds ≠ [])
  | [], _ => ⟨[], .nil, rfl, Nat.zero_le _, fun z => absurd rfl z⟩
  | x :: xs, h => by
    obtain ⟨ds, a, b, c, _⟩ := way_dp fun v hv => h v (List.mem_cons_of_mem _ hv)
    obtain ⟨t, s, f, g, rfl, ht, _⟩ := h x (List.mem_cons_self ..)
    refine ⟨triD (s, f, g) :: ds, .cons (.tup (L2.st_of ht) (.cons (Lone.int s).dp (.cons (Lone.int f).dp (.cons (Lone.int g).dp .nil)))) a, ?_, ?_, fun _ z => by cases z⟩
    · show (PyData.canLay0 (triD (s, f, g)) && PyData.canLayAll0 ds) = true
      rw [b]
      rfl
    · show max (PyData.depth (triD (s, f, g))) (PyData.depthAll ds) ≤ 1
      exact Nat.max_le.mpr ⟨Nat.le_refl 1, c⟩
def spSpoilt : Sp := fun vs H Q _ => ∃ (p l : Addr), vs = [.ref p, .ref l] ∧ SrcZ H p ∧ l ≠ p ∧ WayL H l ∧ ∀ v H' r, DnZ p H H' → ThQ p H' v r → Q v H'
section
variable {P : Program} {w : World} {K : PySem.W.Frag} {mg : Str → Option Value} {base : Heap} {a : Ad} {d : Fd}
theorem ok_spoilt (T : Txt K mg a d) : FnOk P w K mg base CX0 4 a.spoilt d.spoilt P_spoilt spSpoilt := by
  have G_deep : FnOk P w K mg base CX0 1 a.deep d.deep P_deep spDeep := ok_deep T
  have G_take : FnOk P w K mg base CX0 2 a.take d.take P_take spTake := ok_take T
  have G_pick : FnOk P w K mg base CX0 3 a.pick d.pick P_pick (spPick K) := ok_pick T
  refine T.f_spoilt.ok sc_spoilt (fun vs H Q E h => ?_) (fun cdv A outer s0 H vs Q E hr h => ?_)
  · obtain ⟨p, l, rfl, _⟩ := h
    rfl
  · obtain ⟨p, l, rfl, hs, nl, ⟨xs, kl, l60, rows⟩, q⟩ := h
    refine ⟨_, (pss_cons (ps_if (pt_cmpR (op_eqD hr.units) (pv 1) (pe_lst pa_nil) (nomark _)) (pss_one (ps_ret (pe_call G_pick (hr.mono (by decide)) (by rfl) T.g_pick T.k_pick T.b_pick .nil pass0 (pa_cons (pv 0) (pa_cons (pe_lst (pa_cons (pe_lst (pa_cons (pe_tup (pa_cons pe_int (pa_cons pe_int (pa_cons pe_int pa_nil)))) pa_nil)) (pa_cons (pe_lst (pa_cons pe_non pa_nil)) (pa_cons pe_non (pa_cons pe_dnewK (pa_cons (pe_tup pa_nil) (pa_cons pe_str (pa_cons (pe_lst (pa_cons (pe_tup pa_nil) pa_nil)) (pa_cons pe_int pa_nil))))))))) pa_nil))))) pss_nil)
    (pss_cons (ps_set (i := 2) sc_spoilt.nd rfl (Or.inl rfl) (pe_call G_take (hr.mono (by decide)) (by rfl) T.g_take T.k_take T.b_take .nil pass0 (pa_cons (pv 0) (pa_cons (pe_callB call_len_seq (by rfl) T.z_len PySem.boot_len (pa_cons (pv 1) pa_nil)) pa_nil))))
    (pss_cons (ps_asg (pe_ix ix_list (pv 1) (pv 2) (fun _ _ => rfl)) (pg_tup rfl (pgs_cons (pg_name (i := 3) sc_spoilt.nd rfl (Or.inl rfl)) (pgs_cons (pg_name (i := 4) sc_spoilt.nd rfl (Or.inl rfl)) (pgs_cons (pg_name (i := 5) sc_spoilt.nd rfl (Or.inl rfl)) pgs_nil)))))
    (pss_cons (ps_set (i := 6) sc_spoilt.nd rfl (Or.inl rfl) (pe_lst (pa_cons (pe_tup (pa_cons (pv 3) (pa_cons (pe_op op_add (pv 4) pe_int) (pa_cons (pv 5) pa_nil)))) (pa_cons (pe_tup (pa_cons (pv 3) (pa_cons (pv 4) (pa_cons (pe_op op_add (pv 5) pe_int) pa_nil)))) (pa_cons (pe_tup (pa_cons (pe_op op_add (pv 3) pe_int) (pa_cons (pv 4) (pa_cons (pv 5) pa_nil)))) (pa_cons (pe_tup (pa_cons (pv 3) (pa_cons (pv 5) (pa_cons (pv 4) pa_nil)))) pa_nil))))))
    (pss_cons (ps_set (i := 6) sc_spoilt.nd rfl (Or.inl rfl) (pe_op op_catS (pv 6) (pe_lst (pa_cons (pe_lst (pa_cons (pv 3) (pa_cons (pv 4) (pa_cons (pv 5) pa_nil)))) (pa_cons (pe_tup (pa_cons (pv 3) (pa_cons (pv 4) pa_nil))) (pa_cons pe_non (pa_cons (pe_tup (pa_cons (pv 3) (pa_cons (pv 4) (pa_cons pe_bl pa_nil)))) (pa_cons (pe_tup (pa_cons (pe_callTy call_str_int (by rfl) T.z_str (by decide +kernel) (pa_cons (pv 3) pa_nil)) (pa_cons (pv 4) (pa_cons (pv 5) pa_nil)))) (pa_cons (pe_tup pa_nil) pa_nil)))))))))
    (pss_cons (ps_set (i := 6) sc_spoilt.nd rfl (Or.inl rfl) (pe_op op_catS (pv 6) (pe_lst (pa_cons (pe_tup (pa_cons (pe_cmpR op_eq (pv 3) pe_int (nomark _)) (pa_cons (pv 4) (pa_cons (pv 5) pa_nil)))) (pa_cons (pe_tup (pa_cons (pv 3) (pa_cons (pe_cmpR op_eq (pv 4) pe_int (nomark _)) (pa_cons (pv 5) pa_nil)))) (pa_cons (pe_tup (pa_cons (pv 3) (pa_cons (pv 4) (pa_cons (pe_cmpR op_eq (pv 5) pe_int (nomark _)) pa_nil)))) pa_nil))))))
    (pss_cons (ps_set (i := 6) sc_spoilt.nd rfl (Or.inl rfl) (pe_op op_catS (pv 6) (pe_lst (pa_cons (pe_tup (pa_cons (pv 3) (pa_cons (pv 4) (pa_cons (pv 5) (pa_cons pe_int pa_nil))))) (pa_cons (pe_tup (pa_cons (pe_op op_sub pe_int (pv 3)) (pa_cons (pv 4) (pa_cons (pv 5) pa_nil)))) (pa_cons (pe_tup (pa_cons (pv 3) (pa_cons (pe_op op_sub pe_int (pv 4)) (pa_cons (pv 5) pa_nil)))) (pa_cons (pe_call0 G_deep (hr.mono (by decide)) (by rfl) T.g_deep T.k_deep T.b_deep .nil pass0) pa_nil)))))))
    (pss_cons (ps_set (i := 7) sc_spoilt.nd rfl (Or.inl rfl) (pe_op op_rep (pe_lst (pa_cons (pe_op op_catS (pe_op op_catS (pe_slice sl_list (pv 1) po_none (po_some (pv 2))) (pe_lst (pa_cons (pe_call G_pick (hr.mono (by decide)) (by rfl) T.g_pick T.k_pick T.b_pick .nil pass0 (pa_cons (pv 0) (pa_cons (pv 6) pa_nil))) pa_nil))) (pe_slice sl_list (pv 1) (po_some (pe_op op_add (pv 2) pe_int)) po_none)) pa_nil)) pe_int))
    (pss_cons (ps_set (i := 7) sc_spoilt.nd rfl (Or.inl rfl) (pe_op op_catS (pv 7) (pe_lst (pa_cons (pe_op op_catS (pe_slice sl_list (pv 1) po_none (po_some (pv 2))) (pe_slice sl_list (pv 1) (po_some (pe_op op_add (pv 2) pe_int)) po_none)) (pa_cons (pe_op op_catS (pe_op op_catS (pe_slice sl_list (pv 1) po_none (po_some (pv 2))) (pe_slice sl_list (pv 1) (po_some (pv 2)) (po_some (pe_op op_add (pv 2) pe_int)))) (pe_slice sl_list (pv 1) (po_some (pv 2)) po_none)) (pa_cons (pe_revL (pv 1)) (pa_cons (pe_op op_catS (pv 1) (pv 1)) pa_nil)))))))
    (pss_cons (ps_set (i := 7) sc_spoilt.nd rfl (Or.inl rfl) (pe_op op_catS (pv 7) (pe_lst (pa_cons (pe_op op_catS (pe_op op_catS (pe_slice sl_list (pv 1) po_none (po_some (pv 2))) (pe_revL (pe_slice sl_list (pv 1) (po_some (pv 2)) (po_some (pe_op op_add (pv 2) pe_int))))) (pe_slice sl_list (pv 1) (po_some (pe_op op_add (pv 2) pe_int)) po_none)) (pa_cons pe_non (pa_cons pe_dnewK (pa_cons pe_str (pa_cons (pe_call0 G_deep (hr.mono (by decide)) (by rfl) T.g_deep T.k_deep T.b_deep .nil pass0) (pa_cons (pe_lst pa_nil) (pa_cons pe_int pa_nil))))))))))
    (pss_one (ps_ret (pe_call G_pick (hr.mono (by decide)) (by rfl) T.g_pick T.k_pick T.b_pick .nil pass0 (pa_cons (pv 0) (pa_cons (pv 7) pa_nil))))))))))))))), ?_⟩
    refine ⟨_, rfl, by show 0 ≤ sizeLine; decide, fun e he => ?_⟩
    have s1 := same_upd (o := .lst []) he
    have d1 := (DnZ.refl hs).new (o := .lst []) he
    have kl := s1 _ _ kl
    have rows : ∀ v ∈ xs, RowI (upd H e (.lst [])) v := fun v hv => (rows v hv).keep fun _ _ => s1 _ _
    have E1 : upd H e (.lst []) e = some (.lst []) := upd_same
    generalize upd H e (.lst []) = H1 at d1 kl rows E1 ⊢
    clear s1 he
    by_cases c : xs = []
    case pos =>
      subst c
      refine ⟨.list [], .list [], .lst (L2.sq_of kl) .nil, .lst (L2.sq_of E1) .nil, by decide +kernel, by decide +kernel, true, rfl, iteT ?_⟩
      refine ⟨_, rfl, ?_⟩
      have S : Sx Th p H H1 H1 [] [] := .mk d1 (Same.refl _) (fun v hv => by cases hv) (fun v hv => by cases hv)
      refine ⟨by show 3 ≤ sizeLine; decide, fun u1 hu1 => ?_⟩
      have nu1 := S.d.2.ne hu1
      have S := S.putT (o := .tup [.int 0, .int 1, .int 1]) hu1
      have ku1 : upd H1 u1 (.tup [.int 0, .int 1, .int 1]) u1 = some (.tup [.int 0, .int 1, .int 1]) := upd_same
      generalize upd H1 u1 (.tup [.int 0, .int 1, .int 1]) = H2 at S ku1 ⊢
      refine ⟨by show 1 ≤ sizeLine; decide, fun u2 hu2 => ?_⟩
      have nu2 := S.d.2.ne hu2
      have S := S.row (ys := [.ref u1]) hu2 (fun v hv => by rw [List.mem_singleton.mp hv]; exact ⟨_, .tri ku1⟩) (by show 1 ≤ 200; decide)
      have ku1 := same_upd (o := .lst [.ref u1]) hu2 _ _ ku1
      have ku2 : upd H2 u2 (.lst [.ref u1]) u2 = some (.lst [.ref u1]) := upd_same
      generalize upd H2 u2 (.lst [.ref u1]) = H3 at S ku1 ku2 ⊢
      refine ⟨by show 1 ≤ sizeLine; decide, fun u3 hu3 => ?_⟩
      have nu3 := S.d.2.ne hu3
      have S := S.row (ys := [.non]) hu3 (fun v hv => by rw [List.mem_singleton.mp hv]; exact ⟨_, .odd .non (by decide) (fun z => by cases z)⟩) (by show 1 ≤ 200; decide)
      have ku3 : upd H3 u3 (.lst [.non]) u3 = some (.lst [.non]) := upd_same
      generalize upd H3 u3 (.lst [.non]) = H4 at S ku3 ⊢
      have S := S.add ⟨none, .odd .non (by decide) (by decide) (fun z => by cases z)⟩
      intro u4 hu4
      have nu4 := S.d.2.ne hu4
      have S := S.dk hu4 (S.ne hu4)
      have ku4 : upd H4 u4 (.dK []) u4 = some (.dK []) := upd_same
      generalize upd H4 u4 (.dK []) = H5 at S ku4 ⊢
      refine ⟨by show 0 ≤ sizeLine; decide, fun u5 hu5 => ?_⟩
      have nu5 := S.d.2.ne hu5
      have S := S.tup0 hu5 (S.ne hu5)
      have ku5 : upd H5 u5 (.tup []) u5 = some (.tup []) := upd_same
      generalize upd H5 u5 (.tup []) = H6 at S ku5 ⊢
      have S := S.add ⟨none, .odd (.str (Str.ofString "way")) (by decide) (by decide) (fun z => by cases z)⟩
      refine ⟨by show 0 ≤ sizeLine; decide, fun u6 hu6 => ?_⟩
      have nu6 := S.d.2.ne hu6
      have S := S.putT (o := .tup []) hu6
      have ku6 : upd H6 u6 (.tup []) u6 = some (.tup []) := upd_same
      generalize upd H6 u6 (.tup []) = H7 at S ku6 ⊢
      refine ⟨by show 1 ≤ sizeLine; decide, fun u7 hu7 => ?_⟩
      have nu7 := S.d.2.ne hu7
      have S := S.row (ys := [.ref u6]) hu7 (fun v hv => by rw [List.mem_singleton.mp hv]; exact ⟨_, .len ku6 (by decide) (by decide)⟩) (by show 1 ≤ 200; decide)
      have ku6 := same_upd (o := .lst [.ref u6]) hu7 _ _ ku6
      have ku7 : upd H7 u7 (.lst [.ref u6]) u7 = some (.lst [.ref u6]) := upd_same
      generalize upd H7 u7 (.lst [.ref u6]) = H8 at S ku6 ku7 ⊢
      have S := S.add ⟨none, .odd (.int 5) (by decide) (by decide) (fun z => by cases z)⟩
      refine ⟨by show 8 ≤ sizeLine; decide, fun u8 hu8 => ?_⟩
      have nu8 := S.d.2.ne hu8
      have S := S.putT (o := .lst [.ref u2, .ref u3, .non, .ref u4, .ref u5, .str (Str.ofString "way"), .ref u7, .int 5]) hu8
      have ku8 : upd H8 u8 (.lst [.ref u2, .ref u3, .non, .ref u4, .ref u5, .str (Str.ofString "way"), .ref u7, .int 5]) u8 = some (.lst [.ref u2, .ref u3, .non, .ref u4, .ref u5, .str (Str.ofString "way"), .ref u7, .int 5]) := upd_same
      generalize upd H8 u8 (.lst [.ref u2, .ref u3, .non, .ref u4, .ref u5, .str (Str.ofString "way"), .ref u7, .int 5]) = H9 at S ku8 ⊢
      have nM := nu8
      refine ⟨p, u8, _, rfl, S.d.2, nM, L2.sq_of ku8, by show 0 < 8; decide, by show 8 < 2 ^ 60; decide, fun v1 H10 hv1 dz => ?_⟩
      obtain ⟨r, hr1⟩ := (S.o v1 hv1).z S.d.2 dz
      exact q v1 _ r (S.d.trans dz) hr1
    obtain ⟨ds, dp, c1, c2, c3⟩ := way_dp (K := K) rows
    refine ⟨.list ds, .list [], .lst (L2.sq_of kl) dp, .lst (L2.sq_of E1) .nil, shaped_of c1 (by show PyData.depthAll ds + 1 ≤ 64; omega), by decide +kernel, false, ?_, iteF ?_⟩
    · cases ds with
      | nil => exact absurd rfl (c3 c)
      | cons u us => rfl
    have x0 : 0 < xs.length := List.length_pos_iff.mpr c
    refine ⟨_, rfl, _, rfl, l, xs, rfl, .inl (L2.sq_of kl), p, _, rfl, d1.2, by omega, by rw [Int.natAbs_natCast]; exact Nat.lt_of_le_of_lt l60 (by decide), fun v x y z v0 v1 => ?_⟩
    obtain ⟨i, rfl⟩ : ∃ i : Nat, v = (i : Int) := ⟨v.toNat, by omega⟩
    have i1 : i < xs.length := by omega
    have dz1 : DnZ p H1 (upd H1 p (.lst [.int x, .int y, .int z])) := .put
    have d2 := d1.trans dz1
    have rows : ∀ v ∈ xs, RowI (upd H1 p (.lst [.int x, .int y, .int z])) v := fun v hv => (rows v hv).keep fun _ _ => src_tup d1.2 dz1
    have kl := dz1.1 _ _ nl kl
    generalize upd H1 p (.lst [.int x, .int y, .int z]) = H2 at d2 rows kl ⊢
    clear d1 dz1 E1 dp
    obtain ⟨t0, b, f, g, e0, ht0, bb⟩ := rows xs[i] (List.getElem_mem _)
    have g0 : xs[i]? = some (.ref t0) := by rw [← e0]; exact List.getElem?_eq_getElem i1
    refine ⟨_, rfl, _, rfl, l, xs, _, _, rfl, rfl, L2.sq_of kl, atI_nat g0, t0, _, rfl, L2.st_of ht0, rfl, _, _, rfl, _, _, rfl, _, _, rfl, rfl, ?_⟩
    have S : Sx En p H H2 H2 xs [] := .mk d2 (Same.refl _) (fun v hv => (rows v hv).en) (fun v hv => by cases hv)
    refine ⟨_, rfl, _, rfl, _, _, rfl, rfl, _, rfl, by show 3 ≤ sizeLine; decide, fun t1 ht1 => ?_⟩
    have nt1 := S.d.2.ne ht1
    have S := S.tri ht1 b (f + 1) g
    have kl := same_upd (o := .tup [.int b, .int (f + 1), .int g]) ht1 _ _ kl
    have kt1 : upd H2 t1 (.tup [.int b, .int (f + 1), .int g]) t1 = some (.tup [.int b, .int (f + 1), .int g]) := upd_same
    generalize upd H2 t1 (.tup [.int b, .int (f + 1), .int g]) = H3 at S kl kt1 ⊢
    refine ⟨_, rfl, _, rfl, _, rfl, _, _, rfl, rfl, by show 3 ≤ sizeLine; decide, fun t2 ht2 => ?_⟩
    have nt2 := S.d.2.ne ht2
    have S := S.tri ht2 b f (g + 1)
    have kl := same_upd (o := .tup [.int b, .int f, .int (g + 1)]) ht2 _ _ kl
    have kt2 : upd H3 t2 (.tup [.int b, .int f, .int (g + 1)]) t2 = some (.tup [.int b, .int f, .int (g + 1)]) := upd_same
    generalize upd H3 t2 (.tup [.int b, .int f, .int (g + 1)]) = H4 at S kl kt2 ⊢
    refine ⟨_, rfl, _, _, rfl, rfl, _, rfl, _, rfl, by show 3 ≤ sizeLine; decide, fun t3 ht3 => ?_⟩
    have nt3 := S.d.2.ne ht3
    have S := S.tri ht3 (b + 1) f g
    have kl := same_upd (o := .tup [.int (b + 1), .int f, .int g]) ht3 _ _ kl
    have kt3 : upd H4 t3 (.tup [.int (b + 1), .int f, .int g]) t3 = some (.tup [.int (b + 1), .int f, .int g]) := upd_same
    generalize upd H4 t3 (.tup [.int (b + 1), .int f, .int g]) = H5 at S kl kt3 ⊢
    refine ⟨_, rfl, _, rfl, _, rfl, by show 3 ≤ sizeLine; decide, fun t4 ht4 => ?_⟩
    have nt4 := S.d.2.ne ht4
    have S := S.tri ht4 b g f
    have kl := same_upd (o := .tup [.int b, .int g, .int f]) ht4 _ _ kl
    have kt4 : upd H5 t4 (.tup [.int b, .int g, .int f]) t4 = some (.tup [.int b, .int g, .int f]) := upd_same
    generalize upd H5 t4 (.tup [.int b, .int g, .int f]) = H6 at S kl kt4 ⊢
    refine ⟨by show 4 ≤ sizeLine; decide, fun O1 hO1 => ?_⟩
    have nO1 := S.d.2.ne hO1
    have S := S.put (o := .lst [.ref t1, .ref t2, .ref t3, .ref t4]) hO1
    have kl := same_upd (o := .lst [.ref t1, .ref t2, .ref t3, .ref t4]) hO1 _ _ kl
    have kO : upd H6 O1 (.lst [.ref t1, .ref t2, .ref t3, .ref t4]) O1 = some (.lst [.ref t1, .ref t2, .ref t3, .ref t4]) := upd_same
    generalize upd H6 O1 (.lst [.ref t1, .ref t2, .ref t3, .ref t4]) = H7 at S kl kO ⊢
    obtain ⟨A, kO, lA, l0A, oA⟩ : ∃ A, H7 O1 = some (.lst A) ∧ A.length ≤ 4 ∧ 0 < A.length ∧ ∀ v ∈ A, En p H7 v := ⟨_, kO, Nat.le_refl 4, by show 0 < 4; decide, S.o⟩
    -- odd 2
    have S := S.fresh (Pr := En)
    refine ⟨_, rfl, ?_⟩
    refine ⟨_, rfl, _, rfl, _, rfl, by show 3 ≤ sizeLine; decide, fun l2 hl2 => ?_⟩
    have nl2 := S.d.2.ne hl2
    have S := S.lstE (ys := [.int b, .int f, .int g]) hl2 (S.ne hl2)
    have kl := same_upd (o := .lst [.int b, .int f, .int g]) hl2 _ _ kl
    have kO := same_upd (o := .lst [.int b, .int f, .int g]) hl2 _ _ kO
    have kl2 : upd H7 l2 (.lst [.int b, .int f, .int g]) l2 = some (.lst [.int b, .int f, .int g]) := upd_same
    generalize upd H7 l2 (.lst [.int b, .int f, .int g]) = H8 at S kl kO kl2 ⊢
    refine ⟨_, rfl, _, rfl, by show 2 ≤ sizeLine; decide, fun t5 ht5 => ?_⟩
    have nt5 := S.d.2.ne ht5
    have S := S.len (ys := [.int b, .int f]) ht5 (by show 2 ≠ 3; decide) (by show 2 ≤ 10; decide)
    have kl := same_upd (o := .tup [.int b, .int f]) ht5 _ _ kl
    have kO := same_upd (o := .tup [.int b, .int f]) ht5 _ _ kO
    have kt5 : upd H8 t5 (.tup [.int b, .int f]) t5 = some (.tup [.int b, .int f]) := upd_same
    generalize upd H8 t5 (.tup [.int b, .int f]) = H9 at S kl kO kt5 ⊢
    have S := S.add ⟨none, .odd .non (by decide) (fun z => by cases z)⟩
    refine ⟨_, rfl, _, rfl, by show 3 ≤ sizeLine; decide, fun t6 ht6 => ?_⟩
    have nt6 := S.d.2.ne ht6
    have S := S.part (x := .int b) (y := .int f) (z := .bl true) ht6 (.int _) (.int _) (.bl _) (fun z => by cases z.2.2)
    have kl := same_upd (o := .tup [.int b, .int f, .bl true]) ht6 _ _ kl
    have kO := same_upd (o := .tup [.int b, .int f, .bl true]) ht6 _ _ kO
    have kt6 : upd H9 t6 (.tup [.int b, .int f, .bl true]) t6 = some (.tup [.int b, .int f, .bl true]) := upd_same
    generalize upd H9 t6 (.tup [.int b, .int f, .bl true]) = H10 at S kl kO kt6 ⊢
    refine ⟨_, rfl, _, rfl, log_le bb, _, rfl, _, rfl, by show 3 ≤ sizeLine; decide, fun t7 ht7 => ?_⟩
    have nt7 := S.d.2.ne ht7
    have S := S.part (x := .str (toString b)) (y := .int f) (z := .int g) ht7 (.str _ (strOk_of _)) (.int _) (.int _) (fun z => by cases z.1)
    have kl := same_upd (o := .tup [.str (toString b), .int f, .int g]) ht7 _ _ kl
    have kO := same_upd (o := .tup [.str (toString b), .int f, .int g]) ht7 _ _ kO
    have kt7 : upd H10 t7 (.tup [.str (toString b), .int f, .int g]) t7 = some (.tup [.str (toString b), .int f, .int g]) := upd_same
    generalize upd H10 t7 (.tup [.str (toString b), .int f, .int g]) = H11 at S kl kO kt7 ⊢
    refine ⟨by show 0 ≤ sizeLine; decide, fun t8 ht8 => ?_⟩
    have nt8 := S.d.2.ne ht8
    have S := S.len (ys := []) ht8 (by decide) (by decide)
    have kl := same_upd (o := .tup []) ht8 _ _ kl
    have kO := same_upd (o := .tup []) ht8 _ _ kO
    have kt8 : upd H11 t8 (.tup []) t8 = some (.tup []) := upd_same
    generalize upd H11 t8 (.tup []) = H12 at S kl kO kt8 ⊢
    refine ⟨by show 6 ≤ sizeLine; decide, fun P2 hP2 => ?_⟩
    have nP2 := S.d.2.ne hP2
    have S := S.put (o := .lst [.ref l2, .ref t5, .non, .ref t6, .ref t7, .ref t8]) hP2
    have kl := same_upd (o := .lst [.ref l2, .ref t5, .non, .ref t6, .ref t7, .ref t8]) hP2 _ _ kl
    have kO := same_upd (o := .lst [.ref l2, .ref t5, .non, .ref t6, .ref t7, .ref t8]) hP2 _ _ kO
    have kP2 : upd H12 P2 (.lst [.ref l2, .ref t5, .non, .ref t6, .ref t7, .ref t8]) P2 = some (.lst [.ref l2, .ref t5, .non, .ref t6, .ref t7, .ref t8]) := upd_same
    generalize upd H12 P2 (.lst [.ref l2, .ref t5, .non, .ref t6, .ref t7, .ref t8]) = H13 at S kl kO kP2 ⊢
    refine ⟨O1, P2, A, _, rfl, rfl, L2.sq_of kO, L2.sq_of kP2, Nat.le_trans (Nat.add_le_add_right lA _) (by show 4 + 6 ≤ sizeLine; decide), fun O2 hO2 => ?_⟩
    have nO2 := S.d.2.ne hO2
    have S := S.put (o := .lst (A ++ [.ref l2, .ref t5, .non, .ref t6, .ref t7, .ref t8])) hO2
    have kl := same_upd (o := .lst (A ++ [.ref l2, .ref t5, .non, .ref t6, .ref t7, .ref t8])) hO2 _ _ kl
    have kO := same_upd (o := .lst (A ++ [.ref l2, .ref t5, .non, .ref t6, .ref t7, .ref t8])) hO2 _ _ kO
    have kQ : upd H13 O2 (.lst (A ++ [.ref l2, .ref t5, .non, .ref t6, .ref t7, .ref t8])) O2 = some (.lst (A ++ [.ref l2, .ref t5, .non, .ref t6, .ref t7, .ref t8])) := upd_same
    generalize upd H13 O2 (.lst (A ++ [.ref l2, .ref t5, .non, .ref t6, .ref t7, .ref t8])) = H14 at S kl kO kQ ⊢
    have oA : ∀ v ∈ A ++ [V.ref l2, V.ref t5, V.non, V.ref t6, V.ref t7, V.ref t8], En p H14 v := S.cat oA
    clear kO
    have lA : (A ++ [V.ref l2, V.ref t5, V.non, V.ref t6, V.ref t7, V.ref t8]).length ≤ 10 := app_le (zs := [V.ref l2, V.ref t5, V.non, V.ref t6, V.ref t7, V.ref t8]) lA
    have l0A := app_pos (zs := [V.ref l2, V.ref t5, V.non, V.ref t6, V.ref t7, V.ref t8]) l0A
    generalize A ++ [V.ref l2, V.ref t5, V.non, V.ref t6, V.ref t7, V.ref t8] = A at kQ lA l0A oA
    have kO := kQ
    clear kQ
    -- odd 3
    have S := S.fresh (Pr := En)
    refine ⟨_, rfl, ?_⟩
    refine ⟨_, rfl, rfl, _, rfl, _, rfl, by show 3 ≤ sizeLine; decide, fun t9 ht9 => ?_⟩
    have nt9 := S.d.2.ne ht9
    have S := S.part (x := .bl (decide (V.int b = V.int 1))) (y := .int f) (z := .int g) ht9 (.bl _) (.int _) (.int _) (fun z => by cases z.1)
    have kl := same_upd (o := .tup [.bl (decide (V.int b = V.int 1)), .int f, .int g]) ht9 _ _ kl
    have kO := same_upd (o := .tup [.bl (decide (V.int b = V.int 1)), .int f, .int g]) ht9 _ _ kO
    have kt9 : upd H14 t9 (.tup [.bl (decide (V.int b = V.int 1)), .int f, .int g]) t9 = some (.tup [.bl (decide (V.int b = V.int 1)), .int f, .int g]) := upd_same
    generalize upd H14 t9 (.tup [.bl (decide (V.int b = V.int 1)), .int f, .int g]) = H15 at S kl kO kt9 ⊢
    refine ⟨_, rfl, _, rfl, rfl, _, rfl, by show 3 ≤ sizeLine; decide, fun ta hta => ?_⟩
    have nta := S.d.2.ne hta
    have S := S.part (x := .int b) (y := .bl (decide (V.int f = V.int 1))) (z := .int g) hta (.int _) (.bl _) (.int _) (fun z => by cases z.2.1)
    have kl := same_upd (o := .tup [.int b, .bl (decide (V.int f = V.int 1)), .int g]) hta _ _ kl
    have kO := same_upd (o := .tup [.int b, .bl (decide (V.int f = V.int 1)), .int g]) hta _ _ kO
    have kta : upd H15 ta (.tup [.int b, .bl (decide (V.int f = V.int 1)), .int g]) ta = some (.tup [.int b, .bl (decide (V.int f = V.int 1)), .int g]) := upd_same
    generalize upd H15 ta (.tup [.int b, .bl (decide (V.int f = V.int 1)), .int g]) = H16 at S kl kO kta ⊢
    refine ⟨_, rfl, _, rfl, _, rfl, rfl, by show 3 ≤ sizeLine; decide, fun tb htb => ?_⟩
    have ntb := S.d.2.ne htb
    have S := S.part (x := .int b) (y := .int f) (z := .bl (decide (V.int g = V.int 1))) htb (.int _) (.int _) (.bl _) (fun z => by cases z.2.2)
    have kl := same_upd (o := .tup [.int b, .int f, .bl (decide (V.int g = V.int 1))]) htb _ _ kl
    have kO := same_upd (o := .tup [.int b, .int f, .bl (decide (V.int g = V.int 1))]) htb _ _ kO
    have ktb : upd H16 tb (.tup [.int b, .int f, .bl (decide (V.int g = V.int 1))]) tb = some (.tup [.int b, .int f, .bl (decide (V.int g = V.int 1))]) := upd_same
    generalize upd H16 tb (.tup [.int b, .int f, .bl (decide (V.int g = V.int 1))]) = H17 at S kl kO ktb ⊢
    refine ⟨by show 3 ≤ sizeLine; decide, fun P3 hP3 => ?_⟩
    have nP3 := S.d.2.ne hP3
    have S := S.put (o := .lst [.ref t9, .ref ta, .ref tb]) hP3
    have kl := same_upd (o := .lst [.ref t9, .ref ta, .ref tb]) hP3 _ _ kl
    have kO := same_upd (o := .lst [.ref t9, .ref ta, .ref tb]) hP3 _ _ kO
    have kP3 : upd H17 P3 (.lst [.ref t9, .ref ta, .ref tb]) P3 = some (.lst [.ref t9, .ref ta, .ref tb]) := upd_same
    generalize upd H17 P3 (.lst [.ref t9, .ref ta, .ref tb]) = H18 at S kl kO kP3 ⊢
    refine ⟨O2, P3, A, _, rfl, rfl, L2.sq_of kO, L2.sq_of kP3, Nat.le_trans (Nat.add_le_add_right lA _) (by show 10 + 3 ≤ sizeLine; decide), fun O3 hO3 => ?_⟩
    have nO3 := S.d.2.ne hO3
    have S := S.put (o := .lst (A ++ [.ref t9, .ref ta, .ref tb])) hO3
    have kl := same_upd (o := .lst (A ++ [.ref t9, .ref ta, .ref tb])) hO3 _ _ kl
    have kO := same_upd (o := .lst (A ++ [.ref t9, .ref ta, .ref tb])) hO3 _ _ kO
    have kQ : upd H18 O3 (.lst (A ++ [.ref t9, .ref ta, .ref tb])) O3 = some (.lst (A ++ [.ref t9, .ref ta, .ref tb])) := upd_same
    generalize upd H18 O3 (.lst (A ++ [.ref t9, .ref ta, .ref tb])) = H19 at S kl kO kQ ⊢
    have oA : ∀ v ∈ A ++ [V.ref t9, V.ref ta, V.ref tb], En p H19 v := S.cat oA
    clear kO
    have lA : (A ++ [V.ref t9, V.ref ta, V.ref tb]).length ≤ 13 := app_le (zs := [V.ref t9, V.ref ta, V.ref tb]) lA
    have l0A := app_pos (zs := [V.ref t9, V.ref ta, V.ref tb]) l0A
    generalize A ++ [V.ref t9, V.ref ta, V.ref tb] = A at kQ lA l0A oA
    have kO := kQ
    clear kQ
    -- odd 4
    have S := S.fresh (Pr := En)
    refine ⟨_, rfl, ?_⟩
    refine ⟨_, rfl, _, rfl, _, rfl, by show 4 ≤ sizeLine; decide, fun tc htc => ?_⟩
    have ntc := S.d.2.ne htc
    have S := S.len (ys := [.int b, .int f, .int g, .int 0]) htc (by show 4 ≠ 3; decide) (by show 4 ≤ 10; decide)
    have kl := same_upd (o := .tup [.int b, .int f, .int g, .int 0]) htc _ _ kl
    have kO := same_upd (o := .tup [.int b, .int f, .int g, .int 0]) htc _ _ kO
    have ktc : upd H19 tc (.tup [.int b, .int f, .int g, .int 0]) tc = some (.tup [.int b, .int f, .int g, .int 0]) := upd_same
    generalize upd H19 tc (.tup [.int b, .int f, .int g, .int 0]) = H20 at S kl kO ktc ⊢
    refine ⟨_, rfl, _, _, rfl, rfl, _, rfl, _, rfl, by show 3 ≤ sizeLine; decide, fun td htd => ?_⟩
    have ntd := S.d.2.ne htd
    have S := S.tri htd (0 - b) f g
    have kl := same_upd (o := .tup [.int (0 - b), .int f, .int g]) htd _ _ kl
    have kO := same_upd (o := .tup [.int (0 - b), .int f, .int g]) htd _ _ kO
    have ktd : upd H20 td (.tup [.int (0 - b), .int f, .int g]) td = some (.tup [.int (0 - b), .int f, .int g]) := upd_same
    generalize upd H20 td (.tup [.int (0 - b), .int f, .int g]) = H21 at S kl kO ktd ⊢
    refine ⟨_, rfl, _, rfl, _, _, rfl, rfl, _, rfl, by show 3 ≤ sizeLine; decide, fun te hte => ?_⟩
    have nte := S.d.2.ne hte
    have S := S.tri hte b (0 - f) g
    have kl := same_upd (o := .tup [.int b, .int (0 - f), .int g]) hte _ _ kl
    have kO := same_upd (o := .tup [.int b, .int (0 - f), .int g]) hte _ _ kO
    have kte : upd H21 te (.tup [.int b, .int (0 - f), .int g]) te = some (.tup [.int b, .int (0 - f), .int g]) := upd_same
    generalize upd H21 te (.tup [.int b, .int (0 - f), .int g]) = H22 at S kl kO kte ⊢
    refine ⟨rfl, fun td1 qtd1 ytd1 H23 std1 ntd1 mtd1 htd1 gtd1 => ?_⟩
    have kl := std1 _ _ kl
    have kO := std1 _ _ kO
    have ndtd1 := S.ne ntd1
    have metd1 := S.ne mtd1
    have S := S.same std1
    clear std1 ntd1 mtd1
    have S := S.add ⟨none, .odd (.lst htd1) (by decide) ndtd1⟩
    refine ⟨by show 4 ≤ sizeLine; decide, fun P4 hP4 => ?_⟩
    have nP4 := S.d.2.ne hP4
    have S := S.put (o := .lst [.ref tc, .ref td, .ref te, .ref td1]) hP4
    have kl := same_upd (o := .lst [.ref tc, .ref td, .ref te, .ref td1]) hP4 _ _ kl
    have kO := same_upd (o := .lst [.ref tc, .ref td, .ref te, .ref td1]) hP4 _ _ kO
    have kP4 : upd H23 P4 (.lst [.ref tc, .ref td, .ref te, .ref td1]) P4 = some (.lst [.ref tc, .ref td, .ref te, .ref td1]) := upd_same
    generalize upd H23 P4 (.lst [.ref tc, .ref td, .ref te, .ref td1]) = H24 at S kl kO kP4 ⊢
    refine ⟨O3, P4, A, _, rfl, rfl, L2.sq_of kO, L2.sq_of kP4, Nat.le_trans (Nat.add_le_add_right lA _) (by show 13 + 4 ≤ sizeLine; decide), fun O4 hO4 => ?_⟩
    have nO4 := S.d.2.ne hO4
    have S := S.put (o := .lst (A ++ [.ref tc, .ref td, .ref te, .ref td1])) hO4
    have kl := same_upd (o := .lst (A ++ [.ref tc, .ref td, .ref te, .ref td1])) hO4 _ _ kl
    have kO := same_upd (o := .lst (A ++ [.ref tc, .ref td, .ref te, .ref td1])) hO4 _ _ kO
    have kQ : upd H24 O4 (.lst (A ++ [.ref tc, .ref td, .ref te, .ref td1])) O4 = some (.lst (A ++ [.ref tc, .ref td, .ref te, .ref td1])) := upd_same
    generalize upd H24 O4 (.lst (A ++ [.ref tc, .ref td, .ref te, .ref td1])) = H25 at S kl kO kQ ⊢
    have oA : ∀ v ∈ A ++ [V.ref tc, V.ref td, V.ref te, V.ref td1], En p H25 v := S.cat oA
    clear kO
    have lA : (A ++ [V.ref tc, V.ref td, V.ref te, V.ref td1]).length ≤ 17 := app_le (zs := [V.ref tc, V.ref td, V.ref te, V.ref td1]) lA
    have l0A := app_pos (zs := [V.ref tc, V.ref td, V.ref te, V.ref td1]) l0A
    generalize A ++ [V.ref tc, V.ref td, V.ref te, V.ref td1] = A at kQ lA l0A oA
    have kO := kQ
    clear kQ
    -- made 1
    have S := S.fresh (Pr := Th)
    have nO := nO4
    refine ⟨_, rfl, _, rfl, _, rfl, l, xs, rfl, L2.sq_of kl, fun c1 hc1 => ?_⟩
    have nc1 := S.d.2.ne hc1
    have S := S.putT (o := .lst (cutV xs none (some (i : Int)))) hc1
    have kl := same_upd (o := .lst (cutV xs none (some (i : Int)))) hc1 _ _ kl
    have kO := same_upd (o := .lst (cutV xs none (some (i : Int)))) hc1 _ _ kO
    have kc1 : upd H25 c1 (.lst (cutV xs none (some (i : Int)))) c1 = some (.lst (cutV xs none (some (i : Int)))) := upd_same
    generalize upd H25 c1 (.lst (cutV xs none (some (i : Int)))) = H26 at S kl kO kc1 ⊢
    refine ⟨_, rfl, _, rfl, p, O4, A, rfl, S.d.2, nO, L2.sq_of kO, l0A, Nat.lt_of_le_of_lt lA (by decide), fun v0 H27 hv0 dz => ?_⟩
    have kc1 := dz.1 _ _ nc1 kc1
    have kl := dz.1 _ _ nl kl
    have ea := ((oA v0 hv0).same S.s).z S.d.2 dz
    have S := S.z dz
    clear kO dz oA
    refine ⟨by show 1 ≤ sizeLine; decide, fun c2 hc2 => ?_⟩
    have nc2 := S.d.2.ne hc2
    have S := S.putT (o := .lst [v0]) hc2
    have kl := same_upd (o := .lst [v0]) hc2 _ _ kl
    have kc1 := same_upd (o := .lst [v0]) hc2 _ _ kc1
    have kc2 : upd H27 c2 (.lst [v0]) c2 = some (.lst [v0]) := upd_same
    generalize upd H27 c2 (.lst [v0]) = H28 at S kl kc1 kc2 ⊢
    refine ⟨c1, c2, _, _, rfl, rfl, L2.sq_of kc1, L2.sq_of kc2, sz2 (cutL l60) (by show 1 ≤ 60; decide : [v0].length ≤ 60), fun c3 hc3 => ?_⟩
    have nc3 := S.d.2.ne hc3
    have S := S.putT (o := .lst (cutV xs none (some (i : Int)) ++ [v0])) hc3
    have kl := same_upd (o := .lst (cutV xs none (some (i : Int)) ++ [v0])) hc3 _ _ kl
    have kc1 := same_upd (o := .lst (cutV xs none (some (i : Int)) ++ [v0])) hc3 _ _ kc1
    have kc2 := same_upd (o := .lst (cutV xs none (some (i : Int)) ++ [v0])) hc3 _ _ kc2
    have kc3 : upd H28 c3 (.lst (cutV xs none (some (i : Int)) ++ [v0])) c3 = some (.lst (cutV xs none (some (i : Int)) ++ [v0])) := upd_same
    generalize upd H28 c3 (.lst (cutV xs none (some (i : Int)) ++ [v0])) = H29 at S kl kc1 kc2 kc3 ⊢
    refine ⟨_, rfl, _, rfl, _, _, rfl, rfl, _, rfl, l, xs, rfl, L2.sq_of kl, fun c4 hc4 => ?_⟩
    have nc4 := S.d.2.ne hc4
    have S := S.putT (o := .lst (cutV xs (some ((i : Int) + 1)) none)) hc4
    have kl := same_upd (o := .lst (cutV xs (some ((i : Int) + 1)) none)) hc4 _ _ kl
    have kc3 := same_upd (o := .lst (cutV xs (some ((i : Int) + 1)) none)) hc4 _ _ kc3
    have kc4 : upd H29 c4 (.lst (cutV xs (some ((i : Int) + 1)) none)) c4 = some (.lst (cutV xs (some ((i : Int) + 1)) none)) := upd_same
    generalize upd H29 c4 (.lst (cutV xs (some ((i : Int) + 1)) none)) = H30 at S kl kc3 kc4 ⊢
    refine ⟨c3, c4, _, _, rfl, rfl, L2.sq_of kc3, L2.sq_of kc4, by rw [List.length_append]; exact sz3 (cutL l60) (by show 1 ≤ 60; decide : [v0].length ≤ 60) (cutL l60), fun c5 hc5 => ?_⟩
    have nc5 := S.d.2.ne hc5
    have S := S.row (ys := (cutV xs none (some (i : Int)) ++ [v0] ++ cutV xs (some ((i : Int) + 1)) none)) hc5 (fun v hv => by
      rcases List.mem_append.mp hv with hv | hv
      · rcases List.mem_append.mp hv with hv | hv
        · exact S.x v (cut_mem hv)
        · rw [List.mem_singleton.mp hv]; exact ea.same S.s
      · exact S.x v (cut_mem hv)) (len3 (cutL l60) (by show 1 ≤ 60; decide : [v0].length ≤ 60) (cutL l60))
    have kl := same_upd (o := .lst (cutV xs none (some (i : Int)) ++ [v0] ++ cutV xs (some ((i : Int) + 1)) none)) hc5 _ _ kl
    have kc3 := same_upd (o := .lst (cutV xs none (some (i : Int)) ++ [v0] ++ cutV xs (some ((i : Int) + 1)) none)) hc5 _ _ kc3
    have kc4 := same_upd (o := .lst (cutV xs none (some (i : Int)) ++ [v0] ++ cutV xs (some ((i : Int) + 1)) none)) hc5 _ _ kc4
    have kc5 : upd H30 c5 (.lst (cutV xs none (some (i : Int)) ++ [v0] ++ cutV xs (some ((i : Int) + 1)) none)) c5 = some (.lst (cutV xs none (some (i : Int)) ++ [v0] ++ cutV xs (some ((i : Int) + 1)) none)) := upd_same
    generalize upd H30 c5 (.lst (cutV xs none (some (i : Int)) ++ [v0] ++ cutV xs (some ((i : Int) + 1)) none)) = H31 at S kl kc3 kc4 kc5 ⊢
    refine ⟨by show 1 ≤ sizeLine; decide, fun m1 hm1 => ?_⟩
    have nm1 := S.d.2.ne hm1
    have S := S.putT (o := .lst [.ref c5]) hm1
    have kl := same_upd (o := .lst [.ref c5]) hm1 _ _ kl
    have km1 : upd H31 m1 (.lst [.ref c5]) m1 = some (.lst [.ref c5]) := upd_same
    generalize upd H31 m1 (.lst [.ref c5]) = H32 at S kl km1 ⊢
    refine ⟨m1, 3, _, rfl, rfl, km1, by decide, by decide, by show 1 * 3 ≤ sizeLine; decide, fun M1 hM1 => ?_⟩
    have nM1 := S.d.2.ne hM1
    have S := S.putT (o := .lst (List.replicate (Int.toNat 3) [V.ref c5]).flatten) hM1
    have kl := same_upd (o := .lst (List.replicate (Int.toNat 3) [V.ref c5]).flatten) hM1 _ _ kl
    have kM : upd H32 M1 (.lst (List.replicate (Int.toNat 3) [V.ref c5]).flatten) M1 = some (.lst (List.replicate (Int.toNat 3) [V.ref c5]).flatten) := upd_same
    generalize upd H32 M1 (.lst (List.replicate (Int.toNat 3) [V.ref c5]).flatten) = H33 at S kl kM ⊢
    have oM : ∀ v ∈ (List.replicate (Int.toNat 3) [V.ref c5]).flatten, Th p H33 v := fun v hv => S.o v (rep_mem hv)
    have l0M : 0 < ((List.replicate (Int.toNat 3) [V.ref c5]).flatten).length := by show 0 < 3; decide
    have lM : ((List.replicate (Int.toNat 3) [V.ref c5]).flatten).length ≤ 3 := Nat.le_refl 3
    generalize (List.replicate (Int.toNat 3) [V.ref c5]).flatten = M at kM oM lM l0M
    -- made 2
    have S := S.fresh (Pr := Th)
    refine ⟨_, rfl, ?_⟩
    refine ⟨_, rfl, _, rfl, _, rfl, l, xs, rfl, L2.sq_of kl, fun a1 ha1 => ?_⟩
    have na1 := S.d.2.ne ha1
    have S := S.putT (o := .lst (cutV xs none (some (i : Int)))) ha1
    have kl := same_upd (o := .lst (cutV xs none (some (i : Int)))) ha1 _ _ kl
    have kM := same_upd (o := .lst (cutV xs none (some (i : Int)))) ha1 _ _ kM
    have ka1 : upd H33 a1 (.lst (cutV xs none (some (i : Int)))) a1 = some (.lst (cutV xs none (some (i : Int)))) := upd_same
    generalize upd H33 a1 (.lst (cutV xs none (some (i : Int)))) = H34 at S kl kM ka1 ⊢
    refine ⟨_, rfl, _, rfl, _, _, rfl, rfl, _, rfl, l, xs, rfl, L2.sq_of kl, fun a2 ha2 => ?_⟩
    have na2 := S.d.2.ne ha2
    have S := S.putT (o := .lst (cutV xs (some ((i : Int) + 1)) none)) ha2
    have kl := same_upd (o := .lst (cutV xs (some ((i : Int) + 1)) none)) ha2 _ _ kl
    have kM := same_upd (o := .lst (cutV xs (some ((i : Int) + 1)) none)) ha2 _ _ kM
    have ka1 := same_upd (o := .lst (cutV xs (some ((i : Int) + 1)) none)) ha2 _ _ ka1
    have ka2 : upd H34 a2 (.lst (cutV xs (some ((i : Int) + 1)) none)) a2 = some (.lst (cutV xs (some ((i : Int) + 1)) none)) := upd_same
    generalize upd H34 a2 (.lst (cutV xs (some ((i : Int) + 1)) none)) = H35 at S kl kM ka1 ka2 ⊢
    refine ⟨a1, a2, _, _, rfl, rfl, L2.sq_of ka1, L2.sq_of ka2, sz2 (cutL l60) (cutL l60), fun a3 ha3 => ?_⟩
    have na3 := S.d.2.ne ha3
    have S := S.row (ys := (cutV xs none (some (i : Int)) ++ cutV xs (some ((i : Int) + 1)) none)) ha3 (fun v hv => (List.mem_append.mp hv).elim (fun hv => S.x v (cut_mem hv)) fun hv => S.x v (cut_mem hv)) (len2 (cutL l60) (cutL l60))
    have kl := same_upd (o := .lst (cutV xs none (some (i : Int)) ++ cutV xs (some ((i : Int) + 1)) none)) ha3 _ _ kl
    have kM := same_upd (o := .lst (cutV xs none (some (i : Int)) ++ cutV xs (some ((i : Int) + 1)) none)) ha3 _ _ kM
    have ka1 := same_upd (o := .lst (cutV xs none (some (i : Int)) ++ cutV xs (some ((i : Int) + 1)) none)) ha3 _ _ ka1
    have ka2 := same_upd (o := .lst (cutV xs none (some (i : Int)) ++ cutV xs (some ((i : Int) + 1)) none)) ha3 _ _ ka2
    have ka3 : upd H35 a3 (.lst (cutV xs none (some (i : Int)) ++ cutV xs (some ((i : Int) + 1)) none)) a3 = some (.lst (cutV xs none (some (i : Int)) ++ cutV xs (some ((i : Int) + 1)) none)) := upd_same
    generalize upd H35 a3 (.lst (cutV xs none (some (i : Int)) ++ cutV xs (some ((i : Int) + 1)) none)) = H36 at S kl kM ka1 ka2 ka3 ⊢
    refine ⟨_, rfl, _, rfl, _, rfl, l, xs, rfl, L2.sq_of kl, fun b1 hb1 => ?_⟩
    have nb1 := S.d.2.ne hb1
    have S := S.putT (o := .lst (cutV xs none (some (i : Int)))) hb1
    have kl := same_upd (o := .lst (cutV xs none (some (i : Int)))) hb1 _ _ kl
    have kM := same_upd (o := .lst (cutV xs none (some (i : Int)))) hb1 _ _ kM
    have kb1 : upd H36 b1 (.lst (cutV xs none (some (i : Int)))) b1 = some (.lst (cutV xs none (some (i : Int)))) := upd_same
    generalize upd H36 b1 (.lst (cutV xs none (some (i : Int)))) = H37 at S kl kM kb1 ⊢
    refine ⟨_, rfl, _, rfl, _, rfl, _, rfl, _, _, rfl, rfl, _, rfl, l, xs, rfl, L2.sq_of kl, fun b2 hb2 => ?_⟩
    have nb2 := S.d.2.ne hb2
    have S := S.putT (o := .lst (cutV xs (some (i : Int)) (some ((i : Int) + 1)))) hb2
    have kl := same_upd (o := .lst (cutV xs (some (i : Int)) (some ((i : Int) + 1)))) hb2 _ _ kl
    have kM := same_upd (o := .lst (cutV xs (some (i : Int)) (some ((i : Int) + 1)))) hb2 _ _ kM
    have kb1 := same_upd (o := .lst (cutV xs (some (i : Int)) (some ((i : Int) + 1)))) hb2 _ _ kb1
    have kb2 : upd H37 b2 (.lst (cutV xs (some (i : Int)) (some ((i : Int) + 1)))) b2 = some (.lst (cutV xs (some (i : Int)) (some ((i : Int) + 1)))) := upd_same
    generalize upd H37 b2 (.lst (cutV xs (some (i : Int)) (some ((i : Int) + 1)))) = H38 at S kl kM kb1 kb2 ⊢
    refine ⟨b1, b2, _, _, rfl, rfl, L2.sq_of kb1, L2.sq_of kb2, sz2 (cutL l60) (cutL l60), fun b3 hb3 => ?_⟩
    have nb3 := S.d.2.ne hb3
    have S := S.putT (o := .lst (cutV xs none (some (i : Int)) ++ cutV xs (some (i : Int)) (some ((i : Int) + 1)))) hb3
    have kl := same_upd (o := .lst (cutV xs none (some (i : Int)) ++ cutV xs (some (i : Int)) (some ((i : Int) + 1)))) hb3 _ _ kl
    have kM := same_upd (o := .lst (cutV xs none (some (i : Int)) ++ cutV xs (some (i : Int)) (some ((i : Int) + 1)))) hb3 _ _ kM
    have kb1 := same_upd (o := .lst (cutV xs none (some (i : Int)) ++ cutV xs (some (i : Int)) (some ((i : Int) + 1)))) hb3 _ _ kb1
    have kb2 := same_upd (o := .lst (cutV xs none (some (i : Int)) ++ cutV xs (some (i : Int)) (some ((i : Int) + 1)))) hb3 _ _ kb2
    have kb3 : upd H38 b3 (.lst (cutV xs none (some (i : Int)) ++ cutV xs (some (i : Int)) (some ((i : Int) + 1)))) b3 = some (.lst (cutV xs none (some (i : Int)) ++ cutV xs (some (i : Int)) (some ((i : Int) + 1)))) := upd_same
    generalize upd H38 b3 (.lst (cutV xs none (some (i : Int)) ++ cutV xs (some (i : Int)) (some ((i : Int) + 1)))) = H39 at S kl kM kb1 kb2 kb3 ⊢
    refine ⟨_, rfl, _, rfl, _, rfl, l, xs, rfl, L2.sq_of kl, fun b4 hb4 => ?_⟩
    have nb4 := S.d.2.ne hb4
    have S := S.putT (o := .lst (cutV xs (some (i : Int)) none)) hb4
    have kl := same_upd (o := .lst (cutV xs (some (i : Int)) none)) hb4 _ _ kl
    have kM := same_upd (o := .lst (cutV xs (some (i : Int)) none)) hb4 _ _ kM
    have kb3 := same_upd (o := .lst (cutV xs (some (i : Int)) none)) hb4 _ _ kb3
    have kb4 : upd H39 b4 (.lst (cutV xs (some (i : Int)) none)) b4 = some (.lst (cutV xs (some (i : Int)) none)) := upd_same
    generalize upd H39 b4 (.lst (cutV xs (some (i : Int)) none)) = H40 at S kl kM kb3 kb4 ⊢
    refine ⟨b3, b4, _, _, rfl, rfl, L2.sq_of kb3, L2.sq_of kb4, by rw [List.length_append]; exact sz3 (cutL l60) (cutL l60) (cutL l60), fun b5 hb5 => ?_⟩
    have nb5 := S.d.2.ne hb5
    have S := S.row (ys := (cutV xs none (some (i : Int)) ++ cutV xs (some (i : Int)) (some ((i : Int) + 1)) ++ cutV xs (some (i : Int)) none)) hb5 (fun v hv => by
      rcases List.mem_append.mp hv with hv | hv
      · rcases List.mem_append.mp hv with hv | hv
        · exact S.x v (cut_mem hv)
        · exact S.x v (cut_mem hv)
      · exact S.x v (cut_mem hv)) (len3 (cutL l60) (cutL l60) (cutL l60))
    have kl := same_upd (o := .lst (cutV xs none (some (i : Int)) ++ cutV xs (some (i : Int)) (some ((i : Int) + 1)) ++ cutV xs (some (i : Int)) none)) hb5 _ _ kl
    have kM := same_upd (o := .lst (cutV xs none (some (i : Int)) ++ cutV xs (some (i : Int)) (some ((i : Int) + 1)) ++ cutV xs (some (i : Int)) none)) hb5 _ _ kM
    have kb3 := same_upd (o := .lst (cutV xs none (some (i : Int)) ++ cutV xs (some (i : Int)) (some ((i : Int) + 1)) ++ cutV xs (some (i : Int)) none)) hb5 _ _ kb3
    have kb4 := same_upd (o := .lst (cutV xs none (some (i : Int)) ++ cutV xs (some (i : Int)) (some ((i : Int) + 1)) ++ cutV xs (some (i : Int)) none)) hb5 _ _ kb4
    have kb5 : upd H40 b5 (.lst (cutV xs none (some (i : Int)) ++ cutV xs (some (i : Int)) (some ((i : Int) + 1)) ++ cutV xs (some (i : Int)) none)) b5 = some (.lst (cutV xs none (some (i : Int)) ++ cutV xs (some (i : Int)) (some ((i : Int) + 1)) ++ cutV xs (some (i : Int)) none)) := upd_same
    generalize upd H40 b5 (.lst (cutV xs none (some (i : Int)) ++ cutV xs (some (i : Int)) (some ((i : Int) + 1)) ++ cutV xs (some (i : Int)) none)) = H41 at S kl kM kb3 kb4 kb5 ⊢
    refine ⟨_, rfl, l, xs, rfl, L2.sq_of kl, fun b6 hb6 => ?_⟩
    have nb6 := S.d.2.ne hb6
    have S := S.row (ys := xs.reverse) hb6 (fun v hv => S.x v (List.mem_reverse.mp hv)) (by rw [List.length_reverse]; omega)
    have kl := same_upd (o := .lst xs.reverse) hb6 _ _ kl
    have kM := same_upd (o := .lst xs.reverse) hb6 _ _ kM
    have kb6 : upd H41 b6 (.lst xs.reverse) b6 = some (.lst xs.reverse) := upd_same
    generalize upd H41 b6 (.lst xs.reverse) = H42 at S kl kM kb6 ⊢
    refine ⟨_, rfl, _, rfl, l, l, _, _, rfl, rfl, L2.sq_of kl, L2.sq_of kl, sz2 l60 l60, fun b7 hb7 => ?_⟩
    have nb7 := S.d.2.ne hb7
    have S := S.row (ys := (xs ++ xs)) hb7 (fun v hv => (List.mem_append.mp hv).elim (S.x v) (S.x v)) (len2 l60 l60)
    have kl := same_upd (o := .lst (xs ++ xs)) hb7 _ _ kl
    have kM := same_upd (o := .lst (xs ++ xs)) hb7 _ _ kM
    have kb7 : upd H42 b7 (.lst (xs ++ xs)) b7 = some (.lst (xs ++ xs)) := upd_same
    generalize upd H42 b7 (.lst (xs ++ xs)) = H43 at S kl kM kb7 ⊢
    refine ⟨by show 4 ≤ sizeLine; decide, fun R2 hR2 => ?_⟩
    have nR2 := S.d.2.ne hR2
    have S := S.putT (o := .lst [.ref a3, .ref b5, .ref b6, .ref b7]) hR2
    have kl := same_upd (o := .lst [.ref a3, .ref b5, .ref b6, .ref b7]) hR2 _ _ kl
    have kM := same_upd (o := .lst [.ref a3, .ref b5, .ref b6, .ref b7]) hR2 _ _ kM
    have kR2 : upd H43 R2 (.lst [.ref a3, .ref b5, .ref b6, .ref b7]) R2 = some (.lst [.ref a3, .ref b5, .ref b6, .ref b7]) := upd_same
    generalize upd H43 R2 (.lst [.ref a3, .ref b5, .ref b6, .ref b7]) = H44 at S kl kM kR2 ⊢
    refine ⟨M1, R2, M, _, rfl, rfl, L2.sq_of kM, L2.sq_of kR2, Nat.le_trans (Nat.add_le_add_right lM _) (by show 3 + 4 ≤ sizeLine; decide), fun M2 hM2 => ?_⟩
    have nM2 := S.d.2.ne hM2
    have S := S.putT (o := .lst (M ++ [.ref a3, .ref b5, .ref b6, .ref b7])) hM2
    have kl := same_upd (o := .lst (M ++ [.ref a3, .ref b5, .ref b6, .ref b7])) hM2 _ _ kl
    have kM := same_upd (o := .lst (M ++ [.ref a3, .ref b5, .ref b6, .ref b7])) hM2 _ _ kM
    have kN : upd H44 M2 (.lst (M ++ [.ref a3, .ref b5, .ref b6, .ref b7])) M2 = some (.lst (M ++ [.ref a3, .ref b5, .ref b6, .ref b7])) := upd_same
    generalize upd H44 M2 (.lst (M ++ [.ref a3, .ref b5, .ref b6, .ref b7])) = H45 at S kl kM kN ⊢
    have oM : ∀ v ∈ M ++ [V.ref a3, V.ref b5, V.ref b6, V.ref b7], Th p H45 v := S.catT oM
    clear kM
    have lM : (M ++ [V.ref a3, V.ref b5, V.ref b6, V.ref b7]).length ≤ 7 := app_le (zs := [V.ref a3, V.ref b5, V.ref b6, V.ref b7]) lM
    have l0M := app_pos (zs := [V.ref a3, V.ref b5, V.ref b6, V.ref b7]) l0M
    generalize M ++ [V.ref a3, V.ref b5, V.ref b6, V.ref b7] = M at kN lM l0M oM
    have kM := kN
    clear kN
    -- made 3
    have S := S.fresh (Pr := Th)
    refine ⟨_, rfl, ?_⟩
    refine ⟨_, rfl, _, rfl, _, rfl, l, xs, rfl, L2.sq_of kl, fun e1 he1 => ?_⟩
    have ne1 := S.d.2.ne he1
    have S := S.putT (o := .lst (cutV xs none (some (i : Int)))) he1
    have kl := same_upd (o := .lst (cutV xs none (some (i : Int)))) he1 _ _ kl
    have kM := same_upd (o := .lst (cutV xs none (some (i : Int)))) he1 _ _ kM
    have ke1 : upd H45 e1 (.lst (cutV xs none (some (i : Int)))) e1 = some (.lst (cutV xs none (some (i : Int)))) := upd_same
    generalize upd H45 e1 (.lst (cutV xs none (some (i : Int)))) = H46 at S kl kM ke1 ⊢
    refine ⟨_, rfl, _, rfl, _, rfl, _, rfl, _, _, rfl, rfl, _, rfl, l, xs, rfl, L2.sq_of kl, fun e2 he2 => ?_⟩
    have ne2 := S.d.2.ne he2
    have S := S.putT (o := .lst (cutV xs (some (i : Int)) (some ((i : Int) + 2)))) he2
    have kl := same_upd (o := .lst (cutV xs (some (i : Int)) (some ((i : Int) + 2)))) he2 _ _ kl
    have kM := same_upd (o := .lst (cutV xs (some (i : Int)) (some ((i : Int) + 2)))) he2 _ _ kM
    have ke1 := same_upd (o := .lst (cutV xs (some (i : Int)) (some ((i : Int) + 2)))) he2 _ _ ke1
    have ke2 : upd H46 e2 (.lst (cutV xs (some (i : Int)) (some ((i : Int) + 2)))) e2 = some (.lst (cutV xs (some (i : Int)) (some ((i : Int) + 2)))) := upd_same
    generalize upd H46 e2 (.lst (cutV xs (some (i : Int)) (some ((i : Int) + 2)))) = H47 at S kl kM ke1 ke2 ⊢
    refine ⟨e2, _, rfl, L2.sq_of ke2, fun e3 he3 => ?_⟩
    have ne3 := S.d.2.ne he3
    have S := S.putT (o := .lst (cutV xs (some (i : Int)) (some ((i : Int) + 2))).reverse) he3
    have kl := same_upd (o := .lst (cutV xs (some (i : Int)) (some ((i : Int) + 2))).reverse) he3 _ _ kl
    have kM := same_upd (o := .lst (cutV xs (some (i : Int)) (some ((i : Int) + 2))).reverse) he3 _ _ kM
    have ke1 := same_upd (o := .lst (cutV xs (some (i : Int)) (some ((i : Int) + 2))).reverse) he3 _ _ ke1
    have ke2 := same_upd (o := .lst (cutV xs (some (i : Int)) (some ((i : Int) + 2))).reverse) he3 _ _ ke2
    have ke3 : upd H47 e3 (.lst (cutV xs (some (i : Int)) (some ((i : Int) + 2))).reverse) e3 = some (.lst (cutV xs (some (i : Int)) (some ((i : Int) + 2))).reverse) := upd_same
    generalize upd H47 e3 (.lst (cutV xs (some (i : Int)) (some ((i : Int) + 2))).reverse) = H48 at S kl kM ke1 ke2 ke3 ⊢
    refine ⟨e1, e3, _, _, rfl, rfl, L2.sq_of ke1, L2.sq_of ke3, sz2 (cutL l60) (revL (cutL l60)), fun e4 he4 => ?_⟩
    have ne4 := S.d.2.ne he4
    have S := S.putT (o := .lst (cutV xs none (some (i : Int)) ++ (cutV xs (some (i : Int)) (some ((i : Int) + 2))).reverse)) he4
    have kl := same_upd (o := .lst (cutV xs none (some (i : Int)) ++ (cutV xs (some (i : Int)) (some ((i : Int) + 2))).reverse)) he4 _ _ kl
    have kM := same_upd (o := .lst (cutV xs none (some (i : Int)) ++ (cutV xs (some (i : Int)) (some ((i : Int) + 2))).reverse)) he4 _ _ kM
    have ke1 := same_upd (o := .lst (cutV xs none (some (i : Int)) ++ (cutV xs (some (i : Int)) (some ((i : Int) + 2))).reverse)) he4 _ _ ke1
    have ke3 := same_upd (o := .lst (cutV xs none (some (i : Int)) ++ (cutV xs (some (i : Int)) (some ((i : Int) + 2))).reverse)) he4 _ _ ke3
    have ke4 : upd H48 e4 (.lst (cutV xs none (some (i : Int)) ++ (cutV xs (some (i : Int)) (some ((i : Int) + 2))).reverse)) e4 = some (.lst (cutV xs none (some (i : Int)) ++ (cutV xs (some (i : Int)) (some ((i : Int) + 2))).reverse)) := upd_same
    generalize upd H48 e4 (.lst (cutV xs none (some (i : Int)) ++ (cutV xs (some (i : Int)) (some ((i : Int) + 2))).reverse)) = H49 at S kl kM ke1 ke3 ke4 ⊢
    refine ⟨_, rfl, _, rfl, _, _, rfl, rfl, _, rfl, l, xs, rfl, L2.sq_of kl, fun e5 he5 => ?_⟩
    have ne5 := S.d.2.ne he5
    have S := S.putT (o := .lst (cutV xs (some ((i : Int) + 2)) none)) he5
    have kl := same_upd (o := .lst (cutV xs (some ((i : Int) + 2)) none)) he5 _ _ kl
    have kM := same_upd (o := .lst (cutV xs (some ((i : Int) + 2)) none)) he5 _ _ kM
    have ke4 := same_upd (o := .lst (cutV xs (some ((i : Int) + 2)) none)) he5 _ _ ke4
    have ke5 : upd H49 e5 (.lst (cutV xs (some ((i : Int) + 2)) none)) e5 = some (.lst (cutV xs (some ((i : Int) + 2)) none)) := upd_same
    generalize upd H49 e5 (.lst (cutV xs (some ((i : Int) + 2)) none)) = H50 at S kl kM ke4 ke5 ⊢
    refine ⟨e4, e5, _, _, rfl, rfl, L2.sq_of ke4, L2.sq_of ke5, by rw [List.length_append]; exact sz3 (cutL l60) (revL (cutL l60)) (cutL l60), fun e6 he6 => ?_⟩
    have ne6 := S.d.2.ne he6
    have S := S.row (ys := (cutV xs none (some (i : Int)) ++ (cutV xs (some (i : Int)) (some ((i : Int) + 2))).reverse ++ cutV xs (some ((i : Int) + 2)) none)) he6 (fun v hv => by
      rcases List.mem_append.mp hv with hv | hv
      · rcases List.mem_append.mp hv with hv | hv
        · exact S.x v (cut_mem hv)
        · exact S.x v (cut_mem (List.mem_reverse.mp hv))
      · exact S.x v (cut_mem hv)) (len3 (cutL l60) (revL (cutL l60)) (cutL l60))
    have kl := same_upd (o := .lst (cutV xs none (some (i : Int)) ++ (cutV xs (some (i : Int)) (some ((i : Int) + 2))).reverse ++ cutV xs (some ((i : Int) + 2)) none)) he6 _ _ kl
    have kM := same_upd (o := .lst (cutV xs none (some (i : Int)) ++ (cutV xs (some (i : Int)) (some ((i : Int) + 2))).reverse ++ cutV xs (some ((i : Int) + 2)) none)) he6 _ _ kM
    have ke4 := same_upd (o := .lst (cutV xs none (some (i : Int)) ++ (cutV xs (some (i : Int)) (some ((i : Int) + 2))).reverse ++ cutV xs (some ((i : Int) + 2)) none)) he6 _ _ ke4
    have ke5 := same_upd (o := .lst (cutV xs none (some (i : Int)) ++ (cutV xs (some (i : Int)) (some ((i : Int) + 2))).reverse ++ cutV xs (some ((i : Int) + 2)) none)) he6 _ _ ke5
    have ke6 : upd H50 e6 (.lst (cutV xs none (some (i : Int)) ++ (cutV xs (some (i : Int)) (some ((i : Int) + 2))).reverse ++ cutV xs (some ((i : Int) + 2)) none)) e6 = some (.lst (cutV xs none (some (i : Int)) ++ (cutV xs (some (i : Int)) (some ((i : Int) + 2))).reverse ++ cutV xs (some ((i : Int) + 2)) none)) := upd_same
    generalize upd H50 e6 (.lst (cutV xs none (some (i : Int)) ++ (cutV xs (some (i : Int)) (some ((i : Int) + 2))).reverse ++ cutV xs (some ((i : Int) + 2)) none)) = H51 at S kl kM ke4 ke5 ke6 ⊢
    have S := S.add ⟨none, .odd .non (by decide) (by decide) (fun z => by cases z)⟩
    intro e7 he7
    have ne7 := S.d.2.ne he7
    have S := S.dk he7 (S.ne he7)
    have kl := same_upd (o := .dK []) he7 _ _ kl
    have kM := same_upd (o := .dK []) he7 _ _ kM
    have ke7 : upd H51 e7 (.dK []) e7 = some (.dK []) := upd_same
    generalize upd H51 e7 (.dK []) = H52 at S kl kM ke7 ⊢
    have S := S.add ⟨none, .odd (.str (Str.ofString "way")) (by decide) (by decide) (fun z => by cases z)⟩
    refine ⟨rfl, fun e8 qe8 ye8 H53 se8 ne8 me8 he8 ge8 => ?_⟩
    have kl := se8 _ _ kl
    have kM := se8 _ _ kM
    have nde8 := S.ne ne8
    have mee8 := S.ne me8
    have S := S.sameT se8
    clear se8 ne8 me8
    have S := S.add (th_deep he8 ge8 nde8 mee8)
    refine ⟨by show 0 ≤ sizeLine; decide, fun e9 he9 => ?_⟩
    have ne9 := S.d.2.ne he9
    have S := S.row (ys := []) he9 (fun v hv => by cases hv) (by decide)
    have kl := same_upd (o := .lst []) he9 _ _ kl
    have kM := same_upd (o := .lst []) he9 _ _ kM
    have ke9 : upd H53 e9 (.lst []) e9 = some (.lst []) := upd_same
    generalize upd H53 e9 (.lst []) = H54 at S kl kM ke9 ⊢
    have S := S.add ⟨none, .odd (.int 7) (by decide) (by decide) (fun z => by cases z)⟩
    refine ⟨by show 7 ≤ sizeLine; decide, fun R3 hR3 => ?_⟩
    have nR3 := S.d.2.ne hR3
    have S := S.putT (o := .lst [.ref e6, .non, .ref e7, .str (Str.ofString "way"), .ref e8, .ref e9, .int 7]) hR3
    have kl := same_upd (o := .lst [.ref e6, .non, .ref e7, .str (Str.ofString "way"), .ref e8, .ref e9, .int 7]) hR3 _ _ kl
    have kM := same_upd (o := .lst [.ref e6, .non, .ref e7, .str (Str.ofString "way"), .ref e8, .ref e9, .int 7]) hR3 _ _ kM
    have kR3 : upd H54 R3 (.lst [.ref e6, .non, .ref e7, .str (Str.ofString "way"), .ref e8, .ref e9, .int 7]) R3 = some (.lst [.ref e6, .non, .ref e7, .str (Str.ofString "way"), .ref e8, .ref e9, .int 7]) := upd_same
    generalize upd H54 R3 (.lst [.ref e6, .non, .ref e7, .str (Str.ofString "way"), .ref e8, .ref e9, .int 7]) = H55 at S kl kM kR3 ⊢
    refine ⟨M2, R3, M, _, rfl, rfl, L2.sq_of kM, L2.sq_of kR3, Nat.le_trans (Nat.add_le_add_right lM _) (by show 7 + 7 ≤ sizeLine; decide), fun M3 hM3 => ?_⟩
    have nM3 := S.d.2.ne hM3
    have S := S.putT (o := .lst (M ++ [.ref e6, .non, .ref e7, .str (Str.ofString "way"), .ref e8, .ref e9, .int 7])) hM3
    have kl := same_upd (o := .lst (M ++ [.ref e6, .non, .ref e7, .str (Str.ofString "way"), .ref e8, .ref e9, .int 7])) hM3 _ _ kl
    have kM := same_upd (o := .lst (M ++ [.ref e6, .non, .ref e7, .str (Str.ofString "way"), .ref e8, .ref e9, .int 7])) hM3 _ _ kM
    have kN : upd H55 M3 (.lst (M ++ [.ref e6, .non, .ref e7, .str (Str.ofString "way"), .ref e8, .ref e9, .int 7])) M3 = some (.lst (M ++ [.ref e6, .non, .ref e7, .str (Str.ofString "way"), .ref e8, .ref e9, .int 7])) := upd_same
    generalize upd H55 M3 (.lst (M ++ [.ref e6, .non, .ref e7, .str (Str.ofString "way"), .ref e8, .ref e9, .int 7])) = H56 at S kl kM kN ⊢
    have oM : ∀ v ∈ M ++ [V.ref e6, V.non, V.ref e7, V.str (Str.ofString "way"), V.ref e8, V.ref e9, V.int 7], Th p H56 v := S.catT oM
    clear kM
    have lM : (M ++ [V.ref e6, V.non, V.ref e7, V.str (Str.ofString "way"), V.ref e8, V.ref e9, V.int 7]).length ≤ 14 := app_le (zs := [V.ref e6, V.non, V.ref e7, V.str (Str.ofString "way"), V.ref e8, V.ref e9, V.int 7]) lM
    have l0M := app_pos (zs := [V.ref e6, V.non, V.ref e7, V.str (Str.ofString "way"), V.ref e8, V.ref e9, V.int 7]) l0M
    generalize M ++ [V.ref e6, V.non, V.ref e7, V.str (Str.ofString "way"), V.ref e8, V.ref e9, V.int 7] = M at kN lM l0M oM
    have kM := kN
    clear kN
    have nM := nM3
    refine ⟨_, rfl, _, rfl, p, M3, M, rfl, S.d.2, nM, L2.sq_of kM, l0M, Nat.lt_of_le_of_lt lM (by decide), fun v1 H57 hv1 dz => ?_⟩
    obtain ⟨r, hr1⟩ := (oM v1 hv1).z S.d.2 dz
    exact q v1 _ r (S.d.trans dz) hr1
end

end K38

namespace K38
open PySem PySem.Spec PyProof.Rows L2 LamX
theorem hm_judged (a : Ad) : (a.lp_judged, (envOfC "_law_judged" (defScope s_judged) 0 0 .none).qual ++ ("<lambda>" : Str)) ∈ LT a := by
  rw [show (envOfC "_law_judged" (defScope s_judged) 0 0 .none).qual ++ ("<lambda>" : Str) = lq_judged from by decide +kernel]
  exact List.Mem.head _
theorem hm_law (a : Ad) : (a.lp_law, (envOfC "law" (defScope s_law) 0 0 .none).qual ++ ("<lambda>" : Str)) ∈ LT a := by
  rw [show (envOfC "law" (defScope s_law) 0 0 .none).qual ++ ("<lambda>" : Str) = lq_law from by decide +kernel]
  exact List.Mem.tail _ (List.Mem.head _)
theorem lt_cases {a : Ad} {p : Addr × Str} (hp : p ∈ LT a) : p = (a.lp_judged, lq_judged) ∨ p = (a.lp_law, lq_law) := by
  rcases List.mem_cons.mp hp with h | hp
  · exact .inl h
  exact .inr (List.mem_singleton.mp hp)
section
variable {K : PySem.W.Frag} {mg : Str → Option Value} {a : Ad} {d : Fd}
theorem hu_judged (T : Txt K mg a d) : ∀ p ∈ LT a, p.1 = a.lp_judged → p.2 = (envOfC "_law_judged" (defScope s_judged) 0 0 .none).qual ++ ("<lambda>" : Str) := fun p hp e => by
  rw [show (envOfC "_law_judged" (defScope s_judged) 0 0 .none).qual ++ ("<lambda>" : Str) = lq_judged from by decide +kernel]
  rcases lt_cases hp with rfl | rfl
  · rfl
  · exact absurd e.symm T.lne_judged_law
theorem hu_law (T : Txt K mg a d) : ∀ p ∈ LT a, p.1 = a.lp_law → p.2 = (envOfC "law" (defScope s_law) 0 0 .none).qual ++ ("<lambda>" : Str) := fun p hp e => by
  rw [show (envOfC "law" (defScope s_law) 0 0 .none).qual ++ ("<lambda>" : Str) = lq_law from by decide +kernel]
  rcases lt_cases hp with rfl | rfl
  · exact absurd e T.lne_judged_law
  · rfl
end
/-- where two ways differ -/
def Diff (rs : List (Option Tri)) (js : List (Nat × Nat × Nat)) (k : Nat) : Prop := ∃ r j, rs[k]? = some r ∧ js[k]? = some j ∧ ¬ SameJ r j
def Places (rs : List (Option Tri)) (js : List (Nat × Nat × Nat)) (n : Nat) (ks : List Nat) : Prop := ks.Pairwise (· < ·) ∧ (∀ k, k ∈ ks ↔ k < n ∧ Diff rs js k)
theorem Places.first {rs : List (Option Tri)} {js : List (Nat × Nat × Nat)} {n : Nat} {ks : List Nat} (h : Places rs js n ks) (hn : js.length ≤ n) : FirstD rs js ks.head? := by
  cases ks with
  | nil =>
    intro i r j a b
    have li := (List.getElem?_eq_some_iff.mp b).1
    refine Classical.byContradiction fun z => ?_
    have := (h.2 i).mpr ⟨by omega, r, j, a, b, z⟩
    cases this
  | cons k ks =>
    obtain ⟨_, r, j, a, b, c⟩ := (h.2 k).mp (List.mem_cons_self ..)
    refine ⟨⟨r, j, a, b, c⟩, fun i r j lt a b => Classical.byContradiction fun z => ?_⟩
    have li := (List.getElem?_eq_some_iff.mp b).1
    have m := (h.2 i).mpr ⟨by omega, r, j, a, b, z⟩
    rcases List.mem_cons.mp m with e | m
    · omega
    · have := (List.pairwise_cons.mp h.1).1 i m
      omega
theorem Places.nil {rs : List (Option Tri)} {js : List (Nat × Nat × Nat)} : Places rs js 0 [] := ⟨List.Pairwise.nil, fun k => ⟨fun z => (by cases z), fun z => absurd z.1 (Nat.not_lt_zero _)⟩⟩
theorem Places.yes {rs : List (Option Tri)} {js : List (Nat × Nat × Nat)} {n : Nat} {ks : List Nat} (h : Places rs js n ks) (d : Diff rs js n) : Places rs js (n + 1) (ks ++ [n]) := by
  refine ⟨List.pairwise_append.mpr ⟨h.1, List.pairwise_singleton _ _, fun a ha b hb => ?_⟩, fun k => ?_⟩
  · rw [List.mem_singleton.mp hb]
    exact ((h.2 a).mp ha).1
  · rw [List.mem_append, List.mem_singleton, h.2 k]
    constructor
    · rintro (⟨a, b⟩ | rfl)
      · exact ⟨by omega, b⟩
      · exact ⟨by omega, d⟩
    · rintro ⟨a, b⟩
      by_cases c : k = n
      · exact .inr c
      · exact .inl ⟨by omega, b⟩
theorem Places.no {rs : List (Option Tri)} {js : List (Nat × Nat × Nat)} {n : Nat} {ks : List Nat} (h : Places rs js n ks) (d : ¬ Diff rs js n) : Places rs js (n + 1) ks := by
  refine ⟨h.1, fun k => ?_⟩
  rw [h.2 k]
  constructor
  · rintro ⟨a, b⟩
    exact ⟨by omega, b⟩
  · rintro ⟨a, b⟩
    refine ⟨?_, b⟩
    by_cases c : k = n
    · rw [c] at b
      exact absurd b d
    · omega
theorem head_at (ks : List Nat) : atI (nV ks ++ [V.non]) 0 = some (optV ks.head?) := by
  cases ks with
  | nil => rfl
  | cons k r => exact atI_nat (j := 0) rfl
theorem dp_opt {K : PySem.W.Frag} {H : Hp} (o : Option Nat) : ∃ d, Dp K H (optV o) d ∧ PyData.canLay0 d = true ∧ PyData.depth d = 0 := by
  cases o with
  | none => exact ⟨_, Lone.non.dp, rfl, rfl⟩
  | some k => exact ⟨_, (Lone.int _).dp, rfl, rfl⟩
theorem not_due {ls : List Nat} {r : Option (List (Option Tri))} (h : false = true ↔ ∃ rs, r = some rs ∧ ∀ x ∈ rs, x ≠ none) : false = true ↔ Due ls r := by
  constructor
  · intro z
    cases z
  · intro z
    cases r with
    | none => exact z.elim
    | some rs => exact h.mpr ⟨rs, rfl, obey_all z⟩
theorem nVi (ls : List Nat) : (ls.map fun n : Nat => (n : Int)).map V.int = nV ls := by
  unfold nV
  rw [List.map_map]
  rfl
theorem due_some {ls : List Nat} {r : Option (List (Option Tri))} (h : Due ls r) : ∃ rs, r = some rs ∧ Obey (bords ls) rs := by
  cases r with
  | none => exact h.elim
  | some rs => exact ⟨rs, rfl, h⟩
theorem dp_two {K : PySem.W.Frag} {H : Hp} {t : Addr} {s : Str} {v : V} {d : PyData} (h : H t = some (.tup [.str s, v])) (hs : PyData.canLay0 (.str s) = true) (dv : Dp K H v d) (c : PyData.canLay0 d = true) (e : PyData.depth d = 0) : Dp K H (.ref t) (.tuple [.str s, d]) ∧ SeqAt.shaped (.tuple [.str s, d]) = true := by
  refine ⟨.tup (L2.st_of h) (.cons (.str _) (.cons dv .nil)), shaped_of ?_ ?_⟩
  · show (PyData.canLay0 (.str s) && (PyData.canLay0 d && true)) = true
    rw [hs, c]
    rfl
  · show max 0 (max (PyData.depth d) 0) + 1 ≤ 64
    rw [e]
    decide
def spJudged (a : Ad) : Sp := fun vs H Q _ => ∃ (p0 q m : Addr) (v : V) (ls : List Nat) (r : Option (List (Option Tri))), vs = [.ref q, v, .ref m] ∧ Tabs (LT a) H ∧ H q = some (.lst (nV ls)) ∧ LenOk ls ∧ ThQ p0 H v r ∧ TrisAt H m (Pile.joins ls) ∧ ∀ H', ExtN H H' → Tabs (LT a) H' → Q (.bl true) H'
section
variable {P : Program} {w : World} {K : PySem.W.Frag} {mg : Str → Option Value} {base : Heap} {a : Ad} {d : Fd}
theorem ok_judged (T : Txt K mg a d) (TB_judged : TabB base mg a.lc_judged a.lp_judged) : FnOk P w K mg base CX0 13 a.judged d.judged P_judged (spJudged a) := by
  have G_is_row : FnOk P w K mg base CX0 1 a.is_row d.is_row P_is_row spIsRow := ok_is_row T
  have G_obeys : FnOk P w K mg base CX0 2 a.obeys d.obeys P_obeys spObeys := ok_obeys T
  have G_is_way : FnOk P w K mg base CX0 5 a.is_way d.is_way P_is_way spWayOf := ok_is_way T
  have G_first_unlike : FnOk P w K mg base (L2.CX P w) 5 a.first_unlike d.first_unlike P_first_unlike (spUnlike a.c_Mismatch) := ok_first_unlike T
  refine T.f_judged.okC T.lc_judged sc_judged (fun vs H Q E h => ?_) (fun A outer s0 H vs Q E hr h => ?_)
  · obtain ⟨p0, q, m, v, ls, r, rfl, _⟩ := h
    rfl
  · obtain ⟨p0, pq, pm, v, ls, r, rfl, T0, hq, LO, hv, hm, q⟩ := h
    refine ⟨_, (pss_cons (ps_set (i := 3) sc_judged.nd rfl (Or.inl rfl) (pe_and (pe_call G_is_row (hr.mono (by decide)) (by rfl) T.g_is_row T.k_is_row T.b_is_row .nil pass0 (pa_cons (pv 1) pa_nil)) (pe_one (pe_call G_obeys (hr.mono (by decide)) (by rfl) T.g_obeys T.k_obeys T.b_obeys .nil pass0 (pa_cons (pv 0) (pa_cons (pv 1) pa_nil))))))
    (pss_cons (ps_if (PW.pt (pw_or (pt_cmpR op_ne (pe_callB call_repr_bool (by rfl) T.z_repr (by decide +kernel) (pa_cons (pe_call G_is_way (hr.mono (by decide)) (by rfl) T.g_is_way T.k_is_way T.b_is_way .nil pass0 (pa_cons (pv 0) (pa_cons (pv 1) pa_nil))) pa_nil)) (pe_callB call_repr_bool (by rfl) T.z_repr (by decide +kernel) (pa_cons (pv 3) pa_nil)) (nomark _)) (pw_or1 (pt_cmpR op_ne (pe_callB call_repr_bool (by rfl) T.z_repr (by decide +kernel) (pa_cons (pe_callN0 G_is_way (hr.mono (by decide)) (by rfl) T.g_is_way T.k_is_way T.kn_is_way_0_joins_lengths pass0 (pk_cons (pv 1) (pk_cons (pe_callTy call_tuple_of (by rfl) T.z_tuple (by decide +kernel) (pa_cons (pv 0) pa_nil)) pk_nil))) pa_nil)) (pe_callB call_repr_bool (by rfl) T.z_repr (by decide +kernel) (pa_cons (pv 3) pa_nil)) (nomark _))))) (pss_one (ps_ret pe_bl)) pss_nil)
    (pss_cons (ps_set (i := 4) sc_judged.nd rfl (Or.inl rfl) (pe_tup (pa_cons pe_str (pa_cons pe_str pa_nil))))
    (pss_cons (ps_if (pt_val (pv 3)) (pss_cons (ps_setLc (i := 5) (own := [("at", 6), ("join", 7)]) (g := gTup K 2 (gCons (gName 6) (gCons (gName 7) gNil)))  rfl sc_judged.nd rfl rfl (sw_true rfl rfl rfl (by decide +kernel)) (pi_enumA (by rfl) T.z_enumerate (pa_cons (pv 2) pa_nil)) (blkOk_by (N := N_judged) (sc := defScope s_judged) (by decide +kernel)) (fun _ _ _ _ _ => pg_tup rfl (pgs_cons (pg_name (i := 6) sc_judged.nd rfl (Or.inl rfl)) (pgs_cons (pg_name (i := 7) sc_judged.nd rfl (Or.inl rfl)) pgs_nil))) (fun _ _ _ _ _ => (pts_one (pt_cmpR (show OpR _ _ (rNeD K) from op_neD hr.units) (pe_ix (show IxR _ (rIx K) from ix_seq) (pv 1) (pv 6) (fun _ _ => rfl)) (pv 7) (nomark _)))) (fun _ _ _ _ _ => (pv 6)))
      (pss_one (ps_set (i := 4) sc_judged.nd rfl (Or.inl rfl) (pe_tup (pa_cons pe_str (pa_cons (pe_ix ix_list (pe_op op_catS (pv 5) (pe_lst (pa_cons pe_non pa_nil))) pe_int (fun _ _ => rfl)) pa_nil)))))) pss_nil)
    (pss_one (ps_ret (pe_cmpR (op_eqD hr.units) (pe_lamcallG (T := LT a) (k := 9) T.f_said (by rfl) T.g_said T.k_said T.b_said sc_said rfl (Or.inl rfl) (gives_said T) TB_judged rfl (hm_judged a) (hu_judged T) (hr.mono (by decide)) (free_by (show freeB (defScope s_judged) _ = true from by decide +kernel)) rfl (Or.inl rfl) (.plain (lamS_by (show lamSB (defScope s_judged) _ = true from by decide +kernel)) rfl (fun _ _ _ _ _ _ => rfl) (fun A1 outer1 s1 H1 E1 f1 c1 hr1 => (pe_call G_first_unlike (hr1.mono (by decide)) (by rfl) T.g_first_unlike T.k_first_unlike T.b_first_unlike .nil (passY rfl rfl rfl rfl) (pa_cons (pv 0) (pa_cons (pv 1) pa_nil)))))) (pv 4) (nomark _)))))))), ?_⟩
    refine ⟨_, rfl, p0, v, r, rfl, hv, fun b1 H1 hb1 s1 => ⟨b1, rfl, ?_⟩⟩
    cases b1
    case' false =>
      refine iteF ?_
      have hd : false = true ↔ Due ls r := not_due hb1
      have s2 := s1
      generalize false = b0 at hd ⊢
      clear hb1 s1
      generalize H1 = H2 at s2 ⊢
    case' true =>
      obtain ⟨rs, rfl, all⟩ := hb1.mp rfl
      refine iteT ⟨_, rfl, _, rfl, p0, pq, v, ls, rs, rfl, s1 _ _ hq, LO, hv.same s1, all, fun b0 H2 hd s12 => ?_⟩
      have s2 := s1.trans s12
      clear hb1 s1 s12
      have hd : b0 = true ↔ Due ls (some rs) := hd
      clear all
      generalize some rs = r at hv hd
    all_goals
      have kq := fun {H'} (s : Same H2 H') => s _ _ (s2 _ _ hq)
      refine ⟨_, rfl, _, rfl, p0, pq, v, ls, _, rfl, .inl (by rw [nVi]; exact s2 _ _ hq), LO, hv.same s2, fun bw H3 hw s3 => ⟨bw, rfl, _, rfl, b0, rfl, rfl, false, ?_, iteF ?_⟩⟩
      · rw [show bw = b0 from Bool.eq_iff_iff.mpr (hw.trans hd.symm)]
        simp
      have s23 := s2.trans s3
      refine ⟨_, rfl, _, rfl, pq, _, rfl, .inl ⟨L2.sq_of (s23 _ _ hq), fun tl htl => ?_⟩⟩
      have s4 := s23.trans (same_upd (o := .tup (nV ls)) htl)
      refine ⟨rfl, p0, tl, v, ls, _, rfl, .inr (by rw [nVi]; exact upd_same), LO, hv.same s4, fun bx H5 hx s5 => ⟨bx, rfl, _, rfl, b0, rfl, rfl, false, ?_, iteF ?_⟩⟩
      · rw [show bx = b0 from Bool.eq_iff_iff.mpr (hx.trans hd.symm)]
        simp
      have s05 := s4.trans s5
      refine ⟨by show 2 ≤ sizeLine; decide, fun t1 ht1 => ?_⟩
      have s06 := s05.trans (same_upd (o := .tup [.str "mismatch", .str "joins"]) ht1)
      have k1 : upd H5 t1 (.tup [.str "mismatch", .str "joins"]) t1 = some (.tup [.str "mismatch", .str "joins"]) := upd_same
      generalize upd H5 t1 (.tup [.str "mismatch", .str "joins"]) = H6 at s06 k1 ⊢
      have T6 := T0.ext s06
      refine ⟨_, rfl, b0, rfl, ?_⟩
      cases b0 with
      | false =>
        have nd := fun z => Bool.false_ne_true (hd.mpr z)
        refine iteF ?_
        refine ⟨T6, fun Hj ej Tj => ?_⟩
        refine ⟨_, rfl, _, rfl, p0, pq, v, ls, _, rfl, .inl (by rw [nVi]; exact ej _ _ (s06 _ _ hq) (fun ps z => by cases z)), LO, (hv.same s06).ext ej, fun _ => eErr (List.mem_singleton_self _) fun t Hk sk ht => ?_, fun z => absurd z nd⟩
        have e0k := (ExtN.of s06).trans (ej.trans (.of sk))
        have k1k := sk _ _ (ej _ _ k1 (fun ps z => by cases z))
        have dA := dp_two (K := K) ht (strOk_of "mismatch") (Lone.str "joins" (strOk_of "joins")).dp (strOk_of "joins") rfl
        have dB := dp_two (K := K) k1k (strOk_of "mismatch") (Lone.str "joins" (strOk_of "joins")).dp (strOk_of "joins") rfl
        refine ⟨_, rfl, _, _, dA.1, dB.1, dA.2, dB.2, ?_⟩
        rw [eqv_same dA.2]
        exact q Hk e0k (Tj.ext sk)
      | true =>
        obtain ⟨rs, rfl, ob⟩ := due_some (hd.mp rfl)
        refine iteT ?_
        have hv6 := hv.same s06
        have hm6 := hm.keep (fun _ z => s06 _ _ z) fun _ _ z => s06 _ _ z
        obtain ⟨ts, hts, lts, jts⟩ := id hm6
        cases id hv6 with
        | @row l xs _ hx np lx l2 its =>
          have ol := obey_len ob
          rw [bords_len] at ol
          have jc := Pile.joins_count LO.l0 LO.l1
          have jl : (Pile.joins ls).length ≤ 200 := by have := LO.l1; omega
          refine ⟨_, rfl, pm, ts, rfl, .inl ⟨L2.sq_of hts, fun D hD => ?_⟩⟩
          refine lc_iteL (K := K) (a := pm) (xs := ts) (fun i H' => Same H6 H' ∧ ∃ ks, H' D = some (.lst (nV ks)) ∧ ks.length ≤ i ∧ Places rs (Pile.joins ls) i ks) ⟨same_upd hD, [], upd_same, Nat.le_refl _, Places.nil⟩ (fun i H' _ h => L2.sq_of (h.1 _ _ hts)) ?_ ?_
          · rintro i y H7 Tp hy ⟨s7, ks, k7, lk, pl⟩ hn
            obtain ⟨t, j, rfl, hj, hm, ht⟩ := TrisAt.item lts jts hy
            have s8 := s7.trans (same_upd (o := .tup [.int (i : Nat), .ref t]) hn)
            have k8 := same_upd (o := .tup [.int (i : Nat), .ref t]) hn _ _ k7
            refine ⟨Tp, _, rfl, L2.st_of upd_same, rfl, _, _, rfl, _, _, rfl, rfl, ?_⟩
            generalize upd H7 Tp (.tup [.int (i : Nat), .ref t]) = H8 at s8 k8 ⊢
            have li := (List.getElem?_eq_some_iff.mp hj).1
            have exi : xs[i]? = some xs[i] := List.getElem?_eq_getElem (by omega)
            have eri : rs[i]? = some rs[i] := List.getElem?_eq_getElem (by omega)
            have hq' := its i _ _ exi eri
            have nn := obey_all ob rs[i] (List.getElem_mem _)
            generalize hxi : xs[i] = vi at exi hq'
            generalize rs[i] = ri at eri hq' nn
            cases hq' with
            | @tri t2 s f g ht2 =>
              have ht2' := s8 _ _ ht2
              refine ⟨rfl, _, rfl, _, rfl, ix_keysR (hx.same s8) rfl exi ⟨_, rfl, triD (s, f, g), triD ((j.1 : Int), (j.2.1 : Int), (j.2.2 : Int)), .tup (L2.st_of ht2') (.cons (.int _) (.cons (.int _) (.cons (.int _) .nil))), .tup (L2.st_of (s8 _ _ ht)) (.cons (.int _) (.cons (.int _) (.cons (.int _) .nil))), shaped_tri _, shaped_tri _, ?_⟩⟩
              rw [eqv_tri]
              by_cases c : ((s, f, g) : Tri) = ((j.1 : Int), (j.2.1 : Int), (j.2.2 : Int))
              · refine ⟨false, by rw [decide_eq_true c]; rfl, iteF ⟨s8, ks, k8, by omega, pl.no ?_⟩⟩
                rintro ⟨r', j', a, b, z⟩
                rw [eri] at a
                rw [hj] at b
                rw [← Option.some.inj a, ← Option.some.inj b] at z
                exact z (congrArg some c)
              · refine ⟨true, by rw [decide_eq_false c]; rfl, iteT ⟨_, rfl, nV ks, k8, Nat.lt_of_le_of_lt (show (nV ks).length ≤ 200 by unfold nV; rw [List.length_map]; omega) (by decide), fun b o e => ?_, ks ++ [i], ?_, by rw [List.length_append]; show ks.length + 1 ≤ _; omega, pl.yes ⟨_, j, eri, hj, fun z => c (Option.some.inj z)⟩⟩⟩
                · rw [upd_ne (ne_of_none e hD)]
                  exact s8 _ _ e
                · rw [upd_same, nV_snoc]
            | _ => exact absurd rfl nn
          · rintro H7 ⟨s7, ks, k7, lk, pl⟩
            rw [lts] at pl
            have fd := pl.first (Nat.le_refl _)
            have hk := head_at ks
            have lk : (nV ks).length + 1 ≤ sizeLine := Nat.le_trans (show (nV ks).length + 1 ≤ 1000 by unfold nV; rw [List.length_map]; omega) (by decide)
            refine ⟨_, rfl, by show 1 ≤ sizeLine; decide, fun w1 hw1 => ⟨D, w1, _, _, rfl, rfl, L2.sq_of (same_upd hw1 _ _ k7), L2.sq_of upd_same, lk, fun w2 hw2 => ⟨w2, _, 0, _, rfl, rfl, L2.sq_of upd_same, hk, by show 2 ≤ sizeLine; decide, fun t2 ht2 => ?_⟩⟩⟩
            have s9 := ((same_upd (o := .lst [.non]) hw1).trans (same_upd (o := .lst (nV ks ++ [.non])) hw2)).trans (same_upd (o := .tup [.str "told", optV ks.head?]) ht2)
            have k9 : upd (upd (upd H7 w1 (.lst [.non])) w2 (.lst (nV ks ++ [.non]))) t2 (.tup [.str "told", optV ks.head?]) t2 = some (.tup [.str "told", optV ks.head?]) := upd_same
            generalize upd (upd (upd H7 w1 (.lst [.non])) w2 (.lst (nV ks ++ [.non]))) t2 (.tup [.str "told", optV ks.head?]) = H9 at s9 k9 ⊢
            have s69 := s7.trans s9
            have s09 := s06.trans s69
            refine ⟨T6.ext s69, fun Hj ej Tj => ?_⟩
            refine ⟨_, rfl, _, rfl, p0, pq, .ref l, ls, _, rfl, .inl (by rw [nVi]; exact ej _ _ (s09 _ _ hq) (fun ps z => by cases z)), LO, (hv.same s09).ext ej, fun z => absurd ob z, fun _ rs' o Hk er fd' sk => ⟨by decide, fun t ht => ?_⟩⟩
            cases er
            rw [fd'.uniq fd]
            have st := same_upd (o := .tup [.str "told", optV ks.head?]) ht
            have e0k := (ExtN.of s09).trans (ej.trans (.of (sk.trans st)))
            have k9k := st _ _ (sk _ _ (ej _ _ k9 (fun ps z => by cases z)))
            have kt : upd Hk t (.tup [.str "told", optV ks.head?]) t = some (.tup [.str "told", optV ks.head?]) := upd_same
            generalize upd Hk t (.tup [.str "told", optV ks.head?]) = Hl at st e0k k9k kt ⊢
            obtain ⟨dd, d1, d2, d3⟩ := dp_opt (K := K) (H := Hl) ks.head?
            have dA := dp_two (K := K) kt (strOk_of "told") d1 d2 d3
            have dB := dp_two (K := K) k9k (strOk_of "told") d1 d2 d3
            refine ⟨_, rfl, _, _, dA.1, dB.1, dA.2, dB.2, ?_⟩
            rw [eqv_same dA.2]
            exact q Hl e0k ((Tj.ext sk).ext st)
end

end K38

namespace K38
open PySem PySem.Spec PyProof.Rows L2 
def topLen : Nat := 1000 * 10 ^ 29
/-- a list of so many lengths -/
def LnAt (H : Hp) (l : Addr) (n : Nat) (top : Nat) : Prop := ∃ ls : List Nat, H l = some (.lst (nV ls)) ∧ ls.length = n ∧ ∀ x ∈ ls, 1 ≤ x ∧ x ≤ top
def spLengths : Sp := fun vs H Q _ => ∃ (p : Addr) (u : Nat) (g : Bool), vs = [.ref p, .int (u : Int), .bl g] ∧ SrcZ H p ∧ 0 < u ∧ u ≤ 200 ∧ ∀ (l : Addr) (n : Nat) (H' : Hp), 0 < n → n ≤ u → LnAt H' l n topLen → DnZ p H H' → H l = none → Q (.ref l) H'
theorem ints_nat {ms : List Int} {P : Int → Prop} (h : ∀ v ∈ ms, P v) (h1 : ∀ v, P v → 1 ≤ v) : ∃ ls : List Nat, ms.map V.int = nV ls ∧ ls.length = ms.length ∧ ∀ x ∈ ls, P (x : Int) := by
  refine ⟨ms.map Int.toNat, ?_, List.length_map _, fun x hx => ?_⟩
  · unfold nV
    rw [List.map_map]
    refine List.map_congr_left fun v hv => ?_
    have := h1 v (h v hv)
    exact congrArg V.int (by show v = ((v.toNat : Nat) : Int); omega)
  · obtain ⟨v, hv, rfl⟩ := List.mem_map.mp hx
    have := h1 v (h v hv)
    rw [Int.toNat_of_nonneg (by omega)]
    exact h v hv
theorem LnAt.ints {H : Hp} {l : Addr} {n top : Nat} {ms : List Int} (h : H l = some (.lst (ms.map V.int))) (hl : ms.length = n) (hp : ∀ v ∈ ms, 1 ≤ v ∧ v ≤ (top : Int)) : LnAt H l n top := by
  obtain ⟨ls, e1, e2, e3⟩ := ints_nat hp fun v hv => hv.1
  exact ⟨ls, by rw [h, e1], by omega, fun x hx => by have := e3 x hx; omega⟩
section
variable {P : Program} {w : World} {K : PySem.W.Frag} {mg : Str → Option Value} {base : Heap} {a : Ad} {d : Fd}
theorem ok_lengths (T : Txt K mg a d) : FnOk P w K mg base CX0 4 a.lengths d.lengths P_lengths spLengths := by
  have G_take : FnOk P w K mg base CX0 2 a.take d.take P_take spTake := ok_take T
  have G_pick : FnOk P w K mg base CX0 3 a.pick d.pick P_pick (spPick K) := ok_pick T
  refine T.f_lengths.ok sc_lengths (fun vs H Q E h => ?_) (fun cdv A outer s0 H vs Q E hr h => ?_)
  · obtain ⟨p, u, g, rfl, _⟩ := h
    rfl
  · obtain ⟨p, u, g, rfl, hS, u0, u200, q⟩ := h
    refine ⟨_, (pss_cons (ps_asg (pe_tup (pa_cons (pe_op op_add pe_int (pe_call G_take (hr.mono (by decide)) (by rfl) T.g_take T.k_take T.b_take .nil pass0 (pa_cons (pv 0) (pa_cons (pv 1) pa_nil)))) (pa_cons (pe_call G_take (hr.mono (by decide)) (by rfl) T.g_take T.k_take T.b_take .nil pass0 (pa_cons (pv 0) (pa_cons pe_int pa_nil))) pa_nil))) (pg_tup rfl (pgs_cons (pg_name (i := 3) sc_lengths.nd rfl (Or.inl rfl)) (pgs_cons (pg_name (i := 4) sc_lengths.nd rfl (Or.inr rfl)) pgs_nil))))
    (pss_cons (ps_setLc (i := 5) (own := [("k", 6)]) (g := gName 6) (tt := tYes) rfl sc_lengths.nd rfl rfl (sw_true rfl rfl rfl (by decide +kernel)) (pi_range1 (by rfl) T.z_range (pa_cons (pv 3) pa_nil)) (blkOk_by (N := N_lengths) (sc := defScope s_lengths) (by decide +kernel)) (fun _ _ _ _ _ => pg_name (i := 6) sc_lengths.nd rfl (Or.inl rfl)) (fun _ _ _ _ _ => pts_nil) (fun _ _ _ _ _ => (pe_op op_add pe_int (pe_call G_take (hr.mono (by decide)) (by rfl) T.g_take T.k_take T.b_take .nil pass0 (pa_cons (pv 0) (pa_cons (pe_ix (show IxR _ (rIxL K) from ix_list) (pe_lst (pa_cons pe_int (pa_cons pe_int (pa_cons pe_int pa_nil)))) (pe_op op_mod (pv 4) pe_int) (fun _ _ => rfl)) pa_nil))))))
    (C8.pss_cut (ps_if (pt_cmpR op_eq (pv 4) pe_int (nomark _)) (pss_one (ps_set (i := 5) sc_lengths.nd rfl (Or.inl rfl) (pe_op op_rep (pe_lst (pa_cons (pe_op op_add pe_int (pe_call G_take (hr.mono (by decide)) (by rfl) T.g_take T.k_take T.b_take .nil pass0 (pa_cons (pv 0) (pa_cons pe_int pa_nil)))) pa_nil)) (pv 3)))) pss_nil)
    (C8.pss_cut (ps_if (pt_cmpR op_eq (pv 4) pe_int (nomark _)) (pss_one (ps_setLc (i := 5) (own := [("k", 6)]) (g := gName 6) (tt := tYes) rfl sc_lengths.nd rfl rfl (sw_true rfl rfl rfl (by decide +kernel)) (pi_range1 (by rfl) T.z_range (pa_cons (pv 3) pa_nil)) (blkOk_by (N := N_lengths) (sc := defScope s_lengths) (by decide +kernel)) (fun _ _ _ _ _ => pg_name (i := 6) sc_lengths.nd rfl (Or.inl rfl)) (fun _ _ _ _ _ => pts_nil) (fun _ _ _ _ _ => (pe_op op_shlN pe_int (pe_call G_take (hr.mono (by decide)) (by rfl) T.g_take T.k_take T.b_take .nil pass0 (pa_cons (pv 0) (pa_cons pe_int pa_nil))))))) pss_nil)
    (C8.pss_cut (ps_if (pt_cmpR op_eq (pv 4) pe_int (nomark _)) (pss_one (ps_set (i := 5) sc_lengths.nd rfl (Or.inl rfl) (pe_callB cr_sortedI (by rfl) T.z_sorted (by decide +kernel) (pa_cons (pv 5) pa_nil)))) pss_nil)
    (C8.pss_cut (ps_if (pt_cmpR op_eq (pv 4) pe_int (nomark _)) (pss_one (ps_set (i := 5) sc_lengths.nd rfl (Or.inl rfl) (pe_revL (pe_callB cr_sortedI (by rfl) T.z_sorted (by decide +kernel) (pa_cons (pv 5) pa_nil))))) pss_nil)
    (C8.pss_cut (ps_if (PW.pt (pw_and (pt_val (pv 2)) (pw_and1 (pt_cmpR op_eq (pe_call G_take (hr.mono (by decide)) (by rfl) T.g_take T.k_take T.b_take .nil pass0 (pa_cons (pv 0) (pa_cons pe_int pa_nil))) pe_int (nomark _))))) (pss_one (ps_setLc (i := 5) (own := [("one", 7)]) (g := gName 7) (tt := tYes) rfl sc_lengths.nd rfl rfl (sw_true rfl rfl rfl (by decide +kernel)) (pi_list (pv 5)) (blkOk_by (N := N_lengths) (sc := defScope s_lengths) (by decide +kernel)) (fun _ _ _ _ _ => pg_name (i := 7) sc_lengths.nd rfl (Or.inl rfl)) (fun _ _ _ _ _ => pts_nil) (fun _ _ _ _ _ => (pe_op op_mul (pv 7) (pe_call G_pick (hr.mono (by decide)) (by rfl) T.g_pick T.k_pick T.b_pick .nil pass0 (pa_cons (pv 0) (pa_cons (pe_lst (pa_cons pe_int (pa_cons pe_int (pa_cons (pe_op op_powW pe_int pe_int) (pa_cons (pe_op op_powW pe_int pe_int) pa_nil))))) pa_nil))))))) pss_nil)
    (pss_one (ps_ret (pv 5)))))))))), ?_⟩
    refine ⟨_, rfl, _, rfl, p, (u : Int), rfl, hS, by omega, by rw [Int.natAbs_natCast]; omega, fun v x y z v0 v1 => ⟨_, _, rfl, rfl, ?_⟩⟩
    have d1 := DnZ.put (p := p) (H := H) (x := x) (y := y) (z := z)
    generalize upd H p (.lst [.int x, .int y, .int z]) = H1 at d1 ⊢
    refine ⟨_, rfl, p, 7, rfl, d1.2, by decide, by decide, fun way x y z w0 w1 => ⟨by show 2 ≤ sizeLine; decide, fun t ht => ?_⟩⟩
    have d2 := d1.trans (DnZ.put (p := p) (H := H1) (x := x) (y := y) (z := z))
    generalize upd H1 p (.lst [.int x, .int y, .int z]) = H2 at d2 ht ⊢
    obtain ⟨n, hn⟩ : ∃ n : Nat, 1 + v = (n : Int) := ⟨(1 + v).toNat, by omega⟩
    obtain ⟨wy, rfl⟩ : ∃ wy : Nat, way = (wy : Int) := ⟨way.toNat, by omega⟩
    dsimp only
    rw [hn]
    have d3 := d2.new (o := .tup [.int (n : Int), .int (wy : Int)]) ht
    have ht3 : upd H2 t (.tup [.int (n : Int), .int (wy : Int)]) t = some (.tup [.int (n : Int), .int (wy : Int)]) := upd_same
    generalize upd H2 t (.tup [.int (n : Int), .int (wy : Int)]) = H3 at d3 ht3 ⊢
    refine ⟨t, _, rfl, L2.st_of ht3, rfl, _, _, rfl, _, _, rfl, rfl, ?_⟩
    have n0 : 0 < n := by omega
    have nu : n ≤ u := by omega
    refine ⟨_, rfl, n, rfl, by omega, by omega, fun D hD => lc_intsZ (fun z => 1 ≤ z ∧ z ≤ 1000) (by omega) d3.2 hD (fun _ => rfl) (fun k H4 R hk dr h => ?_) (fun ms H4 lms pms d4 hD4 => ?_)⟩
    · refine ⟨_, rfl, by show 3 ≤ sizeLine; decide, fun z hz => ?_⟩
      have dz := dr.new (o := .lst [.int 3, .int 40, .int 1000]) hz
      have hz4 : upd H4 z (.lst [.int 3, .int 40, .int 1000]) z = some (.lst [.int 3, .int 40, .int 1000]) := upd_same
      have dd : DnZ p H4 (upd H4 z (.lst [.int 3, .int 40, .int 1000])) := ⟨SB.new hz, dz.2⟩
      generalize upd H4 z (.lst [.int 3, .int 40, .int 1000]) = H5 at dz hz4 dd ⊢
      have hw3 : ∃ b : Int, atI [V.int 3, V.int 40, V.int 1000] ((wy : Int) % 3) = some (.int b) ∧ 0 < b ∧ b ≤ 1000 := by
        have e : (wy : Int) % 3 = ((wy % 3 : Nat) : Int) := by omega
        rw [e]
        have : wy % 3 < 3 := Nat.mod_lt _ (by decide)
        obtain h | h | h : wy % 3 = 0 ∨ wy % 3 = 1 ∨ wy % 3 = 2 := by omega
        · rw [h]; exact ⟨3, atI_nat (j := 0) rfl, by decide, by decide⟩
        · rw [h]; exact ⟨40, atI_nat (j := 1) rfl, by decide, by decide⟩
        · rw [h]; exact ⟨1000, atI_nat (j := 2) rfl, by decide, by decide⟩
      obtain ⟨b, hb, b0, b1⟩ := hw3
      refine ⟨_, rfl, _, _, rfl, rfl, (by show (0 : Int) < 3; decide), z, _, _, .int b, rfl, rfl, L2.sq_of hz4, hb, p, b, rfl, dz.2, b0, by omega, fun v x y z v0 v1 => ⟨_, _, rfl, rfl, h _ _ ⟨by omega, by omega⟩ (dd.trans .put)⟩⟩
    refine ⟨fun σ H' => ∃ l u6 u7, σ = [some (.ref p), some (.int (u : Int)), some (.bl g), some (.int (n : Int)), some (.int (wy : Int)), some (.ref l), u6, u7] ∧ LnAt H' l n 1000 ∧ DnZ p H3 H' ∧ H3 l = none, ?_, ?_⟩
    · refine ⟨_, rfl, rfl, _, rfl, ite2 (fun _ => ?_) (fun _ => ?_)⟩
      · refine ⟨_, rfl, p, 9, rfl, d4.2, by decide, by decide, fun v x y z v0 v1 => ⟨_, _, rfl, rfl, by show 1 ≤ sizeLine; decide, fun z' hz => ?_⟩⟩
        have d5 := (d4.trans (DnZ.put (p := p) (H := H4) (x := x) (y := y) (z := z))).new (o := .lst [.int (1 + v)]) hz
        refine ⟨_, rfl, z', _, _, rfl, rfl, upd_same, by omega, by omega, ?_, fun l hl => ⟨l, _, _, rfl, LnAt.ints (ms := List.replicate n (1 + v)) ?_ (List.length_replicate ..) ?_, d5.new hl, d5.free hl⟩⟩
        · exact Nat.le_trans (by show 1 * ((n : Int)).toNat ≤ 200; omega) (by decide : 200 ≤ sizeLine)
        · rw [upd_same, Int.toNat_natCast]
          exact congrArg (fun z => some (HO.lst z)) (rep_flat _ _)
        · intro w hw
          rw [List.eq_of_mem_replicate hw]
          omega
      · exact ⟨D, _, _, rfl, LnAt.ints hD4 lms pms, d4, hD⟩
    rintro σ H5 ⟨l5, u6, u7, rfl, hL5, d5, f5⟩
    refine ⟨fun σ H' => ∃ l u6 u7, σ = [some (.ref p), some (.int (u : Int)), some (.bl g), some (.int (n : Int)), some (.int (wy : Int)), some (.ref l), u6, u7] ∧ LnAt H' l n 1000 ∧ DnZ p H3 H' ∧ H3 l = none, ?_, ?_⟩
    · refine ⟨_, rfl, rfl, _, rfl, ite2 (fun _ => ?_) (fun _ => ?_)⟩
      · refine ⟨_, rfl, n, rfl, by omega, by omega, fun D' hD' => lc_intsZ (fun z => 1 ≤ z ∧ z ≤ 1000) (by omega) d5.2 hD' (fun _ => rfl) (fun k H6 R hk dr h => ?_) (fun ms H6 lms pms d6 hD6 => ?_)⟩
        · refine ⟨_, rfl, p, 9, rfl, dr.2, by decide, by decide, fun v x y z v0 v1 => ?_⟩
          obtain ⟨k', rfl⟩ : ∃ k' : Nat, v = (k' : Int) := ⟨v.toNat, by omega⟩
          have b1 : (2 : Nat) ^ k' ≤ 2 ^ 9 := Nat.pow_le_pow_right (by decide) (by omega)
          have b0 : 0 < (2 : Nat) ^ k' := Nat.two_pow_pos _
          have ep : (1 : Int) * 2 ^ k' = ((2 ^ k' : Nat) : Int) := by rw [Int.one_mul, Int.natCast_pow]; rfl
          exact ⟨1, k', rfl, rfl, shl_cond (n := 1) (by decide +kernel) (by omega), h _ _ ⟨by rw [ep]; omega, by rw [ep]; omega⟩ .put⟩
        · exact ⟨D', _, _, rfl, LnAt.ints hD6 lms pms, d5.trans d6, d5.free hD'⟩
      · exact ⟨l5, _, _, rfl, hL5, d5, f5⟩
    rintro σ H6 ⟨l6, u6, u7, rfl, hL6, d6, f6⟩
    refine ⟨fun σ H' => ∃ l u6 u7, σ = [some (.ref p), some (.int (u : Int)), some (.bl g), some (.int (n : Int)), some (.int (wy : Int)), some (.ref l), u6, u7] ∧ LnAt H' l n 1000 ∧ DnZ p H3 H' ∧ H3 l = none, ?_, ?_⟩
    · refine ⟨_, rfl, rfl, _, rfl, ite2 (fun _ => ?_) (fun _ => ?_)⟩
      · obtain ⟨ls, h6, ll6, pl6⟩ := hL6
        refine ⟨_, rfl, l6, ls.map fun (i : Nat) => (i : Int), rfl, by rw [← nV_map]; exact L2.sq_of h6, fun ns' l' pm _ hl' => ⟨l', _, _, rfl, LnAt.ints upd_same (by rw [pm.length_eq, List.length_map, ll6]) ?_, d6.new hl', d6.free hl'⟩⟩
        intro v hv
        obtain ⟨x, hx, rfl⟩ := List.mem_map.mp (pm.mem_iff.mp hv)
        have := pl6 x hx
        omega
      · exact ⟨l6, _, _, rfl, hL6, d6, f6⟩
    rintro σ H7 ⟨l7, u6, u7, rfl, hL7, d7, f7⟩
    refine ⟨fun σ H' => ∃ l u6 u7, σ = [some (.ref p), some (.int (u : Int)), some (.bl g), some (.int (n : Int)), some (.int (wy : Int)), some (.ref l), u6, u7] ∧ LnAt H' l n 1000 ∧ DnZ p H3 H' ∧ H3 l = none, ?_, ?_⟩
    · refine ⟨_, rfl, rfl, _, rfl, ite2 (fun _ => ?_) (fun _ => ?_)⟩
      · obtain ⟨ls, h6, ll6, pl6⟩ := hL7
        refine ⟨_, rfl, l7, ls.map fun (i : Nat) => (i : Int), rfl, by rw [← nV_map]; exact L2.sq_of h6, fun ns' l' pm _ hl' => ⟨l', _, rfl, L2.sq_of upd_same, fun l2 hl2 => ⟨l2, _, _, rfl, LnAt.ints (ms := ns'.reverse) (by rw [upd_same, List.map_reverse]) (by rw [List.length_reverse, pm.length_eq, List.length_map, ll6]) ?_, (d7.new hl').new hl2, (d7.new hl').free hl2⟩⟩⟩
        intro v hv
        obtain ⟨x, hx, rfl⟩ := List.mem_map.mp (pm.mem_iff.mp (List.mem_reverse.mp hv))
        have := pl6 x hx
        omega
      · exact ⟨l7, _, _, rfl, hL7, d7, f7⟩
    rintro σ H8 ⟨l8, u6, u7, rfl, hL8, d8, f8⟩
    have up : ∀ {H : Hp} {l : Addr}, LnAt H l n 1000 → LnAt H l n topLen := fun ⟨ls, h1, h2, h3⟩ => ⟨ls, h1, h2, fun x hx => ⟨(h3 x hx).1, Nat.le_trans (h3 x hx).2 (by unfold topLen; decide)⟩⟩
    refine ⟨fun σ H' => ∃ l u6 u7, σ = [some (.ref p), some (.int (u : Int)), some (.bl g), some (.int (n : Int)), some (.int (wy : Int)), some (.ref l), u6, u7] ∧ LnAt H' l n topLen ∧ DnZ p H3 H' ∧ H3 l = none, ?_, ?_⟩
    · refine ⟨_, rfl, g, rfl, ?_⟩
      cases g with
      | false => exact iteF (iteF ⟨l8, _, _, rfl, up hL8, d8, f8⟩)
      | true =>
        refine iteT ⟨_, rfl, p, 5, rfl, d8.2, by decide, by decide, fun v x y z v0 v1 => ⟨rfl, _, rfl, ?_⟩⟩
        have d9 := d8.trans (DnZ.put (p := p) (H := H8) (x := x) (y := y) (z := z))
        have n8 : l8 ≠ p := d3.2.ne f8
        obtain ⟨ls, h8, ll8, pl8⟩ := hL8
        have h9 : upd H8 p (.lst [.int x, .int y, .int z]) l8 = some (.lst (nV ls)) := by rw [upd_ne n8]; exact h8
        generalize upd H8 p (.lst [.int x, .int y, .int z]) = H9 at d9 h9 ⊢
        refine ite2 (fun _ => ?_) (fun _ => ?_)
        · refine ⟨_, rfl, l8, rfl, ⟨_, L2.sq_of h9⟩, fun D' hD' => lc_listZ (K := K) (ns := ls.map fun (i : Nat) => (i : Int)) (fun z => 1 ≤ z ∧ z ≤ (topLen : Int)) (by rw [List.length_map]; omega) d9.2 hD' (by rw [← nV_map]; exact h9) n8 (fun _ => rfl) (fun z H6 R hz dr h => ?_) (fun ms H6 lms pms d6 hD6 => ?_)⟩
          · obtain ⟨o, ho, rfl⟩ := List.mem_map.mp hz
            have po := pl8 o ho
            refine ⟨_, rfl, _, rfl, _, _, rfl, rfl, ⟨by decide, by decide +kernel⟩, _, _, rfl, rfl, ⟨by decide, by decide +kernel⟩, by show 4 ≤ sizeLine; decide, fun z' hz' => ?_⟩
            refine ⟨p, z', _, rfl, (dr.new hz').2, dr.2.ne hz', L2.sq_of upd_same, by decide, by decide, fun v H7 hv d7 => ?_⟩
            have hvv : ∃ c : Int, v = .int c ∧ 1 ≤ c ∧ c ≤ 10 ^ 29 := by
              rcases List.mem_cons.mp hv with e | hv
              · exact ⟨_, e, by decide, by decide⟩
              rcases List.mem_cons.mp hv with e | hv
              · exact ⟨_, e, by decide, by decide⟩
              rcases List.mem_cons.mp hv with e | hv
              · exact ⟨_, e, by decide, by decide⟩
              · exact ⟨_, List.mem_singleton.mp hv, by decide, by decide⟩
            obtain ⟨c, rfl, c1, c2⟩ := hvv
            refine ⟨_, _, rfl, rfl, .inl ⟨by omega, by omega⟩, h _ _ ⟨?_, ?_⟩ ⟨(SB.new hz').trans d7.1, d7.2⟩⟩
            · have : 1 * 1 ≤ (o : Int) * c := Int.mul_le_mul (by omega) c1 (by decide) (by omega)
              omega
            · have h1 : (o : Int) * c ≤ 1000 * 10 ^ 29 := Int.mul_le_mul (by omega) c2 (by omega) (by decide)
              have e : (topLen : Int) = 1000 * 10 ^ 29 := by unfold topLen; decide
              rw [e]
              exact h1
          · exact ⟨D', _, _, rfl, LnAt.ints hD6 (by rw [lms, List.length_map, ll8]) pms, d9.trans d6, d9.free hD'⟩
        · exact ⟨l8, _, _, rfl, up ⟨ls, h9, ll8, pl8⟩, d9, f8⟩
    rintro σ H9 ⟨l9, u6, u7, rfl, hL9, d9, f9⟩
    exact ⟨_, rfl, q l9 n _ n0 nu hL9 (d3.trans d9) (d3.free f9)⟩
end

end K38

namespace K38
open PySem PySem.Spec PyProof.Rows L2 LamX
def Chain : Nat → List (Nat × Nat) → Nat → Prop
  | s, [], e => s = e
  | s, x :: r, e => x.1 = s ∧ Chain (s + x.2) r e
theorem chain_app : ∀ {p : List (Nat × Nat)} {s e : Nat} {r : List (Nat × Nat)}, Chain s (p ++ r) e ↔ ∃ m, Chain s p m ∧ Chain m r e
  | [], s, e, r => ⟨fun h => ⟨s, rfl, h⟩, fun ⟨m, h1, h2⟩ => by
    have h1 : s = m := h1
    rw [h1]
    exact h2⟩
  | x :: p, s, e, r => by
    constructor
    · rintro ⟨a, h⟩
      obtain ⟨m, h1, h2⟩ := chain_app.mp h
      exact ⟨m, ⟨a, h1⟩, h2⟩
    · rintro ⟨m, ⟨a, h1⟩, h2⟩
      exact ⟨a, chain_app.mpr ⟨m, h1, h2⟩⟩
def fsts (R : List (Nat × Nat)) (e : Nat) : List Int := R.map (fun x => (x.1 : Int)) ++ [(e : Int)]
theorem chain_head : ∀ {q : List (Nat × Nat)} {s e : Nat}, Chain s q e → ∃ t, fsts q e = (s : Int) :: t
  | [], s, e, h => ⟨[], by
    have h : s = e := h
    rw [h]
    rfl⟩
  | x :: q, s, e, h => ⟨fsts q e, by
    have h1 : x.1 = s := h.1
    show ((x.1 : Nat) : Int) :: _ = _
    rw [h1]
    rfl⟩
def somes (js : List (Nat × Nat × Nat)) : List (Option Tri) := js.map fun j => some ((j.1 : Int), (j.2.1 : Int), (j.2.2 : Int))
theorem way_obey {R R' : List (Nat × Nat)} {js : List (Nat × Nat × Nat)} (h : Pile.Way R js R') : ∀ {s e : Nat}, R'.length = 1 → Chain s R e → Obey (fsts R e) (somes js) := by
  induction h with
  | nil R =>
    intro s e l c
    refine .nil ?_
    unfold fsts
    rw [List.length_append, List.length_map, l]
    rfl
  | @cons p q s' a b js R' h ih =>
    intro s e l c
    obtain ⟨m, c1, c2, c3, c4⟩ := chain_app.mp c
    have c2 : s' = m := c2
    subst c2
    have c4 : Chain (s' + a + b) q e := c4
    have := ih (s := s) (e := e) l (chain_app.mpr ⟨s', c1, rfl, (show Chain (s' + (a + b)) q e by rw [← Nat.add_assoc]; exact c4)⟩)
    obtain ⟨t, ht⟩ := chain_head c4
    have e1 : fsts (p ++ (s', a + b) :: q) e = p.map (fun x => (x.1 : Int)) ++ (s' : Int) :: ((s' : Int) + (a : Int) + (b : Int)) :: t := by
      unfold fsts at ht ⊢
      rw [List.map_append, List.map_cons, List.append_assoc, List.cons_append, ht]
      simp
    have e2 : fsts (p ++ (s', a) :: (s' + a, b) :: q) e = p.map (fun x => (x.1 : Int)) ++ (s' : Int) :: ((s' : Int) + (a : Int)) :: ((s' : Int) + (a : Int) + (b : Int)) :: t := by
      unfold fsts at ht ⊢
      rw [List.map_append, List.map_cons, List.map_cons, List.append_assoc, List.cons_append, List.cons_append, ht]
      simp
    rw [e2]
    rw [e1] at this
    exact .cons this
theorem way_starts {R R' : List (Nat × Nat)} {js : List (Nat × Nat × Nat)} (h : Pile.Way R js R') {B : Nat} : (∀ x ∈ R, x.1 ≤ B) → ∀ j ∈ js, j.1 ≤ B := by
  induction h with
  | nil R => intro _ j hj; cases hj
  | @cons p q s a b js R' h ih =>
    intro hR j hj
    rcases List.mem_cons.mp hj with rfl | hj
    · exact hR (s, a) (by simp)
    · refine ih (fun x hx => ?_) j hj
      rcases List.mem_append.mp hx with hx | hx
      · exact hR x (List.mem_append_left _ hx)
      · rcases List.mem_cons.mp hx with rfl | hx
        · exact hR (s, a) (by simp)
        · exact hR x (by simp [hx])
theorem chain_singles {ls : List Nat} : ∀ (n k : Nat), ls.length - k = n → k ≤ ls.length → Chain (Pile.stt ls k) (Pile.singles ls k) ls.sum
  | 0, k, h, hk => by
    have e : k = ls.length := by omega
    subst e
    have : Pile.singles ls ls.length = [] := by
      unfold Pile.singles
      rw [Nat.sub_self]
      rfl
    rw [this]
    exact stt_all ls
  | n + 1, k, h, hk => by
    have lt : k < ls.length := by omega
    rw [Pile.singles_succ lt]
    refine ⟨rfl, ?_⟩
    have := chain_singles (ls := ls) n (k + 1) (by omega) (by omega)
    rw [Pile.stt_succ lt] at this
    exact this
theorem fsts_singles (ls : List Nat) : fsts (Pile.singles ls 0) ls.sum = bords ls := by
  unfold fsts bords Pile.singles
  rw [Nat.sub_zero, List.map_map, List.range_succ, List.map_append, ← List.range_eq_range', show ([ls.length].map fun i => ((Pile.stt ls i : Nat) : Int)) = [((Pile.stt ls ls.length : Nat) : Int)] from rfl, stt_all ls]
  rfl
/-- the sort's own joins are a way -/
theorem joins_due {ls : List Nat} (h : LenOk ls) : Obey (bords ls) (somes (Pile.joins ls)) := by
  obtain ⟨x, w⟩ := Pile.way_joins h.l0 h.l1
  rw [← fsts_singles]
  have c := chain_singles (ls := ls) ls.length 0 (Nat.sub_zero _) (Nat.zero_le _)
  exact way_obey w rfl c
theorem joins_low {ls : List Nat} (h : LenOk ls) : ∀ j ∈ Pile.joins ls, j.1 ≤ ls.sum := by
  obtain ⟨x, w⟩ := Pile.way_joins h.l0 h.l1
  refine way_starts w fun y hy => ?_
  unfold Pile.singles at hy
  obtain ⟨i, _, rfl⟩ := List.mem_map.mp hy
  exact take_sum ls i
theorem somes_first (js : List (Nat × Nat × Nat)) : FirstD (somes js) js none := by
  intro i r j a b
  unfold somes at a
  rw [List.getElem?_map, b] at a
  exact (Option.some.inj a).symm
theorem tris_way {H : Hp} {l : Addr} {ls : List Nat} (h : TrisAt H l (Pile.joins ls)) (LO : LenOk ls) (l60 : ls.length ≤ 60) : WayL H l := by
  obtain ⟨ts, h1, h2, h3⟩ := h
  have jc := Pile.joins_count LO.l0 LO.l1
  refine ⟨ts, h1, by omega, fun v hv => ?_⟩
  obtain ⟨i, hi⟩ := List.getElem?_of_mem hv
  obtain ⟨t, j, e, _, m, ht⟩ := TrisAt.item h2 h3 hi
  refine ⟨t, _, _, _, e, ht, ?_⟩
  have := joins_low LO j m
  have := LO.top
  rw [Int.natAbs_natCast]
  omega
theorem WayL.th {H : Hp} {p l : Addr} (h : WayL H l) (n : l ≠ p) : Th p H (.ref l) := by
  obtain ⟨xs, h1, h2, h3⟩ := h
  exact th_row (.inl h1) n (by omega) fun v hv => (h3 v hv).en
theorem WayL.move {H H' : Hp} {l : Addr} (h : WayL H l) (k : ∀ xs, H l = some (.lst xs) → H' l = some (.lst xs)) (kt : ∀ t xs, H t = some (.tup xs) → H' t = some (.tup xs)) : WayL H' l := by
  obtain ⟨xs, h1, h2, h3⟩ := h
  exact ⟨xs, k _ h1, h2, fun v hv => (h3 v hv).keep kt⟩
/-- a tuple of the sort's own joins -/
theorem th_joins {H : Hp} {p t : Addr} {js : List (Nat × Nat × Nat)} {ts : List V} (h : H t = some (.tup ts)) (n : t ≠ p) (l : ts.length = js.length) (l2 : ts.length ≤ 200) (h3 : ∀ (i : Nat) (v : V) (j : Nat × Nat × Nat), ts[i]? = some v → js[i]? = some j → TriAt H v j) : ThQ p H (.ref t) (some (somes js)) := by
  refine .row (.inr h) n (by unfold somes; rw [List.length_map]; exact l) l2 fun i v r a b => ?_
  unfold somes at b
  rw [List.getElem?_map] at b
  cases e : js[i]? with
  | none => rw [e] at b; cases b
  | some j =>
    rw [e] at b
    obtain ⟨u, rfl, hu⟩ := h3 i v j a e
    rw [← Option.some.inj b]
    exact .tri hu
/-- by hand -/
theorem due_two : Due [1, 2] (some [some (0, 1, 2)]) := Obey.cons (p := []) (q := []) (s := 0) (f := 1) (g := 2) (.nil rfl)
theorem due_four : Due [2, 2, 2, 2] (some [some (4, 2, 2), some (0, 2, 2), some (0, 4, 4)]) := Obey.cons (p := [0, 2]) (q := []) (s := 4) (f := 2) (g := 2) (Obey.cons (p := []) (q := [8]) (s := 0) (f := 2) (g := 2) (Obey.cons (p := []) (q := []) (s := 0) (f := 4) (g := 4) (.nil rfl)))
theorem due_one : Due [3] (some []) := Obey.nil rfl
theorem due_no : ¬ Due [1, 2] (some [some (0, 2, 1)]) := fun z => by
  have so : Srt (([] : List Int) ++ 0 :: 1 :: 3 :: []) := bords_srt (ls := [1, 2]) (by decide)
  have := (obey_some (f := 2) (g := 1) (rs := []) so).mp z
  omega
theorem due_bad {ls : List Nat} : ¬ Due ls (some [none]) := obey_none
theorem first_four : FirstD [some (4, 2, 2), some (0, 2, 2), some (0, 4, 4)] (Pile.joins [2, 2, 2, 2]) (some 0) := by
  have e : (Pile.joins [2, 2, 2, 2])[0]? = some (0, 2, 2) := by decide +kernel
  exact ⟨⟨_, _, rfl, e, fun z => by cases z⟩, fun i _ _ h => absurd h (Nat.not_lt_zero _)⟩

end K38

namespace K38
open PySem PySem.Spec PyProof.Rows L2 LamX
def spLaw (K : PySem.W.Frag) (TT : List (Addr × Str)) : Sp := fun vs H Q _ => ∃ (p : Addr) (ns : List Int), vs = [.ref p] ∧ SqL K H p (ns.map V.int) ∧ ns.length ≤ 63 ∧ LamX.Tabs TT H ∧ ∀ H', Q (.bl true) H'
theorem cells_int {ns : List Int} {lo hi : Option Int} {x : V} (h : x ∈ cutV (ns.map V.int ++ [V.int 0]) lo hi) : ∃ c, x = .int c := by
  rcases List.mem_append.mp (cut_mem h) with h | h
  · obtain ⟨c, _, e⟩ := List.mem_map.mp h
    exact ⟨c, e.symm⟩
  · exact ⟨0, List.mem_singleton.mp h⟩
/-- all but the source and the tables stays -/
def Mv (p : Addr) (H H' : Hp) : Prop := ∀ b o, b ≠ p → (∀ ps, o ≠ HO.tbl ps) → H b = some o → H' b = some o
theorem Mv.refl {p : Addr} {H : Hp} : Mv p H H := fun b o _ _ h => h
theorem Mv.z {p : Addr} {H H' : Hp} (d : DnZ p H H') : Mv p H H' := fun b o n _ h => d.1 b o n h
theorem Mv.x {p : Addr} {H H' : Hp} (d : ExtN H H') : Mv p H H' := fun b o _ k h => d b o h k
theorem Mv.trans {p : Addr} {H H1 H2 : Hp} (a : Mv p H H1) (b : Mv p H1 H2) : Mv p H H2 := fun u o n k h => b u o n k (a u o n k h)
theorem Mv.lst {p l : Addr} {H H' : Hp} {xs : List V} (m : Mv p H H') (h : H l = some (.lst xs)) (n : l ≠ p) : H' l = some (.lst xs) := m _ _ n (fun ps z => by cases z) h
theorem Mv.tup {p t : Addr} {H H' : Hp} {xs : List V} (m : Mv p H H') (hS : SrcZ H p) (h : H t = some (.tup xs)) : H' t = some (.tup xs) := m _ _ (fun z => by
  obtain ⟨_, _, _, e⟩ := hS
  rw [z, e] at h
  cases h) (fun ps z => by cases z) h
theorem tabs_z {TT : List (Addr × Str)} {H H' : Hp} {p : Addr} (t : Tabs TT H) (hs : SrcZ H p) (d : DnZ p H H') : Tabs TT H' := fun q hq => by
  obtain ⟨x, y, z, hs⟩ := hs
  obtain ⟨ps, h1, h2, h3⟩ := t q hq
  refine ⟨ps, d.1 _ _ (fun e => by rw [e, hs] at h1; cases h1) h1, h2, fun pos cv hc => ?_⟩
  obtain ⟨c, e1, e2⟩ := h3 pos cv hc
  refine ⟨c, e1, d.1 _ _ (fun e => ?_) e2⟩
  rw [e, hs] at e2
  have e3 := Option.some.inj e2
  unfold CodeO at e3
  cases e3
theorem srcX {H H' : Hp} {p : Addr} (e : ExtN H H') (h : SrcZ H p) : SrcZ H' p := by
  obtain ⟨x, y, z, h⟩ := h
  exact ⟨x, y, z, e _ _ h fun ps z => by cases z⟩
theorem sum_top {T : Nat} : ∀ {ls : List Nat}, (∀ x ∈ ls, x ≤ T) → ls.sum ≤ ls.length * T
  | [], _ => Nat.zero_le _
  | x :: ls, h => by
    have ih := sum_top (ls := ls) fun y hy => h y (List.mem_cons_of_mem _ hy)
    have := h x (List.mem_cons_self ..)
    rw [List.sum_cons, List.length_cons, Nat.add_mul]
    omega
theorem lenOk {ls : List Nat} (h0 : 0 < ls.length) (h1 : ls.length ≤ 200) (h : ∀ x ∈ ls, 1 ≤ x ∧ x ≤ topLen) : LenOk ls := by
  refine ⟨h0, h1, fun x hx => (h x hx).1, ?_⟩
  have := sum_top fun x hx => (h x hx).2
  have : ls.length * topLen ≤ 200 * topLen := Nat.mul_le_mul_right _ h1
  have e : 200 * topLen < 2 ^ 1000 := by unfold topLen; decide +kernel
  omega
theorem tris_cat2 {H : Hp} {l1 l2 l3 : Addr} {js1 js2 : List (Nat × Nat × Nat)} {ts1 ts2 : List V} (h1 : TrisAt H l1 js1) (h2 : TrisAt H l2 js2) (e1 : H l1 = some (.lst ts1)) (e2 : H l2 = some (.lst ts2)) (e3 : H l3 = some (.lst (ts1 ++ ts2))) : TrisAt H l3 (js1 ++ js2) := by
  obtain ⟨u1, a1, a2, a3⟩ := h1
  obtain ⟨u2, b1, b2, b3⟩ := h2
  obtain rfl : u1 = ts1 := HO.lst.inj (Option.some.inj (a1.symm.trans e1))
  obtain rfl : u2 = ts2 := HO.lst.inj (Option.some.inj (b1.symm.trans e2))
  refine ⟨_, e3, by simp only [List.length_append]; omega, fun i v j a b => ?_⟩
  rcases Nat.lt_or_ge i u1.length with c | c
  · rw [List.getElem?_append_left c] at a
    rw [List.getElem?_append_left (by omega)] at b
    exact a3 i v j a b
  · rw [List.getElem?_append_right c] at a
    rw [List.getElem?_append_right (by omega)] at b
    rw [a2] at a
    exact b3 _ v j a b
theorem one_tri {p : Addr} {H : Hp} {t : Addr} {s f g : Int} (h : H t = some (.tup [.int s, .int f, .int g])) (i : Nat) (v : V) (r : Option Tri) (a : [V.ref t][i]? = some v) (b : [some (s, f, g)][i]? = some r) : EntQ p H v r := by
  cases i with
  | zero =>
    rw [← Option.some.inj a, ← Option.some.inj b]
    exact .tri h
  | succ i => simp at a
section
variable {P : Program} {w : World} {K : PySem.W.Frag} {mg : Str → Option Value} {base : Heap} {a : Ad} {d : Fd}
theorem ok_law (T : Txt K mg a d) (TB_judged : TabB base mg a.lc_judged a.lp_judged) (TB_law : TabB base mg a.lc_law a.lp_law) : FnOk P w K mg base CX0 14 a.law d.law P_law (spLaw K (LT a)) := by
  have G_source : FnOk P w K mg base CX0 1 a.source d.source P_source spSource := ok_source T
  have G_pick : FnOk P w K mg base CX0 3 a.pick d.pick P_pick (spPick K) := ok_pick T
  have G_lengths : FnOk P w K mg base CX0 4 a.lengths d.lengths P_lengths spLengths := ok_lengths T
  have G_piled : FnOk P w K mg base CX0 2 a.piled d.piled P_piled spPiled := ok_piled T
  have G_drawn_way : FnOk P w K mg base CX0 3 a.drawn_way d.drawn_way P_drawn_way spDrawn := ok_drawn_way T
  have G_spoilt : FnOk P w K mg base CX0 4 a.spoilt d.spoilt P_spoilt spSpoilt := ok_spoilt T
  have G_is_way : FnOk P w K mg base CX0 5 a.is_way d.is_way P_is_way spWayOf := ok_is_way T
  have G_first_unlike : FnOk P w K mg base (L2.CX P w) 5 a.first_unlike d.first_unlike P_first_unlike (spUnlike a.c_Mismatch) := ok_first_unlike T
  have G_judged : FnOk P w K mg base CX0 13 a.judged d.judged P_judged (spJudged a) := ok_judged T TB_judged
  refine T.f_law.okC T.lc_law sc_law (fun vs H Q E h => ?_) (fun A outer s0 H vs Q E hr h => ?_)
  · obtain ⟨p, n, rfl, _⟩ := h
    rfl
  · obtain ⟨sc, ns, rfl, hS, hlen, hT, q⟩ := h
    refine ⟨_, (pss_cons (ps_for PassesOwn.never rfl (pi_list (pe_slice sl_list (pe_op op_catS (pv 0) (pe_lst (pa_cons pe_int pa_nil))) po_none (po_some pe_int))) (pg_name (i := 1) sc_law.nd rfl (Or.inl rfl))
      (pss_cons (ps_set (i := 2) sc_law.nd rfl (Or.inl rfl) (pe_call G_source (hr.mono (by decide)) (by rfl) T.g_source T.k_source T.b_source .nil pass0 (pa_cons (pv 1) pa_nil)))
        (pss_cons (ps_set (i := 3) sc_law.nd rfl (Or.inl rfl) (pe_call G_lengths (hr.mono (by decide)) (by rfl) T.g_lengths T.k_lengths T.b_lengths .nil pass0 (pa_cons (pv 2) (pa_cons pe_int (pa_cons pe_bl pa_nil)))))
        (pss_cons (ps_asg (pe_call G_piled (hr.mono (by decide)) (by rfl) T.g_piled T.k_piled T.b_piled .nil pass0 (pa_cons (pv 3) pa_nil)) (pg_tup rfl (pgs_cons (pg_name (i := 4) sc_law.nd rfl (Or.inl rfl)) (pgs_cons (pg_name (i := 5) sc_law.nd rfl (Or.inl rfl)) (pgs_cons (pg_name (i := 6) sc_law.nd rfl (Or.inl rfl)) pgs_nil)))))
        (pss_cons (ps_set (i := 7) sc_law.nd rfl (Or.inl rfl) (pe_op op_catS (pv 5) (pv 6)))
        (pss_cons (ps_for PassesOwn.never rfl (pi_range1 (by rfl) T.z_range (pa_cons pe_int pa_nil)) (pg_name (i := 8) sc_law.nd rfl (Or.inl rfl))
          (pss_cons (ps_set (i := 9) sc_law.nd rfl (Or.inr rfl) (pe_call G_pick (hr.mono (by decide)) (by rfl) T.g_pick T.k_pick T.b_pick .nil pass0 (pa_cons (pv 2) (pa_cons (pe_lst (pa_cons (pv 7) (pa_cons (pe_call G_drawn_way (hr.mono (by decide)) (by rfl) T.g_drawn_way T.k_drawn_way T.b_drawn_way .nil pass0 (pa_cons (pv 2) (pa_cons (pv 3) pa_nil))) pa_nil))) pa_nil))))
            (pss_cons (ps_if (PW.pt (pw_or (pt_not (pt_val (pe_call G_judged (hr.mono (by decide)) (by rfl) T.g_judged T.k_judged T.b_judged .nil pass0 (pa_cons (pv 3) (pa_cons (pv 9) (pa_cons (pv 7) pa_nil)))))) (pw_or1 (pt_not (pt_val (pe_call G_judged (hr.mono (by decide)) (by rfl) T.g_judged T.k_judged T.b_judged .nil pass0 (pa_cons (pv 3) (pa_cons (pe_callTy call_tuple_of (by rfl) T.z_tuple (by decide +kernel) (pa_cons (pv 9) pa_nil)) (pa_cons (pv 7) pa_nil))))))))) (pss_one (ps_ret pe_bl)) pss_nil)
            (pss_one (ps_if (pt_not (pt_val (pe_call G_judged (hr.mono (by decide)) (by rfl) T.g_judged T.k_judged T.b_judged .nil pass0 (pa_cons (pv 3) (pa_cons (pe_call G_spoilt (hr.mono (by decide)) (by rfl) T.g_spoilt T.k_spoilt T.b_spoilt .nil pass0 (pa_cons (pv 2) (pa_cons (pv 9) pa_nil))) (pa_cons (pv 7) pa_nil)))))) (pss_one (ps_ret pe_bl)) pss_nil)))))
        (pss_one (ps_if (pt_cmpR op_notN (pe_callN0 G_first_unlike (hr.mono (by decide)) (by rfl) T.g_first_unlike T.k_first_unlike T.kn_first_unlike_0_joins_lengths passL (pk_cons (pe_callTy call_tuple_of (by rfl) T.z_tuple (by decide +kernel) (pa_cons (pv 7) pa_nil)) (pk_cons (pv 3) pk_nil))) pe_non (nomark _)) (pss_one (ps_ret pe_bl)) pss_nil))))))))
    (pss_cons (ps_for PassesOwn.never rfl (pi_tup (pe_tup (pa_cons (pe_lst (pa_cons (pe_tup (pa_cons pe_bl (pa_cons pe_int (pa_cons pe_int pa_nil)))) pa_nil)) (pa_cons (pe_lst (pa_cons (pe_tup (pa_cons pe_int (pa_cons pe_bl (pa_cons pe_int pa_nil)))) pa_nil)) (pa_cons (pe_lst (pa_cons (pe_tup (pa_cons pe_int (pa_cons pe_int (pa_cons pe_bl pa_nil)))) pa_nil)) pa_nil))))) (pg_name (i := 9) sc_law.nd rfl (Or.inr rfl))
      (pss_one (ps_if (PW.pt (pw_or (pt_val (pe_call G_is_way (hr.mono (by decide)) (by rfl) T.g_is_way T.k_is_way T.b_is_way .nil pass0 (pa_cons (pe_lst (pa_cons pe_int (pa_cons pe_int pa_nil))) (pa_cons (pv 9) pa_nil)))) (pw_or1 (pt_cmpR (op_neD hr.units) (pe_lamcallG (T := LT a) (k := 9) T.f_said (by rfl) T.g_said T.k_said T.b_said sc_said rfl (Or.inl rfl) (gives_said T) TB_law rfl (hm_law a) (hu_law T) (hr.mono (by decide)) (free_by (show freeB (defScope s_law) _ = true from by decide +kernel)) rfl (Or.inl rfl) (.plain (lamS_by (show lamSB (defScope s_law) _ = true from by decide +kernel)) rfl (fun _ _ _ _ _ _ => rfl) (fun A1 outer1 s1 H1 E1 f1 c1 hr1 => (pe_call G_first_unlike (hr1.mono (by decide)) (by rfl) T.g_first_unlike T.k_first_unlike T.b_first_unlike .nil (passY rfl rfl rfl rfl) (pa_cons (pe_lst (pa_cons pe_int (pa_cons pe_int pa_nil))) (pa_cons (pv 9) pa_nil)))))) (pe_tup (pa_cons pe_str (pa_cons pe_str pa_nil))) (nomark _))))) (pss_one (ps_ret pe_bl)) pss_nil)))
    (pss_cons (ps_set (i := 10) sc_law.nd rfl (Or.inl rfl) (pe_lst (pa_cons (pe_call G_is_way (hr.mono (by decide)) (by rfl) T.g_is_way T.k_is_way T.b_is_way .nil pass0 (pa_cons (pe_lst (pa_cons pe_int (pa_cons pe_int pa_nil))) (pa_cons (pe_lst (pa_cons (pe_tup (pa_cons pe_int (pa_cons pe_int (pa_cons pe_int pa_nil)))) pa_nil)) pa_nil))) (pa_cons (pe_call G_is_way (hr.mono (by decide)) (by rfl) T.g_is_way T.k_is_way T.b_is_way .nil pass0 (pa_cons (pe_lst (pa_cons pe_int (pa_cons pe_int pa_nil))) (pa_cons (pe_lst (pa_cons (pe_tup (pa_cons pe_int (pa_cons pe_int (pa_cons pe_int pa_nil)))) pa_nil)) pa_nil))) (pa_cons (pe_call G_is_way (hr.mono (by decide)) (by rfl) T.g_is_way T.k_is_way T.b_is_way .nil pass0 (pa_cons (pe_lst (pa_cons pe_int pa_nil)) (pa_cons (pe_lst pa_nil) pa_nil))) (pa_cons (pe_call G_is_way (hr.mono (by decide)) (by rfl) T.g_is_way T.k_is_way T.b_is_way .nil pass0 (pa_cons (pe_lst (pa_cons pe_int pa_nil)) (pa_cons (pe_tup pa_nil) pa_nil))) pa_nil))))))
    (pss_one (ps_ret (pe_and (pe_cmpR (op_eqD hr.units) (pv 10) (pe_lst (pa_cons pe_bl (pa_cons pe_bl (pa_cons pe_bl (pa_cons pe_bl pa_nil))))) (nomark _)) (pe_one (pe_cmpR op_eq (pe_call G_first_unlike (hr.mono (by decide)) (by rfl) T.g_first_unlike T.k_first_unlike T.b_first_unlike .nil passL (pa_cons (pe_lst (pa_cons pe_int (pa_cons pe_int (pa_cons pe_int (pa_cons pe_int pa_nil))))) (pa_cons (pe_lst (pa_cons (pe_tup (pa_cons pe_int (pa_cons pe_int (pa_cons pe_int pa_nil)))) (pa_cons (pe_tup (pa_cons pe_int (pa_cons pe_int (pa_cons pe_int pa_nil)))) (pa_cons (pe_tup (pa_cons pe_int (pa_cons pe_int (pa_cons pe_int pa_nil)))) pa_nil)))) pa_nil))) pe_int (nomark _))))))))), ?_⟩
    have ln : (ns.map V.int).length = ns.length := List.length_map _
    have sz : (ns.map V.int).length + 1 ≤ sizeLine := Nat.le_trans (by omega) (by decide : 64 ≤ sizeLine)
    refine ⟨_, rfl, by show 1 ≤ sizeLine; decide, fun b2 hb2 => ⟨sc, b2, _, _, rfl, rfl, (same_upd hb2).seq hS, L2.sq_of upd_same, sz, fun c2 hc2 => ?_⟩⟩
    refine ⟨6, rfl, c2, _, rfl, L2.sq_of upd_same, fun e he => ⟨e, rfl, ⟨_, L2.sq_of upd_same⟩, ?_⟩⟩
    have TE : Tabs (LT a) (upd (upd (upd H b2 (.lst [.int 0])) c2 (.lst (ns.map V.int ++ [V.int 0]))) e (.lst (cutV (ns.map V.int ++ [V.int 0]) none (some 6)))) := ((hT.ext (same_upd hb2)).ext (same_upd hc2)).ext (same_upd he)
    generalize hHe : upd (upd (upd H b2 (.lst [.int 0])) c2 (.lst (ns.map V.int ++ [V.int 0]))) e (.lst (cutV (ns.map V.int ++ [V.int 0]) none (some 6))) = He at TE ⊢
    have hE : He e = some (.lst (cutV (ns.map V.int ++ [V.int 0]) none (some 6))) := by
      rw [← hHe]
      exact upd_same
    refine for_list (K := K) (a := e) (xs := cutV (ns.map V.int ++ [V.int 0]) none (some 6)) (fun i σ H' => (∃ (u1 u2 u3 u4 u5 u6 u7 u8 u9 u10 : Option V), σ = [some (.ref sc), u1, u2, u3, u4, u5, u6, u7, u8, u9, u10]) ∧ ExtN He H' ∧ Tabs (LT a) H')
      ⟨⟨_, _, _, _, _, _, _, _, _, _, rfl⟩, ExtN.refl _, TE⟩ (fun i σ H' _ h => L2.sq_of (h.2.1 _ _ hE fun ps z => by cases z)) ?_ ?_
    · rintro i y σ H2 hy ⟨⟨u1, u2, u3, u4, u5, u6, u7, u8, u9, u10, rfl⟩, sm, T2⟩
      obtain ⟨cell, rfl⟩ := cells_int (List.mem_of_getElem? hy)
      refine ⟨_, rfl, cell, rfl, fun p x y z hp => ?_⟩
      have sm1 : ExtN He (upd H2 p (.lst [.int x, .int y, .int z])) := sm.trans (ExtN.of (same_upd hp))
      have sr1 : SrcZ (upd H2 p (.lst [.int x, .int y, .int z])) p := .put
      have T3 := T2.ext (same_upd (o := .lst [.int x, .int y, .int z]) hp)
      have fp : ∀ b o, (∀ ps, o ≠ HO.tbl ps) → He b = some o → b ≠ p := fun b o n h z => by
        have h2 := sm _ _ h n
        rw [z, hp] at h2
        cases h2
      generalize upd H2 p (.lst [.int x, .int y, .int z]) = H3 at sm1 sr1 T3 ⊢
      have back : ∀ {H4 : Hp}, Mv p H3 H4 → ExtN He H4 := fun d b o e n => d b o (fp b o n e) n (sm1 _ _ e n)
      clear fp sm1 sm
      refine ⟨_, rfl, p, 12, true, rfl, sr1, by decide, by decide, fun l n H4 n0 nu ⟨ls, hl, ll, pl⟩ d4 lN => ?_⟩
      have okL : LenOk ls := lenOk (by omega) (by omega) pl
      have l12 : ls.length ≤ 12 := by omega
      have T4 := tabs_z T3 sr1 d4
      have M4 : Mv p H3 H4 := .z d4
      have nlp : l ≠ p := sr1.ne lN
      have r4 := d4.2
      clear d4 lN sr1 T3 pl
      refine ⟨_, rfl, l, ls, rfl, hl, okL, fun t sk ea la H5 s5 nt nsk nea nla ht _ hea hla => ?_⟩
      refine ⟨t, _, rfl, L2.st_of ht, rfl, _, _, rfl, _, _, rfl, _, _, rfl, rfl, ?_⟩
      obtain ⟨us1, hu1, lu1, _⟩ := id hea
      obtain ⟨us2, hu2, lu2, _⟩ := id hla
      have jc := Pile.joins_count okL.l0 okL.l1
      have ej : (Pile.sts ls.sum ls ls.length).2 ++ (Pile.fin 200 ((Pile.sts ls.sum ls ls.length).1, [])).2 = Pile.joins ls := rfl
      have lus : (us1 ++ us2).length = (Pile.joins ls).length := by rw [← ej, List.length_append, List.length_append, lu1, lu2]
      refine ⟨_, rfl, _, rfl, ea, la, us1, us2, rfl, rfl, L2.sq_of hu1, L2.sq_of hu2, Nat.le_trans (show us1.length + us2.length ≤ 200 by rw [← List.length_append, lus]; omega) (by decide), fun mi hmi => ?_⟩
      have s6 := same_upd (o := .lst (us1 ++ us2)) hmi
      have hm6 : TrisAt (upd H5 mi (.lst (us1 ++ us2))) mi (Pile.joins ls) := by
        rw [← ej]
        exact tris_cat2 (hea.keep (fun _ z => s6 _ _ z) fun _ _ z => s6 _ _ z) (hla.keep (fun _ z => s6 _ _ z) fun _ _ z => s6 _ _ z) (s6 _ _ hu1) (s6 _ _ hu2) upd_same
      have s46 := s5.trans s6
      have nmi : mi ≠ p := (r4.same s5).ne hmi
      have hl6 := s46 _ _ hl
      have T6 := T4.ext s46
      have M6 := M4.trans (.x (.of s46))
      have r6 := r4.same s46
      clear s5 s6 nt nsk nea nla ht hea hla hu1 hu2 lu1 lu2 hmi s46 hl T4 M4 r4 lus ej
      generalize upd H5 mi (.lst (us1 ++ us2)) = H6 at hm6 hl6 T6 M6 r6 ⊢
      have w6 := tris_way hm6 okL (by omega)
      refine ⟨8, rfl, by decide, by decide, ?_⟩
      refine for_range (lo := 0) (n := 8) (fun i σ H' => (∃ (u8 u9 : Option V), σ = [some (.ref sc), some (.int cell), some (.ref p), some (.ref l), some (.ref sk), some (.ref ea), some (.ref la), some (.ref mi), u8, u9, u10]) ∧ Mv p H6 H' ∧ Tabs (LT a) H' ∧ SrcZ H' p) ⟨⟨_, _, rfl⟩, .refl, T6, r6⟩ ?_ ?_
      · rintro i σ H7 hi ⟨⟨u8, u9, rfl⟩, M7, T7, r7⟩
        have hl7 := M7.lst hl6 nlp
        have hm7 : TrisAt H7 mi (Pile.joins ls) := hm6.keep (fun _ z => M7.lst z nmi) fun _ _ z => M7.tup r6 z
        refine ⟨_, rfl, _, rfl, _, rfl, _, rfl, p, l, ls, rfl, r7, hl7, nlp, okL, by omega, fun dw H8 ndw d8 wd8 => ?_⟩
        have ndp : dw ≠ p := r7.ne ndw
        have w8 : WayL H8 mi := (tris_way hm7 okL (by omega)).move (fun _ z => d8.1 _ _ nmi z) fun _ _ z => src_tup r7 d8 z
        refine ⟨by show 2 ≤ sizeLine; decide, fun L hL => ?_⟩
        have d9 := d8.new (o := .lst [.ref mi, .ref dw]) hL
        have s9 := same_upd (o := .lst [.ref mi, .ref dw]) hL
        have nL : L ≠ p := d8.2.ne hL
        have kL : upd H8 L (.lst [.ref mi, .ref dw]) L = some (.lst [.ref mi, .ref dw]) := upd_same
        have w9 : ∀ v ∈ [V.ref mi, V.ref dw], ∃ w, v = .ref w ∧ w ≠ p ∧ WayL (upd H8 L (.lst [.ref mi, .ref dw])) w := fun v hv => by
          rcases List.mem_cons.mp hv with rfl | hv
          · exact ⟨mi, rfl, nmi, w8.move (fun _ z => s9 _ _ z) fun _ _ z => s9 _ _ z⟩
          · rw [List.mem_singleton.mp hv]
            exact ⟨dw, rfl, ndp, wd8.move (fun _ z => s9 _ _ z) fun _ _ z => s9 _ _ z⟩
        generalize upd H8 L (.lst [.ref mi, .ref dw]) = H9 at d9 kL w9 ⊢
        refine ⟨p, L, _, rfl, d9.2, nL, L2.sq_of kL, by show 0 < 2; decide, by show 2 < 2 ^ 60; decide, fun v Ha hv dA => ?_⟩
        obtain ⟨wy, rfl, nwy, wA⟩ := w9 v hv
        have wA : WayL Ha wy := wA.move (fun _ z => dA.1 _ _ nwy z) fun _ _ z => src_tup d9.2 dA z
        have d7A := d9.trans dA
        have TA := tabs_z T7 r7 d7A
        have MA := M7.trans (.z d7A)
        have rA := d7A.2
        clear d9 kL w9 hv dA d7A hL s9 w8 d8 wd8 ndw hl7 hm7 T7 M7 r7
        have hlA := MA.lst hl6 nlp
        have hmA : TrisAt Ha mi (Pile.joins ls) := hm6.keep (fun _ z => MA.lst z nmi) fun _ _ z => MA.tup r6 z
        obtain ⟨r, thA⟩ := wA.th nwy
        refine ⟨_, rfl, _, rfl, _, rfl, p, l, mi, _, ls, r, rfl, TA, hlA, okL, thA, hmA, fun Hb eb Tb => ⟨true, rfl, iteF ?_⟩⟩
        have xl : ∀ {H1 H' : Hp} {b : Addr} {xs : List V}, ExtN H1 H' → H1 b = some (.lst xs) → H' b = some (.lst xs) := fun e h => e _ _ h fun ps z => by cases z
        have xt : ∀ {H1 H' : Hp} {b : Addr} {xs : List V}, ExtN H1 H' → H1 b = some (.tup xs) → H' b = some (.tup xs) := fun e h => e _ _ h fun ps z => by cases z
        obtain ⟨xs, kw, lw, rw'⟩ := wA.move (fun _ z => xl eb z) fun _ _ z => xt eb z
        refine ⟨_, rfl, _, rfl, wy, xs, rfl, .inl ⟨L2.sq_of kw, fun tw htw => ?_⟩⟩
        have sc' := same_upd (o := .tup xs) htw
        have ktw : upd Hb tw (.tup xs) tw = some (.tup xs) := upd_same
        have ec := eb.trans (.of sc')
        have Tc := Tb.ext sc'
        have ntw : tw ≠ p := (srcX eb rA).ne htw
        have rwc : ∀ v ∈ xs, RowI (upd Hb tw (.tup xs)) v := fun v hv => (rw' v hv).keep fun _ _ z => sc' _ _ z
        clear eb Tb rw' thA kw
        generalize upd Hb tw (.tup xs) = Hc at sc' ktw ec Tc rwc ⊢
        obtain ⟨rT, thT⟩ := th_row (p := p) (.inr ktw) ntw (by omega) fun v hv => (rwc v hv).en
        refine ⟨_, rfl, p, l, mi, _, ls, rT, rfl, Tc, xl ec hlA, okL, thT, hmA.keep (fun _ z => xl ec z) fun _ _ z => xt ec z, fun Hd ed Td => ⟨true, rfl, iteF ?_⟩⟩
        have ead := ec.trans ed
        have rd := srcX ead rA
        clear sc' ktw ec Tc rwc thT ed htw ntw
        refine ⟨_, rfl, _, rfl, _, rfl, p, wy, rfl, rd, nwy, wA.move (fun _ z => xl ead z) fun _ _ z => xt ead z, fun v Hf r2 dd thd => ?_⟩
        have Tf := tabs_z Td rd dd
        have Mf := (MA.trans (.x ead)).trans (.z dd)
        have hmf : TrisAt Hf mi (Pile.joins ls) := hm6.keep (fun _ z => Mf.lst z nmi) fun _ _ z => Mf.tup r6 z
        refine ⟨_, rfl, p, l, mi, v, ls, r2, rfl, Tf, Mf.lst hl6 nlp, okL, thd, hmf, fun Hg eg Tg => ⟨true, rfl, iteF ?_⟩⟩
        exact ⟨⟨_, _, rfl⟩, Mf.trans (.x eg), Tg, srcX eg dd.2⟩
      · rintro σ H7 ⟨⟨u8, u9, rfl⟩, M7, T7, r7⟩
        have hm7 : TrisAt H7 mi (Pile.joins ls) := hm6.keep (fun _ z => M7.lst z nmi) fun _ _ z => M7.tup r6 z
        obtain ⟨ts, hts, lts, jts⟩ := id hm7
        refine ⟨_, rfl, mi, ts, rfl, .inl ⟨L2.sq_of hts, fun tm htm => ?_⟩⟩
        have s8 := same_upd (o := .tup ts) htm
        have ktm : upd H7 tm (.tup ts) tm = some (.tup ts) := upd_same
        have hl8 := s8 _ _ (M7.lst hl6 nlp)
        have ntm := r7.ne htm
        have T8 := T7.ext s8
        have M8 := (M6.trans M7).trans (.x (.of s8))
        generalize upd H7 tm (.tup ts) = H8 at s8 ktm hl8 T8 M8 ⊢
        have th8 := th_joins (p := p) ktm ntm lts (by omega) fun i v j x y => by
          obtain ⟨t', e', ht'⟩ := jts i v j x y
          exact ⟨t', e', s8 _ _ ht'⟩
        refine ⟨_, rfl, rfl, p, l, .ref tm, ls, _, rfl, .inl (by rw [nVi]; exact hl8), okL, th8, fun z => absurd (joins_due okL) z, fun _ rs o H9 er fd s9 => ?_⟩
        cases er
        rw [fd.uniq (somes_first _)]
        refine ⟨rfl, false, rfl, iteF ?_⟩
        exact ⟨⟨_, _, _, _, _, _, _, _, _, _, rfl⟩, back (M8.trans (.x (.of s9))), T8.ext s9⟩
    · rintro σ H2 ⟨⟨u1, u2, u3, u4, u5, u6, u7, u8, u9, u10, rfl⟩, sm, T2⟩
      clear sm hE hHe
      refine ⟨by show 3 ≤ sizeLine; decide, fun t1 ht1 => ⟨by show 1 ≤ sizeLine; decide, fun l1 hl1 => ?_⟩⟩
      have s3 := (same_upd (o := .tup [.bl false, .int 1, .int 1]) ht1).trans (same_upd (o := .lst [.ref t1]) hl1)
      have g1 := same_upd (o := .lst [.ref t1]) hl1 _ _ (show upd H2 t1 (.tup [.bl false, .int 1, .int 1]) t1 = some (.tup [.bl false, .int 1, .int 1]) from upd_same)
      have f1 : upd (upd H2 t1 (.tup [.bl false, .int 1, .int 1])) l1 (.lst [.ref t1]) l1 = some (.lst [.ref t1]) := upd_same
      have T3 := T2.ext s3
      generalize upd (upd H2 t1 (.tup [.bl false, .int 1, .int 1])) l1 (.lst [.ref t1]) = H3 at g1 f1 T3 ⊢
      refine ⟨by show 3 ≤ sizeLine; decide, fun t2 ht2 => ⟨by show 1 ≤ sizeLine; decide, fun l2 hl2 => ?_⟩⟩
      have s4 := (same_upd (o := .tup [.int 0, .bl true, .int 1]) ht2).trans (same_upd (o := .lst [.ref t2]) hl2)
      have g2 := same_upd (o := .lst [.ref t2]) hl2 _ _ (show upd H3 t2 (.tup [.int 0, .bl true, .int 1]) t2 = some (.tup [.int 0, .bl true, .int 1]) from upd_same)
      have f2 : upd (upd H3 t2 (.tup [.int 0, .bl true, .int 1])) l2 (.lst [.ref t2]) l2 = some (.lst [.ref t2]) := upd_same
      have T4 := T3.ext s4
      have g1 := s4 _ _ g1
      have f1 := s4 _ _ f1
      generalize upd (upd H3 t2 (.tup [.int 0, .bl true, .int 1])) l2 (.lst [.ref t2]) = H4 at g1 f1 g2 f2 T4 ⊢
      refine ⟨by show 3 ≤ sizeLine; decide, fun t3 ht3 => ⟨by show 1 ≤ sizeLine; decide, fun l3 hl3 => ⟨by show 3 ≤ sizeLine; decide, fun tt htt => ?_⟩⟩⟩
      have s5 := ((same_upd (o := .tup [.int 0, .int 1, .bl true]) ht3).trans (same_upd (o := .lst [.ref t3]) hl3)).trans (same_upd (o := .tup [.ref l1, .ref l2, .ref l3]) htt)
      have g3 := same_upd (o := .tup [.ref l1, .ref l2, .ref l3]) htt _ _ (same_upd (o := .lst [.ref t3]) hl3 _ _ (show upd H4 t3 (.tup [.int 0, .int 1, .bl true]) t3 = some (.tup [.int 0, .int 1, .bl true]) from upd_same))
      have f3 := same_upd (o := .tup [.ref l1, .ref l2, .ref l3]) htt _ _ (show upd (upd H4 t3 (.tup [.int 0, .int 1, .bl true])) l3 (.lst [.ref t3]) l3 = some (.lst [.ref t3]) from upd_same)
      have ktt : upd (upd (upd H4 t3 (.tup [.int 0, .int 1, .bl true])) l3 (.lst [.ref t3])) tt (.tup [.ref l1, .ref l2, .ref l3]) tt = some (.tup [.ref l1, .ref l2, .ref l3]) := upd_same
      have T5 := T4.ext s5
      have g1 := s5 _ _ g1
      have f1 := s5 _ _ f1
      have g2 := s5 _ _ g2
      have f2 := s5 _ _ f2
      generalize upd (upd (upd H4 t3 (.tup [.int 0, .int 1, .bl true])) l3 (.lst [.ref t3])) tt (.tup [.ref l1, .ref l2, .ref l3]) = H5 at g1 f1 g2 f2 g3 f3 ktt T5 ⊢
      have bad : ∀ v ∈ [V.ref l1, V.ref l2, V.ref l3], ∃ t, ThQ t H5 v (some [none]) := fun v hv => by
        have one : ∀ {l t : Addr} {x y z : V} {dx dy dz : PyData}, H5 l = some (.lst [.ref t]) → H5 t = some (.tup [x, y, z]) → Lone x dx → Lone y dy → Lone z dz → ¬ (isI x = true ∧ isI y = true ∧ isI z = true) → ThQ t H5 (.ref l) (some [none]) := fun {l t x y z dx dy dz} h h2 lx ly lz no => .row (.inl h) (fun e => by rw [e, h2] at h; cases h) rfl (by show 1 ≤ 200; decide) fun i v r a b => by
          cases i with
          | zero =>
            rw [← Option.some.inj a, ← Option.some.inj b]
            exact .part h2 lx ly lz no
          | succ i => simp at a
        rcases List.mem_cons.mp hv with rfl | hv
        · exact ⟨_, one f1 g1 (.bl _) (.int _) (.int _) fun z => by cases z.1⟩
        · rcases List.mem_cons.mp hv with rfl | hv
          · exact ⟨_, one f2 g2 (.int _) (.bl _) (.int _) fun z => by cases z.2.1⟩
          · rw [List.mem_singleton.mp hv]
            exact ⟨_, one f3 g3 (.int _) (.int _) (.bl _) fun z => by cases z.2.2⟩
      have ok11 : LenOk [1, 1] := ⟨by decide, by decide, by decide, by decide +kernel⟩
      refine ⟨tt, rfl, ⟨_, L2.st_of ktt⟩, ?_⟩
      refine for_tup (K := K) (a := tt) (xs := [.ref l1, .ref l2, .ref l3]) (fun i σ H' => (∃ (u9 : Option V), σ = [some (.ref sc), u1, u2, u3, u4, u5, u6, u7, u8, u9, u10]) ∧ ExtN H5 H' ∧ Tabs (LT a) H') ⟨⟨_, rfl⟩, ExtN.refl _, T5⟩ (fun i σ H' _ h => L2.st_of (h.2.1 _ _ ktt fun ps z => by cases z)) ?_ ?_
      · rintro i v σ H6 hv ⟨⟨u9, rfl⟩, e6, T6⟩
        obtain ⟨pt, th⟩ := bad v (List.mem_of_getElem? hv)
        have th6 := th.ext e6
        refine ⟨by show 2 ≤ sizeLine; decide, fun a1 ha1 => ?_⟩
        have s7 := same_upd (o := .lst [.int 1, .int 1]) ha1
        have k7 : upd H6 a1 (.lst [.int 1, .int 1]) a1 = some (.lst [.int 1, .int 1]) := upd_same
        have T7 := T6.ext s7
        generalize upd H6 a1 (.lst [.int 1, .int 1]) = H7 at s7 k7 T7 ⊢
        refine ⟨_, rfl, pt, a1, v, [1, 1], _, rfl, .inl k7, ok11, th6.same s7, fun bw H8 hw s8 => ⟨bw, rfl, ?_⟩⟩
        cases bw with
        | true => exact absurd (hw.mp rfl) due_bad
        | false =>
          refine iteF ?_
          refine ⟨T7.ext s8, fun Hj ej Tj => ?_⟩
          have e6j := (ExtN.of (s7.trans s8)).trans ej
          refine ⟨by show 2 ≤ sizeLine; decide, fun a2 ha2 => ?_⟩
          have s9 := same_upd (o := .lst [.int 1, .int 1]) ha2
          have k9 : upd Hj a2 (.lst [.int 1, .int 1]) a2 = some (.lst [.int 1, .int 1]) := upd_same
          have T9 := Tj.ext s9
          generalize upd Hj a2 (.lst [.int 1, .int 1]) = H9 at s9 k9 T9 ⊢
          refine ⟨_, rfl, pt, a2, v, [1, 1], _, rfl, .inl k9, ok11, (th6.ext e6j).same s9, fun _ => eErr (List.mem_singleton_self _) fun t4 Hk sk ht4 => ?_, fun z => absurd z due_bad⟩
          refine ⟨by show 2 ≤ sizeLine; decide, fun t5 ht5 => ?_⟩
          have sl := same_upd (o := .tup [.str "mismatch", .str "joins"]) ht5
          have kl5 : upd Hk t5 (.tup [.str "mismatch", .str "joins"]) t5 = some (.tup [.str "mismatch", .str "joins"]) := upd_same
          have ht4 := sl _ _ ht4
          have Tl := (T9.ext sk).ext sl
          generalize upd Hk t5 (.tup [.str "mismatch", .str "joins"]) = Hl at sl kl5 ht4 Tl ⊢
          have dA := dp_two (K := K) ht4 (strOk_of "mismatch") (Lone.str "joins" (strOk_of "joins")).dp (strOk_of "joins") rfl
          have dB := dp_two (K := K) kl5 (strOk_of "mismatch") (Lone.str "joins" (strOk_of "joins")).dp (strOk_of "joins") rfl
          refine ⟨_, _, dA.1, dB.1, dA.2, dB.2, false, by rw [eqv_same dA.2]; rfl, iteF ?_⟩
          exact ⟨⟨_, rfl⟩, e6.trans (e6j.trans (.of (s9.trans (sk.trans sl)))), Tl⟩
      · rintro σ H6 ⟨⟨u9, rfl⟩, e6, T6⟩
        clear bad g1 f1 g2 f2 g3 f3 ktt T5 e6 T6 ok11
        have ok12 : LenOk [1, 2] := ⟨by decide, by decide, by decide, by decide +kernel⟩
        have ok3 : LenOk [3] := ⟨by decide, by decide, by decide, by decide +kernel⟩
        have ok4 : LenOk [2, 2, 2, 2] := ⟨by decide, by decide, by decide, by decide +kernel⟩
        have neLT : ∀ {Hh : Hp} {a b : Addr} {xs ys : List V}, Hh a = some (.lst xs) → Hh b = some (.tup ys) → a ≠ b := fun h1 h2 z => by rw [z, h2] at h1; cases h1
        -- the first two
        refine ⟨by show 2 ≤ sizeLine; decide, fun a1 ha1 => ⟨by show 3 ≤ sizeLine; decide, fun t1 ht1 => ⟨by show 1 ≤ sizeLine; decide, fun l1 hl1 => ?_⟩⟩⟩
        have ka := same_upd (o := .lst [.ref t1]) hl1 _ _ (same_upd (o := .tup [.int 0, .int 1, .int 2]) ht1 _ _ (show upd H6 a1 (.lst [.int 1, .int 2]) a1 = some (.lst [.int 1, .int 2]) from upd_same))
        have kt := same_upd (o := .lst [.ref t1]) hl1 _ _ (show upd (upd H6 a1 (.lst [.int 1, .int 2])) t1 (.tup [.int 0, .int 1, .int 2]) t1 = some (.tup [.int 0, .int 1, .int 2]) from upd_same)
        have kl : upd (upd (upd H6 a1 (.lst [.int 1, .int 2])) t1 (.tup [.int 0, .int 1, .int 2])) l1 (.lst [.ref t1]) l1 = some (.lst [.ref t1]) := upd_same
        dsimp only at ka kt kl ⊢
        generalize upd (upd (upd H6 a1 (.lst [.int 1, .int 2])) t1 (.tup [.int 0, .int 1, .int 2])) l1 (.lst [.ref t1]) = H7 at ka kt kl ⊢
        refine ⟨t1, a1, .ref l1, [1, 2], some [some (0, 1, 2)], rfl, .inl ka, ok12, .row (.inl kl) (neLT kl kt) rfl (by show 1 ≤ 200; decide) (one_tri kt), fun b1 H8 h1 s8 => ?_⟩
        obtain rfl : b1 = true := h1.mpr due_two
        refine ⟨by show 2 ≤ sizeLine; decide, fun a2 ha2 => ⟨by show 3 ≤ sizeLine; decide, fun t2 ht2 => ⟨by show 1 ≤ sizeLine; decide, fun l2 hl2 => ?_⟩⟩⟩
        have ka := same_upd (o := .lst [.ref t2]) hl2 _ _ (same_upd (o := .tup [.int 0, .int 2, .int 1]) ht2 _ _ (show upd H8 a2 (.lst [.int 1, .int 2]) a2 = some (.lst [.int 1, .int 2]) from upd_same))
        have kt := same_upd (o := .lst [.ref t2]) hl2 _ _ (show upd (upd H8 a2 (.lst [.int 1, .int 2])) t2 (.tup [.int 0, .int 2, .int 1]) t2 = some (.tup [.int 0, .int 2, .int 1]) from upd_same)
        have kl : upd (upd (upd H8 a2 (.lst [.int 1, .int 2])) t2 (.tup [.int 0, .int 2, .int 1])) l2 (.lst [.ref t2]) l2 = some (.lst [.ref t2]) := upd_same
        dsimp only at ka kt kl ⊢
        generalize upd (upd (upd H8 a2 (.lst [.int 1, .int 2])) t2 (.tup [.int 0, .int 2, .int 1])) l2 (.lst [.ref t2]) = H9 at ka kt kl ⊢
        refine ⟨t2, a2, .ref l2, [1, 2], some [some (0, 2, 1)], rfl, .inl ka, ok12, .row (.inl kl) (neLT kl kt) rfl (by show 1 ≤ 200; decide) (one_tri kt), fun b2 Ha h2 sa => ?_⟩
        obtain rfl : b2 = false := by
          cases b2 with
          | false => rfl
          | true => exact absurd (h2.mp rfl) due_no
        -- nothing to join
        refine ⟨by show 1 ≤ sizeLine; decide, fun a3 ha3 => ⟨by show 0 ≤ sizeLine; decide, fun l3 hl3 => ?_⟩⟩
        have ka := same_upd (o := .lst []) hl3 _ _ (show upd Ha a3 (.lst [.int 3]) a3 = some (.lst [.int 3]) from upd_same)
        have kl : upd (upd Ha a3 (.lst [.int 3])) l3 (.lst []) l3 = some (.lst []) := upd_same
        have n3 : l3 ≠ a3 := fun z => by rw [z, upd_same] at hl3; cases hl3
        dsimp only at ka kl ⊢
        generalize upd (upd Ha a3 (.lst [.int 3])) l3 (.lst []) = Hb at ka kl ⊢
        refine ⟨a3, a3, .ref l3, [3], some [], rfl, .inl ka, ok3, .row (.inl kl) n3 rfl (by decide) (fun i v r x => by simp at x), fun b3 Hc h3 sc3 => ?_⟩
        obtain rfl : b3 = true := h3.mpr due_one
        refine ⟨by show 1 ≤ sizeLine; decide, fun a4 ha4 => ⟨by show 0 ≤ sizeLine; decide, fun l4 hl4 => ?_⟩⟩
        have ka := same_upd (o := .tup []) hl4 _ _ (show upd Hc a4 (.lst [.int 3]) a4 = some (.lst [.int 3]) from upd_same)
        have kl : upd (upd Hc a4 (.lst [.int 3])) l4 (.tup []) l4 = some (.tup []) := upd_same
        have n4 : l4 ≠ a4 := fun z => by rw [z, upd_same] at hl4; cases hl4
        dsimp only at ka kl ⊢
        generalize upd (upd Hc a4 (.lst [.int 3])) l4 (.tup []) = Hd at ka kl ⊢
        refine ⟨a4, a4, .ref l4, [3], some [], rfl, .inl ka, ok3, .row (.inr kl) n4 rfl (by decide) (fun i v r x => by simp at x), fun b4 He4 h4 se4 => ?_⟩
        obtain rfl : b4 = true := h4.mpr due_one
        refine ⟨by show 4 ≤ sizeLine; decide, fun hh hhh => ?_⟩
        have kh : upd He4 hh (.lst [.bl true, .bl false, .bl true, .bl true]) hh = some (.lst [.bl true, .bl false, .bl true, .bl true]) := upd_same
        generalize upd He4 hh (.lst [.bl true, .bl false, .bl true, .bl true]) = Hf at kh ⊢
        refine ⟨_, rfl, by show 4 ≤ sizeLine; decide, fun h5 hh5 => ?_⟩
        have k5 : upd Hf h5 (.lst [.bl true, .bl false, .bl true, .bl true]) h5 = some (.lst [.bl true, .bl false, .bl true, .bl true]) := upd_same
        have kh := same_upd (o := .lst [.bl true, .bl false, .bl true, .bl true]) hh5 _ _ kh
        generalize upd Hf h5 (.lst [.bl true, .bl false, .bl true, .bl true]) = Hg at kh k5 ⊢
        have db : DpAll K Hg [.bl true, .bl false, .bl true, .bl true] [.bool true, .bool false, .bool true, .bool true] := .cons (.bl _) (.cons (.bl _) (.cons (.bl _) (.cons (.bl _) .nil)))
        refine ⟨_, _, .lst (L2.sq_of kh) db, .lst (L2.sq_of k5) db, by decide +kernel, by decide +kernel, true, by decide +kernel, iteT ?_⟩
        refine ⟨by show 4 ≤ sizeLine; decide, fun a5 ha5 => ?_⟩
        have ka : upd Hg a5 (.lst [.int 2, .int 2, .int 2, .int 2]) a5 = some (.lst [.int 2, .int 2, .int 2, .int 2]) := upd_same
        generalize upd Hg a5 (.lst [.int 2, .int 2, .int 2, .int 2]) = Hi at ka ⊢
        refine ⟨by show 3 ≤ sizeLine; decide, fun t5 ht5 => ?_⟩
        have k1 : upd Hi t5 (.tup [.int 4, .int 2, .int 2]) t5 = some (.tup [.int 4, .int 2, .int 2]) := upd_same
        have ka := same_upd (o := .tup [.int 4, .int 2, .int 2]) ht5 _ _ ka
        generalize upd Hi t5 (.tup [.int 4, .int 2, .int 2]) = Hj at ka k1 ⊢
        refine ⟨by show 3 ≤ sizeLine; decide, fun t6 ht6 => ?_⟩
        have k2 : upd Hj t6 (.tup [.int 0, .int 2, .int 2]) t6 = some (.tup [.int 0, .int 2, .int 2]) := upd_same
        have ka := same_upd (o := .tup [.int 0, .int 2, .int 2]) ht6 _ _ ka
        have k1 := same_upd (o := .tup [.int 0, .int 2, .int 2]) ht6 _ _ k1
        generalize upd Hj t6 (.tup [.int 0, .int 2, .int 2]) = Hk at ka k1 k2 ⊢
        refine ⟨by show 3 ≤ sizeLine; decide, fun t7 ht7 => ?_⟩
        have k3 : upd Hk t7 (.tup [.int 0, .int 4, .int 4]) t7 = some (.tup [.int 0, .int 4, .int 4]) := upd_same
        have ka := same_upd (o := .tup [.int 0, .int 4, .int 4]) ht7 _ _ ka
        have k1 := same_upd (o := .tup [.int 0, .int 4, .int 4]) ht7 _ _ k1
        have k2 := same_upd (o := .tup [.int 0, .int 4, .int 4]) ht7 _ _ k2
        generalize upd Hk t7 (.tup [.int 0, .int 4, .int 4]) = Hl at ka k1 k2 k3 ⊢
        refine ⟨by show 3 ≤ sizeLine; decide, fun l7 hl7 => ?_⟩
        have s7 := same_upd (o := .lst [.ref t5, .ref t6, .ref t7]) hl7
        have kl : upd Hl l7 (.lst [.ref t5, .ref t6, .ref t7]) l7 = some (.lst [.ref t5, .ref t6, .ref t7]) := upd_same
        have ka := s7 _ _ ka
        have k1 := s7 _ _ k1
        have k2 := s7 _ _ k2
        have k3 := s7 _ _ k3
        generalize upd Hl l7 (.lst [.ref t5, .ref t6, .ref t7]) = Hm at ka k1 k2 k3 kl ⊢
        refine ⟨t5, a5, .ref l7, [2, 2, 2, 2], some [some (4, 2, 2), some (0, 2, 2), some (0, 4, 4)], rfl, .inl ka, ok4, .row (.inl kl) (neLT kl k1) rfl (by show 3 ≤ 200; decide) (fun i v r x y => ?_), fun z => absurd due_four z, fun _ rs o Hn er fd sn => ?_⟩
        · rcases i with _ | _ | _ | i
          · rw [← Option.some.inj x, ← Option.some.inj y]
            exact .tri k1
          · rw [← Option.some.inj x, ← Option.some.inj y]
            exact .tri k2
          · rw [← Option.some.inj x, ← Option.some.inj y]
            exact .tri k3
          · simp at x
        cases er
        rw [fd.uniq first_four]
        exact ⟨rfl, q _⟩
end

end K38

namespace K38
open PySem PySem.Spec PyProof.Rows L2
theorem all_mk {l : PySem.W.OpenLaw} {w : World} {K : PySem.W.Frag} {h : Heap} {mg : Str → Option Value} {fa f0 f1 f2 f3 f4 f5 f6 f7 f8 f9 f10 f11 f12 f13 f14 f15 f16 f17 f18 f19 f20 f21 f22 f23 f24 f25 f26 f27 f28 f29 f30 f31 f32 f33 f34 f35 f36 f37 f38 f39 f40 f41 C_PieceStack C_InvalidKeys C_InvalidQuestion C_InvalidNumber C_InvalidAnswers C_InvalidOrder C_InvalidLengths C_TooLarge C_Mismatch C_SortError : Addr} {t_MOST_LENGTHS : Tok} {lc_judged lp_judged : Addr} {lc_law lp_law : Addr} (X : K.In h) (G : h.Ns mainGlobals mg) (hfa : mg "law" = some (.ref fa)) (tb_judged : h.get? lp_judged = some (PySem.W.tabObj #[])) (tb_law : h.get? lp_law = some (PySem.W.tabObj #[]))
    {nm_InvalidKeys q_InvalidKeys : Str} {N_InvalidKeys : Addr} {bs_InvalidKeys : List Value} {sn_InvalidKeys : List Str} {sub_InvalidKeys : List Value} {ab_InvalidKeys : Bool} {col_InvalidKeys : Option Bool} {dd_InvalidKeys : Option Addr} {m0_InvalidKeys m1_InvalidKeys m2_InvalidKeys m3_InvalidKeys m5_InvalidKeys : Option Value}
    {nm_InvalidQuestion q_InvalidQuestion : Str} {N_InvalidQuestion : Addr} {bs_InvalidQuestion : List Value} {sn_InvalidQuestion : List Str} {sub_InvalidQuestion : List Value} {ab_InvalidQuestion : Bool} {col_InvalidQuestion : Option Bool} {dd_InvalidQuestion : Option Addr} {m0_InvalidQuestion m1_InvalidQuestion m2_InvalidQuestion m3_InvalidQuestion m5_InvalidQuestion : Option Value}
    {nm_InvalidNumber q_InvalidNumber : Str} {N_InvalidNumber : Addr} {bs_InvalidNumber : List Value} {sn_InvalidNumber : List Str} {sub_InvalidNumber : List Value} {ab_InvalidNumber : Bool} {col_InvalidNumber : Option Bool} {dd_InvalidNumber : Option Addr} {m0_InvalidNumber m1_InvalidNumber m2_InvalidNumber m3_InvalidNumber m5_InvalidNumber : Option Value}
    {nm_InvalidAnswers q_InvalidAnswers : Str} {N_InvalidAnswers : Addr} {bs_InvalidAnswers : List Value} {sn_InvalidAnswers : List Str} {sub_InvalidAnswers : List Value} {ab_InvalidAnswers : Bool} {col_InvalidAnswers : Option Bool} {dd_InvalidAnswers : Option Addr} {m0_InvalidAnswers m1_InvalidAnswers m2_InvalidAnswers m3_InvalidAnswers m5_InvalidAnswers : Option Value}
    {nm_InvalidOrder q_InvalidOrder : Str} {N_InvalidOrder : Addr} {bs_InvalidOrder : List Value} {sn_InvalidOrder : List Str} {sub_InvalidOrder : List Value} {ab_InvalidOrder : Bool} {col_InvalidOrder : Option Bool} {dd_InvalidOrder : Option Addr} {m0_InvalidOrder m1_InvalidOrder m2_InvalidOrder m3_InvalidOrder m5_InvalidOrder : Option Value}
    {nm_InvalidLengths q_InvalidLengths : Str} {N_InvalidLengths : Addr} {bs_InvalidLengths : List Value} {sn_InvalidLengths : List Str} {sub_InvalidLengths : List Value} {ab_InvalidLengths : Bool} {col_InvalidLengths : Option Bool} {dd_InvalidLengths : Option Addr} {m0_InvalidLengths m1_InvalidLengths m2_InvalidLengths m3_InvalidLengths m5_InvalidLengths : Option Value}
    {nm_TooLarge q_TooLarge : Str} {N_TooLarge : Addr} {bs_TooLarge : List Value} {sn_TooLarge : List Str} {sub_TooLarge : List Value} {ab_TooLarge : Bool} {col_TooLarge : Option Bool} {dd_TooLarge : Option Addr} {m0_TooLarge m1_TooLarge m2_TooLarge m3_TooLarge m5_TooLarge : Option Value}
    {nm_Mismatch q_Mismatch : Str} {N_Mismatch : Addr} {bs_Mismatch : List Value} {sn_Mismatch : List Str} {sub_Mismatch : List Value} {ab_Mismatch : Bool} {col_Mismatch : Option Bool} {dd_Mismatch : Option Addr} {m0_Mismatch m1_Mismatch m2_Mismatch m3_Mismatch m5_Mismatch : Option Value}
    {od0 an0 od1 an1 od2 an2 od3 an3 od4 an4 od5 an5 od6 an6 od7 an7 od8 an8 od9 an9 od10 an10 od11 an11 od12 an12 od13 an13 od14 an14 od15 an15 od16 an16 od17 an17 od18 an18 od19 an19 od20 an20 od21 an21 od22 an22 od23 an23 od24 an24 od25 an25 od26 an26 od27 an27 od28 an28 od29 an29 od30 an30 od31 an31 od32 an32 od33 an33 od34 an34 od35 an35 od36 an36 od37 an37 od38 an38 od39 an39 od40 an40 od41 an41 : Option Addr} {sl0 sl1 sl2 sl3 sl4 sl5 sl6 sl7 sl8 sl9 sl10 sl11 sl12 sl13 sl14 sl15 sl16 sl17 sl18 sl19 sl20 sl21 sl22 sl23 sl24 sl25 sl26 sl27 sl28 sl29 sl30 sl31 sl32 sl33 sl34 sl35 sl36 sl37 sl38 sl39 sl40 sl41 : Array (Option Value)} {oc0 kV0 dc0 pm0 cd0 ct0 oc1 kV1 dc1 pm1 cd1 ct1 oc2 kV2 dc2 pm2 cd2 ct2 oc3 kV3 dc3 pm3 cd3 ct3 oc4 kV4 dc4 pm4 cd4 ct4 oc5 kV5 dc5 pm5 cd5 ct5 oc6 kV6 dc6 pm6 cd6 ct6 oc7 kV7 dc7 pm7 cd7 ct7 oc8 kV8 dc8 pm8 cd8 ct8 oc9 kV9 dc9 pm9 cd9 ct9 oc10 kV10 dc10 pm10 cd10 ct10 oc11 kV11 dc11 pm11 cd11 ct11 oc12 kV12 dc12 pm12 cd12 ct12 oc13 kV13 dc13 pm13 cd13 ct13 oc14 kV14 dc14 pm14 cd14 ct14 oc15 kV15 dc15 pm15 cd15 ct15 oc16 kV16 dc16 pm16 cd16 ct16 oc17 kV17 dc17 pm17 cd17 ct17 oc18 kV18 dc18 pm18 cd18 ct18 oc19 kV19 dc19 pm19 cd19 ct19 oc20 kV20 dc20 pm20 cd20 ct20 oc21 kV21 dc21 pm21 cd21 ct21 oc22 kV22 dc22 pm22 cd22 ct22 oc23 kV23 dc23 pm23 cd23 ct23 oc24 kV24 dc24 pm24 cd24 ct24 oc25 kV25 dc25 pm25 cd25 ct25 oc26 kV26 dc26 pm26 cd26 ct26 oc27 kV27 dc27 pm27 cd27 ct27 oc28 kV28 dc28 pm28 cd28 ct28 oc29 kV29 dc29 pm29 cd29 ct29 oc30 kV30 dc30 pm30 cd30 ct30 oc31 kV31 dc31 pm31 cd31 ct31 oc32 kV32 dc32 pm32 cd32 ct32 oc33 kV33 dc33 pm33 cd33 ct33 oc34 kV34 dc34 pm34 cd34 ct34 oc35 kV35 dc35 pm35 cd35 ct35 oc36 kV36 dc36 pm36 cd36 ct36 oc37 kV37 dc37 pm37 cd37 ct37 oc38 kV38 dc38 pm38 cd38 ct38 oc39 kV39 dc39 pm39 cd39 ct39 oc40 kV40 dc40 pm40 cd40 ct40 oc41 kV41 dc41 pm41 cd41 ct41 : Value}
    {T10 : Addr} {odT10 : Option Addr} {oT10 : Value} {nT10 : Nat} {slT10 : Array (Option Value)} 
    (l0 : K.lookup f0 = some ⟨oc0, od0, .func (PySem.W.fnOf "__init__" "InvalidKeys.__init__" (defArgs s_InvalidKeys___init__) (defBody s_InvalidKeys___init__) (defScope s_InvalidKeys___init__) .none kV0 dc0 pm0 an0 cd0 ct0), sl0⟩) (c0 : PySem.W.codeIn K cd0 "InvalidKeys.__init__" = true) (k0 : PySem.W.keepIn K (.ref f0) = true)
    (l1 : K.lookup f1 = some ⟨oc1, od1, .func (PySem.W.fnOf "__init__" "InvalidQuestion.__init__" (defArgs s_InvalidQuestion___init__) (defBody s_InvalidQuestion___init__) (defScope s_InvalidQuestion___init__) .none kV1 dc1 pm1 an1 cd1 ct1), sl1⟩) (c1 : PySem.W.codeIn K cd1 "InvalidQuestion.__init__" = true) (k1 : PySem.W.keepIn K (.ref f1) = true)
    (l2 : K.lookup f2 = some ⟨oc2, od2, .func (PySem.W.fnOf "__init__" "InvalidAnswers.__init__" (defArgs s_InvalidAnswers___init__) (defBody s_InvalidAnswers___init__) (defScope s_InvalidAnswers___init__) .none kV2 dc2 pm2 an2 cd2 ct2), sl2⟩) (c2 : PySem.W.codeIn K cd2 "InvalidAnswers.__init__" = true) (k2 : PySem.W.keepIn K (.ref f2) = true)
    (l3 : K.lookup f3 = some ⟨oc3, od3, .func (PySem.W.fnOf "__init__" "InvalidOrder.__init__" (defArgs s_InvalidOrder___init__) (defBody s_InvalidOrder___init__) (defScope s_InvalidOrder___init__) .none kV3 dc3 pm3 an3 cd3 ct3), sl3⟩) (c3 : PySem.W.codeIn K cd3 "InvalidOrder.__init__" = true) (k3 : PySem.W.keepIn K (.ref f3) = true)
    (l4 : K.lookup f4 = some ⟨oc4, od4, .func (PySem.W.fnOf "__init__" "InvalidLengths.__init__" (defArgs s_InvalidLengths___init__) (defBody s_InvalidLengths___init__) (defScope s_InvalidLengths___init__) .none kV4 dc4 pm4 an4 cd4 ct4), sl4⟩) (c4 : PySem.W.codeIn K cd4 "InvalidLengths.__init__" = true) (k4 : PySem.W.keepIn K (.ref f4) = true)
    (l5 : K.lookup f5 = some ⟨oc5, od5, .func (PySem.W.fnOf "__init__" "InvalidNumber.__init__" (defArgs s_InvalidNumber___init__) (defBody s_InvalidNumber___init__) (defScope s_InvalidNumber___init__) .none kV5 dc5 pm5 an5 cd5 ct5), sl5⟩) (c5 : PySem.W.codeIn K cd5 "InvalidNumber.__init__" = true) (k5 : PySem.W.keepIn K (.ref f5) = true)
    (l6 : K.lookup f6 = some ⟨oc6, od6, .func (PySem.W.fnOf "__init__" "TooLarge.__init__" (defArgs s_TooLarge___init__) (defBody s_TooLarge___init__) (defScope s_TooLarge___init__) .none kV6 dc6 pm6 an6 cd6 ct6), sl6⟩) (c6 : PySem.W.codeIn K cd6 "TooLarge.__init__" = true) (k6 : PySem.W.keepIn K (.ref f6) = true)
    (l7 : K.lookup f7 = some ⟨oc7, od7, .func (PySem.W.fnOf "__init__" "Mismatch.__init__" (defArgs s_Mismatch___init__) (defBody s_Mismatch___init__) (defScope s_Mismatch___init__) .none kV7 dc7 pm7 an7 cd7 ct7), sl7⟩) (c7 : PySem.W.codeIn K cd7 "Mismatch.__init__" = true) (k7 : PySem.W.keepIn K (.ref f7) = true)
    (a8 : PySem.W.nsIn K mainGlobals "is_integer" = some (some (.ref f8))) (l8 : K.lookup f8 = some ⟨oc8, od8, .func (PySem.W.fnOf "is_integer" "is_integer" (defArgs s_is_integer) (defBody s_is_integer) (defScope s_is_integer) .none kV8 dc8 pm8 an8 cd8 ct8), sl8⟩) (c8 : PySem.W.codeIn K cd8 "is_integer" = true) (k8 : PySem.W.keepIn K (.ref f8) = true)
    (a9 : PySem.W.nsIn K mainGlobals "is_within" = some (some (.ref f9))) (l9 : K.lookup f9 = some ⟨oc9, od9, .func (PySem.W.fnOf "is_within" "is_within" (defArgs s_is_within) (defBody s_is_within) (defScope s_is_within) .none kV9 dc9 pm9 an9 cd9 ct9), sl9⟩) (c9 : PySem.W.codeIn K cd9 "is_within" = true) (k9 : PySem.W.keepIn K (.ref f9) = true)
    (a10 : PySem.W.nsIn K mainGlobals "check_lengths" = some (some (.ref f10))) (l10 : K.lookup f10 = some ⟨oc10, od10, .func (PySem.W.fnOf "check_lengths" "check_lengths" (defArgs s_check_lengths) (defBody s_check_lengths) (defScope s_check_lengths) (.ref T10) kV10 dc10 pm10 an10 cd10 ct10), sl10⟩) (c10 : PySem.W.codeIn K cd10 "check_lengths" = true) (k10 : PySem.W.keepIn K (.ref f10) = true)
    (t10 : K.lookup T10 = some ⟨oT10, odT10, .seq #[.none] nT10, slT10⟩)
    (a11 : PySem.W.nsIn K mainGlobals "level_between" = some (some (.ref f11))) (l11 : K.lookup f11 = some ⟨oc11, od11, .func (PySem.W.fnOf "level_between" "level_between" (defArgs s_level_between) (defBody s_level_between) (defScope s_level_between) .none kV11 dc11 pm11 an11 cd11 ct11), sl11⟩) (c11 : PySem.W.codeIn K cd11 "level_between" = true) (k11 : PySem.W.keepIn K (.ref f11) = true)
    (a12 : PySem.W.findIn K (.ref C_PieceStack) "__init__" = some (some (.ref f12))) (i12 : PySem.W.isFn K (.ref f12) = true) (l12 : K.lookup f12 = some ⟨oc12, od12, .func (PySem.W.fnOf "__init__" "PieceStack.__init__" (defArgs s_PieceStack___init__) (defBody s_PieceStack___init__) (defScope s_PieceStack___init__) .none kV12 dc12 pm12 an12 cd12 ct12), sl12⟩) (c12 : PySem.W.codeIn K cd12 "PieceStack.__init__" = true) (k12 : PySem.W.keepIn K (.ref f12) = true)
    (a13 : PySem.W.findIn K (.ref C_PieceStack) "border_to" = some (some (.ref f13))) (i13 : PySem.W.isFn K (.ref f13) = true) (l13 : K.lookup f13 = some ⟨oc13, od13, .func (PySem.W.fnOf "border_to" "PieceStack.border_to" (defArgs s_PieceStack_border_to) (defBody s_PieceStack_border_to) (defScope s_PieceStack_border_to) .none kV13 dc13 pm13 an13 cd13 ct13), sl13⟩) (c13 : PySem.W.codeIn K cd13 "PieceStack.border_to" = true) (k13 : PySem.W.keepIn K (.ref f13) = true)
    (a14 : PySem.W.findIn K (.ref C_PieceStack) "has_to_join" = some (some (.ref f14))) (i14 : PySem.W.isFn K (.ref f14) = true) (l14 : K.lookup f14 = some ⟨oc14, od14, .func (PySem.W.fnOf "has_to_join" "PieceStack.has_to_join" (defArgs s_PieceStack_has_to_join) (defBody s_PieceStack_has_to_join) (defScope s_PieceStack_has_to_join) .none kV14 dc14 pm14 an14 cd14 ct14), sl14⟩) (c14 : PySem.W.codeIn K cd14 "PieceStack.has_to_join" = true) (k14 : PySem.W.keepIn K (.ref f14) = true)
    (a15 : PySem.W.findIn K (.ref C_PieceStack) "put" = some (some (.ref f15))) (i15 : PySem.W.isFn K (.ref f15) = true) (l15 : K.lookup f15 = some ⟨oc15, od15, .func (PySem.W.fnOf "put" "PieceStack.put" (defArgs s_PieceStack_put) (defBody s_PieceStack_put) (defScope s_PieceStack_put) .none kV15 dc15 pm15 an15 cd15 ct15), sl15⟩) (c15 : PySem.W.codeIn K cd15 "PieceStack.put" = true) (k15 : PySem.W.keepIn K (.ref f15) = true)
    (a16 : PySem.W.findIn K (.ref C_PieceStack) "next_to_join" = some (some (.ref f16))) (i16 : PySem.W.isFn K (.ref f16) = true) (l16 : K.lookup f16 = some ⟨oc16, od16, .func (PySem.W.fnOf "next_to_join" "PieceStack.next_to_join" (defArgs s_PieceStack_next_to_join) (defBody s_PieceStack_next_to_join) (defScope s_PieceStack_next_to_join) .none kV16 dc16 pm16 an16 cd16 ct16), sl16⟩) (c16 : PySem.W.codeIn K cd16 "PieceStack.next_to_join" = true) (k16 : PySem.W.keepIn K (.ref f16) = true)
    (a17 : PySem.W.findIn K (.ref C_PieceStack) "join_at" = some (some (.ref f17))) (i17 : PySem.W.isFn K (.ref f17) = true) (l17 : K.lookup f17 = some ⟨oc17, od17, .func (PySem.W.fnOf "join_at" "PieceStack.join_at" (defArgs s_PieceStack_join_at) (defBody s_PieceStack_join_at) (defScope s_PieceStack_join_at) .none kV17 dc17 pm17 an17 cd17 ct17), sl17⟩) (c17 : PySem.W.codeIn K cd17 "PieceStack.join_at" = true) (k17 : PySem.W.keepIn K (.ref f17) = true)
    (a18 : PySem.W.nsIn K mainGlobals "is_way_of" = some (some (.ref f18))) (l18 : K.lookup f18 = some ⟨oc18, od18, .func (PySem.W.fnOf "is_way_of" "is_way_of" (defArgs s_is_way_of) (defBody s_is_way_of) (defScope s_is_way_of) .none kV18 dc18 pm18 an18 cd18 ct18), sl18⟩) (c18 : PySem.W.codeIn K cd18 "is_way_of" = true) (k18 : PySem.W.keepIn K (.ref f18) = true)
    (a19 : PySem.W.nsIn K mainGlobals "_is_join" = some (some (.ref f19))) (l19 : K.lookup f19 = some ⟨oc19, od19, .func (PySem.W.fnOf "_is_join" "_is_join" (defArgs s_is_join) (defBody s_is_join) (defScope s_is_join) .none kV19 dc19 pm19 an19 cd19 ct19), sl19⟩) (c19 : PySem.W.codeIn K cd19 "_is_join" = true) (k19 : PySem.W.keepIn K (.ref f19) = true)
    (a20 : PySem.W.nsIn K mainGlobals "is_way" = some (some (.ref f20))) (l20 : K.lookup f20 = some ⟨oc20, od20, .func (PySem.W.fnOf "is_way" "is_way" (defArgs s_is_way) (defBody s_is_way) (defScope s_is_way) .none kV20 dc20 pm20 an20 cd20 ct20), sl20⟩) (c20 : PySem.W.codeIn K cd20 "is_way" = true) (k20 : PySem.W.keepIn K (.ref f20) = true)
    (a21 : PySem.W.nsIn K mainGlobals "first_unlike" = some (some (.ref f21))) (l21 : K.lookup f21 = some ⟨oc21, od21, .func (PySem.W.fnOf "first_unlike" "first_unlike" (defArgs s_first_unlike) (defBody s_first_unlike) (defScope s_first_unlike) .none kV21 dc21 pm21 an21 cd21 ct21), sl21⟩) (c21 : PySem.W.codeIn K cd21 "first_unlike" = true) (k21 : PySem.W.keepIn K (.ref f21) = true)
    (a22 : PySem.W.nsIn K mainGlobals "_all_joins" = some (some (.ref f22))) (l22 : K.lookup f22 = some ⟨oc22, od22, .func (PySem.W.fnOf "_all_joins" "_all_joins" (defArgs s_all_joins) (defBody s_all_joins) (defScope s_all_joins) .none kV22 dc22 pm22 an22 cd22 ct22), sl22⟩) (c22 : PySem.W.codeIn K cd22 "_all_joins" = true) (k22 : PySem.W.keepIn K (.ref f22) = true)
    (a23 : PySem.W.nsIn K mainGlobals "_pile_up" = some (some (.ref f23))) (l23 : K.lookup f23 = some ⟨oc23, od23, .func (PySem.W.fnOf "_pile_up" "_pile_up" (defArgs s_pile_up) (defBody s_pile_up) (defScope s_pile_up) .none kV23 dc23 pm23 an23 cd23 ct23), sl23⟩) (c23 : PySem.W.codeIn K cd23 "_pile_up" = true) (k23 : PySem.W.keepIn K (.ref f23) = true)
    (a24 : PySem.W.nsIn K mainGlobals "_check_pieces" = some (some (.ref f24))) (l24 : K.lookup f24 = some ⟨oc24, od24, .func (PySem.W.fnOf "_check_pieces" "_check_pieces" (defArgs s_check_pieces) (defBody s_check_pieces) (defScope s_check_pieces) .none kV24 dc24 pm24 an24 cd24 ct24), sl24⟩) (c24 : PySem.W.codeIn K cd24 "_check_pieces" = true) (k24 : PySem.W.keepIn K (.ref f24) = true)
    (a25 : PySem.W.nsIn K mainGlobals "_law_mixed" = some (some (.ref f25))) (l25 : K.lookup f25 = some ⟨oc25, od25, .func (PySem.W.fnOf "_law_mixed" "_law_mixed" (defArgs s_mixed) (defBody s_mixed) (defScope s_mixed) .none kV25 dc25 pm25 an25 cd25 ct25), sl25⟩) (c25 : PySem.W.codeIn K cd25 "_law_mixed" = true) (k25 : PySem.W.keepIn K (.ref f25) = true)
    (a26 : PySem.W.nsIn K mainGlobals "_law_source" = some (some (.ref f26))) (l26 : K.lookup f26 = some ⟨oc26, od26, .func (PySem.W.fnOf "_law_source" "_law_source" (defArgs s_source) (defBody s_source) (defScope s_source) .none kV26 dc26 pm26 an26 cd26 ct26), sl26⟩) (c26 : PySem.W.codeIn K cd26 "_law_source" = true) (k26 : PySem.W.keepIn K (.ref f26) = true)
    (a27 : PySem.W.nsIn K mainGlobals "_law_take" = some (some (.ref f27))) (l27 : K.lookup f27 = some ⟨oc27, od27, .func (PySem.W.fnOf "_law_take" "_law_take" (defArgs s_take) (defBody s_take) (defScope s_take) .none kV27 dc27 pm27 an27 cd27 ct27), sl27⟩) (c27 : PySem.W.codeIn K cd27 "_law_take" = true) (k27 : PySem.W.keepIn K (.ref f27) = true)
    (a28 : PySem.W.nsIn K mainGlobals "_law_pick" = some (some (.ref f28))) (l28 : K.lookup f28 = some ⟨oc28, od28, .func (PySem.W.fnOf "_law_pick" "_law_pick" (defArgs s_pick) (defBody s_pick) (defScope s_pick) .none kV28 dc28 pm28 an28 cd28 ct28), sl28⟩) (c28 : PySem.W.codeIn K cd28 "_law_pick" = true) (k28 : PySem.W.keepIn K (.ref f28) = true)
    (a29 : PySem.W.nsIn K mainGlobals "_law_said" = some (some (.ref f29))) (l29 : K.lookup f29 = some ⟨oc29, od29, .func (PySem.W.fnOf "_law_said" "_law_said" (defArgs s_said) (defBody s_said) (defScope s_said) .none kV29 dc29 pm29 an29 cd29 ct29), sl29⟩) (c29 : PySem.W.codeIn K cd29 "_law_said" = true) (k29 : PySem.W.keepIn K (.ref f29) = true)
    (a30 : PySem.W.nsIn K mainGlobals "_law_level" = some (some (.ref f30))) (l30 : K.lookup f30 = some ⟨oc30, od30, .func (PySem.W.fnOf "_law_level" "_law_level" (defArgs s_level) (defBody s_level) (defScope s_level) .none kV30 dc30 pm30 an30 cd30 ct30), sl30⟩) (c30 : PySem.W.codeIn K cd30 "_law_level" = true) (k30 : PySem.W.keepIn K (.ref f30) = true)
    (a31 : PySem.W.nsIn K mainGlobals "_law_lengths" = some (some (.ref f31))) (l31 : K.lookup f31 = some ⟨oc31, od31, .func (PySem.W.fnOf "_law_lengths" "_law_lengths" (defArgs s_lengths) (defBody s_lengths) (defScope s_lengths) .none kV31 dc31 pm31 an31 cd31 ct31), sl31⟩) (c31 : PySem.W.codeIn K cd31 "_law_lengths" = true) (k31 : PySem.W.keepIn K (.ref f31) = true)
    (a32 : PySem.W.nsIn K mainGlobals "_law_starts" = some (some (.ref f32))) (l32 : K.lookup f32 = some ⟨oc32, od32, .func (PySem.W.fnOf "_law_starts" "_law_starts" (defArgs s_starts) (defBody s_starts) (defScope s_starts) .none kV32 dc32 pm32 an32 cd32 ct32), sl32⟩) (c32 : PySem.W.codeIn K cd32 "_law_starts" = true) (k32 : PySem.W.keepIn K (.ref f32) = true)
    (a33 : PySem.W.nsIn K mainGlobals "_law_note" = some (some (.ref f33))) (l33 : K.lookup f33 = some ⟨oc33, od33, .func (PySem.W.fnOf "_law_note" "_law_note" (defArgs s_note) (defBody s_note) (defScope s_note) .none kV33 dc33 pm33 an33 cd33 ct33), sl33⟩) (c33 : PySem.W.codeIn K cd33 "_law_note" = true) (k33 : PySem.W.keepIn K (.ref f33) = true)
    (a34 : PySem.W.nsIn K mainGlobals "_law_piled" = some (some (.ref f34))) (l34 : K.lookup f34 = some ⟨oc34, od34, .func (PySem.W.fnOf "_law_piled" "_law_piled" (defArgs s_piled) (defBody s_piled) (defScope s_piled) .none kV34 dc34 pm34 an34 cd34 ct34), sl34⟩) (c34 : PySem.W.codeIn K cd34 "_law_piled" = true) (k34 : PySem.W.keepIn K (.ref f34) = true)
    (a35 : PySem.W.nsIn K mainGlobals "_law_deep" = some (some (.ref f35))) (l35 : K.lookup f35 = some ⟨oc35, od35, .func (PySem.W.fnOf "_law_deep" "_law_deep" (defArgs s_deep) (defBody s_deep) (defScope s_deep) .none kV35 dc35 pm35 an35 cd35 ct35), sl35⟩) (c35 : PySem.W.codeIn K cd35 "_law_deep" = true) (k35 : PySem.W.keepIn K (.ref f35) = true)
    (a36 : PySem.W.nsIn K mainGlobals "_law_drawn_way" = some (some (.ref f36))) (l36 : K.lookup f36 = some ⟨oc36, od36, .func (PySem.W.fnOf "_law_drawn_way" "_law_drawn_way" (defArgs s_drawn_way) (defBody s_drawn_way) (defScope s_drawn_way) .none kV36 dc36 pm36 an36 cd36 ct36), sl36⟩) (c36 : PySem.W.codeIn K cd36 "_law_drawn_way" = true) (k36 : PySem.W.keepIn K (.ref f36) = true)
    (a37 : PySem.W.nsIn K mainGlobals "_law_obeys" = some (some (.ref f37))) (l37 : K.lookup f37 = some ⟨oc37, od37, .func (PySem.W.fnOf "_law_obeys" "_law_obeys" (defArgs s_obeys) (defBody s_obeys) (defScope s_obeys) .none kV37 dc37 pm37 an37 cd37 ct37), sl37⟩) (c37 : PySem.W.codeIn K cd37 "_law_obeys" = true) (k37 : PySem.W.keepIn K (.ref f37) = true)
    (a38 : PySem.W.nsIn K mainGlobals "_law_spoilt" = some (some (.ref f38))) (l38 : K.lookup f38 = some ⟨oc38, od38, .func (PySem.W.fnOf "_law_spoilt" "_law_spoilt" (defArgs s_spoilt) (defBody s_spoilt) (defScope s_spoilt) .none kV38 dc38 pm38 an38 cd38 ct38), sl38⟩) (c38 : PySem.W.codeIn K cd38 "_law_spoilt" = true) (k38 : PySem.W.keepIn K (.ref f38) = true)
    (a39 : PySem.W.nsIn K mainGlobals "_law_is_row" = some (some (.ref f39))) (l39 : K.lookup f39 = some ⟨oc39, od39, .func (PySem.W.fnOf "_law_is_row" "_law_is_row" (defArgs s_is_row) (defBody s_is_row) (defScope s_is_row) .none kV39 dc39 pm39 an39 cd39 ct39), sl39⟩) (c39 : PySem.W.codeIn K cd39 "_law_is_row" = true) (k39 : PySem.W.keepIn K (.ref f39) = true)
    (a40 : PySem.W.nsIn K mainGlobals "_law_judged" = some (some (.ref f40))) (l40 : K.lookup f40 = some ⟨oc40, od40, .func (PySem.W.fnOf "_law_judged" "_law_judged" (defArgs s_judged) (defBody s_judged) (defScope s_judged) .none kV40 dc40 pm40 an40 cd40 ct40), sl40⟩) (c40 : PySem.W.codeIn K cd40 "_law_judged" = true) (k40 : PySem.W.keepIn K (.ref f40) = true)
    (a41 : PySem.W.nsIn K mainGlobals "law" = some (some (.ref f41))) (l41 : K.lookup f41 = some ⟨oc41, od41, .func (PySem.W.fnOf "law" "law" (defArgs s_law) (defBody s_law) (defScope s_law) .none kV41 dc41 pm41 an41 cd41 ct41), sl41⟩) (c41 : PySem.W.codeIn K cd41 "law" = true) (k41 : PySem.W.keepIn K (.ref f41) = true)
    (v_MOST_LENGTHS : PySem.W.nsIn K mainGlobals "MOST_LENGTHS" = some (some (.int 200 t_MOST_LENGTHS)))
    (z_bool : PySem.W.nsIn K mainGlobals "bool" = some none)
    (z_enumerate : PySem.W.nsIn K mainGlobals "enumerate" = some none)
    (z_int : PySem.W.nsIn K mainGlobals "int" = some none)
    (z_isinstance : PySem.W.nsIn K mainGlobals "isinstance" = some none)
    (z_len : PySem.W.nsIn K mainGlobals "len" = some none)
    (z_list : PySem.W.nsIn K mainGlobals "list" = some none)
    (z_range : PySem.W.nsIn K mainGlobals "range" = some none)
    (z_repr : PySem.W.nsIn K mainGlobals "repr" = some none)
    (z_sorted : PySem.W.nsIn K mainGlobals "sorted" = some none)
    (z_str : PySem.W.nsIn K mainGlobals "str" = some none)
    (z_sum : PySem.W.nsIn K mainGlobals "sum" = some none)
    (z_tuple : PySem.W.nsIn K mainGlobals "tuple" = some none)
    (z_zip : PySem.W.nsIn K mainGlobals "zip" = some none)
    (aC_PieceStack : PySem.W.nsIn K mainGlobals "PieceStack" = some (some (.ref C_PieceStack)))
    (pg_PieceStack : PySem.W.plainGet K C_PieceStack Str.empty = true)
    (hd_PieceStack : PySem.W.hasDictIn K C_PieceStack = true)
    (po_PieceStack : PySem.W.plainOver K C_PieceStack = true)
    (sa_PieceStack : PySem.W.findIn K (.ref C_PieceStack) "__setattr__" = some (some (.builtin "object.__setattr__")))
    (mk_PieceStack : PySem.W.makesIn K C_PieceStack = true)
    (kc_PieceStack : PySem.W.keepIn K (.ref C_PieceStack) = true)
    (n_whole : PySem.W.findIn K (.ref C_PieceStack) "whole" = some none)
    (n_piled : PySem.W.findIn K (.ref C_PieceStack) "piled" = some none)
    (aX_InvalidKeys : PySem.W.nsIn K mainGlobals "InvalidKeys" = some (some (.ref C_InvalidKeys)))
    (ii_InvalidKeys : PySem.W.findIn K (.ref C_InvalidKeys) "__init__" = some (some (.ref f0)))
    (xL_InvalidKeys : K.lookup C_InvalidKeys = some (excClassObj nm_InvalidKeys q_InvalidKeys C_InvalidKeys N_InvalidKeys bs_InvalidKeys [.ref C_SortError, .type "ValueError", .type "Exception", .type "BaseException", .type "object"] true sn_InvalidKeys sub_InvalidKeys ab_InvalidKeys col_InvalidKeys dd_InvalidKeys m0_InvalidKeys m1_InvalidKeys m2_InvalidKeys m3_InvalidKeys m5_InvalidKeys "ValueError.__new__"))
    (sx_InvalidKeys : PySem.W.findIn K (.ref C_InvalidKeys) "__setattr__" = some (some (.builtin "object.__setattr__")))
    (gx_InvalidKeys : PySem.W.findIn K (.ref C_InvalidKeys) "__getattribute__" = some (some (.builtin "BaseException.__getattribute__")))
    (ggx_InvalidKeys : PySem.W.findIn K (.ref C_InvalidKeys) "__getattr__" = some none)
    (nx_InvalidKeys : PySem.W.findIn K (.ref C_InvalidKeys) "index" = some none)
    (tx_InvalidKeys : PySem.W.typeIn K (.ref f0) = some (.type "function"))
    (kx_InvalidKeys : PySem.W.keepIn K (.ref C_InvalidKeys) = true)
    (ex_InvalidKeys : PySem.W.subIn K (.ref C_InvalidKeys) (.type "BaseException") = some true)
    (tyx_InvalidKeys : PySem.W.typeIn K (.ref C_InvalidKeys) = some (.type "type"))
    (hx_InvalidKeys : PySem.W.hasDictIn K C_InvalidKeys = true)
    (icx_InvalidKeys : PySem.W.isClsIn K C_InvalidKeys = true)
    (scx_InvalidKeys : PySem.W.subIn K (.ref C_InvalidKeys) (.ref C_InvalidKeys) = some true)
    (aX_InvalidQuestion : PySem.W.nsIn K mainGlobals "InvalidQuestion" = some (some (.ref C_InvalidQuestion)))
    (ii_InvalidQuestion : PySem.W.findIn K (.ref C_InvalidQuestion) "__init__" = some (some (.ref f1)))
    (xL_InvalidQuestion : K.lookup C_InvalidQuestion = some (excClassObj nm_InvalidQuestion q_InvalidQuestion C_InvalidQuestion N_InvalidQuestion bs_InvalidQuestion [.ref C_SortError, .type "ValueError", .type "Exception", .type "BaseException", .type "object"] true sn_InvalidQuestion sub_InvalidQuestion ab_InvalidQuestion col_InvalidQuestion dd_InvalidQuestion m0_InvalidQuestion m1_InvalidQuestion m2_InvalidQuestion m3_InvalidQuestion m5_InvalidQuestion "ValueError.__new__"))
    (sx_InvalidQuestion : PySem.W.findIn K (.ref C_InvalidQuestion) "__setattr__" = some (some (.builtin "object.__setattr__")))
    (gx_InvalidQuestion : PySem.W.findIn K (.ref C_InvalidQuestion) "__getattribute__" = some (some (.builtin "BaseException.__getattribute__")))
    (ggx_InvalidQuestion : PySem.W.findIn K (.ref C_InvalidQuestion) "__getattr__" = some none)
    (nx_InvalidQuestion : PySem.W.findIn K (.ref C_InvalidQuestion) "question" = some none)
    (tx_InvalidQuestion : PySem.W.typeIn K (.ref f1) = some (.type "function"))
    (kx_InvalidQuestion : PySem.W.keepIn K (.ref C_InvalidQuestion) = true)
    (ex_InvalidQuestion : PySem.W.subIn K (.ref C_InvalidQuestion) (.type "BaseException") = some true)
    (tyx_InvalidQuestion : PySem.W.typeIn K (.ref C_InvalidQuestion) = some (.type "type"))
    (hx_InvalidQuestion : PySem.W.hasDictIn K C_InvalidQuestion = true)
    (icx_InvalidQuestion : PySem.W.isClsIn K C_InvalidQuestion = true)
    (scx_InvalidQuestion : PySem.W.subIn K (.ref C_InvalidQuestion) (.ref C_InvalidQuestion) = some true)
    (aX_InvalidNumber : PySem.W.nsIn K mainGlobals "InvalidNumber" = some (some (.ref C_InvalidNumber)))
    (ii_InvalidNumber : PySem.W.findIn K (.ref C_InvalidNumber) "__init__" = some (some (.ref f5)))
    (xL_InvalidNumber : K.lookup C_InvalidNumber = some (excClassObj nm_InvalidNumber q_InvalidNumber C_InvalidNumber N_InvalidNumber bs_InvalidNumber [.ref C_SortError, .type "ValueError", .type "Exception", .type "BaseException", .type "object"] true sn_InvalidNumber sub_InvalidNumber ab_InvalidNumber col_InvalidNumber dd_InvalidNumber m0_InvalidNumber m1_InvalidNumber m2_InvalidNumber m3_InvalidNumber m5_InvalidNumber "ValueError.__new__"))
    (sx_InvalidNumber : PySem.W.findIn K (.ref C_InvalidNumber) "__setattr__" = some (some (.builtin "object.__setattr__")))
    (gx_InvalidNumber : PySem.W.findIn K (.ref C_InvalidNumber) "__getattribute__" = some (some (.builtin "BaseException.__getattribute__")))
    (ggx_InvalidNumber : PySem.W.findIn K (.ref C_InvalidNumber) "__getattr__" = some none)
    (nx_InvalidNumber : PySem.W.findIn K (.ref C_InvalidNumber) "name" = some none)
    (tx_InvalidNumber : PySem.W.typeIn K (.ref f5) = some (.type "function"))
    (kx_InvalidNumber : PySem.W.keepIn K (.ref C_InvalidNumber) = true)
    (ex_InvalidNumber : PySem.W.subIn K (.ref C_InvalidNumber) (.type "BaseException") = some true)
    (tyx_InvalidNumber : PySem.W.typeIn K (.ref C_InvalidNumber) = some (.type "type"))
    (hx_InvalidNumber : PySem.W.hasDictIn K C_InvalidNumber = true)
    (icx_InvalidNumber : PySem.W.isClsIn K C_InvalidNumber = true)
    (scx_InvalidNumber : PySem.W.subIn K (.ref C_InvalidNumber) (.ref C_InvalidNumber) = some true)
    (aX_InvalidAnswers : PySem.W.nsIn K mainGlobals "InvalidAnswers" = some (some (.ref C_InvalidAnswers)))
    (ii_InvalidAnswers : PySem.W.findIn K (.ref C_InvalidAnswers) "__init__" = some (some (.ref f2)))
    (xL_InvalidAnswers : K.lookup C_InvalidAnswers = some (excClassObj nm_InvalidAnswers q_InvalidAnswers C_InvalidAnswers N_InvalidAnswers bs_InvalidAnswers [.ref C_SortError, .type "ValueError", .type "Exception", .type "BaseException", .type "object"] true sn_InvalidAnswers sub_InvalidAnswers ab_InvalidAnswers col_InvalidAnswers dd_InvalidAnswers m0_InvalidAnswers m1_InvalidAnswers m2_InvalidAnswers m3_InvalidAnswers m5_InvalidAnswers "ValueError.__new__"))
    (sx_InvalidAnswers : PySem.W.findIn K (.ref C_InvalidAnswers) "__setattr__" = some (some (.builtin "object.__setattr__")))
    (gx_InvalidAnswers : PySem.W.findIn K (.ref C_InvalidAnswers) "__getattribute__" = some (some (.builtin "BaseException.__getattribute__")))
    (ggx_InvalidAnswers : PySem.W.findIn K (.ref C_InvalidAnswers) "__getattr__" = some none)
    (nx_InvalidAnswers : PySem.W.findIn K (.ref C_InvalidAnswers) "index" = some none)
    (tx_InvalidAnswers : PySem.W.typeIn K (.ref f2) = some (.type "function"))
    (kx_InvalidAnswers : PySem.W.keepIn K (.ref C_InvalidAnswers) = true)
    (ex_InvalidAnswers : PySem.W.subIn K (.ref C_InvalidAnswers) (.type "BaseException") = some true)
    (tyx_InvalidAnswers : PySem.W.typeIn K (.ref C_InvalidAnswers) = some (.type "type"))
    (hx_InvalidAnswers : PySem.W.hasDictIn K C_InvalidAnswers = true)
    (icx_InvalidAnswers : PySem.W.isClsIn K C_InvalidAnswers = true)
    (scx_InvalidAnswers : PySem.W.subIn K (.ref C_InvalidAnswers) (.ref C_InvalidAnswers) = some true)
    (aX_InvalidOrder : PySem.W.nsIn K mainGlobals "InvalidOrder" = some (some (.ref C_InvalidOrder)))
    (ii_InvalidOrder : PySem.W.findIn K (.ref C_InvalidOrder) "__init__" = some (some (.ref f3)))
    (xL_InvalidOrder : K.lookup C_InvalidOrder = some (excClassObj nm_InvalidOrder q_InvalidOrder C_InvalidOrder N_InvalidOrder bs_InvalidOrder [.ref C_SortError, .type "ValueError", .type "Exception", .type "BaseException", .type "object"] true sn_InvalidOrder sub_InvalidOrder ab_InvalidOrder col_InvalidOrder dd_InvalidOrder m0_InvalidOrder m1_InvalidOrder m2_InvalidOrder m3_InvalidOrder m5_InvalidOrder "ValueError.__new__"))
    (sx_InvalidOrder : PySem.W.findIn K (.ref C_InvalidOrder) "__setattr__" = some (some (.builtin "object.__setattr__")))
    (gx_InvalidOrder : PySem.W.findIn K (.ref C_InvalidOrder) "__getattribute__" = some (some (.builtin "BaseException.__getattribute__")))
    (ggx_InvalidOrder : PySem.W.findIn K (.ref C_InvalidOrder) "__getattr__" = some none)
    (nx_InvalidOrder : PySem.W.findIn K (.ref C_InvalidOrder) "index" = some none)
    (tx_InvalidOrder : PySem.W.typeIn K (.ref f3) = some (.type "function"))
    (kx_InvalidOrder : PySem.W.keepIn K (.ref C_InvalidOrder) = true)
    (ex_InvalidOrder : PySem.W.subIn K (.ref C_InvalidOrder) (.type "BaseException") = some true)
    (tyx_InvalidOrder : PySem.W.typeIn K (.ref C_InvalidOrder) = some (.type "type"))
    (hx_InvalidOrder : PySem.W.hasDictIn K C_InvalidOrder = true)
    (icx_InvalidOrder : PySem.W.isClsIn K C_InvalidOrder = true)
    (scx_InvalidOrder : PySem.W.subIn K (.ref C_InvalidOrder) (.ref C_InvalidOrder) = some true)
    (aX_InvalidLengths : PySem.W.nsIn K mainGlobals "InvalidLengths" = some (some (.ref C_InvalidLengths)))
    (ii_InvalidLengths : PySem.W.findIn K (.ref C_InvalidLengths) "__init__" = some (some (.ref f4)))
    (xL_InvalidLengths : K.lookup C_InvalidLengths = some (excClassObj nm_InvalidLengths q_InvalidLengths C_InvalidLengths N_InvalidLengths bs_InvalidLengths [.ref C_SortError, .type "ValueError", .type "Exception", .type "BaseException", .type "object"] true sn_InvalidLengths sub_InvalidLengths ab_InvalidLengths col_InvalidLengths dd_InvalidLengths m0_InvalidLengths m1_InvalidLengths m2_InvalidLengths m3_InvalidLengths m5_InvalidLengths "ValueError.__new__"))
    (sx_InvalidLengths : PySem.W.findIn K (.ref C_InvalidLengths) "__setattr__" = some (some (.builtin "object.__setattr__")))
    (gx_InvalidLengths : PySem.W.findIn K (.ref C_InvalidLengths) "__getattribute__" = some (some (.builtin "BaseException.__getattribute__")))
    (ggx_InvalidLengths : PySem.W.findIn K (.ref C_InvalidLengths) "__getattr__" = some none)
    (nx_InvalidLengths : PySem.W.findIn K (.ref C_InvalidLengths) "index" = some none)
    (tx_InvalidLengths : PySem.W.typeIn K (.ref f4) = some (.type "function"))
    (kx_InvalidLengths : PySem.W.keepIn K (.ref C_InvalidLengths) = true)
    (ex_InvalidLengths : PySem.W.subIn K (.ref C_InvalidLengths) (.type "BaseException") = some true)
    (tyx_InvalidLengths : PySem.W.typeIn K (.ref C_InvalidLengths) = some (.type "type"))
    (hx_InvalidLengths : PySem.W.hasDictIn K C_InvalidLengths = true)
    (icx_InvalidLengths : PySem.W.isClsIn K C_InvalidLengths = true)
    (scx_InvalidLengths : PySem.W.subIn K (.ref C_InvalidLengths) (.ref C_InvalidLengths) = some true)
    (aX_TooLarge : PySem.W.nsIn K mainGlobals "TooLarge" = some (some (.ref C_TooLarge)))
    (ii_TooLarge : PySem.W.findIn K (.ref C_TooLarge) "__init__" = some (some (.ref f6)))
    (xL_TooLarge : K.lookup C_TooLarge = some (excClassObj nm_TooLarge q_TooLarge C_TooLarge N_TooLarge bs_TooLarge [.ref C_SortError, .type "ValueError", .type "Exception", .type "BaseException", .type "object"] true sn_TooLarge sub_TooLarge ab_TooLarge col_TooLarge dd_TooLarge m0_TooLarge m1_TooLarge m2_TooLarge m3_TooLarge m5_TooLarge "ValueError.__new__"))
    (sx_TooLarge : PySem.W.findIn K (.ref C_TooLarge) "__setattr__" = some (some (.builtin "object.__setattr__")))
    (gx_TooLarge : PySem.W.findIn K (.ref C_TooLarge) "__getattribute__" = some (some (.builtin "BaseException.__getattribute__")))
    (ggx_TooLarge : PySem.W.findIn K (.ref C_TooLarge) "__getattr__" = some none)
    (nx_TooLarge : PySem.W.findIn K (.ref C_TooLarge) "limit" = some none)
    (tx_TooLarge : PySem.W.typeIn K (.ref f6) = some (.type "function"))
    (kx_TooLarge : PySem.W.keepIn K (.ref C_TooLarge) = true)
    (ex_TooLarge : PySem.W.subIn K (.ref C_TooLarge) (.type "BaseException") = some true)
    (tyx_TooLarge : PySem.W.typeIn K (.ref C_TooLarge) = some (.type "type"))
    (hx_TooLarge : PySem.W.hasDictIn K C_TooLarge = true)
    (icx_TooLarge : PySem.W.isClsIn K C_TooLarge = true)
    (scx_TooLarge : PySem.W.subIn K (.ref C_TooLarge) (.ref C_TooLarge) = some true)
    (aX_Mismatch : PySem.W.nsIn K mainGlobals "Mismatch" = some (some (.ref C_Mismatch)))
    (ii_Mismatch : PySem.W.findIn K (.ref C_Mismatch) "__init__" = some (some (.ref f7)))
    (xL_Mismatch : K.lookup C_Mismatch = some (excClassObj nm_Mismatch q_Mismatch C_Mismatch N_Mismatch bs_Mismatch [.ref C_SortError, .type "ValueError", .type "Exception", .type "BaseException", .type "object"] true sn_Mismatch sub_Mismatch ab_Mismatch col_Mismatch dd_Mismatch m0_Mismatch m1_Mismatch m2_Mismatch m3_Mismatch m5_Mismatch "ValueError.__new__"))
    (sx_Mismatch : PySem.W.findIn K (.ref C_Mismatch) "__setattr__" = some (some (.builtin "object.__setattr__")))
    (gx_Mismatch : PySem.W.findIn K (.ref C_Mismatch) "__getattribute__" = some (some (.builtin "BaseException.__getattribute__")))
    (ggx_Mismatch : PySem.W.findIn K (.ref C_Mismatch) "__getattr__" = some none)
    (nx_Mismatch : PySem.W.findIn K (.ref C_Mismatch) "name" = some none)
    (tx_Mismatch : PySem.W.typeIn K (.ref f7) = some (.type "function"))
    (kx_Mismatch : PySem.W.keepIn K (.ref C_Mismatch) = true)
    (ex_Mismatch : PySem.W.subIn K (.ref C_Mismatch) (.type "BaseException") = some true)
    (tyx_Mismatch : PySem.W.typeIn K (.ref C_Mismatch) = some (.type "type"))
    (hx_Mismatch : PySem.W.hasDictIn K C_Mismatch = true)
    (icx_Mismatch : PySem.W.isClsIn K C_Mismatch = true)
    (scx_Mismatch : PySem.W.subIn K (.ref C_Mismatch) (.ref C_Mismatch) = some true)
    (aX_SortError : PySem.W.nsIn K mainGlobals "SortError" = some (some (.ref C_SortError)))
    (r1x_SortError : PySem.W.readsIn K C_SortError (.type "type") = true)
    (r2x_SortError : PySem.W.specialIn K (.ref C_SortError) "__getattribute__" = some (some (.builtin "type.__getattribute__")))
    (vix_SortError : PySem.W.findCls K (.ref C_SortError) (.type "type") "__init__" = some (.val (.builtin "ValueError.__init__")))
    (ex_SortError : PySem.W.subIn K (.ref C_SortError) (.type "BaseException") = some true)
    (tyx_SortError : PySem.W.typeIn K (.ref C_SortError) = some (.type "type"))
    (icx_SortError : PySem.W.isClsIn K C_SortError = true)
    (scx_SortError : PySem.W.subIn K (.ref C_SortError) (.ref C_SortError) = some true)
    (su_InvalidKeys_InvalidQuestion : PySem.W.subIn K (.ref C_InvalidKeys) (.ref C_InvalidQuestion) = some false)
    (su_InvalidKeys_InvalidNumber : PySem.W.subIn K (.ref C_InvalidKeys) (.ref C_InvalidNumber) = some false)
    (su_InvalidKeys_InvalidAnswers : PySem.W.subIn K (.ref C_InvalidKeys) (.ref C_InvalidAnswers) = some false)
    (su_InvalidKeys_InvalidOrder : PySem.W.subIn K (.ref C_InvalidKeys) (.ref C_InvalidOrder) = some false)
    (su_InvalidKeys_InvalidLengths : PySem.W.subIn K (.ref C_InvalidKeys) (.ref C_InvalidLengths) = some false)
    (su_InvalidKeys_TooLarge : PySem.W.subIn K (.ref C_InvalidKeys) (.ref C_TooLarge) = some false)
    (su_InvalidKeys_Mismatch : PySem.W.subIn K (.ref C_InvalidKeys) (.ref C_Mismatch) = some false)
    (su_InvalidKeys_SortError : PySem.W.subIn K (.ref C_InvalidKeys) (.ref C_SortError) = some true)
    (su_InvalidQuestion_InvalidKeys : PySem.W.subIn K (.ref C_InvalidQuestion) (.ref C_InvalidKeys) = some false)
    (su_InvalidQuestion_InvalidNumber : PySem.W.subIn K (.ref C_InvalidQuestion) (.ref C_InvalidNumber) = some false)
    (su_InvalidQuestion_InvalidAnswers : PySem.W.subIn K (.ref C_InvalidQuestion) (.ref C_InvalidAnswers) = some false)
    (su_InvalidQuestion_InvalidOrder : PySem.W.subIn K (.ref C_InvalidQuestion) (.ref C_InvalidOrder) = some false)
    (su_InvalidQuestion_InvalidLengths : PySem.W.subIn K (.ref C_InvalidQuestion) (.ref C_InvalidLengths) = some false)
    (su_InvalidQuestion_TooLarge : PySem.W.subIn K (.ref C_InvalidQuestion) (.ref C_TooLarge) = some false)
    (su_InvalidQuestion_Mismatch : PySem.W.subIn K (.ref C_InvalidQuestion) (.ref C_Mismatch) = some false)
    (su_InvalidQuestion_SortError : PySem.W.subIn K (.ref C_InvalidQuestion) (.ref C_SortError) = some true)
    (su_InvalidNumber_InvalidKeys : PySem.W.subIn K (.ref C_InvalidNumber) (.ref C_InvalidKeys) = some false)
    (su_InvalidNumber_InvalidQuestion : PySem.W.subIn K (.ref C_InvalidNumber) (.ref C_InvalidQuestion) = some false)
    (su_InvalidNumber_InvalidAnswers : PySem.W.subIn K (.ref C_InvalidNumber) (.ref C_InvalidAnswers) = some false)
    (su_InvalidNumber_InvalidOrder : PySem.W.subIn K (.ref C_InvalidNumber) (.ref C_InvalidOrder) = some false)
    (su_InvalidNumber_InvalidLengths : PySem.W.subIn K (.ref C_InvalidNumber) (.ref C_InvalidLengths) = some false)
    (su_InvalidNumber_TooLarge : PySem.W.subIn K (.ref C_InvalidNumber) (.ref C_TooLarge) = some false)
    (su_InvalidNumber_Mismatch : PySem.W.subIn K (.ref C_InvalidNumber) (.ref C_Mismatch) = some false)
    (su_InvalidNumber_SortError : PySem.W.subIn K (.ref C_InvalidNumber) (.ref C_SortError) = some true)
    (su_InvalidAnswers_InvalidKeys : PySem.W.subIn K (.ref C_InvalidAnswers) (.ref C_InvalidKeys) = some false)
    (su_InvalidAnswers_InvalidQuestion : PySem.W.subIn K (.ref C_InvalidAnswers) (.ref C_InvalidQuestion) = some false)
    (su_InvalidAnswers_InvalidNumber : PySem.W.subIn K (.ref C_InvalidAnswers) (.ref C_InvalidNumber) = some false)
    (su_InvalidAnswers_InvalidOrder : PySem.W.subIn K (.ref C_InvalidAnswers) (.ref C_InvalidOrder) = some false)
    (su_InvalidAnswers_InvalidLengths : PySem.W.subIn K (.ref C_InvalidAnswers) (.ref C_InvalidLengths) = some false)
    (su_InvalidAnswers_TooLarge : PySem.W.subIn K (.ref C_InvalidAnswers) (.ref C_TooLarge) = some false)
    (su_InvalidAnswers_Mismatch : PySem.W.subIn K (.ref C_InvalidAnswers) (.ref C_Mismatch) = some false)
    (su_InvalidAnswers_SortError : PySem.W.subIn K (.ref C_InvalidAnswers) (.ref C_SortError) = some true)
    (su_InvalidOrder_InvalidKeys : PySem.W.subIn K (.ref C_InvalidOrder) (.ref C_InvalidKeys) = some false)
    (su_InvalidOrder_InvalidQuestion : PySem.W.subIn K (.ref C_InvalidOrder) (.ref C_InvalidQuestion) = some false)
    (su_InvalidOrder_InvalidNumber : PySem.W.subIn K (.ref C_InvalidOrder) (.ref C_InvalidNumber) = some false)
    (su_InvalidOrder_InvalidAnswers : PySem.W.subIn K (.ref C_InvalidOrder) (.ref C_InvalidAnswers) = some false)
    (su_InvalidOrder_InvalidLengths : PySem.W.subIn K (.ref C_InvalidOrder) (.ref C_InvalidLengths) = some false)
    (su_InvalidOrder_TooLarge : PySem.W.subIn K (.ref C_InvalidOrder) (.ref C_TooLarge) = some false)
    (su_InvalidOrder_Mismatch : PySem.W.subIn K (.ref C_InvalidOrder) (.ref C_Mismatch) = some false)
    (su_InvalidOrder_SortError : PySem.W.subIn K (.ref C_InvalidOrder) (.ref C_SortError) = some true)
    (su_InvalidLengths_InvalidKeys : PySem.W.subIn K (.ref C_InvalidLengths) (.ref C_InvalidKeys) = some false)
    (su_InvalidLengths_InvalidQuestion : PySem.W.subIn K (.ref C_InvalidLengths) (.ref C_InvalidQuestion) = some false)
    (su_InvalidLengths_InvalidNumber : PySem.W.subIn K (.ref C_InvalidLengths) (.ref C_InvalidNumber) = some false)
    (su_InvalidLengths_InvalidAnswers : PySem.W.subIn K (.ref C_InvalidLengths) (.ref C_InvalidAnswers) = some false)
    (su_InvalidLengths_InvalidOrder : PySem.W.subIn K (.ref C_InvalidLengths) (.ref C_InvalidOrder) = some false)
    (su_InvalidLengths_TooLarge : PySem.W.subIn K (.ref C_InvalidLengths) (.ref C_TooLarge) = some false)
    (su_InvalidLengths_Mismatch : PySem.W.subIn K (.ref C_InvalidLengths) (.ref C_Mismatch) = some false)
    (su_InvalidLengths_SortError : PySem.W.subIn K (.ref C_InvalidLengths) (.ref C_SortError) = some true)
    (su_TooLarge_InvalidKeys : PySem.W.subIn K (.ref C_TooLarge) (.ref C_InvalidKeys) = some false)
    (su_TooLarge_InvalidQuestion : PySem.W.subIn K (.ref C_TooLarge) (.ref C_InvalidQuestion) = some false)
    (su_TooLarge_InvalidNumber : PySem.W.subIn K (.ref C_TooLarge) (.ref C_InvalidNumber) = some false)
    (su_TooLarge_InvalidAnswers : PySem.W.subIn K (.ref C_TooLarge) (.ref C_InvalidAnswers) = some false)
    (su_TooLarge_InvalidOrder : PySem.W.subIn K (.ref C_TooLarge) (.ref C_InvalidOrder) = some false)
    (su_TooLarge_InvalidLengths : PySem.W.subIn K (.ref C_TooLarge) (.ref C_InvalidLengths) = some false)
    (su_TooLarge_Mismatch : PySem.W.subIn K (.ref C_TooLarge) (.ref C_Mismatch) = some false)
    (su_TooLarge_SortError : PySem.W.subIn K (.ref C_TooLarge) (.ref C_SortError) = some true)
    (su_Mismatch_InvalidKeys : PySem.W.subIn K (.ref C_Mismatch) (.ref C_InvalidKeys) = some false)
    (su_Mismatch_InvalidQuestion : PySem.W.subIn K (.ref C_Mismatch) (.ref C_InvalidQuestion) = some false)
    (su_Mismatch_InvalidNumber : PySem.W.subIn K (.ref C_Mismatch) (.ref C_InvalidNumber) = some false)
    (su_Mismatch_InvalidAnswers : PySem.W.subIn K (.ref C_Mismatch) (.ref C_InvalidAnswers) = some false)
    (su_Mismatch_InvalidOrder : PySem.W.subIn K (.ref C_Mismatch) (.ref C_InvalidOrder) = some false)
    (su_Mismatch_InvalidLengths : PySem.W.subIn K (.ref C_Mismatch) (.ref C_InvalidLengths) = some false)
    (su_Mismatch_TooLarge : PySem.W.subIn K (.ref C_Mismatch) (.ref C_TooLarge) = some false)
    (su_Mismatch_SortError : PySem.W.subIn K (.ref C_Mismatch) (.ref C_SortError) = some true)
    (dcx_InvalidKeys : PySem.W.findIn K (.ref C_InvalidKeys) "__class__" = some (some (.builtin "object.__class__")))
    (dmx_InvalidKeys : PySem.W.mroIn K C_InvalidKeys (.type "object") = some true)
    (dcx_InvalidQuestion : PySem.W.findIn K (.ref C_InvalidQuestion) "__class__" = some (some (.builtin "object.__class__")))
    (dmx_InvalidQuestion : PySem.W.mroIn K C_InvalidQuestion (.type "object") = some true)
    (dcx_InvalidNumber : PySem.W.findIn K (.ref C_InvalidNumber) "__class__" = some (some (.builtin "object.__class__")))
    (dmx_InvalidNumber : PySem.W.mroIn K C_InvalidNumber (.type "object") = some true)
    (dcx_InvalidAnswers : PySem.W.findIn K (.ref C_InvalidAnswers) "__class__" = some (some (.builtin "object.__class__")))
    (dmx_InvalidAnswers : PySem.W.mroIn K C_InvalidAnswers (.type "object") = some true)
    (dcx_InvalidOrder : PySem.W.findIn K (.ref C_InvalidOrder) "__class__" = some (some (.builtin "object.__class__")))
    (dmx_InvalidOrder : PySem.W.mroIn K C_InvalidOrder (.type "object") = some true)
    (dcx_InvalidLengths : PySem.W.findIn K (.ref C_InvalidLengths) "__class__" = some (some (.builtin "object.__class__")))
    (dmx_InvalidLengths : PySem.W.mroIn K C_InvalidLengths (.type "object") = some true)
    (dcx_TooLarge : PySem.W.findIn K (.ref C_TooLarge) "__class__" = some (some (.builtin "object.__class__")))
    (dmx_TooLarge : PySem.W.mroIn K C_TooLarge (.type "object") = some true)
    (dcx_Mismatch : PySem.W.findIn K (.ref C_Mismatch) "__class__" = some (some (.builtin "object.__class__")))
    (dmx_Mismatch : PySem.W.mroIn K C_Mismatch (.type "object") = some true)
    (dnx : PySem.W.specialIn K (.builtin "object.__class__") "__get__" = some (some (.builtin "getset_descriptor.__get__"))) (dtx : PySem.W.takesIn K (.builtin "object.__class__") = some true)
    (le_judged : cd40 = .ref lc_judged) (lh_judged : PySem.W.codeHdIn K lc_judged lp_judged = true) (ln_judged : K.lookup lp_judged = none)
    (le_law : cd41 = .ref lc_law) (lh_law : PySem.W.codeHdIn K lc_law lp_law = true) (ln_law : K.lookup lp_law = none)
    (lne_judged_law : lp_judged ≠ lp_law)
    : LamX.LawAtS l w K CX0 14 63 "script" mg fa h := by
  have e : fa = f41 := by
    have e := hfa.symm.trans (PySem.W.mg_of X G a41)
    cases e
    rfl
  have F0 := fun_mk (st := s_InvalidKeys___init__) l0 c0 k0
  have B0 := F0.binds (ps := P_InvalidKeys___init__) fun _ _ _ _ _ _ us hl => match us, hl with | [_, _], _ => rfl
  have F1 := fun_mk (st := s_InvalidQuestion___init__) l1 c1 k1
  have B1 := F1.binds (ps := P_InvalidQuestion___init__) fun _ _ _ _ _ _ us hl => match us, hl with | [_, _], _ => rfl
  have F2 := fun_mk (st := s_InvalidAnswers___init__) l2 c2 k2
  have B2 := F2.binds (ps := P_InvalidAnswers___init__) fun _ _ _ _ _ _ us hl => match us, hl with | [_, _], _ => rfl
  have F3 := fun_mk (st := s_InvalidOrder___init__) l3 c3 k3
  have B3 := F3.binds (ps := P_InvalidOrder___init__) fun _ _ _ _ _ _ us hl => match us, hl with | [_, _], _ => rfl
  have F4 := fun_mk (st := s_InvalidLengths___init__) l4 c4 k4
  have B4 := F4.binds (ps := P_InvalidLengths___init__) fun _ _ _ _ _ _ us hl => match us, hl with | [_, _], _ => rfl
  have F5 := fun_mk (st := s_InvalidNumber___init__) l5 c5 k5
  have B5 := F5.binds (ps := P_InvalidNumber___init__) fun _ _ _ _ _ _ us hl => match us, hl with | [_, _], _ => rfl
  have F6 := fun_mk (st := s_TooLarge___init__) l6 c6 k6
  have B6 := F6.binds (ps := P_TooLarge___init__) fun _ _ _ _ _ _ us hl => match us, hl with | [_, _], _ => rfl
  have F7 := fun_mk (st := s_Mismatch___init__) l7 c7 k7
  have B7 := F7.binds (ps := P_Mismatch___init__) fun _ _ _ _ _ _ us hl => match us, hl with | [_, _], _ => rfl
  have F8 := fun_mk (st := s_is_integer) l8 c8 k8
  have B8 := F8.binds (ps := P_is_integer) fun _ _ _ _ _ _ us hl => match us, hl with | [_], _ => rfl
  have F9 := fun_mk (st := s_is_within) l9 c9 k9
  have B9 := F9.binds (ps := P_is_within) fun _ _ _ _ _ _ us hl => match us, hl with | [_, _, _], _ => rfl
  have F10 := funV_mk (st := s_check_lengths) l10 c10
  have B10_0 := bindsV (st := s_check_lengths) (dvs := [.non]) (its := [.none]) (ps := P_check_lengths) l10 c10 k10 t10 (.cons rfl .nil) 4 1 (List.cons_ne_nil _ _) rfl fun _ _ _ _ _ _ _ us its h1 h2 => match us, its, h1, h2 with | [_, _, _, _], [_], _, _ => ⟨_, rfl, rfl⟩
  have B10_1 := bindsV (st := s_check_lengths) (dvs := [.non]) (its := [.none]) (ps := P_check_lengths) l10 c10 k10 t10 (.cons rfl .nil) 3 0 (List.cons_ne_nil _ _) rfl fun _ _ _ _ _ _ _ us its h1 h2 => match us, its, h1, h2 with | [_, _, _], [_], _, _ => ⟨_, rfl, rfl⟩
  obtain ⟨ds10, rds10, bds10⟩ := B10_0
  have F11 := fun_mk (st := s_level_between) l11 c11 k11
  have B11 := F11.binds (ps := P_level_between) fun _ _ _ _ _ _ us hl => match us, hl with | [_, _, _, _], _ => rfl
  have F12 := fun_mk (st := s_PieceStack___init__) l12 c12 k12
  have B12 := F12.binds (ps := P_PieceStack___init__) fun _ _ _ _ _ _ us hl => match us, hl with | [_, _], _ => rfl
  have F13 := fun_mk (st := s_PieceStack_border_to) l13 c13 k13
  have B13 := F13.binds (ps := P_PieceStack_border_to) fun _ _ _ _ _ _ us hl => match us, hl with | [_, _], _ => rfl
  have F14 := fun_mk (st := s_PieceStack_has_to_join) l14 c14 k14
  have B14 := F14.binds (ps := P_PieceStack_has_to_join) fun _ _ _ _ _ _ us hl => match us, hl with | [_, _], _ => rfl
  have F15 := fun_mk (st := s_PieceStack_put) l15 c15 k15
  have B15 := F15.binds (ps := P_PieceStack_put) fun _ _ _ _ _ _ us hl => match us, hl with | [_, _, _, _], _ => rfl
  have F16 := fun_mk (st := s_PieceStack_next_to_join) l16 c16 k16
  have B16 := F16.binds (ps := P_PieceStack_next_to_join) fun _ _ _ _ _ _ us hl => match us, hl with | [_], _ => rfl
  have F17 := fun_mk (st := s_PieceStack_join_at) l17 c17 k17
  have B17 := F17.binds (ps := P_PieceStack_join_at) fun _ _ _ _ _ _ us hl => match us, hl with | [_, _], _ => rfl
  have F18 := fun_mk (st := s_is_way_of) l18 c18 k18
  have B18 := F18.binds (ps := P_is_way_of) fun _ _ _ _ _ _ us hl => match us, hl with | [_, _], _ => rfl
  have F19 := fun_mk (st := s_is_join) l19 c19 k19
  have B19 := F19.binds (ps := P_is_join) fun _ _ _ _ _ _ us hl => match us, hl with | [_, _], _ => rfl
  have F20 := fun_mk (st := s_is_way) l20 c20 k20
  have B20 := F20.binds (ps := P_is_way) fun _ _ _ _ _ _ us hl => match us, hl with | [_, _], _ => rfl
  have F21 := fun_mk (st := s_first_unlike) l21 c21 k21
  have B21 := F21.binds (ps := P_first_unlike) fun _ _ _ _ _ _ us hl => match us, hl with | [_, _], _ => rfl
  have F22 := fun_mk (st := s_all_joins) l22 c22 k22
  have B22 := F22.binds (ps := P_all_joins) fun _ _ _ _ _ _ us hl => match us, hl with | [_], _ => rfl
  have F23 := fun_mk (st := s_pile_up) l23 c23 k23
  have B23 := F23.binds (ps := P_pile_up) fun _ _ _ _ _ _ us hl => match us, hl with | [_], _ => rfl
  have F24 := fun_mk (st := s_check_pieces) l24 c24 k24
  have B24 := F24.binds (ps := P_check_pieces) fun _ _ _ _ _ _ us hl => match us, hl with | [_], _ => rfl
  have F25 := fun_mk (st := s_mixed) l25 c25 k25
  have B25 := F25.binds (ps := P_mixed) fun _ _ _ _ _ _ us hl => match us, hl with | [_, _], _ => rfl
  have F26 := fun_mk (st := s_source) l26 c26 k26
  have B26 := F26.binds (ps := P_source) fun _ _ _ _ _ _ us hl => match us, hl with | [_], _ => rfl
  have F27 := fun_mk (st := s_take) l27 c27 k27
  have B27 := F27.binds (ps := P_take) fun _ _ _ _ _ _ us hl => match us, hl with | [_, _], _ => rfl
  have F28 := fun_mk (st := s_pick) l28 c28 k28
  have B28 := F28.binds (ps := P_pick) fun _ _ _ _ _ _ us hl => match us, hl with | [_, _], _ => rfl
  have F29 := fun_mk (st := s_said) l29 c29 k29
  have B29 := F29.binds (ps := P_said) fun _ _ _ _ _ _ us hl => match us, hl with | [_], _ => rfl
  have F30 := fun_mk (st := s_level) l30 c30 k30
  have B30 := F30.binds (ps := P_level) fun _ _ _ _ _ _ us hl => match us, hl with | [_, _, _, _], _ => rfl
  have F31 := fun_mk (st := s_lengths) l31 c31 k31
  have B31 := F31.binds (ps := P_lengths) fun _ _ _ _ _ _ us hl => match us, hl with | [_, _, _], _ => rfl
  have F32 := fun_mk (st := s_starts) l32 c32 k32
  have B32 := F32.binds (ps := P_starts) fun _ _ _ _ _ _ us hl => match us, hl with | [_], _ => rfl
  have F33 := fun_mk (st := s_note) l33 c33 k33
  have B33 := F33.binds (ps := P_note) fun _ _ _ _ _ _ us hl => match us, hl with | [_, _, _], _ => rfl
  have F34 := fun_mk (st := s_piled) l34 c34 k34
  have B34 := F34.binds (ps := P_piled) fun _ _ _ _ _ _ us hl => match us, hl with | [_], _ => rfl
  have F35 := fun_mk (st := s_deep) l35 c35 k35
  have B35 := F35.binds (ps := P_deep) fun _ _ _ _ _ _ us hl => match us, hl with | [], _ => rfl
  have F36 := fun_mk (st := s_drawn_way) l36 c36 k36
  have B36 := F36.binds (ps := P_drawn_way) fun _ _ _ _ _ _ us hl => match us, hl with | [_, _], _ => rfl
  have F37 := fun_mk (st := s_obeys) l37 c37 k37
  have B37 := F37.binds (ps := P_obeys) fun _ _ _ _ _ _ us hl => match us, hl with | [_, _], _ => rfl
  have F38 := fun_mk (st := s_spoilt) l38 c38 k38
  have B38 := F38.binds (ps := P_spoilt) fun _ _ _ _ _ _ us hl => match us, hl with | [_, _], _ => rfl
  have F39 := fun_mk (st := s_is_row) l39 c39 k39
  have B39 := F39.binds (ps := P_is_row) fun _ _ _ _ _ _ us hl => match us, hl with | [_], _ => rfl
  have F40 := fun_mk (st := s_judged) l40 c40 k40
  have B40 := F40.binds (ps := P_judged) fun _ _ _ _ _ _ us hl => match us, hl with | [_, _, _], _ => rfl
  have F41 := fun_mk (st := s_law) l41 c41 k41
  have B41 := F41.binds (ps := P_law) fun _ _ _ _ _ _ us hl => match us, hl with | [_], _ => rfl
  have T : Txt K mg ⟨lc_judged, lp_judged, lc_law, lp_law, f0, f1, f2, f3, f4, f5, f6, f7, f8, f9, f10, f11, f12, f13, f14, f15, f16, f17, f18, f19, f20, f21, f22, f23, f24, f25, f26, f27, f28, f29, f30, f31, f32, f33, f34, f35, f36, f37, f38, f39, f40, f41, t_MOST_LENGTHS, C_PieceStack, C_InvalidKeys, C_InvalidQuestion, C_InvalidNumber, C_InvalidAnswers, C_InvalidOrder, C_InvalidLengths, C_TooLarge, C_Mismatch, C_SortError⟩ ⟨_, _, _, _, _, _, _, _, _, _, _, _, _, _, _, _, _, _, _, _, _, _, _, _, _, _, _, _, _, _, _, _, _, _, _, _, _, _, _, _, _, _⟩ := ⟨F0, B0, F1, B1, F2, B2, F3, B3, F4, B4, F5, B5, F6, B6, F7, B7, PySem.W.mg_of X G a8, k8, F8, B8, PySem.W.mg_of X G a9, k9, F9, B9, PySem.W.mg_of X G a10, k10, F10, B10_1, Binds.none rds10 bds10, PySem.W.mg_of X G a11, k11, F11, B11, ⟨a12, i12, k12⟩, F12, B12, ⟨a13, i13, k13⟩, F13, B13, ⟨a14, i14, k14⟩, F14, B14, ⟨a15, i15, k15⟩, F15, B15, ⟨a16, i16, k16⟩, F16, B16, ⟨a17, i17, k17⟩, F17, B17, PySem.W.mg_of X G a18, k18, F18, B18, PySem.W.mg_of X G a19, k19, F19, B19, PySem.W.mg_of X G a20, k20, F20, B20, kbn_is_way_0_joins_lengths F20, PySem.W.mg_of X G a21, k21, F21, B21, kbn_first_unlike_0_joins_lengths F21, PySem.W.mg_of X G a22, k22, F22, B22, PySem.W.mg_of X G a23, k23, F23, B23, PySem.W.mg_of X G a24, k24, F24, B24, PySem.W.mg_of X G a25, k25, F25, B25, PySem.W.mg_of X G a26, k26, F26, B26, PySem.W.mg_of X G a27, k27, F27, B27, PySem.W.mg_of X G a28, k28, F28, B28, PySem.W.mg_of X G a29, k29, F29, B29, PySem.W.mg_of X G a30, k30, F30, B30, PySem.W.mg_of X G a31, k31, F31, B31, PySem.W.mg_of X G a32, k32, F32, B32, PySem.W.mg_of X G a33, k33, F33, B33, PySem.W.mg_of X G a34, k34, F34, B34, PySem.W.mg_of X G a35, k35, F35, B35, PySem.W.mg_of X G a36, k36, F36, B36, PySem.W.mg_of X G a37, k37, F37, B37, PySem.W.mg_of X G a38, k38, F38, B38, PySem.W.mg_of X G a39, k39, F39, B39, PySem.W.mg_of X G a40, k40, F40, B40, PySem.W.mg_of X G a41, k41, F41, B41, le_judged, le_law, lne_judged_law, PySem.W.mg_of X G v_MOST_LENGTHS, PySem.W.mg_none_of X G z_bool, PySem.W.mg_none_of X G z_enumerate, PySem.W.mg_none_of X G z_int, PySem.W.mg_none_of X G z_isinstance, PySem.W.mg_none_of X G z_len, PySem.W.mg_none_of X G z_list, PySem.W.mg_none_of X G z_range, PySem.W.mg_none_of X G z_repr, PySem.W.mg_none_of X G z_sorted, PySem.W.mg_none_of X G z_str, PySem.W.mg_none_of X G z_sum, PySem.W.mg_none_of X G z_tuple, PySem.W.mg_none_of X G z_zip, exC_mk X G aX_InvalidKeys xL_InvalidKeys sx_InvalidKeys gx_InvalidKeys ggx_InvalidKeys nx_InvalidKeys ii_InvalidKeys tx_InvalidKeys kx_InvalidKeys ex_InvalidKeys tyx_InvalidKeys hx_InvalidKeys icx_InvalidKeys scx_InvalidKeys, exC_mk X G aX_InvalidQuestion xL_InvalidQuestion sx_InvalidQuestion gx_InvalidQuestion ggx_InvalidQuestion nx_InvalidQuestion ii_InvalidQuestion tx_InvalidQuestion kx_InvalidQuestion ex_InvalidQuestion tyx_InvalidQuestion hx_InvalidQuestion icx_InvalidQuestion scx_InvalidQuestion, exC_mk X G aX_InvalidNumber xL_InvalidNumber sx_InvalidNumber gx_InvalidNumber ggx_InvalidNumber nx_InvalidNumber ii_InvalidNumber tx_InvalidNumber kx_InvalidNumber ex_InvalidNumber tyx_InvalidNumber hx_InvalidNumber icx_InvalidNumber scx_InvalidNumber, exC_mk X G aX_InvalidAnswers xL_InvalidAnswers sx_InvalidAnswers gx_InvalidAnswers ggx_InvalidAnswers nx_InvalidAnswers ii_InvalidAnswers tx_InvalidAnswers kx_InvalidAnswers ex_InvalidAnswers tyx_InvalidAnswers hx_InvalidAnswers icx_InvalidAnswers scx_InvalidAnswers, exC_mk X G aX_InvalidOrder xL_InvalidOrder sx_InvalidOrder gx_InvalidOrder ggx_InvalidOrder nx_InvalidOrder ii_InvalidOrder tx_InvalidOrder kx_InvalidOrder ex_InvalidOrder tyx_InvalidOrder hx_InvalidOrder icx_InvalidOrder scx_InvalidOrder, exC_mk X G aX_InvalidLengths xL_InvalidLengths sx_InvalidLengths gx_InvalidLengths ggx_InvalidLengths nx_InvalidLengths ii_InvalidLengths tx_InvalidLengths kx_InvalidLengths ex_InvalidLengths tyx_InvalidLengths hx_InvalidLengths icx_InvalidLengths scx_InvalidLengths, exC_mk X G aX_TooLarge xL_TooLarge sx_TooLarge gx_TooLarge ggx_TooLarge nx_TooLarge ii_TooLarge tx_TooLarge kx_TooLarge ex_TooLarge tyx_TooLarge hx_TooLarge icx_TooLarge scx_TooLarge, exC_mk X G aX_Mismatch xL_Mismatch sx_Mismatch gx_Mismatch ggx_Mismatch nx_Mismatch ii_Mismatch tx_Mismatch kx_Mismatch ex_Mismatch tyx_Mismatch hx_Mismatch icx_Mismatch scx_Mismatch, ⟨PySem.W.mg_of X G aX_SortError, r1x_SortError, r2x_SortError, vix_SortError⟩, exS_mk ex_InvalidKeys tyx_InvalidKeys icx_InvalidKeys scx_InvalidKeys scx_InvalidKeys, exS_mk ex_InvalidQuestion tyx_InvalidQuestion icx_InvalidQuestion scx_InvalidQuestion su_InvalidKeys_InvalidQuestion, exS_mk ex_InvalidNumber tyx_InvalidNumber icx_InvalidNumber scx_InvalidNumber su_InvalidKeys_InvalidNumber, exS_mk ex_InvalidAnswers tyx_InvalidAnswers icx_InvalidAnswers scx_InvalidAnswers su_InvalidKeys_InvalidAnswers, exS_mk ex_InvalidOrder tyx_InvalidOrder icx_InvalidOrder scx_InvalidOrder su_InvalidKeys_InvalidOrder, exS_mk ex_InvalidLengths tyx_InvalidLengths icx_InvalidLengths scx_InvalidLengths su_InvalidKeys_InvalidLengths, exS_mk ex_TooLarge tyx_TooLarge icx_TooLarge scx_TooLarge su_InvalidKeys_TooLarge, exS_mk ex_Mismatch tyx_Mismatch icx_Mismatch scx_Mismatch su_InvalidKeys_Mismatch, exS_mk ex_SortError tyx_SortError icx_SortError scx_SortError su_InvalidKeys_SortError, exS_mk ex_InvalidKeys tyx_InvalidKeys icx_InvalidKeys scx_InvalidKeys su_InvalidQuestion_InvalidKeys, exS_mk ex_InvalidQuestion tyx_InvalidQuestion icx_InvalidQuestion scx_InvalidQuestion scx_InvalidQuestion, exS_mk ex_InvalidNumber tyx_InvalidNumber icx_InvalidNumber scx_InvalidNumber su_InvalidQuestion_InvalidNumber, exS_mk ex_InvalidAnswers tyx_InvalidAnswers icx_InvalidAnswers scx_InvalidAnswers su_InvalidQuestion_InvalidAnswers, exS_mk ex_InvalidOrder tyx_InvalidOrder icx_InvalidOrder scx_InvalidOrder su_InvalidQuestion_InvalidOrder, exS_mk ex_InvalidLengths tyx_InvalidLengths icx_InvalidLengths scx_InvalidLengths su_InvalidQuestion_InvalidLengths, exS_mk ex_TooLarge tyx_TooLarge icx_TooLarge scx_TooLarge su_InvalidQuestion_TooLarge, exS_mk ex_Mismatch tyx_Mismatch icx_Mismatch scx_Mismatch su_InvalidQuestion_Mismatch, exS_mk ex_SortError tyx_SortError icx_SortError scx_SortError su_InvalidQuestion_SortError, exS_mk ex_InvalidKeys tyx_InvalidKeys icx_InvalidKeys scx_InvalidKeys su_InvalidNumber_InvalidKeys, exS_mk ex_InvalidQuestion tyx_InvalidQuestion icx_InvalidQuestion scx_InvalidQuestion su_InvalidNumber_InvalidQuestion, exS_mk ex_InvalidNumber tyx_InvalidNumber icx_InvalidNumber scx_InvalidNumber scx_InvalidNumber, exS_mk ex_InvalidAnswers tyx_InvalidAnswers icx_InvalidAnswers scx_InvalidAnswers su_InvalidNumber_InvalidAnswers, exS_mk ex_InvalidOrder tyx_InvalidOrder icx_InvalidOrder scx_InvalidOrder su_InvalidNumber_InvalidOrder, exS_mk ex_InvalidLengths tyx_InvalidLengths icx_InvalidLengths scx_InvalidLengths su_InvalidNumber_InvalidLengths, exS_mk ex_TooLarge tyx_TooLarge icx_TooLarge scx_TooLarge su_InvalidNumber_TooLarge, exS_mk ex_Mismatch tyx_Mismatch icx_Mismatch scx_Mismatch su_InvalidNumber_Mismatch, exS_mk ex_SortError tyx_SortError icx_SortError scx_SortError su_InvalidNumber_SortError, exS_mk ex_InvalidKeys tyx_InvalidKeys icx_InvalidKeys scx_InvalidKeys su_InvalidAnswers_InvalidKeys, exS_mk ex_InvalidQuestion tyx_InvalidQuestion icx_InvalidQuestion scx_InvalidQuestion su_InvalidAnswers_InvalidQuestion, exS_mk ex_InvalidNumber tyx_InvalidNumber icx_InvalidNumber scx_InvalidNumber su_InvalidAnswers_InvalidNumber, exS_mk ex_InvalidAnswers tyx_InvalidAnswers icx_InvalidAnswers scx_InvalidAnswers scx_InvalidAnswers, exS_mk ex_InvalidOrder tyx_InvalidOrder icx_InvalidOrder scx_InvalidOrder su_InvalidAnswers_InvalidOrder, exS_mk ex_InvalidLengths tyx_InvalidLengths icx_InvalidLengths scx_InvalidLengths su_InvalidAnswers_InvalidLengths, exS_mk ex_TooLarge tyx_TooLarge icx_TooLarge scx_TooLarge su_InvalidAnswers_TooLarge, exS_mk ex_Mismatch tyx_Mismatch icx_Mismatch scx_Mismatch su_InvalidAnswers_Mismatch, exS_mk ex_SortError tyx_SortError icx_SortError scx_SortError su_InvalidAnswers_SortError, exS_mk ex_InvalidKeys tyx_InvalidKeys icx_InvalidKeys scx_InvalidKeys su_InvalidOrder_InvalidKeys, exS_mk ex_InvalidQuestion tyx_InvalidQuestion icx_InvalidQuestion scx_InvalidQuestion su_InvalidOrder_InvalidQuestion, exS_mk ex_InvalidNumber tyx_InvalidNumber icx_InvalidNumber scx_InvalidNumber su_InvalidOrder_InvalidNumber, exS_mk ex_InvalidAnswers tyx_InvalidAnswers icx_InvalidAnswers scx_InvalidAnswers su_InvalidOrder_InvalidAnswers, exS_mk ex_InvalidOrder tyx_InvalidOrder icx_InvalidOrder scx_InvalidOrder scx_InvalidOrder, exS_mk ex_InvalidLengths tyx_InvalidLengths icx_InvalidLengths scx_InvalidLengths su_InvalidOrder_InvalidLengths, exS_mk ex_TooLarge tyx_TooLarge icx_TooLarge scx_TooLarge su_InvalidOrder_TooLarge, exS_mk ex_Mismatch tyx_Mismatch icx_Mismatch scx_Mismatch su_InvalidOrder_Mismatch, exS_mk ex_SortError tyx_SortError icx_SortError scx_SortError su_InvalidOrder_SortError, exS_mk ex_InvalidKeys tyx_InvalidKeys icx_InvalidKeys scx_InvalidKeys su_InvalidLengths_InvalidKeys, exS_mk ex_InvalidQuestion tyx_InvalidQuestion icx_InvalidQuestion scx_InvalidQuestion su_InvalidLengths_InvalidQuestion, exS_mk ex_InvalidNumber tyx_InvalidNumber icx_InvalidNumber scx_InvalidNumber su_InvalidLengths_InvalidNumber, exS_mk ex_InvalidAnswers tyx_InvalidAnswers icx_InvalidAnswers scx_InvalidAnswers su_InvalidLengths_InvalidAnswers, exS_mk ex_InvalidOrder tyx_InvalidOrder icx_InvalidOrder scx_InvalidOrder su_InvalidLengths_InvalidOrder, exS_mk ex_InvalidLengths tyx_InvalidLengths icx_InvalidLengths scx_InvalidLengths scx_InvalidLengths, exS_mk ex_TooLarge tyx_TooLarge icx_TooLarge scx_TooLarge su_InvalidLengths_TooLarge, exS_mk ex_Mismatch tyx_Mismatch icx_Mismatch scx_Mismatch su_InvalidLengths_Mismatch, exS_mk ex_SortError tyx_SortError icx_SortError scx_SortError su_InvalidLengths_SortError, exS_mk ex_InvalidKeys tyx_InvalidKeys icx_InvalidKeys scx_InvalidKeys su_TooLarge_InvalidKeys, exS_mk ex_InvalidQuestion tyx_InvalidQuestion icx_InvalidQuestion scx_InvalidQuestion su_TooLarge_InvalidQuestion, exS_mk ex_InvalidNumber tyx_InvalidNumber icx_InvalidNumber scx_InvalidNumber su_TooLarge_InvalidNumber, exS_mk ex_InvalidAnswers tyx_InvalidAnswers icx_InvalidAnswers scx_InvalidAnswers su_TooLarge_InvalidAnswers, exS_mk ex_InvalidOrder tyx_InvalidOrder icx_InvalidOrder scx_InvalidOrder su_TooLarge_InvalidOrder, exS_mk ex_InvalidLengths tyx_InvalidLengths icx_InvalidLengths scx_InvalidLengths su_TooLarge_InvalidLengths, exS_mk ex_TooLarge tyx_TooLarge icx_TooLarge scx_TooLarge scx_TooLarge, exS_mk ex_Mismatch tyx_Mismatch icx_Mismatch scx_Mismatch su_TooLarge_Mismatch, exS_mk ex_SortError tyx_SortError icx_SortError scx_SortError su_TooLarge_SortError, exS_mk ex_InvalidKeys tyx_InvalidKeys icx_InvalidKeys scx_InvalidKeys su_Mismatch_InvalidKeys, exS_mk ex_InvalidQuestion tyx_InvalidQuestion icx_InvalidQuestion scx_InvalidQuestion su_Mismatch_InvalidQuestion, exS_mk ex_InvalidNumber tyx_InvalidNumber icx_InvalidNumber scx_InvalidNumber su_Mismatch_InvalidNumber, exS_mk ex_InvalidAnswers tyx_InvalidAnswers icx_InvalidAnswers scx_InvalidAnswers su_Mismatch_InvalidAnswers, exS_mk ex_InvalidOrder tyx_InvalidOrder icx_InvalidOrder scx_InvalidOrder su_Mismatch_InvalidOrder, exS_mk ex_InvalidLengths tyx_InvalidLengths icx_InvalidLengths scx_InvalidLengths su_Mismatch_InvalidLengths, exS_mk ex_TooLarge tyx_TooLarge icx_TooLarge scx_TooLarge su_Mismatch_TooLarge, exS_mk ex_Mismatch tyx_Mismatch icx_Mismatch scx_Mismatch scx_Mismatch, exS_mk ex_SortError tyx_SortError icx_SortError scx_SortError su_Mismatch_SortError, ⟨gx_InvalidKeys, ggx_InvalidKeys, ex_InvalidKeys, hx_InvalidKeys, dcx_InvalidKeys, dnx, dtx, dmx_InvalidKeys⟩, ⟨gx_InvalidQuestion, ggx_InvalidQuestion, ex_InvalidQuestion, hx_InvalidQuestion, dcx_InvalidQuestion, dnx, dtx, dmx_InvalidQuestion⟩, ⟨gx_InvalidNumber, ggx_InvalidNumber, ex_InvalidNumber, hx_InvalidNumber, dcx_InvalidNumber, dnx, dtx, dmx_InvalidNumber⟩, ⟨gx_InvalidAnswers, ggx_InvalidAnswers, ex_InvalidAnswers, hx_InvalidAnswers, dcx_InvalidAnswers, dnx, dtx, dmx_InvalidAnswers⟩, ⟨gx_InvalidOrder, ggx_InvalidOrder, ex_InvalidOrder, hx_InvalidOrder, dcx_InvalidOrder, dnx, dtx, dmx_InvalidOrder⟩, ⟨gx_InvalidLengths, ggx_InvalidLengths, ex_InvalidLengths, hx_InvalidLengths, dcx_InvalidLengths, dnx, dtx, dmx_InvalidLengths⟩, ⟨gx_TooLarge, ggx_TooLarge, ex_TooLarge, hx_TooLarge, dcx_TooLarge, dnx, dtx, dmx_TooLarge⟩, ⟨gx_Mismatch, ggx_Mismatch, ex_Mismatch, hx_Mismatch, dcx_Mismatch, dnx, dtx, dmx_Mismatch⟩, ⟨pg_PieceStack, hd_PieceStack, po_PieceStack, sa_PieceStack⟩, PySem.W.mg_of X G aC_PieceStack, ⟨mk_PieceStack, a12, i12, kc_PieceStack⟩, n_whole, n_piled⟩
  exact ⟨_, [(lc_judged, lp_judged), (lc_law, lp_law)], spLaw K [(lp_judged, lq_judged), (lp_law, lq_law)], (fac tb_judged (fac tb_law fan)), (fac ln_judged (fac ln_law fan)), (fac (PySem.W.codeHd_of_K X lh_judged) (fac (PySem.W.codeHd_of_K X lh_law) fan)), fun s v => .of_eq rfl, fun H a ns hl _ ht hS => ⟨a, ns, rfl, hS, hl, (fac (LamX.TabS.nil (ht _ (List.Mem.head _))) (fac (LamX.TabS.nil (ht _ (List.Mem.tail _ (List.Mem.head _)))) fan)), fun _ => rfl⟩, fun base _ _ TB => by rw [e]; exact ok_law T (TB _ (List.Mem.head _)) (TB _ (List.Mem.tail _ (List.Mem.head _)))⟩
end K38
open PySem PySem.W PyProof.Rows
set_option maxHeartbeats 0 in
theorem PySem.Challenge.cw_askedorder_k38_ways_judged_holds : PySem.Challenge.rw_askedorder_k38_ways_judged.Holds := by
  w_on; o_law; k_head; (case hw => w_witness2)
  k_fill
  refine LamX.walk_ofTs (l := PySem.Challenge.rw_askedorder_k38_ways_judged) (n := 63) (k := 14) (x := "script") (CX := fun _ => L2.CX0) rfl (by decide) rfl ⟨rfl, by decide, by decide⟩ (fun w h Y => PySem.W.km_in_of Y) ?F (fun _ _ _ _ _ h => h)
  case F =>
    intro w mg fa h Y KX G hmg
    have hP := PySem.W.km_tabs_of Y
    refine' K38.all_mk KX G hmg (hP _ (List.Mem.head _)) (hP _ (List.Mem.tail _ (List.Mem.head _))) ?l0 ?c0 ?k0 ?l1 ?c1 ?k1 ?l2 ?c2 ?k2 ?l3 ?c3 ?k3 ?l4 ?c4 ?k4 ?l5 ?c5 ?k5 ?l6 ?c6 ?k6 ?l7 ?c7 ?k7 ?a8 ?l8 ?c8 ?k8 ?a9 ?l9 ?c9 ?k9 ?a10 ?l10 ?c10 ?k10 ?t10 ?a11 ?l11 ?c11 ?k11 ?a12 ?i12 ?l12 ?c12 ?k12 ?a13 ?i13 ?l13 ?c13 ?k13 ?a14 ?i14 ?l14 ?c14 ?k14 ?a15 ?i15 ?l15 ?c15 ?k15 ?a16 ?i16 ?l16 ?c16 ?k16 ?a17 ?i17 ?l17 ?c17 ?k17 ?a18 ?l18 ?c18 ?k18 ?a19 ?l19 ?c19 ?k19 ?a20 ?l20 ?c20 ?k20 ?a21 ?l21 ?c21 ?k21 ?a22 ?l22 ?c22 ?k22 ?a23 ?l23 ?c23 ?k23 ?a24 ?l24 ?c24 ?k24 ?a25 ?l25 ?c25 ?k25 ?a26 ?l26 ?c26 ?k26 ?a27 ?l27 ?c27 ?k27 ?a28 ?l28 ?c28 ?k28 ?a29 ?l29 ?c29 ?k29 ?a30 ?l30 ?c30 ?k30 ?a31 ?l31 ?c31 ?k31 ?a32 ?l32 ?c32 ?k32 ?a33 ?l33 ?c33 ?k33 ?a34 ?l34 ?c34 ?k34 ?a35 ?l35 ?c35 ?k35 ?a36 ?l36 ?c36 ?k36 ?a37 ?l37 ?c37 ?k37 ?a38 ?l38 ?c38 ?k38 ?a39 ?l39 ?c39 ?k39 ?a40 ?l40 ?c40 ?k40 ?a41 ?l41 ?c41 ?k41 ?v_MOST_LENGTHS ?z_bool ?z_enumerate ?z_int ?z_isinstance ?z_len ?z_list ?z_range ?z_repr ?z_sorted ?z_str ?z_sum ?z_tuple ?z_zip ?aC_PieceStack ?pg_PieceStack ?hd_PieceStack ?po_PieceStack ?sa_PieceStack ?mk_PieceStack ?kc_PieceStack ?n_whole ?n_piled ?aX_InvalidKeys ?ii_InvalidKeys ?xL_InvalidKeys ?sx_InvalidKeys ?gx_InvalidKeys ?ggx_InvalidKeys ?nx_InvalidKeys ?tx_InvalidKeys ?kx_InvalidKeys ?ex_InvalidKeys ?tyx_InvalidKeys ?hx_InvalidKeys ?icx_InvalidKeys ?scx_InvalidKeys ?aX_InvalidQuestion ?ii_InvalidQuestion ?xL_InvalidQuestion ?sx_InvalidQuestion ?gx_InvalidQuestion ?ggx_InvalidQuestion ?nx_InvalidQuestion ?tx_InvalidQuestion ?kx_InvalidQuestion ?ex_InvalidQuestion ?tyx_InvalidQuestion ?hx_InvalidQuestion ?icx_InvalidQuestion ?scx_InvalidQuestion ?aX_InvalidNumber ?ii_InvalidNumber ?xL_InvalidNumber ?sx_InvalidNumber ?gx_InvalidNumber ?ggx_InvalidNumber ?nx_InvalidNumber ?tx_InvalidNumber ?kx_InvalidNumber ?ex_InvalidNumber ?tyx_InvalidNumber ?hx_InvalidNumber ?icx_InvalidNumber ?scx_InvalidNumber ?aX_InvalidAnswers ?ii_InvalidAnswers ?xL_InvalidAnswers ?sx_InvalidAnswers ?gx_InvalidAnswers ?ggx_InvalidAnswers ?nx_InvalidAnswers ?tx_InvalidAnswers ?kx_InvalidAnswers ?ex_InvalidAnswers ?tyx_InvalidAnswers ?hx_InvalidAnswers ?icx_InvalidAnswers ?scx_InvalidAnswers ?aX_InvalidOrder ?ii_InvalidOrder ?xL_InvalidOrder ?sx_InvalidOrder ?gx_InvalidOrder ?ggx_InvalidOrder ?nx_InvalidOrder ?tx_InvalidOrder ?kx_InvalidOrder ?ex_InvalidOrder ?tyx_InvalidOrder ?hx_InvalidOrder ?icx_InvalidOrder ?scx_InvalidOrder ?aX_InvalidLengths ?ii_InvalidLengths ?xL_InvalidLengths ?sx_InvalidLengths ?gx_InvalidLengths ?ggx_InvalidLengths ?nx_InvalidLengths ?tx_InvalidLengths ?kx_InvalidLengths ?ex_InvalidLengths ?tyx_InvalidLengths ?hx_InvalidLengths ?icx_InvalidLengths ?scx_InvalidLengths ?aX_TooLarge ?ii_TooLarge ?xL_TooLarge ?sx_TooLarge ?gx_TooLarge ?ggx_TooLarge ?nx_TooLarge ?tx_TooLarge ?kx_TooLarge ?ex_TooLarge ?tyx_TooLarge ?hx_TooLarge ?icx_TooLarge ?scx_TooLarge ?aX_Mismatch ?ii_Mismatch ?xL_Mismatch ?sx_Mismatch ?gx_Mismatch ?ggx_Mismatch ?nx_Mismatch ?tx_Mismatch ?kx_Mismatch ?ex_Mismatch ?tyx_Mismatch ?hx_Mismatch ?icx_Mismatch ?scx_Mismatch ?aX_SortError ?r1x_SortError ?r2x_SortError ?vix_SortError ?ex_SortError ?tyx_SortError ?icx_SortError ?scx_SortError ?su_InvalidKeys_InvalidQuestion ?su_InvalidKeys_InvalidNumber ?su_InvalidKeys_InvalidAnswers ?su_InvalidKeys_InvalidOrder ?su_InvalidKeys_InvalidLengths ?su_InvalidKeys_TooLarge ?su_InvalidKeys_Mismatch ?su_InvalidKeys_SortError ?su_InvalidQuestion_InvalidKeys ?su_InvalidQuestion_InvalidNumber ?su_InvalidQuestion_InvalidAnswers ?su_InvalidQuestion_InvalidOrder ?su_InvalidQuestion_InvalidLengths ?su_InvalidQuestion_TooLarge ?su_InvalidQuestion_Mismatch ?su_InvalidQuestion_SortError ?su_InvalidNumber_InvalidKeys ?su_InvalidNumber_InvalidQuestion ?su_InvalidNumber_InvalidAnswers ?su_InvalidNumber_InvalidOrder ?su_InvalidNumber_InvalidLengths ?su_InvalidNumber_TooLarge ?su_InvalidNumber_Mismatch ?su_InvalidNumber_SortError ?su_InvalidAnswers_InvalidKeys ?su_InvalidAnswers_InvalidQuestion ?su_InvalidAnswers_InvalidNumber ?su_InvalidAnswers_InvalidOrder ?su_InvalidAnswers_InvalidLengths ?su_InvalidAnswers_TooLarge ?su_InvalidAnswers_Mismatch ?su_InvalidAnswers_SortError ?su_InvalidOrder_InvalidKeys ?su_InvalidOrder_InvalidQuestion ?su_InvalidOrder_InvalidNumber ?su_InvalidOrder_InvalidAnswers ?su_InvalidOrder_InvalidLengths ?su_InvalidOrder_TooLarge ?su_InvalidOrder_Mismatch ?su_InvalidOrder_SortError ?su_InvalidLengths_InvalidKeys ?su_InvalidLengths_InvalidQuestion ?su_InvalidLengths_InvalidNumber ?su_InvalidLengths_InvalidAnswers ?su_InvalidLengths_InvalidOrder ?su_InvalidLengths_TooLarge ?su_InvalidLengths_Mismatch ?su_InvalidLengths_SortError ?su_TooLarge_InvalidKeys ?su_TooLarge_InvalidQuestion ?su_TooLarge_InvalidNumber ?su_TooLarge_InvalidAnswers ?su_TooLarge_InvalidOrder ?su_TooLarge_InvalidLengths ?su_TooLarge_Mismatch ?su_TooLarge_SortError ?su_Mismatch_InvalidKeys ?su_Mismatch_InvalidQuestion ?su_Mismatch_InvalidNumber ?su_Mismatch_InvalidAnswers ?su_Mismatch_InvalidOrder ?su_Mismatch_InvalidLengths ?su_Mismatch_TooLarge ?su_Mismatch_SortError ?dcx_InvalidKeys ?dmx_InvalidKeys ?dcx_InvalidQuestion ?dmx_InvalidQuestion ?dcx_InvalidNumber ?dmx_InvalidNumber ?dcx_InvalidAnswers ?dmx_InvalidAnswers ?dcx_InvalidOrder ?dmx_InvalidOrder ?dcx_InvalidLengths ?dmx_InvalidLengths ?dcx_TooLarge ?dmx_TooLarge ?dcx_Mismatch ?dmx_Mismatch ?dnx ?dtx ?le_judged ?lh_judged ?ln_judged ?le_law ?lh_law ?ln_law ?lne_judged_law
    (case aC_PieceStack => k_is); (case aX_InvalidKeys => k_is); (case aX_InvalidQuestion => k_is); (case aX_InvalidNumber => k_is); (case aX_InvalidAnswers => k_is); (case aX_InvalidOrder => k_is)
    (case aX_InvalidLengths => k_is); (case aX_TooLarge => k_is); (case aX_Mismatch => k_is); (case aX_SortError => k_is); (case ii_InvalidKeys => k_is); (case ii_InvalidQuestion => k_is)
    (case ii_InvalidNumber => k_is); (case ii_InvalidAnswers => k_is); (case ii_InvalidOrder => k_is); (case ii_InvalidLengths => k_is); (case ii_TooLarge => k_is); (case ii_Mismatch => k_is)
    (case l0 => k_is); (case c0 => k_is); (case k0 => k_is); (case l1 => k_is); (case c1 => k_is); (case k1 => k_is)
    (case l2 => k_is); (case c2 => k_is); (case k2 => k_is); (case l3 => k_is); (case c3 => k_is); (case k3 => k_is)
    (case l4 => k_is); (case c4 => k_is); (case k4 => k_is); (case l5 => k_is); (case c5 => k_is); (case k5 => k_is)
    (case l6 => k_is); (case c6 => k_is); (case k6 => k_is); (case l7 => k_is); (case c7 => k_is); (case k7 => k_is)
    (case a8 => k_is); (case l8 => k_is); (case c8 => k_is); (case k8 => k_is); (case a9 => k_is); (case l9 => k_is)
    (case c9 => k_is); (case k9 => k_is); (case a10 => k_is); (case l10 => k_is); (case c10 => k_is); (case k10 => k_is)
    (case t10 => k_is); (case a11 => k_is); (case l11 => k_is); (case c11 => k_is); (case k11 => k_is); (case a12 => k_is)
    (case i12 => k_is); (case l12 => k_is); (case c12 => k_is); (case k12 => k_is); (case a13 => k_is); (case i13 => k_is)
    (case l13 => k_is); (case c13 => k_is); (case k13 => k_is); (case a14 => k_is); (case i14 => k_is); (case l14 => k_is)
    (case c14 => k_is); (case k14 => k_is); (case a15 => k_is); (case i15 => k_is); (case l15 => k_is); (case c15 => k_is)
    (case k15 => k_is); (case a16 => k_is); (case i16 => k_is); (case l16 => k_is); (case c16 => k_is); (case k16 => k_is)
    (case a17 => k_is); (case i17 => k_is); (case l17 => k_is); (case c17 => k_is); (case k17 => k_is); (case a18 => k_is)
    (case l18 => k_is); (case c18 => k_is); (case k18 => k_is); (case a19 => k_is); (case l19 => k_is); (case c19 => k_is)
    (case k19 => k_is); (case a20 => k_is); (case l20 => k_is); (case c20 => k_is); (case k20 => k_is); (case a21 => k_is)
    (case l21 => k_is); (case c21 => k_is); (case k21 => k_is); (case a22 => k_is); (case l22 => k_is); (case c22 => k_is)
    (case k22 => k_is); (case a23 => k_is); (case l23 => k_is); (case c23 => k_is); (case k23 => k_is); (case a24 => k_is)
    (case l24 => k_is); (case c24 => k_is); (case k24 => k_is); (case a25 => k_is); (case l25 => k_is); (case c25 => k_is)
    (case k25 => k_is); (case a26 => k_is); (case l26 => k_is); (case c26 => k_is); (case k26 => k_is); (case a27 => k_is)
    (case l27 => k_is); (case c27 => k_is); (case k27 => k_is); (case a28 => k_is); (case l28 => k_is); (case c28 => k_is)
    (case k28 => k_is); (case a29 => k_is); (case l29 => k_is); (case c29 => k_is); (case k29 => k_is); (case a30 => k_is)
    (case l30 => k_is); (case c30 => k_is); (case k30 => k_is); (case a31 => k_is); (case l31 => k_is); (case c31 => k_is)
    (case k31 => k_is); (case a32 => k_is); (case l32 => k_is); (case c32 => k_is); (case k32 => k_is); (case a33 => k_is)
    (case l33 => k_is); (case c33 => k_is); (case k33 => k_is); (case a34 => k_is); (case l34 => k_is); (case c34 => k_is)
    (case k34 => k_is); (case a35 => k_is); (case l35 => k_is); (case c35 => k_is); (case k35 => k_is); (case a36 => k_is)
    (case l36 => k_is); (case c36 => k_is); (case k36 => k_is); (case a37 => k_is); (case l37 => k_is); (case c37 => k_is)
    (case k37 => k_is); (case a38 => k_is); (case l38 => k_is); (case c38 => k_is); (case k38 => k_is); (case a39 => k_is)
    (case l39 => k_is); (case c39 => k_is); (case k39 => k_is); (case a40 => k_is); (case l40 => k_is); (case c40 => k_is)
    (case k40 => k_is); (case a41 => k_is); (case l41 => k_is); (case c41 => k_is); (case k41 => k_is); (case v_MOST_LENGTHS => k_is)
    (case z_bool => k_is); (case z_enumerate => k_is); (case z_int => k_is); (case z_isinstance => k_is); (case z_len => k_is); (case z_list => k_is)
    (case z_range => k_is); (case z_repr => k_is); (case z_sorted => k_is); (case z_str => k_is); (case z_sum => k_is); (case z_tuple => k_is)
    (case z_zip => k_is); (case pg_PieceStack => k_is); (case hd_PieceStack => k_is); (case po_PieceStack => k_is); (case sa_PieceStack => k_is); (case mk_PieceStack => k_is)
    (case kc_PieceStack => k_is); (case n_whole => k_is); (case n_piled => k_is); (case xL_InvalidKeys => k_is); (case sx_InvalidKeys => k_is); (case gx_InvalidKeys => k_is)
    (case ggx_InvalidKeys => k_is); (case nx_InvalidKeys => k_is); (case tx_InvalidKeys => k_is); (case kx_InvalidKeys => k_is); (case ex_InvalidKeys => k_is); (case tyx_InvalidKeys => k_is)
    (case hx_InvalidKeys => k_is); (case icx_InvalidKeys => k_is); (case scx_InvalidKeys => k_is); (case xL_InvalidQuestion => k_is); (case sx_InvalidQuestion => k_is); (case gx_InvalidQuestion => k_is)
    (case ggx_InvalidQuestion => k_is); (case nx_InvalidQuestion => k_is); (case tx_InvalidQuestion => k_is); (case kx_InvalidQuestion => k_is); (case ex_InvalidQuestion => k_is); (case tyx_InvalidQuestion => k_is)
    (case hx_InvalidQuestion => k_is); (case icx_InvalidQuestion => k_is); (case scx_InvalidQuestion => k_is); (case xL_InvalidNumber => k_is); (case sx_InvalidNumber => k_is); (case gx_InvalidNumber => k_is)
    (case ggx_InvalidNumber => k_is); (case nx_InvalidNumber => k_is); (case tx_InvalidNumber => k_is); (case kx_InvalidNumber => k_is); (case ex_InvalidNumber => k_is); (case tyx_InvalidNumber => k_is)
    (case hx_InvalidNumber => k_is); (case icx_InvalidNumber => k_is); (case scx_InvalidNumber => k_is); (case xL_InvalidAnswers => k_is); (case sx_InvalidAnswers => k_is); (case gx_InvalidAnswers => k_is)
    (case ggx_InvalidAnswers => k_is); (case nx_InvalidAnswers => k_is); (case tx_InvalidAnswers => k_is); (case kx_InvalidAnswers => k_is); (case ex_InvalidAnswers => k_is); (case tyx_InvalidAnswers => k_is)
    (case hx_InvalidAnswers => k_is); (case icx_InvalidAnswers => k_is); (case scx_InvalidAnswers => k_is); (case xL_InvalidOrder => k_is); (case sx_InvalidOrder => k_is); (case gx_InvalidOrder => k_is)
    (case ggx_InvalidOrder => k_is); (case nx_InvalidOrder => k_is); (case tx_InvalidOrder => k_is); (case kx_InvalidOrder => k_is); (case ex_InvalidOrder => k_is); (case tyx_InvalidOrder => k_is)
    (case hx_InvalidOrder => k_is); (case icx_InvalidOrder => k_is); (case scx_InvalidOrder => k_is); (case xL_InvalidLengths => k_is); (case sx_InvalidLengths => k_is); (case gx_InvalidLengths => k_is)
    (case ggx_InvalidLengths => k_is); (case nx_InvalidLengths => k_is); (case tx_InvalidLengths => k_is); (case kx_InvalidLengths => k_is); (case ex_InvalidLengths => k_is); (case tyx_InvalidLengths => k_is)
    (case hx_InvalidLengths => k_is); (case icx_InvalidLengths => k_is); (case scx_InvalidLengths => k_is); (case xL_TooLarge => k_is); (case sx_TooLarge => k_is); (case gx_TooLarge => k_is)
    (case ggx_TooLarge => k_is); (case nx_TooLarge => k_is); (case tx_TooLarge => k_is); (case kx_TooLarge => k_is); (case ex_TooLarge => k_is); (case tyx_TooLarge => k_is)
    (case hx_TooLarge => k_is); (case icx_TooLarge => k_is); (case scx_TooLarge => k_is); (case xL_Mismatch => k_is); (case sx_Mismatch => k_is); (case gx_Mismatch => k_is)
    (case ggx_Mismatch => k_is); (case nx_Mismatch => k_is); (case tx_Mismatch => k_is); (case kx_Mismatch => k_is); (case ex_Mismatch => k_is); (case tyx_Mismatch => k_is)
    (case hx_Mismatch => k_is); (case icx_Mismatch => k_is); (case scx_Mismatch => k_is); (case r1x_SortError => k_is); (case r2x_SortError => k_is); (case vix_SortError => k_is)
    (case ex_SortError => k_is); (case tyx_SortError => k_is); (case icx_SortError => k_is); (case scx_SortError => k_is); (case su_InvalidKeys_InvalidQuestion => k_is); (case su_InvalidKeys_InvalidNumber => k_is)
    (case su_InvalidKeys_InvalidAnswers => k_is); (case su_InvalidKeys_InvalidOrder => k_is); (case su_InvalidKeys_InvalidLengths => k_is); (case su_InvalidKeys_TooLarge => k_is); (case su_InvalidKeys_Mismatch => k_is); (case su_InvalidKeys_SortError => k_is)
    (case su_InvalidQuestion_InvalidKeys => k_is); (case su_InvalidQuestion_InvalidNumber => k_is); (case su_InvalidQuestion_InvalidAnswers => k_is); (case su_InvalidQuestion_InvalidOrder => k_is); (case su_InvalidQuestion_InvalidLengths => k_is); (case su_InvalidQuestion_TooLarge => k_is)
    (case su_InvalidQuestion_Mismatch => k_is); (case su_InvalidQuestion_SortError => k_is); (case su_InvalidNumber_InvalidKeys => k_is); (case su_InvalidNumber_InvalidQuestion => k_is); (case su_InvalidNumber_InvalidAnswers => k_is); (case su_InvalidNumber_InvalidOrder => k_is)
    (case su_InvalidNumber_InvalidLengths => k_is); (case su_InvalidNumber_TooLarge => k_is); (case su_InvalidNumber_Mismatch => k_is); (case su_InvalidNumber_SortError => k_is); (case su_InvalidAnswers_InvalidKeys => k_is); (case su_InvalidAnswers_InvalidQuestion => k_is)
    (case su_InvalidAnswers_InvalidNumber => k_is); (case su_InvalidAnswers_InvalidOrder => k_is); (case su_InvalidAnswers_InvalidLengths => k_is); (case su_InvalidAnswers_TooLarge => k_is); (case su_InvalidAnswers_Mismatch => k_is); (case su_InvalidAnswers_SortError => k_is)
    (case su_InvalidOrder_InvalidKeys => k_is); (case su_InvalidOrder_InvalidQuestion => k_is); (case su_InvalidOrder_InvalidNumber => k_is); (case su_InvalidOrder_InvalidAnswers => k_is); (case su_InvalidOrder_InvalidLengths => k_is); (case su_InvalidOrder_TooLarge => k_is)
    (case su_InvalidOrder_Mismatch => k_is); (case su_InvalidOrder_SortError => k_is); (case su_InvalidLengths_InvalidKeys => k_is); (case su_InvalidLengths_InvalidQuestion => k_is); (case su_InvalidLengths_InvalidNumber => k_is); (case su_InvalidLengths_InvalidAnswers => k_is)
    (case su_InvalidLengths_InvalidOrder => k_is); (case su_InvalidLengths_TooLarge => k_is); (case su_InvalidLengths_Mismatch => k_is); (case su_InvalidLengths_SortError => k_is); (case su_TooLarge_InvalidKeys => k_is); (case su_TooLarge_InvalidQuestion => k_is)
    (case su_TooLarge_InvalidNumber => k_is); (case su_TooLarge_InvalidAnswers => k_is); (case su_TooLarge_InvalidOrder => k_is); (case su_TooLarge_InvalidLengths => k_is); (case su_TooLarge_Mismatch => k_is); (case su_TooLarge_SortError => k_is)
    (case su_Mismatch_InvalidKeys => k_is); (case su_Mismatch_InvalidQuestion => k_is); (case su_Mismatch_InvalidNumber => k_is); (case su_Mismatch_InvalidAnswers => k_is); (case su_Mismatch_InvalidOrder => k_is); (case su_Mismatch_InvalidLengths => k_is)
    (case su_Mismatch_TooLarge => k_is); (case su_Mismatch_SortError => k_is); (case dcx_InvalidKeys => k_is); (case dmx_InvalidKeys => k_is); (case dcx_InvalidQuestion => k_is); (case dmx_InvalidQuestion => k_is)
    (case dcx_InvalidNumber => k_is); (case dmx_InvalidNumber => k_is); (case dcx_InvalidAnswers => k_is); (case dmx_InvalidAnswers => k_is); (case dcx_InvalidOrder => k_is); (case dmx_InvalidOrder => k_is)
    (case dcx_InvalidLengths => k_is); (case dmx_InvalidLengths => k_is); (case dcx_TooLarge => k_is); (case dmx_TooLarge => k_is); (case dcx_Mismatch => k_is); (case dmx_Mismatch => k_is)
    (case dnx => k_is); (case dtx => k_is); (case le_judged => exact rfl); (case lh_judged => kernel_rfl); (case ln_judged => kernel_rfl); (case le_law => exact rfl)
    (case lh_law => kernel_rfl); (case ln_law => kernel_rfl); (case lne_judged_law => decide)


