import PyProof.Rows.All
import Wide.All
import OpenK.AllK
import Wide.FinOn
import HandS.ForMost
import HandS.ForExc
import HandS.Wide
import HandS.IsInst
import HandS.Style
import HandS.Evl
import HandS.Defaults
import HandS.WordsExc
import KE.GoesEnum
import HandS.SortRule
import HandS.SortInts
import HandS.WordsDict
import HandS.Conv
import HandS.ExcInit
import HandS.ExcField
import HandS.ExcOwn
import HandS.SetFor
import HandS.Strs
import PySem.Challenge.RW_askedorder_k05_whole_orders_and_keys
set_option Elab.async false
set_option linter.all false
set_option maxRecDepth 100000
set_option maxHeartbeats 8000000
namespace L2
open PySem PySem.Spec PyProof.Rows
/-! ### own rules: list + list of lists that are only read, powers, repr of a bool, calls by keywords alone -/
def rCatS (K : PySem.W.Frag) : R2 := fun x y H Q => ∃ l b xs zs, x = .ref l ∧ y = .ref b ∧ SqL K H l xs ∧ SqL K H b zs ∧ xs.length + zs.length ≤ sizeLine ∧ ∀ p, H p = none → Q (.ref p) (upd H p (.lst (xs ++ zs)))
theorem op_catS {X : Cx} : OpR X (binaryOp .Add) (rCatS X.K) := by
  intro pins s σ H x y v u Q I rx ry h
  obtain ⟨l, b, xs, zs, rfl, rfl, hH, hB, hz, q⟩ := h
  cases rx
  cases ry
  obtain ⟨its, r, pl, hl⟩ := I.list hH
  obtain ⟨its2, r2, pl2, hl2⟩ := I.list hB
  have e1 := r.length
  have e2 := r2.length
  obtain ⟨⟨cls, dd, data, sl⟩, n, ho, hc, hdd, hd⟩ := pl
  obtain ⟨⟨cls2, dd2, data2, sl2⟩, n2, ho2, hc2, hdd2, hd2⟩ := pl2
  simp only at hc hd hc2 hd2
  subst hc hd hc2 hd2
  have e : its.toArray ++ its2.toArray = (its ++ its2).toArray := by simp
  refine concat_meets ⟨_, ho, rfl⟩ ⟨_, ho2, rfl⟩ noFill_list_add seq_list_add PySem.F.slot_list_add PySem.F.entry_list_add (PySem.F.args_list_add_2 _ _) (list_addW l b its.toArray its2.toArray n n2 dd dd2 sl sl2 (by simp only [List.size_toArray]; omega)) ⟨ho, ho2, ?_⟩
  rw [e]
  exact ⟨.ref _, _, I.lnew (t' := s.toks) (r.append r2) (by rw [List.length_append]; omega), rfl, q _ I.fresh⟩
def CPowW (i j : Int) : Prop := 0 ≤ j ∧ (Builtin.Int.intBits i : Int) * j ≤ 2 ^ 27
theorem op_powW {X : Cx} : OpR X (binaryOp .Pow) (rI CPowW fun i j => .int (i ^ j.toNat)) := opI fun _ _ _ _ _ _ _ hc q => pow_int hc.1 hc.2 q
theorem call_repr_bool {X : Cx} : CallR X (.builtin "repr") (fun xs H Q => ∃ b, xs = [.bl b] ∧ Q (.str (if b then "True" else "False")) H) := by
  intro pins s σ H xs us Q I r h
  obtain ⟨b, rfl, q⟩ := h
  obtain ⟨u, rfl, r1⟩ := vals1 r
  cases r1
  exact PySem.P.repr_of_bool ⟨.str _, H, I.tok _, ⟨_, rfl⟩, q⟩
/-- f(k = v, ..), keywords alone -/
def tCallK0 (sp : Sp) (gV : List V → List V → List V) (E : XK) (tk : TA) : TE := fun σ H Q => tk σ H fun zs H2 => sp (gV [] zs) H2 Q E
theorem pe_callK0 {X : Cx} {CX : CXT} {k : Nat} {f : Addr} {fd : FuncData} {ps ks : List Str} {sp : Sp} {E : XK} {x : Str} {p pos : Pos} {kws : List Keyword} {tk : TA} {g : List Value → List Value → List Value} {gV : List V → List V → List V}
    (F : FnOk X.prog X.w X.K X.mg X.base CX k f fd ps sp) (hr : Room k X.A) (hg : Gl X x) (hm : X.mg x = some (.ref f)) (hk : PySem.W.keepIn X.K (.ref f) = true) (hb : KBinds X.K fd ps ks g gV) (hx : Passes CX X E)
    (hkw : PK X kws tk) (hall : (backToKw pos (keywordEach kws X.env)).all (·.1.isSome) = true := by rfl) (hks : (backToKw pos (keywordEach kws X.env)).filterMap (·.1) = ks := by rfl)
    (hdb : (x == ("__debug__" : Str)) = false := by decide)
    (hpl : ((backTo pos (starEach [] X.env)).any (·.1) || (backToKw pos (keywordEach kws X.env)).any (·.1.isNone)) = false := by rfl) :
    PE X (.Call (.Name x p) [] kws pos) (tCallK0 sp gV E tk) := by
  refine ⟨fun pins s σ H Q I h => ?_⟩
  refine wpAny_Call_Name_kw (ld_glob I hg hm ?_ hdb)
  refine PySem.W.callWith_KW0 (h₀ := X.base) I.ok.mod.kin hk hall ?_ hpl
  refine thn (hkw.run pos pins s σ H _ I h) fun ws s2 ⟨zs, H2, I2, rz, q2⟩ => ⟨I2.kIn, ?_⟩
  rw [hks]
  exact run_fnk F hr hb hx I2 .nil rz q2
/-! ### heaps: all but one address -/
/-- all that was tracked, but at p, is as it was -/
def SB (p : Addr) (H H' : Hp) : Prop := ∀ b o, b ≠ p → H b = some o → H' b = some o
theorem SB.refl (p : Addr) (H : Hp) : SB p H H := fun _ _ _ h => h
theorem SB.trans {p : Addr} {H H1 H2 : Hp} (a : SB p H H1) (b : SB p H1 H2) : SB p H H2 := fun c o n h => b c o n (a c o n h)
theorem SB.new {p q : Addr} {H : Hp} {o : HO} (h : H q = none) : SB p H (upd H q o) := fun b u n e => by
  rw [upd_ne (ne_of_none e h)]
  exact e
theorem SB.put {p : Addr} {H : Hp} {o : HO} : SB p H (upd H p o) := fun b u n e => by
  rw [upd_ne n]
  exact e
theorem SB.of {p : Addr} {H H' : Hp} (a : Same H H') : SB p H H' := fun c o _ h => a c o h
theorem SB.seq {p : Addr} {K : PySem.W.Frag} {H H' : Hp} {a : Addr} {xs : List V} (e : SB p H H') (n : a ≠ p) (h : SqL K H a xs) : SqL K H' a xs := by
  rcases h with (h | ⟨o, h⟩) | h
  · exact .inl (.inl (e _ _ n h))
  · exact .inl (.inr ⟨o, e _ _ n h⟩)
  · exact .inr h
theorem SB.tup {p : Addr} {K : PySem.W.Frag} {H H' : Hp} {a : Addr} {xs : List V} (e : SB p H H') (n : a ≠ p) (h : SqT K H a xs) : SqT K H' a xs := by
  rcases h with (h | ⟨o, h⟩) | h
  · exact .inl (.inl (e _ _ n h))
  · exact .inl (.inr ⟨o, e _ _ n h⟩)
  · exact .inr h
/-- what is free behind was free before, but at p -/
theorem SB.free {p : Addr} {H H' : Hp} (e : SB p H H') {l : Addr} (n : l ≠ p) (h : H' l = Option.none) : H l = Option.none := by
  cases q : H l with
  | none => rfl
  | some o =>
    rw [e l o n q] at h
    cases h
theorem same_upd {H : Hp} {p : Addr} {o : HO} (h : H p = none) : Same H (upd H p o) := fun b x e => by
  rw [upd_ne (ne_of_none e h)]
  exact e
theorem Same.tupS {K : PySem.W.Frag} {H H' : Hp} {a : Addr} {xs : List V} (e : Same H H') (h : SqT K H a xs) : SqT K H' a xs := by
  rcases h with (h | ⟨o, h⟩) | h
  · exact .inl (.inl (e _ _ h))
  · exact .inl (.inr ⟨o, e _ _ h⟩)
  · exact .inr h
theorem sq_of {K : PySem.W.Frag} {H : Hp} {a : Addr} {xs : List V} (h : H a = some (.lst xs)) : SqL K H a xs := .inl (.inl h)
theorem st_of {K : PySem.W.Frag} {H : Hp} {a : Addr} {xs : List V} (h : H a = some (.tup xs)) : SqT K H a xs := .inl (.inl h)
end L2
namespace L2
open PySem PySem.Spec PyProof.Rows
theorem for_iteL {K : PySem.W.Frag} {a : Addr} {xs : List V} {g : TG} {tb : TS} {D : Ends} {σ : St} {H : Hp} (Pv : Nat → St → Hp → Prop) (h0 : Pv 0 σ H) (hl : ∀ i σ H, i ≤ xs.length → Pv i σ H → SqL K H a xs)
    (hs : ∀ i x σ H T, xs[i]? = some x → Pv i σ H → H T = none → g (.ref T) σ (upd H T (.tup [.int (i : Nat), x])) fun σ2 H2 => tb { D with nx := Pv (i + 1), ct := Pv (i + 1), bk := D.nx } σ2 H2) (hd : ∀ σ H, Pv xs.length σ H → D.nx σ H) :
    ∃ W : Nat → Nat → St → Hp → Prop, (∃ m, W 0 m σ H) ∧ ∀ i m σ H, W i m σ H →
      ((Ite K a).stop i H ∧ D.nx σ H) ∨ ((Ite K a).go i H ∧ ∃ N : St → Hp → Prop, (∀ σ' H', N σ' H' → ∃ m', m' < m ∧ W (i + 1) m' σ' H') ∧ ∀ x H', (Ite K a).yld i H x H' → g x σ H' fun σ2 H2 => tb { D with nx := N, ct := N, bk := D.nx } σ2 H2) := by
  refine ⟨fun i m σ H => m = xs.length - i ∧ i ≤ xs.length ∧ Pv i σ H, ⟨xs.length, by simp, Nat.zero_le _, h0⟩, ?_⟩
  rintro i m σ H ⟨rfl, hi, p⟩
  have q := hl i σ H hi p
  by_cases hlt : i < xs.length
  · refine .inr ⟨⟨xs, xs[i], q, by simp [hlt]⟩, Pv (i + 1), fun σ' H' p' => ⟨xs.length - (i + 1), by omega, rfl, hlt, p'⟩, fun x H' y => ?_⟩
    obtain ⟨T, z, e, nT, eH, f⟩ := y
    subst e eH
    exact hs i z σ _ T (f xs q) p nT
  · have e : i = xs.length := by omega
    subst e
    exact .inl ⟨⟨xs, q, Nat.le_refl _⟩, hd σ H p⟩
end L2

namespace L2
open PySem PySem.Spec PyProof.Rows
/-! ### a def that has defaults -/
structure FunV (K : PySem.W.Frag) (x qual : Str) (st : Stmt) (f : Addr) (fd : FuncData) : Prop where
  ex : ∃ (oc : Value) (od : Option Addr) (dV kV doc pm : Value) (an : Option Addr) (cdv ct : Value) (osl : Array (Option Value)),
    fd = PySem.W.fnOf x qual (defArgs st) (defBody st) (defScope st) dV kV doc pm an cdv ct ∧ K.lookup f = some ⟨oc, od, .func fd, osl⟩ ∧ PySem.W.codeIn K cdv qual = true
section
variable {P : Program} {w : World} {K : PySem.W.Frag} {mg : Str → Option Value} {base : Heap}
theorem FunV.ok {x qual : Str} {st : Stmt} {f : Addr} {fd : FuncData} {N ps : List Str} {k : Nat} {sp : Sp} (F : FunV K x qual st f fd) (S : FnScope N ps (defScope st)) (len : ∀ vs H Q E, sp vs H Q E → vs.length = ps.length)
    (hbody : ∀ (cdv : Value) (A : Around) (outer : List Env) (s : Shared) (H : Hp) (vs : List V) (Q : VK) (E : XK), Room k (A.deeper (envOfC qual (defScope st) s.heap.objs.size f cdv)) → sp vs H Q E →
      ∃ t, PSs (cxOf CX0 P w K mg base N qual (defScope st) f cdv A outer s H E).nox (defBody st) t ∧ t { nx := fun _ H' => Q .non H', rt := Q } (start N vs) H) : FnOk P w K mg base CX0 (k + 1) f fd ps sp := by
  obtain ⟨oc, od, dV, kV, doc, pm, an, cdv, ct, osl, rfl, lk, hcd⟩ := F.ex
  refine fn_of lk hcd S len fun A outer s H vs Q E hr hsp => ?_
  obtain ⟨t, h, q⟩ := hbody cdv A outer s H vs Q E hr hsp
  exact ⟨t, h.nox, q⟩
theorem FunV.okX {x qual : Str} {st : Stmt} {f : Addr} {fd : FuncData} {N ps : List Str} {k : Nat} {sp : Sp} (F : FunV K x qual st f fd) (S : FnScope N ps (defScope st)) (len : ∀ vs H Q E, sp vs H Q E → vs.length = ps.length)
    (hbody : ∀ (cdv : Value) (A : Around) (outer : List Env) (s : Shared) (H : Hp) (vs : List V) (Q : VK) (E : XK), Room k (A.deeper (envOfC qual (defScope st) s.heap.objs.size f cdv)) → sp vs H Q E →
      ∃ t, PSs (cxOf (L2.CX P w) P w K mg base N qual (defScope st) f cdv A outer s H E) (defBody st) t ∧ t { nx := fun _ H' => Q .non H', rt := Q } (start N vs) H) : FnOk P w K mg base (L2.CX P w) (k + 1) f fd ps sp := by
  obtain ⟨oc, od, dV, kV, doc, pm, an, cdv, ct, osl, rfl, lk, hcd⟩ := F.ex
  exact fn_of lk hcd S len fun A outer s H vs Q E hr hsp => hbody cdv A outer s H vs Q E hr hsp
theorem funV_mk {x qual : Str} {st : Stmt} {f : Addr} {oc : Value} {od an : Option Addr} {osl : Array (Option Value)} {dV kV doc pm cdv ct : Value} (l : K.lookup f = some ⟨oc, od, .func (PySem.W.fnOf x qual (defArgs st) (defBody st) (defScope st) dV kV doc pm an cdv ct), osl⟩)
    (c : PySem.W.codeIn K cdv qual = true) : FunV K x qual st f (PySem.W.fnOf x qual (defArgs st) (defBody st) (defScope st) dV kV doc pm an cdv ct) := ⟨oc, od, dV, kV, doc, pm, an, cdv, ct, osl, rfl, l, c⟩
/-- how the arguments bind where the last defaults fill up: dvs the defaults, j of them are written -/
theorem bindsV {x qual : Str} {st : Stmt} {f T : Addr} {oc oT : Value} {od odT an : Option Addr} {osl slT : Array (Option Value)} {kV doc pm cdv ct : Value} {its : List Value} {nT : Nat} {ps : List Str} {dvs : List V}
    (l : K.lookup f = some ⟨oc, od, .func (PySem.W.fnOf x qual (defArgs st) (defBody st) (defScope st) (.ref T) kV doc pm an cdv ct), osl⟩)
    (c : PySem.W.codeIn K cdv qual = true) (kp : PySem.W.keepIn K (.ref f) = true) (lT : K.lookup T = some ⟨oT, odT, .seq its.toArray nT, slT⟩) (rT : Vals dvs its) (n j : Nat) (hd : dvs ≠ []) (hn : n + (dvs.length - j) = ps.length)
    (h : ∀ (T : Addr) (kV doc pm : Value) (an : Option Addr) (cdv ct : Value) (us its : List Value), us.length = n → its.length = dvs.length →
      ∃ k, bindArgs (PySem.W.fnOf x qual (defArgs st) (defBody st) (defScope st) (.ref T) kV doc pm an cdv ct) ⟨us, []⟩ = seqItems? (.ref T) >>= k ∧ k (some its.toArray) = pure (ps.zip (us ++ its.drop j))) :
    ∃ ds, Vals (dvs.drop j) ds ∧ Binds K (PySem.W.fnOf x qual (defArgs st) (defBody st) (defScope st) (.ref T) kV doc pm an cdv ct) ps ds := by
  have F : FunD K x qual (defArgs st) (defBody st) (defScope st) dvs [] f _ := ⟨⟨_, _, _, _, _, _, _, _, _, _, rfl, l, c, .inr ⟨hd, T, _, its, nT, rfl, lT, rfl, rT⟩, .inl rfl⟩, kp⟩
  exact F.binds1 (ps := ps) n j hd hn h
theorem Binds.none {fd : FuncData} {ps : List Str} {ds : List Value} (r : Vals [] ds) (b : Binds K fd ps ds) : Binds K fd ps [] := by
  cases r
  exact b
end
end L2

namespace PySem
open Sem (wp)
theorem meets_enumerate_new0 {v : Value} {o : Obj} {H : Heap → Prop} (B : Begins v o H) :
    Meets (Builtin.«enumerate.__new__» ⟨[.type "enumerate", v], []⟩) (fun _ R s => H s.heap ∧
      R (.ok (.ret (.ref (s.heap.push o).objs.size))) { s with heap := (s.heap.push o).push { cls := .type "enumerate", data := .fields #[.none, .bool false, .ref s.heap.objs.size, rawInt 0, .none, .none] } }) :=
  .of_wp fun prog w A R s h => by
    obtain ⟨hp, g, d, tk, os⟩ := s; obtain ⟨h1, h⟩ := h
    have hsub := sub_enumerate
    have q1 : ∀ {A' : Around} {E : Value → Shared → Prop} {Q : Value → Shared → Prop}, Q (.ref hp.objs.size) ⟨hp.push o, g, d, tk, os⟩ → wpAny (model prog w) A' (pyIter v) Q E ⟨hp, g, d, tk, os⟩ :=
      fun q => B.iter prog w _ _ ⟨hp, g, d, tk, os⟩ _ h1 q
    wp_walk using q1
    refine wpAny_stack_any fun st => wpAny_pure ?_
    split
    · rename_i c _ _ _ _ _
      cases (c == Value.type "enumerate")
      · wp_walk using q1
        exact ⟨_, rfl, h⟩
      · wp_walk using q1
        exact ⟨_, rfl, h⟩
    · wp_walk using q1
      exact ⟨_, rfl, h⟩
theorem enum_begins0 {prog : Program} {w : World} {A : Around} {E : Value → Shared → Prop} {s : Shared} {v : Value} {o : Obj} {H : Heap → Prop} {Q : Value → Shared → Prop} (B : Begins v o H) (h1 : H s.heap)
    (h : ∀ h', IsEnum h' (s.heap.objs.size + 1) s.heap.objs.size 0 .none → h'.get? s.heap.objs.size = some o → h'.objs.size = s.heap.objs.size + 2 →
      (∀ b o, s.heap.get? b = some o → h'.get? b = some o) → Q (.ref (s.heap.objs.size + 1)) { s with heap := h' }) :
    wpAny (model prog w) A (call (.type "enumerate") [v]) Q E s := by
  refine callType_new F.called_enumerate (by decide) (F.typeCall_enumerate_1 _) (F.newCall_enumerate_1 _) (fun obj => F.args_object_init_2 obj _) F.entry_enumerate_new
    (meets_enumerate_new0 B) ⟨h1, ?_⟩
  have hz : (s.heap.push o).objs.size = s.heap.objs.size + 1 := Heap.size_push ..
  show _ ∧ _
  rw [hz]
  have he : IsEnum ((s.heap.push o).push { cls := .type "enumerate", data := .fields #[.none, .bool false, .ref s.heap.objs.size, rawInt 0, .none, .none] }) (s.heap.objs.size + 1) s.heap.objs.size 0 .none := by
    have := Heap.get?_push_size (s.heap.push o) (o := { cls := .type "enumerate", data := .fields #[.none, .bool false, .ref s.heap.objs.size, rawInt 0, .none, .none] }) rfl
    rw [hz] at this; exact this
  refine ⟨⟨_, he, rfl⟩, h _ he (Heap.get?_push_of_some _ (Heap.get?_push_size _ B.free)) (by rw [Heap.size_push, hz]) fun b o x => Heap.get?_push_of_some _ (Heap.get?_push_of_some _ x)⟩
end PySem
namespace L2
open PySem PySem.Spec PyProof.Rows
/-- the tuple at a, each item in a new pair -/
def IteT (K : PySem.W.Frag) (a : Addr) : It :=
  ⟨fun i H => ∃ (xs : List V) (x : V), SqT K H a xs ∧ xs[i]? = some x, fun i H v H' => ∃ T x, v = .ref T ∧ H T = none ∧ H' = upd H T (.tup [.int (i : Nat), x]) ∧ ∀ xs, SqT K H a xs → xs[i]? = some x, fun i H => ∃ xs : List V, SqT K H a xs ∧ xs.length ≤ i⟩
theorem turn_enumT {P : Program} {w : World} {K : PySem.W.Frag} {elts : List Expr} {kk : Nat} {tpos : Pos} (a e it : Addr) (hae : e ≠ a) (hai : a ≠ it) :
    Turn P w K (.Tuple elts kk tpos) (IteT K a) [e, it] e (fun i h => (∃ old, IsEnum h e it ((i : Nat) : Int) old) ∧ h.IsTupleIter it a i ∧ e ≠ it) where
  mem := by simp
  obj := fun i h st b hb => by
    obtain ⟨⟨old, he⟩, ⟨o, ho, hc, hd⟩, _⟩ := st
    have e' : b = e ∨ b = it := by simpa using hb
    rcases e' with z | z
    · rw [z]; exact ⟨_, he, fun v q => nomatch q⟩
    · rw [z]; exact ⟨o, ho, fun v q => by rw [hd] at q; cases q⟩
  keep := fun i h h' st k => let ⟨⟨old, he⟩, hi, hne⟩ := st; ⟨⟨old, k e (by simp) _ he⟩, hi.at fun o q => k it (by simp) o q, hne⟩
  item := by
    intro X hP hw hK hc i pins s σ H E I hf st hg
    subst hP hw hK
    obtain ⟨⟨old, he⟩, hit, hne⟩ := st
    obtain ⟨xs, x, hq, hx⟩ := hg
    obtain ⟨its, rv, p, hz⟩ := I.tuple hq
    obtain ⟨u, hu, ru⟩ := rv.get hx
    have hel : e < s.heap.objs.size := Heap.lt_size he
    have hil : it < s.heap.objs.size := by obtain ⟨_, q, _⟩ := hit; exact Heap.lt_size q
    have hlt : i < its.toArray.size := by
      have z := (List.getElem?_eq_some_iff.mp hu).1
      simpa using z
    refine wpAny_pyNext_enum_itemD (Draws.tuple (A := X.A.in1) (I.ok.hd hc) it a hai its.toArray) he ⟨hit, p⟩ hlt hne (by simp [hne, hae]) fun x' h' tk hP' ho hit' hT hsz hk => ?_
    have ex : x' = u := by
      have q : its.toArray[i]? = some u := by simpa using hu
      rw [q] at hP'
      exact (Option.some.inj hP').symm
    subst ex
    refine ⟨_, rfl, wpAny_letOwnedTupleGo_enum (s := { s with heap := h', toks := tk + 1 }) ho fun h'' he' sb => ?_⟩
    have hT2 : h''.get? s.heap.objs.size = some { cls := .type "tuple", data := .seq #[.int i tk, x'] } := (sb.2 _ (Nat.ne_of_gt hel)).trans hT
    have new : ObjOk X.prog X.w (upd H s.heap.objs.size (.tup [.int (i : Nat), x])) h'' s.heap.objs.size (.tup [.int (i : Nat), x]) :=
      ⟨by show 2 ≤ sizeLine; decide, [.int i tk, x'], .cons ⟨_, rfl⟩ (.cons ru .nil), ⟨_, hT2, rfl, _, rfl⟩⟩
    have I1 : Inv X pins σ (upd H s.heap.objs.size (.tup [.int (i : Nat), x])) { s with heap := h'', toks := tk + 1 } :=
      I.turnedNew (ch := [e, it]) (fun b ob hb q => (sb.2 b (fun z => hb (by simp [z]))).trans (hk b ob (fun z => hb (by simp [z])) (fun z => hb (by simp [z])) q)) hf (Nat.le_refl _) new
    refine ⟨.ref s.heap.objs.size, _, I1, rfl, ⟨_, x, rfl, I.hok.fresh (Nat.le_refl _), rfl, fun ys hy => by rw [I.tuple_inj hy hq]; exact hx⟩, ⟨⟨x', ?_⟩, hit'.1.at fun o q => (sb.2 it (Ne.symm hne)).trans q, hne⟩, fun b hb => ?_⟩
    · have e1 : ((i + 1 : Nat) : Int) = (i : Int) + 1 := by omega
      rw [e1]; exact he'
    · have hb' : b < s.heap.objs.size := by
        have e' : b = e ∨ b = it := by simpa using hb
        rcases e' with z | z
        · rw [z]; exact hel
        · rw [z]; exact hil
      rw [upd_ne (Nat.ne_of_lt hb')]
      exact (hf b hb).1
  done := by
    intro X hP hw hK hc i pins s σ H E I hf st hg
    subst hP hw hK
    obtain ⟨⟨old, he⟩, hit, hne⟩ := st
    obtain ⟨xs, hq, hx⟩ := hg
    obtain ⟨its, rv, p, hz⟩ := I.tuple hq
    obtain ⟨f0, f1, f2, f3, f4, f5⟩ := hf it (by simp)
    have hl := rv.length
    have hT : s.TypeIs (.ref e) "enumerate" := ⟨_, he, rfl⟩
    have hN : its.toArray[i]? = none := by simp; omega
    unfold pyNext
    refine wpAny_bind (wpAny_attempt (wpAny_callSpecial?_slot (name := Str.ofString "__next__") hT F.slot_enumerate_next
      (wpAny_call_entry F.slot_enumerate_next hT F.entry_enumerate_next ?_ (F.args_enumerate_next_1 _))))
    show wpAny _ _ (field (.ref e) 2 >>= _) _ _ _
    refine wpAny_bind (wpAny_field he rfl (x := .ref it) rfl ?_)
    refine wpAny_bind (wpAny_nextOf_tuple_end (I.ok.hd hc) hit p hN fun h' x he' hx' => ?_)
    obtain ⟨o, ho, hcc⟩ := hx'
    refine wpAny_bind (wpAny_isInstance (T := "StopIteration") (b := true) ⟨o, ho, hcc⟩ isSubtype_stop ?_)
    exact wpAny_pure ⟨rfl, I.turned (t' := s.toks) (fun b o hb q => he' b o hb q) f0 f1 f3 f4 f5⟩
  self := fun A i s Q E st h => let ⟨⟨_, he⟩, _⟩ := st; wpAny_pyIter_enum he h
/-- enumerate of a list or a tuple -/
def iEnumA (K : PySem.W.Frag) (ta : TA) : TI := fun σ H R => ta σ H fun vs H1 => ∃ a xs, vs = [.ref a] ∧ ((SqL K H1 a xs ∧ R (Ite K a) H1) ∨ (SqT K H1 a xs ∧ R (IteT K a) H1))
theorem pi_enumA {X : Cx} {e : Expr} {ta : TA} {p pos tpos : Pos} {elts : List Expr} {kk : Nat} (hg : Gl X "enumerate") (hm : X.mg "enumerate" = none) (ha : PA X [e] ta) (hs : starEach [e] X.env = [(false, eval e X.env)] := by rfl) :
    PI X (.Tuple elts kk tpos) (.Call (.Name "enumerate" p) [e] [] pos) (iEnumA X.K ta) := by
  refine ⟨fun pins s σ H R I h => ?_⟩
  refine Call_ (ld_blt I hg hm boot_enumerate (PyProof.Rows.callWith_type1 (thn (ha.run pos pins s σ H _ I h) fun us s1 ⟨vs, H1, I1, r1, q1⟩ => ?_) hs rfl))
  obtain ⟨a, xs, ex, q1⟩ := q1
  subst ex
  cases r1 with
  | cons r rr =>
    cases rr
    cases r
    have fp : ∀ b, b ∈ [s1.heap.objs.size + 1, s1.heap.objs.size] → s1.heap.objs.size ≤ b := fun b hb => by
      have e' : b = s1.heap.objs.size + 1 ∨ b = s1.heap.objs.size := by simpa using hb
      rcases e' with z | z
      · rw [z]; exact Nat.le_add_right _ _
      · rw [z]; exact Nat.le_refl _
    rcases q1 with ⟨hq, q⟩ | ⟨hq, q⟩
    · obtain ⟨its, rv, p', hz⟩ := I1.list hq
      refine call_enumerate_list p'.isList fun h' he hit hsz hk => wpAny_pyIter_enum he ?_
      have I2 : Inv X pins σ H1 { s1 with heap := h' } := I1.kept (t' := s1.toks) hk
      exact ⟨s1.heap.objs.size + 1, [s1.heap.objs.size + 1, s1.heap.objs.size], _, _, H1, rfl, I2, turn_enum a (s1.heap.objs.size + 1) s1.heap.objs.size, ⟨⟨.none, he⟩, hit, Nat.succ_ne_self _⟩, fun b hb => I1.fpOk (fp b hb) (I1.hok.fresh (fp b hb)), q⟩
    · obtain ⟨its, rv, p', hz⟩ := I1.tuple hq
      have hlt : a < s1.heap.objs.size := by
        obtain ⟨o, ho, _⟩ := id p'
        exact Heap.lt_size ho
      refine enum_begins0 (begins_tuple a its.toArray) p' fun h' he hit hsz hk => wpAny_pyIter_enum he ?_
      have I2 : Inv X pins σ H1 { s1 with heap := h' } := I1.kept (t' := s1.toks) hk
      exact ⟨s1.heap.objs.size + 1, [s1.heap.objs.size + 1, s1.heap.objs.size], _, _, H1, rfl, I2, turn_enumT a (s1.heap.objs.size + 1) s1.heap.objs.size (Nat.ne_of_gt (Nat.lt_succ_of_lt hlt)) (Nat.ne_of_lt hlt), ⟨⟨.none, he⟩, ⟨_, hit, rfl, rfl⟩, Nat.succ_ne_self _⟩, fun b hb => I1.fpOk (fp b hb) (I1.hok.fresh (fp b hb)), q⟩
end L2
namespace L2
open PySem PySem.Spec PyProof.Rows
theorem for_iteT {K : PySem.W.Frag} {a : Addr} {xs : List V} {g : TG} {tb : TS} {D : Ends} {σ : St} {H : Hp} (Pv : Nat → St → Hp → Prop) (h0 : Pv 0 σ H) (hl : ∀ i σ H, i ≤ xs.length → Pv i σ H → SqT K H a xs)
    (hs : ∀ i x σ H T, xs[i]? = some x → Pv i σ H → H T = none → g (.ref T) σ (upd H T (.tup [.int (i : Nat), x])) fun σ2 H2 => tb { D with nx := Pv (i + 1), ct := Pv (i + 1), bk := D.nx } σ2 H2) (hd : ∀ σ H, Pv xs.length σ H → D.nx σ H) :
    ∃ W : Nat → Nat → St → Hp → Prop, (∃ m, W 0 m σ H) ∧ ∀ i m σ H, W i m σ H →
      ((IteT K a).stop i H ∧ D.nx σ H) ∨ ((IteT K a).go i H ∧ ∃ N : St → Hp → Prop, (∀ σ' H', N σ' H' → ∃ m', m' < m ∧ W (i + 1) m' σ' H') ∧ ∀ x H', (IteT K a).yld i H x H' → g x σ H' fun σ2 H2 => tb { D with nx := N, ct := N, bk := D.nx } σ2 H2) := by
  refine ⟨fun i m σ H => m = xs.length - i ∧ i ≤ xs.length ∧ Pv i σ H, ⟨xs.length, by simp, Nat.zero_le _, h0⟩, ?_⟩
  rintro i m σ H ⟨rfl, hi, p⟩
  have q := hl i σ H hi p
  by_cases hlt : i < xs.length
  · refine .inr ⟨⟨xs, xs[i], q, by simp [hlt]⟩, Pv (i + 1), fun σ' H' p' => ⟨xs.length - (i + 1), by omega, rfl, hlt, p'⟩, fun x H' y => ?_⟩
    obtain ⟨T, z, e, nT, eH, f⟩ := y
    subst e eH
    exact hs i z σ _ T (f xs q) p nT
  · have e : i = xs.length := by omega
    subst e
    exact .inl ⟨⟨xs, q, Nat.le_refl _⟩, hd σ H p⟩
end L2

namespace L2
open PySem PySem.Spec PyProof.Rows
/-! ### sources of draws: a list of three ints, the first one from 0 on -/
def Src (H : Hp) (p : Addr) : Prop := ∃ x y z : Int, 0 ≤ x ∧ H p = some (.lst [.int x, .int y, .int z])
theorem Src.put {H : Hp} {p : Addr} {x y z : Int} (h : 0 ≤ x) : Src (upd H p (.lst [.int x, .int y, .int z])) p := ⟨x, y, z, h, upd_same⟩
theorem Src.ne {H : Hp} {p q : Addr} (h : Src H p) (n : H q = none) : q ≠ p := fun e => by
  obtain ⟨x, y, z, _, hp⟩ := h
  rw [← e, n] at hp
  cases hp
theorem Src.at {H H' : Hp} {p : Addr} (h : Src H p) (e : H' p = H p) : Src H' p := by
  obtain ⟨x, y, z, x0, hp⟩ := h
  exact ⟨x, y, z, x0, e.trans hp⟩
theorem Src.upd {H : Hp} {p q : Addr} {o : HO} (h : Src H p) (n : q ≠ p) : Src (L2.upd H q o) p := h.at (upd_ne (Ne.symm n))
theorem Src.new {H : Hp} {p q : Addr} {o : HO} (h : Src H p) (n : H q = none) : Src (L2.upd H q o) p := h.upd (h.ne n)
theorem Src.same {H H' : Hp} {p : Addr} (h : Src H p) (e : Same H H') : Src H' p := by
  obtain ⟨x, y, z, x0, hp⟩ := h
  exact ⟨x, y, z, x0, e _ _ hp⟩
/-- what a draw leaves: all but the source stands, the source is one -/
def Dn (p : Addr) (H H' : Hp) : Prop := SB p H H' ∧ Src H' p
theorem Dn.put {p : Addr} {H : Hp} {x y z : Int} (h : 0 ≤ x) : Dn p H (L2.upd H p (.lst [.int x, .int y, .int z])) := ⟨SB.put, .put h⟩
theorem Dn.trans {p : Addr} {H H1 H2 : Hp} (a : Dn p H H1) (b : Dn p H1 H2) : Dn p H H2 := ⟨a.1.trans b.1, b.2⟩
theorem Dn.new {p q : Addr} {H H' : Hp} {o : HO} (a : Dn p H H') (n : H' q = none) : Dn p H (L2.upd H' q o) := ⟨a.1.trans (SB.new n), a.2.new n⟩
theorem Dn.same {p : Addr} {H H' H2 : Hp} (a : Dn p H H') (e : Same H' H2) : Dn p H H2 := ⟨a.1.trans (SB.of e), a.2.same e⟩
theorem Dn.refl {p : Addr} {H : Hp} (h : Src H p) : Dn p H H := ⟨SB.refl p H, h⟩
/-- an address that is new behind a draw was new before -/
theorem Dn.free {p q : Addr} {H H' : Hp} (a : Dn p H H') (n : H' q = none) : H q = none := a.1.free (a.2.ne n) n
theorem map_snoc (ms : List Int) (v : Int) : ms.map V.int ++ [V.int v] = (ms ++ [v]).map V.int := by simp
theorem rep_flat (b : Int) : ∀ n : Nat, (List.replicate n [V.int b]).flatten = (List.replicate n b).map V.int
  | 0 => rfl
  | n + 1 => by
    rw [List.replicate_succ, List.replicate_succ, List.flatten_cons, rep_flat b n]
    rfl
theorem lt64 {c : Int} {x : Int} (h0 : 0 ≤ x) (h1 : x < c) (hc : c ≤ 2 ^ 63) : -(2 ^ 64) < x ∧ x < 2 ^ 64 := by omega
theorem mb (x : Int) {c : Int} (h : 0 < c) : 0 ≤ x % c ∧ x % c < c := ⟨Int.emod_nonneg _ (by omega), Int.emod_lt_of_pos _ h⟩
theorem mbw (x : Int) {c : Int} (h : 0 < c) (hc : c ≤ 2 ^ 63) : -(2 ^ 64) < x % c ∧ x % c < 2 ^ 64 := lt64 (mb x h).1 (mb x h).2 hc
/-- a comprehension over range(n) each of whose items is an int, reckoned by draws -/
theorem lc_ints {te : TE} {σ : L2.St} {H1 : Hp} {D p : Addr} {n j : Nat} {vs : List Nat} {Qd : Hp → Prop} (hn : n ≤ 1000000) (hs : Src H1 p) (hD : H1 D = none)
    (hw : ∀ v, wipe ((wipe σ vs).set j v) vs = wipe σ vs)
    (he : ∀ (k : Nat) (H3 : Hp) (R : VK), k < n → Dn p H1 H3 → (∀ (v : Int) (H4 : Hp), Dn p H3 H4 → R (.int v) H4) → te ((wipe σ vs).set j (some (.int (0 + (k : Nat))))) H3 R)
    (hd : ∀ (ms : List Int) (H' : Hp), ms.length = n → Dn p H1 H' → H' D = some (.lst (ms.map V.int)) → Qd H') :
    ∃ W : Nat → Nat → Hp → Prop, (∃ m, W 0 m (L2.upd H1 D (.lst []))) ∧ ∀ i m H, W i m H →
      ((Itr 0 n).stop i H ∧ Qd H) ∨ ((Itr 0 n).go i H ∧ ∃ Nx : Hp → Prop, (∀ H', Nx H' → ∃ m', m' < m ∧ W (i + 1) m' H') ∧ ∀ x H', (Itr 0 n).yld i H x H' → gName j x (wipe σ vs) H' fun σ2 H2 => wipe σ2 vs = wipe σ vs ∧ tYes σ2 H2 fun b H3 =>
        if b = true then te σ2 H3 fun y H4 => ∃ acc, H4 D = some (.lst acc) ∧ acc.length < sizeLine ∧ Nx (L2.upd H4 D (.lst (acc ++ [y]))) else Nx H3) := by
  have nD : D ≠ p := hs.ne hD
  refine lc_range (lo := 0) (n := n) (fun i H => ∃ ms : List Int, ms.length = i ∧ Dn p H1 H ∧ H D = some (.lst (ms.map V.int))) ⟨[], rfl, (Dn.refl hs).new hD, upd_same⟩ ?_ ?_
  · rintro i H hi ⟨ms, hl, dr, hh⟩
    refine ⟨hw _, ?_⟩
    refine he i H _ hi dr fun v H4 d4 => ?_
    have h4 := d4.1 _ _ nD hh
    refine ⟨_, h4, ?_, ms ++ [v], by simp [hl], ?_, ?_⟩
    · rw [List.length_map, hl]
      exact Nat.lt_of_le_of_lt (Nat.le_trans (Nat.le_of_lt hi) hn) (by decide)
    · have dd := dr.trans d4
      refine ⟨fun b o nb e => ?_, dd.2.upd nD⟩
      rw [upd_ne (ne_of_none e hD)]
      exact dd.1 b o nb e
    · rw [map_snoc]
      exact upd_same
  · rintro H ⟨ms, hl, dr, hh⟩
    exact hd ms H hl dr hh
end L2
namespace L2
open PySem PySem.Spec PyProof.Rows
theorem canLay_ints : ∀ ns : List Int, PyData.canLayAll0 (ns.map PyData.int) = true
  | [] => rfl
  | n :: r => by
    show (PyData.canLay0 (.int n) && PyData.canLayAll0 (r.map PyData.int)) = true
    rw [canLay_ints r]
    rfl
theorem depth_ints : ∀ ns : List Int, PyData.depthAll (ns.map PyData.int) = 0
  | [] => rfl
  | n :: r => by
    show max (PyData.depth (.int n)) (PyData.depthAll (r.map PyData.int)) = 0
    rw [depth_ints r]
    rfl
theorem shaped_ints (ns : List Int) : SeqAt.shaped (.list (ns.map PyData.int)) = true := by
  unfold SeqAt.shaped
  rw [Bool.and_eq_true]
  refine ⟨canLay_ints ns, decide_eq_true ?_⟩
  show PyData.depthAll (ns.map PyData.int) + 1 ≤ 64
  rw [depth_ints]
  decide
theorem eqv_ints (ns : List Int) : PyData.eqv (.list (ns.map PyData.int)) (.list (ns.map PyData.int)) = true := SeqAt.eqv_refl _ (SeqAt.canLay_of_shaped (shaped_ints ns))
theorem dpAll_ints {K : PySem.W.Frag} {H : Hp} : ∀ ns : List Int, DpAll K H (ns.map V.int) (ns.map PyData.int)
  | [] => .nil
  | n :: r => .cons (.int n) (dpAll_ints r)
theorem dp_ints {K : PySem.W.Frag} {H : Hp} {p : Addr} {ns : List Int} (h : SqL K H p (ns.map V.int)) : Dp K H (.ref p) (.list (ns.map PyData.int)) := .lst h (dpAll_ints ns)
theorem cut_mem {xs : List V} {lo hi : Option Int} {x : V} (h : x ∈ cutV xs lo hi) : x ∈ xs := List.mem_of_mem_drop (List.mem_of_mem_take h)
end L2

namespace L2
open PySem PySem.Spec PyProof.Rows
/-! ### stable orders: the items of 0 .. n - 1, by a number each, then by themselves -/
def Lx (f : Nat → Int) (i j : Nat) : Prop := f i < f j ∨ (f i = f j ∧ i < j)
theorem Lx.irr {f : Nat → Int} {i : Nat} : ¬ Lx f i i := fun h => by unfold Lx at h; omega
theorem Lx.asymm {f : Nat → Int} {i j : Nat} (h : Lx f i j) : ¬ Lx f j i := fun h' => by unfold Lx at h h'; omega
theorem Lx.trans {f : Nat → Int} {i j k : Nat} (h : Lx f i j) (h' : Lx f j k) : Lx f i k := by unfold Lx at *; omega
theorem Lx.tri (f : Nat → Int) (i j : Nat) : Lx f i j ∨ i = j ∨ Lx f j i := by unfold Lx; omega
structure Stab (f : Nat → Int) (n : Nat) (os : List Nat) : Prop where
  perm : os.Perm (List.range n)
  sort : os.Pairwise (Lx f)
/-- two rows of the same items that are sorted strictly are one -/
theorem sorted_uniq {α : Type} {R : α → α → Prop} (as : ∀ a b, R a b → ¬ R b a) : ∀ {xs ys : List α}, xs.Perm ys → xs.Pairwise R → ys.Pairwise R → xs = ys
  | [], ys, p, _, _ => (List.Perm.nil_eq p)
  | x :: xs, [], p, _, _ => absurd p.length_eq (by simp)
  | x :: xs, y :: ys, p, hx, hy => by
    have e : x = y := by
      have m1 : x ∈ y :: ys := p.mem_iff.mp (List.mem_cons_self ..)
      have m2 : y ∈ x :: xs := p.mem_iff.mpr (List.mem_cons_self ..)
      rcases List.mem_cons.mp m1 with e | m1
      · exact e
      · rcases List.mem_cons.mp m2 with e | m2
        · exact e.symm
        · exact absurd ((List.pairwise_cons.mp hx).1 y m2) (as _ _ ((List.pairwise_cons.mp hy).1 x m1))
    subst e
    rw [sorted_uniq as p.cons_inv (List.pairwise_cons.mp hx).2 (List.pairwise_cons.mp hy).2]
theorem Stab.uniq {f : Nat → Int} {n : Nat} {as bs : List Nat} (a : Stab f n as) (b : Stab f n bs) : as = bs := sorted_uniq (fun _ _ => Lx.asymm) (a.perm.trans b.perm.symm) a.sort b.sort
theorem Stab.len {f : Nat → Int} {n : Nat} {os : List Nat} (a : Stab f n os) : os.length = n := by
  rw [a.perm.length_eq, List.length_range]
theorem Stab.nodup {f : Nat → Int} {n : Nat} {os : List Nat} (a : Stab f n os) : os.Nodup := a.perm.nodup_iff.mpr List.nodup_range
theorem Stab.lt {f : Nat → Int} {n : Nat} {os : List Nat} (a : Stab f n os) {i : Nat} (h : i ∈ os) : i < n := List.mem_range.mp (a.perm.mem_iff.mp h)
/-- the order hangs on how the numbers stand to one another alone -/
theorem Stab.like {f g : Nat → Int} {n : Nat} {os : List Nat} (a : Stab f n os) (h : ∀ i j, i < n → j < n → (f i < f j ↔ g i < g j)) : Stab g n os := by
  refine ⟨a.perm, ?_⟩
  refine List.Pairwise.imp_of_mem ?_ a.sort
  intro i j hi hj l
  have h1 := h i j (a.lt hi) (a.lt hj)
  have h2 := h j i (a.lt hj) (a.lt hi)
  unfold Lx at *
  omega
/-- what an item counts: its key, with reverse its negative -/
def keyf (ks : List Int) (rev : Bool) (i : Nat) : Int := if rev then -(ks.getD i 0) else ks.getD i 0
/-- the row of items as values -/
abbrev nV (os : List Nat) : List V := os.map fun (i : Nat) => V.int (i : Int)
/-- pairs of the keys' numbers and the items, sorted, give the order -/
theorem stab_of_pairs {f : Nat → Int} {n : Nat} {ps : List (Int × Int)} (p : ps.Perm ((List.range n).map fun (i : Nat) => (f i, (i : Int)))) (s : ps.Pairwise fun x y => ¬ (y.1 < x.1 ∨ (y.1 = x.1 ∧ y.2 < x.2))) :
    ∃ os, Stab f n os ∧ ps = os.map fun (i : Nat) => (f i, (i : Int)) := by
  have hm : ∀ q ∈ ps, q = (f q.2.toNat, (q.2.toNat : Int)) := fun q hq => by
    obtain ⟨i, _, e⟩ := List.mem_map.mp (p.mem_iff.mp hq)
    subst e
    simp
  have e1 : ps = (ps.map fun q => q.2.toNat).map fun (i : Nat) => (f i, (i : Int)) := by
    rw [List.map_map]
    calc ps = ps.map id := (List.map_id ps).symm
      _ = _ := List.map_congr_left fun q hq => hm q hq
  have pm : (ps.map fun q => q.2.toNat).Perm (List.range n) := by
    have q := p.map fun q => q.2.toNat
    rw [List.map_map] at q
    have e : (List.range n).map ((fun q : Int × Int => q.2.toNat) ∘ fun (i : Nat) => (f i, (i : Int))) = List.range n := by
      calc _ = (List.range n).map id := List.map_congr_left fun i _ => by simp
        _ = _ := List.map_id _
    rw [e] at q
    exact q
  refine ⟨ps.map fun q => q.2.toNat, ⟨pm, ?_⟩, e1⟩
  have nd : (ps.map fun q => q.2.toNat).Nodup := pm.nodup_iff.mpr List.nodup_range
  have s2 : (ps.map fun q => q.2.toNat).Pairwise fun i j => ¬ (f j < f i ∨ (f j = f i ∧ j < i)) := by
    rw [e1, List.pairwise_map] at s
    refine s.imp ?_
    intro i j h
    omega
  exact (List.pairwise_and_iff.mpr ⟨s2, nd⟩).imp fun {i j} h => by
    obtain ⟨h1, h2⟩ := h
    unfold Lx
    omega
end L2
namespace L2
open PySem PySem.Spec PyProof.Rows
theorem pe_callN0 {X : Cx} {CX : CXT} {k : Nat} {f : Addr} {fd : FuncData} {ps ks : List Str} {sp : Sp} {E : XK} {x : Str} {p pos : Pos} {kws : List Keyword} {tk : TA} {g : List Value → List Value → List Value} {gV : List V → List V → List V}
    (F : FnOk X.prog X.w X.K X.mg X.base CX k f fd ps sp) (hr : Room k X.A) (hg : Gl X x) (hm : X.mg x = some (.ref f)) (hk : PySem.W.keepIn X.K (.ref f) = true) (hb : KBn X.K fd ps 0 ks g gV) (hx : Passes CX X E)
    (hkw : PK X kws tk) (hall : (backToKw pos (keywordEach kws X.env)).all (·.1.isSome) = true := by rfl) (hks : (backToKw pos (keywordEach kws X.env)).filterMap (·.1) = ks := by rfl)
    (hdb : (x == ("__debug__" : Str)) = false := by decide)
    (hpl : ((backTo pos (starEach [] X.env)).any (·.1) || (backToKw pos (keywordEach kws X.env)).any (·.1.isNone)) = false := by rfl) :
    PE X (.Call (.Name x p) [] kws pos) (fun σ H Q => tk σ H fun zs H2 => zs.length = ks.length ∧ sp (gV [] zs) H2 Q E) := by
  refine ⟨fun pins s σ H Q I h => ?_⟩
  refine wpAny_Call_Name_kw (ld_glob I hg hm ?_ hdb)
  refine PySem.W.callWith_KW0 (h₀ := X.base) I.ok.mod.kin hk hall ?_ hpl
  refine thn (hkw.run pos pins s σ H _ I h) fun ws s2 ⟨zs, H2, I2, rz, l2, q2⟩ => ⟨I2.kIn, ?_⟩
  rw [hks]
  exact run_fnN F hr hb hx I2 .nil rz rfl l2 q2
theorem lc_iteL {K : PySem.W.Frag} {a : Addr} {xs : List V} {g : TG} {tt : TT} {te : TE} {vs : List Nat} {σ : L2.St} {H1 : Hp} {D : Addr} {Qd : Hp → Prop} (Pv : Nat → Hp → Prop) (h0 : Pv 0 (upd H1 D (.lst []))) (hl : ∀ i H, i ≤ xs.length → Pv i H → SqL K H a xs)
    (hs : ∀ i x H T, xs[i]? = some x → Pv i H → H T = none → g (.ref T) (wipe σ vs) (upd H T (.tup [.int (i : Nat), x])) fun σ2 H2 => wipe σ2 vs = wipe σ vs ∧ tt σ2 H2 fun b H3 =>
      if b = true then te σ2 H3 fun y H4 => ∃ acc, H4 D = some (.lst acc) ∧ acc.length < sizeLine ∧ Pv (i + 1) (upd H4 D (.lst (acc ++ [y]))) else Pv (i + 1) H3) (hd : ∀ H, Pv xs.length H → Qd H) :
    ∃ W : Nat → Nat → Hp → Prop, (∃ m, W 0 m (upd H1 D (.lst []))) ∧ ∀ i m H, W i m H →
      ((Ite K a).stop i H ∧ Qd H) ∨ ((Ite K a).go i H ∧ ∃ Nx : Hp → Prop, (∀ H', Nx H' → ∃ m', m' < m ∧ W (i + 1) m' H') ∧ ∀ x H', (Ite K a).yld i H x H' → g x (wipe σ vs) H' fun σ2 H2 => wipe σ2 vs = wipe σ vs ∧ tt σ2 H2 fun b H3 =>
        if b = true then te σ2 H3 fun y H4 => ∃ acc, H4 D = some (.lst acc) ∧ acc.length < sizeLine ∧ Nx (upd H4 D (.lst (acc ++ [y]))) else Nx H3) := by
  refine ⟨fun i m H => m = xs.length - i ∧ i ≤ xs.length ∧ Pv i H, ⟨xs.length, by simp, Nat.zero_le _, h0⟩, ?_⟩
  rintro i m H ⟨rfl, hi, p⟩
  have q := hl i H hi p
  by_cases hlt : i < xs.length
  · refine .inr ⟨⟨xs, xs[i], q, by simp [hlt]⟩, Pv (i + 1), fun H' p' => ⟨xs.length - (i + 1), by omega, rfl, hlt, p'⟩, fun x H' y => ?_⟩
    obtain ⟨T, z, e, nT, eH, f⟩ := y
    subst e eH
    exact hs i z _ T (f xs q) p nT
  · have e : i = xs.length := by omega
    subst e
    exact .inl ⟨⟨xs, q, Nat.le_refl _⟩, hd H p⟩
theorem lc_iteT {K : PySem.W.Frag} {a : Addr} {xs : List V} {g : TG} {tt : TT} {te : TE} {vs : List Nat} {σ : L2.St} {H1 : Hp} {D : Addr} {Qd : Hp → Prop} (Pv : Nat → Hp → Prop) (h0 : Pv 0 (upd H1 D (.lst []))) (hl : ∀ i H, i ≤ xs.length → Pv i H → SqT K H a xs)
    (hs : ∀ i x H T, xs[i]? = some x → Pv i H → H T = none → g (.ref T) (wipe σ vs) (upd H T (.tup [.int (i : Nat), x])) fun σ2 H2 => wipe σ2 vs = wipe σ vs ∧ tt σ2 H2 fun b H3 =>
      if b = true then te σ2 H3 fun y H4 => ∃ acc, H4 D = some (.lst acc) ∧ acc.length < sizeLine ∧ Pv (i + 1) (upd H4 D (.lst (acc ++ [y]))) else Pv (i + 1) H3) (hd : ∀ H, Pv xs.length H → Qd H) :
    ∃ W : Nat → Nat → Hp → Prop, (∃ m, W 0 m (upd H1 D (.lst []))) ∧ ∀ i m H, W i m H →
      ((IteT K a).stop i H ∧ Qd H) ∨ ((IteT K a).go i H ∧ ∃ Nx : Hp → Prop, (∀ H', Nx H' → ∃ m', m' < m ∧ W (i + 1) m' H') ∧ ∀ x H', (IteT K a).yld i H x H' → g x (wipe σ vs) H' fun σ2 H2 => wipe σ2 vs = wipe σ vs ∧ tt σ2 H2 fun b H3 =>
        if b = true then te σ2 H3 fun y H4 => ∃ acc, H4 D = some (.lst acc) ∧ acc.length < sizeLine ∧ Nx (upd H4 D (.lst (acc ++ [y]))) else Nx H3) := by
  refine ⟨fun i m H => m = xs.length - i ∧ i ≤ xs.length ∧ Pv i H, ⟨xs.length, by simp, Nat.zero_le _, h0⟩, ?_⟩
  rintro i m H ⟨rfl, hi, p⟩
  have q := hl i H hi p
  by_cases hlt : i < xs.length
  · refine .inr ⟨⟨xs, xs[i], q, by simp [hlt]⟩, Pv (i + 1), fun H' p' => ⟨xs.length - (i + 1), by omega, rfl, hlt, p'⟩, fun x H' y => ?_⟩
    obtain ⟨T, z, e, nT, eH, f⟩ := y
    subst e eH
    exact hs i z _ T (f xs q) p nT
  · have e : i = xs.length := by omega
    subst e
    exact .inl ⟨⟨xs, q, Nat.le_refl _⟩, hd H p⟩
/-- rows of ints compared -/
theorem eqvAll_ints : ∀ xs ys : List Int, PyData.eqvAll (xs.map PyData.int) (ys.map PyData.int) = decide (xs = ys)
  | [], [] => rfl
  | [], _ :: _ => rfl
  | _ :: _, [] => rfl
  | x :: xs, y :: ys => by
    show (PyData.eqv (.int x) (.int y) && PyData.eqvAll (xs.map PyData.int) (ys.map PyData.int)) = _
    rw [eqvAll_ints xs ys]
    show (x == y && decide (xs = ys)) = _
    by_cases h1 : x = y
    · subst h1
      by_cases h2 : xs = ys
      · subst h2
        simp
      · simp [h2]
    · simp [h1]
theorem eqv_lists (xs ys : List Int) : PyData.eqv (.list (xs.map PyData.int)) (.list (ys.map PyData.int)) = decide (xs = ys) := eqvAll_ints xs ys
theorem nV_map (os : List Nat) : nV os = (os.map fun (i : Nat) => (i : Int)).map V.int := by
  unfold nV
  rw [List.map_map]
  rfl
theorem cast_inj {xs ys : List Nat} : (xs.map fun (i : Nat) => (i : Int)) = (ys.map fun (i : Nat) => (i : Int)) ↔ xs = ys := by
  constructor
  · intro h
    have h2 := congrArg (List.map Int.toNat) h
    rw [List.map_map, List.map_map] at h2
    have e : ∀ l : List Nat, l.map (Int.toNat ∘ fun (i : Nat) => (i : Int)) = l := fun l => by
      calc _ = l.map id := List.map_congr_left fun i _ => by simp
        _ = l := List.map_id l
    rw [e, e] at h2
    exact h2
  · intro h
    rw [h]
end L2
namespace L2
open PySem PySem.Spec PyProof.Rows
theorem cut_take (xs : List V) (k : Nat) : cutV xs none (some (k : Int)) = xs.take k := by
  unfold cutV
  rw [HT.sIx_none, HT.sIx_nat, List.drop_zero, Nat.sub_zero]
  by_cases h : k ≤ xs.length
  · rw [Nat.min_eq_left h]
  · rw [Nat.min_eq_right (by omega), List.take_of_length_le (Nat.le_refl _), List.take_of_length_le (by omega)]
theorem cut_drop (xs : List V) (k : Nat) : cutV xs (some (k : Int)) none = xs.drop k := by
  unfold cutV
  rw [HT.sIx_none, HT.sIx_nat]
  by_cases h : k ≤ xs.length
  · rw [Nat.min_eq_left h]
    exact List.take_of_length_le (by rw [List.length_drop]; exact Nat.le_refl _)
  · rw [Nat.min_eq_right (by omega), List.drop_of_length_le (Nat.le_refl _), List.drop_of_length_le (by omega), List.take_nil]
/-- an item is put in where all ahead are ahead of it and all behind behind it -/
theorem put_stab {f : Nat → Int} {i pl : Nat} {os : List Nat} (s : Stab f i os) (h1 : ∀ x ∈ os.take pl, Lx f x i) (h2 : ∀ x ∈ os.drop pl, Lx f i x) : Stab f (i + 1) (os.take pl ++ [i] ++ os.drop pl) := by
  have e : os.take pl ++ os.drop pl = os := List.take_append_drop pl os
  constructor
  · have p1 : (os.take pl ++ [i] ++ os.drop pl).Perm ((os.take pl ++ os.drop pl) ++ [i]) := by
      rw [List.append_assoc, List.append_assoc]
      exact List.Perm.append_left _ List.perm_append_comm
    rw [e] at p1
    refine p1.trans ?_
    rw [List.range_succ]
    exact s.perm.append_right [i]
  · have so := s.sort
    rw [← e, List.pairwise_append] at so
    rw [List.append_assoc, List.pairwise_append]
    refine ⟨so.1, List.pairwise_cons.mpr ⟨h2, so.2.1⟩, fun x hx y hy => ?_⟩
    rcases List.mem_cons.mp hy with rfl | hy
    · exact h1 x hx
    · exact so.2.2 x hx y hy
end L2

namespace L2
open PySem PySem.Spec PyProof.Rows
/-! ### o[lo:hi] = another list -/
def gSlice (to : TE) (tl th : TO) : TG := fun v σ H Q => to σ H fun o H1 => tl σ H1 fun lo H2 => th σ H2 fun hi H3 =>
  ∃ (l b : Addr) (xs ys : List V) (a c : Int), o = .ref l ∧ v = .ref b ∧ lo = some a ∧ hi = some c ∧ H3 l = some (.lst xs) ∧ H3 b = some (.lst ys) ∧ l ≠ b ∧ 0 ≤ a ∧ a ≤ c ∧ c ≤ xs.length ∧ xs.length + ys.length ≤ sizeLine ∧
    Q σ (upd H3 l (.lst (xs.take a.toNat ++ ys ++ xs.drop c.toNat)))
theorem part_int {u : Value} {i : Int} (h : IsPart u (some i)) : RelV (.int i) u := by
  cases h
  exact ⟨_, rfl⟩
theorem pg_slice {X : Cx} {o : Expr} {lo hi : Option Expr} {to : TE} {tl th : TO} {p2 pos : Pos} (ho : PE X o to) (hl : PO X lo tl) (hu : PO X hi th)
    (ha : ∀ v, assign (.Subscript o (.Slice lo hi none p2) pos) X.env v = (do
      let ov ← holding [v] (eval o X.env)
      let iv ← holding [v, ov] (eval (.Slice lo hi none p2) X.env)
      standAt pos
      holding [v, ov, iv] (setItem ov iv v)
      release [iv, v, ov] []) := by intro _; rfl) : PG X (.Subscript o (.Slice lo hi none p2) pos) (gSlice to tl th) := by
  refine ⟨fun pins s σ H v u Q I r h => ?_⟩
  rw [ha]
  refine wpAny_bind (wpAny_holding (thn (ho.run pins s σ H _ I h) fun ov s1 ⟨x, H1, I1, r1, q1⟩ => ?_))
  refine wpAny_bind (wpAny_holding (wpAny_Slice (thn (hl.run pins s1 σ H1 _ I1 q1) fun vl s2 ⟨l, H2, I2, pl, q2⟩ => thn (hu.run pins s2 σ H2 _ I2 q2) fun vu s3 ⟨w', H3, I3, pu, q3⟩ => ?_)))
  rw [evalPart_none]
  refine wpAny_pure ?_
  have I4 : Inv X pins σ H3 { s3 with heap := s3.heap.push { cls := .type "slice", data := .fields #[vl, vu, .none] } } := I3.kept (t' := s3.toks) fun b ob q => Heap.get?_push_of_some _ q
  obtain ⟨li, b, xs, ys, a, c, rfl, rfl, rfl, rfl, hX, hB, ne, h0, hac, hc, hz, q⟩ := q3
  cases r1
  cases r
  refine wpAny_bind (wpAny_standAt (wpAny_bind (wpAny_holding ?_)))
  refine set_slice I4 hX hB ne (Heap.IsSliceOf.new ..) (part_int pl) (part_int pu) h0 hac hc hz fun s5 I5 => ?_
  exact wpAny_release ⟨σ, _, I5, q⟩
end L2
namespace L2
open PySem PySem.Spec PyProof.Rows
/-! ### how a run is found: the state, step by step -/
structure RF where
  row : List Nat
  pl : Nat
  eq : Nat
  st : Nat
  wt : Option (Nat × Nat)
  ln : Option Nat
namespace RF
def turned (row : List Nat) (lo hi : Nat) : List Nat := row.take lo ++ ((row.drop lo).take (hi - lo)).reverse ++ row.drop hi
def turn (f : RF) (lo : Nat) : RF := { f with row := turned f.row lo f.pl }
def finish (s : Nat) (f : RF) : RF := { f with ln := some (f.pl - s), wt := none }
def turnEq (f : RF) : RF := if 0 < f.eq then { f.turn (f.pl - f.eq - 1) with eq := 0 } else f
def askUp (s e : Nat) (f : RF) : RF := if f.pl < e then { f with wt := some (f.row.getD f.pl 0, f.row.getD (f.pl - 1) 0) } else finish s f
def rise (s e : Nat) (f : RF) : RF := askUp s e { (turnEq f).turn s with st := 5 }
def ask (s e : Nat) (f : RF) : RF := if f.pl < e then { f with wt := some (f.row.getD f.pl 0, f.row.getD (f.pl - 1) 0) } else if f.st = 3 then rise s e f else finish s f
def goOn (s e : Nat) (f : RF) : RF := ask s e { f with pl := f.pl + 1 }
def fall (s e : Nat) (f : RF) : RF := goOn s e { f with st := 3 }
def take1 (s e : Nat) (b : Bool) (f : RF) : RF := if b = false then goOn s e f else if f.pl = s + 1 then fall s e f else { f with st := 2, wt := some (f.row.getD s 0, f.row.getD (f.pl - 1) 0) }
def take2 (s e : Nat) (b : Bool) (f : RF) : RF := if b = true then finish s f else fall s e (f.turn s)
def take3 (s e : Nat) (b : Bool) (f : RF) : RF := if b = true then goOn s e (turnEq f) else { f with st := 4, wt := some (f.row.getD (f.pl - 1) 0, f.row.getD f.pl 0) }
def take4 (s e : Nat) (b : Bool) (f : RF) : RF := if b = true then rise s e f else goOn s e { f with eq := f.eq + 1, st := 3 }
def take5 (s e : Nat) (b : Bool) (f : RF) : RF := if b = true then finish s f else goOn s e f
def take (s e : Nat) (b : Bool) (f : RF) : RF := if f.st = 1 then take1 s e b f else if f.st = 2 then take2 s e b f else if f.st = 3 then take3 s e b f else if f.st = 4 then take4 s e b f else take5 s e b f
def init (row : List Nat) (s e : Nat) : RF := ask s e { row := row, pl := s + 1, eq := 0, st := 1, wt := none, ln := none }
/-- what holds between the steps -/
structure WF (s e : Nat) (f : RF) : Prop where
  sp : s < f.pl
  pe : f.pl ≤ e
  er : e ≤ f.row.length
  eq : f.eq + s < f.pl
  rl : f.row.length ≤ 2000
theorem turned_len {row : List Nat} {lo hi : Nat} (h : lo ≤ hi) (h2 : hi ≤ row.length) : (turned row lo hi).length = row.length := by
  unfold turned
  rw [List.length_append, List.length_append, List.length_take, List.length_reverse, List.length_take, List.length_drop, List.length_drop]
  omega
variable {s e : Nat} {f : RF}
theorem WF.turn (w : WF s e f) {lo : Nat} (h : lo ≤ f.pl) : WF s e (f.turn lo) := by
  obtain ⟨a, b, c, d, g⟩ := w
  have l : (f.turn lo).row.length = f.row.length := turned_len h (by omega)
  exact ⟨a, b, by rw [l]; exact c, d, by rw [l]; exact g⟩
theorem WF.turnEq (w : WF s e f) : WF s e f.turnEq := by
  unfold RF.turnEq
  split
  · have w2 := w.turn (lo := f.pl - f.eq - 1) (by omega)
    exact ⟨w2.sp, w2.pe, w2.er, by show 0 + s < f.pl; have := w.sp; omega, w2.rl⟩
  · exact w
theorem turnEq_pl (f : RF) : f.turnEq.pl = f.pl := by
  unfold RF.turnEq
  split <;> rfl
theorem turnEq_st (f : RF) : f.turnEq.st = f.st := by
  unfold RF.turnEq
  split <;> rfl
end RF
def lenV : Option Nat → V
  | none => .non
  | some n => .int (n : Int)
def flds (r : Addr) (s e : Nat) (f : RF) (wv : V) : List (Str × V) :=
  [("row", .ref r), ("start", .int (s : Int)), ("end", .int (e : Int)), ("place", .int (f.pl : Int)), ("equal", .int (f.eq : Int)), ("step", .int (f.st : Int)), ("waiting", wv), ("length", lenV f.ln)]
def WaitAt (H : Hp) (wv : V) : Option (Nat × Nat) → Prop
  | none => wv = .non
  | some (i, j) => ∃ t, wv = .ref t ∧ H t = some (.tup [.int (i : Int), .int (j : Int)])
theorem WaitAt.keep {H H' : Hp} {wv : V} {o : Option (Nat × Nat)} (h : WaitAt H wv o) (k : ∀ t i j, H t = some (.tup [.int i, .int j]) → H' t = some (.tup [.int i, .int j])) : WaitAt H' wv o := by
  cases o with
  | none => exact h
  | some p =>
    obtain ⟨t, e, ht⟩ := h
    exact ⟨t, e, k _ _ _ ht⟩
theorem WaitAt.upd {H : Hp} {wv : V} {o : Option (Nat × Nat)} {x : Addr} {u v : HO} (h : WaitAt H wv o) (hx : H x = some u) (hn : ∀ i j, u ≠ .tup [.int i, .int j]) : WaitAt (L2.upd H x v) wv o :=
  h.keep fun t i j ht => by
    rw [upd_ne (ne_of ht hx (fun e => hn i j e.symm))]
    exact ht
/-- the finder at x, its row at r -/
def FAt (C : Addr) (H : Hp) (x r : Addr) (s e : Nat) (f : RF) : Prop := x ≠ r ∧ ∃ dx wv, H x = some (.ins C dx (flds r s e f wv)) ∧ WaitAt H wv f.wt ∧ H r = some (.lst (nV f.row))
/-- all but x and r stands -/
def Fr2 (x r : Addr) (H H' : Hp) : Prop := ∀ b o, b ≠ x → b ≠ r → H b = some o → H' b = some o
theorem Fr2.refl (x r : Addr) (H : Hp) : Fr2 x r H H := fun _ _ _ _ h => h
theorem Fr2.trans {x r : Addr} {H H1 H2 : Hp} (a : Fr2 x r H H1) (b : Fr2 x r H1 H2) : Fr2 x r H H2 := fun c o n m h => b c o n m (a c o n m h)
theorem Fr2.of {x r : Addr} {H H' : Hp} (a : Same H H') : Fr2 x r H H' := fun c o _ _ h => a c o h
theorem Fr2.putx {x r : Addr} {H : Hp} {u : HO} : Fr2 x r H (L2.upd H x u) := fun c o n _ h => by rw [upd_ne n]; exact h
theorem Fr2.putr {x r : Addr} {H : Hp} {u : HO} : Fr2 x r H (L2.upd H r u) := fun c o _ m h => by rw [upd_ne m]; exact h
theorem FAt.same {C : Addr} {H H' : Hp} {x r : Addr} {s e : Nat} {f : RF} (h : FAt C H x r s e f) (k : Same H H') : FAt C H' x r s e f := by
  obtain ⟨n, dx, wv, hx, hw, hr⟩ := h
  exact ⟨n, dx, wv, k _ _ hx, hw.keep (fun _ _ _ => k _ _), k _ _ hr⟩
end L2

namespace L2
open PySem PySem.Spec PyProof.Rows
theorem cut_mid (xs : List V) (a b : Nat) (h : a ≤ b) (hb : b ≤ xs.length) : cutV xs (some (a : Int)) (some (b : Int)) = (xs.drop a).take (b - a) := by
  unfold cutV
  rw [HT.sIx_nat, HT.sIx_nat, Nat.min_eq_left hb, Nat.min_eq_left (Nat.le_trans h hb)]
theorem nV_turned (row : List Nat) (lo hi : Nat) : (nV row).take lo ++ (((nV row).drop lo).take (hi - lo)).reverse ++ (nV row).drop hi = nV (RF.turned row lo hi) := by
  unfold RF.turned
  simp only [List.map_append, List.map_take, List.map_drop, List.map_reverse]
theorem nV_get {row : List Nat} {i : Nat} (h : i < row.length) : atI (nV row) (i : Int) = some (.int ((row.getD i 0 : Nat) : Int)) := by
  refine atI_nat ?_
  rw [List.getElem?_map, List.getElem?_eq_getElem h]
  simp [List.getD_eq_getElem?_getD, List.getElem?_eq_getElem h]
theorem FAt.put {C x r : Addr} {H : Hp} {s e : Nat} {f f' : RF} {dx : Addr} {wv wv' : V} (h : FAt C H x r s e f) (hx : H x = some (.ins C dx (flds r s e f wv))) (er : f'.row = f.row) (hw : WaitAt H wv' f'.wt) {w : List (Str × V)} (ew : w = flds r s e f' wv') :
    FAt C (upd H x (.ins C dx w)) x r s e f' := by
  obtain ⟨n, _, _, _, _, hr⟩ := h
  subst ew
  refine ⟨n, dx, wv', upd_same, hw.upd hx (fun i j e => by cases e), ?_⟩
  rw [upd_ne n.symm, er]
  exact hr
/-- an attribute is set -/
theorem FAt.set {C x r : Addr} {H : Hp} {s e : Nat} {f : RF} {dx : Addr} {wv : V} (h : FAt C H x r s e f) (hx : H x = some (.ins C dx (flds r s e f wv))) (f' : RF) (wv' : V) (er : f'.row = f.row) (hw : WaitAt H wv' f'.wt) {w : List (Str × V)} (ew : w = flds r s e f' wv') :
    FAt C (upd H x (.ins C dx w)) x r s e f' ∧ upd H x (.ins C dx w) x = some (.ins C dx (flds r s e f' wv')) ∧ Fr2 x r H (upd H x (.ins C dx w)) := by
  subst ew
  exact ⟨h.put hx er hw rfl, upd_same, Fr2.putx⟩
theorem FAt.wait {C x r : Addr} {H : Hp} {s e : Nat} {f : RF} {dx : Addr} {wv : V} (h : FAt C H x r s e f) (hx : H x = some (.ins C dx (flds r s e f wv))) : WaitAt H wv f.wt := by
  obtain ⟨_, dx2, wv2, hx2, hw, _⟩ := h
  rw [hx] at hx2
  have e1 : flds r s e f wv = flds r s e f wv2 := (HO.ins.inj (Option.some.inj hx2)).2.2
  have e3 : some wv = some wv2 := congrArg (fun l : List (Str × V) => l.lookup ("waiting" : Str)) e1
  rw [Option.some.inj e3]
  exact hw
theorem FAt.putRow {C x r : Addr} {H : Hp} {s e : Nat} {f : RF} (h : FAt C H x r s e f) {row : List Nat} {w : List V} (ew : w = nV row) :
    FAt C (upd H r (.lst w)) x r s e { f with row := row } := by
  obtain ⟨n, dx, wv, hx, hw, hr⟩ := h
  subst ew
  refine ⟨n, dx, wv, ?_, hw.upd hr (fun i j e => by cases e), upd_same⟩
  rw [upd_ne n]
  exact hx
def spF0 (C : Addr) (pre : Nat → Nat → RF → Prop) (fn : Nat → Nat → RF → RF) : Sp := fun vs H Q _ => ∃ (x r : Addr) (s e : Nat) (f : RF), vs = [.ref x] ∧ FAt C H x r s e f ∧ RF.WF s e f ∧ pre s e f ∧ ∀ H', FAt C H' x r s e (fn s e f) → Fr2 x r H H' → Q .non H'
def spG (C : Addr) (fn : Nat → Nat → RF → RF) : Sp := fun vs H Q _ => ∃ (x r : Addr) (s e : Nat) (f : RF), vs = [.ref x] ∧ FAt C H x r s e f ∧ RF.WF s e { f with pl := f.pl + 1 } ∧ ∀ H', FAt C H' x r s e (fn s e f) → Fr2 x r H H' → Q .non H'
def spInit (C : Addr) : Sp := fun vs H Q _ => ∃ (x dx r : Addr) (s e : Nat) (row : List Nat), vs = [.ref x, .ref r, .int (s : Int), .int (e : Int)] ∧ H x = some (.ins C dx []) ∧ H r = some (.lst (nV row)) ∧ x ≠ r ∧ s < e ∧ e ≤ row.length ∧ row.length ≤ 2000 ∧ ∀ H', FAt C H' x r s e (RF.init row s e) → Fr2 x r H H' → Q .non H'
def spF1 (C : Addr) (pre : Nat → Nat → RF → Prop) (fn : Nat → Nat → Bool → RF → RF) : Sp := fun vs H Q _ => ∃ (x r : Addr) (s e : Nat) (f : RF) (b : Bool), vs = [.ref x, .bl b] ∧ FAt C H x r s e f ∧ RF.WF s e f ∧ pre s e f ∧ ∀ H', FAt C H' x r s e (fn s e b f) → Fr2 x r H H' → Q .non H'
def spTurn (C : Addr) : Sp := fun vs H Q _ => ∃ (x r : Addr) (s e lo : Nat) (f : RF), vs = [.ref x, .int (lo : Int)] ∧ FAt C H x r s e f ∧ RF.WF s e f ∧ lo ≤ f.pl ∧ ∀ H', FAt C H' x r s e (f.turn lo) → Fr2 x r H H' → Q .non H'
theorem dnF {n m : Nat} (h : n ≠ m) : V.bl (decide (V.int (n : Int) = V.int (m : Int))) = .bl false := by
  refine congrArg V.bl (decide_eq_false fun e => h ?_)
  have := V.int.inj e
  omega
theorem dnT {n m : Nat} (h : n = m) : V.bl (decide (V.int (n : Int) = V.int (m : Int))) = .bl true := congrArg V.bl (decide_eq_true (by rw [h]))
def noP (_ _ : Nat) (_ : RF) : Prop := True
namespace RF
variable {s e : Nat} {f : RF}
theorem WF.rowSame (w : WF s e f) {f' : RF} (h1 : f'.row = f.row) (h2 : f'.pl = f.pl) (h3 : f'.eq = f.eq) : WF s e f' := by
  obtain ⟨a, b, c, d, g⟩ := w
  exact ⟨by rw [h2]; exact a, by rw [h2]; exact b, by rw [h1]; exact c, by rw [h2, h3]; exact d, by rw [h1]; exact g⟩
theorem WF.finish (w : WF s e f) : WF s e (f.finish s) := w.rowSame rfl rfl rfl
theorem WF.askUp (w : WF s e f) : WF s e (f.askUp s e) := by
  unfold RF.askUp
  split
  · exact w.rowSame rfl rfl rfl
  · exact w.finish
theorem WF.pre5 (w : WF s e f) : WF s e { ((RF.turnEq f).turn s : RF) with st := 5 } := by
  have w1 := w.turnEq
  exact (w1.turn (Nat.le_of_lt w1.sp)).rowSame rfl rfl rfl
theorem WF.rise (w : WF s e f) : WF s e (f.rise s e) := w.pre5.askUp
theorem WF.ask (w : WF s e f) : WF s e (f.ask s e) := by
  unfold RF.ask
  split
  · exact w.rowSame rfl rfl rfl
  · split
    · exact w.rise
    · exact w.finish
theorem WF.next (w : WF s e f) (h : f.pl < e) : WF s e { f with pl := f.pl + 1 } := by
  obtain ⟨a, b, c, d, g⟩ := w
  exact ⟨by show s < f.pl + 1; omega, h, c, by show f.eq + s < f.pl + 1; omega, g⟩
theorem WF.goOn (w : WF s e f) (h : f.pl < e) : WF s e (f.goOn s e) := (w.next h).ask
theorem WF.st (w : WF s e f) (k : Nat) : WF s e { f with st := k } := w.rowSame rfl rfl rfl
theorem WF.fall (w : WF s e f) (h : f.pl < e) : WF s e (f.fall s e) := (w.st 3).goOn h
theorem WF.eq1 (w : WF s e f) (h : f.pl < e) : WF s e { f with eq := f.eq + 1, pl := f.pl + 1, st := 3 } := by
  obtain ⟨a, b, c, d, g⟩ := w
  exact ⟨by show s < f.pl + 1; omega, h, c, by show f.eq + 1 + s < f.pl + 1; omega, g⟩
theorem WF.take (w : WF s e f) (h : f.pl < e) (b : Bool) : WF s e (f.take s e b) := by
  unfold RF.take
  split
  · unfold RF.take1
    split
    · exact w.goOn h
    · split
      · exact w.fall h
      · exact w.rowSame rfl rfl rfl
  · split
    · unfold RF.take2
      split
      · exact w.finish
      · exact (w.turn (Nat.le_of_lt w.sp)).fall h
    · split
      · unfold RF.take3
        split
        · exact w.turnEq.goOn (by rw [turnEq_pl]; exact h)
        · exact w.rowSame rfl rfl rfl
      · split
        · unfold RF.take4
          split
          · exact w.rise
          · exact (w.eq1 h).ask
        · unfold RF.take5
          split
          · exact w.finish
          · exact w.goOn h
/-- what waits is asked ahead of the end -/
def Ahead (e : Nat) (f : RF) : Prop := f.wt ≠ none → f.pl < e
theorem ahead_fin : Ahead e (f.finish s) := fun h => absurd rfl h
theorem ahead_askUp : Ahead e (f.askUp s e) := by
  unfold RF.askUp
  split
  · rename_i h
    exact fun _ => h
  · exact ahead_fin
theorem ahead_ask : Ahead e (f.ask s e) := by
  unfold RF.ask
  split
  · rename_i h
    exact fun _ => h
  · split
    · exact ahead_askUp
    · exact ahead_fin
theorem ahead_take (h : f.pl < e) (b : Bool) : Ahead e (f.take s e b) := by
  unfold RF.take
  split
  · unfold RF.take1
    split
    · exact ahead_ask
    · split
      · exact ahead_ask
      · exact fun _ => h
  · split
    · unfold RF.take2
      split
      · exact ahead_fin
      · exact ahead_ask
    · split
      · unfold RF.take3
        split
        · exact ahead_ask
        · exact fun _ => h
      · split
        · unfold RF.take4
          split
          · exact ahead_askUp
          · exact ahead_ask
        · unfold RF.take5
          split
          · exact ahead_fin
          · exact ahead_ask
end RF
end L2

namespace L2
open PySem PySem.Spec PyProof.Rows
namespace RF
variable {s e : Nat} {f : RF}
/-! rows stay rows of the same items -/
theorem turned_perm {row : List Nat} {lo hi : Nat} (h : lo ≤ hi) : (turned row lo hi).Perm row := by
  unfold turned
  have e1 : row = row.take lo ++ (row.drop lo).take (hi - lo) ++ row.drop hi := by
    have a1 : row.drop hi = (row.drop lo).drop (hi - lo) := by
      rw [List.drop_drop]
      congr 1
      omega
    rw [a1, List.append_assoc, List.take_append_drop, List.take_append_drop]
  have e2 : (row.take lo ++ ((row.drop lo).take (hi - lo)).reverse ++ row.drop hi).Perm (row.take lo ++ (row.drop lo).take (hi - lo) ++ row.drop hi) :=
    List.Perm.append_right _ (List.Perm.append_left _ (List.reverse_perm _))
  exact e2.trans (by rw [← e1])
theorem turn_perm (lo : Nat) (h : lo ≤ f.pl) : (f.turn lo).row.Perm f.row := turned_perm h
theorem turnEq_perm : f.turnEq.row.Perm f.row := by
  unfold RF.turnEq
  split
  · exact turned_perm (by omega)
  · exact List.Perm.refl _
theorem askUp_row : (f.askUp s e).row = f.row := by
  unfold RF.askUp
  split <;> rfl
theorem rise_perm (w : WF s e f) : (f.rise s e).row.Perm f.row := by
  unfold RF.rise
  rw [askUp_row]
  have w1 := w.turnEq
  exact (turn_perm s (Nat.le_of_lt w1.sp)).trans turnEq_perm
theorem ask_perm (w : WF s e f) : (f.ask s e).row.Perm f.row := by
  unfold RF.ask
  split
  · exact List.Perm.refl _
  · split
    · exact rise_perm w
    · exact List.Perm.refl _
theorem take_perm (w : WF s e f) (h : f.pl < e) (b : Bool) : (f.take s e b).row.Perm f.row := by
  unfold RF.take
  split
  · unfold RF.take1
    split
    · exact ask_perm (w.next h)
    · split
      · exact ask_perm ((w.st 3).next h)
      · exact List.Perm.refl _
  · split
    · unfold RF.take2
      split
      · exact List.Perm.refl _
      · exact (ask_perm (((w.turn (Nat.le_of_lt w.sp)).st 3).next h)).trans (turn_perm s (Nat.le_of_lt w.sp))
    · split
      · unfold RF.take3
        split
        · exact (ask_perm (w.turnEq.next (by rw [turnEq_pl]; exact h))).trans turnEq_perm
        · exact List.Perm.refl _
      · split
        · unfold RF.take4
          split
          · exact rise_perm w
          · exact ask_perm (w.eq1 h)
        · unfold RF.take5
          split
          · exact List.Perm.refl _
          · exact ask_perm (w.next h)
/-! a measure: how many questions may still come -/
def stw (k : Nat) : Nat := if k = 1 then 1 else if k = 3 then 2 else if k = 4 then 1 else 0
theorem stw_le (k : Nat) : stw k ≤ 2 := by
  unfold stw
  split
  · omega
  · split
    · omega
    · split <;> omega
def mu (e : Nat) (f : RF) : Nat := if f.wt = none then 0 else 1 + 3 * (e - f.pl) + stw f.st
theorem mu_le (e : Nat) (f : RF) : mu e f ≤ 1 + 3 * (e - f.pl) + stw f.st := by
  unfold mu
  split <;> omega
theorem mu_fin : mu e (f.finish s) = 0 := rfl
theorem mu_askUp : mu e (f.askUp s e) ≤ 1 + 3 * (e - f.pl) + stw f.st := by
  unfold RF.askUp
  split
  · exact mu_le e _
  · rw [mu_fin]
    omega
theorem rise_pl : (f.turnEq.turn s).pl = f.pl := turnEq_pl f
theorem mu_rise : mu e (f.rise s e) ≤ 1 + 3 * (e - f.pl) := by
  unfold RF.rise
  refine Nat.le_trans mu_askUp ?_
  show 1 + 3 * (e - (f.turnEq.turn s).pl) + 0 ≤ _
  rw [rise_pl]
  omega
theorem mu_ask : mu e (f.ask s e) ≤ 1 + 3 * (e - f.pl) + stw f.st := by
  unfold RF.ask
  split
  · exact mu_le e _
  · split
    · have := mu_rise (s := s) (e := e) (f := f)
      omega
    · rw [mu_fin]
      omega
theorem mu_goOn : mu e (f.goOn s e) ≤ 1 + 3 * (e - (f.pl + 1)) + stw f.st := mu_ask
theorem mu_fall : mu e (f.fall s e) ≤ 1 + 3 * (e - (f.pl + 1)) + 2 := mu_ask
theorem mu_take (hw : f.wt ≠ none) (h : f.pl < e) (b : Bool) : mu e (f.take s e b) < mu e f := by
  have h0 : mu e f = 1 + 3 * (e - f.pl) + stw f.st := by
    unfold mu
    rw [if_neg hw]
  rw [h0]
  unfold RF.take
  split
  · rename_i h1
    rw [show stw f.st = 1 by rw [h1]; rfl]
    unfold RF.take1
    split
    · have := mu_goOn (s := s) (e := e) (f := f)
      rw [show stw f.st = 1 by rw [h1]; rfl] at this
      omega
    · split
      · have := mu_fall (s := s) (e := e) (f := f)
        omega
      · have := mu_le e { f with st := 2, wt := some (f.row.getD s 0, f.row.getD (f.pl - 1) 0) }
        have e2 : stw ({ f with st := 2, wt := some (f.row.getD s 0, f.row.getD (f.pl - 1) 0) } : RF).st = 0 := rfl
        rw [e2] at this
        have e3 : ({ f with st := 2, wt := some (f.row.getD s 0, f.row.getD (f.pl - 1) 0) } : RF).pl = f.pl := rfl
        rw [e3] at this
        omega
  · split
    · rename_i h1
      unfold RF.take2
      split
      · rw [mu_fin]
        omega
      · have := mu_fall (s := s) (e := e) (f := f.turn s)
        have e3 : (f.turn s).pl = f.pl := rfl
        rw [e3] at this
        omega
    · split
      · rename_i h1
        rw [show stw f.st = 2 by rw [h1]; rfl]
        unfold RF.take3
        split
        · have := mu_goOn (s := s) (e := e) (f := f.turnEq)
          rw [turnEq_pl, turnEq_st, show stw f.st = 2 by rw [h1]; rfl] at this
          omega
        · have := mu_le e { f with st := 4, wt := some (f.row.getD (f.pl - 1) 0, f.row.getD f.pl 0) }
          have e2 : stw ({ f with st := 4, wt := some (f.row.getD (f.pl - 1) 0, f.row.getD f.pl 0) } : RF).st = 1 := rfl
          rw [e2] at this
          have e3 : ({ f with st := 4, wt := some (f.row.getD (f.pl - 1) 0, f.row.getD f.pl 0) } : RF).pl = f.pl := rfl
          rw [e3] at this
          omega
      · split
        · rename_i h1
          rw [show stw f.st = 1 by rw [h1]; rfl]
          unfold RF.take4
          split
          · have := mu_rise (s := s) (e := e) (f := f)
            omega
          · have := mu_goOn (s := s) (e := e) (f := { f with eq := f.eq + 1, st := 3 })
            have e2 : stw ({ f with eq := f.eq + 1, st := 3 } : RF).st = 2 := rfl
            rw [e2] at this
            have e3 : ({ f with eq := f.eq + 1, st := 3 } : RF).pl = f.pl := rfl
            rw [e3] at this
            omega
        · unfold RF.take5
          split
          · rw [mu_fin]
            omega
          · have := mu_goOn (s := s) (e := e) (f := f)
            omega
/-! what waits are two items of the row -/
def Two (f : RF) : Prop := ∀ q, f.wt = some q → ∃ k l, q = (f.row.getD k 0, f.row.getD l 0) ∧ k < f.row.length ∧ l < f.row.length ∧ k ≠ l
theorem two_none (h : f.wt = none) : Two f := fun q e => by rw [h] at e; cases e
theorem two_mk {f : RF} {k l : Nat} (h : f.wt = some (f.row.getD k 0, f.row.getD l 0)) (h1 : k < f.row.length) (h2 : l < f.row.length) (h3 : k ≠ l) : Two f := fun q e => by
  rw [h] at e
  exact ⟨k, l, (Option.some.inj e).symm, h1, h2, h3⟩
theorem two_up {f' : RF} (a : 0 < f'.pl) (c : e ≤ f'.row.length) : Two (f'.askUp s e) := by
  unfold RF.askUp
  split
  · rename_i h
    exact two_mk (k := f'.pl) (l := f'.pl - 1) rfl (by show f'.pl < f'.row.length; omega) (by show f'.pl - 1 < f'.row.length; omega) (by omega)
  · exact two_none rfl
theorem two_rise (w : WF s e f) : Two (f.rise s e) := by
  have w2 := w.pre5
  exact two_up (Nat.lt_of_le_of_lt (Nat.zero_le _) w2.sp) w2.er
theorem two_ask (w : WF s e f) : Two (f.ask s e) := by
  have := w.sp; have := w.er
  unfold RF.ask
  split
  · rename_i h
    exact two_mk (k := f.pl) (l := f.pl - 1) rfl (by show f.pl < f.row.length; omega) (by show f.pl - 1 < f.row.length; omega) (by omega)
  · split
    · exact two_rise w
    · exact two_none rfl
theorem two_take (w : WF s e f) (h : f.pl < e) (b : Bool) : Two (f.take s e b) := by
  have b1 := w.sp; have b2 := w.er
  unfold RF.take
  split
  · unfold RF.take1
    split
    · exact two_ask (w.next h)
    · split
      · exact two_ask ((w.st 3).next h)
      · exact two_mk (k := s) (l := f.pl - 1) rfl (by show s < f.row.length; omega) (by show f.pl - 1 < f.row.length; omega) (by omega)
  · split
    · unfold RF.take2
      split
      · exact two_none rfl
      · exact two_ask (((w.turn (Nat.le_of_lt w.sp)).st 3).next h)
    · split
      · unfold RF.take3
        split
        · exact two_ask (w.turnEq.next (by rw [turnEq_pl]; exact h))
        · exact two_mk (k := f.pl - 1) (l := f.pl) rfl (by show f.pl - 1 < f.row.length; omega) (by show f.pl < f.row.length; omega) (by omega)
      · split
        · unfold RF.take4
          split
          · exact two_rise w
          · exact two_ask (w.eq1 h)
        · unfold RF.take5
          split
          · exact two_none rfl
          · exact two_ask (w.next h)
/-! the length is there when nothing waits -/
def Len (s : Nat) (f : RF) : Prop := (f.wt = none → f.ln = some (f.pl - s)) ∧ (f.wt ≠ none → f.ln = none)
theorem len_fin : Len s (f.finish s) := ⟨fun _ => rfl, fun h => absurd rfl h⟩
theorem len_some {f : RF} {q : Nat × Nat} (h : f.wt = some q) (h2 : f.ln = none) : Len s f := ⟨fun e => (by rw [h] at e; cases e), fun _ => h2⟩
theorem turnEq_ln (f : RF) : f.turnEq.ln = f.ln := by
  unfold RF.turnEq
  split <;> rfl
theorem len_up {f' : RF} (h : f'.ln = none) : Len s (f'.askUp s e) := by
  unfold RF.askUp
  split
  · exact len_some rfl h
  · exact len_fin
theorem len_rise (h : f.ln = none) : Len s (f.rise s e) := len_up (by show f.turnEq.ln = none; rw [turnEq_ln]; exact h)
theorem len_ask {f : RF} (h : f.ln = none) : Len s (f.ask s e) := by
  unfold RF.ask
  split
  · exact len_some rfl h
  · split
    · exact len_rise h
    · exact len_fin
theorem len_take (h : f.ln = none) (b : Bool) : Len s (f.take s e b) := by
  unfold RF.take
  split
  · unfold RF.take1
    split
    · exact len_ask h
    · split
      · exact len_ask h
      · exact len_some rfl h
  · split
    · unfold RF.take2
      split
      · exact len_fin
      · exact len_ask h
    · split
      · unfold RF.take3
        split
        · exact len_ask (by show f.turnEq.ln = none; rw [turnEq_ln]; exact h)
        · exact len_some rfl h
      · split
        · unfold RF.take4
          split
          · exact len_rise h
          · exact len_ask h
        · unfold RF.take5
          split
          · exact len_fin
          · exact len_ask h
/-! all that holds while a run is found -/
structure Good (s e : Nat) (row0 : List Nat) (f : RF) : Prop where
  wf : WF s e f
  ah : Ahead e f
  pm : f.row.Perm row0
  tw : Two f
  le : Len s f
/-- an item of a row of all n -/
theorem item_lt {row row0 : List Nat} {n k : Nat} (h : row.Perm row0) (h0 : row0.Perm (List.range n)) (hk : k < row.length) : row.getD k 0 < n := by
  refine List.mem_range.mp ((h.trans h0).mem_iff.mp ?_)
  rw [List.getD_eq_getElem?_getD, List.getElem?_eq_getElem hk]
  exact List.getElem_mem hk
theorem Good.items {row0 : List Nat} {n : Nat} (g : Good s e row0 f) (h0 : row0.Perm (List.range n)) {q : Nat × Nat} (h : f.wt = some q) : q.1 < n ∧ q.2 < n ∧ q.1 ≠ q.2 := by
  obtain ⟨k, l, rfl, h1, h2, h3⟩ := g.tw q h
  refine ⟨item_lt g.pm h0 h1, item_lt g.pm h0 h2, fun e => h3 ?_⟩
  have nd : f.row.Nodup := (g.pm.trans h0).nodup_iff.mpr List.nodup_range
  have e2 : f.row.getD k 0 = f.row.getD l 0 := e
  rw [List.getD_eq_getElem?_getD, List.getD_eq_getElem?_getD, List.getElem?_eq_getElem h1, List.getElem?_eq_getElem h2] at e2
  exact (List.getElem_inj nd).mp e2
theorem Good.take {row0 : List Nat} (g : Good s e row0 f) (h : f.wt ≠ none) (b : Bool) : Good s e row0 (f.take s e b) :=
  ⟨g.wf.take (g.ah h) b, ahead_take (g.ah h) b, (take_perm g.wf (g.ah h) b).trans g.pm, two_take g.wf (g.ah h) b, len_take (g.le.2 h) b⟩
theorem Good.init {row : List Nat} (h1 : s < e) (h2 : e ≤ row.length) (h3 : row.length ≤ 2000) : Good s e row (RF.init row s e) := by
  have w : WF s e { row := row, pl := s + 1, eq := 0, st := 1, wt := none, ln := none } := ⟨by show s < s + 1; omega, by show s + 1 ≤ e; omega, h2, by show 0 + s < s + 1; omega, h3⟩
  exact ⟨w.ask, ahead_ask, ask_perm w, two_ask w, len_ask rfl⟩
/-- one question more, answered as ls says -/
def stp (ls : Nat × Nat → Bool) (s e : Nat) (f : RF) : RF := match f.wt with
  | none => f
  | some q => f.take s e (ls q)
def stps (ls : Nat × Nat → Bool) (s e : Nat) (f : RF) : Nat → RF
  | 0 => f
  | n + 1 => stp ls s e (stps ls s e f n)
theorem Good.stp {row0 : List Nat} (ls : Nat × Nat → Bool) (g : Good s e row0 f) : Good s e row0 (f.stp ls s e) := by
  unfold RF.stp
  split
  · exact g
  · rename_i q h
    exact g.take (by rw [h]; exact Option.some_ne_none _) _
theorem Good.stps {row0 : List Nat} (ls : Nat × Nat → Bool) (g : Good s e row0 f) : ∀ n, Good s e row0 (f.stps ls s e n)
  | 0 => g
  | n + 1 => (Good.stps ls g n).stp ls
theorem stps_next {ls : Nat × Nat → Bool} {n : Nat} {q : Nat × Nat} (h : (f.stps ls s e n).wt = some q) : f.stps ls s e (n + 1) = (f.stps ls s e n).take s e (ls q) := by
  show RF.stp ls s e (f.stps ls s e n) = _
  unfold RF.stp
  rw [h]
theorem stps_end {ls : Nat × Nat → Bool} {n : Nat} (h : (f.stps ls s e n).wt = none) : f.stps ls s e (n + 1) = f.stps ls s e n := by
  show RF.stp ls s e (f.stps ls s e n) = _
  unfold RF.stp
  rw [h]
theorem stps_stay {ls : Nat × Nat → Bool} {n : Nat} (h : (f.stps ls s e n).wt = none) : ∀ k, f.stps ls s e (n + k) = f.stps ls s e n
  | 0 => rfl
  | k + 1 => by
    have ih := stps_stay h k
    show RF.stps ls s e f ((n + k) + 1) = _
    rw [stps_end (by rw [ih]; exact h), ih]
/-- the first n questions -/
def asks (ls : Nat × Nat → Bool) (s e : Nat) (f : RF) (n : Nat) : List (Nat × Nat) := (List.range n).map fun i => ((f.stps ls s e i).wt).getD (0, 0)
theorem asks_len (ls : Nat × Nat → Bool) (n : Nat) : (f.asks ls s e n).length = n := by
  unfold asks
  rw [List.length_map, List.length_range]
theorem asks_next {ls : Nat × Nat → Bool} {n : Nat} {q : Nat × Nat} (h : (f.stps ls s e n).wt = some q) : f.asks ls s e (n + 1) = f.asks ls s e n ++ [q] := by
  unfold asks
  rw [List.range_succ, List.map_append, List.map_singleton, h]
  rfl
theorem asks_at {ls : Nat × Nat → Bool} {n i : Nat} (h : i < n) : (f.asks ls s e n)[i]? = some (((f.stps ls s e i).wt).getD (0, 0)) := by
  unfold asks
  rw [List.getElem?_map, List.getElem?_range h]
  rfl
end RF
/-- by the keys -/
def less (ns : List Int) (q : Nat × Nat) : Bool := decide (ns.getD q.1 0 < ns.getD q.2 0)
/-- questions, tuples of two items each, in a list -/
def PairAt (H : Hp) (v : V) (q : Nat × Nat) : Prop := ∃ t, v = .ref t ∧ H t = some (.tup [.int (q.1 : Int), .int (q.2 : Int)])
def QAt (H : Hp) (l : Addr) (qs : List (Nat × Nat)) : Prop := ∃ ts : List V, H l = some (.lst ts) ∧ ts.length = qs.length ∧ ∀ (i : Nat) (v : V) (q : Nat × Nat), ts[i]? = some v → qs[i]? = some q → PairAt H v q
theorem PairAt.keep {H H' : Hp} {v : V} {q : Nat × Nat} (h : PairAt H v q) (k : ∀ t i j, H t = some (.tup [.int i, .int j]) → H' t = some (.tup [.int i, .int j])) : PairAt H' v q := by
  obtain ⟨t, e, g⟩ := h
  exact ⟨t, e, k _ _ _ g⟩
theorem QAt.keep {H H' : Hp} {l : Addr} {qs : List (Nat × Nat)} (h : QAt H l qs) (kl : ∀ x, H l = some x → H' l = some x) (k : ∀ t i j, H t = some (.tup [.int i, .int j]) → H' t = some (.tup [.int i, .int j])) : QAt H' l qs := by
  obtain ⟨ts, g, n, a⟩ := h
  exact ⟨ts, kl _ g, n, fun i v q h1 h2 => (a i v q h1 h2).keep k⟩
theorem QAt.same {H H' : Hp} {l : Addr} {qs : List (Nat × Nat)} (h : QAt H l qs) (k : Same H H') : QAt H' l qs := h.keep (fun _ => k _ _) (fun _ _ _ => k _ _)
theorem QAt.nil {H : Hp} {l : Addr} (h : H l = some (.lst [])) : QAt H l [] := ⟨[], h, rfl, fun i v q h1 => by simp at h1⟩
theorem QAt.push {H : Hp} {l : Addr} {qs : List (Nat × Nat)} {ts : List V} (h : H l = some (.lst ts)) (hq : QAt H l qs) {v : V} {q : Nat × Nat} (hv : PairAt H v q) : QAt (upd H l (.lst (ts ++ [v]))) l (qs ++ [q]) := by
  obtain ⟨ts', g, n, a⟩ := hq
  rw [h] at g
  cases g
  have k : ∀ t i j, H t = some (.tup [.int i, .int j]) → upd H l (.lst (ts ++ [v])) t = some (.tup [.int i, .int j]) := fun t i j ht => by
    rw [upd_ne (ne_of ht h (fun e => by cases e))]
    exact ht
  refine ⟨ts ++ [v], upd_same, by simp [n], fun i v' q' h1 h2 => ?_⟩
  by_cases hi : i < ts.length
  · rw [List.getElem?_append_left hi] at h1
    rw [List.getElem?_append_left (by omega)] at h2
    exact (a i v' q' h1 h2).keep k
  · rw [List.getElem?_append_right (by omega)] at h1
    rw [List.getElem?_append_right (by omega)] at h2
    have e0 : i - ts.length = 0 := by
      cases e1 : i - ts.length with
      | zero => rfl
      | succ m =>
        rw [e1] at h1
        simp at h1
    have e0' : i - qs.length = 0 := by omega
    rw [e0] at h1
    rw [e0'] at h2
    cases h1
    cases h2
    exact hv.keep k
end L2

namespace L2
open PySem PySem.Spec PyProof.Rows
/-! ### the law's own walk -/
structure WS where
  row : List Nat
  pl : Nat
  eq : Nat
  st : Nat
namespace WS
def fallRow (w : WS) : List Nat := RF.turned (if 0 < w.eq then RF.turned w.row (w.pl - w.eq - 1) w.pl else w.row) 0 w.pl
def fall (w : WS) : WS := { w with row := fallRow w }
def ans (b : Bool) (w : WS) : WS :=
  if w.st = 1 ∧ b = true then { w with st := if 1 < w.pl then 2 else 3, pl := w.pl + (if w.pl = 1 then 1 else 0) }
  else if w.st = 2 ∧ b = true then { w with st := 0 }
  else if w.st = 2 then { w with row := RF.turned w.row 0 w.pl, st := 3, pl := w.pl + 1 }
  else if w.st = 3 ∧ b = true then { w with row := if 0 < w.eq then RF.turned w.row (w.pl - w.eq - 1) w.pl else w.row, eq := 0, pl := w.pl + 1 }
  else if w.st = 3 then { w with st := 4 }
  else if w.st = 4 ∧ b = true then { w with row := fallRow w, st := 5 }
  else if w.st = 4 then { w with st := 3, eq := w.eq + 1, pl := w.pl + 1 }
  else if b = true then { w with st := 0 }
  else { w with pl := w.pl + 1 }
def lk (size : Nat) (w : WS) : Option (Nat × Nat) :=
  if w.st = 2 then some (w.row.getD 0 0, w.row.getD (w.pl - 1) 0)
  else if w.st = 4 then some (w.row.getD (w.pl - 1) 0, w.row.getD w.pl 0)
  else if w.pl < size then some (w.row.getD w.pl 0, w.row.getD (w.pl - 1) 0) else none
/-- the walk's state behind a look that finds no question -/
def past (size : Nat) (w : WS) : WS := if w.st = 3 then { w with row := fallRow w, st := 5 } else { w with st := 0 }
/-- how the walk stands to the finder: 3 a question waits, 2 and 1 and 0 the end is told in so many turns -/
def At (size : Nat) (w : WS) (f : RF) : Nat → Prop
  | 3 => ∃ q, f.wt = some q ∧ w.row = f.row ∧ w.pl = f.pl ∧ w.st = f.st ∧ 1 ≤ w.st ∧ w.st ≤ 5 ∧ (w.st ≠ 5 → w.eq = f.eq) ∧ lk size w = some q
  | 2 => f.wt = none ∧ w.st = 3 ∧ size ≤ w.pl ∧ w.pl = f.pl ∧ fallRow w = f.row
  | 1 => f.wt = none ∧ (w.st = 1 ∨ w.st = 5) ∧ size ≤ w.pl ∧ w.pl = f.pl ∧ w.row = f.row
  | 0 => f.wt = none ∧ w.st = 0 ∧ w.pl = f.pl ∧ w.row = f.row
  | _ => False
theorem at_ask {size : Nat} {w : WS} {f : RF} (h1 : w.row = f.row) (h2 : w.pl = f.pl) (h3 : w.st = f.st) (h4 : w.st = 1 ∨ w.st = 3 ∨ w.st = 5) (h5 : w.st ≠ 5 → w.eq = f.eq) : ∃ t, t ≤ 3 ∧ At size w (f.ask 0 size) t := by
  unfold RF.ask
  by_cases hp : f.pl < size
  · rw [if_pos hp]
    refine ⟨3, Nat.le_refl _, _, rfl, h1, h2, h3, by omega, by omega, h5, ?_⟩
    unfold lk
    rw [if_neg (by omega), if_neg (by omega), if_pos (by omega), h1, h2]
  · rw [if_neg hp]
    by_cases h : f.st = 3
    · rw [if_pos h]
      have e1 : f.rise 0 size = RF.finish 0 { (f.turnEq.turn 0 : RF) with st := 5 } := by
        unfold RF.rise RF.askUp
        rw [if_neg (by show ¬ f.turnEq.pl < size; rw [RF.turnEq_pl]; exact hp)]
      rw [e1]
      refine ⟨2, by omega, rfl, by omega, by omega, ?_, ?_⟩
      · show w.pl = f.turnEq.pl
        rw [RF.turnEq_pl, h2]
      · show fallRow w = RF.turned f.turnEq.row 0 f.turnEq.pl
        rw [RF.turnEq_pl]
        unfold fallRow RF.turnEq
        rw [h1, h2, h5 (by omega)]
        by_cases h0 : 0 < f.eq
        · rw [if_pos h0, if_pos h0]
          rfl
        · rw [if_neg h0, if_neg h0]
    · rw [if_neg h]
      exact ⟨1, by omega, rfl, by omega, by omega, h2, h1⟩
theorem at_ans {size : Nat} {w : WS} {f : RF} (hf : 0 < f.pl) (h : At size w f 3) (b : Bool) : ∃ t, t ≤ 3 ∧ At size (w.ans b) (f.take 0 size b) t := by
  obtain ⟨q, hq, h1, h2, h3, h4, h5, h6, h7⟩ := h
  unfold ans RF.take
  by_cases s1 : w.st = 1
  · rw [if_pos (show f.st = 1 by omega)]
    unfold RF.take1
    cases b with
    | false =>
      rw [if_neg (by simp), if_neg (by simp), if_neg (by omega), if_neg (by simp), if_neg (by omega), if_neg (by simp), if_neg (by omega), if_neg (by simp), if_pos rfl]
      exact at_ask (w := { w with pl := w.pl + 1 }) (f := { f with pl := f.pl + 1 }) h1 (by show w.pl + 1 = f.pl + 1; omega) h3 (.inl s1) h6
    | true =>
      rw [if_pos ⟨s1, rfl⟩, if_neg (show ¬ (true = false) by decide)]
      by_cases hp : f.pl = 0 + 1
      · rw [if_pos hp, if_neg (show ¬ 1 < w.pl by omega), if_pos (show w.pl = 1 by omega)]
        exact at_ask (w := { w with st := 3, pl := w.pl + 1 }) (f := { f with st := 3, pl := f.pl + 1 }) h1 (by show w.pl + 1 = f.pl + 1; omega) rfl (.inr (.inl rfl)) (fun _ => h6 (by omega))
      · rw [if_neg hp, if_pos (show 1 < w.pl by omega), if_neg (show ¬ w.pl = 1 by omega)]
        refine ⟨3, Nat.le_refl _, _, rfl, h1, h2, rfl, by show 1 ≤ 2; omega, by show 2 ≤ 5; omega, fun _ => h6 (by omega), ?_⟩
        unfold lk
        rw [if_pos rfl, h1, Nat.add_zero, h2]
  rw [if_neg (fun e => s1 e.1), if_neg (show ¬ f.st = 1 by omega)]
  by_cases s2 : w.st = 2
  · rw [if_pos (show f.st = 2 by omega)]
    unfold RF.take2
    cases b with
    | true =>
      rw [if_pos ⟨s2, rfl⟩, if_pos rfl]
      exact ⟨0, by omega, rfl, rfl, h2, h1⟩
    | false =>
      rw [if_neg (by simp), if_pos s2, if_neg (by simp)]
      exact at_ask (w := { w with row := RF.turned w.row 0 w.pl, st := 3, pl := w.pl + 1 }) (f := { (f.turn 0 : RF) with st := 3, pl := (f.turn 0).pl + 1 }) (by show RF.turned w.row 0 w.pl = RF.turned f.row 0 f.pl; rw [h1, h2]) (by show w.pl + 1 = f.pl + 1; omega) rfl (.inr (.inl rfl)) (fun _ => h6 (by omega))
  rw [if_neg (fun e => s2 e.1), if_neg s2, if_neg (show ¬ f.st = 2 by omega)]
  by_cases s3 : w.st = 3
  · rw [if_pos (show f.st = 3 by omega)]
    unfold RF.take3
    cases b with
    | true =>
      rw [if_pos ⟨s3, rfl⟩, if_pos rfl]
      refine at_ask (w := { w with row := if 0 < w.eq then RF.turned w.row (w.pl - w.eq - 1) w.pl else w.row, eq := 0, pl := w.pl + 1 }) (f := { (f.turnEq : RF) with pl := f.turnEq.pl + 1 }) ?_ (by show w.pl + 1 = f.turnEq.pl + 1; rw [RF.turnEq_pl, h2]) (by show w.st = f.turnEq.st; rw [RF.turnEq_st, h3]) (.inr (.inl s3)) (fun _ => ?_)
      · show (if 0 < w.eq then RF.turned w.row (w.pl - w.eq - 1) w.pl else w.row) = f.turnEq.row
        unfold RF.turnEq
        rw [h1, h2, h6 (by omega)]
        by_cases h0 : 0 < f.eq
        · rw [if_pos h0, if_pos h0]
          rfl
        · rw [if_neg h0, if_neg h0]
      · show 0 = f.turnEq.eq
        unfold RF.turnEq
        by_cases h0 : 0 < f.eq
        · rw [if_pos h0]
        · rw [if_neg h0]
          omega
    | false =>
      rw [if_neg (by simp), if_pos s3, if_neg (by simp)]
      refine ⟨3, Nat.le_refl _, _, rfl, h1, h2, rfl, by show 1 ≤ 4; omega, by show 4 ≤ 5; omega, fun _ => h6 (by omega), ?_⟩
      unfold lk
      rw [if_neg (by show ¬ 4 = 2; decide), if_pos rfl, h1, h2]
  rw [if_neg (fun e => s3 e.1), if_neg s3, if_neg (show ¬ f.st = 3 by omega)]
  by_cases s4 : w.st = 4
  · rw [if_pos (show f.st = 4 by omega)]
    unfold RF.take4
    cases b with
    | true =>
      rw [if_pos ⟨s4, rfl⟩, if_pos rfl]
      have e1 : f.rise 0 size = RF.ask 0 size { (f.turnEq.turn 0 : RF) with st := 5 } := by
        unfold RF.rise RF.askUp RF.ask
        rw [if_neg (show ¬ ({ (f.turnEq.turn 0 : RF) with st := 5 } : RF).st = 3 by show ¬ 5 = 3; decide)]
      rw [e1]
      refine at_ask (w := { w with row := fallRow w, st := 5 }) (f := { (f.turnEq.turn 0 : RF) with st := 5 }) ?_ (by show w.pl = f.turnEq.pl; rw [RF.turnEq_pl, h2]) rfl (.inr (.inr rfl)) (fun e => absurd rfl e)
      show fallRow w = RF.turned f.turnEq.row 0 f.turnEq.pl
      rw [RF.turnEq_pl]
      unfold fallRow RF.turnEq
      rw [h1, h2, h6 (by omega)]
      by_cases h0 : 0 < f.eq
      · rw [if_pos h0, if_pos h0]
        rfl
      · rw [if_neg h0, if_neg h0]
    | false =>
      rw [if_neg (by simp), if_pos s4, if_neg (by simp)]
      exact at_ask (w := { w with st := 3, eq := w.eq + 1, pl := w.pl + 1 }) (f := { f with eq := f.eq + 1, st := 3, pl := f.pl + 1 }) h1 (by show w.pl + 1 = f.pl + 1; omega) rfl (.inr (.inl rfl)) (fun _ => by show w.eq + 1 = f.eq + 1; rw [h6 (by omega)])
  rw [if_neg (fun e => s4 e.1), if_neg s4, if_neg (show ¬ f.st = 4 by omega)]
  unfold RF.take5
  cases b with
  | true =>
    rw [if_pos rfl, if_pos rfl]
    exact ⟨0, by omega, rfl, rfl, h2, h1⟩
  | false =>
    rw [if_neg (by simp), if_neg (by simp)]
    exact at_ask (w := { w with pl := w.pl + 1 }) (f := { f with pl := f.pl + 1 }) h1 (by show w.pl + 1 = f.pl + 1; omega) h3 (.inr (.inr (by show w.st = 5; omega))) h6
/-- what the walk keeps between its steps -/
structure Ok (w : WS) : Prop where
  p1 : 0 < w.pl
  pl : w.pl ≤ w.row.length
  eq : w.eq < w.pl
  rl : w.row.length ≤ 2000
theorem fallRow_len {w : WS} (o : Ok w) : (fallRow w).length = w.row.length := by
  have := o.pl; have := o.eq
  unfold fallRow
  by_cases h0 : 0 < w.eq
  · rw [if_pos h0]
    have l1 : (RF.turned w.row (w.pl - w.eq - 1) w.pl).length = w.row.length := RF.turned_len (by omega) o.pl
    rw [RF.turned_len (Nat.zero_le _) (by omega), l1]
  · rw [if_neg h0]
    exact RF.turned_len (Nat.zero_le _) o.pl
theorem Ok.past {w : WS} (o : Ok w) (size : Nat) : Ok (past size w) ∧ (WS.past size w).row.length = w.row.length := by
  obtain ⟨a, b, c, d⟩ := id o
  unfold WS.past
  split
  · have l := fallRow_len o
    exact ⟨⟨a, by show w.pl ≤ (fallRow w).length; omega, c, by show (fallRow w).length ≤ 2000; omega⟩, l⟩
  · exact ⟨⟨a, b, c, d⟩, rfl⟩
theorem Ok.ans {w : WS} (o : Ok w) (h : w.pl < w.row.length) (b : Bool) : Ok (w.ans b) ∧ (w.ans b).row.length = w.row.length := by
  obtain ⟨p1, p2, p3, p4⟩ := id o
  have lf := fallRow_len o
  have l0 : (RF.turned w.row 0 w.pl).length = w.row.length := RF.turned_len (Nat.zero_le _) p2
  have l1 : (if 0 < w.eq then RF.turned w.row (w.pl - w.eq - 1) w.pl else w.row).length = w.row.length := by
    split
    · exact RF.turned_len (by omega) p2
    · rfl
  unfold WS.ans
  split
  · refine ⟨⟨?_, ?_, ?_, p4⟩, rfl⟩
    · show 0 < w.pl + _
      omega
    · show w.pl + (if w.pl = 1 then 1 else 0) ≤ w.row.length
      split <;> omega
    · show w.eq < w.pl + _
      omega
  split
  · exact ⟨⟨p1, p2, p3, p4⟩, rfl⟩
  split
  · exact ⟨⟨by show 0 < w.pl + 1; omega, by show w.pl + 1 ≤ (RF.turned w.row 0 w.pl).length; omega, by show w.eq < w.pl + 1; omega, by show (RF.turned w.row 0 w.pl).length ≤ 2000; omega⟩, l0⟩
  split
  · exact ⟨⟨by show 0 < w.pl + 1; omega, by show w.pl + 1 ≤ (if 0 < w.eq then RF.turned w.row (w.pl - w.eq - 1) w.pl else w.row).length; omega, by show 0 < w.pl + 1; omega, by show (if 0 < w.eq then RF.turned w.row (w.pl - w.eq - 1) w.pl else w.row).length ≤ 2000; omega⟩, l1⟩
  split
  · exact ⟨⟨p1, p2, p3, p4⟩, rfl⟩
  split
  · exact ⟨⟨p1, by show w.pl ≤ (fallRow w).length; omega, p3, by show (fallRow w).length ≤ 2000; omega⟩, lf⟩
  split
  · exact ⟨⟨by show 0 < w.pl + 1; omega, by show w.pl + 1 ≤ w.row.length; omega, by show w.eq + 1 < w.pl + 1; omega, p4⟩, rfl⟩
  split
  · exact ⟨⟨p1, p2, p3, p4⟩, rfl⟩
  · exact ⟨⟨by show 0 < w.pl + 1; omega, by show w.pl + 1 ≤ w.row.length; omega, by show w.eq < w.pl + 1; omega, p4⟩, rfl⟩
end WS
namespace RF
/-- told the answers bs one after another -/
def fed (size : Nat) (bs : List Bool) : Nat → RF
  | 0 => RF.init (List.range size) 0 size
  | k + 1 => match (fed size bs k).wt with
    | none => fed size bs k
    | some _ => (fed size bs k).take 0 size (bs.getD k false)
theorem fed_next {size : Nat} {bs : List Bool} {k : Nat} {q : Nat × Nat} (h : (fed size bs k).wt = some q) : fed size bs (k + 1) = (fed size bs k).take 0 size (bs.getD k false) := by
  show (match (fed size bs k).wt with
    | none => fed size bs k
    | some _ => (fed size bs k).take 0 size (bs.getD k false)) = _
  rw [h]
theorem fed_end {size : Nat} {bs : List Bool} {k : Nat} (h : (fed size bs k).wt = none) : fed size bs (k + 1) = fed size bs k := by
  show (match (fed size bs k).wt with
    | none => fed size bs k
    | some _ => (fed size bs k).take 0 size (bs.getD k false)) = _
  rw [h]
theorem fed_stay {size : Nat} {bs : List Bool} {n : Nat} (h : (fed size bs n).wt = none) : ∀ k, fed size bs (n + k) = fed size bs n
  | 0 => rfl
  | k + 1 => by
    have ih := fed_stay h k
    show fed size bs ((n + k) + 1) = _
    rw [fed_end (by rw [ih]; exact h), ih]
theorem fed_good {size : Nat} (h1 : 0 < size) (h2 : size ≤ 2000) (bs : List Bool) : ∀ k, Good 0 size (List.range size) (fed size bs k)
  | 0 => Good.init h1 (by rw [List.length_range]; exact Nat.le_refl _) (by rw [List.length_range]; exact h2)
  | k + 1 => by
    have ih := fed_good h1 h2 bs k
    cases h : (fed size bs k).wt with
    | none => rw [fed_end h]; exact ih
    | some q => rw [fed_next h]; exact ih.take (by rw [h]; exact Option.some_ne_none _) _
def askB (size : Nat) (bs : List Bool) (n : Nat) : List (Nat × Nat) := (List.range n).map fun i => ((fed size bs i).wt).getD (0, 0)
theorem askB_len (size : Nat) (bs : List Bool) (n : Nat) : (askB size bs n).length = n := by
  unfold askB
  rw [List.length_map, List.length_range]
theorem askB_next {size : Nat} {bs : List Bool} {n : Nat} {q : Nat × Nat} (h : (fed size bs n).wt = some q) : askB size bs (n + 1) = askB size bs n ++ [q] := by
  unfold askB
  rw [List.range_succ, List.map_append, List.map_singleton, h]
  rfl
end RF
theorem QAt.ne {H : Hp} {l r : Addr} {qs : List (Nat × Nat)} {row : List Nat} (h : QAt H l qs) (hr : H r = some (.lst (nV row))) (n : row ≠ []) : r ≠ l := by
  intro e
  obtain ⟨ts, h1, h2, h3⟩ := h
  rw [← e, hr] at h1
  cases row with
  | nil => exact n rfl
  | cons x rest =>
    have e2 : ts = nV (x :: rest) := (HO.lst.inj (Option.some.inj h1)).symm
    cases qs with
    | nil => rw [e2] at h2; cases h2
    | cons q qs =>
      obtain ⟨t, e3, _⟩ := h3 0 (.int (x : Int)) q (by rw [e2]; rfl) rfl
      cases e3
end L2

namespace L2
open PySem PySem.Spec PyProof.Rows
namespace RF
/-! ### a run at s is a run at 0, moved by s -/
def shRow (s : Nat) (row : List Nat) : List Nat := List.range s ++ row.map (fun i => s + i)
def sh (s : Nat) (g : RF) : RF := { row := shRow s g.row, pl := s + g.pl, eq := g.eq, st := g.st, wt := g.wt.map (fun q => (s + q.1, s + q.2)), ln := g.ln }
variable {s size : Nat} {g : RF}
theorem shRow_len (s : Nat) (row : List Nat) : (shRow s row).length = s + row.length := by
  unfold shRow
  rw [List.length_append, List.length_range, List.length_map]
theorem shRow_range (s n : Nat) : shRow s (List.range n) = List.range (s + n) := by
  unfold shRow
  rw [List.range_add]
theorem turned_sh (s lo hi : Nat) (row : List Nat) : turned (shRow s row) (s + lo) (s + hi) = shRow s (turned row lo hi) := by
  unfold turned shRow
  have l : (List.range s).length = s := List.length_range
  have e1 : (List.range s ++ row.map (fun i => s + i)).take (s + lo) = List.range s ++ (row.take lo).map (fun i => s + i) := by
    rw [List.take_append, List.take_of_length_le (by omega), l, Nat.add_sub_cancel_left, List.map_take]
  have e2 : ∀ k, (List.range s ++ row.map (fun i => s + i)).drop (s + k) = (row.drop k).map (fun i => s + i) := fun k => by
    rw [List.drop_append, List.drop_of_length_le (by omega), l, Nat.add_sub_cancel_left, List.map_drop]
    rfl
  rw [e1, e2, e2, show s + hi - (s + lo) = hi - lo by omega]
  simp only [List.map_append, List.map_reverse, List.map_take, List.append_assoc]
theorem getD_sh {row : List Nat} {k : Nat} (h : k < row.length) : (shRow s row).getD (s + k) 0 = s + row.getD k 0 := by
  unfold shRow
  rw [List.getD_eq_getElem?_getD, List.getD_eq_getElem?_getD, List.getElem?_append_right (by rw [List.length_range]; omega), List.length_range, Nat.add_sub_cancel_left, List.getElem?_map, List.getElem?_eq_getElem h]
  rfl
theorem ext {f g : RF} (h1 : f.row = g.row) (h2 : f.pl = g.pl) (h3 : f.eq = g.eq) (h4 : f.st = g.st) (h5 : f.wt = g.wt) (h6 : f.ln = g.ln) : f = g := by
  cases f
  cases g
  cases h1
  cases h2
  cases h3
  cases h4
  cases h5
  cases h6
  rfl
theorem sh_turn (lo : Nat) : (sh s g).turn (s + lo) = sh s (g.turn lo) := ext (turned_sh s lo g.pl g.row) rfl rfl rfl rfl rfl
theorem sh_turnEq (w : WF 0 size g) : (sh s g).turnEq = sh s g.turnEq := by
  unfold RF.turnEq
  by_cases h : 0 < g.eq
  · have := w.eq
    rw [if_pos h, if_pos (show 0 < (sh s g).eq from h)]
    have e : (sh s g).pl - (sh s g).eq - 1 = s + (g.pl - g.eq - 1) := by show s + g.pl - g.eq - 1 = _; omega
    rw [e, sh_turn]
    rfl
  · rw [if_neg h, if_neg (show ¬ 0 < (sh s g).eq from h)]
theorem sh_fin : (sh s g).finish s = sh s (g.finish 0) := ext rfl rfl rfl rfl rfl (by show some (s + g.pl - s) = some (g.pl - 0); rw [Nat.add_sub_cancel_left]; rfl)
theorem sh_w {g' : RF} {k l : Nat} (h1 : k < g'.row.length) (h2 : l < g'.row.length) : ({ sh s g' with wt := some ((sh s g').row.getD (s + k) 0, (sh s g').row.getD (s + l) 0) } : RF) = sh s { g' with wt := some (g'.row.getD k 0, g'.row.getD l 0) } := by
  refine ext rfl rfl rfl rfl ?_ rfl
  show some ((shRow s g'.row).getD (s + k) 0, (shRow s g'.row).getD (s + l) 0) = some (s + g'.row.getD k 0, s + g'.row.getD l 0)
  rw [getD_sh h1, getD_sh h2]
theorem sh_up {g' : RF} (a : 0 < g'.pl) (c : size ≤ g'.row.length) : (sh s g').askUp s (s + size) = sh s (g'.askUp 0 size) := by
  unfold RF.askUp
  by_cases h : g'.pl < size
  · rw [if_pos h, if_pos (show (sh s g').pl < s + size by show s + g'.pl < s + size; omega)]
    have e : (sh s g').pl - 1 = s + (g'.pl - 1) := by show s + g'.pl - 1 = _; omega
    rw [e]
    exact sh_w (by omega) (by omega)
  · rw [if_neg h, if_neg (show ¬ (sh s g').pl < s + size by show ¬ s + g'.pl < s + size; omega)]
    exact sh_fin
theorem sh_rise (w : WF 0 size g) : (sh s g).rise s (s + size) = sh s (g.rise 0 size) := by
  unfold RF.rise
  have w2 := w.pre5
  have e : ({ ((sh s g).turnEq.turn s : RF) with st := 5 } : RF) = sh s { (g.turnEq.turn 0 : RF) with st := 5 } := by
    have e1 : (sh s g).turnEq.turn s = sh s (g.turnEq.turn 0) := by
      rw [sh_turnEq w]
      exact sh_turn 0
    rw [e1]
    rfl
  rw [e]
  exact sh_up (Nat.lt_of_le_of_lt (Nat.zero_le _) w2.sp) w2.er
theorem sh_ask (w : WF 0 size g) : (sh s g).ask s (s + size) = sh s (g.ask 0 size) := by
  have b1 := w.sp; have b2 := w.er
  unfold RF.ask
  by_cases h : g.pl < size
  · rw [if_pos h, if_pos (show (sh s g).pl < s + size by show s + g.pl < s + size; omega)]
    have e : (sh s g).pl - 1 = s + (g.pl - 1) := by show s + g.pl - 1 = _; omega
    rw [e]
    exact sh_w (by omega) (by omega)
  · rw [if_neg h, if_neg (show ¬ (sh s g).pl < s + size by show ¬ s + g.pl < s + size; omega)]
    by_cases h3 : g.st = 3
    · rw [if_pos h3, if_pos (show (sh s g).st = 3 from h3)]
      exact sh_rise w
    · rw [if_neg h3, if_neg (show ¬ (sh s g).st = 3 from h3)]
      exact sh_fin
theorem sh_goOn (w : WF 0 size { g with pl := g.pl + 1 }) : (sh s g).goOn s (s + size) = sh s (g.goOn 0 size) := by
  unfold RF.goOn
  rw [← sh_ask w]
  rfl
theorem sh_take (w : WF 0 size g) (h : g.pl < size) (b : Bool) : (sh s g).take s (s + size) b = sh s (g.take 0 size b) := by
  have b1 := w.sp; have b2 := w.er
  unfold RF.take
  show (if g.st = 1 then _ else if g.st = 2 then _ else if g.st = 3 then _ else if g.st = 4 then _ else _) = sh s (if g.st = 1 then _ else if g.st = 2 then _ else if g.st = 3 then _ else if g.st = 4 then _ else _)
  by_cases s1 : g.st = 1
  · rw [if_pos s1, if_pos s1]
    unfold RF.take1
    cases b with
    | false =>
      rw [if_pos rfl, if_pos rfl]
      exact sh_goOn (w.next h)
    | true =>
      rw [if_neg (show ¬ (true = false) by decide), if_neg (show ¬ (true = false) by decide)]
      by_cases hp : g.pl = 0 + 1
      · rw [if_pos hp, if_pos (show (sh s g).pl = s + 1 by show s + g.pl = s + 1; omega)]
        exact sh_goOn (g := { g with st := 3 }) ((w.st 3).next h)
      · rw [if_neg hp, if_neg (show ¬ (sh s g).pl = s + 1 by show ¬ s + g.pl = s + 1; omega)]
        have e : (sh s g).pl - 1 = s + (g.pl - 1) := by show s + g.pl - 1 = _; omega
        rw [e]
        exact sh_w (g' := { g with st := 2 }) (k := 0) (l := g.pl - 1) (by show 0 < g.row.length; omega) (by show g.pl - 1 < g.row.length; omega)
  rw [if_neg s1, if_neg s1]
  by_cases s2 : g.st = 2
  · rw [if_pos s2, if_pos s2]
    unfold RF.take2
    cases b with
    | true =>
      rw [if_pos rfl, if_pos rfl]
      exact sh_fin
    | false =>
      rw [if_neg (show ¬ (false = true) by decide), if_neg (show ¬ (false = true) by decide)]
      have e : (sh s g).turn s = sh s (g.turn 0) := sh_turn 0
      rw [e]
      exact sh_goOn (g := { (g.turn 0 : RF) with st := 3 }) (((w.turn (Nat.le_of_lt w.sp)).st 3).next h)
  rw [if_neg s2, if_neg s2]
  by_cases s3 : g.st = 3
  · rw [if_pos s3, if_pos s3]
    unfold RF.take3
    cases b with
    | true =>
      rw [if_pos rfl, if_pos rfl, sh_turnEq w]
      exact sh_goOn (w.turnEq.next (by rw [turnEq_pl]; exact h))
    | false =>
      rw [if_neg (show ¬ (false = true) by decide), if_neg (show ¬ (false = true) by decide)]
      have e : (sh s g).pl - 1 = s + (g.pl - 1) := by show s + g.pl - 1 = _; omega
      rw [e]
      exact sh_w (g' := { g with st := 4 }) (k := g.pl - 1) (l := g.pl) (by show g.pl - 1 < g.row.length; omega) (by show g.pl < g.row.length; omega)
  rw [if_neg s3, if_neg s3]
  by_cases s4 : g.st = 4
  · rw [if_pos s4, if_pos s4]
    unfold RF.take4
    cases b with
    | true =>
      rw [if_pos rfl, if_pos rfl]
      exact sh_rise w
    | false =>
      rw [if_neg (show ¬ (false = true) by decide), if_neg (show ¬ (false = true) by decide)]
      exact sh_goOn (g := { g with eq := g.eq + 1, st := 3 }) (w.eq1 h)
  rw [if_neg s4, if_neg s4]
  unfold RF.take5
  cases b with
  | true =>
    rw [if_pos rfl, if_pos rfl]
    exact sh_fin
  | false =>
    rw [if_neg (show ¬ (false = true) by decide), if_neg (show ¬ (false = true) by decide)]
    exact sh_goOn (w.next h)
theorem sh_init (h : 0 < size) (h2 : size ≤ 2000) : RF.init (List.range (s + size)) s (s + size) = sh s (RF.init (List.range size) 0 size) := by
  unfold RF.init
  have w : WF 0 size { row := List.range size, pl := 0 + 1, eq := 0, st := 1, wt := none, ln := none } := ⟨by show 0 < 0 + 1; omega, by show 0 + 1 ≤ size; omega, by show size ≤ (List.range size).length; rw [List.length_range]; exact Nat.le_refl _, by show 0 + 0 < 0 + 1; omega, by show (List.range size).length ≤ 2000; rw [List.length_range]; exact h2⟩
  rw [← sh_ask w]
  congr 1
  exact ext (shRow_range s size).symm rfl rfl rfl rfl rfl
/-! behind the place nothing has moved -/
def Tail (n : Nat) (f : RF) : Prop := ∀ k, f.pl ≤ k → f.row.drop k = (List.range n).drop k
theorem turned_tail {row : List Nat} {lo hi k : Nat} (h : lo ≤ hi) (h2 : hi ≤ row.length) (hk : hi ≤ k) : (turned row lo hi).drop k = row.drop k := by
  unfold turned
  have l : (row.take lo ++ ((row.drop lo).take (hi - lo)).reverse).length = hi := by
    rw [List.length_append, List.length_take, List.length_reverse, List.length_take, List.length_drop]
    omega
  rw [List.drop_append, List.drop_of_length_le (by omega), l, List.drop_drop, List.nil_append]
  congr 1
  omega
section
variable {n : Nat} {f : RF} {e : Nat}
theorem tail_turn {lo : Nat} (t : Tail n f) (h : lo ≤ f.pl) (h2 : f.pl ≤ f.row.length) : Tail n (f.turn lo) := fun k hk => (turned_tail h h2 hk).trans (t k hk)
theorem tail_turnEq (t : Tail n f) (h2 : f.pl ≤ f.row.length) : Tail n f.turnEq := by
  unfold RF.turnEq
  split
  · exact fun k hk => tail_turn t (by omega) h2 k hk
  · exact t
theorem tail_up (t : Tail n f) : Tail n (f.askUp s e) := by
  unfold RF.askUp
  split
  · exact t
  · exact t
theorem tail_rise (w : WF s e f) (t : Tail n f) : Tail n (f.rise s e) := by
  have w1 := w.turnEq
  have h2 : f.pl ≤ f.row.length := Nat.le_trans w.pe w.er
  have t1 : Tail n f.turnEq := tail_turnEq t h2
  exact tail_up (f := { (f.turnEq.turn s : RF) with st := 5 }) (tail_turn t1 (Nat.le_of_lt w1.sp) (Nat.le_trans w1.pe w1.er))
theorem tail_ask (w : WF s e f) (t : Tail n f) : Tail n (f.ask s e) := by
  unfold RF.ask
  split
  · exact t
  · split
    · exact tail_rise w t
    · exact t
theorem tail_next (t : Tail n f) : Tail n { f with pl := f.pl + 1 } := fun k hk => t k (Nat.le_of_succ_le hk)
theorem tail_take (w : WF s e f) (h : f.pl < e) (t : Tail n f) (b : Bool) : Tail n (f.take s e b) := by
  have h2 : f.pl ≤ f.row.length := Nat.le_trans w.pe w.er
  unfold RF.take
  split
  · unfold RF.take1
    split
    · exact tail_ask (w.next h) (tail_next t)
    · split
      · exact tail_ask ((w.st 3).next h) (tail_next t)
      · exact t
  · split
    · unfold RF.take2
      split
      · exact t
      · exact tail_ask (((w.turn (Nat.le_of_lt w.sp)).st 3).next h) (tail_next (tail_turn t (Nat.le_of_lt w.sp) h2))
    · split
      · unfold RF.take3
        split
        · exact tail_ask (w.turnEq.next (by rw [turnEq_pl]; exact h)) (tail_next (tail_turnEq t h2))
        · exact t
      · split
        · unfold RF.take4
          split
          · exact tail_rise w t
          · exact tail_ask (w.eq1 h) (tail_next t)
        · unfold RF.take5
          split
          · exact t
          · exact tail_ask (w.next h) (tail_next t)
end
theorem fed_tail {size : Nat} (h1 : 0 < size) (h2 : size ≤ 2000) (bs : List Bool) : ∀ k, Tail size (fed size bs k)
  | 0 => by
    have w : WF 0 size { row := List.range size, pl := 0 + 1, eq := 0, st := 1, wt := none, ln := none } := ⟨by show 0 < 0 + 1; omega, by show 0 + 1 ≤ size; omega, by show size ≤ (List.range size).length; rw [List.length_range]; exact Nat.le_refl _, by show 0 + 0 < 0 + 1; omega, by show (List.range size).length ≤ 2000; rw [List.length_range]; exact h2⟩
    exact tail_ask w (fun k _ => rfl)
  | k + 1 => by
    have ih := fed_tail h1 h2 bs k
    have g := fed_good h1 h2 bs k
    cases h : (fed size bs k).wt with
    | none => rw [fed_end h]; exact ih
    | some q => rw [fed_next h]; exact tail_take g.wf (g.ah (by rw [h]; exact Option.some_ne_none _)) ih _
theorem fed_congr {size : Nat} {bs cs : List Bool} : ∀ {k : Nat}, (∀ i, i < k → bs.getD i false = cs.getD i false) → fed size bs k = fed size cs k
  | 0, _ => rfl
  | k + 1, h => by
    have ih := fed_congr (size := size) (k := k) (fun i hi => h i (by omega))
    cases e : (fed size bs k).wt with
    | none => rw [fed_end e, fed_end (by rw [← ih]; exact e), ih]
    | some q => rw [fed_next e, fed_next (q := q) (by rw [← ih]; exact e), ih, h k (by omega)]
/-- the steps by the keys are the steps by their answers, moved -/
theorem stps_fed {ls : Nat × Nat → Bool} {s size N : Nat} (h1 : 0 < size) (h2 : size ≤ 2000) (hw : ∀ i, i < N → ((RF.init (List.range (s + size)) s (s + size)).stps ls s (s + size) i).wt ≠ none) :
    ∀ k, k ≤ N → (RF.init (List.range (s + size)) s (s + size)).stps ls s (s + size) k = sh s (fed size (((RF.init (List.range (s + size)) s (s + size)).asks ls s (s + size) N).map ls) k)
  | 0, _ => sh_init h1 h2
  | k + 1, hk => by
    have ih := stps_fed h1 h2 hw k (by omega)
    cases e : ((RF.init (List.range (s + size)) s (s + size)).stps ls s (s + size) k).wt with
    | none => exact absurd e (hw k (by omega))
    | some q =>
      rw [stps_next e]
      rw [ih] at e
      have e0 : ∃ q0, (fed size (((RF.init (List.range (s + size)) s (s + size)).asks ls s (s + size) N).map ls) k).wt = some q0 := by
        cases e1 : (fed size (((RF.init (List.range (s + size)) s (s + size)).asks ls s (s + size) N).map ls) k).wt with
        | none =>
          exfalso
          have e2 : (sh s (fed size (((RF.init (List.range (s + size)) s (s + size)).asks ls s (s + size) N).map ls) k)).wt = none := by
            show Option.map _ _ = none
            rw [e1]
            rfl
          rw [e2] at e
          cases e
        | some q0 => exact ⟨q0, rfl⟩
      obtain ⟨q0, e0⟩ := e0
      have g := fed_good h1 h2 (((RF.init (List.range (s + size)) s (s + size)).asks ls s (s + size) N).map ls) k
      rw [fed_next e0, ih, ← sh_take g.wf (g.ah (by rw [e0]; exact Option.some_ne_none _))]
      congr 1
      rw [List.getD_eq_getElem?_getD, List.getElem?_map, asks_at (by omega), ih, e]
      rfl
theorem range_drop (k n : Nat) (h : k ≤ n) : (List.range n).drop k = (List.range (n - k)).map (fun i => k + i) := by
  have e : List.range n = List.range k ++ (List.range (n - k)).map (fun i => k + i) := by
    rw [← List.range_add]
    congr 1
    omega
  rw [e, List.drop_append, List.drop_of_length_le (by rw [List.length_range]; exact Nat.le_refl _), List.length_range, Nat.sub_self]
  rfl
/-- the whole row, told by what lies ahead, the run and the rest -/
theorem row_split {s size : Nat} {g : RF} (w : WF 0 size g) (t : Tail size g) : (sh s g).row = List.range s ++ ((sh s g).row.drop s).take g.pl ++ (List.range (size - g.pl)).map (fun i => s + g.pl + i) := by
  have l : (List.range s).length = s := List.length_range
  have e1 : (sh s g).row.drop s = g.row.map (fun i => s + i) := by
    show (List.range s ++ g.row.map (fun i => s + i)).drop s = _
    rw [List.drop_append, List.drop_of_length_le (by omega), l, Nat.sub_self]
    rfl
  rw [e1, List.append_assoc]
  show List.range s ++ g.row.map (fun i => s + i) = _
  congr 1
  have e2 : g.row = g.row.take g.pl ++ (List.range (size - g.pl)).map (fun i => g.pl + i) := by
    rw [← range_drop _ _ w.pe, ← t _ (Nat.le_refl _), List.take_append_drop]
  rw [← List.map_take]
  conv => lhs; rw [e2]
  rw [List.map_append, List.map_map]
  congr 1
  exact List.map_congr_left fun i _ => by show s + (g.pl + i) = s + g.pl + i; omega
end RF
end L2

namespace L2
open PySem PySem.Spec PyProof.Rows
/-! ### for over a list or a tuple -/
section
variable {X : Cx} {tg : Expr} {pins : List (Addr × Obj)} {σ : L2.St} {H : Hp} {s : Shared} {a : Addr} {xs : List V} {R : It → Hp → Prop}
theorem lone_fresh (I : Inv X pins σ H s) : ∀ b ∈ [s.heap.objs.size], FpOk X pins H b := fun b hb => by
  rw [List.mem_singleton.mp hb]
  exact I.fpOk (Nat.le_refl _) (I.hok.fresh (Nat.le_refl _))
theorem walk_list (I : Inv X pins σ H s) (h : SqL X.K H a xs) (q : R (Itl X.K a) H) : wpAny (model X.prog X.w) X.A (pyIter (.ref a)) (PIE X pins σ tg R) X.xe s := by
  obtain ⟨items, _, isl, _⟩ := I.list h
  exact wpAny_pyIter_list isl.isList ⟨_, [_], _, _, H, rfl, I.kept (t' := s.toks) (fun _ _ e => Heap.get?_push_of_some _ e), turn_list a _, ⟨_, Heap.get?_push_size _ rfl, rfl, rfl⟩, lone_fresh I, q⟩
theorem walk_tup (I : Inv X pins σ H s) (h : SqT X.K H a xs) (q : R (Itt X.K a) H) : wpAny (model X.prog X.w) X.A (pyIter (.ref a)) (PIE X pins σ tg R) X.xe s := by
  obtain ⟨items, _, ist, _⟩ := I.tuple h
  have ist' : s.heap.IsTuple a items.toArray := ist
  exact wpAny_pyIter_tuple ist' ⟨_, [_], _, _, H, rfl, I.kept (t' := s.toks) (fun _ _ e => Heap.get?_push_of_some _ e), turn_tuple a _, ⟨_, Heap.get?_push_size _ rfl, rfl, rfl⟩, lone_fresh I, q⟩
def iLT (K : PySem.W.Frag) (tl : TE) : TI := fun σ H R => tl σ H fun x H1 => ∃ (a : Addr) (xs : List V), x = .ref a ∧ ((SqL K H1 a xs ∧ R (Itl K a) H1) ∨ (SqT K H1 a xs ∧ R (Itt K a) H1))
theorem pi_lt {l : Expr} {tl : TE} (hl : PE X l tl) : PI X tg l (iLT X.K tl) :=
  ⟨fun pins s σ H R I h => thn (hl.run pins s σ H _ I h) fun v s1 ⟨x, H1, I1, r1, a, xs, e, q⟩ => by
    subst e
    cases r1
    rcases q with ⟨hs, q⟩ | ⟨hs, q⟩
    · exact walk_list I1 hs q
    · exact walk_tup I1 hs q⟩
end
/-- for over the entries, whichever of the two it is -/
theorem for_lt {K : PySem.W.Frag} {a : Addr} {xs : List V} {g : TG} {tb : TS} {D : Ends} {σ : L2.St} {H : Hp} (Pv : Nat → L2.St → Hp → Prop) (h0 : Pv 0 σ H) (h : (∀ i σ' H', Pv i σ' H' → SqL K H' a xs) ∨ (∀ i σ' H', Pv i σ' H' → SqT K H' a xs))
    (hs : ∀ i x σ H, xs[i]? = some x → Pv i σ H → g x σ H fun σ2 H2 => tb { D with nx := Pv (i + 1), ct := Pv (i + 1), bk := D.nx } σ2 H2) (hd : ∀ σ H, Pv xs.length σ H → D.nx σ H) :
    (SqL K H a xs ∧ ∃ W : Nat → Nat → L2.St → Hp → Prop, (∃ m, W 0 m σ H) ∧ ∀ i m σ H, W i m σ H →
      ((Itl K a).stop i H ∧ D.nx σ H) ∨ ((Itl K a).go i H ∧ ∃ N : L2.St → Hp → Prop, (∀ σ' H', N σ' H' → ∃ m', m' < m ∧ W (i + 1) m' σ' H') ∧ ∀ x H', (Itl K a).yld i H x H' → g x σ H' fun σ2 H2 => tb { D with nx := N, ct := N, bk := D.nx } σ2 H2)) ∨
    (SqT K H a xs ∧ ∃ W : Nat → Nat → L2.St → Hp → Prop, (∃ m, W 0 m σ H) ∧ ∀ i m σ H, W i m σ H →
      ((Itt K a).stop i H ∧ D.nx σ H) ∨ ((Itt K a).go i H ∧ ∃ N : L2.St → Hp → Prop, (∀ σ' H', N σ' H' → ∃ m', m' < m ∧ W (i + 1) m' σ' H') ∧ ∀ x H', (Itt K a).yld i H x H' → g x σ H' fun σ2 H2 => tb { D with nx := N, ct := N, bk := D.nx } σ2 H2)) := by
  rcases h with h | h
  · exact .inl ⟨h _ _ _ h0, for_list Pv h0 (fun i σ' H' _ p => h i σ' H' p) hs hd⟩
  · exact .inr ⟨h _ _ _ h0, for_tup Pv h0 (fun i σ' H' _ p => h i σ' H' p) hs hd⟩
theorem rg_nat (n : Nat) : rgV 0 (n : Int) = nV (List.range n) := by
  unfold rgV
  rw [show ((n : Int) - 0).toNat = n by omega]
  exact List.map_congr_left fun i _ => congrArg V.int (by omega)
theorem rgOk_nat {n : Nat} (h : n ≤ 2000) : RgOk 0 (n : Int) := ⟨by omega, by omega, by omega, by omega, by omega⟩
end L2

namespace L2
open PySem PySem.Spec PyProof.Rows
/-! ### Base.__init__(self, ..) where Base is a class of the program that has no own one -/
section
variable {X : Cx} {e : Expr} {es : List Expr} {ta : TA} {x : Str} {B : Addr} {p1 p2 pos : Pos}
theorem pe_baseinit {pl : Sem Bool} (hg : Gl X x) (hm : X.mg x = some (.ref B)) (rd1 : PySem.W.readsIn X.K B (.type "type") = true) (rd2 : PySem.W.specialIn X.K (.ref B) "__getattribute__" = some (some (.builtin "type.__getattribute__"))) (vV : PySem.W.findCls X.K (.ref B) (.type "type") "__init__" = some (.val (.builtin "ValueError.__init__"))) (ha : PA X (e :: es) ta)
    (hc : eval (.Call (.Attribute (.Name x p1) "__init__" p2) (e :: es) [] pos) X.env = (do
      let base ← eval (.Name x p1) X.env
      standAt p2.atName
      let (f, first) ← holding [base] (getMethod base "__init__" pl)
      callWith pos f first (backTo pos (starEach (e :: es) X.env)) (backToKw pos (keywordEach [] X.env))) := by rfl)
    (hdb : (x == ("__debug__" : Str)) = false := by decide) (he : starEach (e :: es) X.env = (false, eval e X.env) :: starEach es X.env := by rfl) (hpl : (backTo pos (starEach es X.env)).any (·.1) = false := by rfl) :
    PE X (.Call (.Attribute (.Name x p1) "__init__" p2) (e :: es) [] pos) (tVeI X.K ta) := by
  refine ⟨fun pins s σ H Q I h => PySem.W.methodCall_KW (ld_glob I hg hm ?_ hdb) hc⟩
  refine PySem.W.method_cls I.kIn rd2 (PySem.W.cls_value I.kIn rd1 vV (by decide +kernel) ?_)
  show wpAny _ _ (callWith pos (Value.builtin "ValueError.__init__") [] (backTo pos (starEach (e :: es) X.env)) []) _ _ _
  refine PyProof.Rows.callWith_method1 (thn (ha.run pos pins _ σ H _ (I.tok _) h) fun us s1 ⟨vs, H1, I1, rel, a, C, ws, ev, hl, T, ea, q⟩ => ?_) he hpl
  subst ev
  cases rel with
  | @cons _ w0 _ wr r0 rs =>
    have ew : w0 = Value.ref a := r0
    subst ew
    have short : wr.length ≤ sizeLine := by
      have := Paired.length rs
      rw [sizeLine_eq]
      omega
    exact oinit_ok T I1 ea short fun s' J => ⟨.non, H1, J, rfl, q⟩
end
/-! ### what the text says of an error's class, and of the class above -/
structure ExC (K : PySem.W.Frag) (mg : Str → Option Value) (C fI : Addr) (x f : Str) : Prop where
  g : mg x = some (.ref C)
  ox : OexC K C
  ii : PySem.W.findIn K (.ref C) "__init__" = some (some (.ref fI))
  ti : PySem.W.typeIn K (.ref fI) = some (.type "function")
  no : PySem.W.findIn K (.ref C) f = some none
  xf : XfC K C
  te : PySem.W.exmOne K (.ref C) (.ref C) = some true
structure ExB (K : PySem.W.Frag) (mg : Str → Option Value) (B : Addr) (x : Str) : Prop where
  g : mg x = some (.ref B)
  r1 : PySem.W.readsIn K B (.type "type") = true
  r2 : PySem.W.specialIn K (.ref B) "__getattribute__" = some (some (.builtin "type.__getattribute__"))
  vi : PySem.W.findCls K (.ref B) (.type "type") "__init__" = some (.val (.builtin "ValueError.__init__"))
theorem exm_own {K : PySem.W.Frag} {S : Addr} (h1 : PySem.W.subIn K (.ref S) (.type "BaseException") = some true) (h2 : PySem.W.isClsIn K S = true) (h3 : PySem.W.typeIn K (.ref S) = some (.type "type")) (h4 : PySem.W.subIn K (.ref S) (.ref S) = some true) :
    PySem.W.exmOne K (.ref S) (.ref S) = some true := by
  have h2' : (PySem.W.clsIn K S).isSome = true := h2
  unfold PySem.W.exmOne
  simp [PySem.W.kitCls, h1, h2', h3, h4]
theorem exC_mk {K : PySem.W.Frag} {h : Heap} {mg : Str → Option Value} {C B fI : Addr} {x f : Str} (X : K.In h) (G : h.Ns mainGlobals mg)
    {nm q : Str} {N : Addr} {bs : List Value} {sn : List Str} {sub : List Value} {ab : Bool} {col : Option Bool} {dd : Option Addr} {m0 m1 m2 m3 m5 : Option Value}
    (aC : PySem.W.nsIn K mainGlobals x = some (some (.ref C)))
    (xL : K.lookup C = some (excClassObj nm q C N bs [.ref B, .type "ValueError", .type "Exception", .type "BaseException", .type "object"] true sn sub ab col dd m0 m1 m2 m3 m5 "ValueError.__new__"))
    (sa : PySem.W.findIn K (.ref C) "__setattr__" = some (some (.builtin "object.__setattr__"))) (ga : PySem.W.findIn K (.ref C) "__getattribute__" = some (some (.builtin "BaseException.__getattribute__"))) (gg : PySem.W.findIn K (.ref C) "__getattr__" = some none)
    (nb : PySem.W.findIn K (.ref C) f = some none) (ii : PySem.W.findIn K (.ref C) "__init__" = some (some (.ref fI))) (ti : PySem.W.typeIn K (.ref fI) = some (.type "function")) (kC : PySem.W.keepIn K (.ref C) = true)
    (eC : PySem.W.subIn K (.ref C) (.type "BaseException") = some true) (tC : PySem.W.typeIn K (.ref C) = some (.type "type")) (hC : PySem.W.hasDictIn K C = true) (iC : PySem.W.isClsIn K C = true) (sC : PySem.W.subIn K (.ref C) (.ref C) = some true) :
    ExC K mg C fI x f :=
  ⟨PySem.W.mg_of X G aC, ⟨⟨_, _, _, _, _, _, _, _, _, _, _, _, _, _, _, xL, rfl⟩, sa, eC, tC, kC⟩, ii, ti, nb, ⟨ga, gg, eC, hC⟩, exm_own eC iC tC sC⟩
/-- what __init__ of such an error does: the value is kept under f -/
def spErr (C : Addr) (f : Str) : Sp := fun vs H Q _ => ∃ (e : Addr) (v : V), vs = [.ref e, v] ∧ H e = some (exo e C none) ∧ ∀ dx, H dx = none → dx ≠ e → Q .non (upd (upd H dx (exd dx [(f, v)])) e (exo e C (some dx)))
end L2

namespace L2
open PySem PySem.Spec PyProof.Rows
namespace RF
/-! ### how many questions there may be: two less than twice the items -/
variable {e : Nat} {f : RF}
def ph (st pl n : Nat) : Nat := if st = 5 then n else if st = 4 then 2 * n else if st = 3 then 2 * n + 1 else if st = 2 then 2 * n else if pl = 1 then 2 * n else 2 * n + 1
def phi (e : Nat) (f : RF) : Nat := if f.wt = none then 0 else ph f.st f.pl (e - f.pl)
theorem phi_none (h : f.wt = none) : phi e f = 0 := if_pos h
theorem phi_some {q : Nat × Nat} (h : f.wt = some q) : phi e f = ph f.st f.pl (e - f.pl) := if_neg (by rw [h]; exact Option.some_ne_none _)
theorem phi_ask {f : RF} {b : Nat} (h : f.pl < e → ph f.st f.pl (e - f.pl) ≤ b) : phi e (f.ask 0 e) ≤ b := by
  unfold RF.ask
  split
  · rename_i hp
    rw [phi_some (q := (f.row.getD f.pl 0, f.row.getD (f.pl - 1) 0)) rfl]
    exact h hp
  · rename_i hp
    split
    · have : phi e (f.rise 0 e) = 0 := by
        unfold RF.rise RF.askUp
        rw [if_neg (by show ¬ f.turnEq.pl < e; rw [turnEq_pl]; exact hp)]
        exact phi_none rfl
      omega
    · rw [phi_none (f := f.finish 0) rfl]
      exact Nat.zero_le _
theorem phi_take {q : Nat × Nat} (hw : f.wt = some q) (h0 : 0 < f.pl) (h : f.pl < e) (hs : 1 ≤ f.st ∧ f.st ≤ 5) (b : Bool) : phi e (f.take 0 e b) < phi e f := by
  rw [phi_some hw]
  unfold RF.take
  by_cases s1 : f.st = 1
  · rw [if_pos s1]
    have hb : ph f.st f.pl (e - f.pl) = if f.pl = 1 then 2 * (e - f.pl) else 2 * (e - f.pl) + 1 := by rw [s1]; rfl
    unfold RF.take1
    split
    · have : phi e (f.goOn 0 e) ≤ 2 * (e - f.pl) - 1 := phi_ask fun hp => by
        have hp' : f.pl + 1 < e := hp
        show ph f.st (f.pl + 1) (e - (f.pl + 1)) ≤ _
        rw [s1]
        show (if f.pl + 1 = 1 then 2 * (e - (f.pl + 1)) else 2 * (e - (f.pl + 1)) + 1) ≤ _
        rw [if_neg (by omega)]
        omega
      rw [hb]
      split <;> omega
    · split
      · rename_i hp1
        have : phi e (f.fall 0 e) ≤ 2 * (e - f.pl) - 1 := phi_ask fun hp => by
          have hp' : f.pl + 1 < e := hp
          show 2 * (e - (f.pl + 1)) + 1 ≤ _
          omega
        rw [hb, if_pos (by omega)]
        omega
      · rename_i hp1
        rw [phi_some (f := { f with st := 2, wt := some (f.row.getD 0 0, f.row.getD (f.pl - 1) 0) }) rfl, hb, if_neg (by omega)]
        show 2 * (e - f.pl) < _
        omega
  rw [if_neg s1]
  by_cases s2 : f.st = 2
  · rw [if_pos s2]
    have hb : ph f.st f.pl (e - f.pl) = 2 * (e - f.pl) := by rw [s2]; rfl
    unfold RF.take2
    split
    · rw [phi_none (f := f.finish 0) rfl, hb]
      omega
    · have : phi e ((f.turn 0).fall 0 e) ≤ 2 * (e - f.pl) - 1 := phi_ask fun hp => by
        have hp' : f.pl + 1 < e := hp
        show 2 * (e - (f.pl + 1)) + 1 ≤ _
        omega
      rw [hb]
      omega
  rw [if_neg s2]
  by_cases s3 : f.st = 3
  · rw [if_pos s3]
    have hb : ph f.st f.pl (e - f.pl) = 2 * (e - f.pl) + 1 := by rw [s3]; rfl
    unfold RF.take3
    split
    · have : phi e (f.turnEq.goOn 0 e) ≤ 2 * (e - f.pl) - 1 := phi_ask fun hp => by
        have hp' : f.turnEq.pl + 1 < e := hp
        rw [turnEq_pl] at hp'
        show ph f.turnEq.st (f.turnEq.pl + 1) (e - (f.turnEq.pl + 1)) ≤ _
        rw [turnEq_st, turnEq_pl, s3]
        show 2 * (e - (f.pl + 1)) + 1 ≤ _
        omega
      rw [hb]
      omega
    · rw [phi_some (f := { f with st := 4, wt := some (f.row.getD (f.pl - 1) 0, f.row.getD f.pl 0) }) rfl, hb]
      show 2 * (e - f.pl) < _
      omega
  rw [if_neg s3]
  by_cases s4 : f.st = 4
  · rw [if_pos s4]
    have hb : ph f.st f.pl (e - f.pl) = 2 * (e - f.pl) := by rw [s4]; rfl
    unfold RF.take4
    split
    · have e1 : f.rise 0 e = RF.ask 0 e { (f.turnEq.turn 0 : RF) with st := 5 } := by
        unfold RF.rise RF.askUp RF.ask
        rw [if_neg (show ¬ ({ (f.turnEq.turn 0 : RF) with st := 5 } : RF).st = 3 by show ¬ 5 = 3; decide)]
      have : phi e (f.rise 0 e) ≤ e - f.pl := by
        rw [e1]
        exact phi_ask fun hp => by
          show e - f.turnEq.pl ≤ _
          rw [turnEq_pl]
          exact Nat.le_refl _
      rw [hb]
      omega
    · have : phi e (({ f with eq := f.eq + 1, st := 3 } : RF).goOn 0 e) ≤ 2 * (e - f.pl) - 1 := phi_ask fun hp => by
        have hp' : f.pl + 1 < e := hp
        show 2 * (e - (f.pl + 1)) + 1 ≤ _
        omega
      rw [hb]
      omega
  rw [if_neg s4]
  have s5 : f.st = 5 := by omega
  have hb : ph f.st f.pl (e - f.pl) = e - f.pl := by rw [s5]; rfl
  unfold RF.take5
  split
  · rw [phi_none (f := f.finish 0) rfl, hb]
    omega
  · have : phi e (f.goOn 0 e) ≤ e - f.pl - 1 := phi_ask fun hp => by
      have hp' : f.pl + 1 < e := hp
      show ph f.st (f.pl + 1) (e - (f.pl + 1)) ≤ _
      rw [s5]
      show e - (f.pl + 1) ≤ _
      omega
    rw [hb]
    omega
/-- the step is one of the five -/
def St5 (f : RF) : Prop := 1 ≤ f.st ∧ f.st ≤ 5
theorem st5_ask {f : RF} (h : St5 f) : St5 (f.ask 0 e) := by
  unfold RF.ask
  split
  · exact h
  · split
    · unfold RF.rise RF.askUp
      split
      · exact ⟨by show 1 ≤ 5; decide, by show 5 ≤ 5; decide⟩
      · exact ⟨by show 1 ≤ 5; decide, by show 5 ≤ 5; decide⟩
    · exact h
theorem st5_rise : St5 (f.rise 0 e) := by
  unfold RF.rise RF.askUp
  split
  · exact ⟨by show 1 ≤ 5; decide, by show 5 ≤ 5; decide⟩
  · exact ⟨by show 1 ≤ 5; decide, by show 5 ≤ 5; decide⟩
theorem st5_three {f : RF} (h : f.st = 3) : St5 f := ⟨by omega, by omega⟩
theorem st5_take (h : St5 f) (b : Bool) : St5 (f.take 0 e b) := by
  unfold RF.take
  split
  · unfold RF.take1
    split
    · exact st5_ask h
    · split
      · exact st5_ask (st5_three rfl)
      · exact ⟨by show 1 ≤ 2; decide, by show 2 ≤ 5; decide⟩
  · split
    · unfold RF.take2
      split
      · exact h
      · exact st5_ask (st5_three rfl)
    · split
      · rename_i h3
        unfold RF.take3
        split
        · exact st5_ask (st5_three (by show f.turnEq.st = 3; rw [turnEq_st]; exact h3))
        · exact ⟨by show 1 ≤ 4; decide, by show 4 ≤ 5; decide⟩
      · split
        · unfold RF.take4
          split
          · exact st5_rise
          · exact st5_ask (st5_three rfl)
        · unfold RF.take5
          split
          · exact h
          · exact st5_ask h
theorem fed_st5 {size : Nat} {bs : List Bool} : ∀ k, St5 (fed size bs k)
  | 0 => st5_ask ⟨by show 1 ≤ 1; decide, by show 1 ≤ 5; decide⟩
  | k + 1 => by
    have ih := fed_st5 (size := size) (bs := bs) k
    cases h : (fed size bs k).wt with
    | none => rw [fed_end h]; exact ih
    | some q => rw [fed_next h]; exact st5_take ih _
theorem phi_zero {size : Nat} {bs : List Bool} (h : 0 < size) : phi size (fed size bs 0) ≤ 2 * (size - 1) := phi_ask fun hp => by
  show (if 0 + 1 = 1 then 2 * (size - (0 + 1)) else 2 * (size - (0 + 1)) + 1) ≤ _
  rw [if_pos rfl]
  omega
theorem fed_phi {size : Nat} (h1 : 0 < size) (h2 : size ≤ 2000) (bs : List Bool) : ∀ k, (∀ i, i < k → (fed size bs i).wt ≠ none) → k + phi size (fed size bs k) ≤ 2 * (size - 1)
  | 0, _ => by
    have := phi_zero (bs := bs) h1
    omega
  | k + 1, h => by
    have ih := fed_phi h1 h2 bs k (fun i hi => h i (by omega))
    have g := fed_good h1 h2 bs k
    cases e0 : (fed size bs k).wt with
    | none => exact absurd e0 (h k (by omega))
    | some q =>
      have := phi_take e0 g.wf.sp (g.ah (by rw [e0]; exact Option.some_ne_none _)) (fed_st5 k) (bs.getD k false)
      rw [← fed_next e0] at this
      omega
/-- at most two questions less than twice the items -/
theorem fed_few {size : Nat} (h1 : 0 < size) (h2 : size ≤ 2000) (bs : List Bool) {k : Nat} (h : ∀ i, i < k → (fed size bs i).wt ≠ none) : k ≤ 2 * (size - 1) := by
  have := fed_phi h1 h2 bs k h
  omega
/-- a run of two items, where there are two -/
def Long (e : Nat) (f : RF) : Prop := 2 ≤ f.pl ∨ (f.pl = 1 ∧ f.st = 1 ∧ f.wt ≠ none) ∨ e ≤ 1
theorem ask_pl {f : RF} : (f.ask 0 e).pl = f.pl := by
  unfold RF.ask
  split
  · rfl
  · split
    · unfold RF.rise RF.askUp
      split
      · exact turnEq_pl f
      · exact turnEq_pl f
    · rfl
theorem go_pl {f : RF} : f.pl ≤ (f.goOn 0 e).pl := by
  have e1 : (f.goOn 0 e).pl = f.pl + 1 := ask_pl
  omega
theorem fall_pl {f : RF} : f.pl ≤ (f.fall 0 e).pl := by
  have e1 : (f.fall 0 e).pl = f.pl + 1 := ask_pl
  omega
theorem take_pl (b : Bool) : f.pl ≤ (f.take 0 e b).pl := by
  unfold RF.take
  split
  · unfold RF.take1
    split
    · exact go_pl
    · split
      · exact fall_pl
      · exact Nat.le_refl _
  · split
    · unfold RF.take2
      split
      · exact Nat.le_refl _
      · exact fall_pl (f := f.turn 0)
    · split
      · unfold RF.take3
        split
        · refine Nat.le_trans (Nat.le_succ _) (Nat.le_of_eq ?_)
          have e1 : (f.turnEq.goOn 0 e).pl = f.turnEq.pl + 1 := ask_pl
          rw [e1, turnEq_pl]
        · exact Nat.le_refl _
      · split
        · unfold RF.take4
          split
          · have e1 : (f.rise 0 e).pl = f.pl := by
              unfold RF.rise RF.askUp
              split
              · exact turnEq_pl f
              · exact turnEq_pl f
            exact Nat.le_of_eq e1.symm
          · exact go_pl (f := { f with eq := f.eq + 1, st := 3 })
        · unfold RF.take5
          split
          · exact Nat.le_refl _
          · exact go_pl
theorem fed_long {size : Nat} {bs : List Bool} : ∀ k, Long size (fed size bs k)
  | 0 => by
    by_cases h : size ≤ 1
    · exact .inr (.inr h)
    · refine .inr (.inl ⟨ask_pl, ?_, ?_⟩)
      · show (RF.ask 0 size _).st = 1
        unfold RF.ask
        rw [if_pos (by show 0 + 1 < size; omega)]
      · show (RF.ask 0 size _).wt ≠ none
        unfold RF.ask
        rw [if_pos (by show 0 + 1 < size; omega)]
        exact Option.some_ne_none _
  | k + 1 => by
    have ih := fed_long (size := size) (bs := bs) k
    cases h : (fed size bs k).wt with
    | none => rw [fed_end h]; exact ih
    | some q =>
      rw [fed_next h]
      rcases ih with ih | ⟨i1, i2, _⟩ | ih
      · exact .inl (Nat.le_trans ih (take_pl _))
      · refine .inl ?_
        unfold RF.take
        rw [if_pos i2]
        unfold RF.take1
        rw [if_pos (show (fed size bs k).pl = 0 + 1 by omega)]
        split
        · have e1 : ((fed size bs k).goOn 0 size).pl = (fed size bs k).pl + 1 := ask_pl
          omega
        · have e1 : ((fed size bs k).fall 0 size).pl = (fed size bs k).pl + 1 := ask_pl
          omega
      · exact .inr (.inr ih)
theorem fed_two {size : Nat} (h1 : 0 < size) (h2 : size ≤ 2000) {bs : List Bool} {k : Nat} (h : (fed size bs k).wt = none) : min 2 size ≤ (fed size bs k).pl := by
  have g := (fed_good h1 h2 bs k).wf.sp
  rcases fed_long (size := size) (bs := bs) k with l | ⟨_, _, l⟩ | l
  · omega
  · exact absurd h l
  · omega
end RF
end L2

namespace L2
open PySem PySem.Spec PyProof.Rows
/-! ### what told_run tells, as data -/
def pD (q : Nat × Nat) : PyData := .tuple [.int (q.1 : Int), .int (q.2 : Int)]
def lnD : Option Nat → PyData
  | none => .none
  | some n => .int (n : Int)
def toldD (ln : Option Nat) (row : List Nat) (qs : List (Nat × Nat)) : PyData := .tuple [lnD ln, .list ((row.map fun (i : Nat) => (i : Int)).map PyData.int), .list (qs.map pD)]
theorem canLay_pairs : ∀ qs : List (Nat × Nat), PyData.canLayAll0 (qs.map pD) = true
  | [] => rfl
  | q :: r => by
    show (PyData.canLay0 (pD q) && PyData.canLayAll0 (r.map pD)) = true
    rw [canLay_pairs r]
    rfl
theorem depth_pairs : ∀ qs : List (Nat × Nat), PyData.depthAll (qs.map pD) ≤ 1
  | [] => Nat.zero_le _
  | q :: r => by
    show max (PyData.depth (pD q)) (PyData.depthAll (r.map pD)) ≤ 1
    have h1 : PyData.depth (pD q) = 1 := rfl
    have h2 := depth_pairs r
    omega
theorem shaped_told (ln : Option Nat) (row : List Nat) (qs : List (Nat × Nat)) : SeqAt.shaped (toldD ln row qs) = true := by
  unfold SeqAt.shaped
  rw [Bool.and_eq_true]
  constructor
  · show (PyData.canLay0 (lnD ln) && (PyData.canLayAll0 ((row.map fun (i : Nat) => (i : Int)).map PyData.int) && (PyData.canLayAll0 (qs.map pD) && true))) = true
    rw [canLay_ints, canLay_pairs]
    cases ln <;> rfl
  · refine decide_eq_true ?_
    show max (PyData.depth (lnD ln)) (max (PyData.depthAll ((row.map fun (i : Nat) => (i : Int)).map PyData.int) + 1) (max (PyData.depthAll (qs.map pD) + 1) 0)) + 1 ≤ 64
    have h1 : PyData.depth (lnD ln) = 0 := by cases ln <;> rfl
    have h2 := depth_pairs qs
    rw [depth_ints, h1]
    omega
theorem eqv_told (ln : Option Nat) (row : List Nat) (qs : List (Nat × Nat)) : PyData.eqv (toldD ln row qs) (toldD ln row qs) = true := SeqAt.eqv_refl _ (SeqAt.canLay_of_shaped (shaped_told ln row qs))
theorem dpAll_pairs {K : PySem.W.Frag} {H : Hp} : ∀ {ts : List V} {qs : List (Nat × Nat)}, ts.length = qs.length → (∀ (i : Nat) (v : V) (q : Nat × Nat), ts[i]? = some v → qs[i]? = some q → PairAt H v q) → DpAll K H ts (qs.map pD)
  | [], [], _, _ => .nil
  | v :: ts, q :: qs, hl, h => by
    obtain ⟨t, e, ht⟩ := h 0 v q rfl rfl
    subst e
    refine .cons (.tup (L2.st_of ht) (.cons (.int _) (.cons (.int _) .nil))) (dpAll_pairs (by simpa using hl) fun i v' q' h1 h2 => h (i + 1) v' q' h1 h2)
theorem dp_told {K : PySem.W.Frag} {H : Hp} {t r l : Addr} {ln : Option Nat} {row : List Nat} {qs : List (Nat × Nat)} (ht : H t = some (.tup [lenV ln, .ref r, .ref l])) (hr : H r = some (.lst (nV row))) (hq : QAt H l qs) : Dp K H (.ref t) (toldD ln row qs) := by
  obtain ⟨ts, h1, h2, h3⟩ := hq
  refine .tup (L2.st_of ht) (.cons ?_ (.cons ?_ (.cons (.lst (L2.sq_of h1) (dpAll_pairs h2 h3)) .nil)))
  · cases ln with
    | none => exact .non
    | some n => exact .int _
  · exact dp_ints (by rw [← nV_map]; exact L2.sq_of hr)
/-- a sorted row of the same ints is one -/
theorem sorted_one : ∀ {a b : List Int}, a.Perm b → a.Pairwise (· ≤ ·) → b.Pairwise (· ≤ ·) → a = b
  | [], b, p, _, _ => (List.nil_perm.mp p).symm
  | x :: a, b, p, ha, hb => by
    cases b with
    | nil => exact absurd p.length_eq (by simp)
    | cons y b =>
      have ha' := List.pairwise_cons.mp ha
      have hb' := List.pairwise_cons.mp hb
      have e : x = y := by
        have h1 : x ∈ y :: b := p.mem_iff.mp List.mem_cons_self
        have h2 : y ∈ x :: a := p.mem_iff.mpr List.mem_cons_self
        rcases List.mem_cons.mp h1 with h1 | h1
        · exact h1
        · rcases List.mem_cons.mp h2 with h2 | h2
          · exact h2.symm
          · have := hb'.1 x h1
            have := ha'.1 y h2
            omega
      subst e
      rw [sorted_one (List.perm_cons x |>.mp p) ha'.2 hb'.2]
theorem range_sorted (n : Nat) : ((List.range n).map fun (i : Nat) => (i : Int)).Pairwise (· ≤ ·) := by
  rw [List.pairwise_map]
  exact List.Pairwise.imp (fun h => by omega) (List.pairwise_lt_range (n := n))
end L2

/-! set(list of ints) as a set that is kept -/
namespace L2
open PySem PySem.Spec PyProof.Rows
section
variable {P : Program} {w : World} {A : Around} {E : Value → Shared → Prop} {s : Shared}
theorem set_of_listI {l : Addr} {xs : Array Value} (ns : List Int) {Q : Value → Shared → Prop} (free : A.handled = none) (at_ : s.heap.IsList l xs) (are : IntsAre xs.toList ns) (few : ns.length + 1 < scanBound)
    (fin : ∀ (h2 : Heap) (tk c : Nat), SetR w h2 s.heap.objs.size (fun j => decide (j ∈ ns)) c → c ≤ ns.length → (∀ b o, s.heap.get? b = some o → h2.get? b = some o) → Q (.ref s.heap.objs.size) { s with heap := h2, toks := tk }) : wpAny (model P w) A (call (.type "set") [.ref l]) Q E s := by
  have ln : xs.size = ns.length := by rw [← Array.length_toList]; exact IntsAre.length are
  obtain ⟨_, _, hm0⟩ := F.called_set.mro
  have m1 := F.called_set.made; have m2 := F.called_set.sub
  refine wpAny_call (codeAny_of_tree (show wpAny _ _ (callAny (.type "set") _) _ _ _ from ?_))
  refine wpAny_pure ⟨Code.quiet_builtin _ (by decide +kernel), ?_⟩
  refine codeAny_builtin F.entry_type_call ?_
  rw [Around.under_plain (weight_type_call_type "set" [.ref l] ([])) rfl]
  have m3 := F.called_set.notType; have m4 := F.called_set.canCreate; have m5 := F.typeCall_set_1 (.ref l)
  repeat any_goals first | assumption | wp_step
  refine codeAny_mono (code_set_led1 (.ref l) (E := E) (Q₁ := fun v t => v = .ref s.heap.objs.size ∧ t = { s with heap := s.heap.push { cls := .type "set", dict := none, data := .set #[] 0 (.fresh 0 0 (!w.params.followText "set-order")) } }) ⟨rfl, rfl⟩) fun r s₁ hr => ?_
  cases r with
  | error e => exact hr
  | ok fl => cases fl with
    | ret obj =>
      obtain ⟨rfl, rfl⟩ := hr
      have here : (s.heap.push { cls := .type "set", dict := none, data := .set #[] 0 (.fresh 0 0 (!w.params.followText "set-order")) }).get? s.heap.objs.size = some { cls := .type "set", dict := none, data := .set #[] 0 (.fresh 0 0 (!w.params.followText "set-order")) } := Heap.get?_push_size _ rfl
      have isS : Shared.TypeIs { s with heap := s.heap.push { cls := .type "set", dict := none, data := .set #[] 0 (.fresh 0 0 (!w.params.followText "set-order")) } } (.ref s.heap.objs.size) "set" := ⟨_, here, rfl⟩
      have m6 := F.called_set.init.lookup; have m7 := F.called_set.init.bind (.ref s.heap.objs.size)
      repeat any_goals first | assumption | wp_step
      refine codeAny_mono (codeAny_call_builtin (R := wants (fun r t => r = .none ∧ ∃ h2 tk c, t = { s with heap := h2, toks := tk } ∧ SetR w h2 s.heap.objs.size (fun j => decide (j ∈ ns)) c ∧ c ≤ ns.length ∧ (∀ b o, s.heap.get? b = some o → h2.get? b = some o)) E)
        F.called_set.init.plain F.entry_set_init (check_set_init_1 isS ?_)) fun r₂ s₂ hr₂ => ?_
      · obtain ⟨⟨oc, od, ot, osl⟩, lo, lc, nl, ld⟩ := at_
        simp only at lc ld
        subst lc ld
        have lo2 : (s.heap.push { cls := .type "set", dict := none, data := .set #[] 0 (.fresh 0 0 (!w.params.followText "set-order")) }).get? l = some ⟨.type "list", od, .seq xs nl, osl⟩ := Heap.get?_push_of_some _ lo
        have n1 := F.sub_list_set; have n2 := F.sub_list_frozenset
        have n3 : (Value.type "list" == Value.type "dict") = false := by decide
        have isL : (s.heap.push { cls := .type "set", dict := none, data := .set #[] 0 (.fresh 0 0 (!w.params.followText "set-order")) }).IsList l xs := ⟨_, lo2, rfl, nl, rfl⟩
        unfold Builtin.«set.__init__» noKeywords
        unfold Builtin.Frozenset.updateFrom
        generalize hPI : pyIter = PI
        wp_walk
        subst hPI
        refine wpAny_pyIter_list isL (wpAny_bind (wpAny_runValue ?_))
        have lt : l < s.heap.objs.size := Heap.lt_size lo
        have fr3 : A.in1.in1.in1.handled = none := by simp [free]
        have sz : (s.heap.push { cls := .type "set", dict := none, data := .set #[] 0 (.fresh 0 0 (!w.params.followText "set-order")) }).objs.size = s.heap.objs.size + 1 := Heap.size_push ..
        have ap : l ≠ (s.heap.push { cls := .type "set", dict := none, data := .set #[] 0 (.fresh 0 0 (!w.params.followText "set-order")) }).objs.size := by
          rw [sz]
          exact Nat.ne_of_lt (Nat.lt_succ_of_lt lt)
        have away : s.heap.objs.size ∉ [(s.heap.push { cls := .type "set", dict := none, data := .set #[] 0 (.fresh 0 0 (!w.params.followText "set-order")) }).objs.size, l] := by
          rw [sz]
          intro z
          rcases List.mem_cons.mp z with e | z
          · exact Nat.ne_of_lt (Nat.lt_succ_self _) e
          · exact Nat.ne_of_gt lt (List.mem_singleton.mp z)
        have val : ∀ (i : Nat) (v : Value), xs[i]? = some v → ∃ k t, ns[i]? = some k ∧ v = .int k t := fun i v hv => by
          have hi : i < ns.length := by rw [← ln]; exact (Array.getElem?_eq_some_iff.mp hv).1
          obtain ⟨t, e⟩ := PyProof.Rows.IntsAre.int_at are i v (by rw [Array.getElem?_toList, hv])
          refine ⟨ns[i], t, List.getElem?_eq_getElem hi, e.trans ?_⟩
          simp only [List.getD_eq_getElem?_getD, List.getElem?_eq_getElem hi]
          rfl
        refine set_update_ints (Walks.list fr3 _ l ap xs).toS s.heap.objs.size away ns ln few val (xs.size - 0) 0 _ (by omega) (Nat.zero_le _) ⟨⟨_, Heap.get?_push_size _ rfl, rfl, rfl⟩, (isL.push _)⟩ ⟨0, Nat.le_refl 0, setR_new_at (Heap.get?_push_of_some _ here)⟩ ?_
        intro t2 c2 mv hc2 hS2
        obtain ⟨h2, g2, d2, tk2, os2⟩ := t2
        have q1 : g2 = s.gens := mv.gens
        have q2 : d2 = s.drawn := mv.drawn
        have q3 : os2 = s.os := mv.os
        subst q1 q2 q3
        show wpAny _ _ _ _ _ _
        refine wpAny_pure ?_
        show wpAny _ _ (ret .none) _ _ _
        refine wpAny_pure ⟨rfl, h2, tk2, c2, rfl, hS2, by omega, fun b o e => ?_⟩
        have lt2 : b < s.heap.objs.size := Heap.lt_size e
        refine mv.heap b o ?_ (Heap.get?_push_of_some _ (Heap.get?_push_of_some _ e))
        intro z
        rw [sz] at z
        rcases List.mem_cons.mp z with e | z
        · exact Nat.ne_of_lt lt2 e
        · exact Nat.ne_of_lt (Nat.lt_succ_of_lt lt2) (List.mem_singleton.mp z)
      · cases r₂ with
        | error e => exact hr₂
        | ok fl₂ => cases fl₂ with
          | ret r =>
            obtain ⟨rfl, h2, tk, c, rfl, a1, a2, a3⟩ := hr₂
            repeat any_goals first | assumption | wp_step
            exact fin h2 tk c a1 a2 a3
          | _ => exact hr₂.elim
    | _ => exact hr.elim
end
def rSetLi (K : PySem.W.Frag) (w : World) : List V → Hp → VK → Prop := fun vs H Q => ∃ (l : Addr) (ns : List Int), vs = [V.ref l] ∧ SqL K H l (ns.map V.int) ∧ ns.length ≤ 1000 ∧ ∀ (p : Addr) (c : Nat), H p = none → c ≤ ns.length → Q (.ref p) (upd H p (SetO w p (fun j => decide (j ∈ ns)) c))
theorem cr_setL {X : Cx} (hc : X.calm = true) : CallR X (.type "set") (rSetLi X.K X.w) := by
  intro pins s σ H vs us Q I rr h
  obtain ⟨l, ns, rfl, hs, hn, q⟩ := h
  obtain ⟨_, rv, pl, _⟩ := I.list hs
  rw [Vals.ref1 rr]
  refine set_of_listI ns (I.ok.hd hc) pl.isList (by simpa using ints_of_vals rv) (by unfold scanBound; omega) fun h2 tk c R hcn k => ?_
  exact ⟨.ref _, _, I.laid (t' := tk) k (Nat.le_refl _) (setO_new R), rfl, q _ c (I.hok.fresh (Nat.le_refl _)) hcn⟩
end L2

namespace L2
open PySem PySem.Spec PyProof.Rows
/-! stable orders of keys that are made of others -/
theorem getD_map {ks : List Int} (f : Int → Int) {i : Nat} (h : i < ks.length) : (ks.map f).getD i 0 = f (ks.getD i 0) := by
  simp only [List.getD_eq_getElem?_getD, List.getElem?_map, List.getElem?_eq_getElem h]
  rfl
theorem getD_mem {ks : List Int} {i : Nat} (h : i < ks.length) : ks.getD i 0 ∈ ks := by
  simp only [List.getD_eq_getElem?_getD, List.getElem?_eq_getElem h]
  exact List.getElem_mem h
theorem stab_map {ks : List Int} {f : Int → Int} {os os2 : List Nat} (a : Stab (keyf ks false) ks.length os) (b : Stab (keyf (ks.map f) false) (ks.map f).length os2) (h : ∀ x ∈ ks, ∀ y ∈ ks, (x < y ↔ f x < f y)) : os2 = os := by
  rw [List.length_map] at b
  refine b.uniq (a.like fun i j hi hj => ?_)
  show ks.getD i 0 < ks.getD j 0 ↔ (ks.map f).getD i 0 < (ks.map f).getD j 0
  rw [getD_map f hi, getD_map f hj]
  exact h _ (getD_mem hi) _ (getD_mem hj)
theorem stab_neg {ks : List Int} {os os2 : List Nat} (a : Stab (keyf ks true) ks.length os) (b : Stab (keyf (ks.map fun x => -x) false) (ks.map fun x => -x).length os2) : os2 = os := by
  rw [List.length_map] at b
  refine b.uniq (a.like fun i j hi hj => ?_)
  show -(ks.getD i 0) < -(ks.getD j 0) ↔ (ks.map fun x => -x).getD i 0 < (ks.map fun x => -x).getD j 0
  rw [getD_map _ hi, getD_map _ hj]
theorem perm_turn (n : Nat) : ((List.range n).map fun i => n - 1 - i).Perm (List.range n) := by
  refine (List.perm_ext_iff_of_nodup ?_ List.nodup_range).mpr fun x => ?_
  · refine List.pairwise_map.mpr (List.Pairwise.imp_of_mem ?_ (List.pairwise_lt_range (n := n)))
    intro i j hi hj l
    have := List.mem_range.mp hi; have := List.mem_range.mp hj
    omega
  · rw [List.mem_map, List.mem_range]
    constructor
    · rintro ⟨i, hi, rfl⟩
      have := List.mem_range.mp hi
      omega
    · intro h
      exact ⟨n - 1 - x, List.mem_range.mpr (by omega), by omega⟩
theorem stab_turn {ks : List Int} {os os3 : List Nat} (a : Stab (keyf ks true) ks.length os) (b : Stab (keyf ks.reverse false) ks.reverse.length os3) : (os3.map fun i => ks.length - 1 - i).reverse = os := by
  rw [List.length_reverse] at b
  refine Stab.uniq ⟨?_, ?_⟩ a
  · exact (List.reverse_perm _).trans ((b.perm.map _).trans (perm_turn _))
  · refine List.pairwise_reverse.mpr (List.pairwise_map.mpr (List.Pairwise.imp_of_mem ?_ b.sort))
    intro i j hi hj l
    have h1 := b.lt hi; have h2 := b.lt hj
    have g : ∀ k, k < ks.length → ks.reverse.getD k 0 = ks.getD (ks.length - 1 - k) 0 := fun k hk => by
      simp only [List.getD_eq_getElem?_getD]
      rw [List.getElem?_reverse hk]
    have l : Lx (keyf ks.reverse false) i j := l
    have e : ∀ k, keyf ks.reverse false k = ks.reverse.getD k 0 := fun _ => rfl
    have e2 : ∀ k, keyf ks true k = -(ks.getD k 0) := fun _ => rfl
    unfold Lx at l ⊢
    rw [e, e, g i h1, g j h2] at l
    rw [e2, e2]
    omega
theorem getD_twice {ks : List Int} {i : Nat} (h : i < ks.length) : (ks ++ ks).getD i 0 = ks.getD i 0 := by
  simp only [List.getD_eq_getElem?_getD]
  rw [List.getElem?_append_left h]
theorem getD_twice2 {ks : List Int} {i : Nat} (h : ks.length ≤ i) : (ks ++ ks).getD i 0 = ks.getD (i - ks.length) 0 := by
  simp only [List.getD_eq_getElem?_getD]
  rw [List.getElem?_append_right h]
theorem range_low (n : Nat) : (List.range (n + n)).filter (fun i => decide (i < n)) = List.range n := by
  rw [List.range_add, List.filter_append]
  have h1 : (List.range n).filter (fun i => decide (i < n)) = List.range n := List.filter_eq_self.mpr fun i hi => decide_eq_true (List.mem_range.mp hi)
  have h2 : ((List.range n).map (n + ·)).filter (fun i => decide (i < n)) = [] := List.filter_eq_nil_iff.mpr fun i hi => by
    obtain ⟨j, _, rfl⟩ := List.mem_map.mp hi
    simp
  rw [h1, h2, List.append_nil]
theorem range_high (n : Nat) : ((List.range (n + n)).filter (fun i => decide (n ≤ i))).map (fun i => i - n) = List.range n := by
  rw [List.range_add, List.filter_append]
  have h1 : (List.range n).filter (fun i => decide (n ≤ i)) = [] := List.filter_eq_nil_iff.mpr fun i hi => by
    have := List.mem_range.mp hi
    simp only [decide_eq_true_eq]
    omega
  have h2 : ((List.range n).map (n + ·)).filter (fun i => decide (n ≤ i)) = (List.range n).map (n + ·) := List.filter_eq_self.mpr fun i hi => by
    obtain ⟨j, _, rfl⟩ := List.mem_map.mp hi
    simp
  rw [h1, h2, List.nil_append, List.map_map]
  conv => rhs; rw [← List.map_id (List.range n)]
  exact List.map_congr_left fun i _ => by
    show n + i - n = i
    omega
theorem stab_twice {ks : List Int} {os os2 : List Nat} (a : Stab (keyf ks false) ks.length os) (b : Stab (keyf (ks ++ ks) false) (ks ++ ks).length os2) :
    os2.filter (fun i => decide (i < ks.length)) = os ∧ (os2.filter (fun i => decide (ks.length ≤ i))).map (fun i => i - ks.length) = os := by
  rw [List.length_append] at b
  have e : ∀ k, keyf (ks ++ ks) false k = (ks ++ ks).getD k 0 := fun _ => rfl
  have e2 : ∀ k, keyf ks false k = ks.getD k 0 := fun _ => rfl
  constructor
  · refine Stab.uniq ⟨?_, ?_⟩ a
    · have := b.perm.filter (fun i => decide (i < ks.length))
      rw [range_low] at this
      exact this
    · refine List.Pairwise.imp_of_mem ?_ (b.sort.filter _)
      intro i j hi hj l
      have h1 : i < ks.length := of_decide_eq_true (List.mem_filter.mp hi).2
      have h2 : j < ks.length := of_decide_eq_true (List.mem_filter.mp hj).2
      unfold Lx at l ⊢
      rw [e, e, getD_twice h1, getD_twice h2] at l
      rw [e2, e2]
      exact l
  · refine Stab.uniq ⟨?_, ?_⟩ a
    · have := (b.perm.filter (fun i => decide (ks.length ≤ i))).map (fun i => i - ks.length)
      rw [range_high] at this
      exact this
    · refine List.pairwise_map.mpr (List.Pairwise.imp_of_mem ?_ (b.sort.filter _))
      intro i j hi hj l
      have h1 : ks.length ≤ i := of_decide_eq_true (List.mem_filter.mp hi).2
      have h2 : ks.length ≤ j := of_decide_eq_true (List.mem_filter.mp hj).2
      unfold Lx at l ⊢
      rw [e, e, getD_twice2 h1, getD_twice2 h2] at l
      rw [e2, e2]
      omega
/-- neighbours of an order -/
theorem stab_next {ks : List Int} {os : List Nat} (b : Stab (keyf ks false) ks.length os) {k x y : Nat} (h1 : os[k]? = some x) (h2 : os[k + 1]? = some y) : x ≠ y ∧ x < ks.length ∧ y < ks.length ∧ ¬ ks.getD y 0 < ks.getD x 0 := by
  obtain ⟨l1, e1⟩ := List.getElem?_eq_some_iff.mp h1
  obtain ⟨l2, e2⟩ := List.getElem?_eq_some_iff.mp h2
  have l := List.pairwise_iff_getElem.mp b.sort k (k + 1) l1 l2 (by omega)
  rw [e1, e2] at l
  have hx := b.lt (List.mem_of_getElem? h1)
  have hy := b.lt (List.mem_of_getElem? h2)
  refine ⟨fun e => Lx.irr (e ▸ l), hx, hy, ?_⟩
  have l : ks.getD x 0 < ks.getD y 0 ∨ (ks.getD x 0 = ks.getD y 0 ∧ x < y) := l
  omega
/-- the places in a row that rises -/
theorem idx_mono {rs : List Int} (up : rs.Pairwise (· < ·)) {x y : Int} (hx : x ∈ rs) (hy : y ∈ rs) : x < y ↔ ((rs.idxOf x : Nat) : Int) < ((rs.idxOf y : Nat) : Int) := by
  have lx := List.idxOf_lt_length_of_mem hx
  have ly := List.idxOf_lt_length_of_mem hy
  have ex : rs[rs.idxOf x] = x := List.getElem_idxOf lx
  have ey : rs[rs.idxOf y] = y := List.getElem_idxOf ly
  have pw := List.pairwise_iff_getElem.mp up
  constructor
  · intro h
    rcases Nat.lt_trichotomy (rs.idxOf x) (rs.idxOf y) with z | z | z
    · omega
    · have : x = y := by rw [← ex, ← ey]; congr 1
      omega
    · have := pw _ _ ly lx z
      rw [ex, ey] at this
      omega
  · intro h
    have := pw _ _ lx ly (by omega)
    rw [ex, ey] at this
    exact this
theorem cube_mono (x y : Int) : x < y ↔ x ^ (3 : Int).toNat < y ^ (3 : Int).toNat := by
  have e : ∀ z : Int, z ^ (3 : Int).toNat = z * z * z := fun z => by
    show z ^ 3 = _
    rw [Int.pow_succ, Int.pow_succ, Int.pow_succ, Int.pow_zero, Int.one_mul]
  rw [e, e]
  have key : ∀ a b : Int, a < b → a * a * a < b * b * b := fun a b h => by
    have h1 : 0 < b - a := by omega
    have h2 : b * b * b - a * a * a = (b - a) * (b * b + a * b + a * a) := by
      simp only [Int.sub_mul, Int.mul_add, Int.add_mul]
      simp only [← Int.mul_assoc]
      have c1 : a * b * b = b * a * b := by rw [Int.mul_comm a b]
      have c2 : b * a * a = a * b * a := by rw [Int.mul_comm a b]
      have c3 : a * a * b = a * b * a := Int.mul_right_comm a a b
      omega
    have h3 : 0 < b * b + a * b + a * a := by
      have q1 : 0 ≤ (a + b) * (a + b) := by
        rcases Int.le_total 0 (a + b) with z | z
        · exact Int.mul_nonneg z z
        · have := Int.mul_nonneg (Int.neg_nonneg_of_nonpos z) (Int.neg_nonneg_of_nonpos z)
          rw [Int.neg_mul_neg] at this
          exact this
      have q2 : (a + b) * (a + b) = a * a + a * b + a * b + b * b := by
        rw [Int.add_mul, Int.mul_add, Int.mul_add, Int.mul_comm b a]
        omega
      have q3 : ∀ z : Int, 0 ≤ z * z := fun z => by
        rcases Int.le_total 0 z with c | c
        · exact Int.mul_nonneg c c
        · have := Int.mul_nonneg (Int.neg_nonneg_of_nonpos c) (Int.neg_nonneg_of_nonpos c)
          rw [Int.neg_mul_neg] at this
          exact this
      have q4 := q3 a
      have q5 := q3 b
      have q6 : ∀ z : Int, z ≠ 0 → 0 < z * z := fun z hz => by
        have := q3 z
        have : z * z ≠ 0 := Int.mul_ne_zero hz hz
        omega
      by_cases ha : a = 0
      · have := q6 b (by omega)
        subst ha
        simp only [Int.zero_mul] at *
        omega
      · have := q6 a ha
        omega
    have := Int.mul_pos h1 h3
    omega
  constructor
  · exact key x y
  · intro h
    rcases Int.lt_trichotomy x y with z | z | z
    · exact z
    · subst z
      omega
    · have := key y x z
      omega
end L2

namespace K05
open PySem PySem.Spec PyProof.Rows L2
def topS (i : Nat) : Stmt := PySem.Challenge.pw_askedorder_k05_whole_orders_and_keys.main.body.getD i (.Pass ⟨0, 0, 0, 0⟩)
abbrev s_is_integer : Stmt := topS 8
abbrev N_is_integer : List Str := ["value"]
abbrev P_is_integer : List Str := ["value"]
theorem sc_is_integer : FnScope N_is_integer P_is_integer (defScope s_is_integer) := ⟨rfl, rfl, rfl, by decide +kernel, rfl, by decide +kernel, by decide +kernel⟩
abbrev s_is_within : Stmt := topS 9
abbrev N_is_within : List Str := ["value", "least", "most"]
abbrev P_is_within : List Str := ["value", "least", "most"]
theorem sc_is_within : FnScope N_is_within P_is_within (defScope s_is_within) := ⟨rfl, rfl, rfl, by decide +kernel, rfl, by decide +kernel, by decide +kernel⟩
abbrev s_is_item : Stmt := topS 10
abbrev N_is_item : List Str := ["value", "many"]
abbrev P_is_item : List Str := ["value", "many"]
theorem sc_is_item : FnScope N_is_item P_is_item (defScope s_is_item) := ⟨rfl, rfl, rfl, by decide +kernel, rfl, by decide +kernel, by decide +kernel⟩
abbrev s_check_keys : Stmt := topS 11
abbrev N_check_keys : List Str := ["keys", "fewest", "most", "index", "key"]
abbrev P_check_keys : List Str := ["keys", "fewest", "most"]
theorem sc_check_keys : FnScope N_check_keys P_check_keys (defScope s_check_keys) := ⟨rfl, rfl, rfl, by decide +kernel, rfl, by decide +kernel, by decide +kernel⟩
abbrev s_is_question : Stmt := topS 12
abbrev N_is_question : List Str := ["value", "many", "one", "other"]
abbrev P_is_question : List Str := ["value", "many"]
theorem sc_is_question : FnScope N_is_question P_is_question (defScope s_is_question) := ⟨rfl, rfl, rfl, by decide +kernel, rfl, by decide +kernel, by decide +kernel⟩
abbrev s_check_question : Stmt := topS 13
abbrev N_check_question : List Str := ["question", "many"]
abbrev P_check_question : List Str := ["question", "many"]
theorem sc_check_question : FnScope N_check_question P_check_question (defScope s_check_question) := ⟨rfl, rfl, rfl, by decide +kernel, rfl, by decide +kernel, by decide +kernel⟩
abbrev s_check_order : Stmt := topS 14
abbrev N_check_order : List Str := ["order", "many", "seen", "index", "item"]
abbrev P_check_order : List Str := ["order", "many"]
theorem sc_check_order : FnScope N_check_order P_check_order (defScope s_check_order) := ⟨rfl, rfl, rfl, by decide +kernel, rfl, by decide +kernel, by decide +kernel⟩
abbrev s_check_bool : Stmt := topS 15
abbrev N_check_bool : List Str := ["name", "value"]
abbrev P_check_bool : List Str := ["name", "value"]
theorem sc_check_bool : FnScope N_check_bool P_check_bool (defScope s_check_bool) := ⟨rfl, rfl, rfl, by decide +kernel, rfl, by decide +kernel, by decide +kernel⟩
abbrev s_honest : Stmt := topS 17
abbrev N_honest : List Str := ["keys", "question", "one", "other"]
abbrev P_honest : List Str := ["keys", "question"]
theorem sc_honest : FnScope N_honest P_honest (defScope s_honest) := ⟨rfl, rfl, rfl, by decide +kernel, rfl, by decide +kernel, by decide +kernel⟩
abbrev s_stable_order : Stmt := topS 18
abbrev N_stable_order : List Str := ["keys", "reverse"]
abbrev P_stable_order : List Str := ["keys", "reverse"]
theorem sc_stable_order : FnScope N_stable_order P_stable_order (defScope s_stable_order) := ⟨rfl, rfl, rfl, by decide +kernel, rfl, by decide +kernel, by decide +kernel⟩
abbrev s_is_order : Stmt := topS 19
abbrev N_is_order : List Str := ["keys", "order", "reverse"]
abbrev P_is_order : List Str := ["keys", "order", "reverse"]
theorem sc_is_order : FnScope N_is_order P_is_order (defScope s_is_order) := ⟨rfl, rfl, rfl, by decide +kernel, rfl, by decide +kernel, by decide +kernel⟩
abbrev s_stable : Stmt := topS 20
abbrev N_stable : List Str := ["keys", "reverse", "sign", "pairs", "item", "key", "_"]
abbrev P_stable : List Str := ["keys", "reverse"]
theorem sc_stable : FnScope N_stable P_stable (defScope s_stable) := ⟨rfl, rfl, rfl, by decide +kernel, rfl, by decide +kernel, by decide +kernel⟩
abbrev s_mixed : Stmt := topS 22
abbrev N_mixed : List Str := ["cell", "draw", "figure"]
abbrev P_mixed : List Str := ["cell", "draw"]
theorem sc_mixed : FnScope N_mixed P_mixed (defScope s_mixed) := ⟨rfl, rfl, rfl, by decide +kernel, rfl, by decide +kernel, by decide +kernel⟩
abbrev s_source : Stmt := topS 23
abbrev N_source : List Str := ["cell"]
abbrev P_source : List Str := ["cell"]
theorem sc_source : FnScope N_source P_source (defScope s_source) := ⟨rfl, rfl, rfl, by decide +kernel, rfl, by decide +kernel, by decide +kernel⟩
abbrev s_take : Stmt := topS 24
abbrev N_take : List Str := ["source", "bound", "drawn"]
abbrev P_take : List Str := ["source", "bound"]
theorem sc_take : FnScope N_take P_take (defScope s_take) := ⟨rfl, rfl, rfl, by decide +kernel, rfl, by decide +kernel, by decide +kernel⟩
abbrev s_part : Stmt := topS 26
abbrev N_part : List Str := ["source", "size", "sort", "base", "step", "k"]
abbrev P_part : List Str := ["source", "size"]
theorem sc_part : FnScope N_part P_part (defScope s_part) := ⟨rfl, rfl, rfl, by decide +kernel, rfl, by decide +kernel, by decide +kernel⟩
abbrev s_keys : Stmt := topS 27
abbrev N_keys : List Str := ["source", "bound", "many", "found", "left", "size"]
abbrev P_keys : List Str := ["source", "bound"]
theorem sc_keys : FnScope N_keys P_keys (defScope s_keys) := ⟨rfl, rfl, rfl, by decide +kernel, rfl, by decide +kernel, by decide +kernel⟩
abbrev s_is_right : Stmt := topS 28
abbrev N_is_right : List Str := ["source", "marks", "order", "many", "far", "step", "ranks", "likes", "key", "other", "back", "turned", "item", "twice", "one", "k"]
abbrev P_is_right : List Str := ["source", "marks"]
theorem sc_is_right : FnScope N_is_right P_is_right (defScope s_is_right) := ⟨rfl, rfl, rfl, by decide +kernel, rfl, by decide +kernel, by decide +kernel⟩
abbrev s_law : Stmt := topS 29
abbrev N_law : List Str := ["script", "cell", "source"]
abbrev P_law : List Str := ["script"]
theorem sc_law : FnScope N_law P_law (defScope s_law) := ⟨rfl, rfl, rfl, by decide +kernel, rfl, by decide +kernel, by decide +kernel⟩
def kg_is_order_2_reverse {α : Type} : List α → List α → List α
  | [a, b], [c] => [a, b, c]
  | _, _ => []
theorem kg_vals_is_order_2_reverse : ∀ {vs zs : List V} {us ws : List Value}, Vals vs us → Vals zs ws → Vals (kg_is_order_2_reverse vs zs) (kg_is_order_2_reverse us ws)
  | _, _, _, _, .cons r_a (.cons r_b .nil), .cons r_c .nil => .cons r_a (.cons r_b (.cons r_c .nil))
  | _, _, _, _, .nil, _ => .nil
  | _, _, _, _, .cons _ .nil, _ => .nil
  | _, _, _, _, .cons _ (.cons _ (.cons _ _)), _ => .nil
  | _, _, _, _, .cons _ (.cons _ .nil), .nil => .nil
  | _, _, _, _, .cons _ (.cons _ .nil), .cons _ (.cons _ _) => .nil
def kg_stable_order_1_reverse {α : Type} : List α → List α → List α
  | [a], [b] => [a, b]
  | _, _ => []
theorem kg_vals_stable_order_1_reverse : ∀ {vs zs : List V} {us ws : List Value}, Vals vs us → Vals zs ws → Vals (kg_stable_order_1_reverse vs zs) (kg_stable_order_1_reverse us ws)
  | _, _, _, _, .cons r_a .nil, .cons r_b .nil => .cons r_a (.cons r_b .nil)
  | _, _, _, _, .nil, _ => .nil
  | _, _, _, _, .cons _ (.cons _ _), _ => .nil
  | _, _, _, _, .cons _ .nil, .nil => .nil
  | _, _, _, _, .cons _ .nil, .cons _ (.cons _ _) => .nil
structure Ad where
  (is_integer : Addr) (is_within : Addr) (is_item : Addr) (check_keys : Addr) (is_question : Addr) (check_question : Addr) (check_order : Addr) (check_bool : Addr) (honest : Addr) (stable_order : Addr) (is_order : Addr) (stable : Addr) (mixed : Addr) (source : Addr) (take : Addr) (part : Addr) (keys : Addr) (is_right : Addr) (law : Addr)
structure Fd where
  (is_integer : FuncData) (is_within : FuncData) (is_item : FuncData) (check_keys : FuncData) (is_question : FuncData) (check_question : FuncData) (check_order : FuncData) (check_bool : FuncData) (honest : FuncData) (stable_order : FuncData) (is_order : FuncData) (stable : FuncData) (mixed : FuncData) (source : FuncData) (take : FuncData) (part : FuncData) (keys : FuncData) (is_right : FuncData) (law : FuncData)
/-- what the top has written -/
structure Txt (K : PySem.W.Frag) (mg : Str → Option Value) (a : Ad) (d : Fd) : Prop where
  g_is_integer : mg "is_integer" = some (.ref a.is_integer)
  k_is_integer : PySem.W.keepIn K (.ref a.is_integer) = true
  f_is_integer : Fun K "is_integer" "is_integer" s_is_integer a.is_integer d.is_integer
  b_is_integer : Binds K d.is_integer P_is_integer []
  g_is_within : mg "is_within" = some (.ref a.is_within)
  k_is_within : PySem.W.keepIn K (.ref a.is_within) = true
  f_is_within : Fun K "is_within" "is_within" s_is_within a.is_within d.is_within
  b_is_within : Binds K d.is_within P_is_within []
  g_is_item : mg "is_item" = some (.ref a.is_item)
  k_is_item : PySem.W.keepIn K (.ref a.is_item) = true
  f_is_item : Fun K "is_item" "is_item" s_is_item a.is_item d.is_item
  b_is_item : Binds K d.is_item P_is_item []
  g_check_keys : mg "check_keys" = some (.ref a.check_keys)
  k_check_keys : PySem.W.keepIn K (.ref a.check_keys) = true
  f_check_keys : FunV K "check_keys" "check_keys" s_check_keys a.check_keys d.check_keys
  b_check_keys_2 : ∃ ds, Vals [.int 0, .int 2000] ds ∧ Binds K d.check_keys P_check_keys ds
  b_check_keys : Binds K d.check_keys P_check_keys []
  g_is_question : mg "is_question" = some (.ref a.is_question)
  k_is_question : PySem.W.keepIn K (.ref a.is_question) = true
  f_is_question : Fun K "is_question" "is_question" s_is_question a.is_question d.is_question
  b_is_question : Binds K d.is_question P_is_question []
  g_check_question : mg "check_question" = some (.ref a.check_question)
  k_check_question : PySem.W.keepIn K (.ref a.check_question) = true
  f_check_question : Fun K "check_question" "check_question" s_check_question a.check_question d.check_question
  b_check_question : Binds K d.check_question P_check_question []
  g_check_order : mg "check_order" = some (.ref a.check_order)
  k_check_order : PySem.W.keepIn K (.ref a.check_order) = true
  f_check_order : Fun K "check_order" "check_order" s_check_order a.check_order d.check_order
  b_check_order : Binds K d.check_order P_check_order []
  g_check_bool : mg "check_bool" = some (.ref a.check_bool)
  k_check_bool : PySem.W.keepIn K (.ref a.check_bool) = true
  f_check_bool : Fun K "check_bool" "check_bool" s_check_bool a.check_bool d.check_bool
  b_check_bool : Binds K d.check_bool P_check_bool []
  g_honest : mg "honest" = some (.ref a.honest)
  k_honest : PySem.W.keepIn K (.ref a.honest) = true
  f_honest : Fun K "honest" "honest" s_honest a.honest d.honest
  b_honest : Binds K d.honest P_honest []
  g_stable_order : mg "stable_order" = some (.ref a.stable_order)
  k_stable_order : PySem.W.keepIn K (.ref a.stable_order) = true
  f_stable_order : Fun K "stable_order" "stable_order" s_stable_order a.stable_order d.stable_order
  b_stable_order : Binds K d.stable_order P_stable_order [.bool false]
  kn_stable_order_1_reverse : KBn K d.stable_order P_stable_order 1 ["reverse"] (fun us ws => kg_stable_order_1_reverse us ws) (fun us ws => kg_stable_order_1_reverse us ws)
  g_is_order : mg "is_order" = some (.ref a.is_order)
  k_is_order : PySem.W.keepIn K (.ref a.is_order) = true
  f_is_order : Fun K "is_order" "is_order" s_is_order a.is_order d.is_order
  b_is_order : Binds K d.is_order P_is_order [.bool false]
  kn_is_order_2_reverse : KBn K d.is_order P_is_order 2 ["reverse"] (fun us ws => kg_is_order_2_reverse us ws) (fun us ws => kg_is_order_2_reverse us ws)
  g_stable : mg "_stable" = some (.ref a.stable)
  k_stable : PySem.W.keepIn K (.ref a.stable) = true
  f_stable : Fun K "_stable" "_stable" s_stable a.stable d.stable
  b_stable : Binds K d.stable P_stable []
  g_mixed : mg "_law_mixed" = some (.ref a.mixed)
  k_mixed : PySem.W.keepIn K (.ref a.mixed) = true
  f_mixed : Fun K "_law_mixed" "_law_mixed" s_mixed a.mixed d.mixed
  b_mixed : Binds K d.mixed P_mixed []
  g_source : mg "_law_source" = some (.ref a.source)
  k_source : PySem.W.keepIn K (.ref a.source) = true
  f_source : Fun K "_law_source" "_law_source" s_source a.source d.source
  b_source : Binds K d.source P_source []
  g_take : mg "_law_take" = some (.ref a.take)
  k_take : PySem.W.keepIn K (.ref a.take) = true
  f_take : Fun K "_law_take" "_law_take" s_take a.take d.take
  b_take : Binds K d.take P_take []
  g_part : mg "_law_part" = some (.ref a.part)
  k_part : PySem.W.keepIn K (.ref a.part) = true
  f_part : Fun K "_law_part" "_law_part" s_part a.part d.part
  b_part : Binds K d.part P_part []
  g_keys : mg "_law_keys" = some (.ref a.keys)
  k_keys : PySem.W.keepIn K (.ref a.keys) = true
  f_keys : Fun K "_law_keys" "_law_keys" s_keys a.keys d.keys
  b_keys : Binds K d.keys P_keys []
  g_is_right : mg "_law_is_right" = some (.ref a.is_right)
  k_is_right : PySem.W.keepIn K (.ref a.is_right) = true
  f_is_right : Fun K "_law_is_right" "_law_is_right" s_is_right a.is_right d.is_right
  b_is_right : Binds K d.is_right P_is_right []
  g_law : mg "law" = some (.ref a.law)
  k_law : PySem.W.keepIn K (.ref a.law) = true
  f_law : Fun K "law" "law" s_law a.law d.law
  b_law : Binds K d.law P_law []
  z_abs : mg "abs" = none
  z_bool : mg "bool" = none
  z_enumerate : mg "enumerate" = none
  z_int : mg "int" = none
  z_isinstance : mg "isinstance" = none
  z_len : mg "len" = none
  z_list : mg "list" = none
  z_range : mg "range" = none
  z_set : mg "set" = none
  z_sorted : mg "sorted" = none
  z_tuple : mg "tuple" = none
/-! keywords -/
theorem kwb_stable_order {K : PySem.W.Frag} {f D : Addr} {oc : Value} {od an : Option Addr} {osl : Array (Option Value)} {doc pm cdv ct : Value} (l : K.lookup f = some ⟨oc, od, .func (PySem.W.fnOf "stable_order" "stable_order" (defArgs s_stable_order) (defBody s_stable_order) (defScope s_stable_order) .none (.ref D) doc pm an cdv ct), osl⟩)
    (c : PySem.W.codeIn K cdv "stable_order" = true) (k : PySem.W.keepIn K (.ref f) = true) (n : PySem.W.nsIn K D "reverse" = some (some (.bool false))) : Binds K (PySem.W.fnOf "stable_order" "stable_order" (defArgs s_stable_order) (defBody s_stable_order) (defScope s_stable_order) .none (.ref D) doc pm an cdv ct) P_stable_order [.bool false] := by
  have F : FunD K "stable_order" "stable_order" (defArgs s_stable_order) (defBody s_stable_order) (defScope s_stable_order) [] [("reverse", .bl false)] f _ := ⟨⟨_, _, _, _, _, _, _, _, _, _, rfl, l, c, .inl ⟨rfl, rfl⟩, .inr ⟨D, rfl, fun q hq => by
    rw [List.mem_singleton.mp hq]
    exact ⟨_, n, rfl⟩⟩⟩, k⟩
  obtain ⟨ds, r, b⟩ := F.binds0 (ps := P_stable_order) 1 (by simp) rfl fun D doc pm an cdv ct us ks h1 h2 => match us, ks, h1, h2 with
    | [_], [_], _, _ => ⟨_, _, _, _, _, _, rfl, rfl, rfl⟩
  cases r with
  | cons h t =>
    cases t
    cases h
    exact b
theorem kwb_is_order {K : PySem.W.Frag} {f D : Addr} {oc : Value} {od an : Option Addr} {osl : Array (Option Value)} {doc pm cdv ct : Value} (l : K.lookup f = some ⟨oc, od, .func (PySem.W.fnOf "is_order" "is_order" (defArgs s_is_order) (defBody s_is_order) (defScope s_is_order) .none (.ref D) doc pm an cdv ct), osl⟩)
    (c : PySem.W.codeIn K cdv "is_order" = true) (k : PySem.W.keepIn K (.ref f) = true) (n : PySem.W.nsIn K D "reverse" = some (some (.bool false))) : Binds K (PySem.W.fnOf "is_order" "is_order" (defArgs s_is_order) (defBody s_is_order) (defScope s_is_order) .none (.ref D) doc pm an cdv ct) P_is_order [.bool false] := by
  have F : FunD K "is_order" "is_order" (defArgs s_is_order) (defBody s_is_order) (defScope s_is_order) [] [("reverse", .bl false)] f _ := ⟨⟨_, _, _, _, _, _, _, _, _, _, rfl, l, c, .inl ⟨rfl, rfl⟩, .inr ⟨D, rfl, fun q hq => by
    rw [List.mem_singleton.mp hq]
    exact ⟨_, n, rfl⟩⟩⟩, k⟩
  obtain ⟨ds, r, b⟩ := F.binds0 (ps := P_is_order) 2 (by simp) rfl fun D doc pm an cdv ct us ks h1 h2 => match us, ks, h1, h2 with
    | [_, _], [_], _, _ => ⟨_, _, _, _, _, _, rfl, rfl, rfl⟩
  cases r with
  | cons h t =>
    cases t
    cases h
    exact b
theorem kbn_stable_order_1_reverse {K : PySem.W.Frag} {f : Addr} {fd : FuncData} (F : Fun K "stable_order" "stable_order" s_stable_order f fd) : KBn K fd P_stable_order 1 ["reverse"] (fun us ws => kg_stable_order_1_reverse us ws) (fun us ws => kg_stable_order_1_reverse us ws) := by
  obtain ⟨oc, od, kV, doc, pm, an, cdv, ct, osl, rfl, lk, hcd⟩ := F.ex
  refine ⟨fun s us ws _ h1 h2 => ?_, fun {vs us zs ws} r1 r2 => ?_⟩
  · match us, ws, h1, h2 with
    | [_], [_], _, _ => exact .of_eq rfl
  · exact kg_vals_stable_order_1_reverse r1 r2
theorem kbn_is_order_2_reverse {K : PySem.W.Frag} {f : Addr} {fd : FuncData} (F : Fun K "is_order" "is_order" s_is_order f fd) : KBn K fd P_is_order 2 ["reverse"] (fun us ws => kg_is_order_2_reverse us ws) (fun us ws => kg_is_order_2_reverse us ws) := by
  obtain ⟨oc, od, kV, doc, pm, an, cdv, ct, osl, rfl, lk, hcd⟩ := F.ex
  refine ⟨fun s us ws _ h1 h2 => ?_, fun {vs us zs ws} r1 r2 => ?_⟩
  · match us, ws, h1, h2 with
    | [_, _], [_], _, _ => exact .of_eq rfl
  · exact kg_vals_is_order_2_reverse r1 r2
def spIsInt : Sp := fun vs H Q _ => ∃ i, vs = [.int i] ∧ Q (.bl true) H
section
variable {P : Program} {w : World} {K : PySem.W.Frag} {mg : Str → Option Value} {base : Heap} {a : Ad} {d : Fd}
theorem ok_is_integer (T : Txt K mg a d) : FnOk P w K mg base CX0 1 a.is_integer d.is_integer P_is_integer spIsInt := by
  refine T.f_is_integer.ok sc_is_integer (fun vs H Q E h => ?_) (fun cdv A outer s H vs Q E hr h => ?_)
  · obtain ⟨i, rfl, _⟩ := h
    rfl
  · obtain ⟨i, rfl, q⟩ := h
    refine ⟨_, (pss_one (ps_ret (pe_and (pe_callB call_isi (by rfl) T.z_isinstance (by decide +kernel) (pa_cons (pv 0) (pa_cons (pe_bltn (v := .ty "int") (u := .type "int") (by rfl) T.z_int (by decide +kernel) rfl) pa_nil))) (pe_one (pe_not (pe_callB call_isi (by rfl) T.z_isinstance (by decide +kernel) (pa_cons (pv 0) (pa_cons (pe_bltn (v := .ty "bool") (u := .type "bool") (by rfl) T.z_bool (by decide +kernel) rfl) pa_nil)))))))), ?_⟩
    refine ⟨_, rfl, .int i, .ty "int", .type "int", .type "int", true, rfl, .ty _, .base (.int i), kit_ty (by decide +kernel), true, rfl, iteT ?_⟩
    exact ⟨_, rfl, .int i, .ty "bool", .type "int", .type "bool", false, rfl, .ty _, .base (.int i), kit_ty (by decide +kernel), false, rfl, q⟩
end
def spWithin : Sp := fun vs H Q _ => ∃ v lo hi, vs = [.int v, .int lo, .int hi] ∧ lo ≤ v ∧ v ≤ hi ∧ Q (.bl true) H
section
variable {P : Program} {w : World} {K : PySem.W.Frag} {mg : Str → Option Value} {base : Heap} {a : Ad} {d : Fd}
theorem ok_is_within (T : Txt K mg a d) : FnOk P w K mg base CX0 2 a.is_within d.is_within P_is_within spWithin := by
  have G_is_integer : FnOk P w K mg base CX0 1 a.is_integer d.is_integer P_is_integer spIsInt := ok_is_integer T
  refine T.f_is_within.ok sc_is_within (fun vs H Q E h => ?_) (fun cdv A outer s H vs Q E hr h => ?_)
  · obtain ⟨v, lo, hi, rfl, _⟩ := h
    rfl
  · obtain ⟨v, lo, hi, rfl, h1, h2, q⟩ := h
    refine ⟨_, (pss_one (ps_ret (pe_and (pe_call G_is_integer (hr.mono (by decide)) (by rfl) T.g_is_integer T.k_is_integer T.b_is_integer .nil pass0 (pa_cons (pv 0) pa_nil)) (pe_and (pe_cmpR op_ge (pv 0) (pv 1) (nomark _)) (pe_one (pe_or (pe_cmpR op_isN (pv 2) pe_non (nomark _)) (pe_one (pe_cmpR op_le (pv 0) (pv 2) (nomark _))))))))), ?_⟩
    refine ⟨_, rfl, v, rfl, true, rfl, iteT ?_⟩
    refine ⟨_, rfl, _, rfl, _, _, rfl, rfl, true, congrArg V.bl (decide_eq_true h1), iteT ?_⟩
    refine ⟨_, rfl, rfl, false, rfl, iteF ?_⟩
    refine ⟨_, rfl, _, rfl, _, _, rfl, rfl, ?_⟩
    show Q (V.bl (decide (v ≤ hi))) H
    rw [decide_eq_true h2]
    exact q
end


def spIsItem : Sp := fun vs H Q _ => ∃ i n, vs = [.int i, .int n] ∧ 0 ≤ i ∧ i < n ∧ Q (.bl true) H
section
variable {P : Program} {w : World} {K : PySem.W.Frag} {mg : Str → Option Value} {base : Heap} {a : Ad} {d : Fd}
theorem ok_is_item (T : Txt K mg a d) : FnOk P w K mg base CX0 3 a.is_item d.is_item P_is_item spIsItem := by
  have G_is_within : FnOk P w K mg base CX0 2 a.is_within d.is_within P_is_within spWithin := ok_is_within T
  refine T.f_is_item.ok sc_is_item (fun vs H Q E h => ?_) (fun cdv A outer s H vs Q E hr h => ?_)
  · obtain ⟨i, n, rfl, _⟩ := h
    rfl
  · obtain ⟨i, n, rfl, h0, h1, q⟩ := h
    refine ⟨_, (pss_one (ps_ret (pe_call G_is_within (hr.mono (by decide)) (by rfl) T.g_is_within T.k_is_within T.b_is_within .nil pass0 (pa_cons (pv 0) (pa_cons pe_int (pa_cons (pe_op op_sub (pv 1) pe_int) pa_nil)))))), ?_⟩
    exact ⟨_, rfl, _, rfl, _, _, rfl, rfl, i, 0, n - 1, rfl, h0, by omega, q⟩
end


/-- keys: a list or a tuple of ints -/
def KeysAt (H : Hp) (p : Addr) (ns : List Int) : Prop := H p = some (.lst (ns.map V.int)) ∨ H p = some (.tup (ns.map V.int))
theorem KeysAt.same {H H' : Hp} {p : Addr} {ns : List Int} (e : Same H H') (h : KeysAt H p ns) : KeysAt H' p ns := h.imp (e _ _) (e _ _)
def spCheckKeysN : Sp := fun vs H Q _ => ∃ p ns lo hi, vs = [.ref p, .int lo, .int hi] ∧ KeysAt H p ns ∧ lo ≤ (ns.length : Int) ∧ (ns.length : Int) ≤ hi ∧ ∀ H', Same H H' → Q .non H'
theorem keys_item {ns : List Int} {i : Nat} {x : V} (h : (ns.map V.int)[i]? = some x) : ∃ z, ns[i]? = some z ∧ x = .int z := by
  rw [List.getElem?_map] at h
  cases e : ns[i]? with
  | none => rw [e] at h; cases h
  | some z => rw [e] at h; exact ⟨z, rfl, (Option.some.inj h).symm⟩
section
variable {P : Program} {w : World} {K : PySem.W.Frag} {mg : Str → Option Value} {base : Heap} {a : Ad} {d : Fd}
theorem ok_check_keys (T : Txt K mg a d) : FnOk P w K mg base CX0 2 a.check_keys d.check_keys P_check_keys spCheckKeysN := by
  have G_is_integer : FnOk P w K mg base CX0 1 a.is_integer d.is_integer P_is_integer spIsInt := ok_is_integer T
  refine T.f_check_keys.ok sc_check_keys (fun vs H Q E h => ?_) (fun cdv A outer s H vs Q E hr h => ?_)
  · obtain ⟨p, ns, lo, hi, rfl, _⟩ := h
    rfl
  · obtain ⟨p, ns, lo, hi, rfl, hK, hl1, hl2, q⟩ := h
    refine ⟨_, (pss_cons (ps_if (PW.pt (pw_or (pt_not (pt_val (pe_callB call_isiT (by rfl) T.z_isinstance (by decide +kernel) (pa_cons (pv 0) (pa_cons (pe_tup (pa_cons (pe_bltn (v := .ty "list") (u := .type "list") (by rfl) T.z_list (by decide +kernel) rfl) (pa_cons (pe_bltn (v := .ty "tuple") (u := .type "tuple") (by rfl) T.z_tuple (by decide +kernel) rfl) pa_nil))) pa_nil))))) (pw_or1 (pt_not (pt_chain op_le op_le (pv 1) (pe_callB call_len_seq (by rfl) T.z_len PySem.boot_len (pa_cons (pv 0) pa_nil)) (pv 2)))))) (pss_one ps_never) pss_nil)
    (pss_one (ps_for PassesOwn.never rfl (pi_enumA (by rfl) T.z_enumerate (pa_cons (pv 0) pa_nil)) (pg_tup rfl (pgs_cons (pg_name (i := 3) sc_check_keys.nd rfl (Or.inl rfl)) (pgs_cons (pg_name (i := 4) sc_check_keys.nd rfl (Or.inl rfl)) pgs_nil)))
      (pss_one (ps_if (pt_not (pt_val (pe_call G_is_integer (hr.mono (by decide)) (by rfl) T.g_is_integer T.k_is_integer T.b_is_integer .nil pass0 (pa_cons (pv 4) pa_nil)))) (pss_one ps_never) pss_nil))))), ?_⟩
    refine ⟨_, rfl, by show 2 ≤ sizeLine; decide, fun tp htp => ?_⟩
    have s1 : Same H (upd H tp (.tup [.ty "list", .ty "tuple"])) := same_upd htp
    have hK1 := hK.same s1
    have hT : upd H tp (.tup [.ty "list", .ty "tuple"]) tp = some (.tup [.ty "list", .ty "tuple"]) := upd_same
    generalize upd H tp (.tup [.ty "list", .ty "tuple"]) = H1 at s1 hK1 hT ⊢
    have cs : Paired ClsV [.ty "list", .ty "tuple"] [.type "list", .type "tuple"] := .cons (.ty _) (.cons (.ty _) .nil)
    have hS : SqL K H1 p (ns.map V.int) ∨ SqT K H1 p (ns.map V.int) := hK1.imp L2.sq_of L2.st_of
    obtain ⟨t, hty, hkit⟩ : ∃ t, TyX K H1 (.ref p) t ∧ PySem.W.kitAny K t [.type "list", .type "tuple"] = some true := by
      rcases hK1 with hl | ht
      · exact ⟨_, .base (.lst hl), kitAny_cons (b := true) (kit_ty (by decide +kernel)) (fun z => nomatch z) (fun _ => rfl)⟩
      · exact ⟨_, .base (.tup ht), kitAny_cons (b := false) (kit_ty (by decide +kernel)) (fun _ => kitAny_cons (b := true) (kit_ty (by decide +kernel)) (fun z => nomatch z) (fun _ => rfl)) (fun z => nomatch z)⟩
    refine ⟨.ref p, tp, _, t, _, true, rfl, hT, cs, hty, hkit, true, rfl, iteF ?_⟩
    have el : (ns.map V.int).length = ns.length := List.length_map _
    refine ⟨_, rfl, _, rfl, p, _, rfl, hS, _, _, rfl, rfl, true, congrArg V.bl (decide_eq_true (by rw [el]; exact hl1)), iteT ⟨_, rfl, _, _, rfl, rfl, true, congrArg V.bl (decide_eq_true (by rw [el]; exact hl2)), iteF ?_⟩⟩
    · refine ⟨_, rfl, p, ns.map V.int, rfl, hS.imp (fun hs => ⟨hs, ?_⟩) (fun hs => ⟨hs, ?_⟩)⟩
      · refine for_iteL (K := K) (a := p) (xs := ns.map V.int) (fun i σ H' => (∃ u v, σ = [some (.ref p), some (.int lo), some (.int hi), u, v]) ∧ Same H1 H') ⟨⟨_, _, rfl⟩, Same.refl _⟩ (fun i σ H' _ h => h.2.seq hs) ?_ ?_
        · rintro i y σ H2 Tp hy ⟨⟨u, v, rfl⟩, sm⟩ hn
          obtain ⟨z, _, rfl⟩ := keys_item hy
          refine ⟨Tp, _, rfl, L2.st_of upd_same, rfl, _, _, rfl, _, _, rfl, rfl, ?_⟩
          refine ⟨_, rfl, z, rfl, true, rfl, iteF ?_⟩
          exact ⟨⟨_, _, rfl⟩, sm.trans (same_upd hn)⟩
        · rintro σ H' ⟨_, sm⟩
          exact q H' (s1.trans sm)
      · refine for_iteT (K := K) (a := p) (xs := ns.map V.int) (fun i σ H' => (∃ u v, σ = [some (.ref p), some (.int lo), some (.int hi), u, v]) ∧ Same H1 H') ⟨⟨_, _, rfl⟩, Same.refl _⟩ (fun i σ H' _ h => Same.tupS h.2 hs) ?_ ?_
        · rintro i y σ H2 Tp hy ⟨⟨u, v, rfl⟩, sm⟩ hn
          obtain ⟨z, _, rfl⟩ := keys_item hy
          refine ⟨Tp, _, rfl, L2.st_of upd_same, rfl, _, _, rfl, _, _, rfl, rfl, ?_⟩
          refine ⟨_, rfl, z, rfl, true, rfl, iteF ?_⟩
          exact ⟨⟨_, _, rfl⟩, sm.trans (same_upd hn)⟩
        · rintro σ H' ⟨_, sm⟩
          exact q H' (s1.trans sm)
end

def OrdAt (H : Hp) (q : Addr) (bs : List Nat) : Prop := H q = some (.lst (nV bs)) ∨ H q = some (.tup (nV bs))
theorem OrdAt.same {H H' : Hp} {q : Addr} {bs : List Nat} (e : Same H H') (h : OrdAt H q bs) : OrdAt H' q bs := h.imp (e _ _) (e _ _)
def spCheckBool : Sp := fun vs H Q _ => ∃ (x : V) (b : Bool), vs = [x, .bl b] ∧ Q .non H
def spCheckOrder : Sp := fun vs H Q _ => ∃ (q : Addr) (bs : List Nat) (n : Nat), vs = [.ref q, .int (n : Int)] ∧ OrdAt H q bs ∧ bs.Perm (List.range n) ∧ n ≤ 2000 ∧ ∀ H', Same H H' → Q .non H'
def spStable : Sp := fun vs H Q _ => ∃ (p : Addr) (ks : List Int) (rev : Bool), vs = [.ref p, .bl rev] ∧ KeysAt H p ks ∧ ks.length ≤ 2000 ∧ ∀ (r : Addr) (os : List Nat) (H' : Hp), Stab (keyf ks rev) ks.length os → H r = none → Same H H' → H' r = some (.lst (nV os)) → Q (.ref r) H'
def spIsOrder : Sp := fun vs H Q _ => ∃ (p q : Addr) (ks : List Int) (bs : List Nat) (rev : Bool), vs = [.ref p, .ref q, .bl rev] ∧ KeysAt H p ks ∧ ks.length ≤ 2000 ∧ OrdAt H q bs ∧ bs.Perm (List.range ks.length) ∧ ∀ (os : List Nat) (H' : Hp), Stab (keyf ks rev) ks.length os → Same H H' → Q (.bl (decide (bs = os))) H'
theorem rep_flatV (x : V) : ∀ n : Nat, (List.replicate n [x]).flatten = List.replicate n x
  | 0 => rfl
  | n + 1 => by
    rw [List.replicate_succ, List.replicate_succ, List.flatten_cons, rep_flatV x n]
    rfl
/-- which items have been seen -/
def seenAt (n : Nat) (l : List Nat) : List V := (List.range n).map fun k => V.bl (decide (k ∈ l))
theorem seen_nil (n : Nat) : List.replicate n (V.bl false) = seenAt n [] := by
  refine List.ext_getElem? fun i => ?_
  unfold seenAt
  rw [List.getElem?_replicate, List.getElem?_map]
  by_cases h : i < n
  · rw [if_pos h, List.getElem?_range h]
    rfl
  · rw [if_neg h, List.getElem?_eq_none (by rw [List.length_range]; omega)]
    rfl
theorem seen_at {n b : Nat} {l : List Nat} (h : b < n) : (seenAt n l)[b]? = some (.bl (decide (b ∈ l))) := by
  unfold seenAt
  rw [List.getElem?_map, List.getElem?_range h]
  rfl
theorem seen_len (n : Nat) (l : List Nat) : (seenAt n l).length = n := by
  unfold seenAt
  rw [List.length_map, List.length_range]
theorem seen_set {n b : Nat} {l : List Nat} (h : b < n) : (seenAt n l).set b (.bl true) = seenAt n (l ++ [b]) := by
  refine List.ext_getElem? fun i => ?_
  rw [List.getElem?_set, seen_len]
  by_cases e : b = i
  · subst e
    rw [if_pos rfl, if_pos h, seen_at h]
    simp
  · rw [if_neg e]
    by_cases hi : i < n
    · rw [seen_at hi, seen_at hi]
      have ne : ¬ i = b := fun z => e z.symm
      simp [ne]
    · rw [List.getElem?_eq_none (by rw [seen_len]; omega), List.getElem?_eq_none (by rw [seen_len]; omega)]
theorem take_more {α : Type} {l : List α} {i : Nat} {x : α} (h : l[i]? = some x) : l.take (i + 1) = l.take i ++ [x] := by
  rw [List.take_add_one, h]
  rfl
theorem not_before {l : List Nat} {i b : Nat} (nd : l.Nodup) (h : l[i]? = some b) : b ∉ l.take i := by
  intro hm
  have e : l = l.take i ++ l.drop i := (List.take_append_drop i l).symm
  rw [e] at nd
  have hb : b ∈ l.drop i := by
    have q : (l.drop i)[0]? = some b := by
      rw [List.getElem?_drop]
      exact h
    exact List.mem_of_getElem? q
  exact (List.nodup_append.mp nd).2.2 b hm b hb rfl
theorem nV_item {bs : List Nat} {i : Nat} {x : V} (h : (nV bs)[i]? = some x) : ∃ b, bs[i]? = some b ∧ x = .int (b : Int) := by
  rw [List.getElem?_map] at h
  cases e : bs[i]? with
  | none => rw [e] at h; cases h
  | some z => rw [e] at h; exact ⟨z, rfl, (Option.some.inj h).symm⟩
/-- what two ints a value is a pair of -/
def pairOf (H : Hp) (x : V) : Int × Int := match x with
  | .ref t => match H t with
    | some (.tup [.int i, .int j]) => (i, j)
    | _ => (0, 0)
  | _ => (0, 0)
theorem pairOf_at {H : Hp} {t : Addr} {i j : Int} (h : H t = some (.tup [.int i, .int j])) : pairOf H (.ref t) = (i, j) := by
  unfold pairOf
  simp only [h]
section
variable {P : Program} {w : World} {K : PySem.W.Frag} {mg : Str → Option Value} {base : Heap} {a : Ad} {d : Fd}
theorem ok_check_bool (T : Txt K mg a d) : FnOk P w K mg base CX0 1 a.check_bool d.check_bool P_check_bool spCheckBool := by
  refine T.f_check_bool.ok sc_check_bool (fun vs H Q E h => ?_) (fun cdv A outer s H vs Q E hr h => ?_)
  · obtain ⟨x, b, rfl, _⟩ := h
    rfl
  · obtain ⟨x, b, rfl, q⟩ := h
    refine ⟨_, (pss_one (ps_if (pt_not (pt_val (pe_callB call_isi (by rfl) T.z_isinstance (by decide +kernel) (pa_cons (pv 1) (pa_cons (pe_bltn (v := .ty "bool") (u := .type "bool") (by rfl) T.z_bool (by decide +kernel) rfl) pa_nil))))) (pss_one ps_never) pss_nil)), ?_⟩
    exact ⟨_, rfl, .bl b, .ty "bool", .type "bool", .type "bool", true, rfl, .ty _, .base (.bl b), kit_ty (by decide +kernel), true, rfl, iteF q⟩
theorem ok_check_order (T : Txt K mg a d) : FnOk P w K mg base CX0 4 a.check_order d.check_order P_check_order spCheckOrder := by
  have G_is_item : FnOk P w K mg base CX0 3 a.is_item d.is_item P_is_item spIsItem := ok_is_item T
  refine T.f_check_order.ok sc_check_order (fun vs H Q E h => ?_) (fun cdv A outer s H vs Q E hr h => ?_)
  · obtain ⟨q, bs, n, rfl, _⟩ := h
    rfl
  · obtain ⟨p, bs, n, rfl, hK, pm, hlen, q⟩ := h
    refine ⟨_, (pss_cons (ps_if (PW.pt (pw_or (pt_not (pt_val (pe_callB call_isiT (by rfl) T.z_isinstance (by decide +kernel) (pa_cons (pv 0) (pa_cons (pe_tup (pa_cons (pe_bltn (v := .ty "list") (u := .type "list") (by rfl) T.z_list (by decide +kernel) rfl) (pa_cons (pe_bltn (v := .ty "tuple") (u := .type "tuple") (by rfl) T.z_tuple (by decide +kernel) rfl) pa_nil))) pa_nil))))) (pw_or1 (pt_cmpR op_ne (pe_callB call_len_seq (by rfl) T.z_len PySem.boot_len (pa_cons (pv 0) pa_nil)) (pv 1) (nomark _))))) (pss_one ps_never) pss_nil)
    (pss_cons (ps_set (i := 2) sc_check_order.nd rfl (Or.inl rfl) (pe_op op_rep (pe_lst (pa_cons pe_bl pa_nil)) (pv 1)))
    (pss_one (ps_for PassesOwn.never rfl (pi_enumA (by rfl) T.z_enumerate (pa_cons (pv 0) pa_nil)) (pg_tup rfl (pgs_cons (pg_name (i := 3) sc_check_order.nd rfl (Or.inl rfl)) (pgs_cons (pg_name (i := 4) sc_check_order.nd rfl (Or.inl rfl)) pgs_nil)))
      (pss_cons (ps_if (PW.pt (pw_or (pt_not (pt_val (pe_call G_is_item (hr.mono (by decide)) (by rfl) T.g_is_item T.k_is_item T.b_is_item .nil pass0 (pa_cons (pv 4) (pa_cons (pv 1) pa_nil))))) (pw_or1 (pt_val (pe_ix ix_list (pv 2) (pv 4) (fun _ _ => rfl)))))) (pss_one ps_never) pss_nil)
        (pss_one (ps_asg pe_bl (pg_sub (pv 2) (pv 4) set_list)))))))), ?_⟩
    refine ⟨_, rfl, by show 2 ≤ sizeLine; decide, fun tp htp => ?_⟩
    have s1 : Same H (upd H tp (.tup [.ty "list", .ty "tuple"])) := same_upd htp
    have hK1 := hK.same s1
    have hT : upd H tp (.tup [.ty "list", .ty "tuple"]) tp = some (.tup [.ty "list", .ty "tuple"]) := upd_same
    generalize upd H tp (.tup [.ty "list", .ty "tuple"]) = H1 at s1 hK1 hT ⊢
    have cs : Paired ClsV [.ty "list", .ty "tuple"] [.type "list", .type "tuple"] := .cons (.ty _) (.cons (.ty _) .nil)
    have hS : SqL K H1 p (nV bs) ∨ SqT K H1 p (nV bs) := hK1.imp L2.sq_of L2.st_of
    obtain ⟨t, hty, hkit⟩ : ∃ t, TyX K H1 (.ref p) t ∧ PySem.W.kitAny K t [.type "list", .type "tuple"] = some true := by
      rcases hK1 with hl | ht
      · exact ⟨_, .base (.lst hl), kitAny_cons (b := true) (kit_ty (by decide +kernel)) (fun z => nomatch z) (fun _ => rfl)⟩
      · exact ⟨_, .base (.tup ht), kitAny_cons (b := false) (kit_ty (by decide +kernel)) (fun _ => kitAny_cons (b := true) (kit_ty (by decide +kernel)) (fun z => nomatch z) (fun _ => rfl)) (fun z => nomatch z)⟩
    have lb : bs.length = n := by rw [pm.length_eq, List.length_range]
    have nd : bs.Nodup := pm.nodup_iff.mpr List.nodup_range
    refine ⟨.ref p, tp, _, t, _, true, rfl, hT, cs, hty, hkit, true, rfl, iteF ?_⟩
    refine ⟨_, rfl, p, _, rfl, hS, _, rfl, rfl, false, ?_, iteF ?_⟩
    · have e : (nV bs).length = n := (List.length_map _).trans lb
      rw [e]
      exact congrArg V.bl (by simp)
    refine ⟨by show 1 ≤ sizeLine; decide, fun l hl => ⟨_, rfl, l, n, _, rfl, rfl, upd_same, by omega, by omega, ?_, fun sn hsn => ?_⟩⟩
    · show 1 * (n : Int).toNat ≤ sizeLine
      exact Nat.le_trans (by omega) (by decide : 2000 ≤ sizeLine)
    have s2 : Same H1 (upd H1 l (.lst [.bl false])) := same_upd hl
    generalize upd H1 l (.lst [.bl false]) = H2 at s2 hsn ⊢
    have hS2 : SqL K H2 p (nV bs) ∨ SqT K H2 p (nV bs) := hS.imp s2.seq (Same.tupS s2)
    have hs0 : upd H2 sn (.lst (List.replicate (n : Int).toNat [V.bl false]).flatten) sn = some (.lst (seenAt n [])) := by
      rw [upd_same, rep_flatV, Int.toNat_natCast, seen_nil]
    have s3 : Same H2 (upd H2 sn (.lst (List.replicate (n : Int).toNat [V.bl false]).flatten)) := same_upd hsn
    have step : ∀ (i b : Nat) (H3 : Hp) (T : Addr), bs[i]? = some b → Same H2 H3 → H3 sn = some (.lst (seenAt n (bs.take i))) → H3 T = none →
        b < n ∧ atI (seenAt n (bs.take i)) (b : Int) = some (.bl false) ∧ ixN (seenAt n (bs.take i)).length (b : Int) = some b ∧ (seenAt n (bs.take i)).set b (.bl true) = seenAt n (bs.take (i + 1)) ∧ T ≠ sn := by
      intro i b H3 T hb sm hs hn
      have lt : b < n := List.mem_range.mp (pm.mem_iff.mp (List.mem_of_getElem? hb))
      refine ⟨lt, atI_nat ?_, ?_, ?_, ?_⟩
      · rw [seen_at lt]
        simp [not_before nd hb]
      · rw [seen_len]
        unfold ixN
        rw [if_pos (by omega), if_pos (by omega), Int.toNat_natCast]
      · rw [seen_set lt, take_more hb]
      · intro e
        rw [e, hs] at hn
        cases hn
    refine ⟨_, rfl, p, nV bs, rfl, ?_⟩
    rcases hS2 with hs | hs
    · refine .inl ⟨s3.seq hs, for_iteL (K := K) (a := p) (xs := nV bs) (fun i σ H' => (∃ u v, σ = [some (.ref p), some (.int n), some (.ref sn), u, v]) ∧ Same H2 H' ∧ H' sn = some (.lst (seenAt n (bs.take i)))) ⟨⟨_, _, rfl⟩, s3, hs0⟩ (fun i σ H' _ h => h.2.1.seq hs) ?_ ?_⟩
      · rintro i y σ H3 Tp hy ⟨⟨u, v, rfl⟩, sm, hs3⟩ hn
        obtain ⟨b, hb, rfl⟩ := nV_item hy
        obtain ⟨lt, g1, g2, g3, ne⟩ := step i b H3 Tp hb sm hs3 hn
        have hs4 : upd H3 Tp (.tup [.int (i : Nat), .int (b : Int)]) sn = some (.lst (seenAt n (bs.take i))) := (same_upd hn) _ _ hs3
        refine ⟨Tp, _, rfl, L2.st_of upd_same, rfl, _, _, rfl, _, _, rfl, rfl, ?_⟩
        refine ⟨_, rfl, _, rfl, b, n, rfl, by omega, by omega, true, rfl, iteF ?_⟩
        refine ⟨_, rfl, _, rfl, sn, _, _, _, rfl, rfl, L2.sq_of hs4, g1, false, rfl, iteF ?_⟩
        refine ⟨_, rfl, _, rfl, sn, _, _, b, rfl, rfl, hs4, g2, ⟨_, _, rfl⟩, fun c o e => ?_, ?_⟩
        · rw [upd_ne (ne_of_none e hsn)]
          exact (same_upd hn) _ _ (sm _ _ e)
        · rw [upd_same, g3]
      · rintro σ H' ⟨_, sm, _⟩
        exact q H' ((s1.trans s2).trans sm)
    · refine .inr ⟨Same.tupS s3 hs, for_iteT (K := K) (a := p) (xs := nV bs) (fun i σ H' => (∃ u v, σ = [some (.ref p), some (.int n), some (.ref sn), u, v]) ∧ Same H2 H' ∧ H' sn = some (.lst (seenAt n (bs.take i)))) ⟨⟨_, _, rfl⟩, s3, hs0⟩ (fun i σ H' _ h => Same.tupS h.2.1 hs) ?_ ?_⟩
      · rintro i y σ H3 Tp hy ⟨⟨u, v, rfl⟩, sm, hs3⟩ hn
        obtain ⟨b, hb, rfl⟩ := nV_item hy
        obtain ⟨lt, g1, g2, g3, ne⟩ := step i b H3 Tp hb sm hs3 hn
        have hs4 : upd H3 Tp (.tup [.int (i : Nat), .int (b : Int)]) sn = some (.lst (seenAt n (bs.take i))) := (same_upd hn) _ _ hs3
        refine ⟨Tp, _, rfl, L2.st_of upd_same, rfl, _, _, rfl, _, _, rfl, rfl, ?_⟩
        refine ⟨_, rfl, _, rfl, b, n, rfl, by omega, by omega, true, rfl, iteF ?_⟩
        refine ⟨_, rfl, _, rfl, sn, _, _, _, rfl, rfl, L2.sq_of hs4, g1, false, rfl, iteF ?_⟩
        refine ⟨_, rfl, _, rfl, sn, _, _, b, rfl, rfl, hs4, g2, ⟨_, _, rfl⟩, fun c o e => ?_, ?_⟩
        · rw [upd_ne (ne_of_none e hsn)]
          exact (same_upd hn) _ _ (sm _ _ e)
        · rw [upd_same, g3]
      · rintro σ H' ⟨_, sm, _⟩
        exact q H' ((s1.trans s2).trans sm)
end

end K05

namespace K05
open PySem PySem.Spec PyProof.Rows L2
section
variable {P : Program} {w : World} {K : PySem.W.Frag} {mg : Str → Option Value} {base : Heap} {a : Ad} {d : Fd}
theorem ok_stable (T : Txt K mg a d) : FnOk P w K mg base CX0 1 a.stable d.stable P_stable spStable := by
  refine T.f_stable.ok sc_stable (fun vs H Q E h => ?_) (fun cdv A outer s H vs Q E hr h => ?_)
  · obtain ⟨p, ks, rev, rfl, _⟩ := h
    rfl
  · obtain ⟨p, ks, rev, rfl, hK, hlen, q⟩ := h
    refine ⟨_, (pss_cons (ps_set (i := 2) sc_stable.nd rfl (Or.inr rfl) (pe_ifExp (pt_val (pv 1)) (pe_un un_neg pe_int) pe_int))
    (pss_cons (ps_set (i := 3) sc_stable.nd rfl (Or.inl rfl) (pe_callB cr_sortedPO (by rfl) T.z_sorted (by decide +kernel) (pa_cons (pe_lc (own := [("item", 4), ("key", 5)]) (g := gTup K 2 (gCons (gName 4) (gCons (gName 5) gNil))) (tt := tYes) rfl sc_stable.nd (pi_enumA (by rfl) T.z_enumerate (pa_cons (pv 0) pa_nil)) (blkOk_by (N := N_stable) (sc := defScope s_stable) (by decide +kernel)) (fun _ _ _ _ _ => pg_tup rfl (pgs_cons (pg_name (i := 4) sc_stable.nd rfl (Or.inl rfl)) (pgs_cons (pg_name (i := 5) sc_stable.nd rfl (Or.inl rfl)) pgs_nil))) (fun _ _ _ _ _ => pts_nil) (fun _ _ _ _ _ => (pe_tup (pa_cons (pe_op op_mul (pv 2) (pv 5)) (pa_cons (pv 4) pa_nil))))) pa_nil)))
    (pss_one (ps_ret (pe_lc (own := [("_", 6), ("item", 4)]) (g := gTup K 2 (gCons (gName 6) (gCons (gName 4) gNil))) (tt := tYes) rfl sc_stable.nd (pi_list (pv 3)) (blkOk_by (N := N_stable) (sc := defScope s_stable) (by decide +kernel)) (fun _ _ _ _ _ => pg_tup rfl (pgs_cons (pg_name (i := 6) sc_stable.nd rfl (Or.inl rfl)) (pgs_cons (pg_name (i := 4) sc_stable.nd rfl (Or.inl rfl)) pgs_nil))) (fun _ _ _ _ _ => pts_nil) (fun _ _ _ _ _ => (pv 4))))))), ?_⟩
    have hS : SqL K H p (ks.map V.int) ∨ SqT K H p (ks.map V.int) := hK.imp L2.sq_of L2.st_of
    cases rev with
    | true =>
      refine ⟨_, rfl, true, rfl, iteT ?_⟩
      refine ⟨_, rfl, ?_⟩
      have hsg : ∀ j, keyf ks true j = -1 * ks.getD j 0 := fun j => by unfold keyf; rw [if_pos rfl]; omega
      refine ⟨_, rfl, p, ks.map V.int, rfl, ?_⟩
      rcases hS with hs | hs
      · refine .inl ⟨hs, fun D0 fD => ?_⟩
        refine lc_iteL (K := K) (a := p) (xs := ks.map V.int) (fun i H' => ∃ ts : List Addr, ts.length = i ∧ H' D0 = some (.lst (ts.map V.ref)) ∧ (∀ j t, ts[j]? = some t → ∃ z, ks[j]? = some z ∧ H' t = some (.tup [.int ((-1) * z), .int (j : Nat)])) ∧ Same H H') ⟨[], rfl, upd_same, fun j t h => (by cases h), same_upd fD⟩ (fun i H' _ ⟨_, _, _, _, h⟩ => h.seq hs) ?_ ?_
        · rintro i x H3 T1 hx ⟨ts, hl, hD, hh, sm⟩ hT1
          obtain ⟨z, hz, rfl⟩ := keys_item hx
          refine ⟨T1, _, rfl, L2.st_of upd_same, rfl, _, _, rfl, _, _, rfl, rfl, rfl, ?_⟩
          refine ⟨_, rfl, _, rfl, _, _, rfl, rfl, .inl (by first | exact ⟨by decide, by decide⟩ | omega), _, rfl, by show 2 ≤ sizeLine; decide, fun t ht => ?_⟩
          have sA : Same H3 (upd H3 T1 (.tup [.int (i : Nat), .int z])) := same_upd hT1
          have sB := sA.trans (same_upd (o := .tup [.int ((-1) * z), .int (i : Nat)]) ht)
          refine ⟨_, sB _ _ hD, ?_, ts ++ [t], by simp [hl], ?_, ?_, ?_⟩
          · rw [List.length_map, hl]
            have q1 := (List.getElem?_eq_some_iff.mp hz).1
            exact Nat.lt_of_lt_of_le q1 (Nat.le_trans hlen (by decide : 2000 ≤ sizeLine))
          · rw [upd_same, List.map_append]
            rfl
          · intro j u hu
            have nD : u ≠ D0 := fun e => by
              subst e
              by_cases hj : j < ts.length
              · rw [List.getElem?_append_left hj] at hu
                obtain ⟨z2, _, e2⟩ := hh j _ hu
                rw [hD] at e2
                cases e2
              · rw [List.getElem?_append_right (by omega)] at hu
                have e3 : u = t := (List.mem_singleton.mp (List.mem_of_getElem? hu))
                rw [← e3, sA _ _ hD] at ht
                cases ht
            rw [upd_ne nD]
            by_cases hj : j < ts.length
            · rw [List.getElem?_append_left hj] at hu
              obtain ⟨z2, e1, e2⟩ := hh j _ hu
              exact ⟨z2, e1, sB _ _ e2⟩
            · rw [List.getElem?_append_right (by omega)] at hu
              have q1 := (List.getElem?_eq_some_iff.mp hu).1
              have ej : j = i := by
                rw [List.length_singleton] at q1
                omega
              subst ej
              have e3 : u = t := (List.mem_singleton.mp (List.mem_of_getElem? hu))
              rw [e3]
              exact ⟨z, hz, upd_same⟩
          · intro b o e
            rw [upd_ne (ne_of_none e fD)]
            exact sB _ _ (sm _ _ e)
        · rintro H5 ⟨ts, hl, hD, hh, sm⟩
          obtain ⟨hD5, hts, sm5, lts⟩ : H5 D0 = some (.lst (ts.map V.ref)) ∧ (∀ j t, ts[j]? = some t → ∃ z, ks[j]? = some z ∧ H5 t = some (.tup [.int ((-1) * z), .int (j : Nat)])) ∧ Same H H5 ∧ ts.length = ks.length := ⟨hD, hh, sm, by rw [hl, List.length_map]⟩
          have hpr : ∀ x ∈ ts.map V.ref, ∃ t, x = V.ref t ∧ H5 t = some (.tup [.int (pairOf H5 x).1, .int (pairOf H5 x).2]) := fun x hx => by
            obtain ⟨t, ht, rfl⟩ := List.mem_map.mp hx
            obtain ⟨j, hj⟩ := List.getElem?_of_mem ht
            obtain ⟨z, _, e⟩ := hts j t hj
            exact ⟨t, rfl, by rw [pairOf_at e]; exact e⟩
          refine ⟨D0, ts.map V.ref, pairOf H5, rfl, L2.sq_of hD5, hpr, fun ys r srt stb hr0 => ?_⟩
          have sm6 : Same H5 (upd H5 r (.lst ys)) := same_upd hr0
          have ep : ((ts.map V.ref).map (pairOf H5)) = (List.range ks.length).map fun (i : Nat) => (keyf ks true i, (i : Int)) := by
            refine List.ext_getElem? fun j => ?_
            rw [List.getElem?_map, List.getElem?_map, List.getElem?_map]
            by_cases hj : j < ts.length
            · rw [List.getElem?_eq_getElem hj, List.getElem?_range (by omega)]
              obtain ⟨z, hz, e⟩ := hts j _ (List.getElem?_eq_getElem hj)
              show some (pairOf H5 (.ref ts[j])) = some (keyf ks true j, (j : Int))
              rw [pairOf_at e]
              have e2 : ks.getD j 0 = z := by rw [List.getD_eq_getElem?_getD, hz]; rfl
              rw [hsg, e2]
            · rw [List.getElem?_eq_none (by omega), List.getElem?_eq_none (by rw [List.length_range]; omega)]
              rfl
          obtain ⟨os, so, eo⟩ := stab_of_pairs (f := keyf ks true) (n := ks.length) (ps := ys.map (pairOf H5)) (by rw [← ep]; exact stb.perm.map _) (by
            rw [List.pairwise_map]
            exact srt.imp fun {x y} h => SrtO.lexB_no.mp h)
          have hy : ∀ x ∈ ys, ∃ t, x = V.ref t ∧ H5 t = some (.tup [.int (pairOf H5 x).1, .int (pairOf H5 x).2]) := fun x hx => hpr x (stb.perm.mem_iff.mp hx)
          have ly : ys.length ≤ 2000 := by
            rw [stb.perm.length_eq, List.length_map]
            omega
          -- [item for _, item in pairs]
          refine ⟨_, rfl, r, rfl, ⟨_, L2.sq_of upd_same⟩, fun D2 hD2 => ?_⟩
          refine lc_list (K := K) (a := r) (xs := ys) (fun i H' => Same (upd H5 r (.lst ys)) H' ∧ H' D2 = some (.lst ((ys.take i).map fun x => V.int (pairOf H5 x).2))) ⟨same_upd hD2, upd_same⟩ (fun i H' _ h => L2.sq_of (h.1 _ _ upd_same)) ?_ ?_
          · rintro i x H6 hx ⟨s6, h6⟩
            obtain ⟨t, rfl, ht⟩ := hy x (List.mem_of_getElem? hx)
            refine ⟨t, _, rfl, L2.st_of (s6 _ _ (sm6 _ _ ht)), rfl, _, _, rfl, _, _, rfl, rfl, rfl, ?_⟩
            refine ⟨_, rfl, _, h6, ?_, ?_, ?_⟩
            · rw [List.length_map, List.length_take]
              exact Nat.lt_of_le_of_lt (Nat.le_trans (Nat.min_le_right _ _) ly) (by decide)
            · intro b o e
              rw [upd_ne (ne_of_none e hD2)]
              exact s6 _ _ e
            · rw [upd_same, take_more hx, List.map_append]
              rfl
          · rintro H6 ⟨s6, h6⟩
            have e6 : (ys.take ys.length).map (fun x => V.int (pairOf H5 x).2) = nV os := by
              rw [List.take_length]
              have e7 : (ys.map (pairOf H5)).map (fun q => V.int q.2) = nV os := by
                rw [eo, List.map_map]
                rfl
              rw [List.map_map] at e7
              exact e7
            rw [e6] at h6
            exact q D2 os H6 so (sm5.free (sm6.free hD2)) ((sm5.trans sm6).trans s6) h6

      · refine .inr ⟨hs, fun D0 fD => ?_⟩
        refine lc_iteT (K := K) (a := p) (xs := ks.map V.int) (fun i H' => ∃ ts : List Addr, ts.length = i ∧ H' D0 = some (.lst (ts.map V.ref)) ∧ (∀ j t, ts[j]? = some t → ∃ z, ks[j]? = some z ∧ H' t = some (.tup [.int ((-1) * z), .int (j : Nat)])) ∧ Same H H') ⟨[], rfl, upd_same, fun j t h => (by cases h), same_upd fD⟩ (fun i H' _ ⟨_, _, _, _, h⟩ => Same.tupS h hs) ?_ ?_
        · rintro i x H3 T1 hx ⟨ts, hl, hD, hh, sm⟩ hT1
          obtain ⟨z, hz, rfl⟩ := keys_item hx
          refine ⟨T1, _, rfl, L2.st_of upd_same, rfl, _, _, rfl, _, _, rfl, rfl, rfl, ?_⟩
          refine ⟨_, rfl, _, rfl, _, _, rfl, rfl, .inl (by first | exact ⟨by decide, by decide⟩ | omega), _, rfl, by show 2 ≤ sizeLine; decide, fun t ht => ?_⟩
          have sA : Same H3 (upd H3 T1 (.tup [.int (i : Nat), .int z])) := same_upd hT1
          have sB := sA.trans (same_upd (o := .tup [.int ((-1) * z), .int (i : Nat)]) ht)
          refine ⟨_, sB _ _ hD, ?_, ts ++ [t], by simp [hl], ?_, ?_, ?_⟩
          · rw [List.length_map, hl]
            have q1 := (List.getElem?_eq_some_iff.mp hz).1
            exact Nat.lt_of_lt_of_le q1 (Nat.le_trans hlen (by decide : 2000 ≤ sizeLine))
          · rw [upd_same, List.map_append]
            rfl
          · intro j u hu
            have nD : u ≠ D0 := fun e => by
              subst e
              by_cases hj : j < ts.length
              · rw [List.getElem?_append_left hj] at hu
                obtain ⟨z2, _, e2⟩ := hh j _ hu
                rw [hD] at e2
                cases e2
              · rw [List.getElem?_append_right (by omega)] at hu
                have e3 : u = t := (List.mem_singleton.mp (List.mem_of_getElem? hu))
                rw [← e3, sA _ _ hD] at ht
                cases ht
            rw [upd_ne nD]
            by_cases hj : j < ts.length
            · rw [List.getElem?_append_left hj] at hu
              obtain ⟨z2, e1, e2⟩ := hh j _ hu
              exact ⟨z2, e1, sB _ _ e2⟩
            · rw [List.getElem?_append_right (by omega)] at hu
              have q1 := (List.getElem?_eq_some_iff.mp hu).1
              have ej : j = i := by
                rw [List.length_singleton] at q1
                omega
              subst ej
              have e3 : u = t := (List.mem_singleton.mp (List.mem_of_getElem? hu))
              rw [e3]
              exact ⟨z, hz, upd_same⟩
          · intro b o e
            rw [upd_ne (ne_of_none e fD)]
            exact sB _ _ (sm _ _ e)
        · rintro H5 ⟨ts, hl, hD, hh, sm⟩
          obtain ⟨hD5, hts, sm5, lts⟩ : H5 D0 = some (.lst (ts.map V.ref)) ∧ (∀ j t, ts[j]? = some t → ∃ z, ks[j]? = some z ∧ H5 t = some (.tup [.int ((-1) * z), .int (j : Nat)])) ∧ Same H H5 ∧ ts.length = ks.length := ⟨hD, hh, sm, by rw [hl, List.length_map]⟩
          have hpr : ∀ x ∈ ts.map V.ref, ∃ t, x = V.ref t ∧ H5 t = some (.tup [.int (pairOf H5 x).1, .int (pairOf H5 x).2]) := fun x hx => by
            obtain ⟨t, ht, rfl⟩ := List.mem_map.mp hx
            obtain ⟨j, hj⟩ := List.getElem?_of_mem ht
            obtain ⟨z, _, e⟩ := hts j t hj
            exact ⟨t, rfl, by rw [pairOf_at e]; exact e⟩
          refine ⟨D0, ts.map V.ref, pairOf H5, rfl, L2.sq_of hD5, hpr, fun ys r srt stb hr0 => ?_⟩
          have sm6 : Same H5 (upd H5 r (.lst ys)) := same_upd hr0
          have ep : ((ts.map V.ref).map (pairOf H5)) = (List.range ks.length).map fun (i : Nat) => (keyf ks true i, (i : Int)) := by
            refine List.ext_getElem? fun j => ?_
            rw [List.getElem?_map, List.getElem?_map, List.getElem?_map]
            by_cases hj : j < ts.length
            · rw [List.getElem?_eq_getElem hj, List.getElem?_range (by omega)]
              obtain ⟨z, hz, e⟩ := hts j _ (List.getElem?_eq_getElem hj)
              show some (pairOf H5 (.ref ts[j])) = some (keyf ks true j, (j : Int))
              rw [pairOf_at e]
              have e2 : ks.getD j 0 = z := by rw [List.getD_eq_getElem?_getD, hz]; rfl
              rw [hsg, e2]
            · rw [List.getElem?_eq_none (by omega), List.getElem?_eq_none (by rw [List.length_range]; omega)]
              rfl
          obtain ⟨os, so, eo⟩ := stab_of_pairs (f := keyf ks true) (n := ks.length) (ps := ys.map (pairOf H5)) (by rw [← ep]; exact stb.perm.map _) (by
            rw [List.pairwise_map]
            exact srt.imp fun {x y} h => SrtO.lexB_no.mp h)
          have hy : ∀ x ∈ ys, ∃ t, x = V.ref t ∧ H5 t = some (.tup [.int (pairOf H5 x).1, .int (pairOf H5 x).2]) := fun x hx => hpr x (stb.perm.mem_iff.mp hx)
          have ly : ys.length ≤ 2000 := by
            rw [stb.perm.length_eq, List.length_map]
            omega
          -- [item for _, item in pairs]
          refine ⟨_, rfl, r, rfl, ⟨_, L2.sq_of upd_same⟩, fun D2 hD2 => ?_⟩
          refine lc_list (K := K) (a := r) (xs := ys) (fun i H' => Same (upd H5 r (.lst ys)) H' ∧ H' D2 = some (.lst ((ys.take i).map fun x => V.int (pairOf H5 x).2))) ⟨same_upd hD2, upd_same⟩ (fun i H' _ h => L2.sq_of (h.1 _ _ upd_same)) ?_ ?_
          · rintro i x H6 hx ⟨s6, h6⟩
            obtain ⟨t, rfl, ht⟩ := hy x (List.mem_of_getElem? hx)
            refine ⟨t, _, rfl, L2.st_of (s6 _ _ (sm6 _ _ ht)), rfl, _, _, rfl, _, _, rfl, rfl, rfl, ?_⟩
            refine ⟨_, rfl, _, h6, ?_, ?_, ?_⟩
            · rw [List.length_map, List.length_take]
              exact Nat.lt_of_le_of_lt (Nat.le_trans (Nat.min_le_right _ _) ly) (by decide)
            · intro b o e
              rw [upd_ne (ne_of_none e hD2)]
              exact s6 _ _ e
            · rw [upd_same, take_more hx, List.map_append]
              rfl
          · rintro H6 ⟨s6, h6⟩
            have e6 : (ys.take ys.length).map (fun x => V.int (pairOf H5 x).2) = nV os := by
              rw [List.take_length]
              have e7 : (ys.map (pairOf H5)).map (fun q => V.int q.2) = nV os := by
                rw [eo, List.map_map]
                rfl
              rw [List.map_map] at e7
              exact e7
            rw [e6] at h6
            exact q D2 os H6 so (sm5.free (sm6.free hD2)) ((sm5.trans sm6).trans s6) h6

    | false =>
      refine ⟨_, rfl, false, rfl, iteF ?_⟩
      have hsg : ∀ j, keyf ks false j = 1 * ks.getD j 0 := fun j => by unfold keyf; rw [if_neg Bool.false_ne_true]; omega
      refine ⟨_, rfl, p, ks.map V.int, rfl, ?_⟩
      rcases hS with hs | hs
      · refine .inl ⟨hs, fun D0 fD => ?_⟩
        refine lc_iteL (K := K) (a := p) (xs := ks.map V.int) (fun i H' => ∃ ts : List Addr, ts.length = i ∧ H' D0 = some (.lst (ts.map V.ref)) ∧ (∀ j t, ts[j]? = some t → ∃ z, ks[j]? = some z ∧ H' t = some (.tup [.int (1 * z), .int (j : Nat)])) ∧ Same H H') ⟨[], rfl, upd_same, fun j t h => (by cases h), same_upd fD⟩ (fun i H' _ ⟨_, _, _, _, h⟩ => h.seq hs) ?_ ?_
        · rintro i x H3 T1 hx ⟨ts, hl, hD, hh, sm⟩ hT1
          obtain ⟨z, hz, rfl⟩ := keys_item hx
          refine ⟨T1, _, rfl, L2.st_of upd_same, rfl, _, _, rfl, _, _, rfl, rfl, rfl, ?_⟩
          refine ⟨_, rfl, _, rfl, _, _, rfl, rfl, .inl (by first | exact ⟨by decide, by decide⟩ | omega), _, rfl, by show 2 ≤ sizeLine; decide, fun t ht => ?_⟩
          have sA : Same H3 (upd H3 T1 (.tup [.int (i : Nat), .int z])) := same_upd hT1
          have sB := sA.trans (same_upd (o := .tup [.int (1 * z), .int (i : Nat)]) ht)
          refine ⟨_, sB _ _ hD, ?_, ts ++ [t], by simp [hl], ?_, ?_, ?_⟩
          · rw [List.length_map, hl]
            have q1 := (List.getElem?_eq_some_iff.mp hz).1
            exact Nat.lt_of_lt_of_le q1 (Nat.le_trans hlen (by decide : 2000 ≤ sizeLine))
          · rw [upd_same, List.map_append]
            rfl
          · intro j u hu
            have nD : u ≠ D0 := fun e => by
              subst e
              by_cases hj : j < ts.length
              · rw [List.getElem?_append_left hj] at hu
                obtain ⟨z2, _, e2⟩ := hh j _ hu
                rw [hD] at e2
                cases e2
              · rw [List.getElem?_append_right (by omega)] at hu
                have e3 : u = t := (List.mem_singleton.mp (List.mem_of_getElem? hu))
                rw [← e3, sA _ _ hD] at ht
                cases ht
            rw [upd_ne nD]
            by_cases hj : j < ts.length
            · rw [List.getElem?_append_left hj] at hu
              obtain ⟨z2, e1, e2⟩ := hh j _ hu
              exact ⟨z2, e1, sB _ _ e2⟩
            · rw [List.getElem?_append_right (by omega)] at hu
              have q1 := (List.getElem?_eq_some_iff.mp hu).1
              have ej : j = i := by
                rw [List.length_singleton] at q1
                omega
              subst ej
              have e3 : u = t := (List.mem_singleton.mp (List.mem_of_getElem? hu))
              rw [e3]
              exact ⟨z, hz, upd_same⟩
          · intro b o e
            rw [upd_ne (ne_of_none e fD)]
            exact sB _ _ (sm _ _ e)
        · rintro H5 ⟨ts, hl, hD, hh, sm⟩
          obtain ⟨hD5, hts, sm5, lts⟩ : H5 D0 = some (.lst (ts.map V.ref)) ∧ (∀ j t, ts[j]? = some t → ∃ z, ks[j]? = some z ∧ H5 t = some (.tup [.int (1 * z), .int (j : Nat)])) ∧ Same H H5 ∧ ts.length = ks.length := ⟨hD, hh, sm, by rw [hl, List.length_map]⟩
          have hpr : ∀ x ∈ ts.map V.ref, ∃ t, x = V.ref t ∧ H5 t = some (.tup [.int (pairOf H5 x).1, .int (pairOf H5 x).2]) := fun x hx => by
            obtain ⟨t, ht, rfl⟩ := List.mem_map.mp hx
            obtain ⟨j, hj⟩ := List.getElem?_of_mem ht
            obtain ⟨z, _, e⟩ := hts j t hj
            exact ⟨t, rfl, by rw [pairOf_at e]; exact e⟩
          refine ⟨D0, ts.map V.ref, pairOf H5, rfl, L2.sq_of hD5, hpr, fun ys r srt stb hr0 => ?_⟩
          have sm6 : Same H5 (upd H5 r (.lst ys)) := same_upd hr0
          have ep : ((ts.map V.ref).map (pairOf H5)) = (List.range ks.length).map fun (i : Nat) => (keyf ks false i, (i : Int)) := by
            refine List.ext_getElem? fun j => ?_
            rw [List.getElem?_map, List.getElem?_map, List.getElem?_map]
            by_cases hj : j < ts.length
            · rw [List.getElem?_eq_getElem hj, List.getElem?_range (by omega)]
              obtain ⟨z, hz, e⟩ := hts j _ (List.getElem?_eq_getElem hj)
              show some (pairOf H5 (.ref ts[j])) = some (keyf ks false j, (j : Int))
              rw [pairOf_at e]
              have e2 : ks.getD j 0 = z := by rw [List.getD_eq_getElem?_getD, hz]; rfl
              rw [hsg, e2]
            · rw [List.getElem?_eq_none (by omega), List.getElem?_eq_none (by rw [List.length_range]; omega)]
              rfl
          obtain ⟨os, so, eo⟩ := stab_of_pairs (f := keyf ks false) (n := ks.length) (ps := ys.map (pairOf H5)) (by rw [← ep]; exact stb.perm.map _) (by
            rw [List.pairwise_map]
            exact srt.imp fun {x y} h => SrtO.lexB_no.mp h)
          have hy : ∀ x ∈ ys, ∃ t, x = V.ref t ∧ H5 t = some (.tup [.int (pairOf H5 x).1, .int (pairOf H5 x).2]) := fun x hx => hpr x (stb.perm.mem_iff.mp hx)
          have ly : ys.length ≤ 2000 := by
            rw [stb.perm.length_eq, List.length_map]
            omega
          -- [item for _, item in pairs]
          refine ⟨_, rfl, r, rfl, ⟨_, L2.sq_of upd_same⟩, fun D2 hD2 => ?_⟩
          refine lc_list (K := K) (a := r) (xs := ys) (fun i H' => Same (upd H5 r (.lst ys)) H' ∧ H' D2 = some (.lst ((ys.take i).map fun x => V.int (pairOf H5 x).2))) ⟨same_upd hD2, upd_same⟩ (fun i H' _ h => L2.sq_of (h.1 _ _ upd_same)) ?_ ?_
          · rintro i x H6 hx ⟨s6, h6⟩
            obtain ⟨t, rfl, ht⟩ := hy x (List.mem_of_getElem? hx)
            refine ⟨t, _, rfl, L2.st_of (s6 _ _ (sm6 _ _ ht)), rfl, _, _, rfl, _, _, rfl, rfl, rfl, ?_⟩
            refine ⟨_, rfl, _, h6, ?_, ?_, ?_⟩
            · rw [List.length_map, List.length_take]
              exact Nat.lt_of_le_of_lt (Nat.le_trans (Nat.min_le_right _ _) ly) (by decide)
            · intro b o e
              rw [upd_ne (ne_of_none e hD2)]
              exact s6 _ _ e
            · rw [upd_same, take_more hx, List.map_append]
              rfl
          · rintro H6 ⟨s6, h6⟩
            have e6 : (ys.take ys.length).map (fun x => V.int (pairOf H5 x).2) = nV os := by
              rw [List.take_length]
              have e7 : (ys.map (pairOf H5)).map (fun q => V.int q.2) = nV os := by
                rw [eo, List.map_map]
                rfl
              rw [List.map_map] at e7
              exact e7
            rw [e6] at h6
            exact q D2 os H6 so (sm5.free (sm6.free hD2)) ((sm5.trans sm6).trans s6) h6

      · refine .inr ⟨hs, fun D0 fD => ?_⟩
        refine lc_iteT (K := K) (a := p) (xs := ks.map V.int) (fun i H' => ∃ ts : List Addr, ts.length = i ∧ H' D0 = some (.lst (ts.map V.ref)) ∧ (∀ j t, ts[j]? = some t → ∃ z, ks[j]? = some z ∧ H' t = some (.tup [.int (1 * z), .int (j : Nat)])) ∧ Same H H') ⟨[], rfl, upd_same, fun j t h => (by cases h), same_upd fD⟩ (fun i H' _ ⟨_, _, _, _, h⟩ => Same.tupS h hs) ?_ ?_
        · rintro i x H3 T1 hx ⟨ts, hl, hD, hh, sm⟩ hT1
          obtain ⟨z, hz, rfl⟩ := keys_item hx
          refine ⟨T1, _, rfl, L2.st_of upd_same, rfl, _, _, rfl, _, _, rfl, rfl, rfl, ?_⟩
          refine ⟨_, rfl, _, rfl, _, _, rfl, rfl, .inl (by first | exact ⟨by decide, by decide⟩ | omega), _, rfl, by show 2 ≤ sizeLine; decide, fun t ht => ?_⟩
          have sA : Same H3 (upd H3 T1 (.tup [.int (i : Nat), .int z])) := same_upd hT1
          have sB := sA.trans (same_upd (o := .tup [.int (1 * z), .int (i : Nat)]) ht)
          refine ⟨_, sB _ _ hD, ?_, ts ++ [t], by simp [hl], ?_, ?_, ?_⟩
          · rw [List.length_map, hl]
            have q1 := (List.getElem?_eq_some_iff.mp hz).1
            exact Nat.lt_of_lt_of_le q1 (Nat.le_trans hlen (by decide : 2000 ≤ sizeLine))
          · rw [upd_same, List.map_append]
            rfl
          · intro j u hu
            have nD : u ≠ D0 := fun e => by
              subst e
              by_cases hj : j < ts.length
              · rw [List.getElem?_append_left hj] at hu
                obtain ⟨z2, _, e2⟩ := hh j _ hu
                rw [hD] at e2
                cases e2
              · rw [List.getElem?_append_right (by omega)] at hu
                have e3 : u = t := (List.mem_singleton.mp (List.mem_of_getElem? hu))
                rw [← e3, sA _ _ hD] at ht
                cases ht
            rw [upd_ne nD]
            by_cases hj : j < ts.length
            · rw [List.getElem?_append_left hj] at hu
              obtain ⟨z2, e1, e2⟩ := hh j _ hu
              exact ⟨z2, e1, sB _ _ e2⟩
            · rw [List.getElem?_append_right (by omega)] at hu
              have q1 := (List.getElem?_eq_some_iff.mp hu).1
              have ej : j = i := by
                rw [List.length_singleton] at q1
                omega
              subst ej
              have e3 : u = t := (List.mem_singleton.mp (List.mem_of_getElem? hu))
              rw [e3]
              exact ⟨z, hz, upd_same⟩
          · intro b o e
            rw [upd_ne (ne_of_none e fD)]
            exact sB _ _ (sm _ _ e)
        · rintro H5 ⟨ts, hl, hD, hh, sm⟩
          obtain ⟨hD5, hts, sm5, lts⟩ : H5 D0 = some (.lst (ts.map V.ref)) ∧ (∀ j t, ts[j]? = some t → ∃ z, ks[j]? = some z ∧ H5 t = some (.tup [.int (1 * z), .int (j : Nat)])) ∧ Same H H5 ∧ ts.length = ks.length := ⟨hD, hh, sm, by rw [hl, List.length_map]⟩
          have hpr : ∀ x ∈ ts.map V.ref, ∃ t, x = V.ref t ∧ H5 t = some (.tup [.int (pairOf H5 x).1, .int (pairOf H5 x).2]) := fun x hx => by
            obtain ⟨t, ht, rfl⟩ := List.mem_map.mp hx
            obtain ⟨j, hj⟩ := List.getElem?_of_mem ht
            obtain ⟨z, _, e⟩ := hts j t hj
            exact ⟨t, rfl, by rw [pairOf_at e]; exact e⟩
          refine ⟨D0, ts.map V.ref, pairOf H5, rfl, L2.sq_of hD5, hpr, fun ys r srt stb hr0 => ?_⟩
          have sm6 : Same H5 (upd H5 r (.lst ys)) := same_upd hr0
          have ep : ((ts.map V.ref).map (pairOf H5)) = (List.range ks.length).map fun (i : Nat) => (keyf ks false i, (i : Int)) := by
            refine List.ext_getElem? fun j => ?_
            rw [List.getElem?_map, List.getElem?_map, List.getElem?_map]
            by_cases hj : j < ts.length
            · rw [List.getElem?_eq_getElem hj, List.getElem?_range (by omega)]
              obtain ⟨z, hz, e⟩ := hts j _ (List.getElem?_eq_getElem hj)
              show some (pairOf H5 (.ref ts[j])) = some (keyf ks false j, (j : Int))
              rw [pairOf_at e]
              have e2 : ks.getD j 0 = z := by rw [List.getD_eq_getElem?_getD, hz]; rfl
              rw [hsg, e2]
            · rw [List.getElem?_eq_none (by omega), List.getElem?_eq_none (by rw [List.length_range]; omega)]
              rfl
          obtain ⟨os, so, eo⟩ := stab_of_pairs (f := keyf ks false) (n := ks.length) (ps := ys.map (pairOf H5)) (by rw [← ep]; exact stb.perm.map _) (by
            rw [List.pairwise_map]
            exact srt.imp fun {x y} h => SrtO.lexB_no.mp h)
          have hy : ∀ x ∈ ys, ∃ t, x = V.ref t ∧ H5 t = some (.tup [.int (pairOf H5 x).1, .int (pairOf H5 x).2]) := fun x hx => hpr x (stb.perm.mem_iff.mp hx)
          have ly : ys.length ≤ 2000 := by
            rw [stb.perm.length_eq, List.length_map]
            omega
          -- [item for _, item in pairs]
          refine ⟨_, rfl, r, rfl, ⟨_, L2.sq_of upd_same⟩, fun D2 hD2 => ?_⟩
          refine lc_list (K := K) (a := r) (xs := ys) (fun i H' => Same (upd H5 r (.lst ys)) H' ∧ H' D2 = some (.lst ((ys.take i).map fun x => V.int (pairOf H5 x).2))) ⟨same_upd hD2, upd_same⟩ (fun i H' _ h => L2.sq_of (h.1 _ _ upd_same)) ?_ ?_
          · rintro i x H6 hx ⟨s6, h6⟩
            obtain ⟨t, rfl, ht⟩ := hy x (List.mem_of_getElem? hx)
            refine ⟨t, _, rfl, L2.st_of (s6 _ _ (sm6 _ _ ht)), rfl, _, _, rfl, _, _, rfl, rfl, rfl, ?_⟩
            refine ⟨_, rfl, _, h6, ?_, ?_, ?_⟩
            · rw [List.length_map, List.length_take]
              exact Nat.lt_of_le_of_lt (Nat.le_trans (Nat.min_le_right _ _) ly) (by decide)
            · intro b o e
              rw [upd_ne (ne_of_none e hD2)]
              exact s6 _ _ e
            · rw [upd_same, take_more hx, List.map_append]
              rfl
          · rintro H6 ⟨s6, h6⟩
            have e6 : (ys.take ys.length).map (fun x => V.int (pairOf H5 x).2) = nV os := by
              rw [List.take_length]
              have e7 : (ys.map (pairOf H5)).map (fun q => V.int q.2) = nV os := by
                rw [eo, List.map_map]
                rfl
              rw [List.map_map] at e7
              exact e7
            rw [e6] at h6
            exact q D2 os H6 so (sm5.free (sm6.free hD2)) ((sm5.trans sm6).trans s6) h6

def spStableOrder : Sp := spStable
theorem ok_stable_order (T : Txt K mg a d) : FnOk P w K mg base CX0 3 a.stable_order d.stable_order P_stable_order spStable := by
  have G_check_keys : FnOk P w K mg base CX0 2 a.check_keys d.check_keys P_check_keys spCheckKeysN := ok_check_keys T
  have G_check_bool : FnOk P w K mg base CX0 1 a.check_bool d.check_bool P_check_bool spCheckBool := ok_check_bool T
  have G_stable : FnOk P w K mg base CX0 1 a.stable d.stable P_stable spStable := ok_stable T
  refine T.f_stable_order.ok sc_stable_order (fun vs H Q E h => ?_) (fun cdv A outer s H vs Q E hr h => ?_)
  · obtain ⟨p, ks, rev, rfl, _⟩ := h
    rfl
  · obtain ⟨p, ks, rev, rfl, hK, hlen, q⟩ := h
    refine ⟨_, (pss_cons (ps_expr (pe_call (dvs := [.int 0, .int 2000]) G_check_keys (hr.mono (by decide)) (by rfl) T.g_check_keys T.k_check_keys T.b_check_keys_2.choose_spec.2 T.b_check_keys_2.choose_spec.1 pass0 (pa_cons (pv 0) pa_nil)))
    (pss_cons (ps_expr (pe_call G_check_bool (hr.mono (by decide)) (by rfl) T.g_check_bool T.k_check_bool T.b_check_bool .nil pass0 (pa_cons pe_str (pa_cons (pv 1) pa_nil))))
    (pss_one (ps_ret (pe_call G_stable (hr.mono (by decide)) (by rfl) T.g_stable T.k_stable T.b_stable .nil pass0 (pa_cons (pv 0) (pa_cons (pv 1) pa_nil))))))), ?_⟩
    refine ⟨_, rfl, p, ks, 0, 2000, rfl, hK, by omega, by omega, fun H1 s1 => ?_⟩
    refine ⟨_, rfl, _, rev, rfl, ?_⟩
    exact ⟨_, rfl, _, rfl, p, ks, rev, rfl, hK.same s1, hlen, fun r os H2 so hr2 s2 h2 => q r os H2 so (s1.free hr2) (s1.trans s2) h2⟩
theorem ok_is_order (T : Txt K mg a d) : FnOk P w K mg base CX0 5 a.is_order d.is_order P_is_order spIsOrder := by
  have G_check_keys : FnOk P w K mg base CX0 2 a.check_keys d.check_keys P_check_keys spCheckKeysN := ok_check_keys T
  have G_check_bool : FnOk P w K mg base CX0 1 a.check_bool d.check_bool P_check_bool spCheckBool := ok_check_bool T
  have G_check_order : FnOk P w K mg base CX0 4 a.check_order d.check_order P_check_order spCheckOrder := ok_check_order T
  have G_stable : FnOk P w K mg base CX0 1 a.stable d.stable P_stable spStable := ok_stable T
  refine T.f_is_order.ok sc_is_order (fun vs H Q E h => ?_) (fun cdv A outer s H vs Q E hr h => ?_)
  · obtain ⟨p, r, ks, bs, rev, rfl, _⟩ := h
    rfl
  · obtain ⟨p, r, ks, bs, rev, rfl, hK, hlen, hO, pm, q⟩ := h
    refine ⟨_, (pss_cons (ps_expr (pe_call (dvs := [.int 0, .int 2000]) G_check_keys (hr.mono (by decide)) (by rfl) T.g_check_keys T.k_check_keys T.b_check_keys_2.choose_spec.2 T.b_check_keys_2.choose_spec.1 pass0 (pa_cons (pv 0) pa_nil)))
    (pss_cons (ps_expr (pe_call G_check_order (hr.mono (by decide)) (by rfl) T.g_check_order T.k_check_order T.b_check_order .nil pass0 (pa_cons (pv 1) (pa_cons (pe_callB call_len_seq (by rfl) T.z_len PySem.boot_len (pa_cons (pv 0) pa_nil)) pa_nil))))
    (pss_cons (ps_expr (pe_call G_check_bool (hr.mono (by decide)) (by rfl) T.g_check_bool T.k_check_bool T.b_check_bool .nil pass0 (pa_cons pe_str (pa_cons (pv 2) pa_nil))))
    (pss_one (ps_ret (pe_cmpR (op_eqD hr.units) (pe_callTy call_list_of (by rfl) T.z_list (by decide +kernel) (pa_cons (pv 1) pa_nil)) (pe_call G_stable (hr.mono (by decide)) (by rfl) T.g_stable T.k_stable T.b_stable .nil pass0 (pa_cons (pv 0) (pa_cons (pv 2) pa_nil))) (nomark _))))))), ?_⟩
    refine ⟨_, rfl, p, ks, 0, 2000, rfl, hK, by omega, by omega, fun H1 s1 => ?_⟩
    have hS1 : SqL K H1 p (ks.map V.int) ∨ SqT K H1 p (ks.map V.int) := (hK.same s1).imp L2.sq_of L2.st_of
    refine ⟨_, rfl, _, rfl, p, _, rfl, hS1, r, bs, ks.length, by rw [List.length_map]; rfl, hO.same s1, pm, hlen, fun H2 s2 => ?_⟩
    refine ⟨_, rfl, _, rev, rfl, ?_⟩
    have s12 := s1.trans s2
    refine ⟨_, rfl, r, nV bs, rfl, (hO.same s12).imp L2.sq_of L2.st_of, fun l hl => ?_⟩
    have s3 : Same H2 (upd H2 l (.lst (nV bs))) := same_upd hl
    have s123 := s12.trans s3
    refine ⟨_, rfl, _, rfl, p, ks, rev, rfl, hK.same s123, hlen, fun t os H4 so ht s4 h4 => ?_⟩
    have hl4 : SqL K H4 l ((bs.map fun (i : Nat) => (i : Int)).map V.int) := by
      rw [← nV_map]
      exact L2.sq_of (s4 _ _ upd_same)
    have ht4 : SqL K H4 t ((os.map fun (i : Nat) => (i : Int)).map V.int) := by
      rw [← nV_map]
      exact L2.sq_of h4
    refine ⟨_, _, dp_ints hl4, dp_ints ht4, shaped_ints _, shaped_ints _, ?_⟩
    have e : PyData.eqv (.list ((bs.map fun (i : Nat) => (i : Int)).map PyData.int)) (.list ((os.map fun (i : Nat) => (i : Int)).map PyData.int)) = decide (bs = os) := by
      rw [eqv_lists]
      exact decide_eq_decide.mpr cast_inj
    rw [e]
    exact q os H4 so (s123.trans s4)
end

end K05

namespace K05
open PySem PySem.Spec PyProof.Rows L2
def spIsQ : Sp := fun vs H Q _ => ∃ q i j n, vs = [.ref q, .int n] ∧ H q = some (.tup [.int i, .int j]) ∧ 0 ≤ i ∧ i < n ∧ 0 ≤ j ∧ j < n ∧ i ≠ j ∧ Q (.bl true) H
def spCheckQ : Sp := fun vs H Q _ => ∃ q i j n, vs = [.ref q, .int n] ∧ H q = some (.tup [.int i, .int j]) ∧ 0 ≤ i ∧ i < n ∧ 0 ≤ j ∧ j < n ∧ i ≠ j ∧ Q .non H
def spHonest : Sp := fun vs H Q _ => ∃ p q ns, ∃ (i j : Nat) (x y : Int), vs = [.ref p, .ref q] ∧ KeysAt H p ns ∧ ns.length ≤ 2000 ∧ H q = some (.tup [.int i, .int j]) ∧ ns[i]? = some x ∧ ns[j]? = some y ∧ i ≠ j ∧ ∀ H', Same H H' → Q (.bl (decide (x < y))) H'
section
variable {P : Program} {w : World} {K : PySem.W.Frag} {mg : Str → Option Value} {base : Heap} {a : Ad} {d : Fd}
theorem ok_is_question (T : Txt K mg a d) : FnOk P w K mg base CX0 4 a.is_question d.is_question P_is_question spIsQ := by
  have G_is_item : FnOk P w K mg base CX0 3 a.is_item d.is_item P_is_item spIsItem := ok_is_item T
  refine T.f_is_question.ok sc_is_question (fun vs H Q E h => ?_) (fun cdv A outer s H vs Q E hr h => ?_)
  · obtain ⟨q, i, j, n, rfl, _⟩ := h
    rfl
  · obtain ⟨p, i, j, n, rfl, hp, i0, i1, j0, j1, ne, q⟩ := h
    refine ⟨_, (pss_cons (ps_if (PW.pt (pw_or (pt_not (pt_val (pe_callB call_isi (by rfl) T.z_isinstance (by decide +kernel) (pa_cons (pv 0) (pa_cons (pe_bltn (v := .ty "tuple") (u := .type "tuple") (by rfl) T.z_tuple (by decide +kernel) rfl) pa_nil))))) (pw_or1 (pt_cmpR op_ne (pe_callB call_len_seq (by rfl) T.z_len PySem.boot_len (pa_cons (pv 0) pa_nil)) pe_int (nomark _))))) (pss_one (ps_ret pe_bl)) pss_nil)
    (pss_cons (ps_asg (pv 0) (pg_tup rfl (pgs_cons (pg_name (i := 2) sc_is_question.nd rfl (Or.inl rfl)) (pgs_cons (pg_name (i := 3) sc_is_question.nd rfl (Or.inl rfl)) pgs_nil))))
    (pss_one (ps_ret (pe_and (pe_call G_is_item (hr.mono (by decide)) (by rfl) T.g_is_item T.k_is_item T.b_is_item .nil pass0 (pa_cons (pv 2) (pa_cons (pv 1) pa_nil))) (pe_and (pe_call G_is_item (hr.mono (by decide)) (by rfl) T.g_is_item T.k_is_item T.b_is_item .nil pass0 (pa_cons (pv 3) (pa_cons (pv 1) pa_nil))) (pe_one (pe_cmpR op_ne (pv 2) (pv 3) (nomark _))))))))), ?_⟩
    refine ⟨_, rfl, .ref p, .ty "tuple", _, .type "tuple", true, rfl, .ty _, .base (.tup hp), kit_ty (by decide +kernel), true, rfl, iteF ?_⟩
    refine ⟨_, rfl, p, _, rfl, .inr (L2.st_of hp), rfl, false, rfl, iteF ?_⟩
    refine ⟨_, rfl, p, _, rfl, L2.st_of hp, rfl, _, _, rfl, _, _, rfl, rfl, ?_⟩
    refine ⟨_, rfl, _, rfl, i, n, rfl, i0, i1, true, rfl, iteT ?_⟩
    refine ⟨_, rfl, _, rfl, j, n, rfl, j0, j1, true, rfl, iteT ?_⟩
    refine ⟨_, rfl, _, rfl, rfl, ?_⟩
    have e : (!decide (V.int i = V.int j)) = true := by rw [decide_eq_false fun z => ne (V.int.inj z)]; rfl
    exact e ▸ q
theorem ok_check_question (T : Txt K mg a d) : FnOk P w K mg base CX0 5 a.check_question d.check_question P_check_question spCheckQ := by
  have G_is_question : FnOk P w K mg base CX0 4 a.is_question d.is_question P_is_question spIsQ := ok_is_question T
  refine T.f_check_question.ok sc_check_question (fun vs H Q E h => ?_) (fun cdv A outer s H vs Q E hr h => ?_)
  · obtain ⟨q, i, j, n, rfl, _⟩ := h
    rfl
  · obtain ⟨p, i, j, n, rfl, hp, i0, i1, j0, j1, ne, q⟩ := h
    refine ⟨_, (pss_one (ps_if (pt_not (pt_val (pe_call G_is_question (hr.mono (by decide)) (by rfl) T.g_is_question T.k_is_question T.b_is_question .nil pass0 (pa_cons (pv 0) (pa_cons (pv 1) pa_nil))))) (pss_one ps_never) pss_nil)), ?_⟩
    exact ⟨_, rfl, _, rfl, p, i, j, n, rfl, hp, i0, i1, j0, j1, ne, true, rfl, iteF q⟩
theorem ok_honest (T : Txt K mg a d) : FnOk P w K mg base CX0 6 a.honest d.honest P_honest spHonest := by
  have G_check_keys : FnOk P w K mg base CX0 2 a.check_keys d.check_keys P_check_keys spCheckKeysN := ok_check_keys T
  have G_check_question : FnOk P w K mg base CX0 5 a.check_question d.check_question P_check_question spCheckQ := ok_check_question T
  refine T.f_honest.ok sc_honest (fun vs H Q E h => ?_) (fun cdv A outer s H vs Q E hr h => ?_)
  · obtain ⟨p, q, ns, i, j, x, y, rfl, _⟩ := h
    rfl
  · obtain ⟨p, r, ns, i, j, x, y, rfl, hK, hlen, hr2, hi, hj, ne, q⟩ := h
    refine ⟨_, (pss_cons (ps_expr (pe_call (dvs := [.int 0, .int 2000]) G_check_keys (hr.mono (by decide)) (by rfl) T.g_check_keys T.k_check_keys T.b_check_keys_2.choose_spec.2 T.b_check_keys_2.choose_spec.1 pass0 (pa_cons (pv 0) pa_nil)))
    (pss_cons (ps_expr (pe_call G_check_question (hr.mono (by decide)) (by rfl) T.g_check_question T.k_check_question T.b_check_question .nil pass0 (pa_cons (pv 1) (pa_cons (pe_callB call_len_seq (by rfl) T.z_len PySem.boot_len (pa_cons (pv 0) pa_nil)) pa_nil))))
    (pss_cons (ps_asg (pv 1) (pg_tup rfl (pgs_cons (pg_name (i := 2) sc_honest.nd rfl (Or.inl rfl)) (pgs_cons (pg_name (i := 3) sc_honest.nd rfl (Or.inl rfl)) pgs_nil))))
    (pss_one (ps_ret (pe_cmpR op_lt (pe_ix ix_seq (pv 0) (pv 2) (fun _ _ => rfl)) (pe_ix ix_seq (pv 0) (pv 3) (fun _ _ => rfl)) (nomark _))))))), ?_⟩
    refine ⟨_, rfl, p, ns, 0, 2000, rfl, hK, by omega, by omega, fun H1 s1 => ?_⟩
    have hK1 := hK.same s1
    have hr1 := s1 _ _ hr2
    have hS : SqL K H1 p (ns.map V.int) ∨ SqT K H1 p (ns.map V.int) := hK1.imp L2.sq_of L2.st_of
    have li : i < ns.length := (List.getElem?_eq_some_iff.mp hi).1
    have lj : j < ns.length := (List.getElem?_eq_some_iff.mp hj).1
    refine ⟨_, rfl, _, rfl, p, _, rfl, hS, r, (i : Int), (j : Int), _, rfl, hr1, by omega, by rw [List.length_map]; omega, by omega, by rw [List.length_map]; omega, by omega, ?_⟩
    refine ⟨_, rfl, r, _, rfl, L2.st_of hr1, rfl, _, _, rfl, _, _, rfl, rfl, ?_⟩
    have gi : atI (ns.map V.int) (i : Int) = some (.int x) := atI_nat (by rw [List.getElem?_map, hi]; rfl)
    have gj : atI (ns.map V.int) (j : Int) = some (.int y) := atI_nat (by rw [List.getElem?_map, hj]; rfl)
    refine ⟨_, rfl, _, rfl, ?_⟩
    rcases hS with hS | hS
    · refine .inl ⟨p, _, _, _, rfl, rfl, hS, gi, _, rfl, _, rfl, .inl ⟨p, _, _, _, rfl, rfl, hS, gj, x, y, rfl, rfl, q _ s1⟩⟩
    · refine .inr (.inl ⟨p, _, _, _, rfl, rfl, hS, gi, _, rfl, _, rfl, .inr (.inl ⟨p, _, _, _, rfl, rfl, hS, gj, x, y, rfl, rfl, q _ s1⟩)⟩)
end

end K05

namespace K05
open PySem PySem.Spec PyProof.Rows L2
def spMixed : Sp := fun vs H Q _ => ∃ c e, vs = [.int c, .int e] ∧ ∀ v : Int, Q (.int v) H
def spSource : Sp := fun vs H Q _ => ∃ c, vs = [.int c] ∧ ∀ p x y z, 0 ≤ x → H p = none → Q (.ref p) (upd H p (.lst [.int x, .int y, .int z]))
def spTake : Sp := fun vs H Q _ => ∃ p b, vs = [.ref p, .int b] ∧ Src H p ∧ 0 < b ∧ b.natAbs < 2 ^ 64 ∧ ∀ v x y z : Int, 0 ≤ v → v < b → 0 ≤ x → Q (.int v) (upd H p (.lst [.int x, .int y, .int z]))
section
variable {P : Program} {w : World} {K : PySem.W.Frag} {mg : Str → Option Value} {base : Heap} {a : Ad} {d : Fd}
theorem ok_mixed (T : Txt K mg a d) : FnOk P w K mg base CX0 1 a.mixed d.mixed P_mixed spMixed := by
  refine T.f_mixed.ok sc_mixed (fun vs H Q E h => ?_) (fun cdv A outer s H vs Q E hr h => ?_)
  · obtain ⟨c, e, rfl, _⟩ := h
    rfl
  · obtain ⟨c, e, rfl, q⟩ := h
    refine ⟨_, (pss_cons (ps_set (i := 2) sc_mixed.nd rfl (Or.inl rfl) (pe_op op_mod (pe_callTy call_int1 (by rfl) T.z_int (by decide +kernel) (pa_cons (pe_op op_mul (pe_op op_add (pe_op op_mod (pe_callTy call_int1 (by rfl) T.z_int (by decide +kernel) (pa_cons (pv 0) pa_nil)) pe_int) pe_int) (pe_op op_add (pe_op op_mul (pv 1) pe_int) pe_int)) pa_nil)) pe_int))
    (pss_cons (ps_set (i := 2) sc_mixed.nd rfl (Or.inl rfl) (pe_op op_mod (pe_callTy call_int1 (by rfl) T.z_int (by decide +kernel) (pa_cons (pe_op op_mul (pe_op op_add (pv 2) (pe_op op_mul (pe_op op_mod (pe_callTy call_int1 (by rfl) T.z_int (by decide +kernel) (pa_cons (pe_op op_fdivW (pv 0) pe_int) pa_nil)) pe_int) (pe_op op_add (pv 1) pe_int))) pe_int) pa_nil)) pe_int))
    (pss_cons (ps_set (i := 2) sc_mixed.nd rfl (Or.inl rfl) (pe_op op_mod (pe_callTy call_int1 (by rfl) T.z_int (by decide +kernel) (pa_cons (pe_op op_mul (pv 2) (pe_op op_add (pe_op op_add (pe_op op_fdivW (pv 2) pe_int) pe_int) (pv 1))) pa_nil)) pe_int))
    (pss_one (ps_ret (pe_op op_mod (pe_callTy call_int1 (by rfl) T.z_int (by decide +kernel) (pa_cons (pe_op op_mul (pv 2) (pe_op op_add (pe_op op_fdivW (pv 2) pe_int) pe_int)) pa_nil)) pe_int)))))), ?_⟩
    have k1 := mb c (c := 2147483646) (by decide)
    refine ⟨_, rfl, .inl ⟨_, rfl, _, _, rfl, rfl, (by show (0 : Int) < 2147483646; decide), _, _, rfl, rfl, _, rfl, _, _, rfl, rfl, .inr ⟨by decide, by decide⟩, _, _, rfl, rfl, _, _, rfl, rfl, .inl (lt64 (c := 2147483647) (by omega) (by omega) (by decide)), .inl ⟨_, rfl, _, _, rfl, rfl, (by show (0 : Int) < 2147483647; decide), ?_⟩⟩⟩
    have k2 := mb (c / 2147483646) (c := 1000003) (by decide)
    refine ⟨_, rfl, _, rfl, _, _, rfl, rfl, ⟨by decide, by decide⟩, .inl ⟨_, rfl, _, _, rfl, rfl, (by show (0 : Int) < 1000003; decide), _, rfl, _, _, rfl, rfl, _, _, rfl, rfl, .inl (lt64 (c := 1000003) (by omega) (by omega) (by decide)), _, _, rfl, rfl, _, _, rfl, rfl, .inr ⟨by decide, by decide⟩, .inl ⟨_, rfl, _, _, rfl, rfl, (by show (0 : Int) < 2147483629; decide), ?_⟩⟩⟩
    refine ⟨_, rfl, _, rfl, _, _, rfl, rfl, ⟨by decide, by decide⟩, _, _, rfl, rfl, _, rfl, _, _, rfl, rfl, _, _, rfl, rfl, .inl (mbw _ (c := 2147483629) (by decide) (by decide)), .inl ⟨_, rfl, _, _, rfl, rfl, (by show (0 : Int) < 2147483587; decide), ?_⟩⟩
    refine ⟨_, rfl, _, rfl, _, _, rfl, rfl, ⟨by decide, by decide⟩, _, _, rfl, rfl, _, _, rfl, rfl, .inl (mbw _ (c := 2147483587) (by decide) (by decide)), .inl ⟨_, rfl, _, _, rfl, rfl, (by show (0 : Int) < 2147483563; decide), q _⟩⟩
theorem ok_source (T : Txt K mg a d) : FnOk P w K mg base CX0 1 a.source d.source P_source spSource := by
  refine T.f_source.ok sc_source (fun vs H Q E h => ?_) (fun cdv A outer s H vs Q E hr h => ?_)
  · obtain ⟨c, rfl, _⟩ := h
    rfl
  · obtain ⟨c, rfl, q⟩ := h
    refine ⟨_, (pss_cons (ps_if (pt_cmpR op_ge (pe_callB call_abs (by rfl) T.z_abs (by decide +kernel) (pa_cons (pv 0) pa_nil)) (pe_op op_powW pe_int pe_int) (nomark _)) (pss_one (ps_ret (pe_lst (pa_cons (pe_callB call_abs (by rfl) T.z_abs (by decide +kernel) (pa_cons (pv 0) pa_nil)) (pa_cons (pe_callB call_abs (by rfl) T.z_abs (by decide +kernel) (pa_cons (pv 0) pa_nil)) (pa_cons pe_int pa_nil)))))) pss_nil)
    (pss_one (ps_ret (pe_lst (pa_cons pe_int (pa_cons (pe_callB call_abs (by rfl) T.z_abs (by decide +kernel) (pa_cons (pv 0) pa_nil)) (pa_cons pe_int pa_nil))))))), ?_⟩
    have nn : 0 ≤ (if c < 0 then -c else c) := by split <;> omega
    refine ⟨_, rfl, _, rfl, _, _, rfl, rfl, ⟨by decide, by decide⟩, _, _, rfl, rfl, _, rfl, ite2 (fun _ => ?_) (fun _ => ?_)⟩
    · exact ⟨_, rfl, _, rfl, _, rfl, _, rfl, by show 3 ≤ sizeLine; decide, fun p hp => q p _ _ _ nn hp⟩
    · exact ⟨_, rfl, _, rfl, by show 3 ≤ sizeLine; decide, fun p hp => q p _ _ _ (Int.le_refl 0) hp⟩
theorem ok_take (T : Txt K mg a d) : FnOk P w K mg base CX0 2 a.take d.take P_take spTake := by
  have G_mixed : FnOk P w K mg base CX0 1 a.mixed d.mixed P_mixed spMixed := ok_mixed T
  refine T.f_take.ok sc_take (fun vs H Q E h => ?_) (fun cdv A outer s H vs Q E hr h => ?_)
  · obtain ⟨p, b, rfl, _⟩ := h
    rfl
  · obtain ⟨p, b, rfl, ⟨x, y, z, x0, hp⟩, b0, b64, q⟩ := h
    refine ⟨_, (pss_cons (ps_if (pt_cmpR op_gt (pe_ix ix_list (pv 0) pe_int (fun _ _ => rfl)) pe_int (nomark _)) (pss_cons (ps_set (i := 2) sc_take.nd rfl (Or.inl rfl) (pe_op op_mod (pe_callTy call_int1 (by rfl) T.z_int (by decide +kernel) (pa_cons (pe_ix ix_list (pv 0) pe_int (fun _ _ => rfl)) pa_nil)) (pv 1)))
      (pss_cons (ps_asg (pe_op op_fdivW (pe_ix ix_list (pv 0) pe_int (fun _ _ => rfl)) (pv 1)) (pg_sub (pv 0) pe_int set_list))
      (pss_one (ps_ret (pv 2))))) pss_nil)
    (pss_cons (ps_asg (pe_op op_add (pe_ix ix_list (pv 0) pe_int (fun _ _ => rfl)) pe_int) (pg_sub (pv 0) pe_int set_list))
    (pss_one (ps_ret (pe_op op_mod (pe_callTy call_int1 (by rfl) T.z_int (by decide +kernel) (pa_cons (pe_call G_mixed (hr.mono (by decide)) (by rfl) T.g_mixed T.k_mixed T.b_mixed .nil pass0 (pa_cons (pe_ix ix_list (pv 0) pe_int (fun _ _ => rfl)) (pa_cons (pe_ix ix_list (pv 0) pe_int (fun _ _ => rfl)) pa_nil))) pa_nil)) (pv 1)))))), ?_⟩
    have hS := L2.sq_of (K := K) hp
    have g0 : atI [V.int x, V.int y, V.int z] 0 = some (.int x) := atI_nat (j := 0) rfl
    have g1 : atI [V.int x, V.int y, V.int z] 1 = some (.int y) := atI_nat (j := 1) rfl
    have g2 : atI [V.int x, V.int y, V.int z] 2 = some (.int z) := atI_nat (j := 2) rfl
    refine ⟨_, rfl, p, _, _, _, rfl, rfl, hS, g0, _, _, rfl, rfl, _, rfl, ite2 (fun _ => ?_) (fun _ => ?_)⟩
    · refine ⟨_, rfl, p, _, _, _, rfl, rfl, hS, g0, .inl ⟨_, rfl, _, rfl, _, _, rfl, rfl, b0, ?_⟩⟩
      refine ⟨_, rfl, p, _, _, _, rfl, rfl, hS, g0, _, rfl, _, _, rfl, rfl, wide_div b0 b64 (by decide) (by decide), ?_⟩
      refine ⟨_, rfl, p, _, _, 0, rfl, rfl, hp, rfl, ?_⟩
      exact ⟨_, rfl, q _ _ _ _ (mb x b0).1 (mb x b0).2 (Int.ediv_nonneg x0 (by omega))⟩
    · refine ⟨_, rfl, p, _, _, _, rfl, rfl, hS, g2, _, _, rfl, rfl, ?_⟩
      refine ⟨_, rfl, p, _, _, 2, rfl, rfl, hp, rfl, ?_⟩
      have hp' : upd H p (.lst ([V.int x, V.int y, V.int z].set 2 (.int (z + 1)))) p = some (.lst [V.int x, V.int y, V.int (z + 1)]) := upd_same
      have hS' := L2.sq_of (K := K) hp'
      have g1' : atI [V.int x, V.int y, V.int (z + 1)] 1 = some (.int y) := atI_nat (j := 1) rfl
      have g2' : atI [V.int x, V.int y, V.int (z + 1)] 2 = some (.int (z + 1)) := atI_nat (j := 2) rfl
      refine ⟨_, rfl, p, _, _, _, rfl, rfl, hS', g1', _, rfl, p, _, _, _, rfl, rfl, hS', g2', y, z + 1, rfl, fun v => ?_⟩
      exact .inl ⟨_, rfl, _, rfl, _, _, rfl, rfl, b0, q _ _ _ _ (mb v b0).1 (mb v b0).2 x0⟩
end

def Bds (ms : List Int) : Prop := ∀ x ∈ ms, x.natAbs ≤ 2 ^ 62
theorem Bds.nil : Bds [] := fun _ h => by cases h
theorem Bds.app {a b : List Int} (h1 : Bds a) (h2 : Bds b) : Bds (a ++ b) := fun x hx => (List.mem_append.mp hx).elim (h1 x) (h2 x)
theorem Bds.snoc {a : List Int} {v : Int} (h1 : Bds a) (h2 : v.natAbs ≤ 2 ^ 62) : Bds (a ++ [v]) := h1.app fun x hx => by rw [List.mem_singleton.mp hx]; exact h2
theorem bd_up {b s k : Int} (h1 : -30 ≤ b) (h2 : b < 30) (h3 : 0 ≤ s) (h4 : s < 3) (h5 : 0 ≤ k) (h6 : k ≤ 100000) : (b + (1 + s) * k).natAbs ≤ 2 ^ 62 ∧ (b - (1 + s) * k).natAbs ≤ 2 ^ 62 := by
  have e : s = 0 ∨ s = 1 ∨ s = 2 := by omega
  rcases e with rfl | rfl | rfl <;> omega
theorem bd_div {b s k : Int} (h1 : -30 ≤ b) (h2 : b < 30) (h3 : 0 ≤ s) (h4 : s < 3) (h5 : 0 ≤ k) (h6 : k ≤ 100000) : (b + k / (1 + (1 + s))).natAbs ≤ 2 ^ 62 ∧ (b - k / (1 + (1 + s))).natAbs ≤ 2 ^ 62 := by
  have a1 : 0 ≤ k / (1 + (1 + s)) := Int.ediv_nonneg h5 (by omega)
  have a2 : k / (1 + (1 + s)) ≤ k := Int.ediv_le_self _ h5
  omega
def spPart : Sp := fun vs H Q _ => ∃ p n, vs = [.ref p, .int n] ∧ Src H p ∧ 0 ≤ n ∧ n ≤ 100000 ∧ ∀ (r : Addr) (ms : List Int) (H' : Hp), ms.length = n.toNat → Bds ms → H r = none → Dn p H H' → H' r = some (.lst (ms.map V.int)) → Q (.ref r) H'
def spKeys : Sp := fun vs H Q _ => ∃ p n, vs = [.ref p, .int n] ∧ Src H p ∧ 0 ≤ n ∧ n ≤ 90000 ∧ ∀ (r : Addr) (ms : List Int) (H' : Hp), (ms.length : Int) ≤ n → Bds ms → H r = none → Dn p H H' → H' r = some (.lst (ms.map V.int)) → Q (.ref r) H'
theorem lc_intsB {te : TE} {σ : L2.St} {H1 : Hp} {D p : Addr} {n j : Nat} {vs : List Nat} {Qd : Hp → Prop} (hn : n ≤ 1000000) (hs : Src H1 p) (hD : H1 D = none)
    (hw : ∀ v, wipe ((wipe σ vs).set j v) vs = wipe σ vs)
    (he : ∀ (k : Nat) (H3 : Hp) (R : VK), k < n → Dn p H1 H3 → (∀ (v : Int) (H4 : Hp), v.natAbs ≤ 2 ^ 62 → Dn p H3 H4 → R (.int v) H4) → te ((wipe σ vs).set j (some (.int (0 + (k : Nat))))) H3 R)
    (hd : ∀ (ms : List Int) (H' : Hp), ms.length = n → Bds ms → Dn p H1 H' → H' D = some (.lst (ms.map V.int)) → Qd H') :
    ∃ W : Nat → Nat → Hp → Prop, (∃ m, W 0 m (L2.upd H1 D (.lst []))) ∧ ∀ i m H, W i m H →
      ((Itr 0 n).stop i H ∧ Qd H) ∨ ((Itr 0 n).go i H ∧ ∃ Nx : Hp → Prop, (∀ H', Nx H' → ∃ m', m' < m ∧ W (i + 1) m' H') ∧ ∀ x H', (Itr 0 n).yld i H x H' → gName j x (wipe σ vs) H' fun σ2 H2 => wipe σ2 vs = wipe σ vs ∧ tYes σ2 H2 fun b H3 =>
        if b = true then te σ2 H3 fun y H4 => ∃ acc, H4 D = some (.lst acc) ∧ acc.length < sizeLine ∧ Nx (L2.upd H4 D (.lst (acc ++ [y]))) else Nx H3) := by
  have nD : D ≠ p := hs.ne hD
  refine lc_range (lo := 0) (n := n) (fun i H => ∃ ms : List Int, ms.length = i ∧ Bds ms ∧ Dn p H1 H ∧ H D = some (.lst (ms.map V.int))) ⟨[], rfl, Bds.nil, (Dn.refl hs).new hD, upd_same⟩ ?_ ?_
  · rintro i H hi ⟨ms, hl, bd, dr, hh⟩
    refine ⟨hw _, ?_⟩
    refine he i H _ hi dr fun v H4 bv d4 => ?_
    have h4 := d4.1 _ _ nD hh
    refine ⟨_, h4, ?_, ms ++ [v], by simp [hl], bd.snoc bv, ?_, ?_⟩
    · rw [List.length_map, hl]
      exact Nat.lt_of_le_of_lt (Nat.le_trans (Nat.le_of_lt hi) hn) (by decide)
    · have dd := dr.trans d4
      refine ⟨fun b o nb e => ?_, dd.2.upd nD⟩
      rw [upd_ne (ne_of_none e hD)]
      exact dd.1 b o nb e
    · rw [map_snoc]
      exact upd_same
  · rintro H ⟨ms, hl, bd, dr, hh⟩
    exact hd ms H hl bd dr hh
theorem four_at {v : Int} (h0 : 0 ≤ v) (h1 : v < 4) : ∃ c : Int, atI [V.int 3, V.int 9, V.int 40, V.int 130] v = some (.int c) ∧ 0 < c ∧ c ≤ 130 := by
  have h : v = 0 ∨ v = 1 ∨ v = 2 ∨ v = 3 := by omega
  rcases h with rfl | rfl | rfl | rfl
  · exact ⟨3, rfl, by decide, by decide⟩
  · exact ⟨9, rfl, by decide, by decide⟩
  · exact ⟨40, rfl, by decide, by decide⟩
  · exact ⟨130, rfl, by decide, by decide⟩
section
variable {P : Program} {w : World} {K : PySem.W.Frag} {mg : Str → Option Value} {base : Heap} {a : Ad} {d : Fd}
theorem ok_part (T : Txt K mg a d) : FnOk P w K mg base CX0 3 a.part d.part P_part spPart := by
  have G_take : FnOk P w K mg base CX0 2 a.take d.take P_take spTake := ok_take T
  refine T.f_part.ok sc_part (fun vs H Q E h => ?_) (fun cdv A outer s H vs Q E hr h => ?_)
  · obtain ⟨p, n, rfl, _⟩ := h
    rfl
  · obtain ⟨p, n, rfl, hs, n0, n1, q⟩ := h
    refine ⟨_, (pss_cons (ps_asg (pe_tup (pa_cons (pe_call G_take (hr.mono (by decide)) (by rfl) T.g_take T.k_take T.b_take .nil pass0 (pa_cons (pv 0) (pa_cons pe_int pa_nil))) (pa_cons (pe_op op_sub (pe_call G_take (hr.mono (by decide)) (by rfl) T.g_take T.k_take T.b_take .nil pass0 (pa_cons (pv 0) (pa_cons pe_int pa_nil))) pe_int) (pa_cons (pe_op op_add pe_int (pe_call G_take (hr.mono (by decide)) (by rfl) T.g_take T.k_take T.b_take .nil pass0 (pa_cons (pv 0) (pa_cons pe_int pa_nil)))) pa_nil)))) (pg_tup rfl (pgs_cons (pg_name (i := 2) sc_part.nd rfl (Or.inl rfl)) (pgs_cons (pg_name (i := 3) sc_part.nd rfl (Or.inr rfl)) (pgs_cons (pg_name (i := 4) sc_part.nd rfl (Or.inr rfl)) pgs_nil)))))
    (pss_cons (ps_if (pt_cmpR op_eq (pv 2) pe_int (nomark _)) (pss_one (ps_ret (pe_lc (own := [("k", 5)]) (g := gName 5) (tt := tYes) rfl sc_part.nd (pi_range1 (by rfl) T.z_range (pa_cons (pv 1) pa_nil)) (blkOk_by (N := N_part) (sc := defScope s_part) (by decide +kernel)) (fun _ _ _ _ _ => pg_name (i := 5) sc_part.nd rfl (Or.inl rfl)) (fun _ _ _ _ _ => pts_nil) (fun _ _ _ _ _ => (pe_op op_add (pv 3) (pe_op op_mul (pv 4) (pv 5))))))) pss_nil)
    (pss_cons (ps_if (pt_cmpR op_eq (pv 2) pe_int (nomark _)) (pss_one (ps_ret (pe_lc (own := [("k", 5)]) (g := gName 5) (tt := tYes) rfl sc_part.nd (pi_range1 (by rfl) T.z_range (pa_cons (pv 1) pa_nil)) (blkOk_by (N := N_part) (sc := defScope s_part) (by decide +kernel)) (fun _ _ _ _ _ => pg_name (i := 5) sc_part.nd rfl (Or.inl rfl)) (fun _ _ _ _ _ => pts_nil) (fun _ _ _ _ _ => (pe_op op_sub (pv 3) (pe_op op_mul (pv 4) (pv 5))))))) pss_nil)
    (pss_cons (ps_if (pt_cmpR op_eq (pv 2) pe_int (nomark _)) (pss_one (ps_ret (pe_op op_rep (pe_lst (pa_cons (pv 3) pa_nil)) (pv 1)))) pss_nil)
    (pss_cons (ps_if (pt_cmpR op_eq (pv 2) pe_int (nomark _)) (pss_one (ps_ret (pe_lc (own := [("k", 5)]) (g := gName 5) (tt := tYes) rfl sc_part.nd (pi_range1 (by rfl) T.z_range (pa_cons (pv 1) pa_nil)) (blkOk_by (N := N_part) (sc := defScope s_part) (by decide +kernel)) (fun _ _ _ _ _ => pg_name (i := 5) sc_part.nd rfl (Or.inl rfl)) (fun _ _ _ _ _ => pts_nil) (fun _ _ _ _ _ => (pe_op op_add (pv 3) (pe_op op_fdivW (pv 5) (pe_op op_add pe_int (pv 4)))))))) pss_nil)
    (pss_cons (ps_if (pt_cmpR op_eq (pv 2) pe_int (nomark _)) (pss_one (ps_ret (pe_lc (own := [("k", 5)]) (g := gName 5) (tt := tYes) rfl sc_part.nd (pi_range1 (by rfl) T.z_range (pa_cons (pv 1) pa_nil)) (blkOk_by (N := N_part) (sc := defScope s_part) (by decide +kernel)) (fun _ _ _ _ _ => pg_name (i := 5) sc_part.nd rfl (Or.inl rfl)) (fun _ _ _ _ _ => pts_nil) (fun _ _ _ _ _ => (pe_op op_sub (pv 3) (pe_op op_fdivW (pv 5) (pe_op op_add pe_int (pv 4)))))))) pss_nil)
    (pss_cons (ps_if (pt_cmpR op_eq (pv 2) pe_int (nomark _)) (pss_one (ps_ret (pe_lc (own := [("k", 5)]) (g := gName 5) (tt := tYes) rfl sc_part.nd (pi_range1 (by rfl) T.z_range (pa_cons (pv 1) pa_nil)) (blkOk_by (N := N_part) (sc := defScope s_part) (by decide +kernel)) (fun _ _ _ _ _ => pg_name (i := 5) sc_part.nd rfl (Or.inl rfl)) (fun _ _ _ _ _ => pts_nil) (fun _ _ _ _ _ => (pe_op op_add (pv 3) (pe_call G_take (hr.mono (by decide)) (by rfl) T.g_take T.k_take T.b_take .nil pass0 (pa_cons (pv 0) (pa_cons (pe_op op_add pe_int (pv 4)) pa_nil)))))))) pss_nil)
    (pss_one (ps_ret (pe_lc (own := [("k", 5)]) (g := gName 5) (tt := tYes) rfl sc_part.nd (pi_range1 (by rfl) T.z_range (pa_cons (pv 1) pa_nil)) (blkOk_by (N := N_part) (sc := defScope s_part) (by decide +kernel)) (fun _ _ _ _ _ => pg_name (i := 5) sc_part.nd rfl (Or.inl rfl)) (fun _ _ _ _ _ => pts_nil) (fun _ _ _ _ _ => (pe_op op_sub (pe_call G_take (hr.mono (by decide)) (by rfl) T.g_take T.k_take T.b_take .nil pass0 (pa_cons (pv 0) (pa_cons pe_int pa_nil))) pe_int)))))))))))), ?_⟩
    refine ⟨_, rfl, p, 7, rfl, hs, by decide, by decide, fun v1 x1 y1 z1 a1 b1 c1 => ?_⟩
    refine ⟨_, rfl, p, 60, rfl, .put c1, by decide, by decide, fun v2 x2 y2 z2 a2 b2 c2 => ?_⟩
    refine ⟨_, _, rfl, rfl, _, rfl, p, 3, rfl, .put c2, by decide, by decide, fun v3 x3 y3 z3 a3 b3 c3 => ?_⟩
    rw [upd_upd, upd_upd]
    refine ⟨_, _, rfl, rfl, by show 3 ≤ sizeLine; decide, fun t ht => ?_⟩
    have d1 : Dn p H (upd (upd H p (.lst [.int x3, .int y3, .int z3])) t (.tup [.int v1, .int (v2 - 30), .int (1 + v3)])) := (Dn.put c3).new ht
    refine ⟨t, _, rfl, L2.st_of upd_same, rfl, _, _, rfl, _, _, rfl, _, _, rfl, rfl, ?_⟩
    generalize upd (upd H p (.lst [.int x3, .int y3, .int z3])) t (.tup [.int v1, .int (v2 - 30), .int (1 + v3)]) = H1 at d1 ⊢
    have nb : n.toNat ≤ 1000000 := by omega
    have fin : ∀ (D : Addr), H1 D = none → ∀ (ms : List Int) (H' : Hp), ms.length = n.toNat → Bds ms → Dn p H1 H' → H' D = some (.lst (ms.map V.int)) → Q (.ref D) H' := fun D hD ms H' hl bd dr hh =>
      q D ms H' hl bd (d1.free hD) (d1.trans dr) hh
    have st : (1 + v3).natAbs < 2 ^ 64 := by omega
    refine ⟨_, rfl, rfl, _, rfl, ite2 (fun _ => ?_) (fun _ => ?_)⟩
    · refine ⟨_, rfl, n, rfl, by omega, by omega, fun D hD => lc_intsB nb d1.2 hD (fun _ => rfl) (fun k H3 R hk dr h => ?_) (fin D hD)⟩
      exact ⟨_, rfl, _, rfl, _, rfl, _, _, rfl, rfl, .inl ⟨by omega, by omega⟩, _, _, rfl, rfl, h _ _ (bd_up (by omega) (by omega) a3 (by omega) (by omega) (by omega)).1 (.refl dr.2)⟩
    refine ⟨_, rfl, rfl, _, rfl, ite2 (fun _ => ?_) (fun _ => ?_)⟩
    · refine ⟨_, rfl, n, rfl, by omega, by omega, fun D hD => lc_intsB nb d1.2 hD (fun _ => rfl) (fun k H3 R hk dr h => ?_) (fin D hD)⟩
      exact ⟨_, rfl, _, rfl, _, rfl, _, _, rfl, rfl, .inl ⟨by omega, by omega⟩, _, _, rfl, rfl, h _ _ (bd_up (by omega) (by omega) a3 (by omega) (by omega) (by omega)).2 (.refl dr.2)⟩
    refine ⟨_, rfl, rfl, _, rfl, ite2 (fun _ => ?_) (fun _ => ?_)⟩
    · refine ⟨_, rfl, by show 1 ≤ sizeLine; decide, fun l hl => ⟨_, rfl, l, n, _, rfl, rfl, upd_same, by omega, by omega, ?_, fun r hn => ?_⟩⟩
      · show 1 * n.toNat ≤ sizeLine
        exact Nat.le_trans (by omega) (by decide : 100000 ≤ sizeLine)
      · have dl : Dn p H1 (upd H1 l (.lst [.int (v2 - 30)])) := (Dn.refl d1.2).new hl
        refine fin r (dl.free hn) (List.replicate n.toNat (v2 - 30)) _ (by simp) (fun x hx => by rw [List.eq_of_mem_replicate hx]; omega) (dl.new hn) ?_
        rw [upd_same]
        exact congrArg (fun z => some (HO.lst z)) (rep_flat _ _)
    refine ⟨_, rfl, rfl, _, rfl, ite2 (fun _ => ?_) (fun _ => ?_)⟩
    · refine ⟨_, rfl, n, rfl, by omega, by omega, fun D hD => lc_intsB nb d1.2 hD (fun _ => rfl) (fun k H3 R hk dr h => ?_) (fin D hD)⟩
      exact ⟨_, rfl, _, rfl, _, rfl, _, _, rfl, rfl, _, _, rfl, rfl, wide_div (by omega) (b := 64) (by omega) (by decide) (by decide), _, _, rfl, rfl, h _ _ (bd_div (by omega) (by omega) a3 (by omega) (by omega) (by omega)).1 (.refl dr.2)⟩
    refine ⟨_, rfl, rfl, _, rfl, ite2 (fun _ => ?_) (fun _ => ?_)⟩
    · refine ⟨_, rfl, n, rfl, by omega, by omega, fun D hD => lc_intsB nb d1.2 hD (fun _ => rfl) (fun k H3 R hk dr h => ?_) (fin D hD)⟩
      exact ⟨_, rfl, _, rfl, _, rfl, _, _, rfl, rfl, _, _, rfl, rfl, wide_div (by omega) (b := 64) (by omega) (by decide) (by decide), _, _, rfl, rfl, h _ _ (bd_div (by omega) (by omega) a3 (by omega) (by omega) (by omega)).2 (.refl dr.2)⟩
    refine ⟨_, rfl, rfl, _, rfl, ite2 (fun _ => ?_) (fun _ => ?_)⟩
    · refine ⟨_, rfl, n, rfl, by omega, by omega, fun D hD => lc_intsB nb d1.2 hD (fun _ => rfl) (fun k H3 R hk dr h => ?_) (fin D hD)⟩
      exact ⟨_, rfl, _, rfl, _, rfl, _, _, rfl, rfl, p, _, rfl, dr.2, by omega, by omega, fun v x y z v0 v1 x0 => ⟨_, _, rfl, rfl, h _ _ (by omega) (.put x0)⟩⟩
    · refine ⟨_, rfl, n, rfl, by omega, by omega, fun D hD => lc_intsB nb d1.2 hD (fun _ => rfl) (fun k H3 R hk dr h => ?_) (fin D hD)⟩
      exact ⟨_, rfl, p, 200, rfl, dr.2, by decide, by decide, fun v x y z v0 v1 x0 => ⟨_, _, rfl, rfl, h _ _ (by omega) (.put x0)⟩⟩
theorem ok_keys (T : Txt K mg a d) : FnOk P w K mg base CX0 4 a.keys d.keys P_keys spKeys := by
  have G_take : FnOk P w K mg base CX0 2 a.take d.take P_take spTake := ok_take T
  have G_part : FnOk P w K mg base CX0 3 a.part d.part P_part spPart := ok_part T
  refine T.f_keys.ok sc_keys (fun vs H Q E h => ?_) (fun cdv A outer s H vs Q E hr h => ?_)
  · obtain ⟨p, n, rfl, _⟩ := h
    rfl
  · obtain ⟨p, n, rfl, hs, n0, n1, q⟩ := h
    refine ⟨_, (pss_cons (ps_par (i := 2) (j := 3) rfl sc_keys.nd rfl rfl (by decide) rfl rfl (pa_cons (pe_call G_take (hr.mono (by decide)) (by rfl) T.g_take T.k_take T.b_take .nil pass0 (pa_cons (pv 0) (pa_cons (pe_op op_add (pv 1) pe_int) pa_nil))) (pa_cons (pe_lst pa_nil) pa_nil)) (by rfl))
    (pss_cons (ps_while PassesOwn.never (pt_cmpR op_lt (pe_callB call_len_seq (by rfl) T.z_len PySem.boot_len (pa_cons (pv 3) pa_nil)) (pv 2) (nomark _))
      (pss_cons (ps_set (i := 4) sc_keys.nd rfl (Or.inl rfl) (pe_op op_sub (pv 2) (pe_callB call_len_seq (by rfl) T.z_len PySem.boot_len (pa_cons (pv 3) pa_nil))))
        (pss_cons (ps_set (i := 5) sc_keys.nd rfl (Or.inl rfl) (pe_op op_add pe_int (pe_call G_take (hr.mono (by decide)) (by rfl) T.g_take T.k_take T.b_take .nil pass0 (pa_cons (pv 0) (pa_cons (pe_ix ix_list (pe_lst (pa_cons pe_int (pa_cons pe_int (pa_cons pe_int (pa_cons pe_int pa_nil))))) (pe_call G_take (hr.mono (by decide)) (by rfl) T.g_take T.k_take T.b_take .nil pass0 (pa_cons (pv 0) (pa_cons pe_int pa_nil))) (fun _ _ => rfl)) pa_nil)))))
        (pss_one (ps_set (i := 3) sc_keys.nd rfl (Or.inl rfl) (pe_op op_catS (pv 3) (pe_call G_part (hr.mono (by decide)) (by rfl) T.g_part T.k_part T.b_part .nil pass0 (pa_cons (pv 0) (pa_cons (pe_ifExp (pt_cmpR op_lt (pv 5) (pv 4) (nomark _)) (pv 5) (pv 4)) pa_nil)))))))))
    (pss_one (ps_ret (pv 3))))), ?_⟩
    refine ⟨_, rfl, _, rfl, _, _, rfl, rfl, p, n + 1, rfl, hs, by omega, by omega, fun many x y z m0 m1 x0 => ?_⟩
    have d1 : Dn p H (upd H p (.lst [.int x, .int y, .int z])) := .put x0
    refine ⟨Nat.zero_le _, fun l0 hl0 => ⟨_, _, rfl, ?_⟩⟩
    refine ⟨fun m σ H' => ∃ (l : Addr) (ms : List Int) (u v : Option V), σ = [some (.ref p), some (.int n), some (.int many), some (.ref l), u, v] ∧ (ms.length : Int) ≤ many ∧ Bds ms ∧ m = (many - ms.length).toNat ∧ Dn p H H' ∧ H l = none ∧ H' l = some (.lst (ms.map V.int)),
      ⟨_, l0, [], none, none, rfl, m0, Bds.nil, rfl, d1.new hl0, d1.free hl0, upd_same⟩, ?_⟩
    rintro m σ H2 ⟨l, ms, u, v, rfl, hle, bd, rfl, d2, nl, hl⟩
    have hS := L2.sq_of (K := K) hl
    refine ⟨_, rfl, l, _, rfl, .inl hS, _, rfl, _, _, rfl, rfl, _, rfl, ite2 (fun c => ?_) (fun c => ?_)⟩
    · have c1 : ((ms.map V.int).length : Int) < many := of_decide_eq_true c
      rw [List.length_map] at c1
      refine ⟨_, fun _ _ h => h, ?_⟩
      refine ⟨_, rfl, _, rfl, l, _, rfl, .inl hS, _, _, rfl, rfl, ?_⟩
      refine ⟨_, rfl, by show 4 ≤ sizeLine; decide, fun r hr0 => ?_⟩
      have d3 := (Dn.refl d2.2).new (o := .lst [.int 3, .int 9, .int 40, .int 130]) hr0
      refine ⟨_, rfl, p, 4, rfl, d3.2, by decide, by decide, fun v4 x4 y4 z4 a4 b4 c4 => ?_⟩
      obtain ⟨k, gk, k0, k1⟩ := four_at a4 b4
      have d4 : Dn p H2 _ := d3.trans (.put (x := x4) (y := y4) (z := z4) c4)
      have hr2 : upd (upd H2 r (.lst [.int 3, .int 9, .int 40, .int 130])) p (.lst [.int x4, .int y4, .int z4]) r = some (.lst [.int 3, .int 9, .int 40, .int 130]) := by
        rw [upd_ne (d2.2.ne hr0)]
        exact upd_same
      refine ⟨r, _, _, _, rfl, rfl, L2.sq_of hr2, gk, p, k, rfl, d4.2, k0, by omega, fun v5 x5 y5 z5 a5 b5 c5 => ?_⟩
      have d5 := d4.trans (.put (x := x5) (y := y5) (z := z5) c5)
      refine ⟨_, _, rfl, rfl, ?_⟩
      refine ⟨_, rfl, _, rfl, _, rfl, _, rfl, _, _, rfl, rfl, _, rfl, ite2 (fun e => ⟨_, rfl, ?_⟩) (fun e => ⟨_, rfl, ?_⟩)⟩
      all_goals
        rw [decide_eq_true_eq] at e
        have eM : (ms.map V.int).length = ms.length := List.length_map _
        refine ⟨p, _, rfl, d5.2, by omega, by omega, fun r2 ms2 H6 hl2 bd2 hr2 d6 hh2 => ?_⟩
        have d7 := d5.trans d6
        have eL : (ms ++ ms2).length = ms.length + ms2.length := List.length_append
        have hl7 : H6 l = some (.lst (ms.map V.int)) := d7.1 _ _ (hs.ne nl) hl
        refine ⟨l, r2, _, _, rfl, rfl, L2.sq_of hl7, L2.sq_of hh2, ?_, fun r3 hr3 => ?_⟩
        · rw [List.length_map, List.length_map, hl2]
          exact Nat.le_trans (by omega) (by decide : 1000000 ≤ sizeLine)
        · have d8 := d2.trans (d7.new (o := .lst (ms.map V.int ++ ms2.map V.int)) hr3)
          refine ⟨_, by omega, r3, ms ++ ms2, _, _, rfl, ?_, bd.app bd2, rfl, d8, d2.trans d7 |>.free hr3, ?_⟩
          · omega
          · rw [List.map_append]
            exact upd_same
    · rw [decide_eq_true_eq, List.length_map] at c
      exact ⟨_, rfl, q l ms H2 (by omega) bd nl d2 hl⟩
end

end K05

namespace K05
open PySem PySem.Spec PyProof.Rows L2
def spRight : Sp := fun vs H Q _ => ∃ (p m : Addr) (ks : List Int), vs = [.ref p, .ref m] ∧ Src H p ∧ m ≠ p ∧ H m = some (.lst (ks.map V.int)) ∧ ks.length ≤ 60 ∧ Bds ks ∧ ∀ H', Dn p H H' → Q (.bl true) H'
theorem pow9 : CPowW 10 9 := ⟨by decide, by decide +kernel⟩
theorem bits_small {i : Int} (h : i.natAbs ≤ 2 ^ 62) : CPowW i 3 := by
  refine ⟨by decide, ?_⟩
  have b : Builtin.Int.intBits i ≤ 64 := by
    unfold Builtin.Int.intBits
    split
    · omega
    · rename_i e
      have ne : i.natAbs ≠ 0 := fun z => e (by simpa using Int.natAbs_eq_zero.mp z)
      have : i.natAbs.log2 < 63 := (Nat.log2_lt ne).mpr (Nat.lt_of_le_of_lt h (by decide))
      omega
  omega
theorem ints_dp {K : PySem.W.Frag} {H : Hp} {r : Addr} {os : List Nat} (h : H r = some (.lst (nV os))) : Dp K H (.ref r) (.list ((os.map fun (i : Nat) => (i : Int)).map PyData.int)) := dp_ints (by rw [← nV_map]; exact L2.sq_of h)
theorem take_next {α : Type} {xs : List α} {i : Nat} {x : α} (h : xs[i]? = some x) : xs.take (i + 1) = xs.take i ++ [x] := by
  rw [List.take_add_one, h]
  rfl
theorem nV_snoc (L : List Nat) (k : Nat) : nV L ++ [.int (k : Int)] = nV (L ++ [k]) := by
  show _ = List.map _ (L ++ [k])
  rw [List.map_append]
  rfl
theorem filt_yes {q : Nat → Bool} {k : Nat} (h : q k = true) : [k].filter q = [k] := by
  rw [List.filter_cons, if_pos h]
  rfl
theorem filt_no {q : Nat → Bool} {k : Nat} (h : q k = false) : [k].filter q = [] := by
  rw [List.filter_cons, if_neg (by rw [h]; exact Bool.noConfusion)]
  rfl
theorem nV_rev (L : List Nat) : (nV L).reverse = nV L.reverse := (List.map_reverse ..).symm
section
variable {P : Program} {w : World} {K : PySem.W.Frag} {mg : Str → Option Value} {base : Heap} {a : Ad} {d : Fd}
theorem ok_right (T : Txt K mg a d) : FnOk P w K mg base CX0 7 a.is_right d.is_right P_is_right spRight := by
  have G_take : FnOk P w K mg base CX0 2 a.take d.take P_take spTake := ok_take T
  have G_stable_order : FnOk P w K mg base CX0 3 a.stable_order d.stable_order P_stable_order spStable := ok_stable_order T
  have G_is_order : FnOk P w K mg base CX0 5 a.is_order d.is_order P_is_order spIsOrder := ok_is_order T
  have G_honest : FnOk P w K mg base CX0 6 a.honest d.honest P_honest spHonest := ok_honest T
  refine T.f_is_right.ok sc_is_right (fun vs H Q E h => ?_) (fun cdv A outer s0 H vs Q E hr h => ?_)
  · obtain ⟨p, m, ks, rfl, _⟩ := h
    rfl
  · obtain ⟨p, m, ks, rfl, hs, nmp, hm, h60, hB, q⟩ := h
    refine ⟨_, (pss_cons (ps_asg (pe_tup (pa_cons (pe_call (dvs := [.bl false]) G_stable_order (hr.mono (by decide)) (by rfl) T.g_stable_order T.k_stable_order T.b_stable_order (.cons rfl .nil) pass0 (pa_cons (pv 1) pa_nil)) (pa_cons (pe_callB call_len_seq (by rfl) T.z_len PySem.boot_len (pa_cons (pv 1) pa_nil)) pa_nil))) (pg_tup rfl (pgs_cons (pg_name (i := 2) sc_is_right.nd rfl (Or.inl rfl)) (pgs_cons (pg_name (i := 3) sc_is_right.nd rfl (Or.inr rfl)) pgs_nil))))
    (pss_cons (ps_if (PW.pt (pw_or (pt_cmpR (op_neD hr.units) (pe_callB cr_sortedI (by rfl) T.z_sorted (by decide +kernel) (pa_cons (pv 2) pa_nil)) (pe_listRg (by rfl) (by rfl) T.z_list (prg_1 (by rfl) T.z_range (pv 3))) (nomark _)) (pw_or1 (pt_cmpR op_notBl (pe_call (dvs := [.bl false]) G_is_order (hr.mono (by decide)) (by rfl) T.g_is_order T.k_is_order T.b_is_order (.cons rfl .nil) pass0 (pa_cons (pv 1) (pa_cons (pv 2) pa_nil))) pe_bl (nomark _))))) (pss_one (ps_ret pe_bl)) pss_nil)
    (pss_cons (ps_asg (pe_tup (pa_cons (pe_call G_take (hr.mono (by decide)) (by rfl) T.g_take T.k_take T.b_take .nil pass0 (pa_cons (pv 0) (pa_cons (pe_op op_powW pe_int pe_int) pa_nil))) (pa_cons (pe_op op_add pe_int (pe_call G_take (hr.mono (by decide)) (by rfl) T.g_take T.k_take T.b_take .nil pass0 (pa_cons (pv 0) (pa_cons (pe_op op_powW pe_int pe_int) pa_nil)))) pa_nil))) (pg_tup rfl (pgs_cons (pg_name (i := 4) sc_is_right.nd rfl (Or.inr rfl)) (pgs_cons (pg_name (i := 5) sc_is_right.nd rfl (Or.inr rfl)) pgs_nil))))
    (pss_cons (ps_set (i := 6) sc_is_right.nd rfl (Or.inr rfl) (pe_callB (cr_sortedSet rfl) (by rfl) T.z_sorted (by decide +kernel) (pa_cons (pe_callTy (cr_setL rfl) (by rfl) T.z_set (by decide +kernel) (pa_cons (pv 1) pa_nil)) pa_nil)))
    (pss_cons (ps_set (i := 7) sc_is_right.nd rfl (Or.inl rfl) (pe_lst (pa_cons (pe_lc (own := [("key", 8)]) (g := gName 8) (tt := tYes) rfl sc_is_right.nd (pi_list (pv 1)) (blkOk_by (N := N_is_right) (sc := defScope s_is_right) (by decide +kernel)) (fun _ _ _ _ _ => pg_name (i := 8) sc_is_right.nd rfl (Or.inl rfl)) (fun _ _ _ _ _ => pts_nil) (fun _ _ _ _ _ => (pe_op op_add (pv 4) (pe_op op_mul (pv 5) (pv 8))))) (pa_cons (pe_lc (own := [("key", 8)]) (g := gName 8) (tt := tYes) rfl sc_is_right.nd (pi_list (pv 1)) (blkOk_by (N := N_is_right) (sc := defScope s_is_right) (by decide +kernel)) (fun _ _ _ _ _ => pg_name (i := 8) sc_is_right.nd rfl (Or.inl rfl)) (fun _ _ _ _ _ => pts_nil) (fun _ _ _ _ _ => (show PE _ _ (tBM K "list" (rIndex K) _ _) from pe_bm PySem.F.plainAttrs_list PySem.F.slot_list_index PySem.F.type_list_index mt_index (pv 6) (pa_cons (pv 8) pa_nil)))) (pa_cons (pe_lc (own := [("key", 8)]) (g := gName 8) (tt := tYes) rfl sc_is_right.nd (pi_list (pv 1)) (blkOk_by (N := N_is_right) (sc := defScope s_is_right) (by decide +kernel)) (fun _ _ _ _ _ => pg_name (i := 8) sc_is_right.nd rfl (Or.inl rfl)) (fun _ _ _ _ _ => pts_nil) (fun _ _ _ _ _ => (pe_op op_powW (pv 8) pe_int))) pa_nil)))))
    (pss_cons (ps_for PassesOwn.never rfl (pi_list (pv 7)) (pg_name (i := 9) sc_is_right.nd rfl (Or.inl rfl))
      (pss_one (ps_if (pt_cmpR (op_neD hr.units) (pe_call (dvs := [.bl false]) G_stable_order (hr.mono (by decide)) (by rfl) T.g_stable_order T.k_stable_order T.b_stable_order (.cons rfl .nil) pass0 (pa_cons (pv 9) pa_nil)) (pv 2) (nomark _)) (pss_one (ps_ret pe_bl)) pss_nil)))
    (pss_cons (ps_set (i := 10) sc_is_right.nd rfl (Or.inl rfl) (pe_callN G_stable_order (hr.mono (by decide)) (by rfl) T.g_stable_order T.k_stable_order T.kn_stable_order_1_reverse pass0 (pa_cons (pv 1) pa_nil) (pk_cons pe_bl pk_nil)))
    (pss_cons (ps_if (PW.pt (pw_or (pt_cmpR (op_neD hr.units) (pe_call (dvs := [.bl false]) G_stable_order (hr.mono (by decide)) (by rfl) T.g_stable_order T.k_stable_order T.b_stable_order (.cons rfl .nil) pass0 (pa_cons (pe_lc (own := [("key", 8)]) (g := gName 8) (tt := tYes) rfl sc_is_right.nd (pi_list (pv 1)) (blkOk_by (N := N_is_right) (sc := defScope s_is_right) (by decide +kernel)) (fun _ _ _ _ _ => pg_name (i := 8) sc_is_right.nd rfl (Or.inl rfl)) (fun _ _ _ _ _ => pts_nil) (fun _ _ _ _ _ => (pe_un un_neg (pv 8)))) pa_nil)) (pv 10) (nomark _)) (pw_or1 (pt_cmpR op_notBl (pe_callN G_is_order (hr.mono (by decide)) (by rfl) T.g_is_order T.k_is_order T.kn_is_order_2_reverse pass0 (pa_cons (pv 1) (pa_cons (pv 10) pa_nil)) (pk_cons pe_bl pk_nil)) pe_bl (nomark _))))) (pss_one (ps_ret pe_bl)) pss_nil)
    (pss_cons (ps_setLc (i := 11) (own := [("item", 12)]) (g := gName 12) (tt := tYes) rfl sc_is_right.nd rfl rfl (sw_true rfl rfl rfl (by decide +kernel)) (pi_list (pe_call (dvs := [.bl false]) G_stable_order (hr.mono (by decide)) (by rfl) T.g_stable_order T.k_stable_order T.b_stable_order (.cons rfl .nil) pass0 (pa_cons (pe_revL (pv 1)) pa_nil))) (blkOk_by (N := N_is_right) (sc := defScope s_is_right) (by decide +kernel)) (fun _ _ _ _ _ => pg_name (i := 12) sc_is_right.nd rfl (Or.inl rfl)) (fun _ _ _ _ _ => pts_nil) (fun _ _ _ _ _ => (pe_op op_sub (pe_op op_sub (pv 3) pe_int) (pv 12))))
    (pss_cons (ps_if (pt_cmpR (op_neD hr.units) (pe_revL (pv 11)) (pv 10) (nomark _)) (pss_one (ps_ret pe_bl)) pss_nil)
    (pss_cons (ps_set (i := 13) sc_is_right.nd rfl (Or.inr rfl) (pe_call (dvs := [.bl false]) G_stable_order (hr.mono (by decide)) (by rfl) T.g_stable_order T.k_stable_order T.b_stable_order (.cons rfl .nil) pass0 (pa_cons (pe_op op_catS (pv 1) (pv 1)) pa_nil)))
    (pss_cons (ps_if (PW.pt (pw_or (pt_cmpR (op_neD hr.units) (pe_lc (own := [("item", 12)]) (g := gName 12)  rfl sc_is_right.nd (pi_list (pv 13)) (blkOk_by (N := N_is_right) (sc := defScope s_is_right) (by decide +kernel)) (fun _ _ _ _ _ => pg_name (i := 12) sc_is_right.nd rfl (Or.inl rfl)) (fun _ _ _ _ _ => (pts_one (pt_cmpR op_lt (pv 12) (pv 3) (nomark _)))) (fun _ _ _ _ _ => (pv 12))) (pv 2) (nomark _)) (pw_or1 (pt_cmpR (op_neD hr.units) (pe_lc (own := [("item", 12)]) (g := gName 12)  rfl sc_is_right.nd (pi_list (pv 13)) (blkOk_by (N := N_is_right) (sc := defScope s_is_right) (by decide +kernel)) (fun _ _ _ _ _ => pg_name (i := 12) sc_is_right.nd rfl (Or.inl rfl)) (fun _ _ _ _ _ => (pts_one (pt_cmpR op_ge (pv 12) (pv 3) (nomark _)))) (fun _ _ _ _ _ => (pe_op op_sub (pv 12) (pv 3)))) (pv 2) (nomark _))))) (pss_one (ps_ret pe_bl)) pss_nil)
    (pss_cons (ps_for PassesOwn.never rfl (pi_list (pe_lc (own := [("k", 15)]) (g := gName 15) (tt := tYes) rfl sc_is_right.nd (pi_range1 (by rfl) T.z_range (pa_cons (pe_op op_sub (pe_op op_mul pe_int (pv 3)) pe_int) pa_nil)) (blkOk_by (N := N_is_right) (sc := defScope s_is_right) (by decide +kernel)) (fun _ _ _ _ _ => pg_name (i := 15) sc_is_right.nd rfl (Or.inl rfl)) (fun _ _ _ _ _ => pts_nil) (fun _ _ _ _ _ => (pe_tup (pa_cons (pe_ix (show IxR _ (rIxL K) from ix_list) (pv 13) (pv 15) (fun _ _ => rfl)) (pa_cons (pe_ix (show IxR _ (rIxL K) from ix_list) (pv 13) (pe_op op_add (pv 15) pe_int) (fun _ _ => rfl)) pa_nil)))))) (pg_tup rfl (pgs_cons (pg_name (i := 14) sc_is_right.nd rfl (Or.inl rfl)) (pgs_cons (pg_name (i := 9) sc_is_right.nd rfl (Or.inl rfl)) pgs_nil)))
      (pss_one (ps_if (pt_val (pe_call G_honest (hr.mono (by decide)) (by rfl) T.g_honest T.k_honest T.b_honest .nil pass0 (pa_cons (pe_op op_catS (pv 1) (pv 1)) (pa_cons (pe_tup (pa_cons (pv 9) (pa_cons (pv 14) pa_nil))) pa_nil)))) (pss_one (ps_ret pe_bl)) pss_nil)))
    (pss_one (ps_ret pe_bl))))))))))))))), ?_⟩
    have h2000 : ks.length ≤ 2000 := by omega
    have el : (ks.map V.int).length = ks.length := List.length_map _
    -- order, many
    refine ⟨_, rfl, m, ks, false, rfl, .inl hm, h2000, fun r os H1 so rN s1 hr1 => ?_⟩
    refine ⟨_, rfl, m, _, rfl, .inl (L2.sq_of (s1 _ _ hm)), ?_⟩
    rw [el]
    refine ⟨by show 2 ≤ sizeLine; decide, fun t ht => ⟨t, _, rfl, L2.st_of upd_same, rfl, _, _, rfl, _, _, rfl, rfl, ?_⟩⟩
    have s2 := s1.trans (same_upd (o := .tup [.ref r, .int (ks.length : Int)]) ht)
    have hr2 := same_upd (o := .tup [.ref r, .int (ks.length : Int)]) ht _ _ hr1
    generalize upd H1 t (.tup [.ref r, .int (ks.length : Int)]) = H2 at s2 hr2 ⊢
    -- sorted(order)
    refine ⟨_, rfl, r, os.map fun (i : Nat) => (i : Int), rfl, by rw [← nV_map]; exact L2.sq_of hr2, fun m1 p1 pm pw p1N => ?_⟩
    have em1 : m1 = (List.range ks.length).map fun (i : Nat) => (i : Int) := sorted_one (pm.trans (so.perm.map _)) pw (range_sorted _)
    rw [em1, ← nV_map]
    have s3 := same_upd (o := .lst (nV (List.range ks.length))) p1N
    have hp3 : upd H2 p1 (.lst (nV (List.range ks.length))) p1 = some (.lst (nV (List.range ks.length))) := upd_same
    generalize upd H2 p1 (.lst (nV (List.range ks.length))) = H3 at s3 hp3 ⊢
    refine ⟨_, rfl, _, rfl, rgOk_nat (by omega), fun p2 p2N => ?_⟩
    rw [rg_nat]
    have s4 := same_upd (o := .lst (nV (List.range ks.length))) p2N
    have hp4 : upd H3 p2 (.lst (nV (List.range ks.length))) p2 = some (.lst (nV (List.range ks.length))) := upd_same
    generalize upd H3 p2 (.lst (nV (List.range ks.length))) = H4 at s4 hp4 ⊢
    refine ⟨_, _, ints_dp (s4 _ _ hp3), ints_dp hp4, shaped_ints _, shaped_ints _, false, by rw [eqv_ints]; rfl, iteF ?_⟩
    have s04 := (s2.trans s3).trans s4
    have hr4 := s4 _ _ (s3 _ _ hr2)
    refine ⟨_, rfl, _, rfl, m, r, ks, os, false, rfl, .inl (s04 _ _ hm), h2000, .inl hr4, so.perm, fun os' H5 so' s5 => ?_⟩
    have eo : os' = os := so'.uniq so
    subst eo
    refine ⟨_, _, rfl, rfl, false, by simp, iteF ?_⟩
    have s05 := s04.trans s5
    have hr5 := s5 _ _ hr4
    have nrp : r ≠ p := hs.ne rN
    -- far, step
    refine ⟨_, rfl, _, _, rfl, rfl, pow9, p, (10 : Int) ^ Int.toNat 9, rfl, hs.same s05, by decide, by decide, fun far x y z f0 f1 x0 => ?_⟩
    have d6 : Dn p H (upd H5 p (.lst [.int x, .int y, .int z])) := ((Dn.refl hs).same s05).trans (.put x0)
    have hr6 : upd H5 p (.lst [.int x, .int y, .int z]) r = some (.lst (nV os')) := by rw [upd_ne nrp]; exact hr5
    generalize upd H5 p (.lst [.int x, .int y, .int z]) = H6 at d6 hr6 ⊢
    refine ⟨_, rfl, _, _, rfl, rfl, pow9, p, (10 : Int) ^ Int.toNat 9, rfl, d6.2, by decide, by decide, fun st x y z t0 t1 x0 => ⟨_, _, rfl, rfl, ?_⟩⟩
    have d7 : Dn p H (upd H6 p (.lst [.int x, .int y, .int z])) := d6.trans (.put x0)
    have hr7 : upd H6 p (.lst [.int x, .int y, .int z]) r = some (.lst (nV os')) := by rw [upd_ne nrp]; exact hr6
    generalize upd H6 p (.lst [.int x, .int y, .int z]) = H7 at d7 hr7 ⊢
    have t9 : st < 1000000000 := t1
    refine ⟨by show 2 ≤ sizeLine; decide, fun t2 ht2 => ⟨t2, _, rfl, L2.st_of upd_same, rfl, _, _, rfl, _, _, rfl, rfl, ?_⟩⟩
    have d8 := d7.new (o := .tup [.int far, .int (1 + st)]) ht2
    have hr8 := same_upd (o := .tup [.int far, .int (1 + st)]) ht2 _ _ hr7
    dsimp only
    generalize upd H7 t2 (.tup [.int far, .int (1 + st)]) = H8 at d8 hr8 ⊢
    have hm8 := d8.1 _ _ nmp hm
    -- ranks
    refine ⟨_, rfl, m, ks, rfl, L2.sq_of hm8, by omega, fun sp c spN hc => ?_⟩
    generalize hSO : SetO _ sp (fun j => decide (j ∈ ks)) c = SO
    refine ⟨sp, _, c, rfl, by rw [← hSO]; exact upd_same, by omega, fun rs rp up mem ln rpN => ?_⟩
    have d9 := (d8.new (o := SO) spN).new (o := .lst (rs.map V.int)) rpN
    have h9r : upd (upd H8 sp SO) rp (.lst (rs.map V.int)) rp = some (.lst (rs.map V.int)) := upd_same
    have hr9 := same_upd (o := .lst (rs.map V.int)) rpN _ _ (same_upd (o := SO) spN _ _ hr8)
    generalize upd (upd H8 sp SO) rp (.lst (rs.map V.int)) = H9 at d9 h9r hr9 ⊢
    have hm9 := d9.1 _ _ nmp hm
    have mem2 : ∀ x, x ∈ ks → x ∈ rs := fun x hx => (mem x).mpr (decide_eq_true hx)
    have lel : ∀ i, i < ks.length → i < sizeLine := fun i hi => Nat.lt_of_le_of_lt (by omega : i ≤ 60) (by decide)
    -- likes
    refine ⟨_, rfl, m, rfl, ⟨_, L2.sq_of hm9⟩, fun D1 hD1 => ?_⟩
    refine lc_list (K := K) (a := m) (xs := ks.map V.int) (fun i H' => Same H9 H' ∧ H' D1 = some (.lst (((ks.take i).map fun z => far + (1 + st) * z).map V.int))) ⟨same_upd hD1, upd_same⟩ (fun i H' _ h => L2.sq_of (h.1 _ _ hm9)) ?_ ?_
    · rintro i v H3 hv ⟨s3, h3⟩
      obtain ⟨z, hz, rfl⟩ := keys_item hv
      refine ⟨rfl, _, rfl, _, rfl, _, rfl, _, _, rfl, rfl, .inl ⟨by omega, by omega⟩, _, _, rfl, rfl, _, h3, ?_, fun b o e => ?_, ?_⟩
      · rw [List.length_map, List.length_map, List.length_take]
        exact lel _ (Nat.lt_of_le_of_lt (Nat.min_le_left _ _) (List.getElem?_eq_some_iff.mp hz).1)
      · rw [upd_ne (ne_of_none e hD1)]
        exact s3 _ _ e
      · rw [upd_same, take_next hz, List.map_append, List.map_append]
        rfl
    rintro H10 ⟨s10, h10⟩
    rw [el, List.take_length] at h10
    have hm10 := s10 _ _ hm9
    refine ⟨_, rfl, m, rfl, ⟨_, L2.sq_of hm10⟩, fun D2 hD2 => ?_⟩
    refine lc_list (K := K) (a := m) (xs := ks.map V.int) (fun i H' => Same H10 H' ∧ H' D2 = some (.lst (((ks.take i).map fun z => ((rs.idxOf z : Nat) : Int)).map V.int))) ⟨same_upd hD2, upd_same⟩ (fun i H' _ h => L2.sq_of (h.1 _ _ hm10)) ?_ ?_
    · rintro i v H3 hv ⟨s3, h3⟩
      obtain ⟨z, hz, rfl⟩ := keys_item hv
      have zr := mem2 z (List.mem_of_getElem? hz)
      have li := List.idxOf_lt_length_of_mem zr
      have gi : (rs.map V.int)[rs.idxOf z]? = some (.int z) := by
        rw [List.getElem?_map, List.getElem?_eq_getElem li, List.getElem_idxOf li]
        rfl
      refine ⟨rfl, _, rfl, .inl ⟨rfl, _, L2.sq_of (s3 _ _ (s10 _ _ h9r))⟩, _, rfl, rp, _, _, rs.idxOf z, .int z, rfl, rfl, L2.sq_of (s3 _ _ (s10 _ _ h9r)), rfl, ?_, gi, beq_self_eq_true z, fun j z' hj hz' => ?_, _, h3, ?_, fun b o e => ?_, ?_⟩
      · rw [List.all_map]
        exact List.all_eq_true.mpr fun _ _ => rfl
      · obtain ⟨y, hy, rfl⟩ := keys_item hz'
        obtain ⟨lj, ej⟩ := List.getElem?_eq_some_iff.mp hy
        have := List.pairwise_iff_getElem.mp up j (rs.idxOf z) lj li hj
        rw [ej, List.getElem_idxOf li] at this
        exact beq_eq_false_iff_ne.mpr (by omega)
      · rw [List.length_map, List.length_map, List.length_take]
        exact lel _ (Nat.lt_of_le_of_lt (Nat.min_le_left _ _) (List.getElem?_eq_some_iff.mp hz).1)
      · rw [upd_ne (ne_of_none e hD2)]
        exact s3 _ _ e
      · rw [upd_same, take_next hz, List.map_append, List.map_append]
        rfl
    rintro H11 ⟨s11, h11⟩
    rw [el, List.take_length] at h11
    have hm11 := s11 _ _ hm10
    refine ⟨_, rfl, m, rfl, ⟨_, L2.sq_of hm11⟩, fun D3 hD3 => ?_⟩
    refine lc_list (K := K) (a := m) (xs := ks.map V.int) (fun i H' => Same H11 H' ∧ H' D3 = some (.lst (((ks.take i).map fun z => z ^ (3 : Int).toNat).map V.int))) ⟨same_upd hD3, upd_same⟩ (fun i H' _ h => L2.sq_of (h.1 _ _ hm11)) ?_ ?_
    · rintro i v H3 hv ⟨s3, h3⟩
      obtain ⟨z, hz, rfl⟩ := keys_item hv
      refine ⟨rfl, _, rfl, _, _, rfl, rfl, bits_small (hB z (List.mem_of_getElem? hz)), _, h3, ?_, fun b o e => ?_, ?_⟩
      · rw [List.length_map, List.length_map, List.length_take]
        exact lel _ (Nat.lt_of_le_of_lt (Nat.min_le_left _ _) (List.getElem?_eq_some_iff.mp hz).1)
      · rw [upd_ne (ne_of_none e hD3)]
        exact s3 _ _ e
      · rw [upd_same, take_next hz, List.map_append, List.map_append]
        rfl
    rintro H12 ⟨s12, h12⟩
    rw [el, List.take_length] at h12
    refine ⟨by show 3 ≤ sizeLine; decide, fun l hl => ?_⟩
    have s13 := same_upd (o := .lst [.ref D1, .ref D2, .ref D3]) hl
    have hl13 : upd H12 l (.lst [.ref D1, .ref D2, .ref D3]) l = some (.lst [.ref D1, .ref D2, .ref D3]) := upd_same
    generalize upd H12 l (.lst [.ref D1, .ref D2, .ref D3]) = H13 at s13 hl13 ⊢
    have k1 := s13 _ _ (s12 _ _ (s11 _ _ h10))
    have k2 := s13 _ _ (s12 _ _ h11)
    have k3 := s13 _ _ h12
    have s913 := ((s10.trans s11).trans s12).trans s13
    have hr13 := s913 _ _ hr9
    have hm13 := s913 _ _ hm9
    have d13 := d9.same s913
    have each : ∀ (i : Nat) (y : V), ([.ref D1, .ref D2, .ref D3] : List V)[i]? = some y → ∃ (t : Addr) (f : Int → Int), y = .ref t ∧ H13 t = some (.lst ((ks.map f).map V.int)) ∧ (∀ x ∈ ks, ∀ y ∈ ks, (x < y ↔ f x < f y)) := by
      intro i y hy
      match i, hy with
      | 0, hy =>
        refine ⟨D1, fun z => far + (1 + st) * z, (Option.some.inj hy).symm, k1, fun x _ y _ => ?_⟩
        have : (1 + st) * x < (1 + st) * y ↔ x < y := Int.mul_lt_mul_left (by omega)
        show x < y ↔ far + (1 + st) * x < far + (1 + st) * y
        omega
      | 1, hy => exact ⟨D2, _, (Option.some.inj hy).symm, k2, fun x hx y hy => idx_mono up (mem2 x hx) (mem2 y hy)⟩
      | 2, hy => exact ⟨D3, _, (Option.some.inj hy).symm, k3, fun x _ y _ => cube_mono x y⟩
      | i + 3, hy => simp at hy
    clear k1 k2 k3 h10 h11 h12 hD1 hD2 hD3 s10 s11 s12 s13
    refine ⟨_, rfl, l, rfl, ⟨_, L2.sq_of hl13⟩, ?_⟩
    refine for_list (K := K) (a := l) (xs := [.ref D1, .ref D2, .ref D3]) (fun i σ H' => (∃ (u8 u9 u10 u11 u12 u13 u14 u15 : Option V), σ = [some (.ref p), some (.ref m), some (.ref r), some (.int (ks.length : Int)), some (.int far), some (.int (1 + st)), some (.ref rp), some (.ref l), u8, u9, u10, u11, u12, u13, u14, u15]) ∧ Same H13 H')
      ⟨⟨_, _, _, _, _, _, _, _, rfl⟩, Same.refl _⟩ (fun i σ H' _ h => L2.sq_of (h.2 _ _ hl13)) ?_ ?_
    · rintro i y σ HA hy ⟨⟨u8, u9, u10, u11, u12, u13, u14, u15, rfl⟩, sA⟩
      obtain ⟨t, f, rfl, hft, mono⟩ := each i y hy
      refine ⟨_, rfl, t, ks.map f, false, rfl, .inl (sA _ _ hft), by rw [List.length_map]; omega, fun g os2 HB so2 gN sB hg => ?_⟩
      have eo : os2 = os' := stab_map so so2 mono
      subst eo
      exact ⟨_, rfl, _, _, ints_dp hg, ints_dp (sB _ _ (sA _ _ hr13)), shaped_ints _, shaped_ints _, false, by rw [eqv_ints]; rfl, iteF ⟨⟨_, _, _, _, _, _, _, _, rfl⟩, sA.trans sB⟩⟩
    rintro σ HA ⟨⟨u8, u9, u10, u11, u12, u13, u14, u15, rfl⟩, sA⟩
    have hmA := sA _ _ hm13
    have hrA := sA _ _ hr13
    have dA := d13.same sA
    -- back
    refine ⟨_, rfl, rfl, rfl, m, ks, true, rfl, .inl hmA, h2000, fun bk ob HB sob bN sB hbB => ?_⟩
    have hmB := sB _ _ hmA
    refine ⟨_, rfl, m, rfl, ⟨_, L2.sq_of hmB⟩, fun D4 hD4 => ?_⟩
    refine lc_list (K := K) (a := m) (xs := ks.map V.int) (fun i H' => Same HB H' ∧ H' D4 = some (.lst (((ks.take i).map fun z => -z).map V.int))) ⟨same_upd hD4, upd_same⟩ (fun i H' _ h => L2.sq_of (h.1 _ _ hmB)) ?_ ?_
    · rintro i v H3 hv ⟨s3, h3⟩
      obtain ⟨z, hz, rfl⟩ := keys_item hv
      refine ⟨rfl, _, rfl, _, rfl, _, h3, ?_, fun b o e => ?_, ?_⟩
      · rw [List.length_map, List.length_map, List.length_take]
        exact lel _ (Nat.lt_of_le_of_lt (Nat.min_le_left _ _) (List.getElem?_eq_some_iff.mp hz).1)
      · rw [upd_ne (ne_of_none e hD4)]
        exact s3 _ _ e
      · rw [upd_same, take_next hz, List.map_append, List.map_append]
        rfl
    rintro HC ⟨sC, hC⟩
    rw [el, List.take_length] at hC
    refine ⟨D4, ks.map fun z => -z, false, rfl, .inl hC, by rw [List.length_map]; omega, fun g os2 HD so2 gN sD hg => ?_⟩
    have eo : os2 = ob := stab_neg sob so2
    subst eo
    have hbD := sD _ _ (sC _ _ hbB)
    refine ⟨_, rfl, _, _, ints_dp hg, ints_dp hbD, shaped_ints _, shaped_ints _, false, by rw [eqv_ints]; rfl, iteF ?_⟩
    have sAD := (sB.trans sC).trans sD
    refine ⟨_, rfl, _, rfl, rfl, rfl, m, bk, ks, os2, true, rfl, .inl (sAD _ _ hmA), h2000, .inl hbD, sob.perm, fun os5 HE so5 sE => ?_⟩
    have eo : os5 = os2 := so5.uniq sob
    subst eo
    refine ⟨_, _, rfl, rfl, false, by simp, iteF ?_⟩
    have sAE := sAD.trans sE
    have hmE := sAE _ _ hmA
    have hbE := sE _ _ hbD
    -- turned
    refine ⟨_, rfl, m, _, rfl, L2.sq_of hmE, fun rv hrv => ?_⟩
    rw [← List.map_reverse]
    have sF := same_upd (o := .lst (ks.reverse.map V.int)) hrv
    have hrvF : upd HE rv (.lst (ks.reverse.map V.int)) rv = some (.lst (ks.reverse.map V.int)) := upd_same
    generalize upd HE rv (.lst (ks.reverse.map V.int)) = HF at sF hrvF ⊢
    refine ⟨rv, ks.reverse, false, rfl, .inl hrvF, by rw [List.length_reverse]; omega, fun g3 os3 HG so3 g3N sG hg3 => ?_⟩
    have l3 : os3.length = ks.length := by rw [so3.len, List.length_reverse]
    have b3 : ∀ i ∈ os3, i < ks.length := fun i hi => by
      have := so3.lt hi
      rw [List.length_reverse] at this
      exact this
    refine ⟨g3, rfl, ⟨_, L2.sq_of hg3⟩, fun D5 hD5 => ?_⟩
    refine lc_list (K := K) (a := g3) (xs := nV os3) (fun i H' => Same HG H' ∧ H' D5 = some (.lst (nV ((os3.take i).map fun k => ks.length - 1 - k)))) ⟨same_upd hD5, upd_same⟩ (fun i H' _ h => L2.sq_of (h.1 _ _ hg3)) ?_ ?_
    · rintro i v H3 hv ⟨s3, h3⟩
      obtain ⟨k, hk, rfl⟩ := nV_item hv
      have lk := b3 k (List.mem_of_getElem? hk)
      refine ⟨rfl, _, rfl, _, _, rfl, rfl, _, rfl, _, _, rfl, rfl, _, h3, ?_, fun b o e => ?_, ?_⟩
      · show (List.map _ _).length < _
        rw [List.length_map, List.length_map, List.length_take]
        exact Nat.lt_of_le_of_lt (by omega : _ ≤ 60) (by decide)
      · rw [upd_ne (ne_of_none e hD5)]
        exact s3 _ _ e
      · have e1 : (ks.length : Int) - 1 - (k : Int) = ((ks.length - 1 - k : Nat) : Int) := by omega
        rw [upd_same, take_next hk, List.map_append]
        show some (HO.lst (_ ++ [V.int ((ks.length : Int) - 1 - (k : Int))])) = some (HO.lst (nV (_ ++ [ks.length - 1 - k])))
        rw [e1]
        exact congrArg (fun z => some (HO.lst z)) (nV_snoc _ _)
    rintro HH ⟨sH, hH⟩
    rw [show (nV os3).length = os3.length from List.length_map _, List.take_length] at hH
    have et := stab_turn sob so3
    generalize hL : os3.map (fun k => ks.length - 1 - k) = L at hH et
    have sEH := (sF.trans sG).trans sH
    refine ⟨_, rfl, D5, _, rfl, L2.sq_of hH, fun rv2 hrv2 => ?_⟩
    rw [nV_rev, et]
    have sI := same_upd (o := .lst (nV os5)) hrv2
    have hI : upd HH rv2 (.lst (nV os5)) rv2 = some (.lst (nV os5)) := upd_same
    generalize upd HH rv2 (.lst (nV os5)) = HI at sI hI ⊢
    have sEI := sEH.trans sI
    refine ⟨_, rfl, _, _, ints_dp hI, ints_dp (sEI _ _ hbE), shaped_ints _, shaped_ints _, false, by rw [eqv_ints]; rfl, iteF ?_⟩
    have sAI := sAE.trans sEI
    have hmI := sAI _ _ hmA
    have hrI := sAI _ _ hrA
    clear hL hH et
    -- twice
    have l2 : (ks ++ ks).length = ks.length + ks.length := List.length_append
    refine ⟨_, rfl, _, rfl, m, m, _, _, rfl, rfl, L2.sq_of hmI, L2.sq_of hmI, ?_, fun db hdb => ?_⟩
    · rw [el]
      exact Nat.le_trans (by omega : _ ≤ 120) (by decide)
    rw [← List.map_append]
    have sJ := same_upd (o := .lst ((ks ++ ks).map V.int)) hdb
    have hdJ : upd HI db (.lst ((ks ++ ks).map V.int)) db = some (.lst ((ks ++ ks).map V.int)) := upd_same
    generalize upd HI db (.lst ((ks ++ ks).map V.int)) = HJ at sJ hdJ ⊢
    refine ⟨db, ks ++ ks, false, rfl, .inl hdJ, by omega, fun tw ot HK sot twN sK htw => ?_⟩
    obtain ⟨ef1, ef2⟩ := stab_twice so sot
    have lt : ot.length = ks.length + ks.length := by rw [sot.len, l2]
    have hrK := sK _ _ (sJ _ _ hrI)
    refine ⟨_, rfl, tw, rfl, ⟨_, L2.sq_of htw⟩, fun D6 hD6 => ?_⟩
    refine lc_list (K := K) (a := tw) (xs := nV ot) (fun i H' => Same HK H' ∧ H' D6 = some (.lst (nV ((ot.take i).filter fun k => decide (k < ks.length))))) ⟨same_upd hD6, upd_same⟩ (fun i H' _ h => L2.sq_of (h.1 _ _ htw)) ?_ ?_
    · rintro i v H3 hv ⟨s3, h3⟩
      obtain ⟨k, hk, rfl⟩ := nV_item hv
      have li := (List.getElem?_eq_some_iff.mp hk).1
      refine ⟨rfl, _, rfl, _, rfl, _, _, rfl, rfl, decide (k < ks.length), congrArg V.bl (decide_eq_decide.mpr (by omega)), ?_⟩
      rw [take_next hk, List.filter_append]
      by_cases c : k < ks.length
      · rw [filt_yes (q := fun k => decide (k < ks.length)) (decide_eq_true c), decide_eq_true c]
        refine iteT ⟨_, rfl, _, h3, ?_, fun b o e => ?_, ?_⟩
        · show (List.map _ _).length < _
          rw [List.length_map]
          exact Nat.lt_of_le_of_lt (Nat.le_trans (List.length_filter_le _ _) (by rw [List.length_take]; omega : _ ≤ 120)) (by decide)
        · rw [upd_ne (ne_of_none e hD6)]
          exact s3 _ _ e
        · rw [upd_same]
          exact congrArg (fun z => some (HO.lst z)) (nV_snoc _ _)
      · rw [filt_no (q := fun k => decide (k < ks.length)) (decide_eq_false c), decide_eq_false c, List.append_nil]
        exact iteF ⟨s3, h3⟩
    rintro HL ⟨sL, hL6⟩
    rw [show (nV ot).length = ot.length from List.length_map _, List.take_length, ef1] at hL6
    refine ⟨_, rfl, _, _, ints_dp hL6, ints_dp (sL _ _ hrK), shaped_ints _, shaped_ints _, false, by rw [eqv_ints]; rfl, iteF ?_⟩
    have htwL := sL _ _ htw
    refine ⟨_, rfl, tw, rfl, ⟨_, L2.sq_of htwL⟩, fun D7 hD7 => ?_⟩
    refine lc_list (K := K) (a := tw) (xs := nV ot) (fun i H' => Same HL H' ∧ H' D7 = some (.lst (nV (((ot.take i).filter fun k => decide (ks.length ≤ k)).map fun k => k - ks.length)))) ⟨same_upd hD7, upd_same⟩ (fun i H' _ h => L2.sq_of (h.1 _ _ htwL)) ?_ ?_
    · rintro i v H3 hv ⟨s3, h3⟩
      obtain ⟨k, hk, rfl⟩ := nV_item hv
      have li := (List.getElem?_eq_some_iff.mp hk).1
      refine ⟨rfl, _, rfl, _, rfl, _, _, rfl, rfl, decide (ks.length ≤ k), congrArg V.bl (decide_eq_decide.mpr (by omega)), ?_⟩
      rw [take_next hk, List.filter_append]
      by_cases c : ks.length ≤ k
      · rw [filt_yes (q := fun k => decide (ks.length ≤ k)) (decide_eq_true c), decide_eq_true c, List.map_append]
        refine iteT ⟨_, rfl, _, rfl, _, _, rfl, rfl, _, h3, ?_, fun b o e => ?_, ?_⟩
        · show (List.map _ _).length < _
          rw [List.length_map, List.length_map]
          exact Nat.lt_of_le_of_lt (Nat.le_trans (List.length_filter_le _ _) (by rw [List.length_take]; omega : _ ≤ 120)) (by decide)
        · rw [upd_ne (ne_of_none e hD7)]
          exact s3 _ _ e
        · have e1 : (k : Int) - (ks.length : Int) = ((k - ks.length : Nat) : Int) := by omega
          rw [upd_same]
          show some (HO.lst (_ ++ [V.int ((k : Int) - (ks.length : Int))])) = some (HO.lst (nV (_ ++ [k - ks.length])))
          rw [e1]
          exact congrArg (fun z => some (HO.lst z)) (nV_snoc _ _)
      · rw [filt_no (q := fun k => decide (ks.length ≤ k)) (decide_eq_false c), decide_eq_false c, List.append_nil]
        exact iteF ⟨s3, h3⟩
    rintro HM ⟨sM, hM⟩
    rw [show (nV ot).length = ot.length from List.length_map _, List.take_length, ef2] at hM
    refine ⟨_, rfl, _, _, ints_dp hM, ints_dp (sM _ _ (sL _ _ hrK)), shaped_ints _, shaped_ints _, false, by rw [eqv_ints]; rfl, iteF ?_⟩
    have sAM := (((sAI.trans sJ).trans sK).trans sL).trans sM
    have htwM := sM _ _ htwL
    have hmM := sAM _ _ hmA
    clear ef1 ef2 hM hL6
    -- neighbours
    have eN : ((2 : Int) * (ks.length : Int) - 1).toNat = 2 * ks.length - 1 := by omega
    refine ⟨_, rfl, _, _, rfl, rfl, .inl ⟨by decide, by decide⟩, _, _, rfl, rfl, _, rfl, by omega, by omega, fun D8 hD8 => ?_⟩
    refine lc_range (lo := 0) (n := ((2 : Int) * (ks.length : Int) - 1).toNat) (fun i H' => Same HM H' ∧ ∃ ts : List V, H' D8 = some (.lst ts) ∧ ts.length = i ∧ ∀ (j : Nat) (v : V), ts[j]? = some v → ∃ (t : Addr) (x y : Nat), v = .ref t ∧ H' t = some (.tup [.int (x : Int), .int (y : Int)]) ∧ ot[j]? = some x ∧ ot[j + 1]? = some y)
      ⟨same_upd hD8, [], upd_same, rfl, fun j v h => by simp at h⟩ ?_ ?_
    · rintro i H3 hi ⟨s3, ts, h3, lts, hts⟩
      rw [eN] at hi
      have la : i < ot.length := by omega
      have lb : i + 1 < ot.length := by omega
      have e0 : (0 : Int) + (i : Int) = (i : Int) := Int.zero_add _
      have e1 : (0 : Int) + (i : Int) + 1 = ((i + 1 : Nat) : Int) := by omega
      have gx : atI (nV ot) ((0 : Int) + (i : Int)) = some (.int ((ot[i] : Nat) : Int)) := by
        rw [e0]
        exact atI_nat (by rw [List.getElem?_map, List.getElem?_eq_getElem la]; rfl)
      have gy : atI (nV ot) ((0 : Int) + (i : Int) + 1) = some (.int ((ot[i + 1] : Nat) : Int)) := by
        rw [e1]
        exact atI_nat (by rw [List.getElem?_map, List.getElem?_eq_getElem lb]; rfl)
      have htw3 := s3 _ _ htwM
      refine ⟨rfl, _, rfl, _, rfl, tw, _, _, _, rfl, rfl, L2.sq_of htw3, gx, _, rfl, _, rfl, _, _, rfl, rfl, tw, _, _, _, rfl, rfl, L2.sq_of htw3, gy, by show 2 ≤ sizeLine; decide, fun t ht => ?_⟩
      have sT := same_upd (o := .tup [.int ((ot[i] : Nat) : Int), .int ((ot[i + 1] : Nat) : Int)]) ht
      have hT : upd H3 t (.tup [.int ((ot[i] : Nat) : Int), .int ((ot[i + 1] : Nat) : Int)]) t = some (.tup [.int ((ot[i] : Nat) : Int), .int ((ot[i + 1] : Nat) : Int)]) := upd_same
      have ntD : t ≠ D8 := fun z => by rw [z, h3] at ht; cases ht
      generalize upd H3 t (.tup [.int ((ot[i] : Nat) : Int), .int ((ot[i + 1] : Nat) : Int)]) = H4 at sT hT ⊢
      have h4 := sT _ _ h3
      have up2 : ∀ {b : Addr} {o : HO}, b ≠ D8 → H4 b = some o → upd H4 D8 (.lst (ts ++ [.ref t])) b = some o := fun n h => by rw [upd_ne n]; exact h
      refine ⟨_, h4, by rw [lts]; exact Nat.lt_of_lt_of_le hi (Nat.le_trans (by omega : _ ≤ 120) (by decide)), fun b o e => ?_, ts ++ [.ref t], upd_same, by rw [List.length_append, lts]; rfl, fun j v hv => ?_⟩
      · exact up2 (fun z => by rw [z, hD8] at e; cases e) (sT _ _ (s3 _ _ e))
      · rcases Nat.lt_or_ge j i with hj | hj
        · rw [List.getElem?_append_left (by omega)] at hv
          obtain ⟨t', x, y, e, h, g1, g2⟩ := hts j v hv
          exact ⟨t', x, y, e, up2 (fun z => by rw [z, h3] at h; cases h) (sT _ _ h), g1, g2⟩
        · rw [List.getElem?_append_right (by omega), lts] at hv
          have ej : j - i = 0 := by
            have := (List.getElem?_eq_some_iff.mp hv).1
            simp only [List.length_singleton] at this
            omega
          rw [ej] at hv
          have ej2 : j = i := by omega
          subst ej2
          exact ⟨t, ot[j], ot[j + 1], (Option.some.inj hv).symm, up2 ntD hT, List.getElem?_eq_getElem la, List.getElem?_eq_getElem lb⟩
    rintro HN ⟨sN, ts, hN, lts, hts⟩
    refine ⟨D8, rfl, ⟨_, L2.sq_of hN⟩, ?_⟩
    have hmN := sN _ _ hmM
    refine for_list (K := K) (a := D8) (xs := ts) (fun i σ H' => (∃ (u2 u3 u4 u5 u6 u7 u8 u9 u10 u11 u12 u13 u14 u15 : Option V), σ = [some (.ref p), some (.ref m), u2, u3, u4, u5, u6, u7, u8, u9, u10, u11, u12, u13, u14, u15]) ∧ Same HN H')
      ⟨⟨_, _, _, _, _, _, _, _, _, _, _, _, _, _, rfl⟩, Same.refl _⟩ (fun i σ H' _ h => L2.sq_of (h.2 _ _ hN)) ?_ ?_
    · rintro i v σ HO hv ⟨⟨u2, u3, u4, u5, u6, u7, u8, u9, u10, u11, u12, u13, u14, u15, rfl⟩, sO⟩
      obtain ⟨t, x, y, rfl, ht, g1, g2⟩ := hts i v hv
      obtain ⟨nxy, hx, hy, nle⟩ := stab_next sot g1 g2
      have hmO := sO _ _ hmN
      refine ⟨t, _, rfl, L2.st_of (sO _ _ ht), rfl, _, _, rfl, _, _, rfl, rfl, ?_⟩
      refine ⟨_, rfl, _, rfl, m, m, _, _, rfl, rfl, L2.sq_of hmO, L2.sq_of hmO, ?_, fun db2 hdb2 => ?_⟩
      · rw [el]
        exact Nat.le_trans (by omega : _ ≤ 120) (by decide)
      rw [← List.map_append]
      have sP := same_upd (o := .lst ((ks ++ ks).map V.int)) hdb2
      have hdP : upd HO db2 (.lst ((ks ++ ks).map V.int)) db2 = some (.lst ((ks ++ ks).map V.int)) := upd_same
      generalize upd HO db2 (.lst ((ks ++ ks).map V.int)) = HP at sP hdP ⊢
      refine ⟨_, rfl, _, rfl, by show 2 ≤ sizeLine; decide, fun qq hqq => ?_⟩
      have sQ := same_upd (o := .tup [.int (y : Int), .int (x : Int)]) hqq
      have gk : ∀ j, j < (ks ++ ks).length → (ks ++ ks)[j]? = some ((ks ++ ks).getD j 0) := fun j hj => by
        rw [List.getD_eq_getElem?_getD, List.getElem?_eq_getElem hj]
        rfl
      refine ⟨db2, qq, ks ++ ks, y, x, _, _, rfl, .inl (sQ _ _ hdP), by omega, upd_same, gk y hy, gk x hx, nxy.symm, fun HR sR => ?_⟩
      refine ⟨false, congrArg V.bl (decide_eq_false nle), iteF ⟨⟨_, _, _, _, _, _, _, _, _, _, _, _, _, _, rfl⟩, ((sO.trans sP).trans sQ).trans sR⟩⟩
    · rintro σ HO ⟨⟨u2, u3, u4, u5, u6, u7, u8, u9, u10, u11, u12, u13, u14, u15, rfl⟩, sO⟩
      exact q _ (((dA.same sAM).same sN).same sO)
end
end K05

namespace K05
open PySem PySem.Spec PyProof.Rows L2
def spLaw (K : PySem.W.Frag) : Sp := fun vs H Q _ => ∃ (a : Addr) (ns : List Int), vs = [.ref a] ∧ SqL K H a (ns.map V.int) ∧ ns.length ≤ 63 ∧ ∀ H', Q (.bl true) H'
theorem cells_int {ns : List Int} {lo hi : Option Int} {x : V} (h : x ∈ cutV (ns.map V.int ++ [V.int 0]) lo hi) : ∃ c, x = .int c := by
  have h := cut_mem h
  rw [List.mem_append] at h
  rcases h with h | h
  · obtain ⟨c, _, e⟩ := List.mem_map.mp h
    exact ⟨c, e.symm⟩
  · exact ⟨0, List.mem_singleton.mp h⟩
section
variable {P : Program} {w : World} {K : PySem.W.Frag} {mg : Str → Option Value} {base : Heap} {a : Ad} {d : Fd}
theorem ok_law (T : Txt K mg a d) : FnOk P w K mg base CX0 8 a.law d.law P_law (spLaw K) := by
  have G_source : FnOk P w K mg base CX0 1 a.source d.source P_source spSource := ok_source T
  have G_keys : FnOk P w K mg base CX0 4 a.keys d.keys P_keys spKeys := ok_keys T
  have G_is_right : FnOk P w K mg base CX0 7 a.is_right d.is_right P_is_right spRight := ok_right T
  refine T.f_law.ok sc_law (fun vs H Q E h => ?_) (fun cdv A outer s H vs Q E hr h => ?_)
  · obtain ⟨p, n, rfl, _⟩ := h
    rfl
  · obtain ⟨sp, ns, rfl, hS, hlen, q⟩ := h
    refine ⟨_, (pss_cons (ps_for PassesOwn.never rfl (pi_list (pe_slice sl_list (pe_op op_catS (pv 0) (pe_lst (pa_cons pe_int pa_nil))) po_none (po_some pe_int))) (pg_name (i := 1) sc_law.nd rfl (Or.inl rfl))
      (pss_cons (ps_set (i := 2) sc_law.nd rfl (Or.inl rfl) (pe_call G_source (hr.mono (by decide)) (by rfl) T.g_source T.k_source T.b_source .nil pass0 (pa_cons (pv 1) pa_nil)))
        (pss_one (ps_if (pt_not (pt_val (pe_call G_is_right (hr.mono (by decide)) (by rfl) T.g_is_right T.k_is_right T.b_is_right .nil pass0 (pa_cons (pv 2) (pa_cons (pe_call G_keys (hr.mono (by decide)) (by rfl) T.g_keys T.k_keys T.b_keys .nil pass0 (pa_cons (pv 2) (pa_cons pe_int pa_nil))) pa_nil))))) (pss_one (ps_ret pe_bl)) pss_nil))))
    (pss_one (ps_ret pe_bl))), ?_⟩
    have sz : (ns.map V.int).length + 1 ≤ sizeLine := by
      rw [List.length_map]
      exact Nat.le_trans (by omega) (by decide : 64 ≤ sizeLine)
    refine ⟨_, rfl, by show 1 ≤ sizeLine; decide, fun b2 hb2 => ⟨sp, b2, _, _, rfl, rfl, (same_upd hb2).seq hS, L2.sq_of upd_same, sz, fun c2 hc2 => ?_⟩⟩
    refine ⟨5, rfl, c2, _, rfl, L2.sq_of upd_same, fun e he => ⟨e, rfl, ⟨_, L2.sq_of upd_same⟩, ?_⟩⟩
    have hE : upd (upd (upd H b2 (.lst [.int 0])) c2 (.lst (ns.map V.int ++ [V.int 0]))) e (.lst (cutV (ns.map V.int ++ [V.int 0]) none (some 5))) e = some (.lst (cutV (ns.map V.int ++ [V.int 0]) none (some 5))) := upd_same
    generalize upd (upd (upd H b2 (.lst [.int 0])) c2 (.lst (ns.map V.int ++ [V.int 0]))) e (.lst (cutV (ns.map V.int ++ [V.int 0]) none (some 5))) = He at hE
    refine for_list (K := K) (a := e) (xs := cutV (ns.map V.int ++ [V.int 0]) none (some 5)) (fun i σ H' => (∃ (u1 u2 : Option V), σ = [some (.ref sp), u1, u2]) ∧ Same He H')
      ⟨⟨_, _, rfl⟩, Same.refl _⟩ (fun i σ H' _ h => L2.sq_of (h.2 _ _ hE)) ?_ ?_
    · rintro i y σ HA hy ⟨⟨u1, u2, rfl⟩, sm⟩
      obtain ⟨cell, rfl⟩ := cells_int (List.mem_of_getElem? hy)
      refine ⟨_, rfl, cell, rfl, fun p x y z x0 hp => ?_⟩
      have sm1 : Same He (upd HA p (.lst [.int x, .int y, .int z])) := sm.trans (same_upd hp)
      have sr1 : Src (upd HA p (.lst [.int x, .int y, .int z])) p := .put x0
      have fp : He p = none := sm.free hp
      generalize upd HA p (.lst [.int x, .int y, .int z]) = HB at sm1 sr1 ⊢
      refine ⟨_, rfl, _, rfl, p, 60, rfl, sr1, by decide, by decide, fun m ks HC lk bd mN dC hm => ?_⟩
      refine ⟨p, m, ks, rfl, dC.2, sr1.ne mN, hm, by omega, bd, fun HD dD => ⟨true, rfl, iteF ⟨⟨_, _, rfl⟩, fun b o h => ?_⟩⟩⟩
      have nb := ne_of_none h fp
      exact dD.1 b o nb (dC.1 b o nb (sm1 _ _ h))
    · rintro σ HA ⟨⟨u1, u2, rfl⟩, sm⟩
      exact q _
end
end K05

namespace K05
open PySem PySem.Spec PyProof.Rows L2
theorem all_mk {l : PySem.W.OpenLaw} {w : World} {K : PySem.W.Frag} {h : Heap} {mg : Str → Option Value} {fa f0 f1 f2 f3 f4 f5 f6 f7 f8 f9 f10 f11 f12 f13 f14 f15 f16 f17 f18 D9 D10 : Addr} (X : K.In h) (G : h.Ns mainGlobals mg) (hfa : mg "law" = some (.ref fa))
    {od0 an0 od1 an1 od2 an2 od3 an3 od4 an4 od5 an5 od6 an6 od7 an7 od8 an8 od9 an9 od10 an10 od11 an11 od12 an12 od13 an13 od14 an14 od15 an15 od16 an16 od17 an17 od18 an18 : Option Addr} {sl0 sl1 sl2 sl3 sl4 sl5 sl6 sl7 sl8 sl9 sl10 sl11 sl12 sl13 sl14 sl15 sl16 sl17 sl18 : Array (Option Value)} {oc0 kV0 dc0 pm0 cd0 ct0 oc1 kV1 dc1 pm1 cd1 ct1 oc2 kV2 dc2 pm2 cd2 ct2 oc3 kV3 dc3 pm3 cd3 ct3 oc4 kV4 dc4 pm4 cd4 ct4 oc5 kV5 dc5 pm5 cd5 ct5 oc6 kV6 dc6 pm6 cd6 ct6 oc7 kV7 dc7 pm7 cd7 ct7 oc8 kV8 dc8 pm8 cd8 ct8 oc9 dc9 pm9 cd9 ct9 oc10 dc10 pm10 cd10 ct10 oc11 kV11 dc11 pm11 cd11 ct11 oc12 kV12 dc12 pm12 cd12 ct12 oc13 kV13 dc13 pm13 cd13 ct13 oc14 kV14 dc14 pm14 cd14 ct14 oc15 kV15 dc15 pm15 cd15 ct15 oc16 kV16 dc16 pm16 cd16 ct16 oc17 kV17 dc17 pm17 cd17 ct17 oc18 kV18 dc18 pm18 cd18 ct18 : Value}
    {T3 : Addr} {odT3 : Option Addr} {oT3 : Value} {nT3 : Nat} {slT3 : Array (Option Value)} {uT3_0 : Tok} {uT3_1 : Tok}
    (a0 : PySem.W.nsIn K mainGlobals "is_integer" = some (some (.ref f0))) (l0 : K.lookup f0 = some ⟨oc0, od0, .func (PySem.W.fnOf "is_integer" "is_integer" (defArgs s_is_integer) (defBody s_is_integer) (defScope s_is_integer) .none kV0 dc0 pm0 an0 cd0 ct0), sl0⟩) (c0 : PySem.W.codeIn K cd0 "is_integer" = true) (k0 : PySem.W.keepIn K (.ref f0) = true)
    (a1 : PySem.W.nsIn K mainGlobals "is_within" = some (some (.ref f1))) (l1 : K.lookup f1 = some ⟨oc1, od1, .func (PySem.W.fnOf "is_within" "is_within" (defArgs s_is_within) (defBody s_is_within) (defScope s_is_within) .none kV1 dc1 pm1 an1 cd1 ct1), sl1⟩) (c1 : PySem.W.codeIn K cd1 "is_within" = true) (k1 : PySem.W.keepIn K (.ref f1) = true)
    (a2 : PySem.W.nsIn K mainGlobals "is_item" = some (some (.ref f2))) (l2 : K.lookup f2 = some ⟨oc2, od2, .func (PySem.W.fnOf "is_item" "is_item" (defArgs s_is_item) (defBody s_is_item) (defScope s_is_item) .none kV2 dc2 pm2 an2 cd2 ct2), sl2⟩) (c2 : PySem.W.codeIn K cd2 "is_item" = true) (k2 : PySem.W.keepIn K (.ref f2) = true)
    (a3 : PySem.W.nsIn K mainGlobals "check_keys" = some (some (.ref f3))) (l3 : K.lookup f3 = some ⟨oc3, od3, .func (PySem.W.fnOf "check_keys" "check_keys" (defArgs s_check_keys) (defBody s_check_keys) (defScope s_check_keys) (.ref T3) kV3 dc3 pm3 an3 cd3 ct3), sl3⟩) (c3 : PySem.W.codeIn K cd3 "check_keys" = true) (k3 : PySem.W.keepIn K (.ref f3) = true)
    (t3 : K.lookup T3 = some ⟨oT3, odT3, .seq #[.int 0 uT3_0, .int 2000 uT3_1] nT3, slT3⟩)
    (a4 : PySem.W.nsIn K mainGlobals "is_question" = some (some (.ref f4))) (l4 : K.lookup f4 = some ⟨oc4, od4, .func (PySem.W.fnOf "is_question" "is_question" (defArgs s_is_question) (defBody s_is_question) (defScope s_is_question) .none kV4 dc4 pm4 an4 cd4 ct4), sl4⟩) (c4 : PySem.W.codeIn K cd4 "is_question" = true) (k4 : PySem.W.keepIn K (.ref f4) = true)
    (a5 : PySem.W.nsIn K mainGlobals "check_question" = some (some (.ref f5))) (l5 : K.lookup f5 = some ⟨oc5, od5, .func (PySem.W.fnOf "check_question" "check_question" (defArgs s_check_question) (defBody s_check_question) (defScope s_check_question) .none kV5 dc5 pm5 an5 cd5 ct5), sl5⟩) (c5 : PySem.W.codeIn K cd5 "check_question" = true) (k5 : PySem.W.keepIn K (.ref f5) = true)
    (a6 : PySem.W.nsIn K mainGlobals "check_order" = some (some (.ref f6))) (l6 : K.lookup f6 = some ⟨oc6, od6, .func (PySem.W.fnOf "check_order" "check_order" (defArgs s_check_order) (defBody s_check_order) (defScope s_check_order) .none kV6 dc6 pm6 an6 cd6 ct6), sl6⟩) (c6 : PySem.W.codeIn K cd6 "check_order" = true) (k6 : PySem.W.keepIn K (.ref f6) = true)
    (a7 : PySem.W.nsIn K mainGlobals "check_bool" = some (some (.ref f7))) (l7 : K.lookup f7 = some ⟨oc7, od7, .func (PySem.W.fnOf "check_bool" "check_bool" (defArgs s_check_bool) (defBody s_check_bool) (defScope s_check_bool) .none kV7 dc7 pm7 an7 cd7 ct7), sl7⟩) (c7 : PySem.W.codeIn K cd7 "check_bool" = true) (k7 : PySem.W.keepIn K (.ref f7) = true)
    (a8 : PySem.W.nsIn K mainGlobals "honest" = some (some (.ref f8))) (l8 : K.lookup f8 = some ⟨oc8, od8, .func (PySem.W.fnOf "honest" "honest" (defArgs s_honest) (defBody s_honest) (defScope s_honest) .none kV8 dc8 pm8 an8 cd8 ct8), sl8⟩) (c8 : PySem.W.codeIn K cd8 "honest" = true) (k8 : PySem.W.keepIn K (.ref f8) = true)
    (a9 : PySem.W.nsIn K mainGlobals "stable_order" = some (some (.ref f9))) (l9 : K.lookup f9 = some ⟨oc9, od9, .func (PySem.W.fnOf "stable_order" "stable_order" (defArgs s_stable_order) (defBody s_stable_order) (defScope s_stable_order) .none (.ref D9) dc9 pm9 an9 cd9 ct9), sl9⟩) (c9 : PySem.W.codeIn K cd9 "stable_order" = true) (k9 : PySem.W.keepIn K (.ref f9) = true)
    (n9_reverse : PySem.W.nsIn K D9 "reverse" = some (some (.bool false)))
    (a10 : PySem.W.nsIn K mainGlobals "is_order" = some (some (.ref f10))) (l10 : K.lookup f10 = some ⟨oc10, od10, .func (PySem.W.fnOf "is_order" "is_order" (defArgs s_is_order) (defBody s_is_order) (defScope s_is_order) .none (.ref D10) dc10 pm10 an10 cd10 ct10), sl10⟩) (c10 : PySem.W.codeIn K cd10 "is_order" = true) (k10 : PySem.W.keepIn K (.ref f10) = true)
    (n10_reverse : PySem.W.nsIn K D10 "reverse" = some (some (.bool false)))
    (a11 : PySem.W.nsIn K mainGlobals "_stable" = some (some (.ref f11))) (l11 : K.lookup f11 = some ⟨oc11, od11, .func (PySem.W.fnOf "_stable" "_stable" (defArgs s_stable) (defBody s_stable) (defScope s_stable) .none kV11 dc11 pm11 an11 cd11 ct11), sl11⟩) (c11 : PySem.W.codeIn K cd11 "_stable" = true) (k11 : PySem.W.keepIn K (.ref f11) = true)
    (a12 : PySem.W.nsIn K mainGlobals "_law_mixed" = some (some (.ref f12))) (l12 : K.lookup f12 = some ⟨oc12, od12, .func (PySem.W.fnOf "_law_mixed" "_law_mixed" (defArgs s_mixed) (defBody s_mixed) (defScope s_mixed) .none kV12 dc12 pm12 an12 cd12 ct12), sl12⟩) (c12 : PySem.W.codeIn K cd12 "_law_mixed" = true) (k12 : PySem.W.keepIn K (.ref f12) = true)
    (a13 : PySem.W.nsIn K mainGlobals "_law_source" = some (some (.ref f13))) (l13 : K.lookup f13 = some ⟨oc13, od13, .func (PySem.W.fnOf "_law_source" "_law_source" (defArgs s_source) (defBody s_source) (defScope s_source) .none kV13 dc13 pm13 an13 cd13 ct13), sl13⟩) (c13 : PySem.W.codeIn K cd13 "_law_source" = true) (k13 : PySem.W.keepIn K (.ref f13) = true)
    (a14 : PySem.W.nsIn K mainGlobals "_law_take" = some (some (.ref f14))) (l14 : K.lookup f14 = some ⟨oc14, od14, .func (PySem.W.fnOf "_law_take" "_law_take" (defArgs s_take) (defBody s_take) (defScope s_take) .none kV14 dc14 pm14 an14 cd14 ct14), sl14⟩) (c14 : PySem.W.codeIn K cd14 "_law_take" = true) (k14 : PySem.W.keepIn K (.ref f14) = true)
    (a15 : PySem.W.nsIn K mainGlobals "_law_part" = some (some (.ref f15))) (l15 : K.lookup f15 = some ⟨oc15, od15, .func (PySem.W.fnOf "_law_part" "_law_part" (defArgs s_part) (defBody s_part) (defScope s_part) .none kV15 dc15 pm15 an15 cd15 ct15), sl15⟩) (c15 : PySem.W.codeIn K cd15 "_law_part" = true) (k15 : PySem.W.keepIn K (.ref f15) = true)
    (a16 : PySem.W.nsIn K mainGlobals "_law_keys" = some (some (.ref f16))) (l16 : K.lookup f16 = some ⟨oc16, od16, .func (PySem.W.fnOf "_law_keys" "_law_keys" (defArgs s_keys) (defBody s_keys) (defScope s_keys) .none kV16 dc16 pm16 an16 cd16 ct16), sl16⟩) (c16 : PySem.W.codeIn K cd16 "_law_keys" = true) (k16 : PySem.W.keepIn K (.ref f16) = true)
    (a17 : PySem.W.nsIn K mainGlobals "_law_is_right" = some (some (.ref f17))) (l17 : K.lookup f17 = some ⟨oc17, od17, .func (PySem.W.fnOf "_law_is_right" "_law_is_right" (defArgs s_is_right) (defBody s_is_right) (defScope s_is_right) .none kV17 dc17 pm17 an17 cd17 ct17), sl17⟩) (c17 : PySem.W.codeIn K cd17 "_law_is_right" = true) (k17 : PySem.W.keepIn K (.ref f17) = true)
    (a18 : PySem.W.nsIn K mainGlobals "law" = some (some (.ref f18))) (l18 : K.lookup f18 = some ⟨oc18, od18, .func (PySem.W.fnOf "law" "law" (defArgs s_law) (defBody s_law) (defScope s_law) .none kV18 dc18 pm18 an18 cd18 ct18), sl18⟩) (c18 : PySem.W.codeIn K cd18 "law" = true) (k18 : PySem.W.keepIn K (.ref f18) = true)
    (z_abs : PySem.W.nsIn K mainGlobals "abs" = some none)
    (z_bool : PySem.W.nsIn K mainGlobals "bool" = some none)
    (z_enumerate : PySem.W.nsIn K mainGlobals "enumerate" = some none)
    (z_int : PySem.W.nsIn K mainGlobals "int" = some none)
    (z_isinstance : PySem.W.nsIn K mainGlobals "isinstance" = some none)
    (z_len : PySem.W.nsIn K mainGlobals "len" = some none)
    (z_list : PySem.W.nsIn K mainGlobals "list" = some none)
    (z_range : PySem.W.nsIn K mainGlobals "range" = some none)
    (z_set : PySem.W.nsIn K mainGlobals "set" = some none)
    (z_sorted : PySem.W.nsIn K mainGlobals "sorted" = some none)
    (z_tuple : PySem.W.nsIn K mainGlobals "tuple" = some none)
    : ∃ fd : FuncData, (∀ (s : Shared) (v : Value), BindsTo s fd ⟨[v], []⟩ [("script", v)]) ∧ ∀ base : Heap, K.In base → base.Ns mainGlobals mg → FnOk l.prog w K mg base CX0 8 fa fd ["script"] (spLaw K) := by
  have e : fa = f18 := by
    have e := hfa.symm.trans (PySem.W.mg_of X G a18)
    cases e
    rfl
  have F0 := fun_mk (st := s_is_integer) l0 c0 k0
  have B0 := F0.binds (ps := P_is_integer) fun _ _ _ _ _ _ us hl => match us, hl with | [_], _ => rfl
  have F1 := fun_mk (st := s_is_within) l1 c1 k1
  have B1 := F1.binds (ps := P_is_within) fun _ _ _ _ _ _ us hl => match us, hl with | [_, _, _], _ => rfl
  have F2 := fun_mk (st := s_is_item) l2 c2 k2
  have B2 := F2.binds (ps := P_is_item) fun _ _ _ _ _ _ us hl => match us, hl with | [_, _], _ => rfl
  have F3 := funV_mk (st := s_check_keys) l3 c3
  have B3_0 := bindsV (st := s_check_keys) (dvs := [.int 0, .int 2000]) (its := [.int 0 uT3_0, .int 2000 uT3_1]) (ps := P_check_keys) l3 c3 k3 t3 (.cons ⟨_, rfl⟩ (.cons ⟨_, rfl⟩ .nil)) 3 2 (List.cons_ne_nil _ _) rfl fun _ _ _ _ _ _ _ us its h1 h2 => match us, its, h1, h2 with | [_, _, _], [_, _], _, _ => ⟨_, rfl, rfl⟩
  have B3_2 := bindsV (st := s_check_keys) (dvs := [.int 0, .int 2000]) (its := [.int 0 uT3_0, .int 2000 uT3_1]) (ps := P_check_keys) l3 c3 k3 t3 (.cons ⟨_, rfl⟩ (.cons ⟨_, rfl⟩ .nil)) 1 0 (List.cons_ne_nil _ _) rfl fun _ _ _ _ _ _ _ us its h1 h2 => match us, its, h1, h2 with | [_], [_, _], _, _ => ⟨_, rfl, rfl⟩
  obtain ⟨ds3, rds3, bds3⟩ := B3_0
  have F4 := fun_mk (st := s_is_question) l4 c4 k4
  have B4 := F4.binds (ps := P_is_question) fun _ _ _ _ _ _ us hl => match us, hl with | [_, _], _ => rfl
  have F5 := fun_mk (st := s_check_question) l5 c5 k5
  have B5 := F5.binds (ps := P_check_question) fun _ _ _ _ _ _ us hl => match us, hl with | [_, _], _ => rfl
  have F6 := fun_mk (st := s_check_order) l6 c6 k6
  have B6 := F6.binds (ps := P_check_order) fun _ _ _ _ _ _ us hl => match us, hl with | [_, _], _ => rfl
  have F7 := fun_mk (st := s_check_bool) l7 c7 k7
  have B7 := F7.binds (ps := P_check_bool) fun _ _ _ _ _ _ us hl => match us, hl with | [_, _], _ => rfl
  have F8 := fun_mk (st := s_honest) l8 c8 k8
  have B8 := F8.binds (ps := P_honest) fun _ _ _ _ _ _ us hl => match us, hl with | [_, _], _ => rfl
  have F9 := fun_mk (st := s_stable_order) l9 c9 k9
  have B9 := kwb_stable_order (D := D9) l9 c9 k9 n9_reverse
  have F10 := fun_mk (st := s_is_order) l10 c10 k10
  have B10 := kwb_is_order (D := D10) l10 c10 k10 n10_reverse
  have F11 := fun_mk (st := s_stable) l11 c11 k11
  have B11 := F11.binds (ps := P_stable) fun _ _ _ _ _ _ us hl => match us, hl with | [_, _], _ => rfl
  have F12 := fun_mk (st := s_mixed) l12 c12 k12
  have B12 := F12.binds (ps := P_mixed) fun _ _ _ _ _ _ us hl => match us, hl with | [_, _], _ => rfl
  have F13 := fun_mk (st := s_source) l13 c13 k13
  have B13 := F13.binds (ps := P_source) fun _ _ _ _ _ _ us hl => match us, hl with | [_], _ => rfl
  have F14 := fun_mk (st := s_take) l14 c14 k14
  have B14 := F14.binds (ps := P_take) fun _ _ _ _ _ _ us hl => match us, hl with | [_, _], _ => rfl
  have F15 := fun_mk (st := s_part) l15 c15 k15
  have B15 := F15.binds (ps := P_part) fun _ _ _ _ _ _ us hl => match us, hl with | [_, _], _ => rfl
  have F16 := fun_mk (st := s_keys) l16 c16 k16
  have B16 := F16.binds (ps := P_keys) fun _ _ _ _ _ _ us hl => match us, hl with | [_, _], _ => rfl
  have F17 := fun_mk (st := s_is_right) l17 c17 k17
  have B17 := F17.binds (ps := P_is_right) fun _ _ _ _ _ _ us hl => match us, hl with | [_, _], _ => rfl
  have F18 := fun_mk (st := s_law) l18 c18 k18
  have B18 := F18.binds (ps := P_law) fun _ _ _ _ _ _ us hl => match us, hl with | [_], _ => rfl
  have T : Txt K mg ⟨f0, f1, f2, f3, f4, f5, f6, f7, f8, f9, f10, f11, f12, f13, f14, f15, f16, f17, f18⟩ ⟨_, _, _, _, _, _, _, _, _, _, _, _, _, _, _, _, _, _, _⟩ := ⟨PySem.W.mg_of X G a0, k0, F0, B0, PySem.W.mg_of X G a1, k1, F1, B1, PySem.W.mg_of X G a2, k2, F2, B2, PySem.W.mg_of X G a3, k3, F3, B3_2, Binds.none rds3 bds3, PySem.W.mg_of X G a4, k4, F4, B4, PySem.W.mg_of X G a5, k5, F5, B5, PySem.W.mg_of X G a6, k6, F6, B6, PySem.W.mg_of X G a7, k7, F7, B7, PySem.W.mg_of X G a8, k8, F8, B8, PySem.W.mg_of X G a9, k9, F9, B9, kbn_stable_order_1_reverse F9, PySem.W.mg_of X G a10, k10, F10, B10, kbn_is_order_2_reverse F10, PySem.W.mg_of X G a11, k11, F11, B11, PySem.W.mg_of X G a12, k12, F12, B12, PySem.W.mg_of X G a13, k13, F13, B13, PySem.W.mg_of X G a14, k14, F14, B14, PySem.W.mg_of X G a15, k15, F15, B15, PySem.W.mg_of X G a16, k16, F16, B16, PySem.W.mg_of X G a17, k17, F17, B17, PySem.W.mg_of X G a18, k18, F18, B18, PySem.W.mg_none_of X G z_abs, PySem.W.mg_none_of X G z_bool, PySem.W.mg_none_of X G z_enumerate, PySem.W.mg_none_of X G z_int, PySem.W.mg_none_of X G z_isinstance, PySem.W.mg_none_of X G z_len, PySem.W.mg_none_of X G z_list, PySem.W.mg_none_of X G z_range, PySem.W.mg_none_of X G z_set, PySem.W.mg_none_of X G z_sorted, PySem.W.mg_none_of X G z_tuple⟩
  exact ⟨_, fun s v => .of_eq rfl, fun base _ _ => by rw [e]; exact ok_law T⟩
end K05
open PySem PySem.W PyProof.Rows
set_option maxHeartbeats 0 in
theorem PySem.Challenge.cw_askedorder_k05_whole_orders_and_keys_holds : PySem.Challenge.rw_askedorder_k05_whole_orders_and_keys.Holds := by
  w_on; o_law; k_head; (case hw => w_witness2)
  k_fill
  refine L2.walk_of (l := PySem.Challenge.rw_askedorder_k05_whole_orders_and_keys) (n := 63) (k := 8) (x := "script") (CX := fun _ => L2.CX0) (sp := fun w => K05.spLaw _) rfl (by decide) rfl ⟨rfl, by decide, by decide⟩ (fun w h Y => PySem.W.kIn_of Y) ?F (fun _ _ a ns hl _ hS => ⟨a, ns, rfl, hS, hl, fun _ => rfl⟩) (fun _ _ _ _ _ h => h)
  case F =>
    intro w mg fa h KX G hmg
    refine' K05.all_mk KX G hmg ?a0 ?l0 ?c0 ?k0 ?a1 ?l1 ?c1 ?k1 ?a2 ?l2 ?c2 ?k2 ?a3 ?l3 ?c3 ?k3 ?t3 ?a4 ?l4 ?c4 ?k4 ?a5 ?l5 ?c5 ?k5 ?a6 ?l6 ?c6 ?k6 ?a7 ?l7 ?c7 ?k7 ?a8 ?l8 ?c8 ?k8 ?a9 ?l9 ?c9 ?k9 ?n9_reverse ?a10 ?l10 ?c10 ?k10 ?n10_reverse ?a11 ?l11 ?c11 ?k11 ?a12 ?l12 ?c12 ?k12 ?a13 ?l13 ?c13 ?k13 ?a14 ?l14 ?c14 ?k14 ?a15 ?l15 ?c15 ?k15 ?a16 ?l16 ?c16 ?k16 ?a17 ?l17 ?c17 ?k17 ?a18 ?l18 ?c18 ?k18 ?z_abs ?z_bool ?z_enumerate ?z_int ?z_isinstance ?z_len ?z_list ?z_range ?z_set ?z_sorted ?z_tuple
    (case a0 => k_is); (case l0 => k_is); (case c0 => k_is); (case k0 => k_is); (case a1 => k_is); (case l1 => k_is)
    (case c1 => k_is); (case k1 => k_is); (case a2 => k_is); (case l2 => k_is); (case c2 => k_is); (case k2 => k_is)
    (case a3 => k_is); (case l3 => k_is); (case c3 => k_is); (case k3 => k_is); (case t3 => k_is); (case a4 => k_is)
    (case l4 => k_is); (case c4 => k_is); (case k4 => k_is); (case a5 => k_is); (case l5 => k_is); (case c5 => k_is)
    (case k5 => k_is); (case a6 => k_is); (case l6 => k_is); (case c6 => k_is); (case k6 => k_is); (case a7 => k_is)
    (case l7 => k_is); (case c7 => k_is); (case k7 => k_is); (case a8 => k_is); (case l8 => k_is); (case c8 => k_is)
    (case k8 => k_is); (case a9 => k_is); (case l9 => k_is); (case c9 => k_is); (case k9 => k_is); (case n9_reverse => k_is)
    (case a10 => k_is); (case l10 => k_is); (case c10 => k_is); (case k10 => k_is); (case n10_reverse => k_is); (case a11 => k_is)
    (case l11 => k_is); (case c11 => k_is); (case k11 => k_is); (case a12 => k_is); (case l12 => k_is); (case c12 => k_is)
    (case k12 => k_is); (case a13 => k_is); (case l13 => k_is); (case c13 => k_is); (case k13 => k_is); (case a14 => k_is)
    (case l14 => k_is); (case c14 => k_is); (case k14 => k_is); (case a15 => k_is); (case l15 => k_is); (case c15 => k_is)
    (case k15 => k_is); (case a16 => k_is); (case l16 => k_is); (case c16 => k_is); (case k16 => k_is); (case a17 => k_is)
    (case l17 => k_is); (case c17 => k_is); (case k17 => k_is); (case a18 => k_is); (case l18 => k_is); (case c18 => k_is)
    (case k18 => k_is); (case z_abs => k_is); (case z_bool => k_is); (case z_enumerate => k_is); (case z_int => k_is); (case z_isinstance => k_is)
    (case z_len => k_is); (case z_list => k_is); (case z_range => k_is); (case z_set => k_is); (case z_sorted => k_is); (case z_tuple => k_is)


