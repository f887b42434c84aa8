import PyProof.Rows.All
import Wide.All
import OpenK.AllK
import Wide.FinOn
import ExtExc
import ExtDef
import ExtEnds
import ExtIt
import ExtLen
import ExtTold
import ExtStabM
import ExtSum
import ExtLeap2
import ExtLike
import HandS.Conv
import HandS.Small
import HandS.Style
import HandS.Codes
import Draw
import KE.KNestM
import HandS.EndTab
import PySem.Challenge.RW_askedorder_k25_whole_leaps_of_related_ro
set_option Elab.async false
set_option linter.all false
set_option maxRecDepth 100000
set_option maxHeartbeats 8000000
namespace K25
open PySem PySem.Spec PyProof.Rows L2
def topS (i : Nat) : Stmt := PySem.Challenge.pw_askedorder_k25_whole_leaps_of_related_ro.main.body.getD i (.Pass ⟨0, 0, 0, 0⟩)
abbrev s_is_integer : Stmt := topS 7
abbrev N_is_integer : List Str := ["value"]
abbrev P_is_integer : List Str := ["value"]
theorem sc_is_integer : FnScope N_is_integer P_is_integer (defScope s_is_integer) := ⟨rfl, rfl, rfl, by decide +kernel, rfl, by decide +kernel, by decide +kernel⟩
abbrev s_is_within : Stmt := topS 8
abbrev N_is_within : List Str := ["value", "least", "most"]
abbrev P_is_within : List Str := ["value", "least", "most"]
theorem sc_is_within : FnScope N_is_within P_is_within (defScope s_is_within) := ⟨rfl, rfl, rfl, by decide +kernel, rfl, by decide +kernel, by decide +kernel⟩
abbrev s_check_keys : Stmt := topS 9
abbrev N_check_keys : List Str := ["keys", "fewest", "most", "index", "key"]
abbrev P_check_keys : List Str := ["keys", "fewest", "most"]
theorem sc_check_keys : FnScope N_check_keys P_check_keys (defScope s_check_keys) := ⟨rfl, rfl, rfl, by decide +kernel, rfl, by decide +kernel, by decide +kernel⟩
abbrev s_check_number : Stmt := topS 10
abbrev N_check_number : List Str := ["name", "value", "least", "most"]
abbrev P_check_number : List Str := ["name", "value", "least", "most"]
theorem sc_check_number : FnScope N_check_number P_check_number (defScope s_check_number) := ⟨rfl, rfl, rfl, by decide +kernel, rfl, by decide +kernel, by decide +kernel⟩
abbrev s_Leaper___init__ : Stmt := inClass (topS 15) 0
abbrev N_Leaper___init__ : List Str := ["self", "many", "hint"]
abbrev P_Leaper___init__ : List Str := ["self", "many", "hint"]
theorem sc_Leaper___init__ : FnScope N_Leaper___init__ P_Leaper___init__ (defScope s_Leaper___init__) := ⟨rfl, rfl, rfl, by decide +kernel, rfl, by decide +kernel, by decide +kernel⟩
abbrev s_Leaper_take : Stmt := inClass (topS 15) 1
abbrev N_Leaper_take : List Str := ["self", "is_low"]
abbrev P_Leaper_take : List Str := ["self", "is_low"]
theorem sc_Leaper_take : FnScope N_Leaper_take P_Leaper_take (defScope s_Leaper_take) := ⟨rfl, rfl, rfl, by decide +kernel, rfl, by decide +kernel, by decide +kernel⟩
abbrev s_Leaper__begin_stepping : Stmt := inClass (topS 15) 2
abbrev N_Leaper__begin_stepping : List Str := ["self", "is_low"]
abbrev P_Leaper__begin_stepping : List Str := ["self", "is_low"]
theorem sc_Leaper__begin_stepping : FnScope N_Leaper__begin_stepping P_Leaper__begin_stepping (defScope s_Leaper__begin_stepping) := ⟨rfl, rfl, rfl, by decide +kernel, rfl, by decide +kernel, by decide +kernel⟩
abbrev s_Leaper__take_step : Stmt := inClass (topS 15) 3
abbrev N_Leaper__take_step : List Str := ["self", "is_low"]
abbrev P_Leaper__take_step : List Str := ["self", "is_low"]
theorem sc_Leaper__take_step : FnScope N_Leaper__take_step P_Leaper__take_step (defScope s_Leaper__take_step) := ⟨rfl, rfl, rfl, by decide +kernel, rfl, by decide +kernel, by decide +kernel⟩
abbrev s_Leaper__step_or_halve : Stmt := inClass (topS 15) 4
abbrev N_Leaper__step_or_halve : List Str := ["self"]
abbrev P_Leaper__step_or_halve : List Str := ["self"]
theorem sc_Leaper__step_or_halve : FnScope N_Leaper__step_or_halve P_Leaper__step_or_halve (defScope s_Leaper__step_or_halve) := ⟨rfl, rfl, rfl, by decide +kernel, rfl, by decide +kernel, by decide +kernel⟩
abbrev s_Leaper__begin_halving : Stmt := inClass (topS 15) 5
abbrev N_Leaper__begin_halving : List Str := ["self"]
abbrev P_Leaper__begin_halving : List Str := ["self"]
theorem sc_Leaper__begin_halving : FnScope N_Leaper__begin_halving P_Leaper__begin_halving (defScope s_Leaper__begin_halving) := ⟨rfl, rfl, rfl, by decide +kernel, rfl, by decide +kernel, by decide +kernel⟩
abbrev s_Leaper__take_half : Stmt := inClass (topS 15) 6
abbrev N_Leaper__take_half : List Str := ["self", "is_low"]
abbrev P_Leaper__take_half : List Str := ["self", "is_low"]
theorem sc_Leaper__take_half : FnScope N_Leaper__take_half P_Leaper__take_half (defScope s_Leaper__take_half) := ⟨rfl, rfl, rfl, by decide +kernel, rfl, by decide +kernel, by decide +kernel⟩
abbrev s_Leaper__halve : Stmt := inClass (topS 15) 7
abbrev N_Leaper__halve : List Str := ["self"]
abbrev P_Leaper__halve : List Str := ["self"]
theorem sc_Leaper__halve : FnScope N_Leaper__halve P_Leaper__halve (defScope s_Leaper__halve) := ⟨rfl, rfl, rfl, by decide +kernel, rfl, by decide +kernel, by decide +kernel⟩
abbrev s_leap : Stmt := topS 16
abbrev N_leap : List Str := ["many", "hint", "is_low", "leaper", "asked"]
abbrev P_leap : List Str := ["many", "hint", "is_low"]
theorem sc_leap : FnScope N_leap P_leap (defScope s_leap) := ⟨rfl, rfl, rfl, by decide +kernel, rfl, by decide +kernel, by decide +kernel⟩
abbrev s_places_of_leap : Stmt := topS 17
abbrev N_places_of_leap : List Str := ["many", "hint", "place", "_", "asked"]
abbrev P_places_of_leap : List Str := ["many", "hint", "place"]
theorem sc_places_of_leap : FnScope N_places_of_leap P_places_of_leap (defScope s_places_of_leap) := ⟨rfl, rfl, rfl, by decide +kernel, rfl, by decide +kernel, by decide +kernel⟩
abbrev s_before : Stmt := topS 19
abbrev N_before : List Str := ["key", "keys", "hint"]
abbrev P_before : List Str := ["key", "keys", "hint"]
theorem sc_before : FnScope N_before P_before (defScope s_before) := ⟨rfl, rfl, rfl, by decide +kernel, rfl, by decide +kernel, by decide +kernel⟩
abbrev s_behind : Stmt := topS 20
abbrev N_behind : List Str := ["key", "keys", "hint"]
abbrev P_behind : List Str := ["key", "keys", "hint"]
theorem sc_behind : FnScope N_behind P_behind (defScope s_behind) := ⟨rfl, rfl, rfl, by decide +kernel, rfl, by decide +kernel, by decide +kernel⟩
abbrev s_leap_places : Stmt := topS 21
abbrev N_leap_places : List Str := ["n", "hint", "place"]
abbrev P_leap_places : List Str := ["n", "hint", "place"]
theorem sc_leap_places : FnScope N_leap_places P_leap_places (defScope s_leap_places) := ⟨rfl, rfl, rfl, by decide +kernel, rfl, by decide +kernel, by decide +kernel⟩
abbrev s_check_leap : Stmt := topS 22
abbrev N_check_leap : List Str := ["key", "keys", "hint"]
abbrev P_check_leap : List Str := ["key", "keys", "hint"]
theorem sc_check_leap : FnScope N_check_leap P_check_leap (defScope s_check_leap) := ⟨rfl, rfl, rfl, by decide +kernel, rfl, by decide +kernel, by decide +kernel⟩
abbrev s_check_row : Stmt := topS 23
abbrev N_check_row : List Str := ["n", "hint"]
abbrev P_check_row : List Str := ["n", "hint"]
theorem sc_check_row : FnScope N_check_row P_check_row (defScope s_check_row) := ⟨rfl, rfl, rfl, by decide +kernel, rfl, by decide +kernel, by decide +kernel⟩
abbrev s_well : Stmt := topS 25
abbrev N_well : List Str := ["cell"]
abbrev P_well : List Str := ["cell"]
theorem sc_well : FnScope N_well P_well (defScope s_well) := ⟨rfl, rfl, rfl, by decide +kernel, rfl, by decide +kernel, by decide +kernel⟩
abbrev s_draw : Stmt := topS 26
abbrev N_draw : List Str := ["well", "many", "digit", "mixed"]
abbrev P_draw : List Str := ["well", "many"]
theorem sc_draw : FnScope N_draw P_draw (defScope s_draw) := ⟨rfl, rfl, rfl, by decide +kernel, rfl, by decide +kernel, by decide +kernel⟩
abbrev s_one : Stmt := topS 27
abbrev N_one : List Str := ["well", "some"]
abbrev P_one : List Str := ["well", "some"]
theorem sc_one : FnScope N_one P_one (defScope s_one) := ⟨rfl, rfl, rfl, by decide +kernel, rfl, by decide +kernel, by decide +kernel⟩
abbrev s_found : Stmt := topS 28
abbrev N_found : List Str := ["key", "row", "one"]
abbrev P_found : List Str := ["key", "row"]
theorem sc_found : FnScope N_found P_found (defScope s_found) := ⟨rfl, rfl, rfl, by decide +kernel, rfl, by decide +kernel, by decide +kernel⟩
abbrev s_right : Stmt := topS 29
abbrev N_right : List Str := ["well", "row", "turn", "key", "hint", "heard", "wide", "one", "other", "turned", "spot", "mates", "more", "ask", "place", "asked"]
abbrev P_right : List Str := ["well"]
theorem sc_right : FnScope N_right P_right (defScope s_right) := ⟨rfl, rfl, rfl, by decide +kernel, rfl, by decide +kernel, by decide +kernel⟩
abbrev s_law : Stmt := topS 30
abbrev N_law : List Str := ["script", "cell", "well", "turn"]
abbrev P_law : List Str := ["script"]
theorem sc_law : FnScope N_law P_law (defScope s_law) := ⟨rfl, rfl, rfl, by decide +kernel, rfl, by decide +kernel, by decide +kernel⟩
def lq_places_of_leap : Str := "places_of_leap.<locals>.<lambda>"
def lq_before : Str := "before.<locals>.<lambda>"
def lq_behind : Str := "behind.<locals>.<lambda>"
structure Ad where
  (lc_places_of_leap lp_places_of_leap : Addr) (lc_before lp_before : Addr) (lc_behind lp_behind : Addr) (is_integer : Addr) (is_within : Addr) (check_keys : Addr) (check_number : Addr) (Leaper___init__ : Addr) (Leaper_take : Addr) (Leaper__begin_stepping : Addr) (Leaper__take_step : Addr) (Leaper__step_or_halve : Addr) (Leaper__begin_halving : Addr) (Leaper__take_half : Addr) (Leaper__halve : Addr) (leap : Addr) (places_of_leap : Addr) (before : Addr) (behind : Addr) (leap_places : Addr) (check_leap : Addr) (check_row : Addr) (well : Addr) (draw : Addr) (one : Addr) (found : Addr) (right : Addr) (law : Addr) (t_AT_HINT : Tok) (t_GREATEST_ROW : Tok) (t_HALVING : Tok) (t_STEPPING : Tok) (c_Leaper : Addr)
def LT (a : Ad) : List (Addr × Str) := [(a.lp_places_of_leap, lq_places_of_leap), (a.lp_before, lq_before), (a.lp_behind, lq_behind)]
structure Fd where
  (is_integer : FuncData) (is_within : FuncData) (check_keys : FuncData) (check_number : FuncData) (Leaper___init__ : FuncData) (Leaper_take : FuncData) (Leaper__begin_stepping : FuncData) (Leaper__take_step : FuncData) (Leaper__step_or_halve : FuncData) (Leaper__begin_halving : FuncData) (Leaper__take_half : FuncData) (Leaper__halve : FuncData) (leap : FuncData) (places_of_leap : FuncData) (before : FuncData) (behind : FuncData) (leap_places : FuncData) (check_leap : FuncData) (check_row : FuncData) (well : FuncData) (draw : FuncData) (one : FuncData) (found : FuncData) (right : FuncData) (law : FuncData)
/-- what the top has written -/
structure Txt (K : PySem.W.Frag) (mg : Str → Option Value) (a : Ad) (d : Fd) : Prop where
  g_is_integer : mg "is_integer" = some (.ref a.is_integer)
  k_is_integer : PySem.W.keepIn K (.ref a.is_integer) = true
  f_is_integer : Fun K "is_integer" "is_integer" s_is_integer a.is_integer d.is_integer
  b_is_integer : Binds K d.is_integer P_is_integer []
  g_is_within : mg "is_within" = some (.ref a.is_within)
  k_is_within : PySem.W.keepIn K (.ref a.is_within) = true
  f_is_within : Fun K "is_within" "is_within" s_is_within a.is_within d.is_within
  b_is_within : Binds K d.is_within P_is_within []
  g_check_keys : mg "check_keys" = some (.ref a.check_keys)
  k_check_keys : PySem.W.keepIn K (.ref a.check_keys) = true
  f_check_keys : FunV K "check_keys" "check_keys" s_check_keys a.check_keys d.check_keys
  b_check_keys_2 : ∃ ds, Vals [.int 0, .int 2000] ds ∧ Binds K d.check_keys P_check_keys ds
  b_check_keys : Binds K d.check_keys P_check_keys []
  g_check_number : mg "check_number" = some (.ref a.check_number)
  k_check_number : PySem.W.keepIn K (.ref a.check_number) = true
  f_check_number : FunV K "check_number" "check_number" s_check_number a.check_number d.check_number
  b_check_number : Binds K d.check_number P_check_number []
  m_Leaper___init__ : Meth K a.c_Leaper "__init__" a.Leaper___init__
  f_Leaper___init__ : Fun K "__init__" "Leaper.__init__" s_Leaper___init__ a.Leaper___init__ d.Leaper___init__
  b_Leaper___init__ : Binds K d.Leaper___init__ P_Leaper___init__ []
  m_Leaper_take : Meth K a.c_Leaper "take" a.Leaper_take
  f_Leaper_take : Fun K "take" "Leaper.take" s_Leaper_take a.Leaper_take d.Leaper_take
  b_Leaper_take : Binds K d.Leaper_take P_Leaper_take []
  m_Leaper__begin_stepping : Meth K a.c_Leaper "_begin_stepping" a.Leaper__begin_stepping
  f_Leaper__begin_stepping : Fun K "_begin_stepping" "Leaper._begin_stepping" s_Leaper__begin_stepping a.Leaper__begin_stepping d.Leaper__begin_stepping
  b_Leaper__begin_stepping : Binds K d.Leaper__begin_stepping P_Leaper__begin_stepping []
  m_Leaper__take_step : Meth K a.c_Leaper "_take_step" a.Leaper__take_step
  f_Leaper__take_step : Fun K "_take_step" "Leaper._take_step" s_Leaper__take_step a.Leaper__take_step d.Leaper__take_step
  b_Leaper__take_step : Binds K d.Leaper__take_step P_Leaper__take_step []
  m_Leaper__step_or_halve : Meth K a.c_Leaper "_step_or_halve" a.Leaper__step_or_halve
  f_Leaper__step_or_halve : Fun K "_step_or_halve" "Leaper._step_or_halve" s_Leaper__step_or_halve a.Leaper__step_or_halve d.Leaper__step_or_halve
  b_Leaper__step_or_halve : Binds K d.Leaper__step_or_halve P_Leaper__step_or_halve []
  m_Leaper__begin_halving : Meth K a.c_Leaper "_begin_halving" a.Leaper__begin_halving
  f_Leaper__begin_halving : Fun K "_begin_halving" "Leaper._begin_halving" s_Leaper__begin_halving a.Leaper__begin_halving d.Leaper__begin_halving
  b_Leaper__begin_halving : Binds K d.Leaper__begin_halving P_Leaper__begin_halving []
  m_Leaper__take_half : Meth K a.c_Leaper "_take_half" a.Leaper__take_half
  f_Leaper__take_half : Fun K "_take_half" "Leaper._take_half" s_Leaper__take_half a.Leaper__take_half d.Leaper__take_half
  b_Leaper__take_half : Binds K d.Leaper__take_half P_Leaper__take_half []
  m_Leaper__halve : Meth K a.c_Leaper "_halve" a.Leaper__halve
  f_Leaper__halve : Fun K "_halve" "Leaper._halve" s_Leaper__halve a.Leaper__halve d.Leaper__halve
  b_Leaper__halve : Binds K d.Leaper__halve P_Leaper__halve []
  g_leap : mg "leap" = some (.ref a.leap)
  k_leap : PySem.W.keepIn K (.ref a.leap) = true
  f_leap : Fun K "leap" "leap" s_leap a.leap d.leap
  b_leap : Binds K d.leap P_leap []
  g_places_of_leap : mg "places_of_leap" = some (.ref a.places_of_leap)
  k_places_of_leap : PySem.W.keepIn K (.ref a.places_of_leap) = true
  f_places_of_leap : Fun K "places_of_leap" "places_of_leap" s_places_of_leap a.places_of_leap d.places_of_leap
  b_places_of_leap : Binds K d.places_of_leap P_places_of_leap []
  g_before : mg "before" = some (.ref a.before)
  k_before : PySem.W.keepIn K (.ref a.before) = true
  f_before : Fun K "before" "before" s_before a.before d.before
  b_before : Binds K d.before P_before []
  g_behind : mg "behind" = some (.ref a.behind)
  k_behind : PySem.W.keepIn K (.ref a.behind) = true
  f_behind : Fun K "behind" "behind" s_behind a.behind d.behind
  b_behind : Binds K d.behind P_behind []
  g_leap_places : mg "leap_places" = some (.ref a.leap_places)
  k_leap_places : PySem.W.keepIn K (.ref a.leap_places) = true
  f_leap_places : Fun K "leap_places" "leap_places" s_leap_places a.leap_places d.leap_places
  b_leap_places : Binds K d.leap_places P_leap_places []
  g_check_leap : mg "_check_leap" = some (.ref a.check_leap)
  k_check_leap : PySem.W.keepIn K (.ref a.check_leap) = true
  f_check_leap : Fun K "_check_leap" "_check_leap" s_check_leap a.check_leap d.check_leap
  b_check_leap : Binds K d.check_leap P_check_leap []
  g_check_row : mg "_check_row" = some (.ref a.check_row)
  k_check_row : PySem.W.keepIn K (.ref a.check_row) = true
  f_check_row : Fun K "_check_row" "_check_row" s_check_row a.check_row d.check_row
  b_check_row : Binds K d.check_row P_check_row []
  g_well : mg "_law_well" = some (.ref a.well)
  k_well : PySem.W.keepIn K (.ref a.well) = true
  f_well : Fun K "_law_well" "_law_well" s_well a.well d.well
  b_well : Binds K d.well P_well []
  g_draw : mg "_law_draw" = some (.ref a.draw)
  k_draw : PySem.W.keepIn K (.ref a.draw) = true
  f_draw : Fun K "_law_draw" "_law_draw" s_draw a.draw d.draw
  b_draw : Binds K d.draw P_draw []
  g_one : mg "_law_one" = some (.ref a.one)
  k_one : PySem.W.keepIn K (.ref a.one) = true
  f_one : Fun K "_law_one" "_law_one" s_one a.one d.one
  b_one : Binds K d.one P_one []
  g_found : mg "_law_found" = some (.ref a.found)
  k_found : PySem.W.keepIn K (.ref a.found) = true
  f_found : Fun K "_law_found" "_law_found" s_found a.found d.found
  b_found : Binds K d.found P_found []
  g_right : mg "_law_right" = some (.ref a.right)
  k_right : PySem.W.keepIn K (.ref a.right) = true
  f_right : Fun K "_law_right" "_law_right" s_right a.right d.right
  b_right : Binds K d.right P_right []
  g_law : mg "law" = some (.ref a.law)
  k_law : PySem.W.keepIn K (.ref a.law) = true
  f_law : Fun K "law" "law" s_law a.law d.law
  b_law : Binds K d.law P_law []
  lc_places_of_leap : d.places_of_leap.code = .ref a.lc_places_of_leap
  lc_before : d.before.code = .ref a.lc_before
  lc_behind : d.behind.code = .ref a.lc_behind
  lne_places_of_leap_before : a.lp_places_of_leap ≠ a.lp_before
  lne_places_of_leap_behind : a.lp_places_of_leap ≠ a.lp_behind
  lne_before_behind : a.lp_before ≠ a.lp_behind
  g_AT_HINT : mg "AT_HINT" = some (.int 1 a.t_AT_HINT)
  g_GREATEST_ROW : mg "GREATEST_ROW" = some (.int 1000000000000000000000000000000 a.t_GREATEST_ROW)
  g_HALVING : mg "HALVING" = some (.int 3 a.t_HALVING)
  g_STEPPING : mg "STEPPING" = some (.int 2 a.t_STEPPING)
  z_bool : mg "bool" = none
  z_enumerate : mg "enumerate" = none
  z_int : mg "int" = none
  z_isinstance : mg "isinstance" = none
  z_len : mg "len" = none
  z_list : mg "list" = none
  z_range : mg "range" = none
  z_sorted : mg "sorted" = none
  z_tuple : mg "tuple" = none
  cl_Leaper : Cls K a.c_Leaper
  g_Leaper : mg "Leaper" = some (.ref a.c_Leaper)
  mk_Leaper : Mk K a.c_Leaper a.Leaper___init__
  n_many : NoAttr K a.c_Leaper "many"
  n_hint : NoAttr K a.c_Leaper "hint"
  n_phase : NoAttr K a.c_Leaper "phase"
  n_upward : NoAttr K a.c_Leaper "upward"
  n_last : NoAttr K a.c_Leaper "last"
  n_step : NoAttr K a.c_Leaper "step"
  n_longest : NoAttr K a.c_Leaper "longest"
  n_left : NoAttr K a.c_Leaper "left"
  n_right : NoAttr K a.c_Leaper "right"
  n_waiting : NoAttr K a.c_Leaper "waiting"
  n_found : NoAttr K a.c_Leaper "found"
/-! keywords -/
end K25

namespace K25
open PySem PySem.Spec PyProof.Rows L2
def spIsInt : Sp := fun vs H Q _ => ∃ i, vs = [.int i] ∧ Q (.bl true) H
section
variable {P : Program} {w : World} {K : PySem.W.Frag} {mg : Str → Option Value} {base : Heap} {a : Ad} {d : Fd}
theorem ok_is_integer (T : Txt K mg a d) : FnOk P w K mg base CX0 1 a.is_integer d.is_integer P_is_integer spIsInt := by
  refine T.f_is_integer.ok sc_is_integer (fun vs H Q E h => ?_) (fun cdv A outer s H vs Q E hr h => ?_)
  · obtain ⟨i, rfl, _⟩ := h
    rfl
  · obtain ⟨i, rfl, q⟩ := h
    refine ⟨_, (pss_one (ps_ret (pe_and (pe_callB call_isi (by rfl) T.z_isinstance (by decide +kernel) (pa_cons (pv 0) (pa_cons (pe_bltn (v := .ty "int") (u := .type "int") (by rfl) T.z_int (by decide +kernel) rfl) pa_nil))) (pe_one (pe_not (pe_callB call_isi (by rfl) T.z_isinstance (by decide +kernel) (pa_cons (pv 0) (pa_cons (pe_bltn (v := .ty "bool") (u := .type "bool") (by rfl) T.z_bool (by decide +kernel) rfl) pa_nil)))))))), ?_⟩
    refine ⟨_, rfl, .int i, .ty "int", .type "int", .type "int", true, rfl, .ty _, .base (.int i), kit_ty (by decide +kernel), true, rfl, iteT ?_⟩
    exact ⟨_, rfl, .int i, .ty "bool", .type "int", .type "bool", false, rfl, .ty _, .base (.int i), kit_ty (by decide +kernel), false, rfl, q⟩
end
def spWithin : Sp := fun vs H Q _ => ∃ v lo hi, vs = [.int v, .int lo, .int hi] ∧ lo ≤ v ∧ v ≤ hi ∧ Q (.bl true) H
section
variable {P : Program} {w : World} {K : PySem.W.Frag} {mg : Str → Option Value} {base : Heap} {a : Ad} {d : Fd}
theorem ok_is_within (T : Txt K mg a d) : FnOk P w K mg base CX0 2 a.is_within d.is_within P_is_within spWithin := by
  have G_is_integer : FnOk P w K mg base CX0 1 a.is_integer d.is_integer P_is_integer spIsInt := ok_is_integer T
  refine T.f_is_within.ok sc_is_within (fun vs H Q E h => ?_) (fun cdv A outer s H vs Q E hr h => ?_)
  · obtain ⟨v, lo, hi, rfl, _⟩ := h
    rfl
  · obtain ⟨v, lo, hi, rfl, h1, h2, q⟩ := h
    refine ⟨_, (pss_one (ps_ret (pe_and (pe_call G_is_integer (hr.mono (by decide)) (by rfl) T.g_is_integer T.k_is_integer T.b_is_integer .nil pass0 (pa_cons (pv 0) pa_nil)) (pe_and (pe_cmpR op_ge (pv 0) (pv 1) (nomark _)) (pe_one (pe_or (pe_cmpR op_isN (pv 2) pe_non (nomark _)) (pe_one (pe_cmpR op_le (pv 0) (pv 2) (nomark _))))))))), ?_⟩
    refine ⟨_, rfl, v, rfl, true, rfl, iteT ?_⟩
    refine ⟨_, rfl, _, rfl, _, _, rfl, rfl, true, congrArg V.bl (decide_eq_true h1), iteT ?_⟩
    refine ⟨_, rfl, rfl, false, rfl, iteF ?_⟩
    refine ⟨_, rfl, _, rfl, _, _, rfl, rfl, ?_⟩
    show Q (V.bl (decide (v ≤ hi))) H
    rw [decide_eq_true h2]
    exact q
end


def spCheckNumber : Sp := fun vs H Q _ => ∃ (nm : Str) (v lo hi : Int), vs = [.str nm, .int v, .int lo, .int hi] ∧ lo ≤ v ∧ v ≤ hi ∧ Q .non H
section
variable {P : Program} {w : World} {K : PySem.W.Frag} {mg : Str → Option Value} {base : Heap} {a : Ad} {d : Fd}
theorem ok_check_number (T : Txt K mg a d) : FnOk P w K mg base CX0 3 a.check_number d.check_number P_check_number spCheckNumber := by
  have G_is_within : FnOk P w K mg base CX0 2 a.is_within d.is_within P_is_within spWithin := ok_is_within T
  refine T.f_check_number.ok sc_check_number (fun vs H Q E h => ?_) (fun cdv A outer s H vs Q E hr h => ?_)
  · obtain ⟨nm, v, lo, hi, rfl, _⟩ := h
    rfl
  · obtain ⟨nm, v, lo, hi, rfl, h1, h2, q⟩ := h
    refine ⟨_, (pss_one (ps_if (pt_not (pt_val (pe_call G_is_within (hr.mono (by decide)) (by rfl) T.g_is_within T.k_is_within T.b_is_within .nil pass0 (pa_cons (pv 1) (pa_cons (pv 2) (pa_cons (pv 3) pa_nil)))))) (pss_one ps_never) pss_nil)), ?_⟩
    exact ⟨_, rfl, _, rfl, _, rfl, v, lo, hi, rfl, h1, h2, true, rfl, iteF q⟩
end

/-- keys: a list or a tuple of ints -/
def KeysAt (H : Hp) (p : Addr) (ns : List Int) : Prop := H p = some (.lst (ns.map V.int)) ∨ H p = some (.tup (ns.map V.int))
theorem KeysAt.same {H H' : Hp} {p : Addr} {ns : List Int} (e : Same H H') (h : KeysAt H p ns) : KeysAt H' p ns := h.imp (e _ _) (e _ _)
def spCheckKeysN : Sp := fun vs H Q _ => ∃ p ns lo hi, vs = [.ref p, .int lo, .int hi] ∧ KeysAt H p ns ∧ lo ≤ (ns.length : Int) ∧ (ns.length : Int) ≤ hi ∧ ∀ H', Same H H' → Q .non H'
theorem keys_item {ns : List Int} {i : Nat} {x : V} (h : (ns.map V.int)[i]? = some x) : ∃ z, ns[i]? = some z ∧ x = .int z := by
  rw [List.getElem?_map] at h
  cases e : ns[i]? with
  | none => rw [e] at h; cases h
  | some z => rw [e] at h; exact ⟨z, rfl, (Option.some.inj h).symm⟩
section
variable {P : Program} {w : World} {K : PySem.W.Frag} {mg : Str → Option Value} {base : Heap} {a : Ad} {d : Fd}
theorem ok_check_keys (T : Txt K mg a d) : FnOk P w K mg base CX0 2 a.check_keys d.check_keys P_check_keys spCheckKeysN := by
  have G_is_integer : FnOk P w K mg base CX0 1 a.is_integer d.is_integer P_is_integer spIsInt := ok_is_integer T
  refine T.f_check_keys.ok sc_check_keys (fun vs H Q E h => ?_) (fun cdv A outer s H vs Q E hr h => ?_)
  · obtain ⟨p, ns, lo, hi, rfl, _⟩ := h
    rfl
  · obtain ⟨p, ns, lo, hi, rfl, hK, hl1, hl2, q⟩ := h
    refine ⟨_, (pss_cons (ps_if (PW.pt (pw_or (pt_not (pt_val (pe_callB call_isiT (by rfl) T.z_isinstance (by decide +kernel) (pa_cons (pv 0) (pa_cons (pe_tup (pa_cons (pe_bltn (v := .ty "list") (u := .type "list") (by rfl) T.z_list (by decide +kernel) rfl) (pa_cons (pe_bltn (v := .ty "tuple") (u := .type "tuple") (by rfl) T.z_tuple (by decide +kernel) rfl) pa_nil))) pa_nil))))) (pw_or1 (pt_not (pt_chain op_le op_le (pv 1) (pe_callB call_len_seq (by rfl) T.z_len PySem.boot_len (pa_cons (pv 0) pa_nil)) (pv 2)))))) (pss_one ps_never) pss_nil)
    (pss_one (ps_for PassesOwn.never rfl (pi_enumA (by rfl) T.z_enumerate (pa_cons (pv 0) pa_nil)) (pg_tup rfl (pgs_cons (pg_name (i := 3) sc_check_keys.nd rfl (Or.inl rfl)) (pgs_cons (pg_name (i := 4) sc_check_keys.nd rfl (Or.inl rfl)) pgs_nil)))
      (pss_one (ps_if (pt_not (pt_val (pe_call G_is_integer (hr.mono (by decide)) (by rfl) T.g_is_integer T.k_is_integer T.b_is_integer .nil pass0 (pa_cons (pv 4) pa_nil)))) (pss_one ps_never) pss_nil))))), ?_⟩
    refine ⟨_, rfl, by show 2 ≤ sizeLine; decide, fun tp htp => ?_⟩
    have s1 : Same H (upd H tp (.tup [.ty "list", .ty "tuple"])) := same_upd htp
    have hK1 := hK.same s1
    have hT : upd H tp (.tup [.ty "list", .ty "tuple"]) tp = some (.tup [.ty "list", .ty "tuple"]) := upd_same
    generalize upd H tp (.tup [.ty "list", .ty "tuple"]) = H1 at s1 hK1 hT ⊢
    have cs : Paired ClsV [.ty "list", .ty "tuple"] [.type "list", .type "tuple"] := .cons (.ty _) (.cons (.ty _) .nil)
    have hS : SqL K H1 p (ns.map V.int) ∨ SqT K H1 p (ns.map V.int) := hK1.imp L2.sq_of L2.st_of
    obtain ⟨t, hty, hkit⟩ : ∃ t, TyX K H1 (.ref p) t ∧ PySem.W.kitAny K t [.type "list", .type "tuple"] = some true := by
      rcases hK1 with hl | ht
      · exact ⟨_, .base (.lst hl), kitAny_cons (b := true) (kit_ty (by decide +kernel)) (fun z => nomatch z) (fun _ => rfl)⟩
      · exact ⟨_, .base (.tup ht), kitAny_cons (b := false) (kit_ty (by decide +kernel)) (fun _ => kitAny_cons (b := true) (kit_ty (by decide +kernel)) (fun z => nomatch z) (fun _ => rfl)) (fun z => nomatch z)⟩
    refine ⟨.ref p, tp, _, t, _, true, rfl, hT, cs, hty, hkit, true, rfl, iteF ?_⟩
    have el : (ns.map V.int).length = ns.length := List.length_map _
    refine ⟨_, rfl, _, rfl, p, _, rfl, hS, _, _, rfl, rfl, true, congrArg V.bl (decide_eq_true (by rw [el]; exact hl1)), iteT ⟨_, rfl, _, _, rfl, rfl, true, congrArg V.bl (decide_eq_true (by rw [el]; exact hl2)), iteF ?_⟩⟩
    · refine ⟨_, rfl, p, ns.map V.int, rfl, hS.imp (fun hs => ⟨hs, ?_⟩) (fun hs => ⟨hs, ?_⟩)⟩
      · refine for_iteL (K := K) (a := p) (xs := ns.map V.int) (fun i σ H' => (∃ u v, σ = [some (.ref p), some (.int lo), some (.int hi), u, v]) ∧ Same H1 H') ⟨⟨_, _, rfl⟩, Same.refl _⟩ (fun i σ H' _ h => h.2.seq hs) ?_ ?_
        · rintro i y σ H2 Tp hy ⟨⟨u, v, rfl⟩, sm⟩ hn
          obtain ⟨z, _, rfl⟩ := keys_item hy
          refine ⟨Tp, _, rfl, L2.st_of upd_same, rfl, _, _, rfl, _, _, rfl, rfl, ?_⟩
          refine ⟨_, rfl, z, rfl, true, rfl, iteF ?_⟩
          exact ⟨⟨_, _, rfl⟩, sm.trans (same_upd hn)⟩
        · rintro σ H' ⟨_, sm⟩
          exact q H' (s1.trans sm)
      · refine for_iteT (K := K) (a := p) (xs := ns.map V.int) (fun i σ H' => (∃ u v, σ = [some (.ref p), some (.int lo), some (.int hi), u, v]) ∧ Same H1 H') ⟨⟨_, _, rfl⟩, Same.refl _⟩ (fun i σ H' _ h => Same.tupS h.2 hs) ?_ ?_
        · rintro i y σ H2 Tp hy ⟨⟨u, v, rfl⟩, sm⟩ hn
          obtain ⟨z, _, rfl⟩ := keys_item hy
          refine ⟨Tp, _, rfl, L2.st_of upd_same, rfl, _, _, rfl, _, _, rfl, rfl, ?_⟩
          refine ⟨_, rfl, z, rfl, true, rfl, iteF ?_⟩
          exact ⟨⟨_, _, rfl⟩, sm.trans (same_upd hn)⟩
        · rintro σ H' ⟨_, sm⟩
          exact q H' (s1.trans sm)
end

end K25

namespace K25
open PySem PySem.Spec PyProof.Rows L2
def optN : Option Nat → V
  | none => .non
  | some n => .int (n : Int)
def fldsL (f : LP) : List (Str × V) := [("many", .int (f.many : Int)), ("hint", .int (f.hint : Int)), ("phase", .int (f.ph : Int)), ("upward", .bl f.up), ("last", .int (f.last : Int)), ("step", .int (f.step : Int)), ("longest", .int (f.long : Int)), ("left", .int (f.lf : Int)), ("right", .int (f.rt : Int)), ("waiting", optN f.wt), ("found", optN f.fd)]
/-- the leaper at x -/
def LAt (C : Addr) (H : Hp) (x : Addr) (f : LP) : Prop := ∃ dx, H x = some (.ins C dx (fldsL f))
/-- all but x stands -/
def Fr1 (x : Addr) (H H' : Hp) : Prop := ∀ b o, b ≠ x → H b = some o → H' b = some o
theorem Fr1.refl (x : Addr) (H : Hp) : Fr1 x H H := fun _ _ _ h => h
theorem Fr1.trans {x : Addr} {H H1 H2 : Hp} (a : Fr1 x H H1) (b : Fr1 x H1 H2) : Fr1 x H H2 := fun c o n h => b c o n (a c o n h)
theorem lset {H : Hp} {x C dx : Addr} {w : List (Str × V)} (f' : LP) (e : w = fldsL f') : upd H x (.ins C dx w) x = some (.ins C dx (fldsL f')) ∧ Fr1 x H (upd H x (.ins C dx w)) := by
  subst e
  exact ⟨upd_same, fun b o n h => by rw [upd_ne n]; exact h⟩
def spL (C : Addr) (pre : LP → Prop) (fn : LP → LP) : Sp := fun vs H Q _ => ∃ (x : Addr) (f : LP), vs = [.ref x] ∧ LAt C H x f ∧ pre f ∧ ∀ H', LAt C H' x (fn f) → Fr1 x H H' → Q .non H'
def spLb (C : Addr) (pre : LP → Prop) (fn : Bool → LP → LP) : Sp := fun vs H Q _ => ∃ (x : Addr) (f : LP) (b : Bool), vs = [.ref x, .bl b] ∧ LAt C H x f ∧ pre f ∧ ∀ H', LAt C H' x (fn b f) → Fr1 x H H' → Q .non H'
section
variable {P : Program} {w : World} {K : PySem.W.Frag} {mg : Str → Option Value} {base : Heap} {a : Ad} {d : Fd}
theorem ok_halve (T : Txt K mg a d) : FnOk P w K mg base CX0 1 a.Leaper__halve d.Leaper__halve P_Leaper__halve (spL a.c_Leaper (fun _ => True) LP.halve) := by
  refine T.f_Leaper__halve.ok sc_Leaper__halve (fun vs H Q E h => ?_) (fun cdv A outer s0 H vs Q E hr h => ?_)
  · obtain ⟨x, f, rfl, _⟩ := h
    rfl
  · obtain ⟨x, f, rfl, ⟨dx, hx⟩, _, q⟩ := h
    refine ⟨_, (pss_one (ps_if (pt_cmpR op_lt (pe_fld (pv 0) rfl) (pe_fld (pv 0) rfl) (nomark _)) (pss_one (ps_fld (pv 0) (pe_op op_add (pe_fld (pv 0) rfl) (pe_op op_fdivW (pe_op op_sub (pe_fld (pv 0) rfl) (pe_fld (pv 0) rfl)) pe_int)) rfl)) (pss_cons (ps_fld (pv 0) pe_non rfl)
      (pss_one (ps_fld (pv 0) (pe_fld (pv 0) rfl) rfl))))), ?_⟩
    have w2 : ∀ i : Int, CDivW i 2 := fun i => wide_div (b := 64) (by decide) (by decide) (by decide) (by decide)
    refine ⟨_, rfl, x, a.c_Leaper, dx, _, _, rfl, hx, T.cl_Leaper, T.n_left, rfl, ?_⟩
    refine ⟨_, rfl, x, a.c_Leaper, dx, _, _, rfl, hx, T.cl_Leaper, T.n_right, rfl, ?_⟩
    refine ⟨_, _, rfl, rfl, ?_⟩
    by_cases c : f.lf < f.rt
    · refine ⟨true, congrArg V.bl (decide_eq_true (by omega)), iteT ?_⟩
      refine ⟨_, rfl, x, a.c_Leaper, dx, _, _, rfl, hx, T.cl_Leaper, T.n_left, rfl, ?_⟩
      refine ⟨_, rfl, x, a.c_Leaper, dx, _, _, rfl, hx, T.cl_Leaper, T.n_right, rfl, ?_⟩
      refine ⟨_, rfl, x, a.c_Leaper, dx, _, _, rfl, hx, T.cl_Leaper, T.n_left, rfl, _, _, rfl, rfl, _, _, rfl, rfl, w2 _, _, _, rfl, rfl, ?_⟩
      refine ⟨_, rfl, x, a.c_Leaper, dx, _, rfl, hx, T.cl_Leaper, T.n_waiting, by show 11 < 1000; decide, ?_⟩
      have e1 : (f.lf : Int) + ((f.rt : Int) - (f.lf : Int)) / 2 = ((f.lf + (f.rt - f.lf) / 2 : Nat) : Int) := by omega
      obtain ⟨h1, fr1⟩ := lset (H := H) (x := x) (C := a.c_Leaper) (dx := dx) (w := putF "waiting" (.int ((f.lf : Int) + ((f.rt : Int) - (f.lf : Int)) / 2)) (fldsL f)) { f with wt := some (f.lf + (f.rt - f.lf) / 2) } (by rw [e1]; rfl)
      refine q _ ⟨dx, ?_⟩ fr1
      unfold LP.halve
      rw [if_pos c]
      exact h1
    · refine ⟨false, congrArg V.bl (decide_eq_false (by omega)), iteF ?_⟩
      refine ⟨_, rfl, x, a.c_Leaper, dx, _, rfl, hx, T.cl_Leaper, T.n_waiting, by show 11 < 1000; decide, ?_⟩
      obtain ⟨h1, fr1⟩ := lset (H := H) (x := x) (C := a.c_Leaper) (dx := dx) (w := putF "waiting" .non (fldsL f)) { f with wt := none } rfl
      generalize upd H x (.ins a.c_Leaper dx (putF "waiting" .non (fldsL f))) = H1 at h1 fr1 ⊢
      refine ⟨_, rfl, x, a.c_Leaper, dx, _, _, rfl, h1, T.cl_Leaper, T.n_right, rfl, ?_⟩
      refine ⟨_, rfl, x, a.c_Leaper, dx, _, rfl, h1, T.cl_Leaper, T.n_found, by show 11 < 1000; decide, ?_⟩
      obtain ⟨h2, fr2⟩ := lset (H := H1) (x := x) (C := a.c_Leaper) (dx := dx) (w := putF "found" (.int (f.rt : Int)) (fldsL { f with wt := none })) { f with wt := none, fd := some f.rt } rfl
      refine q _ ⟨dx, ?_⟩ (fr1.trans fr2)
      unfold LP.halve
      rw [if_neg c]
      exact h2
theorem ok_begin_halving (T : Txt K mg a d) : FnOk P w K mg base CX0 2 a.Leaper__begin_halving d.Leaper__begin_halving P_Leaper__begin_halving (spL a.c_Leaper (fun f => f.up = true ∨ (f.step ≤ f.hint + 1 ∧ f.last ≤ f.hint)) LP.beginHalving) := by
  have G_Leaper__halve : FnOk P w K mg base CX0 1 a.Leaper__halve d.Leaper__halve P_Leaper__halve (spL a.c_Leaper (fun _ => True) LP.halve) := ok_halve T
  refine T.f_Leaper__begin_halving.ok sc_Leaper__begin_halving (fun vs H Q E h => ?_) (fun cdv A outer s0 H vs Q E hr h => ?_)
  · obtain ⟨x, f, rfl, _⟩ := h
    rfl
  · obtain ⟨x, f, rfl, ⟨dx, hx⟩, hpre, q⟩ := h
    refine ⟨_, (pss_cons (ps_fld (pv 0) (pe_glob (v := .int 3) rfl T.g_HALVING ⟨_, rfl⟩) rfl)
    (pss_cons (ps_if (pt_val (pe_fld (pv 0) rfl)) (pss_cons (ps_fld (pv 0) (pe_op op_add (pe_op op_add (pe_fld (pv 0) rfl) (pe_fld (pv 0) rfl)) pe_int) rfl)
      (pss_one (ps_fld (pv 0) (pe_op op_add (pe_fld (pv 0) rfl) (pe_fld (pv 0) rfl)) rfl))) (pss_cons (ps_fld (pv 0) (pe_op op_add (pe_op op_sub (pe_fld (pv 0) rfl) (pe_fld (pv 0) rfl)) pe_int) rfl)
      (pss_one (ps_fld (pv 0) (pe_op op_sub (pe_fld (pv 0) rfl) (pe_fld (pv 0) rfl)) rfl))))
    (pss_one (ps_expr (pe_meth0 (pv 0) T.cl_Leaper T.m_Leaper__halve G_Leaper__halve (hr.mono (by decide)) T.b_Leaper__halve .nil pass0))))), ?_⟩
    refine ⟨_, rfl, x, a.c_Leaper, dx, _, rfl, hx, T.cl_Leaper, T.n_phase, by show 11 < 1000; decide, ?_⟩
    obtain ⟨h1, fr1⟩ := lset (H := H) (x := x) (C := a.c_Leaper) (dx := dx) (w := putF "phase" (.int 3) (fldsL f)) { f with ph := 3 } rfl
    generalize upd H x (.ins a.c_Leaper dx (putF "phase" (.int 3) (fldsL f))) = H1 at h1 fr1 ⊢
    refine ⟨_, rfl, x, a.c_Leaper, dx, _, _, rfl, h1, T.cl_Leaper, T.n_upward, rfl, f.up, rfl, ?_⟩
    refine ite2 (fun c => ?_) (fun c => ?_)
    ·
      refine ⟨_, rfl, x, a.c_Leaper, dx, _, _, rfl, h1, T.cl_Leaper, T.n_hint, rfl, _, rfl, x, a.c_Leaper, dx, _, _, rfl, h1, T.cl_Leaper, T.n_last, rfl, _, _, rfl, rfl, _, _, rfl, rfl, _, rfl, x, a.c_Leaper, dx, _, rfl, h1, T.cl_Leaper, T.n_left, by show 11 < 1000; decide, ?_⟩
      have e1 : (f.hint : Int) + (f.last : Int) + 1 = ((f.hint + f.last + 1 : Nat) : Int) := by omega
      obtain ⟨h2, fr2⟩ := lset (H := H1) (x := x) (C := a.c_Leaper) (dx := dx) (w := putF "left" (.int ((f.hint : Int) + (f.last : Int) + 1)) (fldsL { f with ph := 3 })) { f with ph := 3, lf := f.hint + f.last + 1 } (by rw [e1]; rfl)
      generalize upd H1 x (.ins a.c_Leaper dx (putF "left" (.int ((f.hint : Int) + (f.last : Int) + 1)) (fldsL { f with ph := 3 }))) = H2 at h2 fr2 ⊢
      refine ⟨_, rfl, x, a.c_Leaper, dx, _, _, rfl, h2, T.cl_Leaper, T.n_hint, rfl, _, rfl, x, a.c_Leaper, dx, _, _, rfl, h2, T.cl_Leaper, T.n_step, rfl, _, _, rfl, rfl, _, rfl, x, a.c_Leaper, dx, _, rfl, h2, T.cl_Leaper, T.n_right, by show 11 < 1000; decide, ?_⟩
      have e2 : (f.hint : Int) + (f.step : Int) = ((f.hint + f.step : Nat) : Int) := by omega
      obtain ⟨h3, fr3⟩ := lset (H := H2) (x := x) (C := a.c_Leaper) (dx := dx) (w := putF "right" (.int ((f.hint : Int) + (f.step : Int))) (fldsL { f with ph := 3, lf := f.hint + f.last + 1 })) { f with ph := 3, lf := f.hint + f.last + 1, rt := f.hint + f.step } (by rw [e2]; rfl)
      generalize upd H2 x (.ins a.c_Leaper dx (putF "right" (.int ((f.hint : Int) + (f.step : Int))) (fldsL { f with ph := 3, lf := f.hint + f.last + 1 }))) = H3 at h3 fr3 ⊢
      refine ⟨_, rfl, x, dx, _, rfl, h3, rfl, x, _, rfl, ⟨dx, h3⟩, trivial, fun H4 L4 fr4 => q H4 ?_ (((fr1.trans fr2).trans fr3).trans fr4)⟩
      unfold LP.beginHalving
      rw [if_pos c]
      exact L4
    ·
      have hp : f.step ≤ f.hint + 1 ∧ f.last ≤ f.hint := hpre.resolve_left c
      refine ⟨_, rfl, x, a.c_Leaper, dx, _, _, rfl, h1, T.cl_Leaper, T.n_hint, rfl, _, rfl, x, a.c_Leaper, dx, _, _, rfl, h1, T.cl_Leaper, T.n_step, rfl, _, _, rfl, rfl, _, _, rfl, rfl, _, rfl, x, a.c_Leaper, dx, _, rfl, h1, T.cl_Leaper, T.n_left, by show 11 < 1000; decide, ?_⟩
      have e1 : (f.hint : Int) - (f.step : Int) + 1 = ((f.hint + 1 - f.step : Nat) : Int) := by omega
      obtain ⟨h2, fr2⟩ := lset (H := H1) (x := x) (C := a.c_Leaper) (dx := dx) (w := putF "left" (.int ((f.hint : Int) - (f.step : Int) + 1)) (fldsL { f with ph := 3 })) { f with ph := 3, lf := f.hint + 1 - f.step } (by rw [e1]; rfl)
      generalize upd H1 x (.ins a.c_Leaper dx (putF "left" (.int ((f.hint : Int) - (f.step : Int) + 1)) (fldsL { f with ph := 3 }))) = H2 at h2 fr2 ⊢
      refine ⟨_, rfl, x, a.c_Leaper, dx, _, _, rfl, h2, T.cl_Leaper, T.n_hint, rfl, _, rfl, x, a.c_Leaper, dx, _, _, rfl, h2, T.cl_Leaper, T.n_last, rfl, _, _, rfl, rfl, _, rfl, x, a.c_Leaper, dx, _, rfl, h2, T.cl_Leaper, T.n_right, by show 11 < 1000; decide, ?_⟩
      have e2 : (f.hint : Int) - (f.last : Int) = ((f.hint - f.last : Nat) : Int) := by omega
      obtain ⟨h3, fr3⟩ := lset (H := H2) (x := x) (C := a.c_Leaper) (dx := dx) (w := putF "right" (.int ((f.hint : Int) - (f.last : Int))) (fldsL { f with ph := 3, lf := f.hint + 1 - f.step })) { f with ph := 3, lf := f.hint + 1 - f.step, rt := f.hint - f.last } (by rw [e2]; rfl)
      generalize upd H2 x (.ins a.c_Leaper dx (putF "right" (.int ((f.hint : Int) - (f.last : Int))) (fldsL { f with ph := 3, lf := f.hint + 1 - f.step }))) = H3 at h3 fr3 ⊢
      refine ⟨_, rfl, x, dx, _, rfl, h3, rfl, x, _, rfl, ⟨dx, h3⟩, trivial, fun H4 L4 fr4 => q H4 ?_ (((fr1.trans fr2).trans fr3).trans fr4)⟩
      unfold LP.beginHalving
      rw [if_neg c]
      exact L4
theorem ok_step_or_halve (T : Txt K mg a d) : FnOk P w K mg base CX0 3 a.Leaper__step_or_halve d.Leaper__step_or_halve P_Leaper__step_or_halve (spL a.c_Leaper (fun f => f.up = true ∨ (f.long ≤ f.hint + 1 ∧ f.last ≤ f.hint)) LP.stepOn) := by
  have G_Leaper__begin_halving : FnOk P w K mg base CX0 2 a.Leaper__begin_halving d.Leaper__begin_halving P_Leaper__begin_halving (spL a.c_Leaper (fun f => f.up = true ∨ (f.step ≤ f.hint + 1 ∧ f.last ≤ f.hint)) LP.beginHalving) := ok_begin_halving T
  refine T.f_Leaper__step_or_halve.ok sc_Leaper__step_or_halve (fun vs H Q E h => ?_) (fun cdv A outer s0 H vs Q E hr h => ?_)
  · obtain ⟨x, f, rfl, _⟩ := h
    rfl
  · obtain ⟨x, f, rfl, ⟨dx, hx⟩, hpre, q⟩ := h
    refine ⟨_, (pss_one (ps_if (pt_cmpR op_ge (pe_fld (pv 0) rfl) (pe_fld (pv 0) rfl) (nomark _)) (pss_cons (ps_fld (pv 0) (pe_fld (pv 0) rfl) rfl)
      (pss_one (ps_expr (pe_meth0 (pv 0) T.cl_Leaper T.m_Leaper__begin_halving G_Leaper__begin_halving (hr.mono (by decide)) T.b_Leaper__begin_halving .nil pass0)))) (pss_one (ps_if (pt_val (pe_fld (pv 0) rfl)) (pss_one (ps_fld (pv 0) (pe_op op_add (pe_fld (pv 0) rfl) (pe_fld (pv 0) rfl)) rfl)) (pss_one (ps_fld (pv 0) (pe_op op_sub (pe_fld (pv 0) rfl) (pe_fld (pv 0) rfl)) rfl)))))), ?_⟩
    refine ⟨_, rfl, x, a.c_Leaper, dx, _, _, rfl, hx, T.cl_Leaper, T.n_step, rfl, _, rfl, x, a.c_Leaper, dx, _, _, rfl, hx, T.cl_Leaper, T.n_longest, rfl, _, _, rfl, rfl, ?_⟩
    by_cases c : f.long ≤ f.step
    · refine ⟨true, congrArg V.bl (decide_eq_true (by omega)), iteT ?_⟩
      refine ⟨_, rfl, x, a.c_Leaper, dx, _, _, rfl, hx, T.cl_Leaper, T.n_longest, rfl, _, rfl, x, a.c_Leaper, dx, _, rfl, hx, T.cl_Leaper, T.n_step, by show 11 < 1000; decide, ?_⟩
      obtain ⟨h1, fr1⟩ := lset (H := H) (x := x) (C := a.c_Leaper) (dx := dx) (w := putF "step" (.int (f.long : Int)) (fldsL f)) { f with step := f.long } rfl
      generalize upd H x (.ins a.c_Leaper dx (putF "step" (.int (f.long : Int)) (fldsL f))) = H1 at h1 fr1 ⊢
      refine ⟨_, rfl, x, dx, _, rfl, h1, rfl, x, _, rfl, ⟨dx, h1⟩, hpre, fun H4 L4 fr4 => q H4 ?_ (fr1.trans fr4)⟩
      unfold LP.stepOn
      rw [if_pos c]
      exact L4
    · refine ⟨false, congrArg V.bl (decide_eq_false (by omega)), iteF ?_⟩
      refine ⟨_, rfl, x, a.c_Leaper, dx, _, _, rfl, hx, T.cl_Leaper, T.n_upward, rfl, f.up, rfl, ?_⟩
      refine ite2 (fun u => ?_) (fun u => ?_)
      ·
        refine ⟨_, rfl, x, a.c_Leaper, dx, _, _, rfl, hx, T.cl_Leaper, T.n_hint, rfl, _, rfl, x, a.c_Leaper, dx, _, _, rfl, hx, T.cl_Leaper, T.n_step, rfl, _, _, rfl, rfl, _, rfl, x, a.c_Leaper, dx, _, rfl, hx, T.cl_Leaper, T.n_waiting, by show 11 < 1000; decide, ?_⟩
        have e1 : (f.hint : Int) + (f.step : Int) = ((f.hint + f.step : Nat) : Int) := by omega
        obtain ⟨h1, fr1⟩ := lset (H := H) (x := x) (C := a.c_Leaper) (dx := dx) (w := putF "waiting" (.int ((f.hint : Int) + (f.step : Int))) (fldsL f)) { f with wt := some (f.hint + f.step) } (by rw [e1]; rfl)
        generalize upd H x (.ins a.c_Leaper dx (putF "waiting" (.int ((f.hint : Int) + (f.step : Int))) (fldsL f))) = H1 at h1 fr1 ⊢
        refine q _ ⟨dx, ?_⟩ fr1
        unfold LP.stepOn
        rw [if_neg c, if_pos u]
        exact h1
      ·
        have hp : f.long ≤ f.hint + 1 ∧ f.last ≤ f.hint := hpre.resolve_left u
        refine ⟨_, rfl, x, a.c_Leaper, dx, _, _, rfl, hx, T.cl_Leaper, T.n_hint, rfl, _, rfl, x, a.c_Leaper, dx, _, _, rfl, hx, T.cl_Leaper, T.n_step, rfl, _, _, rfl, rfl, _, rfl, x, a.c_Leaper, dx, _, rfl, hx, T.cl_Leaper, T.n_waiting, by show 11 < 1000; decide, ?_⟩
        have e1 : (f.hint : Int) - (f.step : Int) = ((f.hint - f.step : Nat) : Int) := by omega
        obtain ⟨h1, fr1⟩ := lset (H := H) (x := x) (C := a.c_Leaper) (dx := dx) (w := putF "waiting" (.int ((f.hint : Int) - (f.step : Int))) (fldsL f)) { f with wt := some (f.hint - f.step) } (by rw [e1]; rfl)
        generalize upd H x (.ins a.c_Leaper dx (putF "waiting" (.int ((f.hint : Int) - (f.step : Int))) (fldsL f))) = H1 at h1 fr1 ⊢
        refine q _ ⟨dx, ?_⟩ fr1
        unfold LP.stepOn
        rw [if_neg c, if_neg u]
        exact h1
theorem ok_begin_stepping (T : Txt K mg a d) : FnOk P w K mg base CX0 4 a.Leaper__begin_stepping d.Leaper__begin_stepping P_Leaper__begin_stepping (spLb a.c_Leaper (fun f => f.hint < f.many ∧ f.last = 0) LP.begin) := by
  have G_Leaper__step_or_halve : FnOk P w K mg base CX0 3 a.Leaper__step_or_halve d.Leaper__step_or_halve P_Leaper__step_or_halve (spL a.c_Leaper (fun f => f.up = true ∨ (f.long ≤ f.hint + 1 ∧ f.last ≤ f.hint)) LP.stepOn) := ok_step_or_halve T
  refine T.f_Leaper__begin_stepping.ok sc_Leaper__begin_stepping (fun vs H Q E h => ?_) (fun cdv A outer s0 H vs Q E hr h => ?_)
  · obtain ⟨x, f, b, rfl, _⟩ := h
    rfl
  · obtain ⟨x, f, b, rfl, ⟨dx, hx⟩, ⟨hm, hl0⟩, q⟩ := h
    refine ⟨_, (pss_cons (ps_fld (pv 0) (pe_glob (v := .int 2) rfl T.g_STEPPING ⟨_, rfl⟩) rfl)
    (pss_cons (ps_fld (pv 0) (pv 1) rfl)
    (pss_cons (ps_fld (pv 0) (pe_ifExp (pt_val (pv 1)) (pe_op op_sub (pe_fld (pv 0) rfl) (pe_fld (pv 0) rfl)) (pe_op op_add (pe_fld (pv 0) rfl) pe_int)) rfl)
    (pss_one (ps_expr (pe_meth0 (pv 0) T.cl_Leaper T.m_Leaper__step_or_halve G_Leaper__step_or_halve (hr.mono (by decide)) T.b_Leaper__step_or_halve .nil pass0)))))), ?_⟩
    refine ⟨_, rfl, x, a.c_Leaper, dx, _, rfl, hx, T.cl_Leaper, T.n_phase, by show 11 < 1000; decide, ?_⟩
    obtain ⟨h1, fr1⟩ := lset (H := H) (x := x) (C := a.c_Leaper) (dx := dx) (w := putF "phase" (.int 2) (fldsL f)) { f with ph := 2 } rfl
    generalize upd H x (.ins a.c_Leaper dx (putF "phase" (.int 2) (fldsL f))) = H1 at h1 fr1 ⊢
    refine ⟨_, rfl, _, rfl, x, a.c_Leaper, dx, _, rfl, h1, T.cl_Leaper, T.n_upward, by show 11 < 1000; decide, ?_⟩
    obtain ⟨h2, fr2⟩ := lset (H := H1) (x := x) (C := a.c_Leaper) (dx := dx) (w := putF "upward" (.bl b) (fldsL { f with ph := 2 })) { f with ph := 2, up := b } rfl
    generalize upd H1 x (.ins a.c_Leaper dx (putF "upward" (.bl b) (fldsL { f with ph := 2 }))) = H2 at h2 fr2 ⊢
    refine ⟨_, rfl, b, rfl, ?_⟩
    cases b with
    | true =>
      refine iteT ?_
      refine ⟨_, rfl, x, a.c_Leaper, dx, _, _, rfl, h2, T.cl_Leaper, T.n_many, rfl, _, rfl, x, a.c_Leaper, dx, _, _, rfl, h2, T.cl_Leaper, T.n_hint, rfl, _, _, rfl, rfl, _, rfl, x, a.c_Leaper, dx, _, rfl, h2, T.cl_Leaper, T.n_longest, by show 11 < 1000; decide, ?_⟩
      have e1 : (f.many : Int) - (f.hint : Int) = ((f.many - f.hint : Nat) : Int) := by omega
      obtain ⟨h3, fr3⟩ := lset (H := H2) (x := x) (C := a.c_Leaper) (dx := dx) (w := putF "longest" (.int ((f.many : Int) - (f.hint : Int))) (fldsL { f with ph := 2, up := true })) { f with ph := 2, up := true, long := f.many - f.hint } (by rw [e1]; rfl)
      generalize upd H2 x (.ins a.c_Leaper dx (putF "longest" (.int ((f.many : Int) - (f.hint : Int))) (fldsL { f with ph := 2, up := true }))) = H3 at h3 fr3 ⊢
      exact ⟨_, rfl, x, dx, _, rfl, h3, rfl, x, _, rfl, ⟨dx, h3⟩, .inl rfl, fun H4 L4 fr4 => q H4 L4 (((fr1.trans fr2).trans fr3).trans fr4)⟩
    | false =>
      refine iteF ?_
      refine ⟨_, rfl, x, a.c_Leaper, dx, _, _, rfl, h2, T.cl_Leaper, T.n_hint, rfl, _, _, rfl, rfl, _, rfl, x, a.c_Leaper, dx, _, rfl, h2, T.cl_Leaper, T.n_longest, by show 11 < 1000; decide, ?_⟩
      obtain ⟨h3, fr3⟩ := lset (H := H2) (x := x) (C := a.c_Leaper) (dx := dx) (w := putF "longest" (.int ((f.hint : Int) + 1)) (fldsL { f with ph := 2, up := false })) { f with ph := 2, up := false, long := f.hint + 1 } rfl
      generalize upd H2 x (.ins a.c_Leaper dx (putF "longest" (.int ((f.hint : Int) + 1)) (fldsL { f with ph := 2, up := false }))) = H3 at h3 fr3 ⊢
      exact ⟨_, rfl, x, dx, _, rfl, h3, rfl, x, _, rfl, ⟨dx, h3⟩, .inr ⟨Nat.le_refl _, by show f.last ≤ f.hint; omega⟩, fun H4 L4 fr4 => q H4 L4 (((fr1.trans fr2).trans fr3).trans fr4)⟩
theorem ok_take_step (T : Txt K mg a d) : FnOk P w K mg base CX0 4 a.Leaper__take_step d.Leaper__take_step P_Leaper__take_step (spLb a.c_Leaper (fun f => f.last < f.step ∧ f.step < f.long ∧ (f.up = true ∨ f.long ≤ f.hint + 1)) LP.takeStep) := by
  have G_Leaper__step_or_halve : FnOk P w K mg base CX0 3 a.Leaper__step_or_halve d.Leaper__step_or_halve P_Leaper__step_or_halve (spL a.c_Leaper (fun f => f.up = true ∨ (f.long ≤ f.hint + 1 ∧ f.last ≤ f.hint)) LP.stepOn) := ok_step_or_halve T
  have G_Leaper__begin_halving : FnOk P w K mg base CX0 2 a.Leaper__begin_halving d.Leaper__begin_halving P_Leaper__begin_halving (spL a.c_Leaper (fun f => f.up = true ∨ (f.step ≤ f.hint + 1 ∧ f.last ≤ f.hint)) LP.beginHalving) := ok_begin_halving T
  refine T.f_Leaper__take_step.ok sc_Leaper__take_step (fun vs H Q E h => ?_) (fun cdv A outer s0 H vs Q E hr h => ?_)
  · obtain ⟨x, f, b, rfl, _⟩ := h
    rfl
  · obtain ⟨x, f, b, rfl, ⟨dx, hx⟩, ⟨h1', h2', h3'⟩, q⟩ := h
    refine ⟨_, (pss_one (ps_if (pt_cmpR op_eq (pv 1) (pe_fld (pv 0) rfl) (nomark _)) (pss_cons (ps_fld (pv 0) (pe_fld (pv 0) rfl) rfl)
      (pss_cons (ps_fld (pv 0) (pe_op op_add (pe_op op_mul pe_int (pe_fld (pv 0) rfl)) pe_int) rfl)
      (pss_one (ps_expr (pe_meth0 (pv 0) T.cl_Leaper T.m_Leaper__step_or_halve G_Leaper__step_or_halve (hr.mono (by decide)) T.b_Leaper__step_or_halve .nil pass0))))) (pss_one (ps_expr (pe_meth0 (pv 0) T.cl_Leaper T.m_Leaper__begin_halving G_Leaper__begin_halving (hr.mono (by decide)) T.b_Leaper__begin_halving .nil pass0))))), ?_⟩
    refine ⟨_, rfl, _, rfl, x, a.c_Leaper, dx, _, _, rfl, hx, T.cl_Leaper, T.n_upward, rfl, rfl, ?_⟩
    by_cases e : b = f.up
    · refine ⟨true, congrArg V.bl (decide_eq_true (congrArg V.bl e)), iteT ?_⟩
      refine ⟨_, rfl, x, a.c_Leaper, dx, _, _, rfl, hx, T.cl_Leaper, T.n_step, rfl, _, rfl, x, a.c_Leaper, dx, _, rfl, hx, T.cl_Leaper, T.n_last, by show 11 < 1000; decide, ?_⟩
      obtain ⟨h1, fr1⟩ := lset (H := H) (x := x) (C := a.c_Leaper) (dx := dx) (w := putF "last" (.int (f.step : Int)) (fldsL f)) { f with last := f.step } rfl
      generalize upd H x (.ins a.c_Leaper dx (putF "last" (.int (f.step : Int)) (fldsL f))) = H1 at h1 fr1 ⊢
      refine ⟨_, rfl, x, a.c_Leaper, dx, _, _, rfl, h1, T.cl_Leaper, T.n_step, rfl, _, _, rfl, rfl, .inl ⟨by decide, by decide⟩, _, _, rfl, rfl, _, rfl, x, a.c_Leaper, dx, _, rfl, h1, T.cl_Leaper, T.n_step, by show 11 < 1000; decide, ?_⟩
      have e1 : 2 * (f.step : Int) + 1 = ((2 * f.step + 1 : Nat) : Int) := by omega
      obtain ⟨h2, fr2⟩ := lset (H := H1) (x := x) (C := a.c_Leaper) (dx := dx) (w := putF "step" (.int (2 * (f.step : Int) + 1)) (fldsL { f with last := f.step })) { f with last := f.step, step := 2 * f.step + 1 } (by rw [e1]; rfl)
      generalize upd H1 x (.ins a.c_Leaper dx (putF "step" (.int (2 * (f.step : Int) + 1)) (fldsL { f with last := f.step }))) = H2 at h2 fr2 ⊢
      refine ⟨_, rfl, x, dx, _, rfl, h2, rfl, x, _, rfl, ⟨dx, h2⟩, ?_, fun H4 L4 fr4 => q H4 ?_ ((fr1.trans fr2).trans fr4)⟩
      · rcases h3' with h | h
        · exact .inl h
        · exact .inr ⟨h, by show f.step ≤ f.hint; omega⟩
      · unfold LP.takeStep
        rw [if_pos e]
        exact L4
    · refine ⟨false, congrArg V.bl (decide_eq_false fun z => e (V.bl.inj z)), iteF ?_⟩
      refine ⟨_, rfl, x, dx, _, rfl, hx, rfl, x, _, rfl, ⟨dx, hx⟩, ?_, fun H4 L4 fr4 => q H4 ?_ fr4⟩
      · rcases h3' with h | h
        · exact .inl h
        · exact .inr ⟨by omega, by omega⟩
      · unfold LP.takeStep
        rw [if_neg e]
        exact L4
theorem ok_take_half (T : Txt K mg a d) : FnOk P w K mg base CX0 2 a.Leaper__take_half d.Leaper__take_half P_Leaper__take_half (spLb a.c_Leaper (fun f => f.wt ≠ none) LP.takeHalf) := by
  have G_Leaper__halve : FnOk P w K mg base CX0 1 a.Leaper__halve d.Leaper__halve P_Leaper__halve (spL a.c_Leaper (fun _ => True) LP.halve) := ok_halve T
  refine T.f_Leaper__take_half.ok sc_Leaper__take_half (fun vs H Q E h => ?_) (fun cdv A outer s0 H vs Q E hr h => ?_)
  · obtain ⟨x, f, b, rfl, _⟩ := h
    rfl
  · obtain ⟨x, f, b, rfl, ⟨dx, hx⟩, hw, q⟩ := h
    refine ⟨_, (pss_cons (ps_if (pt_val (pv 1)) (pss_one (ps_fld (pv 0) (pe_op op_add (pe_fld (pv 0) rfl) pe_int) rfl)) (pss_one (ps_fld (pv 0) (pe_fld (pv 0) rfl) rfl)))
    (pss_one (ps_expr (pe_meth0 (pv 0) T.cl_Leaper T.m_Leaper__halve G_Leaper__halve (hr.mono (by decide)) T.b_Leaper__halve .nil pass0)))), ?_⟩
    obtain ⟨i, hi⟩ : ∃ i, f.wt = some i := by
      cases e : f.wt with
      | none => exact absurd e hw
      | some i => exact ⟨i, rfl⟩
    have ew : optN f.wt = .int (i : Int) := by rw [hi]; rfl
    have eg : f.wt.getD 0 = i := by rw [hi]; rfl
    refine ⟨_, rfl, b, rfl, ?_⟩
    cases b with
    | true =>
      refine iteT ?_
      refine ⟨_, rfl, x, a.c_Leaper, dx, _, _, rfl, hx, T.cl_Leaper, T.n_waiting, rfl, (i : Int), 1, ew, rfl, _, rfl, x, a.c_Leaper, dx, _, rfl, hx, T.cl_Leaper, T.n_left, by show 11 < 1000; decide, ?_⟩
      have e1 : (i : Int) + 1 = ((f.wt.getD 0 + 1 : Nat) : Int) := by rw [eg]; rfl
      obtain ⟨h1, fr1⟩ := lset (H := H) (x := x) (C := a.c_Leaper) (dx := dx) (w := putF "left" (.int ((i : Int) + 1)) (fldsL f)) { f with lf := f.wt.getD 0 + 1 } (by rw [e1]; rfl)
      generalize upd H x (.ins a.c_Leaper dx (putF "left" (.int ((i : Int) + 1)) (fldsL f))) = H1 at h1 fr1 ⊢
      exact ⟨_, rfl, x, dx, _, rfl, h1, rfl, x, _, rfl, ⟨dx, h1⟩, trivial, fun H4 L4 fr4 => q H4 L4 (fr1.trans fr4)⟩
    | false =>
      refine iteF ?_
      refine ⟨_, rfl, x, a.c_Leaper, dx, _, _, rfl, hx, T.cl_Leaper, T.n_waiting, rfl, _, rfl, x, a.c_Leaper, dx, _, rfl, hx, T.cl_Leaper, T.n_right, by show 11 < 1000; decide, ?_⟩
      obtain ⟨h1, fr1⟩ := lset (H := H) (x := x) (C := a.c_Leaper) (dx := dx) (w := putF "right" (optN f.wt) (fldsL f)) { f with rt := f.wt.getD 0 } (by rw [ew, eg]; rfl)
      generalize upd H x (.ins a.c_Leaper dx (putF "right" (optN f.wt) (fldsL f))) = H1 at h1 fr1 ⊢
      exact ⟨_, rfl, x, dx, _, rfl, h1, rfl, x, _, rfl, ⟨dx, h1⟩, trivial, fun H4 L4 fr4 => q H4 L4 (fr1.trans fr4)⟩
theorem ok_ltake (T : Txt K mg a d) : FnOk P w K mg base CX0 5 a.Leaper_take d.Leaper_take P_Leaper_take (spLb a.c_Leaper (fun f => LP.WF f ∧ f.wt ≠ none) LP.take) := by
  have G_Leaper__begin_stepping : FnOk P w K mg base CX0 4 a.Leaper__begin_stepping d.Leaper__begin_stepping P_Leaper__begin_stepping (spLb a.c_Leaper (fun f => f.hint < f.many ∧ f.last = 0) LP.begin) := ok_begin_stepping T
  have G_Leaper__take_step : FnOk P w K mg base CX0 4 a.Leaper__take_step d.Leaper__take_step P_Leaper__take_step (spLb a.c_Leaper (fun f => f.last < f.step ∧ f.step < f.long ∧ (f.up = true ∨ f.long ≤ f.hint + 1)) LP.takeStep) := ok_take_step T
  have G_Leaper__take_half : FnOk P w K mg base CX0 2 a.Leaper__take_half d.Leaper__take_half P_Leaper__take_half (spLb a.c_Leaper (fun f => f.wt ≠ none) LP.takeHalf) := ok_take_half T
  refine T.f_Leaper_take.ok sc_Leaper_take (fun vs H Q E h => ?_) (fun cdv A outer s0 H vs Q E hr h => ?_)
  · obtain ⟨x, f, b, rfl, _⟩ := h
    rfl
  · obtain ⟨x, f, b, rfl, ⟨dx, hx⟩, ⟨wf, hw⟩, q⟩ := h
    refine ⟨_, (pss_one (ps_if (pt_cmpR op_eq (pe_fld (pv 0) rfl) (pe_glob (v := .int 1) rfl T.g_AT_HINT ⟨_, rfl⟩) (nomark _)) (pss_one (ps_expr (pe_meth (pv 0) T.cl_Leaper T.m_Leaper__begin_stepping G_Leaper__begin_stepping (hr.mono (by decide)) T.b_Leaper__begin_stepping .nil pass0 (pa_cons (pv 1) pa_nil)))) (pss_one (ps_if (pt_cmpR op_eq (pe_fld (pv 0) rfl) (pe_glob (v := .int 2) rfl T.g_STEPPING ⟨_, rfl⟩) (nomark _)) (pss_one (ps_expr (pe_meth (pv 0) T.cl_Leaper T.m_Leaper__take_step G_Leaper__take_step (hr.mono (by decide)) T.b_Leaper__take_step .nil pass0 (pa_cons (pv 1) pa_nil)))) (pss_one (ps_expr (pe_meth (pv 0) T.cl_Leaper T.m_Leaper__take_half G_Leaper__take_half (hr.mono (by decide)) T.b_Leaper__take_half .nil pass0 (pa_cons (pv 1) pa_nil)))))))), ?_⟩
    refine ⟨_, rfl, x, a.c_Leaper, dx, _, _, rfl, hx, T.cl_Leaper, T.n_phase, rfl, rfl, ?_⟩
    by_cases c1 : f.ph = 1
    · refine ⟨true, dnT (m := 1) c1, iteT ?_⟩
      obtain ⟨_, h2, _⟩ := wf.w1 c1
      refine ⟨_, rfl, x, dx, _, rfl, hx, rfl, _, rfl, x, f, b, rfl, ⟨dx, hx⟩, ⟨wf.hm, h2⟩, fun H4 L4 fr4 => q H4 ?_ fr4⟩
      unfold LP.take
      rw [if_pos c1]
      exact L4
    · refine ⟨false, dnF (m := 1) c1, iteF ?_⟩
      refine ⟨_, rfl, x, a.c_Leaper, dx, _, _, rfl, hx, T.cl_Leaper, T.n_phase, rfl, rfl, ?_⟩
      by_cases c2 : f.ph = 2
      · refine ⟨true, dnT (m := 2) c2, iteT ?_⟩
        obtain ⟨h1, h2, h3, _⟩ := wf.w2 c2
        refine ⟨_, rfl, x, dx, _, rfl, hx, rfl, _, rfl, x, f, b, rfl, ⟨dx, hx⟩, ⟨h2, h3, ?_⟩, fun H4 L4 fr4 => q H4 ?_ fr4⟩
        · by_cases u : f.up = true
          · exact .inl u
          · rw [if_neg u] at h1
            exact .inr (by omega)
        · unfold LP.take
          rw [if_neg c1, if_pos c2]
          exact L4
      · refine ⟨false, dnF (m := 2) c2, iteF ?_⟩
        refine ⟨_, rfl, x, dx, _, rfl, hx, rfl, _, rfl, x, f, b, rfl, ⟨dx, hx⟩, hw, fun H4 L4 fr4 => q H4 ?_ fr4⟩
        unfold LP.take
        rw [if_neg c1, if_neg c2]
        exact L4
end

end K25

namespace K25
open PySem PySem.Spec PyProof.Rows L2 LamX
def spInitL (C : Addr) : Sp := fun vs H Q _ => ∃ (x dx : Addr) (many hint : Nat), vs = [.ref x, .int (many : Int), .int (hint : Int)] ∧ H x = some (.ins C dx []) ∧ ∀ H', LAt C H' x (LP.init many hint) → Fr1 x H H' → Q .non H'
section
variable {P : Program} {w : World} {K : PySem.W.Frag} {mg : Str → Option Value} {base : Heap} {a : Ad} {d : Fd}
theorem ok_linit (T : Txt K mg a d) : FnOk P w K mg base CX0 1 a.Leaper___init__ d.Leaper___init__ P_Leaper___init__ (spInitL a.c_Leaper) := by
  refine T.f_Leaper___init__.ok sc_Leaper___init__ (fun vs H Q E h => ?_) (fun cdv A outer s0 H vs Q E hr h => ?_)
  · obtain ⟨x, dx, many, hint, rfl, _⟩ := h
    rfl
  · obtain ⟨x, dx, many, hint, rfl, h0, q⟩ := h
    refine ⟨_, (pss_cons (ps_fld (pv 0) (pv 1) rfl)
    (pss_cons (ps_fld (pv 0) (pv 2) rfl)
    (pss_cons (ps_fld (pv 0) (pe_glob (v := .int 1) rfl T.g_AT_HINT ⟨_, rfl⟩) rfl)
    (pss_cons (ps_fld (pv 0) pe_bl rfl)
    (pss_cons (ps_fld (pv 0) pe_int rfl)
    (pss_cons (ps_fld (pv 0) pe_int rfl)
    (pss_cons (ps_fld (pv 0) pe_int rfl)
    (pss_cons (ps_fld (pv 0) pe_int rfl)
    (pss_cons (ps_fld (pv 0) pe_int rfl)
    (pss_cons (ps_fld (pv 0) (pv 2) rfl)
    (pss_one (ps_fld (pv 0) pe_non rfl)))))))))))), ?_⟩
    have fr0 := Fr1.refl x H
    refine ⟨_, rfl, _, rfl, x, a.c_Leaper, dx, _, rfl, h0, T.cl_Leaper, T.n_many, by show 0 < 1000; decide, ?_⟩
    have h1 : upd H x (.ins a.c_Leaper dx (putF "many" (.int (many : Int)) ([] : List (Str × V)))) x = some (.ins a.c_Leaper dx ([("many", .int (many : Int))] : List (Str × V))) := upd_same
    have fr1 : Fr1 x H (upd H x (.ins a.c_Leaper dx (putF "many" (.int (many : Int)) ([] : List (Str × V))))) := fr0.trans fun b o n h => by rw [upd_ne n]; exact h
    generalize upd H x (.ins a.c_Leaper dx (putF "many" (.int (many : Int)) ([] : List (Str × V)))) = H1 at h1 fr1 ⊢
    refine ⟨_, rfl, _, rfl, x, a.c_Leaper, dx, _, rfl, h1, T.cl_Leaper, T.n_hint, by show 1 < 1000; decide, ?_⟩
    have h2 : upd H1 x (.ins a.c_Leaper dx (putF "hint" (.int (hint : Int)) ([("many", .int (many : Int))] : List (Str × V)))) x = some (.ins a.c_Leaper dx ([("many", .int (many : Int)), ("hint", .int (hint : Int))] : List (Str × V))) := upd_same
    have fr2 : Fr1 x H (upd H1 x (.ins a.c_Leaper dx (putF "hint" (.int (hint : Int)) ([("many", .int (many : Int))] : List (Str × V))))) := fr1.trans fun b o n h => by rw [upd_ne n]; exact h
    generalize upd H1 x (.ins a.c_Leaper dx (putF "hint" (.int (hint : Int)) ([("many", .int (many : Int))] : List (Str × V)))) = H2 at h2 fr2 ⊢
    refine ⟨_, rfl, x, a.c_Leaper, dx, _, rfl, h2, T.cl_Leaper, T.n_phase, by show 2 < 1000; decide, ?_⟩
    have h3 : upd H2 x (.ins a.c_Leaper dx (putF "phase" (.int 1) ([("many", .int (many : Int)), ("hint", .int (hint : Int))] : List (Str × V)))) x = some (.ins a.c_Leaper dx ([("many", .int (many : Int)), ("hint", .int (hint : Int)), ("phase", .int 1)] : List (Str × V))) := upd_same
    have fr3 : Fr1 x H (upd H2 x (.ins a.c_Leaper dx (putF "phase" (.int 1) ([("many", .int (many : Int)), ("hint", .int (hint : Int))] : List (Str × V))))) := fr2.trans fun b o n h => by rw [upd_ne n]; exact h
    generalize upd H2 x (.ins a.c_Leaper dx (putF "phase" (.int 1) ([("many", .int (many : Int)), ("hint", .int (hint : Int))] : List (Str × V)))) = H3 at h3 fr3 ⊢
    refine ⟨_, rfl, x, a.c_Leaper, dx, _, rfl, h3, T.cl_Leaper, T.n_upward, by show 3 < 1000; decide, ?_⟩
    have h4 : upd H3 x (.ins a.c_Leaper dx (putF "upward" (.bl false) ([("many", .int (many : Int)), ("hint", .int (hint : Int)), ("phase", .int 1)] : List (Str × V)))) x = some (.ins a.c_Leaper dx ([("many", .int (many : Int)), ("hint", .int (hint : Int)), ("phase", .int 1), ("upward", .bl false)] : List (Str × V))) := upd_same
    have fr4 : Fr1 x H (upd H3 x (.ins a.c_Leaper dx (putF "upward" (.bl false) ([("many", .int (many : Int)), ("hint", .int (hint : Int)), ("phase", .int 1)] : List (Str × V))))) := fr3.trans fun b o n h => by rw [upd_ne n]; exact h
    generalize upd H3 x (.ins a.c_Leaper dx (putF "upward" (.bl false) ([("many", .int (many : Int)), ("hint", .int (hint : Int)), ("phase", .int 1)] : List (Str × V)))) = H4 at h4 fr4 ⊢
    refine ⟨_, rfl, x, a.c_Leaper, dx, _, rfl, h4, T.cl_Leaper, T.n_last, by show 4 < 1000; decide, ?_⟩
    have h5 : upd H4 x (.ins a.c_Leaper dx (putF "last" (.int 0) ([("many", .int (many : Int)), ("hint", .int (hint : Int)), ("phase", .int 1), ("upward", .bl false)] : List (Str × V)))) x = some (.ins a.c_Leaper dx ([("many", .int (many : Int)), ("hint", .int (hint : Int)), ("phase", .int 1), ("upward", .bl false), ("last", .int 0)] : List (Str × V))) := upd_same
    have fr5 : Fr1 x H (upd H4 x (.ins a.c_Leaper dx (putF "last" (.int 0) ([("many", .int (many : Int)), ("hint", .int (hint : Int)), ("phase", .int 1), ("upward", .bl false)] : List (Str × V))))) := fr4.trans fun b o n h => by rw [upd_ne n]; exact h
    generalize upd H4 x (.ins a.c_Leaper dx (putF "last" (.int 0) ([("many", .int (many : Int)), ("hint", .int (hint : Int)), ("phase", .int 1), ("upward", .bl false)] : List (Str × V)))) = H5 at h5 fr5 ⊢
    refine ⟨_, rfl, x, a.c_Leaper, dx, _, rfl, h5, T.cl_Leaper, T.n_step, by show 5 < 1000; decide, ?_⟩
    have h6 : upd H5 x (.ins a.c_Leaper dx (putF "step" (.int 1) ([("many", .int (many : Int)), ("hint", .int (hint : Int)), ("phase", .int 1), ("upward", .bl false), ("last", .int 0)] : List (Str × V)))) x = some (.ins a.c_Leaper dx ([("many", .int (many : Int)), ("hint", .int (hint : Int)), ("phase", .int 1), ("upward", .bl false), ("last", .int 0), ("step", .int 1)] : List (Str × V))) := upd_same
    have fr6 : Fr1 x H (upd H5 x (.ins a.c_Leaper dx (putF "step" (.int 1) ([("many", .int (many : Int)), ("hint", .int (hint : Int)), ("phase", .int 1), ("upward", .bl false), ("last", .int 0)] : List (Str × V))))) := fr5.trans fun b o n h => by rw [upd_ne n]; exact h
    generalize upd H5 x (.ins a.c_Leaper dx (putF "step" (.int 1) ([("many", .int (many : Int)), ("hint", .int (hint : Int)), ("phase", .int 1), ("upward", .bl false), ("last", .int 0)] : List (Str × V)))) = H6 at h6 fr6 ⊢
    refine ⟨_, rfl, x, a.c_Leaper, dx, _, rfl, h6, T.cl_Leaper, T.n_longest, by show 6 < 1000; decide, ?_⟩
    have h7 : upd H6 x (.ins a.c_Leaper dx (putF "longest" (.int 0) ([("many", .int (many : Int)), ("hint", .int (hint : Int)), ("phase", .int 1), ("upward", .bl false), ("last", .int 0), ("step", .int 1)] : List (Str × V)))) x = some (.ins a.c_Leaper dx ([("many", .int (many : Int)), ("hint", .int (hint : Int)), ("phase", .int 1), ("upward", .bl false), ("last", .int 0), ("step", .int 1), ("longest", .int 0)] : List (Str × V))) := upd_same
    have fr7 : Fr1 x H (upd H6 x (.ins a.c_Leaper dx (putF "longest" (.int 0) ([("many", .int (many : Int)), ("hint", .int (hint : Int)), ("phase", .int 1), ("upward", .bl false), ("last", .int 0), ("step", .int 1)] : List (Str × V))))) := fr6.trans fun b o n h => by rw [upd_ne n]; exact h
    generalize upd H6 x (.ins a.c_Leaper dx (putF "longest" (.int 0) ([("many", .int (many : Int)), ("hint", .int (hint : Int)), ("phase", .int 1), ("upward", .bl false), ("last", .int 0), ("step", .int 1)] : List (Str × V)))) = H7 at h7 fr7 ⊢
    refine ⟨_, rfl, x, a.c_Leaper, dx, _, rfl, h7, T.cl_Leaper, T.n_left, by show 7 < 1000; decide, ?_⟩
    have h8 : upd H7 x (.ins a.c_Leaper dx (putF "left" (.int 0) ([("many", .int (many : Int)), ("hint", .int (hint : Int)), ("phase", .int 1), ("upward", .bl false), ("last", .int 0), ("step", .int 1), ("longest", .int 0)] : List (Str × V)))) x = some (.ins a.c_Leaper dx ([("many", .int (many : Int)), ("hint", .int (hint : Int)), ("phase", .int 1), ("upward", .bl false), ("last", .int 0), ("step", .int 1), ("longest", .int 0), ("left", .int 0)] : List (Str × V))) := upd_same
    have fr8 : Fr1 x H (upd H7 x (.ins a.c_Leaper dx (putF "left" (.int 0) ([("many", .int (many : Int)), ("hint", .int (hint : Int)), ("phase", .int 1), ("upward", .bl false), ("last", .int 0), ("step", .int 1), ("longest", .int 0)] : List (Str × V))))) := fr7.trans fun b o n h => by rw [upd_ne n]; exact h
    generalize upd H7 x (.ins a.c_Leaper dx (putF "left" (.int 0) ([("many", .int (many : Int)), ("hint", .int (hint : Int)), ("phase", .int 1), ("upward", .bl false), ("last", .int 0), ("step", .int 1), ("longest", .int 0)] : List (Str × V)))) = H8 at h8 fr8 ⊢
    refine ⟨_, rfl, x, a.c_Leaper, dx, _, rfl, h8, T.cl_Leaper, T.n_right, by show 8 < 1000; decide, ?_⟩
    have h9 : upd H8 x (.ins a.c_Leaper dx (putF "right" (.int 0) ([("many", .int (many : Int)), ("hint", .int (hint : Int)), ("phase", .int 1), ("upward", .bl false), ("last", .int 0), ("step", .int 1), ("longest", .int 0), ("left", .int 0)] : List (Str × V)))) x = some (.ins a.c_Leaper dx ([("many", .int (many : Int)), ("hint", .int (hint : Int)), ("phase", .int 1), ("upward", .bl false), ("last", .int 0), ("step", .int 1), ("longest", .int 0), ("left", .int 0), ("right", .int 0)] : List (Str × V))) := upd_same
    have fr9 : Fr1 x H (upd H8 x (.ins a.c_Leaper dx (putF "right" (.int 0) ([("many", .int (many : Int)), ("hint", .int (hint : Int)), ("phase", .int 1), ("upward", .bl false), ("last", .int 0), ("step", .int 1), ("longest", .int 0), ("left", .int 0)] : List (Str × V))))) := fr8.trans fun b o n h => by rw [upd_ne n]; exact h
    generalize upd H8 x (.ins a.c_Leaper dx (putF "right" (.int 0) ([("many", .int (many : Int)), ("hint", .int (hint : Int)), ("phase", .int 1), ("upward", .bl false), ("last", .int 0), ("step", .int 1), ("longest", .int 0), ("left", .int 0)] : List (Str × V)))) = H9 at h9 fr9 ⊢
    refine ⟨_, rfl, _, rfl, x, a.c_Leaper, dx, _, rfl, h9, T.cl_Leaper, T.n_waiting, by show 9 < 1000; decide, ?_⟩
    have h10 : upd H9 x (.ins a.c_Leaper dx (putF "waiting" (.int (hint : Int)) ([("many", .int (many : Int)), ("hint", .int (hint : Int)), ("phase", .int 1), ("upward", .bl false), ("last", .int 0), ("step", .int 1), ("longest", .int 0), ("left", .int 0), ("right", .int 0)] : List (Str × V)))) x = some (.ins a.c_Leaper dx ([("many", .int (many : Int)), ("hint", .int (hint : Int)), ("phase", .int 1), ("upward", .bl false), ("last", .int 0), ("step", .int 1), ("longest", .int 0), ("left", .int 0), ("right", .int 0), ("waiting", .int (hint : Int))] : List (Str × V))) := upd_same
    have fr10 : Fr1 x H (upd H9 x (.ins a.c_Leaper dx (putF "waiting" (.int (hint : Int)) ([("many", .int (many : Int)), ("hint", .int (hint : Int)), ("phase", .int 1), ("upward", .bl false), ("last", .int 0), ("step", .int 1), ("longest", .int 0), ("left", .int 0), ("right", .int 0)] : List (Str × V))))) := fr9.trans fun b o n h => by rw [upd_ne n]; exact h
    generalize upd H9 x (.ins a.c_Leaper dx (putF "waiting" (.int (hint : Int)) ([("many", .int (many : Int)), ("hint", .int (hint : Int)), ("phase", .int 1), ("upward", .bl false), ("last", .int 0), ("step", .int 1), ("longest", .int 0), ("left", .int 0), ("right", .int 0)] : List (Str × V)))) = H10 at h10 fr10 ⊢
    refine ⟨_, rfl, x, a.c_Leaper, dx, _, rfl, h10, T.cl_Leaper, T.n_found, by show 10 < 1000; decide, ?_⟩
    have h11 : upd H10 x (.ins a.c_Leaper dx (putF "found" (.non) ([("many", .int (many : Int)), ("hint", .int (hint : Int)), ("phase", .int 1), ("upward", .bl false), ("last", .int 0), ("step", .int 1), ("longest", .int 0), ("left", .int 0), ("right", .int 0), ("waiting", .int (hint : Int))] : List (Str × V)))) x = some (.ins a.c_Leaper dx ([("many", .int (many : Int)), ("hint", .int (hint : Int)), ("phase", .int 1), ("upward", .bl false), ("last", .int 0), ("step", .int 1), ("longest", .int 0), ("left", .int 0), ("right", .int 0), ("waiting", .int (hint : Int)), ("found", .non)] : List (Str × V))) := upd_same
    have fr11 : Fr1 x H (upd H10 x (.ins a.c_Leaper dx (putF "found" (.non) ([("many", .int (many : Int)), ("hint", .int (hint : Int)), ("phase", .int 1), ("upward", .bl false), ("last", .int 0), ("step", .int 1), ("longest", .int 0), ("left", .int 0), ("right", .int 0), ("waiting", .int (hint : Int))] : List (Str × V))))) := fr10.trans fun b o n h => by rw [upd_ne n]; exact h
    generalize upd H10 x (.ins a.c_Leaper dx (putF "found" (.non) ([("many", .int (many : Int)), ("hint", .int (hint : Int)), ("phase", .int 1), ("upward", .bl false), ("last", .int 0), ("step", .int 1), ("longest", .int 0), ("left", .int 0), ("right", .int 0), ("waiting", .int (hint : Int))] : List (Str × V)))) = H11 at h11 fr11 ⊢
    exact q H11 ⟨dx, h11⟩ fr11
/-- the places that are asked till it ends -/
abbrev leapN (low : Nat → Bool) (many hint n : Nat) : LP := (LP.init many hint).stps low n
abbrev leapQ (low : Nat → Bool) (many hint n : Nat) : List Nat := (LP.init many hint).asks low n
def TTleap : V → V → (V → Hp → VK → Prop) → Hp → VK → Prop := fun v1 v2 tl H Q => ∃ (many hint : Nat) (low : Nat → Bool), v1 = .int (many : Int) ∧ v2 = .int (hint : Int) ∧ hint < many ∧ many ≤ 10 ^ 30 ∧ (∀ (i : Nat) (H' : Hp) (R : VK), Same H H' → i < many → R (.bl (low i)) H' → tl (.int (i : Int)) H' R) ∧
  ∀ (N : Nat) (t l : Addr) (H' : Hp), (leapN low many hint N).wt = none → (∀ i, i < N → (leapN low many hint i).wt ≠ none) → N ≤ 300 → Same H H' → H t = none → H l = none → H' t = some (.tup [optN (leapN low many hint N).fd, .ref l]) → H' l = some (.lst (nV (leapQ low many hint N))) → Q (.ref t) H'
theorem gives_leap (T : Txt K mg a d) : GivesTo3 P w K mg base 5 N_leap "leap" (defScope s_leap) a.leap (defBody s_leap) "is_low" TTleap := by
  have G_Leaper___init__ : FnOk P w K mg base CX0 1 a.Leaper___init__ d.Leaper___init__ P_Leaper___init__ (spInitL a.c_Leaper) := ok_linit T
  have G_Leaper_take : FnOk P w K mg base CX0 5 a.Leaper_take d.Leaper_take P_Leaper_take (spLb a.c_Leaper (fun f => LP.WF f ∧ f.wt ≠ none) LP.take) := ok_ltake T
  intro qs cdv A outer f c' s0 H Q v1 v2 tl hr act hco h
  obtain ⟨many, hint, low, rfl, rfl, hm, hb, hlow, q⟩ := h
  refine ⟨_, (pss_cons (ps_set (i := 3) sc_leap.nd rfl (Or.inl rfl) (pe_make T.mk_Leaper G_Leaper___init__ (hr.mono (by decide)) (by rfl) T.g_Leaper T.b_Leaper___init__ .nil pass0 (pa_cons (pv 0) (pa_cons (pv 1) pa_nil))))
    (pss_cons (ps_set (i := 4) sc_leap.nd rfl (Or.inl rfl) (pe_lst pa_nil))
    (pss_cons (ps_while PassesOwn.never (pt_cmpR op_notN (pe_fld (pv 3) rfl) pe_non (nomark _))
      (pss_cons (ps_expr (pe_bm PySem.F.plainAttrs_list PySem.F.slot_list_append PySem.F.type_list_append mt_append (pv 4) (pa_cons (pe_fld (pv 3) rfl) pa_nil)))
        (pss_one (ps_expr (pe_meth (pv 3) T.cl_Leaper T.m_Leaper_take G_Leaper_take (hr.mono (by decide)) T.b_Leaper_take .nil pass0 (pa_cons (act _ _ _ _ (pe_fld (pv 3) rfl) rfl) pa_nil))))))
    (pss_one (ps_ret (pe_tup (pa_cons (pe_fld (pv 3) rfl) (pa_cons (pv 4) pa_nil)))))))), ?_⟩
  refine ⟨_, rfl, _, rfl, ?_⟩
  intro x dx hx hdx nxd
  have s3 : Same H (upd (upd H dx (.own x)) x (.ins a.c_Leaper dx [])) := (same_upd hdx).trans (same_upd (by rw [upd_ne nxd.symm]; exact hx))
  have hxi : upd (upd H dx (.own x)) x (.ins a.c_Leaper dx []) x = some (.ins a.c_Leaper dx []) := upd_same
  generalize upd (upd H dx (.own x)) x (.ins a.c_Leaper dx []) = H3 at s3 hxi ⊢
  refine ⟨x, dx, many, hint, rfl, hxi, fun H4 L4 fr4 => ⟨rfl, ?_⟩⟩
  have s4 : Same H H4 := fun b o e => fr4 _ _ (ne_of_none e hx) (s3 _ _ e)
  refine ⟨Nat.zero_le _, fun l hlN => ?_⟩
  have lH : H l = none := by
    cases e : H l with
    | none => rfl
    | some o => rw [s4 _ _ e] at hlN; cases hlN
  have nlx : l ≠ x := fun e => by
    obtain ⟨_, h⟩ := L4
    rw [e, h] at hlN
    cases hlN
  have s5 := s4.trans (same_upd (o := .lst []) hlN)
  have L5 : LAt a.c_Leaper (upd H4 l (.lst [])) x (leapN low many hint 0) := by
    obtain ⟨dx4, h⟩ := L4
    exact ⟨dx4, by rw [upd_ne nlx.symm]; exact h⟩
  have hl5 : upd H4 l (.lst []) l = some (.lst (nV (leapQ low many hint 0))) := upd_same
  generalize upd H4 l (.lst []) = H5 at s5 L5 hl5 ⊢
  have w0 := LP.wf_init hm
  have hbl : LP.bl many ≤ 100 := LP.bl_pow 100 many (Nat.lt_of_le_of_lt hb (by decide))
  have few : ∀ n, (∀ i, i < n → (leapN low many hint i).wt ≠ none) → n ≤ 300 := fun n h => by
    have := LP.few hm h
    omega
  refine ⟨fun m σ H' => ∃ n : Nat, σ = [some (.int (many : Int)), some (.int (hint : Int)), some (.ref f), some (.ref x), some (.ref l)] ∧ m = LP.mu (leapN low many hint n) ∧ (∀ i, i < n → (leapN low many hint i).wt ≠ none) ∧ LAt a.c_Leaper H' x (leapN low many hint n) ∧ H' l = some (.lst (nV (leapQ low many hint n))) ∧ Same H H',
    ⟨_, 0, rfl, rfl, fun i h => absurd h (Nat.not_lt_zero _), L5, hl5, s5⟩, ?_⟩
  rintro m σ H6 ⟨n, rfl, rfl, hbe, ⟨dx6, hx6⟩, hl6, s6⟩
  have W := LP.wf_stps low w0 n
  cases e : (leapN low many hint n).wt with
  | none =>
    have ew : optN (leapN low many hint n).wt = .non := by rw [e]; rfl
    refine ⟨_, rfl, x, a.c_Leaper, dx6, _, _, rfl, hx6, T.cl_Leaper, T.n_waiting, rfl, rfl, false, ?_, iteF ?_⟩
    · show V.bl (!decide (optN (leapN low many hint n).wt = V.non)) = V.bl false
      rw [ew]
      rfl
    refine ⟨_, rfl, x, a.c_Leaper, dx6, _, _, rfl, hx6, T.cl_Leaper, T.n_found, rfl, _, rfl, by show 2 ≤ sizeLine; decide, fun t ht => ?_⟩
    have s7 := same_upd (o := .tup [optN (leapN low many hint n).fd, .ref l]) ht
    have tH : H t = none := by
      cases e : H t with
      | none => rfl
      | some o => rw [s6 _ _ e] at ht; cases ht
    exact q n t l _ e hbe (few n hbe) (s6.trans s7) tH lH upd_same (s7 _ _ hl6)
  | some i =>
    have ew : optN (leapN low many hint n).wt = .int (i : Int) := by rw [e]; rfl
    have hi : i < many := by
      have h := LP.wt_lt W e
      rw [(LP.many_stps low n).1] at h
      exact h
    have hw : (leapN low many hint n).wt ≠ none := by rw [e]; exact Option.some_ne_none _
    refine ⟨_, rfl, x, a.c_Leaper, dx6, _, _, rfl, hx6, T.cl_Leaper, T.n_waiting, rfl, rfl, true, ?_, iteT ⟨_, fun _ _ h => h, ?_⟩⟩
    · show V.bl (!decide (optN (leapN low many hint n).wt = V.non)) = V.bl true
      rw [ew]
      rfl
    have hlt : (nV (leapQ low many hint n)).length < sizeLine := by
      rw [List.length_map, LP.asks_len]
      exact Nat.lt_of_le_of_lt (few n hbe) (by decide)
    refine ⟨_, rfl, .inl ⟨rfl, _, L2.sq_of hl6⟩, _, rfl, x, a.c_Leaper, dx6, _, _, rfl, hx6, T.cl_Leaper, T.n_waiting, rfl, l, _, _, rfl, rfl, hl6, hlt, ?_⟩
    have ea : nV (leapQ low many hint n) ++ [optN (leapN low many hint n).wt] = nV (leapQ low many hint (n + 1)) := by
      rw [ew]
      show _ = List.map _ (LP.asks _ _ _)
      rw [LP.asks_next e, List.map_append]
      rfl
    have hx7 : upd H6 l (.lst (nV (leapQ low many hint n) ++ [optN (leapN low many hint n).wt])) x = some (.ins a.c_Leaper dx6 (fldsL (leapN low many hint n))) := by
      rw [upd_ne nlx.symm]
      exact hx6
    have hl7 : upd H6 l (.lst (nV (leapQ low many hint n) ++ [optN (leapN low many hint n).wt])) l = some (.lst (nV (leapQ low many hint (n + 1)))) := by rw [ea]; exact upd_same
    have s7 : Same H (upd H6 l (.lst (nV (leapQ low many hint n) ++ [optN (leapN low many hint n).wt]))) := fun b o h => by
      rw [upd_ne (ne_of_none h lH)]
      exact s6 _ _ h
    generalize upd H6 l (.lst (nV (leapQ low many hint n) ++ [optN (leapN low many hint n).wt])) = H7 at hx7 hl7 s7 ⊢
    refine ⟨_, rfl, x, dx6, _, rfl, hx7, rfl, rfl, _, rfl, x, a.c_Leaper, dx6, _, _, rfl, hx7, T.cl_Leaper, T.n_waiting, rfl, s7 _ _ hco, ?_⟩
    show tl (optN (leapN low many hint n).wt) H7 _
    rw [ew]
    refine hlow i H7 _ s7 hi ?_
    refine ⟨x, _, low i, rfl, ⟨dx6, hx7⟩, ⟨W, hw⟩, fun H8 L8 fr8 => ?_⟩
    have en : leapN low many hint (n + 1) = (leapN low many hint n).take (low i) := LP.stps_next e
    rw [← en] at L8
    refine ⟨_, ?_, n + 1, rfl, rfl, fun j hj => ?_, L8, fr8 _ _ nlx hl7, fun b o h => fr8 _ _ (fun z => ?_) (s7 _ _ h)⟩
    · rw [en]
      exact LP.mu_take W hw _
    · by_cases c : j = n
      · rw [c]; exact hw
      · exact hbe j (by omega)
    · have xH : H x = none := hx
      rw [z, xH] at h
      cases h
end

end K25

namespace K25
open PySem PySem.Spec PyProof.Rows L2 LamX
theorem hm_places_of_leap (a : Ad) : (a.lp_places_of_leap, (envOfC "places_of_leap" (defScope s_places_of_leap) 0 0 .none).qual ++ ("<lambda>" : Str)) ∈ LT a := by
  rw [show (envOfC "places_of_leap" (defScope s_places_of_leap) 0 0 .none).qual ++ ("<lambda>" : Str) = lq_places_of_leap from by decide +kernel]
  exact List.Mem.head _
theorem hm_before (a : Ad) : (a.lp_before, (envOfC "before" (defScope s_before) 0 0 .none).qual ++ ("<lambda>" : Str)) ∈ LT a := by
  rw [show (envOfC "before" (defScope s_before) 0 0 .none).qual ++ ("<lambda>" : Str) = lq_before from by decide +kernel]
  exact List.Mem.tail _ (List.Mem.head _)
theorem hm_behind (a : Ad) : (a.lp_behind, (envOfC "behind" (defScope s_behind) 0 0 .none).qual ++ ("<lambda>" : Str)) ∈ LT a := by
  rw [show (envOfC "behind" (defScope s_behind) 0 0 .none).qual ++ ("<lambda>" : Str) = lq_behind from by decide +kernel]
  exact List.Mem.tail _ (List.Mem.tail _ (List.Mem.head _))
section
variable {P : Program} {w : World} {K : PySem.W.Frag} {mg : Str → Option Value} {base : Heap} {a : Ad} {d : Fd}
theorem lt_cases {a : Ad} {p : Addr × Str} (hp : p ∈ LT a) : p = (a.lp_places_of_leap, lq_places_of_leap) ∨ p = (a.lp_before, lq_before) ∨ p = (a.lp_behind, lq_behind) := by
  rcases List.mem_cons.mp hp with h | hp
  · exact .inl h
  · rcases List.mem_cons.mp hp with h | hp
    · exact .inr (.inl h)
    · exact .inr (.inr (List.mem_singleton.mp hp))
theorem hu_places_of_leap (T : Txt K mg a d) : ∀ p ∈ LT a, p.1 = a.lp_places_of_leap → p.2 = (envOfC "places_of_leap" (defScope s_places_of_leap) 0 0 .none).qual ++ ("<lambda>" : Str) := fun p hp e => by
  rw [show (envOfC "places_of_leap" (defScope s_places_of_leap) 0 0 .none).qual ++ ("<lambda>" : Str) = lq_places_of_leap from by decide +kernel]
  rcases lt_cases hp with rfl | rfl | rfl
  · rfl
  · exact absurd e.symm T.lne_places_of_leap_before
  · exact absurd e.symm T.lne_places_of_leap_behind
theorem hu_before (T : Txt K mg a d) : ∀ p ∈ LT a, p.1 = a.lp_before → p.2 = (envOfC "before" (defScope s_before) 0 0 .none).qual ++ ("<lambda>" : Str) := fun p hp e => by
  rw [show (envOfC "before" (defScope s_before) 0 0 .none).qual ++ ("<lambda>" : Str) = lq_before from by decide +kernel]
  rcases lt_cases hp with rfl | rfl | rfl
  · exact absurd e T.lne_places_of_leap_before
  · rfl
  · exact absurd e.symm T.lne_before_behind
theorem hu_behind (T : Txt K mg a d) : ∀ p ∈ LT a, p.1 = a.lp_behind → p.2 = (envOfC "behind" (defScope s_behind) 0 0 .none).qual ++ ("<lambda>" : Str) := fun p hp e => by
  rw [show (envOfC "behind" (defScope s_behind) 0 0 .none).qual ++ ("<lambda>" : Str) = lq_behind from by decide +kernel]
  rcases lt_cases hp with rfl | rfl | rfl
  · exact absurd e T.lne_places_of_leap_behind
  · exact absurd e T.lne_before_behind
  · rfl
end
/-- apart from all objects but tables -/
def FrN (H : Hp) (l : Addr) : Prop := ∀ b o, H b = some o → (∀ ps, o ≠ HO.tbl ps) → b ≠ l
theorem FrN.of {H H1 : Hp} {l : Addr} (e : ExtN H H1) (h : H1 l = none) : FrN H l := fun b o hb n z => by
  have := e b o hb n
  rw [z, h] at this
  cases this
def spPlaces (a : Ad) : Sp := fun vs H Q _ => ∃ (many hint place : Nat), vs = [.int (many : Int), .int (hint : Int), .int (place : Int)] ∧ hint < many ∧ many ≤ 10 ^ 30 ∧ place ≤ many ∧ Tabs (LT a) H ∧
  ∀ (N : Nat) (l : Addr) (H' : Hp), (leapN (fun i => decide (i < place)) many hint N).wt = none → (∀ i, i < N → (leapN (fun i => decide (i < place)) many hint i).wt ≠ none) → N ≤ 300 → ExtN H H' → Tabs (LT a) H' → FrN H l → H' l = some (.lst (nV (leapQ (fun i => decide (i < place)) many hint N))) → Q (.ref l) H'
def spLeapK (a : Ad) (low : List Int → Int → Nat → Bool) : Sp := fun vs H Q _ => ∃ (key : Int) (p : Addr) (ns : List Int) (hint : Nat), vs = [.int key, .ref p, .int (hint : Int)] ∧ KeysAt H p ns ∧ hint < ns.length ∧ ns.length ≤ 2000 ∧ Tabs (LT a) H ∧
  ∀ (N : Nat) (t l : Addr) (H' : Hp), (leapN (low ns key) ns.length hint N).wt = none → (∀ i, i < N → (leapN (low ns key) ns.length hint i).wt ≠ none) → N ≤ 300 → ExtN H H' → Tabs (LT a) H' → FrN H t → FrN H l → H' t = some (.tup [optN (leapN (low ns key) ns.length hint N).fd, .ref l]) → H' l = some (.lst (nV (leapQ (low ns key) ns.length hint N))) → Q (.ref t) H'
def lowB (ns : List Int) (key : Int) (i : Nat) : Bool := decide (ns.getD i 0 < key)
def lowA (ns : List Int) (key : Int) (i : Nat) : Bool := !decide (key < ns.getD i 0)
def spCheckLeap : Sp := fun vs H Q _ => ∃ (key : Int) (p : Addr) (ns : List Int) (hint : Nat), vs = [.int key, .ref p, .int (hint : Int)] ∧ KeysAt H p ns ∧ hint < ns.length ∧ ns.length ≤ 2000 ∧ ∀ H', Same H H' → Q .non H'
def spCheckRow : Sp := fun vs H Q _ => ∃ (n hint : Nat), vs = [.int (n : Int), .int (hint : Int)] ∧ hint < n ∧ n ≤ 10 ^ 30 ∧ Q .non H
theorem key_at {ns : List Int} {i : Nat} (hi : i < ns.length) : atI (ns.map V.int) (i : Int) = some (.int (ns.getD i 0)) := by
  refine atI_nat ?_
  rw [List.getElem?_map, List.getElem?_eq_getElem hi]
  simp [List.getD_eq_getElem?_getD, List.getElem?_eq_getElem hi]
section
variable {P : Program} {w : World} {K : PySem.W.Frag} {mg : Str → Option Value} {base : Heap} {a : Ad} {d : Fd}
theorem ok_check_row (T : Txt K mg a d) : FnOk P w K mg base CX0 4 a.check_row d.check_row P_check_row spCheckRow := by
  have G_check_number : FnOk P w K mg base CX0 3 a.check_number d.check_number P_check_number spCheckNumber := ok_check_number T
  refine T.f_check_row.ok sc_check_row (fun vs H Q E h => ?_) (fun cdv A outer s0 H vs Q E hr h => ?_)
  · obtain ⟨n, hint, rfl, _⟩ := h
    rfl
  · obtain ⟨n, hint, rfl, h1, h2, q⟩ := h
    refine ⟨_, (pss_cons (ps_expr (pe_call G_check_number (hr.mono (by decide)) (by rfl) T.g_check_number T.k_check_number T.b_check_number .nil pass0 (pa_cons pe_str (pa_cons (pv 0) (pa_cons pe_int (pa_cons (pe_glob (v := .int 1000000000000000000000000000000) rfl T.g_GREATEST_ROW ⟨_, rfl⟩) pa_nil))))))
    (pss_one (ps_expr (pe_call G_check_number (hr.mono (by decide)) (by rfl) T.g_check_number T.k_check_number T.b_check_number .nil pass0 (pa_cons pe_str (pa_cons (pv 1) (pa_cons pe_int (pa_cons (pe_op op_sub (pv 0) pe_int) pa_nil)))))))), ?_⟩
    refine ⟨_, rfl, "n", (n : Int), 1, 10 ^ 30, rfl, by omega, by omega, ?_⟩
    exact ⟨_, rfl, _, rfl, _, _, rfl, rfl, "hint", (hint : Int), 0, (n : Int) - 1, rfl, by omega, by omega, q⟩
theorem ok_check_leap (T : Txt K mg a d) : FnOk P w K mg base CX0 4 a.check_leap d.check_leap P_check_leap spCheckLeap := by
  have G_is_integer : FnOk P w K mg base CX0 1 a.is_integer d.is_integer P_is_integer spIsInt := ok_is_integer T
  have G_check_keys : FnOk P w K mg base CX0 2 a.check_keys d.check_keys P_check_keys spCheckKeysN := ok_check_keys T
  have G_check_number : FnOk P w K mg base CX0 3 a.check_number d.check_number P_check_number spCheckNumber := ok_check_number T
  refine T.f_check_leap.ok sc_check_leap (fun vs H Q E h => ?_) (fun cdv A outer s0 H vs Q E hr h => ?_)
  · obtain ⟨key, p, ns, hint, rfl, _⟩ := h
    rfl
  · obtain ⟨key, p, ns, hint, rfl, hK, h1, h2, q⟩ := h
    refine ⟨_, (pss_cons (ps_if (pt_not (pt_val (pe_call G_is_integer (hr.mono (by decide)) (by rfl) T.g_is_integer T.k_is_integer T.b_is_integer .nil pass0 (pa_cons (pv 0) pa_nil)))) (pss_one ps_never) pss_nil)
    (pss_cons (ps_expr (pe_call (dvs := [.int 0, .int 2000]) G_check_keys (hr.mono (by decide)) (by rfl) T.g_check_keys T.k_check_keys T.b_check_keys_2.choose_spec.2 T.b_check_keys_2.choose_spec.1 pass0 (pa_cons (pv 1) pa_nil)))
    (pss_one (ps_expr (pe_call G_check_number (hr.mono (by decide)) (by rfl) T.g_check_number T.k_check_number T.b_check_number .nil pass0 (pa_cons pe_str (pa_cons (pv 2) (pa_cons pe_int (pa_cons (pe_op op_sub (pe_callB call_len_seq (by rfl) T.z_len PySem.boot_len (pa_cons (pv 1) pa_nil)) pe_int) pa_nil))))))))), ?_⟩
    refine ⟨_, rfl, key, rfl, true, rfl, iteF ?_⟩
    refine ⟨_, rfl, p, ns, 0, 2000, rfl, hK, by omega, by omega, fun H1 s1 => ?_⟩
    have hK1 := hK.same s1
    have hS1 : SqL K H1 p (ns.map V.int) ∨ SqT K H1 p (ns.map V.int) := hK1.imp L2.sq_of L2.st_of
    refine ⟨_, rfl, _, rfl, p, _, rfl, hS1, _, _, rfl, rfl, "hint", (hint : Int), 0, _, rfl, by omega, ?_, q H1 s1⟩
    rw [List.length_map]
    omega
theorem ok_places_of_leap (T : Txt K mg a d) (TB_places_of_leap : TabB base mg a.lc_places_of_leap a.lp_places_of_leap) : FnOk P w K mg base CX0 7 a.places_of_leap d.places_of_leap P_places_of_leap (spPlaces a) := by
  refine T.f_places_of_leap.okC T.lc_places_of_leap sc_places_of_leap (fun vs H Q E h => ?_) (fun A outer s0 H vs Q E hr h => ?_)
  · obtain ⟨many, hint, place, rfl, _⟩ := h
    rfl
  · obtain ⟨many, hint, place, rfl, h1, h2, h3, hT, q⟩ := h
    refine ⟨_, (pss_cons (ps_asg (pe_lam3 (T := LT a) (k := 4) (y := "at") T.f_leap (by rfl) T.g_leap T.k_leap T.b_leap sc_leap rfl (Or.inl rfl) (gives_leap T) (pv 0) (pv 1) TB_places_of_leap rfl (hm_places_of_leap a) (hu_places_of_leap T) (hr.mono (by decide)) (lamS1_by (show lamS1B (defScope s_places_of_leap) _ _ = true from by decide +kernel)) (show ("at" : Str) ∉ N_places_of_leap from by decide +kernel) rfl (fun _ _ _ _ _ _ => rfl) (fun A1 outer1 s1 H1 f1 c1 hr1 => (pe_cmpR op_lt (pv 5) (pv 2) (nomark _)))) (pg_tup rfl (pgs_cons (pg_name (i := 3) sc_places_of_leap.nd rfl (Or.inl rfl)) (pgs_cons (pg_name (i := 4) sc_places_of_leap.nd rfl (Or.inl rfl)) pgs_nil))))
    (pss_one (ps_ret (pv 4)))), ?_⟩
    refine ⟨_, rfl, _, rfl, hT, fun H3 eN T3 => ?_⟩
    refine ⟨many, hint, fun i => decide (i < place), rfl, rfl, h1, h2, fun i H' R s hi r => ?_, fun N t l H' hw hbe few s' tN lN ht hl => ?_⟩
    · refine ⟨_, rfl, _, rfl, _, _, rfl, rfl, ?_⟩
      have e : decide ((i : Int) < (place : Int)) = decide (i < place) := decide_eq_decide.mpr (by omega)
      show R (V.bl (decide ((i : Int) < (place : Int)))) H'
      rw [e]
      exact r
    · refine ⟨t, _, rfl, L2.st_of ht, rfl, _, _, rfl, _, _, rfl, rfl, ?_⟩
      exact ⟨_, rfl, q N l H' hw hbe few (eN.trans (ExtN.of s')) (T3.ext s') (FrN.of eN lN) hl⟩
theorem ok_before (T : Txt K mg a d) (TB_before : TabB base mg a.lc_before a.lp_before) : FnOk P w K mg base CX0 7 a.before d.before P_before (spLeapK a lowB) := by
  have G_check_leap : FnOk P w K mg base CX0 4 a.check_leap d.check_leap P_check_leap spCheckLeap := ok_check_leap T
  refine T.f_before.okC T.lc_before sc_before (fun vs H Q E h => ?_) (fun A outer s0 H vs Q E hr h => ?_)
  · obtain ⟨key, p, ns, hint, rfl, _⟩ := h
    rfl
  · obtain ⟨key, p, ns, hint, rfl, hK, hh, hl, hT, q⟩ := h
    refine ⟨_, (pss_cons (ps_expr (pe_call G_check_leap (hr.mono (by decide)) (by rfl) T.g_check_leap T.k_check_leap T.b_check_leap .nil pass0 (pa_cons (pv 0) (pa_cons (pv 1) (pa_cons (pv 2) pa_nil)))))
    (pss_one (ps_ret (pe_lam3 (T := LT a) (k := 4) (y := "at") T.f_leap (by rfl) T.g_leap T.k_leap T.b_leap sc_leap rfl (Or.inl rfl) (gives_leap T) (pe_callB call_len_seq (by rfl) T.z_len PySem.boot_len (pa_cons (pv 1) pa_nil)) (pv 2) TB_before rfl (hm_before a) (hu_before T) (hr.mono (by decide)) (lamS1_by (show lamS1B (defScope s_before) _ _ = true from by decide +kernel)) (show ("at" : Str) ∉ N_before from by decide +kernel) rfl (fun _ _ _ _ _ _ => rfl) (fun A1 outer1 s1 H1 f1 c1 hr1 => (pe_cmpR op_lt (pe_ix (show IxR _ (rIx K) from ix_seq) (pv 1) (pv 3) (fun _ _ => rfl)) (pv 0) (nomark _))))))), ?_⟩
    have ek : (ns.map V.int).length = ns.length := List.length_map _
    refine ⟨_, rfl, _, rfl, _, rfl, key, p, ns, hint, rfl, hK, hh, hl, fun H1 s1 => ?_⟩
    have hK1 := hK.same s1
    have hS1 : SqL K H1 p (ns.map V.int) ∨ SqT K H1 p (ns.map V.int) := hK1.imp L2.sq_of L2.st_of
    refine ⟨_, rfl, p, _, rfl, hS1, _, rfl, hT.ext s1, fun H3 eN T3 => ?_⟩
    refine ⟨ns.length, hint, lowB ns key, by rw [ek], rfl, hh, Nat.le_trans hl (by decide), fun i H' R s hi r => ?_, fun N t l H' hw hbe few s' tN lN ht hl => ?_⟩
    · have hK' := (hK1.imp (fun z => s _ _ (eN _ _ z fun ps y => by cases y)) (fun z => s _ _ (eN _ _ z fun ps y => by cases y)) : KeysAt H' p ns)
      refine ⟨_, rfl, _, rfl, ?_⟩
      rcases hK' with z | z
      · exact .inl ⟨p, _, _, _, rfl, rfl, L2.sq_of z, key_at hi, _, rfl, _, _, rfl, rfl, r⟩
      · exact .inr (.inl ⟨p, _, _, _, rfl, rfl, L2.st_of z, key_at hi, _, rfl, _, _, rfl, rfl, r⟩)
    · exact q N t l H' hw hbe few ((ExtN.of s1).trans (eN.trans (ExtN.of s'))) (T3.ext s') (FrN.of ((ExtN.of s1).trans eN) tN) (FrN.of ((ExtN.of s1).trans eN) lN) ht hl
theorem ok_behind (T : Txt K mg a d) (TB_behind : TabB base mg a.lc_behind a.lp_behind) : FnOk P w K mg base CX0 7 a.behind d.behind P_behind (spLeapK a lowA) := by
  have G_check_leap : FnOk P w K mg base CX0 4 a.check_leap d.check_leap P_check_leap spCheckLeap := ok_check_leap T
  refine T.f_behind.okC T.lc_behind sc_behind (fun vs H Q E h => ?_) (fun A outer s0 H vs Q E hr h => ?_)
  · obtain ⟨key, p, ns, hint, rfl, _⟩ := h
    rfl
  · obtain ⟨key, p, ns, hint, rfl, hK, hh, hl, hT, q⟩ := h
    refine ⟨_, (pss_cons (ps_expr (pe_call G_check_leap (hr.mono (by decide)) (by rfl) T.g_check_leap T.k_check_leap T.b_check_leap .nil pass0 (pa_cons (pv 0) (pa_cons (pv 1) (pa_cons (pv 2) pa_nil)))))
    (pss_one (ps_ret (pe_lam3 (T := LT a) (k := 4) (y := "at") T.f_leap (by rfl) T.g_leap T.k_leap T.b_leap sc_leap rfl (Or.inl rfl) (gives_leap T) (pe_callB call_len_seq (by rfl) T.z_len PySem.boot_len (pa_cons (pv 1) pa_nil)) (pv 2) TB_behind rfl (hm_behind a) (hu_behind T) (hr.mono (by decide)) (lamS1_by (show lamS1B (defScope s_behind) _ _ = true from by decide +kernel)) (show ("at" : Str) ∉ N_behind from by decide +kernel) rfl (fun _ _ _ _ _ _ => rfl) (fun A1 outer1 s1 H1 f1 c1 hr1 => (pe_not (pe_cmpR op_lt (pv 0) (pe_ix (show IxR _ (rIx K) from ix_seq) (pv 1) (pv 3) (fun _ _ => rfl)) (nomark _)))))))), ?_⟩
    have ek : (ns.map V.int).length = ns.length := List.length_map _
    refine ⟨_, rfl, _, rfl, _, rfl, key, p, ns, hint, rfl, hK, hh, hl, fun H1 s1 => ?_⟩
    have hK1 := hK.same s1
    have hS1 : SqL K H1 p (ns.map V.int) ∨ SqT K H1 p (ns.map V.int) := hK1.imp L2.sq_of L2.st_of
    refine ⟨_, rfl, p, _, rfl, hS1, _, rfl, hT.ext s1, fun H3 eN T3 => ?_⟩
    refine ⟨ns.length, hint, lowA ns key, by rw [ek], rfl, hh, Nat.le_trans hl (by decide), fun i H' R s hi r => ?_, fun N t l H' hw hbe few s' tN lN ht hl => ?_⟩
    · have hK' := (hK1.imp (fun z => s _ _ (eN _ _ z fun ps y => by cases y)) (fun z => s _ _ (eN _ _ z fun ps y => by cases y)) : KeysAt H' p ns)
      refine ⟨_, rfl, _, rfl, _, rfl, ?_⟩
      rcases hK' with z | z
      · exact .inl ⟨p, _, _, _, rfl, rfl, L2.sq_of z, key_at hi, _, _, rfl, rfl, _, rfl, r⟩
      · exact .inr (.inl ⟨p, _, _, _, rfl, rfl, L2.st_of z, key_at hi, _, _, rfl, rfl, _, rfl, r⟩)
    · exact q N t l H' hw hbe few ((ExtN.of s1).trans (eN.trans (ExtN.of s'))) (T3.ext s') (FrN.of ((ExtN.of s1).trans eN) tN) (FrN.of ((ExtN.of s1).trans eN) lN) ht hl
theorem ok_leap_places (T : Txt K mg a d) (TB_places_of_leap : TabB base mg a.lc_places_of_leap a.lp_places_of_leap) : FnOk P w K mg base CX0 8 a.leap_places d.leap_places P_leap_places (spPlaces a) := by
  have G_check_row : FnOk P w K mg base CX0 4 a.check_row d.check_row P_check_row spCheckRow := ok_check_row T
  have G_check_number : FnOk P w K mg base CX0 3 a.check_number d.check_number P_check_number spCheckNumber := ok_check_number T
  have G_places_of_leap : FnOk P w K mg base CX0 7 a.places_of_leap d.places_of_leap P_places_of_leap (spPlaces a) := ok_places_of_leap T TB_places_of_leap
  refine T.f_leap_places.ok sc_leap_places (fun vs H Q E h => ?_) (fun cdv A outer s0 H vs Q E hr h => ?_)
  · obtain ⟨many, hint, place, rfl, _⟩ := h
    rfl
  · obtain ⟨many, hint, place, rfl, h1, h2, h3, hT, q⟩ := h
    refine ⟨_, (pss_cons (ps_expr (pe_call G_check_row (hr.mono (by decide)) (by rfl) T.g_check_row T.k_check_row T.b_check_row .nil pass0 (pa_cons (pv 0) (pa_cons (pv 1) pa_nil))))
    (pss_cons (ps_expr (pe_call G_check_number (hr.mono (by decide)) (by rfl) T.g_check_number T.k_check_number T.b_check_number .nil pass0 (pa_cons pe_str (pa_cons (pv 2) (pa_cons pe_int (pa_cons (pv 0) pa_nil))))))
    (pss_one (ps_ret (pe_call G_places_of_leap (hr.mono (by decide)) (by rfl) T.g_places_of_leap T.k_places_of_leap T.b_places_of_leap .nil pass0 (pa_cons (pv 0) (pa_cons (pv 1) (pa_cons (pv 2) pa_nil)))))))), ?_⟩
    refine ⟨_, rfl, _, rfl, many, hint, rfl, h1, h2, ?_⟩
    refine ⟨_, rfl, _, rfl, "place", (place : Int), 0, (many : Int), rfl, by omega, by omega, ?_⟩
    exact ⟨_, rfl, _, rfl, _, rfl, many, hint, place, rfl, h1, h2, h3, hT, q⟩
end

end K25

namespace K25
open PySem PySem.Spec PyProof.Rows L2
def spWell : Sp := fun vs H Q _ => ∃ c, vs = [.int c] ∧ ∀ p x y z, 0 ≤ x → H p = none → Q (.ref p) (upd H p (.lst [.int x, .int y, .int z]))
def spDraw : Sp := fun vs H Q _ => ∃ p b, vs = [.ref p, .int b] ∧ Src H p ∧ 0 < b ∧ b.natAbs < 2 ^ 100 ∧ ∀ v x y z : Int, 0 ≤ v → v < b → 0 ≤ x → Q (.int v) (upd H p (.lst [.int x, .int y, .int z]))
def spOne (K : PySem.W.Frag) : Sp := fun vs H Q _ => ∃ p r xs, vs = [.ref p, .ref r] ∧ Src H p ∧ r ≠ p ∧ SqL K H r xs ∧ 0 < xs.length ∧ xs.length < 2 ^ 60 ∧ ∀ (v : V) (H' : Hp), v ∈ xs → Dn p H H' → Q v H'
section
variable {P : Program} {w : World} {K : PySem.W.Frag} {mg : Str → Option Value} {base : Heap} {a : Ad} {d : Fd}
theorem ok_well (T : Txt K mg a d) : FnOk P w K mg base CX0 1 a.well d.well P_well spWell := by
  refine T.f_well.ok sc_well (fun vs H Q E h => ?_) (fun cdv A outer s H vs Q E hr h => ?_)
  · obtain ⟨c, rfl, _⟩ := h
    rfl
  · obtain ⟨c, rfl, q⟩ := h
    refine ⟨_, (pss_one (ps_ret (pe_lst (pa_cons (pe_op op_mul (pe_callTy call_int1 (by rfl) T.z_int (by decide +kernel) (pa_cons (pv 0) pa_nil)) (pe_callTy call_int1 (by rfl) T.z_int (by decide +kernel) (pa_cons (pe_cmpR op_ge (pv 0) (pe_op op_powW pe_int pe_int) (nomark _)) pa_nil))) (pa_cons (pe_op op_mod (pe_callTy call_int1 (by rfl) T.z_int (by decide +kernel) (pa_cons (pv 0) pa_nil)) pe_int) (pa_cons pe_int pa_nil)))))), ?_⟩
    have nn : 0 ≤ c * (if decide ((10 : Int) ^ 18 ≤ c) = true then (1 : Int) else 0) := by
      split
      · rename_i h
        have := of_decide_eq_true h
        have h18 : (0 : Int) ≤ 10 ^ 18 := by decide
        omega
      · omega
    have hb : ∀ k : Bool, (-(2 ^ 64) < (if k = true then (1 : Int) else 0) ∧ (if k = true then (1 : Int) else 0) < 2 ^ 64) := fun k => by cases k <;> decide
    refine ⟨_, rfl, .inl ⟨_, rfl, _, rfl, _, _, rfl, rfl, ⟨by decide, by decide⟩, _, _, rfl, rfl, .inr ⟨_, rfl, _, _, rfl, rfl, .inr (hb _), ?_⟩⟩⟩
    exact ⟨_, rfl, .inl ⟨_, rfl, _, _, rfl, rfl, (by show (0 : Int) < 2147483587; decide), by show 3 ≤ sizeLine; decide, fun p hp => q p _ _ _ nn hp⟩⟩
theorem ok_draw (T : Txt K mg a d) : FnOk P w K mg base CX0 1 a.draw d.draw P_draw spDraw := by
  refine T.f_draw.ok sc_draw (fun vs H Q E h => ?_) (fun cdv A outer s H vs Q E hr h => ?_)
  · obtain ⟨p, b, rfl, _⟩ := h
    rfl
  · obtain ⟨p, b, rfl, ⟨x, y, z, x0, hp⟩, b0, b64, q⟩ := h
    refine ⟨_, (pss_cons (ps_if (pt_cmpR op_gt (pe_ix ix_list (pv 0) pe_int (fun _ _ => rfl)) pe_int (nomark _)) (pss_cons (ps_set (i := 2) sc_draw.nd rfl (Or.inl rfl) (pe_op op_mod (pe_callTy call_int1 (by rfl) T.z_int (by decide +kernel) (pa_cons (pe_ix ix_list (pv 0) pe_int (fun _ _ => rfl)) pa_nil)) (pv 1)))
      (pss_cons (ps_asg (pe_op op_fdivW (pe_ix ix_list (pv 0) pe_int (fun _ _ => rfl)) (pv 1)) (pg_sub (pv 0) pe_int set_list))
      (pss_one (ps_ret (pv 2))))) pss_nil)
    (pss_cons (ps_asg (pe_op op_add (pe_ix ix_list (pv 0) pe_int (fun _ _ => rfl)) pe_int) (pg_sub (pv 0) pe_int set_list))
    (pss_cons (ps_set (i := 3) sc_draw.nd rfl (Or.inl rfl) (pe_op op_mod (pe_callTy call_int1 (by rfl) T.z_int (by decide +kernel) (pa_cons (pe_op op_add (pe_op op_add (pe_ix ix_list (pv 0) pe_int (fun _ _ => rfl)) (pe_op op_mul pe_int (pe_ix ix_list (pv 0) pe_int (fun _ _ => rfl)))) pe_int) pa_nil)) pe_int))
    (pss_cons (ps_set (i := 3) sc_draw.nd rfl (Or.inl rfl) (pe_op op_mod (pe_callTy call_int1 (by rfl) T.z_int (by decide +kernel) (pa_cons (pe_op op_mul (pv 3) (pe_op op_add (pe_op op_fdivW (pv 3) pe_int) pe_int)) pa_nil)) pe_int))
    (pss_cons (ps_set (i := 3) sc_draw.nd rfl (Or.inl rfl) (pe_op op_mod (pe_callTy call_int1 (by rfl) T.z_int (by decide +kernel) (pa_cons (pe_op op_mul (pv 3) (pe_op op_add (pe_op op_fdivW (pv 3) pe_int) pe_int)) pa_nil)) pe_int))
    (pss_one (ps_ret (pe_op op_mod (pe_callTy call_int1 (by rfl) T.z_int (by decide +kernel) (pa_cons (pe_op op_fdivW (pv 3) pe_int) pa_nil)) (pv 1))))))))), ?_⟩
    have hS := L2.sq_of (K := K) hp
    have g0 : atI [V.int x, V.int y, V.int z] 0 = some (.int x) := atI_nat (j := 0) rfl
    have g1 : atI [V.int x, V.int y, V.int z] 1 = some (.int y) := atI_nat (j := 1) rfl
    have g2 : atI [V.int x, V.int y, V.int z] 2 = some (.int z) := atI_nat (j := 2) rfl
    refine ⟨_, rfl, p, _, _, _, rfl, rfl, hS, g0, _, _, rfl, rfl, _, rfl, ite2 (fun _ => ?_) (fun _ => ?_)⟩
    · refine ⟨_, rfl, p, _, _, _, rfl, rfl, hS, g0, .inl ⟨_, rfl, _, rfl, _, _, rfl, rfl, b0, ?_⟩⟩
      refine ⟨_, rfl, p, _, _, _, rfl, rfl, hS, g0, _, rfl, _, _, rfl, rfl, wide_div b0 b64 (by decide) (by decide), ?_⟩
      refine ⟨_, rfl, p, _, _, 0, rfl, rfl, hp, rfl, ?_⟩
      exact ⟨_, rfl, q _ _ _ _ (mb x b0).1 (mb x b0).2 (Int.ediv_nonneg x0 (by omega))⟩
    · refine ⟨_, rfl, p, _, _, _, rfl, rfl, hS, g2, _, _, rfl, rfl, ?_⟩
      refine ⟨_, rfl, p, _, _, 2, rfl, rfl, hp, rfl, ?_⟩
      have hp' : upd H p (.lst ([V.int x, V.int y, V.int z].set 2 (.int (z + 1)))) p = some (.lst [V.int x, V.int y, V.int (z + 1)]) := upd_same
      have hS' := L2.sq_of (K := K) hp'
      have g1' : atI [V.int x, V.int y, V.int (z + 1)] 1 = some (.int y) := atI_nat (j := 1) rfl
      have g2' : atI [V.int x, V.int y, V.int (z + 1)] 2 = some (.int (z + 1)) := atI_nat (j := 2) rfl
      refine ⟨_, rfl, p, _, _, _, rfl, rfl, hS', g1', _, rfl, p, _, _, _, rfl, rfl, hS', g2', 50033, z + 1, rfl, rfl, .inl ⟨by decide, by decide⟩, _, _, rfl, rfl, _, _, rfl, rfl, .inl ⟨_, rfl, _, _, rfl, rfl, (by show (0 : Int) < 2147483587; decide), ?_⟩⟩
      have w1 : ∀ i : Int, CDivW i 1013 := fun i => wide_div (b := 64) (by decide) (by decide) (by decide) (by decide)
      have w2 : ∀ i : Int, CDivW i 2017 := fun i => wide_div (b := 64) (by decide) (by decide) (by decide) (by decide)
      have w3 : ∀ i : Int, CDivW i 3 := fun i => wide_div (b := 64) (by decide) (by decide) (by decide) (by decide)
      refine ⟨_, rfl, _, rfl, _, _, rfl, rfl, w1 _, _, _, rfl, rfl, _, _, rfl, rfl, .inl (mbw _ (c := 2147483587) (by decide) (by decide)), .inl ⟨_, rfl, _, _, rfl, rfl, (by show (0 : Int) < 2147483629; decide), ?_⟩⟩
      refine ⟨_, rfl, _, rfl, _, _, rfl, rfl, w2 _, _, _, rfl, rfl, _, _, rfl, rfl, .inl (mbw _ (c := 2147483629) (by decide) (by decide)), .inl ⟨_, rfl, _, _, rfl, rfl, (by show (0 : Int) < 2147483563; decide), ?_⟩⟩
      exact ⟨_, rfl, _, _, rfl, rfl, w3 _, .inl ⟨_, rfl, _, rfl, _, _, rfl, rfl, b0, q _ _ _ _ (mb _ b0).1 (mb _ b0).2 x0⟩⟩
theorem ok_one (T : Txt K mg a d) : FnOk P w K mg base CX0 2 a.one d.one P_one (spOne K) := by
  have G_draw : FnOk P w K mg base CX0 1 a.draw d.draw P_draw spDraw := ok_draw T
  refine T.f_one.ok sc_one (fun vs H Q E h => ?_) (fun cdv A outer s H vs Q E hr h => ?_)
  · obtain ⟨p, r, xs, rfl, _⟩ := h
    rfl
  · obtain ⟨p, r, xs, rfl, hs, ne, hx, l0, l1, q⟩ := h
    refine ⟨_, (pss_one (ps_ret (pe_ix ix_list (pv 1) (pe_call G_draw (hr.mono (by decide)) (by rfl) T.g_draw T.k_draw T.b_draw .nil pass0 (pa_cons (pv 0) (pa_cons (pe_callB call_len_seq (by rfl) T.z_len PySem.boot_len (pa_cons (pv 1) pa_nil)) pa_nil))) (fun _ _ => rfl)))), ?_⟩
    refine ⟨_, rfl, _, rfl, _, rfl, r, xs, rfl, .inl hx, p, _, rfl, hs, by omega, ?_, fun v x y z v0 v1 x0 => ?_⟩
    · have e : ((xs.length : Nat) : Int).natAbs = xs.length := Int.natAbs_natCast _
      rw [e]
      exact Nat.lt_trans l1 (by decide)
    · obtain ⟨i, rfl⟩ : ∃ i : Nat, v = (i : Int) := ⟨v.toNat, (Int.toNat_of_nonneg v0).symm⟩
      have hi : i < xs.length := by omega
      have gi : xs[i]? = some xs[i] := List.getElem?_eq_getElem hi
      exact ⟨r, xs, _, xs[i], rfl, rfl, SB.seq SB.put ne hx, atI_nat gi, q _ _ (List.getElem_mem hi) (.put x0)⟩
end

end K25

namespace K25
open PySem PySem.Spec PyProof.Rows L2 LamX
/-- how many are less, and how many are not greater -/
def cntB (key : Int) (ms : List Int) : Nat := (ms.filter fun x => decide (x < key)).length
def cntA (key : Int) (ms : List Int) : Nat := (ms.filter fun x => decide (x ≤ key)).length
theorem cntB_le (key : Int) (ms : List Int) : cntB key ms ≤ ms.length := List.length_filter_le _ _
theorem cntA_le (key : Int) (ms : List Int) : cntA key ms ≤ ms.length := List.length_filter_le _ _
theorem filt_prefix {α : Type} {p : α → Bool} : ∀ {l : List α}, l.Pairwise (fun a b => p b = true → p a = true) → ∀ (i : Nat) (h : i < l.length), p l[i] = decide (i < (l.filter p).length)
  | [], _, i, h => absurd h (Nat.not_lt_zero _)
  | a :: l, hp, i, h => by
    obtain ⟨h1, h2⟩ := List.pairwise_cons.mp hp
    cases e : p a with
    | true =>
      rw [List.filter_cons_of_pos e]
      cases i with
      | zero =>
        show p a = _
        rw [e]
        exact (decide_eq_true (Nat.succ_pos _)).symm
      | succ i =>
        show p (l[i]'(Nat.lt_of_succ_lt_succ h)) = _
        rw [filt_prefix h2 i (Nat.lt_of_succ_lt_succ h)]
        exact decide_eq_decide.mpr (by rw [List.length_cons]; omega)
    | false =>
      have none : ∀ b ∈ l, ¬ p b = true := fun b hb z => by
        have := h1 b hb z
        rw [e] at this
        cases this
      rw [List.filter_cons_of_neg (by rw [e]; exact Bool.noConfusion), List.filter_eq_nil_iff.mpr none]
      have hf : p (a :: l)[i] = false := by
        cases i with
        | zero => exact e
        | succ i => exact Bool.eq_false_iff.mpr (none _ (List.getElem_mem _))
      rw [hf]
      rfl
theorem low_B {ms : List Int} {key : Int} (hs : ms.Pairwise (· ≤ ·)) (i : Nat) (hi : i < ms.length) : lowB ms key i = decide (i < cntB key ms) := by
  have h := filt_prefix (p := fun x : Int => decide (x < key)) (hs.imp fun {x y} hxy h => decide_eq_true (by have := of_decide_eq_true h; omega)) i hi
  show decide (ms.getD i 0 < key) = _
  rw [List.getD_eq_getElem?_getD, List.getElem?_eq_getElem hi]
  exact h
theorem low_A {ms : List Int} {key : Int} (hs : ms.Pairwise (· ≤ ·)) (i : Nat) (hi : i < ms.length) : lowA ms key i = decide (i < cntA key ms) := by
  have h := filt_prefix (p := fun x : Int => decide (x ≤ key)) (hs.imp fun {x y} hxy h => decide_eq_true (by have := of_decide_eq_true h; omega)) i hi
  show (!decide (key < ms.getD i 0)) = _
  rw [← decide_not, show decide (¬ key < ms.getD i 0) = decide (ms.getD i 0 ≤ key) from decide_eq_decide.mpr (by omega), List.getD_eq_getElem?_getD, List.getElem?_eq_getElem hi]
  exact h
def cube (x : Int) : Int := x * x * x * 10 ^ 20 - 7
theorem cube_lt (x y : Int) : cube x < cube y ↔ x < y := by
  have e : ∀ z : Int, z ^ (3 : Int).toNat = z * z * z := fun z => by
    show z ^ 3 = _
    rw [Int.pow_succ, Int.pow_succ, Int.pow_succ, Int.pow_zero, Int.one_mul]
  have h := cube_mono x y
  rw [e, e] at h
  rw [h]
  unfold cube
  have e20 : (10 : Int) ^ 20 = 100000000000000000000 := by decide
  rw [e20]
  generalize x * x * x = a
  generalize y * y * y = b
  omega
theorem getD_mapI {f : Int → Int} {ms : List Int} {i : Nat} (h : i < ms.length) : (ms.map f).getD i 0 = f (ms.getD i 0) := by
  rw [List.getD_eq_getElem?_getD, List.getD_eq_getElem?_getD, List.getElem?_map, List.getElem?_eq_getElem h]
  rfl
theorem low_wB {ms : List Int} {key : Int} (hs : ms.Pairwise (· ≤ ·)) (i : Nat) (hi : i < (ms.map cube).length) : lowB (ms.map cube) (cube key) i = decide (i < cntB key ms) := by
  rw [List.length_map] at hi
  rw [← low_B hs i hi]
  show decide ((ms.map cube).getD i 0 < cube key) = decide (ms.getD i 0 < key)
  rw [getD_mapI hi]
  exact decide_eq_decide.mpr (cube_lt _ _)
theorem low_wA {ms : List Int} {key : Int} (hs : ms.Pairwise (· ≤ ·)) (i : Nat) (hi : i < (ms.map cube).length) : lowA (ms.map cube) (cube key) i = decide (i < cntA key ms) := by
  rw [List.length_map] at hi
  rw [← low_A hs i hi]
  show (!decide (cube key < (ms.map cube).getD i 0)) = !decide (key < ms.getD i 0)
  rw [getD_mapI hi]
  exact congrArg _ (decide_eq_decide.mpr (cube_lt _ _))
def turned (ms : List Int) : List Int := ms.reverse.map fun x => 0 - x
theorem turned_len (ms : List Int) : (turned ms).length = ms.length := by
  unfold turned
  rw [List.length_map, List.length_reverse]
theorem getD_turned {ms : List Int} {i : Nat} (h : i < ms.length) : (turned ms).getD i 0 = 0 - ms.getD (ms.length - 1 - i) 0 := by
  unfold turned
  rw [getD_mapI (by rw [List.length_reverse]; exact h), List.getD_eq_getElem?_getD, List.getElem?_reverse h, ← List.getD_eq_getElem?_getD]
theorem low_tB {ms : List Int} {key : Int} (hs : ms.Pairwise (· ≤ ·)) (i : Nat) (hi : i < (turned ms).length) : lowB (turned ms) (0 - key) i = decide (i < ms.length - cntA key ms) := by
  rw [turned_len] at hi
  have h := low_A (key := key) hs (ms.length - 1 - i) (by omega)
  have h : (!decide (key < ms.getD (ms.length - 1 - i) 0)) = decide (ms.length - 1 - i < cntA key ms) := h
  rw [← decide_not] at h
  have h := decide_eq_decide.mp h
  have c := cntA_le key ms
  show decide ((turned ms).getD i 0 < 0 - key) = _
  rw [getD_turned hi]
  exact decide_eq_decide.mpr (by omega)
theorem low_tA {ms : List Int} {key : Int} (hs : ms.Pairwise (· ≤ ·)) (i : Nat) (hi : i < (turned ms).length) : lowA (turned ms) (0 - key) i = decide (i < ms.length - cntB key ms) := by
  rw [turned_len] at hi
  have h := low_B (key := key) hs (ms.length - 1 - i) (by omega)
  have h : decide (ms.getD (ms.length - 1 - i) 0 < key) = decide (ms.length - 1 - i < cntB key ms) := h
  have h := decide_eq_decide.mp h
  have c := cntB_le key ms
  show (!decide (0 - key < (turned ms).getD i 0)) = _
  rw [← decide_not, getD_turned hi]
  exact decide_eq_decide.mpr (by omega)
theorem getD_more {ms : List Int} {m : Nat} {c : Int} {i : Nat} (hi : i < (ms ++ List.replicate m c).length) : (ms ++ List.replicate m c).getD i 0 = if i < ms.length then ms.getD i 0 else c := by
  by_cases h : i < ms.length
  · rw [if_pos h, List.getD_eq_getElem?_getD, List.getElem?_append_left h, ← List.getD_eq_getElem?_getD]
  · rw [List.length_append, List.length_replicate] at hi
    rw [if_neg h, List.getD_eq_getElem?_getD, List.getElem?_append_right (by omega), List.getElem?_replicate, if_pos (by omega)]
    rfl
theorem low_mB {ms : List Int} {key c : Int} {m : Nat} (hs : ms.Pairwise (· ≤ ·)) (hc : key < c) (i : Nat) (hi : i < (ms ++ List.replicate m c).length) : lowB (ms ++ List.replicate m c) key i = decide (i < cntB key ms) := by
  have b := cntB_le key ms
  show decide ((ms ++ List.replicate m c).getD i 0 < key) = _
  rw [getD_more hi]
  by_cases h : i < ms.length
  · rw [if_pos h]
    exact low_B hs i h
  · rw [if_neg h]
    exact decide_eq_decide.mpr (by omega)
theorem low_mA {ms : List Int} {key c : Int} {m : Nat} (hs : ms.Pairwise (· ≤ ·)) (hc : key < c) (i : Nat) (hi : i < (ms ++ List.replicate m c).length) : lowA (ms ++ List.replicate m c) key i = decide (i < cntA key ms) := by
  have b := cntA_le key ms
  show (!decide (key < (ms ++ List.replicate m c).getD i 0)) = _
  rw [getD_more hi]
  by_cases h : i < ms.length
  · rw [if_pos h]
    exact low_A hs i h
  · rw [if_neg h, ← decide_not]
    exact decide_eq_decide.mpr (by omega)
theorem bits_bl (d : Nat) : LP.bl d ≤ Builtin.Int.intBits (d : Int) := by
  have h := (intBits_le_iff (m := Builtin.Int.intBits (d : Int)) (x := (d : Int))).mp (Nat.le_refl _)
  rw [Int.natAbs_natCast] at h
  exact LP.bl_pow _ _ h
theorem int_at {ms : List Int} {j : Nat} {v : V} (hv : (ms.map V.int)[j]? = some v) : ∃ z, ms[j]? = some z ∧ v = .int z := by
  rw [List.getElem?_map] at hv
  cases e : ms[j]? with
  | none => rw [e] at hv; cases hv
  | some z => rw [e] at hv; exact ⟨z, rfl, (Option.some.inj hv).symm⟩
def spFound25 : Sp := fun vs H Q _ => ∃ (key : Int) (p : Addr) (ms : List Int), vs = [.int key, .ref p] ∧ H p = some (.lst (ms.map V.int)) ∧ ms.length ≤ 2000 ∧ ∀ (t : Addr) (H' : Hp), Same H H' → H' t = some (.tup [.int (cntB key ms : Int), .int (cntA key ms : Int)]) → Q (.ref t) H'
section
variable {P : Program} {w : World} {K : PySem.W.Frag} {mg : Str → Option Value} {base : Heap} {a : Ad} {d : Fd}
theorem filt_go {p : Int → Bool} {ms : List Int} {j : Nat} {z : Int} {H H5 : Hp} {D : Addr} (hl : ms.length ≤ 2000) (hz : ms[j]? = some z) (hD : H D = none) (s5 : Same H H5) (h5 : H5 D = some (.lst (((ms.take j).filter p).map V.int))) :
    (p z = true → ∃ acc, H5 D = some (.lst acc) ∧ acc.length < sizeLine ∧ Same H (upd H5 D (.lst (acc ++ [.int z]))) ∧ upd H5 D (.lst (acc ++ [.int z])) D = some (.lst (((ms.take (j + 1)).filter p).map V.int))) ∧
    (¬ p z = true → Same H H5 ∧ H5 D = some (.lst (((ms.take (j + 1)).filter p).map V.int))) := by
  have etk : ms.take (j + 1) = ms.take j ++ [z] := by
    rw [List.take_succ, hz]
    rfl
  refine ⟨fun c => ⟨_, h5, ?_, fun b o e => ?_, ?_⟩, fun c => ⟨s5, ?_⟩⟩
  · rw [List.length_map]
    have h1 := List.length_filter_le p (ms.take j)
    rw [List.length_take] at h1
    exact Nat.lt_of_le_of_lt (by omega : _ ≤ 2000) (by decide)
  · rw [upd_ne (ne_of_none e hD)]
    exact s5 _ _ e
  · rw [upd_same, etk, List.filter_append, List.filter_cons_of_pos c, List.map_append]
    rfl
  · rw [h5, etk, List.filter_append, List.filter_cons_of_neg c]
    show _ = some (HO.lst (List.map _ (_ ++ [])))
    rw [List.append_nil]
theorem ok_found (T : Txt K mg a d) : FnOk P w K mg base CX0 1 a.found d.found P_found spFound25 := by
  refine T.f_found.ok sc_found (fun vs H Q E h => ?_) (fun cdv A outer s0 H vs Q E hr h => ?_)
  · obtain ⟨key, p, ms, rfl, _⟩ := h
    rfl
  · obtain ⟨key, p, ms, rfl, hp, hl, q⟩ := h
    refine ⟨_, (pss_one (ps_ret (pe_tup (pa_cons (pe_callB call_len_seq (by rfl) T.z_len PySem.boot_len (pa_cons (pe_lc (own := [("one", 2)]) (g := gName 2)  rfl sc_found.nd (pi_list (pv 1)) (blkOk_by (N := N_found) (sc := defScope s_found) (by decide +kernel)) (fun _ _ _ _ _ => pg_name (i := 2) sc_found.nd rfl (Or.inl rfl)) (fun _ _ _ _ _ => (pts_one (pt_cmpR op_lt (pv 2) (pv 0) (nomark _)))) (fun _ _ _ _ _ => (pv 2))) pa_nil)) (pa_cons (pe_callB call_len_seq (by rfl) T.z_len PySem.boot_len (pa_cons (pe_lc (own := [("one", 2)]) (g := gName 2)  rfl sc_found.nd (pi_list (pv 1)) (blkOk_by (N := N_found) (sc := defScope s_found) (by decide +kernel)) (fun _ _ _ _ _ => pg_name (i := 2) sc_found.nd rfl (Or.inl rfl)) (fun _ _ _ _ _ => (pts_one (pt_cmpR op_le (pv 2) (pv 0) (nomark _)))) (fun _ _ _ _ _ => (pv 2))) pa_nil)) pa_nil))))), ?_⟩
    refine ⟨_, rfl, p, rfl, ⟨_, L2.sq_of hp⟩, fun D hD => ?_⟩
    refine lc_list (K := K) (a := p) (xs := ms.map V.int) (fun j H' => Same H H' ∧ H' D = some (.lst (((ms.take j).filter fun x => decide (x < key)).map V.int))) ⟨same_upd hD, upd_same⟩ (fun j H' _ h => L2.sq_of (h.1 _ _ hp)) ?_ ?_
    · rintro j v H5 hv ⟨s5, h5⟩
      obtain ⟨z, hz, rfl⟩ := int_at hv
      obtain ⟨g1, g2⟩ := filt_go (p := fun x => decide (x < key)) hl hz hD s5 h5
      refine ⟨rfl, _, rfl, _, rfl, _, _, rfl, rfl, decide (z < key), rfl, ?_⟩
      by_cases c : z < key
      · rw [decide_eq_true c]
        exact iteT ⟨_, rfl, g1 (decide_eq_true c)⟩
      · rw [decide_eq_false c]
        exact iteF (g2 fun h => c (of_decide_eq_true h))
    rintro H1 ⟨s1, h1⟩
    rw [List.length_map, List.take_of_length_le (Nat.le_refl _)] at h1
    have hp1 := s1 _ _ hp
    refine ⟨D, _, rfl, .inl (L2.sq_of h1), ?_⟩
    refine ⟨_, rfl, p, rfl, ⟨_, L2.sq_of hp1⟩, fun D2 hD2 => ?_⟩
    refine lc_list (K := K) (a := p) (xs := ms.map V.int) (fun j H' => Same H1 H' ∧ H' D2 = some (.lst (((ms.take j).filter fun x => decide (x ≤ key)).map V.int))) ⟨same_upd hD2, upd_same⟩ (fun j H' _ h => L2.sq_of (h.1 _ _ hp1)) ?_ ?_
    · rintro j v H5 hv ⟨s5, h5⟩
      obtain ⟨z, hz, rfl⟩ := int_at hv
      obtain ⟨g1, g2⟩ := filt_go (p := fun x => decide (x ≤ key)) hl hz hD2 s5 h5
      refine ⟨rfl, _, rfl, _, rfl, _, _, rfl, rfl, decide (z ≤ key), rfl, ?_⟩
      by_cases c : z ≤ key
      · rw [decide_eq_true c]
        exact iteT ⟨_, rfl, g1 (decide_eq_true c)⟩
      · rw [decide_eq_false c]
        exact iteF (g2 fun h => c (of_decide_eq_true h))
    rintro H2 ⟨s2, h2⟩
    rw [List.length_map, List.take_of_length_le (Nat.le_refl _)] at h2
    refine ⟨D2, _, rfl, .inl (L2.sq_of h2), by show 2 ≤ sizeLine; decide, fun t ht => ?_⟩
    refine q t _ (s1.trans (s2.trans (same_upd ht))) ?_
    rw [upd_same]
    show some (HO.tup [.int ((List.length (List.map _ _) : Nat) : Int), .int ((List.length (List.map _ _) : Nat) : Int)]) = _
    rw [List.length_map, List.length_map]
    rfl
end

end K25

namespace K25
open PySem PySem.Spec PyProof.Rows L2 LamX
theorem cmul3 {z : Int} (h1 : -60 < z) (h2 : z < 60) : CMul (z * z * z) (10 ^ 20) := by
  have h : z.natAbs ≤ 60 := by omega
  have e : (z * z * z).natAbs = z.natAbs * z.natAbs * z.natAbs := by rw [Int.natAbs_mul, Int.natAbs_mul]
  have b := Nat.mul_le_mul (Nat.mul_le_mul h h) h
  rw [← e] at b
  exact .inl ⟨by omega, by omega⟩
theorem cpow20 : CPowW 10 20 := ⟨by decide, by decide⟩
theorem map_go {f : Int → Int} {ms : List Int} {j : Nat} {z : Int} {H H5 : Hp} {D : Addr} (hl : ms.length ≤ 2000) (hz : ms[j]? = some z) (hD : H D = none) (s5 : Same H H5) (h5 : H5 D = some (.lst (((ms.take j).map f).map V.int))) :
    ∃ acc, H5 D = some (.lst acc) ∧ acc.length < sizeLine ∧ Same H (upd H5 D (.lst (acc ++ [.int (f z)]))) ∧ upd H5 D (.lst (acc ++ [.int (f z)])) D = some (.lst (((ms.take (j + 1)).map f).map V.int)) := by
  refine ⟨_, h5, ?_, fun b o e => ?_, ?_⟩
  · rw [List.length_map, List.length_map, List.length_take]
    exact Nat.lt_of_le_of_lt (by omega : _ ≤ 2000) (by decide)
  · rw [upd_ne (ne_of_none e hD)]
    exact s5 _ _ e
  · rw [upd_same, List.take_succ, hz, List.map_append, List.map_append]
    rfl
theorem ints_in {lo hi : Int} {v : V} : ∀ {xs : List V}, (xs.all fun v => match v with | .int i => decide (lo ≤ i) && decide (i ≤ hi) | _ => false) = true → v ∈ xs → ∃ i, v = .int i ∧ lo ≤ i ∧ i ≤ hi := by
  intro xs h hv
  have := List.all_eq_true.mp h v hv
  cases v with
  | int i =>
    rw [Bool.and_eq_true, decide_eq_true_eq, decide_eq_true_eq] at this
    exact ⟨i, rfl, this.1, this.2⟩
  | _ => cases this
theorem tabs_put {TT : List (Addr × Str)} {H : Hp} {D : Addr} {xs : List V} {o : HO} (t : LamX.Tabs TT H) (hs : H D = some (.lst xs)) : LamX.Tabs TT (upd H D o) := fun p hp => by
  obtain ⟨ps, h1, h2, h3⟩ := t p hp
  refine ⟨ps, ?_, h2, fun pos cv hc => ?_⟩
  · rw [upd_ne (fun e => by rw [e, hs] at h1; cases h1)]
    exact h1
  · obtain ⟨c, e1, e2⟩ := h3 pos cv hc
    refine ⟨c, e1, ?_⟩
    rw [upd_ne (fun e => ?_)]
    · exact e2
    · rw [e, hs] at e2
      have e3 := Option.some.inj e2
      unfold LamX.CodeO at e3
      cases e3
theorem tabs_dn {TT : List (Addr × Str)} {H H' : Hp} {sp : Addr} (t : LamX.Tabs TT H) (hs : Src H sp) (d : Dn sp H H') : LamX.Tabs TT H' := fun p hp => by
  obtain ⟨x, y, z, _, hs⟩ := hs
  obtain ⟨ps, h1, h2, h3⟩ := t p hp
  refine ⟨ps, d.1 _ _ (fun e => by rw [e, hs] at h1; cases h1) h1, h2, fun pos cv hc => ?_⟩
  obtain ⟨c, e1, e2⟩ := h3 pos cv hc
  refine ⟨c, e1, d.1 _ _ (fun e => ?_) e2⟩
  rw [e, hs] at e2
  have e3 := Option.some.inj e2
  unfold LamX.CodeO at e3
  cases e3
/-- all but the source and the tables stays -/
def DnT (sp : Addr) (H H' : Hp) : Prop := (∀ b o, b ≠ sp → (∀ ps, o ≠ HO.tbl ps) → H b = some o → H' b = some o) ∧ Src H' sp
theorem DnT.refl {sp : Addr} {H : Hp} (h : Src H sp) : DnT sp H H := ⟨fun _ _ _ _ h => h, h⟩
theorem DnT.trans {sp : Addr} {H H1 H2 : Hp} (a : DnT sp H H1) (b : DnT sp H1 H2) : DnT sp H H2 := ⟨fun x o n t h => b.1 x o n t (a.1 x o n t h), b.2⟩
theorem DnT.of {sp : Addr} {H H1 : Hp} (a : Dn sp H H1) : DnT sp H H1 := ⟨fun b o n _ h => a.1 b o n h, a.2⟩
theorem DnT.ext {sp : Addr} {H H1 H2 : Hp} (a : DnT sp H H1) (e : LamX.ExtN H1 H2) : DnT sp H H2 := ⟨fun b o n t h => e _ _ (a.1 b o n t h) t, by
  obtain ⟨x, y, z, h0, h⟩ := a.2
  exact ⟨x, y, z, h0, e _ _ h fun ps z => by cases z⟩⟩
def lpD (n : Int) (row : List Nat) : PyData := .tuple [.int n, .list ((row.map fun (i : Nat) => (i : Int)).map PyData.int)]
theorem shaped_lp (n : Int) (row : List Nat) : SeqAt.shaped (lpD n row) = true := by
  unfold SeqAt.shaped
  rw [Bool.and_eq_true]
  constructor
  · show (true && (PyData.canLayAll0 ((row.map fun (i : Nat) => (i : Int)).map PyData.int) && true)) = true
    rw [canLay_ints]
    rfl
  · refine decide_eq_true ?_
    show max 0 (max (PyData.depthAll ((row.map fun (i : Nat) => (i : Int)).map PyData.int) + 1) 0) + 1 ≤ 64
    rw [depth_ints]
    decide
theorem eqv_lp (n : Int) (row : List Nat) : PyData.eqv (lpD n row) (lpD n row) = true := SeqAt.eqv_refl _ (SeqAt.canLay_of_shaped (shaped_lp n row))
theorem dp_lp {K : PySem.W.Frag} {H : Hp} {t l : Addr} {n : Int} {row : List Nat} (ht : H t = some (.tup [.int n, .ref l])) (hl : H l = some (.lst (nV row))) : Dp K H (.ref t) (lpD n row) :=
  .tup (L2.st_of ht) (.cons (.int n) (.cons (dp_ints (by rw [← nV_map]; exact L2.sq_of hl)) .nil))
theorem dp_nats7 {K : PySem.W.Frag} {H : Hp} {p : Addr} {row : List Nat} (h : H p = some (.lst (nV row))) : Dp K H (.ref p) (.list ((row.map fun (i : Nat) => (i : Int)).map PyData.int)) := dp_ints (by rw [← nV_map]; exact L2.sq_of h)
theorem cut_last (xs : List V) : cutV xs none (some (-1)) = xs.take (xs.length - 1) := by
  show (xs.drop 0).take ((if (-1 : Int) < 0 then ((-1 : Int) + (xs.length : Int)).toNat else min (-1 : Int).toNat xs.length) - 0) = xs.take (xs.length - 1)
  rw [if_pos (by decide), List.drop_zero, show ((-1 : Int) + (xs.length : Int)).toNat - 0 = xs.length - 1 by omega]
def SAsk (a : Ad) : Addr → Sp → Prop := fun f sp => (f = a.before ∧ sp = spLeapK a lowB) ∨ (f = a.behind ∧ sp = spLeapK a lowA)
theorem leap_uniq {low : Nat → Bool} {many hint N M : Nat} (h1 : (leapN low many hint N).wt = none) (h2 : ∀ i, i < N → (leapN low many hint i).wt ≠ none) (h3 : (leapN low many hint M).wt = none) (h4 : ∀ i, i < M → (leapN low many hint i).wt ≠ none) : N = M := by
  rcases Nat.lt_trichotomy N M with h | h | h
  · exact absurd h1 (h4 N h)
  · exact h
  · exact absurd h3 (h2 M h)
structure Res (n hint cnt N : Nat) : Prop where
  wt : (leapN (fun i => decide (i < cnt)) n hint N).wt = none
  be : ∀ i, i < N → (leapN (fun i => decide (i < cnt)) n hint i).wt ≠ none
def RQ (n hint cnt N : Nat) : List Nat := leapQ (fun i => decide (i < cnt)) n hint N
theorem RQ_len (n hint cnt N : Nat) : (RQ n hint cnt N).length = N := LP.asks_len _ _ _
theorem Res.uniq {n hint cnt N M : Nat} (a : Res n hint cnt N) (b : Res n hint cnt M) : N = M := leap_uniq a.wt a.be b.wt b.be
theorem Res.same {n m hint cnt N M : Nat} (h : ∀ k, (leapN (fun i => decide (i < cnt)) m hint k).wt = (leapN (fun i => decide (i < cnt)) n hint k).wt) (a : Res m hint cnt N) (b : Res n hint cnt M) : RQ m hint cnt N = RQ n hint cnt M := by
  have c : Res n hint cnt N := ⟨by rw [← h]; exact a.wt, fun i hi => by rw [← h]; exact a.be i hi⟩
  rw [c.uniq b]
  exact LP.asks_same h M
theorem Res.down {n m hint cnt N M : Nat} (h1 : hint < n) (h2 : cnt ≤ hint) (a : Res m hint cnt N) (b : Res n hint cnt M) : RQ m hint cnt N = RQ n hint cnt M :=
  a.same (fun k => (LP.same_down h1 (decide_eq_false (by omega)) k).1) b
theorem Res.up {n m hint cnt N M : Nat} (h1 : hint < n) (nm : n ≤ m) (h2 : hint < cnt) (h3 : 2 ^ LP.bl (cnt - hint) ≤ n - hint) (a : Res m hint cnt N) (b : Res n hint cnt M) : RQ m hint cnt N = RQ n hint cnt M :=
  a.same (fun k => (LP.same_up h1 nm h2 h3 k).1) b
def spLeapD (a : Ad) (low : List Int → Int → Nat → Bool) : Sp := fun vs H Q _ => ∃ (key : Int) (p : Addr) (ns : List Int) (hint cnt : Nat), vs = [.int key, .ref p, .int (hint : Int)] ∧ H p = some (.lst (ns.map V.int)) ∧ hint < ns.length ∧ ns.length ≤ 2000 ∧ cnt ≤ ns.length ∧ (∀ i, i < ns.length → low ns key i = decide (i < cnt)) ∧ Tabs (LT a) H ∧
  ∀ (N : Nat) (t l : Addr) (H' : Hp), Res ns.length hint cnt N → ExtN H H' → Tabs (LT a) H' → FrN H t → FrN H l → H' t = some (.tup [.int (cnt : Int), .ref l]) → H' l = some (.lst (nV (RQ ns.length hint cnt N))) → Q (.ref t) H'
theorem leapD_imp {a : Ad} {low : List Int → Int → Nat → Bool} (vs : List V) (H : Hp) (Q : VK) (E : XK) (h : spLeapD a low vs H Q E) : spLeapK a low vs H Q E := by
  obtain ⟨key, p, ns, hint, cnt, rfl, hp, hh, hl, hc, hlow, hT, q⟩ := h
  refine ⟨key, p, ns, hint, rfl, .inl hp, hh, hl, hT, fun N t l H' hw hbe few e T ft fl ht hl2 => ?_⟩
  have w0 := LP.wf_init hh
  have ec : ∀ k, leapN (low ns key) ns.length hint k = leapN (fun i => decide (i < cnt)) ns.length hint k := LP.stps_congr w0 hlow
  have eq2 : ∀ k, leapQ (low ns key) ns.length hint k = leapQ (fun i => decide (i < cnt)) ns.length hint k := LP.asks_congr w0 hlow
  have R : Res ns.length hint cnt N := ⟨by rw [← ec]; exact hw, fun i hi => by rw [← ec]; exact hbe i hi⟩
  have efd : (leapN (fun i => decide (i < cnt)) ns.length hint N).fd = some cnt := LP.fnd_end hh hc R.wt
  rw [ec, efd] at ht
  rw [eq2] at hl2
  exact q N t l H' R e T ft fl ht hl2
theorem leapD_get {ns : List Int} {key : Int} {low : List Int → Int → Nat → Bool} {hint cnt N : Nat} (hh : hint < ns.length) (hc : cnt ≤ ns.length) (hlow : ∀ i, i < ns.length → low ns key i = decide (i < cnt)) (hw : (leapN (low ns key) ns.length hint N).wt = none) (hbe : ∀ i, i < N → (leapN (low ns key) ns.length hint i).wt ≠ none) :
    Res ns.length hint cnt N ∧ (leapN (low ns key) ns.length hint N).fd = some cnt ∧ leapQ (low ns key) ns.length hint N = RQ ns.length hint cnt N := by
  have w0 := LP.wf_init hh
  have ec : ∀ k, leapN (low ns key) ns.length hint k = leapN (fun i => decide (i < cnt)) ns.length hint k := LP.stps_congr w0 hlow
  have eq2 : ∀ k, leapQ (low ns key) ns.length hint k = leapQ (fun i => decide (i < cnt)) ns.length hint k := LP.asks_congr w0 hlow
  have R : Res ns.length hint cnt N := ⟨by rw [← ec]; exact hw, fun i hi => by rw [← ec]; exact hbe i hi⟩
  exact ⟨R, by rw [ec]; exact LP.fnd_end hh hc R.wt, eq2 N⟩
def lp2 (b c : Nat) (q r : List Nat) : PyData := .list [lpD (b : Int) q, lpD (c : Int) r]
theorem shaped_lp2 (b c : Nat) (q r : List Nat) : SeqAt.shaped (lp2 b c q r) = true := by
  unfold SeqAt.shaped
  rw [Bool.and_eq_true]
  constructor
  · show ((true && (PyData.canLayAll0 ((q.map fun (i : Nat) => (i : Int)).map PyData.int) && true)) && ((true && (PyData.canLayAll0 ((r.map fun (i : Nat) => (i : Int)).map PyData.int) && true)) && true)) = true
    rw [canLay_ints, canLay_ints]
    rfl
  · refine decide_eq_true ?_
    show max (max 0 (max (PyData.depthAll ((q.map fun (i : Nat) => (i : Int)).map PyData.int) + 1) 0) + 1) (max (max 0 (max (PyData.depthAll ((r.map fun (i : Nat) => (i : Int)).map PyData.int) + 1) 0) + 1) 0) + 1 ≤ 64
    rw [depth_ints, depth_ints]
    decide
theorem eqv_lp2 (b c : Nat) (q r : List Nat) : PyData.eqv (lp2 b c q r) (lp2 b c q r) = true := SeqAt.eqv_refl _ (SeqAt.canLay_of_shaped (shaped_lp2 b c q r))
theorem dp_lp2 {K : PySem.W.Frag} {H : Hp} {h t1 t2 l1 l2 : Addr} {b c : Nat} {q r : List Nat} (hh : H h = some (.lst [.ref t1, .ref t2])) (h1 : H t1 = some (.tup [.int (b : Int), .ref l1])) (g1 : H l1 = some (.lst (nV q))) (h2 : H t2 = some (.tup [.int (c : Int), .ref l2])) (g2 : H l2 = some (.lst (nV r))) : Dp K H (.ref h) (lp2 b c q r) :=
  .lst (L2.sq_of hh) (.cons (dp_lp h1 g1) (.cons (dp_lp h2 g2) .nil))
theorem dp_two {K : PySem.W.Frag} {H : Hp} {t : Addr} {n m : Int} (ht : H t = some (.tup [.int n, .int m])) : Dp K H (.ref t) (.tuple [.int n, .int m]) := .tup (L2.st_of ht) (.cons (.int n) (.cons (.int m) .nil))
theorem shaped_two (n m : Int) : SeqAt.shaped (.tuple [.int n, .int m]) = true := by rfl
theorem eqv_two (n m : Int) : PyData.eqv (.tuple [.int n, .int m]) (.tuple [.int n, .int m]) = true := SeqAt.eqv_refl _ (SeqAt.canLay_of_shaped (shaped_two n m))
theorem eqv_two2 {n m n' m' : Int} (h1 : n = n') (h2 : m = m') : PyData.eqv (.tuple [.int n, .int m]) (.tuple [.int n', .int m']) = true := by
  subst h1 h2
  exact eqv_two _ _
def spRight (a : Ad) : Sp := fun vs H Q _ => ∃ (wl : Addr), vs = [.ref wl] ∧ Src H wl ∧ Tabs (LT a) H ∧ ∀ H', DnT wl H H' → Tabs (LT a) H' → Q (.bl true) H'
section
variable {P : Program} {w : World} {K : PySem.W.Frag} {mg : Str → Option Value} {base : Heap} {a : Ad} {d : Fd}
theorem heldAsk (T : Txt K mg a d) (TB_before : TabB base mg a.lc_before a.lp_before) (TB_behind : TabB base mg a.lc_behind a.lp_behind) : ∀ f sp, SAsk a f sp → Held P w K mg base 7 f sp := fun f sp h => by
  rcases h with ⟨rfl, rfl⟩ | ⟨rfl, rfl⟩
  · exact ⟨d.before, P_before, ok_before T TB_before, T.k_before, T.b_before⟩
  · exact ⟨d.behind, P_behind, ok_behind T TB_behind, T.k_behind, T.b_behind⟩
end

end K25

namespace K25
open PySem PySem.Spec PyProof.Rows L2 LamX
section
variable {P : Program} {w : World} {K : PySem.W.Frag} {mg : Str → Option Value} {base : Heap} {a : Ad} {d : Fd}
theorem ok_right (T : Txt K mg a d) (TB_places_of_leap : TabB base mg a.lc_places_of_leap a.lp_places_of_leap) (TB_before : TabB base mg a.lc_before a.lp_before) (TB_behind : TabB base mg a.lc_behind a.lp_behind) : FnOk P w K mg base CX0 9 a.right d.right P_right (spRight a) := by
  have G_draw : FnOk P w K mg base CX0 1 a.draw d.draw P_draw spDraw := ok_draw T
  have G_one : FnOk P w K mg base CX0 2 a.one d.one P_one (spOne K) := ok_one T
  have G_found : FnOk P w K mg base CX0 1 a.found d.found P_found spFound25 := ok_found T
  have G_before : FnOk P w K mg base CX0 7 a.before d.before P_before (spLeapD a lowB) := (ok_before T TB_before).imp leapD_imp
  have G_behind : FnOk P w K mg base CX0 7 a.behind d.behind P_behind (spLeapD a lowA) := (ok_behind T TB_behind).imp leapD_imp
  have G_leap_places : FnOk P w K mg base CX0 8 a.leap_places d.leap_places P_leap_places (spPlaces a) := ok_leap_places T TB_places_of_leap
  refine T.f_right.ok sc_right (fun vs H Q E h => ?_) (fun cdv A outer s0 H vs Q E hr h => ?_)
  · obtain ⟨wl, rfl, _⟩ := h
    rfl
  · obtain ⟨wl, rfl, hs, hT, q⟩ := h
    refine ⟨_, (pss_cons (ps_set (i := 1) sc_right.nd rfl (Or.inl rfl) (pe_callB cr_sortedI (by rfl) T.z_sorted (by decide +kernel) (pa_cons (pe_lc (own := [("turn", 2)]) (g := gName 2) (tt := tYes) rfl sc_right.nd (pi_range1 (by rfl) T.z_range (pa_cons (pe_op op_add pe_int (pe_call G_draw (hr.mono (by decide)) (by rfl) T.g_draw T.k_draw T.b_draw .nil pass0 (pa_cons (pv 0) (pa_cons pe_int pa_nil)))) pa_nil)) (blkOk_by (N := N_right) (sc := defScope s_right) (by decide +kernel)) (fun _ _ _ _ _ => pg_name (i := 2) sc_right.nd rfl (Or.inl rfl)) (fun _ _ _ _ _ => pts_nil) (fun _ _ _ _ _ => (pe_call G_draw (hr.mono (by decide)) (by rfl) T.g_draw T.k_draw T.b_draw .nil pass0 (pa_cons (pv 0) (pa_cons (pe_call G_one (hr.mono (by decide)) (by rfl) T.g_one T.k_one T.b_one .nil pass0 (pa_cons (pv 0) (pa_cons (pe_lst (pa_cons pe_int (pa_cons pe_int (pa_cons pe_int pa_nil)))) pa_nil))) pa_nil))))) pa_nil)))
    (pss_cons (ps_par (i := 3) (j := 4) rfl sc_right.nd rfl rfl (by decide) rfl rfl (pa_cons (pe_op op_sub (pe_call G_draw (hr.mono (by decide)) (by rfl) T.g_draw T.k_draw T.b_draw .nil pass0 (pa_cons (pv 0) (pa_cons pe_int pa_nil))) pe_int) (pa_cons (pe_call G_draw (hr.mono (by decide)) (by rfl) T.g_draw T.k_draw T.b_draw .nil pass0 (pa_cons (pv 0) (pa_cons (pe_callB call_len_seq (by rfl) T.z_len PySem.boot_len (pa_cons (pv 1) pa_nil)) pa_nil))) pa_nil)) (by rfl))
    (pss_cons (ps_set (i := 5) sc_right.nd rfl (Or.inl rfl) (pe_lst (pa_cons (pe_call G_before (hr.mono (by decide)) (by rfl) T.g_before T.k_before T.b_before .nil pass0 (pa_cons (pv 3) (pa_cons (pv 1) (pa_cons (pv 4) pa_nil)))) (pa_cons (pe_call G_behind (hr.mono (by decide)) (by rfl) T.g_behind T.k_behind T.b_behind .nil pass0 (pa_cons (pv 3) (pa_cons (pv 1) (pa_cons (pv 4) pa_nil)))) pa_nil))))
    (pss_cons (ps_if (pt_cmpR (op_neD hr.units) (pe_tup (pa_cons (pe_ix ix_tup (pe_ix ix_list (pv 5) pe_int (fun _ _ => rfl)) pe_int (fun _ _ => rfl)) (pa_cons (pe_ix ix_tup (pe_ix ix_list (pv 5) pe_int (fun _ _ => rfl)) pe_int (fun _ _ => rfl)) pa_nil))) (pe_call G_found (hr.mono (by decide)) (by rfl) T.g_found T.k_found T.b_found .nil pass0 (pa_cons (pv 3) (pa_cons (pv 1) pa_nil))) (nomark _)) (pss_one (ps_ret pe_bl)) pss_nil)
    (pss_cons (ps_setLc (i := 6) (own := [("one", 7)]) (g := gName 7) (tt := tYes) rfl sc_right.nd rfl rfl (sw_true rfl rfl rfl (by decide +kernel)) (pi_list (pv 1)) (blkOk_by (N := N_right) (sc := defScope s_right) (by decide +kernel)) (fun _ _ _ _ _ => pg_name (i := 7) sc_right.nd rfl (Or.inl rfl)) (fun _ _ _ _ _ => pts_nil) (fun _ _ _ _ _ => (pe_op op_sub (pe_op op_mul (pe_op op_mul (pe_op op_mul (pv 7) (pv 7)) (pv 7)) (pe_op op_powW pe_int pe_int)) pe_int)))
    (pss_cons (ps_set (i := 8) sc_right.nd rfl (Or.inl rfl) (pe_op op_sub (pe_op op_mul (pe_op op_mul (pe_op op_mul (pv 3) (pv 3)) (pv 3)) (pe_op op_powW pe_int pe_int)) pe_int))
    (pss_cons (ps_if (pt_cmpR (op_neD hr.units) (pe_lst (pa_cons (pe_call G_before (hr.mono (by decide)) (by rfl) T.g_before T.k_before T.b_before .nil pass0 (pa_cons (pv 8) (pa_cons (pv 6) (pa_cons (pv 4) pa_nil)))) (pa_cons (pe_call G_behind (hr.mono (by decide)) (by rfl) T.g_behind T.k_behind T.b_behind .nil pass0 (pa_cons (pv 8) (pa_cons (pv 6) (pa_cons (pv 4) pa_nil)))) pa_nil))) (pv 5) (nomark _)) (pss_one (ps_ret pe_bl)) pss_nil)
    (pss_cons (ps_par (i := 9) (j := 10) rfl sc_right.nd rfl rfl (by decide) rfl rfl (pa_cons (pe_lc (own := [("one", 7)]) (g := gName 7) (tt := tYes) rfl sc_right.nd (pi_list (pe_revL (pv 1))) (blkOk_by (N := N_right) (sc := defScope s_right) (by decide +kernel)) (fun _ _ _ _ _ => pg_name (i := 7) sc_right.nd rfl (Or.inl rfl)) (fun _ _ _ _ _ => pts_nil) (fun _ _ _ _ _ => (pe_op op_sub pe_int (pv 7)))) (pa_cons (pe_op op_sub (pe_op op_sub (pe_callB call_len_seq (by rfl) T.z_len PySem.boot_len (pa_cons (pv 1) pa_nil)) pe_int) (pv 4)) pa_nil)) (by rfl))
    (pss_cons (ps_set (i := 11) sc_right.nd rfl (Or.inl rfl) (pe_lst (pa_cons (pe_call G_before (hr.mono (by decide)) (by rfl) T.g_before T.k_before T.b_before .nil pass0 (pa_cons (pe_op op_sub pe_int (pv 3)) (pa_cons (pv 9) (pa_cons (pv 10) pa_nil)))) (pa_cons (pe_call G_behind (hr.mono (by decide)) (by rfl) T.g_behind T.k_behind T.b_behind .nil pass0 (pa_cons (pe_op op_sub pe_int (pv 3)) (pa_cons (pv 9) (pa_cons (pv 10) pa_nil)))) pa_nil))))
    (pss_cons (ps_if (pt_cmpR (op_neD hr.units) (pe_tup (pa_cons (pe_ix ix_tup (pe_ix ix_list (pv 11) pe_int (fun _ _ => rfl)) pe_int (fun _ _ => rfl)) (pa_cons (pe_ix ix_tup (pe_ix ix_list (pv 11) pe_int (fun _ _ => rfl)) pe_int (fun _ _ => rfl)) pa_nil))) (pe_tup (pa_cons (pe_op op_sub (pe_callB call_len_seq (by rfl) T.z_len PySem.boot_len (pa_cons (pv 1) pa_nil)) (pe_ix ix_tup (pe_ix ix_list (pv 5) pe_int (fun _ _ => rfl)) pe_int (fun _ _ => rfl))) (pa_cons (pe_op op_sub (pe_callB call_len_seq (by rfl) T.z_len PySem.boot_len (pa_cons (pv 1) pa_nil)) (pe_ix ix_tup (pe_ix ix_list (pv 5) pe_int (fun _ _ => rfl)) pe_int (fun _ _ => rfl))) pa_nil))) (nomark _)) (pss_one (ps_ret pe_bl)) pss_nil)
    (pss_cons (ps_set (i := 12) sc_right.nd rfl (Or.inl rfl) (pe_op op_catS (pv 1) (pe_op op_rep (pe_lst (pa_cons (pe_op op_add pe_int (pe_call G_draw (hr.mono (by decide)) (by rfl) T.g_draw T.k_draw T.b_draw .nil pass0 (pa_cons (pv 0) (pa_cons pe_int pa_nil)))) pa_nil)) (pe_call G_draw (hr.mono (by decide)) (by rfl) T.g_draw T.k_draw T.b_draw .nil pass0 (pa_cons (pv 0) (pa_cons pe_int pa_nil))))))
    (pss_cons (ps_for PassesOwn.never rfl (pi_tup (pe_tup (pa_cons (pe_tup (pa_cons (pe_glob (v := .ref a.before) (by rfl) T.g_before rfl) (pa_cons (pe_ix ix_list (pv 5) pe_int (fun _ _ => rfl)) pa_nil))) (pa_cons (pe_tup (pa_cons (pe_glob (v := .ref a.behind) (by rfl) T.g_behind rfl) (pa_cons (pe_ix ix_list (pv 5) pe_int (fun _ _ => rfl)) pa_nil))) pa_nil)))) (pg_tup rfl (pgs_cons (pg_name (i := 13) sc_right.nd rfl (Or.inl rfl)) (pgs_cons (pg_tup rfl (pgs_cons (pg_name (i := 14) sc_right.nd rfl (Or.inl rfl)) (pgs_cons (pg_name (i := 15) sc_right.nd rfl (Or.inl rfl)) pgs_nil))) pgs_nil)))
      (C8.pss_cut (ps_if (PW.pt (pw_and (pt_cmpR op_le (pv 14) (pv 4) (nomark _)) (pw_and1 (pt_cmpR (op_neD hr.units) (pe_callR (i := 13) (S := SAsk a) (heldAsk T TB_before TB_behind) (hr.mono (by decide)) rfl (Or.inl rfl) (pa_cons (pv 3) (pa_cons (pv 12) (pa_cons (pv 4) pa_nil)))) (pe_tup (pa_cons (pv 14) (pa_cons (pv 15) pa_nil))) (nomark _))))) (pss_one (ps_ret pe_bl)) pss_nil)
        (C8.pss_cut (ps_if (PW.pt (pw_and (pt_cmpR op_gt (pv 14) (pv 4) (nomark _)) (pw_and (pt_cmpR op_le (pe_op op_shlN pe_int (pe_bits (pe_callTy call_int1 (by rfl) T.z_int (by decide +kernel) (pa_cons (pe_op op_sub (pv 14) (pv 4)) pa_nil)))) (pe_op op_sub (pe_callB call_len_seq (by rfl) T.z_len PySem.boot_len (pa_cons (pv 1) pa_nil)) (pv 4)) (nomark _)) (pw_and1 (pt_cmpR (op_neD hr.units) (pe_ix ix_tup (pe_callR (i := 13) (S := SAsk a) (heldAsk T TB_before TB_behind) (hr.mono (by decide)) rfl (Or.inl rfl) (pa_cons (pv 3) (pa_cons (pv 12) (pa_cons (pv 4) pa_nil)))) pe_int (fun _ _ => rfl)) (pv 15) (nomark _)))))) (pss_one (ps_ret pe_bl)) pss_nil)
        (pss_one (ps_if (PW.pt (pw_or (pt_cmpR op_ne (pe_ix ix_tup (pe_callR (i := 13) (S := SAsk a) (heldAsk T TB_before TB_behind) (hr.mono (by decide)) rfl (Or.inl rfl) (pa_cons (pv 3) (pa_cons (pv 1) (pa_cons (pe_op op_sub (pv 14) (pe_callTy call_int1 (by rfl) T.z_int (by decide +kernel) (pa_cons (pe_cmpR op_eq (pv 14) (pe_callB call_len_seq (by rfl) T.z_len PySem.boot_len (pa_cons (pv 1) pa_nil)) (nomark _)) pa_nil))) pa_nil)))) pe_int (fun _ _ => rfl)) (pv 14) (nomark _)) (pw_or1 (pt_cmpR (op_neD hr.units) (pe_call G_leap_places (hr.mono (by decide)) (by rfl) T.g_leap_places T.k_leap_places T.b_leap_places .nil pass0 (pa_cons (pe_callB call_len_seq (by rfl) T.z_len PySem.boot_len (pa_cons (pv 1) pa_nil)) (pa_cons (pv 4) (pa_cons (pv 14) pa_nil)))) (pv 15) (nomark _))))) (pss_one (ps_ret pe_bl)) pss_nil)))))
    (pss_one (ps_ret pe_bl)))))))))))))), ?_⟩
    -- row
    refine ⟨_, rfl, wl, 50, rfl, hs, by decide, by decide, fun v x y z v0 v1 x0 => ?_⟩
    have d1 : Dn wl H (upd H wl (.lst [.int x, .int y, .int z])) := .put x0
    generalize upd H wl (.lst [.int x, .int y, .int z]) = H1 at d1 ⊢
    refine ⟨_, _, rfl, rfl, 1 + v, rfl, by omega, by omega, fun D hD => ?_⟩
    have nD : D ≠ wl := d1.2.ne hD
    refine lc_range (lo := 0) (n := (1 + v).toNat) (fun i H' => ∃ ms : List Int, ms.length = i ∧ (∀ m ∈ ms, 0 ≤ m ∧ m < 50) ∧ Dn wl H1 H' ∧ H' D = some (.lst (ms.map V.int))) ⟨[], rfl, (fun m h => by cases h), (Dn.refl d1.2).new hD, upd_same⟩ ?_ ?_
    · rintro i H2 hi ⟨ms, lms, bms, d2, h2⟩
      refine ⟨rfl, _, rfl, _, rfl, by show 3 ≤ sizeLine; decide, fun r hr => ?_⟩
      refine ⟨wl, r, _, rfl, d2.2.new hr, d2.2.ne hr, L2.sq_of upd_same, by show 0 < 3; decide, by show 3 < 2 ^ 60; decide, fun kv H3 hkv d3 => ?_⟩
      obtain ⟨c, rfl, c0, c1⟩ := ints_in (lo := 1) (hi := 50) (by decide +kernel) hkv
      refine ⟨wl, c, rfl, d3.2, by omega, by omega, fun v x y z v0 v1 x0 => ?_⟩
      have d4 : Dn wl H2 (upd H3 wl (.lst [.int x, .int y, .int z])) := (((Dn.refl d2.2).new hr).trans d3).trans (.put x0)
      have h4 := d4.1 _ _ nD h2
      generalize upd H3 wl (.lst [.int x, .int y, .int z]) = H4 at d4 h4 ⊢
      have d24 := d2.trans d4
      refine ⟨_, h4, ?_, ms ++ [v], by rw [List.length_append, lms]; rfl, fun m hm => ?_, ⟨fun b o nb e => ?_, d24.2.upd nD⟩, ?_⟩
      · rw [List.length_map, lms]
        exact Nat.lt_of_le_of_lt (by omega : i ≤ 2000) (by decide)
      · rcases List.mem_append.mp hm with h | h
        · exact bms m h
        · rw [List.mem_singleton.mp h]
          omega
      · rw [upd_ne (ne_of_none e hD)]
        exact d24.1 b o nb e
      · rw [map_snoc]
        exact upd_same
    rintro H2 ⟨rs, lrs, brs, d2, h2⟩
    refine ⟨D, rs, rfl, L2.sq_of h2, fun ms L pm srt hL => ?_⟩
    have bms : ∀ m ∈ ms, 0 ≤ m ∧ m < 50 := fun m hm => brs m (pm.mem_iff.mp hm)
    have lms : ms.length = (1 + v).toNat := by rw [pm.length_eq]; exact lrs
    have mpos : 0 < ms.length := by omega
    have mfew : ms.length ≤ 60 := by omega
    have ek : (ms.map V.int).length = ms.length := List.length_map _
    clear brs lrs pm h2 hD nD
    have nL : L ≠ wl := d2.2.ne hL
    have d3 : Dn wl H (upd H2 L (.lst (ms.map V.int))) := (d1.trans d2).new hL
    have h3 : upd H2 L (.lst (ms.map V.int)) L = some (.lst (ms.map V.int)) := upd_same
    generalize upd H2 L (.lst (ms.map V.int)) = H3 at d3 h3 ⊢
    -- key, hint
    refine ⟨_, rfl, wl, 52, rfl, d3.2, by decide, by decide, fun v x y z v0 v1 x0 => ?_⟩
    have d4 : Dn wl H (upd H3 wl (.lst [.int x, .int y, .int z])) := d3.trans (.put x0)
    have h4 := (Dn.put x0 : Dn wl H3 (upd H3 wl (.lst [.int x, .int y, .int z]))).1 _ _ nL h3
    generalize upd H3 wl (.lst [.int x, .int y, .int z]) = H4 at d4 h4 ⊢
    refine ⟨_, _, rfl, rfl, ?_⟩
    obtain ⟨key, hkey⟩ : ∃ key : Int, key = v - 1 := ⟨_, rfl⟩
    rw [show (fun i j : Int => V.int (i - j)) v 1 = V.int key from congrArg V.int hkey.symm]
    refine ⟨_, rfl, _, rfl, L, _, rfl, .inl (L2.sq_of h4), wl, _, rfl, d4.2, by omega, by omega, fun v2 x y z v20 v21 x0 => ?_⟩
    have d5 : Dn wl H (upd H4 wl (.lst [.int x, .int y, .int z])) := d4.trans (.put x0)
    have h5 := (Dn.put x0 : Dn wl H4 (upd H4 wl (.lst [.int x, .int y, .int z]))).1 _ _ nL h4
    generalize upd H4 wl (.lst [.int x, .int y, .int z]) = H5 at d5 h5 ⊢
    obtain ⟨hint, rfl⟩ : ∃ j : Nat, v2 = (j : Int) := ⟨v2.toNat, (Int.toNat_of_nonneg v20).symm⟩
    rw [ek] at v21
    have hh : hint < ms.length := by omega
    refine ⟨_, _, rfl, ?_⟩
    have T5 := tabs_dn hT hs d5
    have d05 := DnT.of d5
    have kb : key < 60 := by omega
    have kb0 : -2 < key := by omega
    clear hkey v0 v1
    -- heard
    refine ⟨_, rfl, _, rfl, _, rfl, key, L, ms, hint, cntB key ms, rfl, h5, hh, by omega, cntB_le _ _, low_B srt, T5, fun N1 t1 l1 H6 R1 e6 T6 _ fl1 ht1 hl1 => ?_⟩
    obtain ⟨sx, sy, sz, _, hsw⟩ := d5.2
    have nl1 : l1 ≠ wl := fun z => fl1 wl _ hsw (fun ps z => by cases z) z.symm
    have h6 := e6 _ _ h5 fun ps z => by cases z
    refine ⟨_, rfl, _, rfl, _, rfl, key, L, ms, hint, cntA key ms, rfl, h6, hh, by omega, cntA_le _ _, low_A srt, T6, fun N2 t2 l2 H7 R2 e7 T7 _ fl2 ht2 hl2 => ?_⟩
    have nl2 : l2 ≠ wl := fun z => fl2 wl _ (e6 _ _ hsw fun ps z => by cases z) (fun ps z => by cases z) z.symm
    clear hsw fl1 fl2
    have h7 := e7 _ _ h6 fun ps z => by cases z
    have ht1 := e7 _ _ ht1 fun ps z => by cases z
    have hl1 := e7 _ _ hl1 fun ps z => by cases z
    refine ⟨by show 2 ≤ sizeLine; decide, fun hd hhd => ?_⟩
    have s8 := same_upd (o := .lst [.ref t1, .ref t2]) hhd
    have d08 : DnT wl H (upd H7 hd (.lst [.ref t1, .ref t2])) := (d05.ext (e6.trans e7)).ext (.of s8)
    have T8 := T7.ext s8
    have h8 := s8 _ _ h7
    have ht1 := s8 _ _ ht1
    have hl1 := s8 _ _ hl1
    have ht2 := s8 _ _ ht2
    have hl2 := s8 _ _ hl2
    have hhd8 : upd H7 hd (.lst [.ref t1, .ref t2]) hd = some (.lst [.ref t1, .ref t2]) := upd_same
    generalize upd H7 hd (.lst [.ref t1, .ref t2]) = H8 at d08 T8 h8 ht1 hl1 ht2 hl2 hhd8 ⊢
    clear e6 e7 s8 T6 T7 h6 h7 d05 d1 d2 d3 d4 d5
    have k0 : atI [V.ref t1, V.ref t2] 0 = some (.ref t1) := atI_nat (j := 0) rfl
    have k1 : atI [V.ref t1, V.ref t2] 1 = some (.ref t2) := atI_nat (j := 1) rfl
    have g0 : ∀ (n : Nat) (l : Addr), atI [V.int (n : Int), V.ref l] 0 = some (.int (n : Int)) := fun n l => atI_nat (j := 0) rfl
    have g1 : ∀ (n : Nat) (l : Addr), atI [V.int (n : Int), V.ref l] 1 = some (.ref l) := fun n l => atI_nat (j := 1) rfl
    -- found
    refine ⟨_, rfl, hd, _, _, _, rfl, rfl, L2.sq_of hhd8, k0, t1, _, _, _, rfl, rfl, L2.st_of ht1, g0 _ _, _, rfl, hd, _, _, _, rfl, rfl, L2.sq_of hhd8, k1, t2, _, _, _, rfl, rfl, L2.st_of ht2, g0 _ _, by show 2 ≤ sizeLine; decide, fun tp htp => ?_⟩
    have s9 := same_upd (o := .tup [.int (cntB key ms : Int), .int (cntA key ms : Int)]) htp
    have htp9 : upd H8 tp (.tup [.int (cntB key ms : Int), .int (cntA key ms : Int)]) tp = some (.tup [.int (cntB key ms : Int), .int (cntA key ms : Int)]) := upd_same
    generalize upd H8 tp (.tup [.int (cntB key ms : Int), .int (cntA key ms : Int)]) = H9 at s9 htp9 ⊢
    refine ⟨_, rfl, _, rfl, key, L, ms, rfl, s9 _ _ h8, by omega, fun tq H10 s10 htq => ?_⟩
    refine ⟨_, _, dp_two (s10 _ _ htp9), dp_two htq, shaped_two _ _, shaped_two _ _, false, by rw [eqv_two]; rfl, iteF ?_⟩
    have s810 := s9.trans s10
    have h10 := s810 _ _ h8
    clear s9 s10 htp9 htq
    -- wide
    refine ⟨_, rfl, L, rfl, ⟨_, L2.sq_of h10⟩, fun W hW => ?_⟩
    refine lc_list (K := K) (a := L) (xs := ms.map V.int) (fun j H' => Same H10 H' ∧ H' W = some (.lst (((ms.take j).map cube).map V.int))) ⟨same_upd hW, upd_same⟩ (fun j H' _ h => L2.sq_of (h.1 _ _ h10)) ?_ ?_
    · rintro j v H5 hv ⟨s5, h5⟩
      obtain ⟨z, hz, rfl⟩ := int_at hv
      obtain ⟨z0, z1⟩ := bms z (List.mem_of_getElem? hz)
      have b2 : CMul z z := .inl ⟨by omega, by omega⟩
      have b3 : CMul (z * z) z := .inr ⟨by omega, by omega⟩
      exact ⟨rfl, _, rfl, _, rfl, _, _, rfl, rfl, b2, _, rfl, _, _, rfl, rfl, b3, _, _, rfl, rfl, cpow20, _, _, rfl, rfl, cmul3 (by omega) (by omega), _, _, rfl, rfl, map_go (f := cube) (by omega) hz hW s5 h5⟩
    rintro H11 ⟨s11, hW11⟩
    rw [List.length_map, List.take_of_length_le (Nat.le_refl _)] at hW11
    have lw : (ms.map cube).length = ms.length := List.length_map _
    -- other
    have b2 : CMul key key := .inl ⟨by omega, by omega⟩
    have b3 : CMul (key * key) key := .inr ⟨by omega, by omega⟩
    refine ⟨_, rfl, _, rfl, _, _, rfl, rfl, b2, _, rfl, _, _, rfl, rfl, b3, _, _, rfl, rfl, cpow20, _, _, rfl, rfl, cmul3 (by omega) (by omega), _, _, rfl, rfl, ?_⟩
    have e8 : ExtN H8 H11 := .of (s810.trans s11)
    have T11 := T8.ext (s810.trans s11)
    refine ⟨_, rfl, _, rfl, _, rfl, cube key, W, ms.map cube, hint, cntB key ms, rfl, hW11, by omega, by omega, by rw [lw]; exact cntB_le _ _, low_wB srt, T11, fun N3 t3 l3 H12 R3 e12 T12 _ _ ht3 hl3 => ?_⟩
    have hW12 := e12 _ _ hW11 fun ps z => by cases z
    refine ⟨_, rfl, _, rfl, _, rfl, cube key, W, ms.map cube, hint, cntA key ms, rfl, hW12, by omega, by omega, by rw [lw]; exact cntA_le _ _, low_wA srt, T12, fun N4 t4 l4 H13 R4 e13 T13 _ _ ht4 hl4 => ?_⟩
    have ht3 := e13 _ _ ht3 fun ps z => by cases z
    have hl3 := e13 _ _ hl3 fun ps z => by cases z
    rw [lw] at R3 R4 hl3 hl4
    obtain rfl := R3.uniq R1
    obtain rfl := R4.uniq R2
    refine ⟨by show 2 ≤ sizeLine; decide, fun h2 hh2 => ?_⟩
    have s14 := same_upd (o := .lst [.ref t3, .ref t4]) hh2
    have hh14 : upd H13 h2 (.lst [.ref t3, .ref t4]) h2 = some (.lst [.ref t3, .ref t4]) := upd_same
    have e814 : ExtN H8 (upd H13 h2 (.lst [.ref t3, .ref t4])) := (e8.trans (e12.trans e13)).trans (.of s14)
    have T14 := T13.ext s14
    generalize upd H13 h2 (.lst [.ref t3, .ref t4]) = H14 at s14 hh14 e814 T14 ⊢
    have kp : ∀ {b : Addr} {o : HO}, H8 b = some o → (∀ ps, o ≠ .tbl ps) → H14 b = some o := fun h n => e814 _ _ h n
    refine ⟨_, rfl, _, _, dp_lp2 hh14 (s14 _ _ ht3) (s14 _ _ hl3) (s14 _ _ ht4) (s14 _ _ hl4), dp_lp2 (kp hhd8 fun ps z => by cases z) (kp ht1 fun ps z => by cases z) (kp hl1 fun ps z => by cases z) (kp ht2 fun ps z => by cases z) (kp hl2 fun ps z => by cases z), shaped_lp2 _ _ _ _, shaped_lp2 _ _ _ _, false, by rw [eqv_lp2]; rfl, iteF ?_⟩
    have h14 := kp h8 fun ps z => by cases z
    clear s810 s11 hW11 hW12 e8 T11 T12 T13 e12 e13 ht3 hl3 ht4 hl4 hh14 s14 kp
    -- turned
    refine ⟨_, rfl, L, _, rfl, L2.sq_of h14, fun rv hrv => ?_⟩
    have er : (ms.map V.int).reverse = ms.reverse.map V.int := List.map_reverse.symm
    rw [er]
    have s15 := same_upd (o := .lst (ms.reverse.map V.int)) hrv
    have hrv15 : upd H14 rv (.lst (ms.reverse.map V.int)) rv = some (.lst (ms.reverse.map V.int)) := upd_same
    generalize upd H14 rv (.lst (ms.reverse.map V.int)) = H15 at s15 hrv15 ⊢
    refine ⟨rv, rfl, ⟨_, L2.sq_of hrv15⟩, fun Tn hTn => ?_⟩
    refine lc_list (K := K) (a := rv) (xs := ms.reverse.map V.int) (fun j H' => Same H15 H' ∧ H' Tn = some (.lst (((ms.reverse.take j).map fun x => 0 - x).map V.int))) ⟨same_upd hTn, upd_same⟩ (fun j H' _ h => L2.sq_of (h.1 _ _ hrv15)) ?_ ?_
    · rintro j v H5 hv ⟨s5, h5⟩
      obtain ⟨z, hz, rfl⟩ := int_at hv
      exact ⟨rfl, _, rfl, _, _, rfl, rfl, map_go (f := fun x => 0 - x) (by rw [List.length_reverse]; omega) hz hTn s5 h5⟩
    rintro H16 ⟨s16, hTn16⟩
    rw [List.length_map, List.take_of_length_le (Nat.le_refl _)] at hTn16
    have hTn16 : H16 Tn = some (.lst ((turned ms).map V.int)) := hTn16
    have e16 : ExtN H8 H16 := e814.trans (.of (s15.trans s16))
    have T16 := T14.ext (s15.trans s16)
    have h16 := e16 _ _ h8 fun ps z => by cases z
    clear s15 s16 e814 T14 hrv15 h14
    refine ⟨_, rfl, L, _, rfl, .inl (L2.sq_of h16), _, _, rfl, rfl, _, rfl, _, _, rfl, rfl, _, _, rfl, ?_⟩
    rw [show (fun i j : Int => V.int (i - j)) (((ms.map V.int).length : Int) - 1) (hint : Int) = V.int ((ms.length - 1 - hint : Nat) : Int) from congrArg V.int (by rw [ek]; omega)]
    -- mates
    have lt := turned_len ms
    have cB := cntB_le key ms
    have cA := cntA_le key ms
    refine ⟨_, rfl, _, _, rfl, rfl, _, rfl, _, rfl, 0 - key, Tn, turned ms, ms.length - 1 - hint, ms.length - cntA key ms, rfl, hTn16, by omega, by omega, by omega, low_tB srt, T16, fun N5 t5 l5 H17 R5 e17 T17 _ _ ht5 hl5 => ?_⟩
    have hTn17 := e17 _ _ hTn16 fun ps z => by cases z
    refine ⟨_, rfl, _, _, rfl, rfl, _, rfl, _, rfl, 0 - key, Tn, turned ms, ms.length - 1 - hint, ms.length - cntB key ms, rfl, hTn17, by omega, by omega, by omega, low_tA srt, T17, fun N6 t6 l6 H18 R6 e18 T18 _ _ ht6 hl6 => ?_⟩
    have ht5 := e18 _ _ ht5 fun ps z => by cases z
    refine ⟨by show 2 ≤ sizeLine; decide, fun hm hhm => ?_⟩
    have s19 := same_upd (o := .lst [.ref t5, .ref t6]) hhm
    have hhm19 : upd H18 hm (.lst [.ref t5, .ref t6]) hm = some (.lst [.ref t5, .ref t6]) := upd_same
    have e19 : ExtN H8 (upd H18 hm (.lst [.ref t5, .ref t6])) := (e16.trans (e17.trans e18)).trans (.of s19)
    have T19 := T18.ext s19
    have ht5 := s19 _ _ ht5
    have ht6 := s19 _ _ ht6
    generalize upd H18 hm (.lst [.ref t5, .ref t6]) = H19 at s19 hhm19 e19 T19 ht5 ht6 ⊢
    have kp : ∀ {b : Addr} {o : HO}, H8 b = some o → (∀ ps, o ≠ .tbl ps) → H19 b = some o := fun h n => e19 _ _ h n
    have h19 := kp h8 fun ps z => by cases z
    have hhd19 := kp hhd8 fun ps z => by cases z
    have ht119 := kp ht1 fun ps z => by cases z
    have ht219 := kp ht2 fun ps z => by cases z
    have m0 : atI [V.ref t5, V.ref t6] 0 = some (.ref t5) := atI_nat (j := 0) rfl
    have m1 : atI [V.ref t5, V.ref t6] 1 = some (.ref t6) := atI_nat (j := 1) rfl
    refine ⟨_, rfl, hm, _, _, _, rfl, rfl, L2.sq_of hhm19, m1, t6, _, _, _, rfl, rfl, L2.st_of ht6, g0 _ _, _, rfl, hm, _, _, _, rfl, rfl, L2.sq_of hhm19, m0, t5, _, _, _, rfl, rfl, L2.st_of ht5, g0 _ _, by show 2 ≤ sizeLine; decide, fun tp htp => ?_⟩
    have s20 := same_upd (o := .tup [.int ((ms.length - cntB key ms : Nat) : Int), .int ((ms.length - cntA key ms : Nat) : Int)]) htp
    have htp20 : upd H19 tp (.tup [.int ((ms.length - cntB key ms : Nat) : Int), .int ((ms.length - cntA key ms : Nat) : Int)]) tp = some (.tup [.int ((ms.length - cntB key ms : Nat) : Int), .int ((ms.length - cntA key ms : Nat) : Int)]) := upd_same
    generalize upd H19 tp (.tup [.int ((ms.length - cntB key ms : Nat) : Int), .int ((ms.length - cntA key ms : Nat) : Int)]) = H20 at s20 htp20 ⊢
    refine ⟨_, rfl, L, _, rfl, .inl (L2.sq_of (s20 _ _ h19)), _, rfl, hd, _, _, _, rfl, rfl, L2.sq_of (s20 _ _ hhd19), k0, t1, _, _, _, rfl, rfl, L2.st_of (s20 _ _ ht119), g0 _ _, _, _, rfl, rfl, _, rfl, L, _, rfl, .inl (L2.sq_of (s20 _ _ h19)), _, rfl, hd, _, _, _, rfl, rfl, L2.sq_of (s20 _ _ hhd19), k1, t2, _, _, _, rfl, rfl, L2.st_of (s20 _ _ ht219), g0 _ _, _, _, rfl, rfl, by show 2 ≤ sizeLine; decide, fun tq htq => ?_⟩
    have e21 := e19.trans (.of (s20.trans (same_upd (o := .tup [(fun i j : Int => V.int (i - j)) ((ms.map V.int).length : Int) (cntB key ms : Int), (fun i j : Int => V.int (i - j)) ((ms.map V.int).length : Int) (cntA key ms : Int)]) htq)))
    have T21 := T19.ext (s20.trans (same_upd (o := .tup [(fun i j : Int => V.int (i - j)) ((ms.map V.int).length : Int) (cntB key ms : Int), (fun i j : Int => V.int (i - j)) ((ms.map V.int).length : Int) (cntA key ms : Int)]) htq))
    have htp21 := same_upd (o := .tup [(fun i j : Int => V.int (i - j)) ((ms.map V.int).length : Int) (cntB key ms : Int), (fun i j : Int => V.int (i - j)) ((ms.map V.int).length : Int) (cntA key ms : Int)]) htq _ _ htp20
    refine ⟨_, _, dp_two htp21, dp_two (n := ((ms.map V.int).length : Int) - (cntB key ms : Int)) (m := ((ms.map V.int).length : Int) - (cntA key ms : Int)) upd_same, shaped_two _ _, shaped_two _ _, false, by rw [eqv_two2 (by omega) (by omega)]; rfl, iteF ?_⟩
    generalize upd H20 tq _ = H21 at e21 T21 ⊢
    clear s19 s20 htp20 htp21 h19 hhd19 ht119 ht219 kp T16 T17 T18 T19 e16 e17 e18 e19 ht5 ht6 hl5 hl6 hhm19 hTn16 hTn17 h16
    have d21 : DnT wl H H21 := d08.ext e21
    have h21 := e21 _ _ h8 fun ps z => by cases z
    have hhd21 := e21 _ _ hhd8 fun ps z => by cases z
    have ht121 := e21 _ _ ht1 fun ps z => by cases z
    have ht221 := e21 _ _ ht2 fun ps z => by cases z
    have hl121 := e21 _ _ hl1 fun ps z => by cases z
    have hl221 := e21 _ _ hl2 fun ps z => by cases z
    -- more
    refine ⟨_, rfl, _, rfl, wl, 9, rfl, d21.2, by decide, by decide, fun v x y z v0 v1 x0 => ?_⟩
    have d22 : Dn wl H21 (upd H21 wl (.lst [.int x, .int y, .int z])) := .put x0
    generalize upd H21 wl (.lst [.int x, .int y, .int z]) = H22 at d22 ⊢
    obtain ⟨c, hc⟩ : ∃ c : Int, c = 60 + v := ⟨_, rfl⟩
    refine ⟨_, _, rfl, rfl, by show 1 ≤ sizeLine; decide, fun l hl => ?_⟩
    rw [show (fun i j : Int => V.int (i + j)) 60 v = V.int c from congrArg V.int hc.symm]
    have hl23 : upd H22 l (.lst [.int c]) l = some (.lst [.int c]) := upd_same
    have nl : l ≠ wl := d22.2.ne hl
    have d23 : Dn wl H21 (upd H22 l (.lst [.int c])) := d22.new hl
    generalize upd H22 l (.lst [.int c]) = H23 at hl23 d23 ⊢
    refine ⟨_, rfl, wl, 9, rfl, d23.2, by decide, by decide, fun v2 x y z v20 v21 x0 => ?_⟩
    have d24 : Dn wl H21 (upd H23 wl (.lst [.int x, .int y, .int z])) := d23.trans (.put x0)
    have hl24 := (Dn.put x0 : Dn wl H23 (upd H23 wl (.lst [.int x, .int y, .int z]))).1 _ _ nl hl23
    generalize upd H23 wl (.lst [.int x, .int y, .int z]) = H24 at hl24 d24 ⊢
    have big : (1000 : Nat) ≤ sizeLine := by decide
    refine ⟨l, _, _, rfl, rfl, hl24, by omega, by omega, by show 1 * v2.toNat ≤ sizeLine; omega, fun cc hcc => ?_⟩
    have erf : (List.replicate v2.toNat [V.int c]).flatten = (List.replicate v2.toNat c).map V.int := rep_flat c v2.toNat
    rw [erf]
    obtain ⟨m, hm2⟩ : ∃ m, m = v2.toNat := ⟨_, rfl⟩
    rw [← hm2]
    have mb : m < 9 := by omega
    have kc : key < c := by omega
    clear hm2 hc v0 v1 v20 v21 erf
    have h24 := d24.1 _ _ nL h21
    have s25 := same_upd (o := .lst ((List.replicate m c).map V.int)) hcc
    have hcc25 : upd H24 cc (.lst ((List.replicate m c).map V.int)) cc = some (.lst ((List.replicate m c).map V.int)) := upd_same
    have d25 := d24.same s25
    generalize upd H24 cc (.lst ((List.replicate m c).map V.int)) = H25 at s25 hcc25 d25 ⊢
    refine ⟨L, cc, _, _, rfl, rfl, L2.sq_of (s25 _ _ h24), L2.sq_of hcc25, by rw [List.length_map, List.length_map, List.length_replicate]; omega, fun r hr => ?_⟩
    rw [← List.map_append]
    have nr : r ≠ wl := d25.2.ne hr
    have hr26 : upd H25 r (.lst ((ms ++ List.replicate m c).map V.int)) r = some (.lst ((ms ++ List.replicate m c).map V.int)) := upd_same
    have d26 : Dn wl H21 (upd H25 r (.lst ((ms ++ List.replicate m c).map V.int))) := d25.new hr
    generalize upd H25 r (.lst ((ms ++ List.replicate m c).map V.int)) = H26 at hr26 d26 ⊢
    have T26 := tabs_dn T21 d21.2 d26
    have d026 := d21.trans (DnT.of d26)
    have ne : ∀ {b : Addr} {xs : List V}, H21 b = some (.tup xs) → b ≠ wl := fun h z => by
      obtain ⟨x, y, z2, _, hs2⟩ := d21.2
      rw [z, hs2] at h
      cases h
    have nhd : hd ≠ wl := fun z => by
      obtain ⟨x, y, z2, _, hs2⟩ := d21.2
      rw [z, hs2] at hhd21
      cases hhd21
    have h26 := d26.1 _ _ nL h21
    have hhd26 := d26.1 _ _ nhd hhd21
    have ht126 := d26.1 _ _ (ne ht121) ht121
    have ht226 := d26.1 _ _ (ne ht221) ht221
    have hl126 := d26.1 _ _ nl1 hl121
    have hl226 := d26.1 _ _ nl2 hl221
    clear s25 hcc25 d25 d24 d23 d22 hl23 hl24 h24 d26 d21 T21 hhd21 ht121 ht221 hl121 hl221 h21 nhd ne
    have lm : (ms ++ List.replicate m c).length = ms.length + m := by rw [List.length_append, List.length_replicate]
    -- loop
    refine ⟨_, rfl, hd, _, _, _, rfl, rfl, L2.sq_of hhd26, k0, by show 2 ≤ sizeLine; decide, fun u1 hu1 => ?_⟩
    have s27 := same_upd (o := .tup [.ref a.before, .ref t1]) hu1
    have hu127 : upd H26 u1 (.tup [.ref a.before, .ref t1]) u1 = some (.tup [.ref a.before, .ref t1]) := upd_same
    generalize upd H26 u1 (.tup [.ref a.before, .ref t1]) = H27 at s27 hu127 ⊢
    refine ⟨_, rfl, hd, _, _, _, rfl, rfl, L2.sq_of (s27 _ _ hhd26), k1, by show 2 ≤ sizeLine; decide, fun u2 hu2 => ?_⟩
    have s28 := same_upd (o := .tup [.ref a.behind, .ref t2]) hu2
    have hu228 : upd H27 u2 (.tup [.ref a.behind, .ref t2]) u2 = some (.tup [.ref a.behind, .ref t2]) := upd_same
    have hu128 := s28 _ _ hu127
    generalize upd H27 u2 (.tup [.ref a.behind, .ref t2]) = H28 at s28 hu228 hu128 ⊢
    refine ⟨by show 2 ≤ sizeLine; decide, fun tt htt => ⟨tt, rfl, ⟨_, L2.st_of upd_same⟩, ?_⟩⟩
    have s29 := same_upd (o := .tup [.ref u1, .ref u2]) htt
    have htt29 : upd H28 tt (.tup [.ref u1, .ref u2]) tt = some (.tup [.ref u1, .ref u2]) := upd_same
    have s2629 := s27.trans (s28.trans s29)
    have hu129 := s29 _ _ hu128
    have hu229 := s29 _ _ hu228
    generalize upd H28 tt (.tup [.ref u1, .ref u2]) = H29 at s29 s2629 htt29 hu129 hu229 ⊢
    have h29 := s2629 _ _ h26
    have hr29 := s2629 _ _ hr26
    have ht129 := s2629 _ _ ht126
    have ht229 := s2629 _ _ ht226
    have hl129 := s2629 _ _ hl126
    have hl229 := s2629 _ _ hl226
    have T29 := T26.ext s2629
    have d029 := d026.ext (.of s2629)
    have two : ∀ (i : Nat) (y : V), ([V.ref u1, V.ref u2] : List V)[i]? = some y → ∃ (z f t l : Addr) (n N : Nat) (low : List Int → Int → Nat → Bool), y = .ref z ∧ H29 z = some (.tup [.ref f, .ref t]) ∧ H29 t = some (.tup [.int (n : Int), .ref l]) ∧ H29 l = some (.lst (nV (RQ ms.length hint n N))) ∧ Res ms.length hint n N ∧ SAsk a f (spLeapK a low) ∧ n ≤ ms.length ∧ (∀ i, i < ms.length → low ms key i = decide (i < n)) ∧ ∀ i, i < (ms ++ List.replicate m c).length → low (ms ++ List.replicate m c) key i = decide (i < n) := by
      intro i y hy
      match i, hy with
      | 0, hy => exact ⟨u1, a.before, t1, l1, cntB key ms, _, lowB, (Option.some.inj hy).symm, hu129, ht129, hl129, R1, .inl ⟨rfl, rfl⟩, cB, low_B srt, low_mB srt kc⟩
      | 1, hy => exact ⟨u2, a.behind, t2, l2, cntA key ms, _, lowA, (Option.some.inj hy).symm, hu229, ht229, hl229, R2, .inr ⟨rfl, rfl⟩, cA, low_A srt, low_mA srt kc⟩
      | i + 2, hy => simp at hy
    refine for_tup (K := K) (a := tt) (xs := [V.ref u1, V.ref u2]) (fun i σ H' => (∃ (x8 x10 x13 x14 x15 : Option V), σ = [some (.ref wl), some (.ref L), none, some (.int key), some (.int (hint : Int)), some (.ref hd), some (.ref W), none, x8, some (.ref Tn), x10, some (.ref hm), some (.ref r), x13, x14, x15]) ∧ ExtN H29 H' ∧ Tabs (LT a) H')
      ⟨⟨_, _, _, _, _, rfl⟩, ExtN.refl _, T29⟩ (fun i σ H' _ h => L2.st_of (h.2.1 _ _ htt29 fun ps z => by cases z)) ?_ ?_
    · rintro i y σ H30 hy ⟨⟨x8, x10, x13, x14, x15, rfl⟩, e30, T30⟩
      obtain ⟨z, f, t, l, n, N, low, rfl, hz, ht, hl, R, hS, hn, lw1, lw2⟩ := two i y hy
      have hz30 := e30 _ _ hz fun ps y => by cases y
      have ht30 := e30 _ _ ht fun ps y => by cases y
      have hl30 := e30 _ _ hl fun ps y => by cases y
      have h30 := e30 _ _ h29 fun ps y => by cases y
      have hr30 := e30 _ _ hr29 fun ps y => by cases y
      refine ⟨z, _, rfl, L2.st_of hz30, rfl, _, _, rfl, _, _, rfl, t, _, rfl, L2.st_of ht30, rfl, _, _, rfl, _, _, rfl, rfl, ?_⟩
      refine ⟨rfl, ?_⟩
      have cnt30 : ExtN H30 H30 := ExtN.refl _
      refine ⟨fun σ' H' => σ' = [some (.ref wl), some (.ref L), none, some (.int key), some (.int (hint : Int)), some (.ref hd), some (.ref W), none, x8, some (.ref Tn), x10, some (.ref hm), some (.ref r), some (.ref f), some (.int (n : Int)), some (.ref l)] ∧ ExtN H30 H' ∧ Tabs (LT a) H', ?_, ?_⟩
      · -- in a longer row
        refine ⟨_, rfl, _, rfl, _, _, rfl, rfl, decide ((n : Int) ≤ (hint : Int)), rfl, ?_⟩
        by_cases c1 : n ≤ hint
        · rw [decide_eq_true (show (n : Int) ≤ (hint : Int) by omega)]
          refine iteT ?_
          refine ⟨f, _, rfl, hS, _, rfl, _, rfl, _, rfl, key, r, ms ++ List.replicate m c, hint, rfl, .inl hr30, by omega, by omega, T30, fun N2 t3 l3 H31 hw2 hb2 _ e31 T31 _ _ ht3 hl3 => ?_⟩
          obtain ⟨R2, efd, eqq⟩ := leapD_get (by omega) (by omega) lw2 hw2 hb2
          rw [efd] at ht3
          rw [eqq] at hl3
          have hl31 := e31 _ _ hl30 fun ps y => by cases y
          rw [Res.down hh c1 R2 R] at hl3
          refine ⟨_, rfl, _, rfl, by show 2 ≤ sizeLine; decide, fun tn htn => ?_⟩
          have s32 := same_upd (o := .tup [.int (n : Int), .ref l]) htn
          have htn32 : upd H31 tn (.tup [.int (n : Int), .ref l]) tn = some (.tup [.int (n : Int), .ref l]) := upd_same
          refine ⟨_, _, dp_lp (n := (n : Int)) (s32 _ _ ht3) (s32 _ _ hl3), dp_lp htn32 (s32 _ _ hl31), shaped_lp _ _, shaped_lp _ _, false, by rw [eqv_lp]; rfl, iteF ?_⟩
          exact ⟨rfl, e31.trans (.of s32), T31.ext s32⟩
        · rw [decide_eq_false (show ¬ (n : Int) ≤ (hint : Int) by omega)]
          exact iteF (iteF ⟨rfl, ExtN.refl _, T30⟩)
      rintro σ' H31 ⟨rfl, e31, T31⟩
      have hr31 := e31 _ _ hr30 fun ps y => by cases y
      have hl31 := e31 _ _ hl30 fun ps y => by cases y
      have h31 := e31 _ _ h30 fun ps y => by cases y
      refine ⟨fun σ' H' => σ' = [some (.ref wl), some (.ref L), none, some (.int key), some (.int (hint : Int)), some (.ref hd), some (.ref W), none, x8, some (.ref Tn), x10, some (.ref hm), some (.ref r), some (.ref f), some (.int (n : Int)), some (.ref l)] ∧ ExtN H31 H' ∧ Tabs (LT a) H', ?_, ?_⟩
      · refine ⟨_, rfl, _, rfl, _, _, rfl, rfl, decide ((hint : Int) < (n : Int)), rfl, ?_⟩
        by_cases c1 : hint < n
        · rw [decide_eq_true (show (hint : Int) < (n : Int) by omega)]
          refine iteT ?_
          have edn : (fun i j : Int => V.int (i - j)) (n : Int) (hint : Int) = V.int ((n - hint : Nat) : Int) := congrArg V.int (by omega)
          refine ⟨_, rfl, _, rfl, _, _, rfl, rfl, .inl ⟨_, congrArg (fun v => [v]) edn, ?_⟩⟩
          have bk : Builtin.Int.intBits ((n - hint : Nat) : Int) ≤ 64 := intBits_cast_le (Nat.le_trans (by omega : _ ≤ 2000) (by decide))
          have csh : CShl 1 ((Builtin.Int.intBits ((n - hint : Nat) : Int) : Nat) : Int) := ⟨by omega, by
            have : Builtin.Int.intBits 1 = 1 := by decide +kernel
            rw [this]
            omega⟩
          refine ⟨_, rfl, _, _, rfl, rfl, csh, ?_⟩
          have lb := bits_bl (n - hint)
          generalize Builtin.Int.intBits ((n - hint : Nat) : Int) = k at bk csh lb ⊢
          refine ⟨_, rfl, L, _, rfl, .inl (L2.sq_of h31), _, rfl, _, _, rfl, rfl, _, _, rfl, rfl, decide ((1 : Int) * 2 ^ k ≤ ((ms.map V.int).length : Int) - (hint : Int)), rfl, ?_⟩
          by_cases c2 : (1 : Int) * 2 ^ k ≤ ((ms.map V.int).length : Int) - (hint : Int)
          · rw [decide_eq_true c2]
            refine iteT ?_
            have c3 : 2 ^ k ≤ ms.length - hint := by
              rw [ek] at c2
              have e2 : ((2 ^ k : Nat) : Int) = 2 ^ k := by rw [Int.natCast_pow]; rfl
              omega
            refine ⟨f, _, rfl, hS, _, rfl, _, rfl, _, rfl, key, r, ms ++ List.replicate m c, hint, rfl, .inl hr31, by omega, by omega, T31, fun N2 t3 l3 H32 hw2 hb2 _ e32 T32 _ _ ht3 hl3 => ?_⟩
            obtain ⟨R2, efd, eqq⟩ := leapD_get (by omega) (by omega) lw2 hw2 hb2
            rw [efd] at ht3
            rw [eqq] at hl3
            have hl32 := e32 _ _ hl31 fun ps y => by cases y
            rw [Res.up hh (by omega) c1 (Nat.le_trans (Nat.pow_le_pow_right (by decide) lb) c3) R2 R] at hl3
            refine ⟨t3, _, _, _, rfl, rfl, L2.st_of ht3, g1 _ _, _, rfl, _, _, dp_nats7 hl3, dp_nats7 hl32, shaped_ints _, shaped_ints _, false, by rw [eqv_ints]; rfl, iteF ?_⟩
            exact ⟨rfl, e32, T32⟩
          · rw [decide_eq_false c2]
            exact iteF (iteF ⟨rfl, ExtN.refl _, T31⟩)
        · rw [decide_eq_false (show ¬ (hint : Int) < (n : Int) by omega)]
          exact iteF (iteF ⟨rfl, ExtN.refl _, T31⟩)
      rintro σ' H32 ⟨rfl, e32, T32⟩
      -- another hint, and the places
      have hl32 := e32 _ _ hl31 fun ps y => by cases y
      have h32 := e32 _ _ h31 fun ps y => by cases y
      obtain ⟨h', eh, hlt⟩ : ∃ h' : Nat, (n : Int) - (if decide (V.int (n : Int) = V.int ((ms.map V.int).length : Int)) = true then 1 else 0) = (h' : Int) ∧ h' < ms.length := by
        rw [ek]
        by_cases z : n = ms.length
        · exact ⟨n - 1, by rw [if_pos (decide_eq_true (by rw [z]))]; omega, by omega⟩
        · exact ⟨n, by rw [if_neg (fun y => z (by have := V.int.inj (of_decide_eq_true y); omega))]; omega, by omega⟩
      have ev : [V.int key, V.ref L, (fun i j : Int => V.int (i - j)) (n : Int) (if decide (V.int (n : Int) = V.int ((ms.map V.int).length : Int)) = true then 1 else 0)] = [V.int key, V.ref L, V.int (h' : Int)] := congrArg (fun v => [V.int key, V.ref L, V.int v]) eh
      refine ⟨f, _, rfl, hS, _, rfl, _, rfl, _, rfl, _, rfl, _, rfl, L, _, rfl, .inl (L2.sq_of h32), rfl, .inr ⟨_, rfl, _, _, rfl, rfl, key, L, ms, h', ev, .inl h32, hlt, by omega, T32, fun N3 t3 l3 H33 hw3 hb3 _ e33 T33 _ _ ht3 hl3 => ?_⟩⟩
      obtain ⟨R3, efd, _⟩ := leapD_get hlt hn lw1 hw3 hb3
      rw [efd] at ht3
      have hl33 := e33 _ _ hl32 fun ps y => by cases y
      have h33 := e33 _ _ h32 fun ps y => by cases y
      refine ⟨t3, _, _, _, rfl, rfl, L2.st_of ht3, g0 _ _, _, rfl, rfl, false, congrArg V.bl (by rw [decide_eq_true rfl]; rfl), iteF ?_⟩
      refine ⟨_, rfl, L, _, rfl, .inl (L2.sq_of h33), _, rfl, _, rfl, ms.length, hint, n, by rw [ek]; rfl, hh, Nat.le_trans (by omega : _ ≤ 2000) (by decide), hn, T33, fun N4 l4 H34 hw4 hb4 _ e34 T34 _ hl4 => ?_⟩
      have hl34 := e34 _ _ hl33 fun ps y => by cases y
      have R4 : Res ms.length hint n N4 := ⟨hw4, hb4⟩
      have hl4 : H34 l4 = some (.lst (nV (RQ ms.length hint n N4))) := hl4
      rw [R4.uniq R] at hl4
      refine ⟨_, rfl, _, _, dp_nats7 hl4, dp_nats7 hl34, shaped_ints _, shaped_ints _, false, by rw [eqv_ints]; rfl, iteF ?_⟩
      exact ⟨⟨_, _, _, _, _, rfl⟩, e30.trans (e31.trans (e32.trans (e33.trans e34))), T34⟩
    · rintro σ H30 ⟨⟨x8, x10, x13, x14, x15, rfl⟩, e30, T30⟩
      exact q H30 (d029.ext e30) T30
end

end K25

namespace K25
open PySem PySem.Spec PyProof.Rows L2 LamX
def spLaw (K : PySem.W.Frag) (TT : List (Addr × Str)) : Sp := fun vs H Q _ => ∃ (a : Addr) (ns : List Int), vs = [.ref a] ∧ SqL K H a (ns.map V.int) ∧ ns.length ≤ 63 ∧ LamX.Tabs TT H ∧ ∀ H', Q (.bl true) H'
theorem cells_int2 {ns : List Int} {lo hi : Option Int} {x : V} (h : x ∈ cutV (ns.map V.int) lo hi ++ [V.int 0]) : ∃ c, x = .int c := by
  rcases List.mem_append.mp h with h | h
  · obtain ⟨c, _, e⟩ := List.mem_map.mp (cut_mem h)
    exact ⟨c, e.symm⟩
  · exact ⟨0, List.mem_singleton.mp h⟩
section
variable {P : Program} {w : World} {K : PySem.W.Frag} {mg : Str → Option Value} {base : Heap} {a : Ad} {d : Fd}
theorem ok_law (T : Txt K mg a d) (TB_places_of_leap : TabB base mg a.lc_places_of_leap a.lp_places_of_leap) (TB_before : TabB base mg a.lc_before a.lp_before) (TB_behind : TabB base mg a.lc_behind a.lp_behind) : FnOk P w K mg base CX0 10 a.law d.law P_law (spLaw K (LT a)) := by
  have G_well : FnOk P w K mg base CX0 1 a.well d.well P_well spWell := ok_well T
  have G_right : FnOk P w K mg base CX0 9 a.right d.right P_right (spRight a) := ok_right T TB_places_of_leap TB_before TB_behind
  refine T.f_law.ok sc_law (fun vs H Q E h => ?_) (fun cdv A outer s H vs Q E hr h => ?_)
  · obtain ⟨p, n, rfl, _⟩ := h
    rfl
  · obtain ⟨sc, ns, rfl, hS, hlen, hT, q⟩ := h
    refine ⟨_, (pss_cons (ps_for PassesOwn.never rfl (pi_list (pe_op op_catS (pe_slice sl_list (pv 0) po_none (po_some pe_int)) (pe_lst (pa_cons pe_int pa_nil)))) (pg_name (i := 1) sc_law.nd rfl (Or.inl rfl))
      (pss_cons (ps_set (i := 2) sc_law.nd rfl (Or.inl rfl) (pe_call G_well (hr.mono (by decide)) (by rfl) T.g_well T.k_well T.b_well .nil pass0 (pa_cons (pv 1) pa_nil)))
        (pss_one (ps_for PassesOwn.never rfl (pi_range1 (by rfl) T.z_range (pa_cons pe_int pa_nil)) (pg_name (i := 3) sc_law.nd rfl (Or.inl rfl))
          (pss_one (ps_if (pt_not (pt_val (pe_call G_right (hr.mono (by decide)) (by rfl) T.g_right T.k_right T.b_right .nil pass0 (pa_cons (pv 2) pa_nil)))) (pss_one (ps_ret pe_bl)) pss_nil))))))
    (pss_one (ps_ret pe_bl))), ?_⟩
    have ln : (ns.map V.int).length = ns.length := List.length_map _
    have sz : (cutV (ns.map V.int) none (some 3)).length + 1 ≤ sizeLine := by
      have := cutV_length (ns.map V.int) none (some 3)
      exact Nat.le_trans (by omega) (by decide : 64 ≤ sizeLine)
    refine ⟨_, rfl, 3, rfl, sc, _, rfl, hS, fun e he => ?_⟩
    have s1 := same_upd (o := .lst (cutV (ns.map V.int) none (some 3))) he
    have he1 : upd H e (.lst (cutV (ns.map V.int) none (some 3))) e = some (.lst (cutV (ns.map V.int) none (some 3))) := upd_same
    generalize upd H e (.lst (cutV (ns.map V.int) none (some 3))) = H1 at s1 he1 ⊢
    refine ⟨by show 1 ≤ sizeLine; decide, fun b hb => ?_⟩
    have s2 := s1.trans (same_upd (o := .lst [.int 0]) hb)
    have he2 := same_upd (o := .lst [.int 0]) hb _ _ he1
    have hb2 : upd H1 b (.lst [.int 0]) b = some (.lst [.int 0]) := upd_same
    generalize upd H1 b (.lst [.int 0]) = H2 at s2 he2 hb2 ⊢
    refine ⟨e, b, _, _, rfl, rfl, L2.sq_of he2, L2.sq_of hb2, sz, fun c hc => ⟨c, rfl, ⟨_, L2.sq_of upd_same⟩, ?_⟩⟩
    have s3 := s2.trans (same_upd (o := .lst (cutV (ns.map V.int) none (some 3) ++ [.int 0])) hc)
    have hc3 : upd H2 c (.lst (cutV (ns.map V.int) none (some 3) ++ [.int 0])) c = some (.lst (cutV (ns.map V.int) none (some 3) ++ [.int 0])) := upd_same
    generalize upd H2 c (.lst (cutV (ns.map V.int) none (some 3) ++ [.int 0])) = He at s3 hc3 ⊢
    have TE := hT.ext s3
    refine for_list (K := K) (a := c) (xs := cutV (ns.map V.int) none (some 3) ++ [.int 0]) (fun i σ H' => (∃ (u1 u2 u3 : Option V), σ = [some (.ref sc), u1, u2, u3]) ∧ LamX.ExtN He H' ∧ LamX.Tabs (LT a) H')
      ⟨⟨_, _, _, rfl⟩, LamX.ExtN.refl _, TE⟩ (fun i σ H' _ h => L2.sq_of (h.2.1 _ _ hc3 fun ps z => by cases z)) ?_ ?_
    · rintro i y σ H2 hy ⟨⟨u1, u2, u3, rfl⟩, sm, T2⟩
      obtain ⟨cell, rfl⟩ := cells_int2 (List.mem_of_getElem? hy)
      refine ⟨_, rfl, cell, rfl, fun p x y z x0 hp => ?_⟩
      have sm1 : LamX.ExtN He (upd H2 p (.lst [.int x, .int y, .int z])) := sm.trans (LamX.ExtN.of (same_upd hp))
      have sr1 : Src (upd H2 p (.lst [.int x, .int y, .int z])) p := .put x0
      have T3 := T2.ext (same_upd (o := .lst [.int x, .int y, .int z]) hp)
      have fp : ∀ b o, (∀ ps, o ≠ HO.tbl ps) → He b = some o → b ≠ p := fun b o n h z => by
        have h2 := sm _ _ h n
        rw [z, hp] at h2
        cases h2
      generalize upd H2 p (.lst [.int x, .int y, .int z]) = H3 at sm1 sr1 T3 ⊢
      have sDn : ∀ {H4 : Hp}, DnT p H3 H4 → LamX.ExtN He H4 := fun d b o e n => d.1 b o (fp b o n e) n (sm1 _ _ e n)
      refine ⟨6, rfl, by decide, by decide, for_range (lo := 0) (n := 6) (fun i σ H' => (∃ (u3 : Option V), σ = [some (.ref sc), some (.int cell), some (.ref p), u3]) ∧ DnT p H3 H' ∧ LamX.Tabs (LT a) H') ⟨⟨_, rfl⟩, .refl sr1, T3⟩ ?_ ?_⟩
      · rintro j σ H4 _ ⟨⟨u3, rfl⟩, d4, T4⟩
        exact ⟨_, rfl, p, rfl, d4.2, T4, fun H5 d5 T5 => ⟨true, rfl, iteF ⟨⟨_, rfl⟩, d4.trans d5, T5⟩⟩⟩
      · rintro σ H4 ⟨⟨u3, rfl⟩, d4, T4⟩
        exact ⟨⟨_, _, _, rfl⟩, sDn d4, T4⟩
    · rintro σ H2 ⟨⟨u1, u2, u3, rfl⟩, sm, T2⟩
      exact q H2
end

end K25

namespace K25
open PySem PySem.Spec PyProof.Rows L2
theorem all_mk {l : PySem.W.OpenLaw} {w : World} {K : PySem.W.Frag} {h : Heap} {mg : Str → Option Value} {fa f0 f1 f2 f3 f4 f5 f6 f7 f8 f9 f10 f11 f12 f13 f14 f15 f16 f17 f18 f19 f20 f21 f22 f23 f24 C_Leaper : Addr} {t_AT_HINT t_GREATEST_ROW t_HALVING t_STEPPING : Tok} {lc_places_of_leap lp_places_of_leap : Addr} {lc_before lp_before : Addr} {lc_behind lp_behind : Addr} (X : K.In h) (G : h.Ns mainGlobals mg) (hfa : mg "law" = some (.ref fa)) (tb_places_of_leap : h.get? lp_places_of_leap = some (PySem.W.tabObj #[])) (tb_before : h.get? lp_before = some (PySem.W.tabObj #[])) (tb_behind : h.get? lp_behind = some (PySem.W.tabObj #[]))
    {od0 an0 od1 an1 od2 an2 od3 an3 od4 an4 od5 an5 od6 an6 od7 an7 od8 an8 od9 an9 od10 an10 od11 an11 od12 an12 od13 an13 od14 an14 od15 an15 od16 an16 od17 an17 od18 an18 od19 an19 od20 an20 od21 an21 od22 an22 od23 an23 od24 an24 : Option Addr} {sl0 sl1 sl2 sl3 sl4 sl5 sl6 sl7 sl8 sl9 sl10 sl11 sl12 sl13 sl14 sl15 sl16 sl17 sl18 sl19 sl20 sl21 sl22 sl23 sl24 : Array (Option Value)} {oc0 kV0 dc0 pm0 cd0 ct0 oc1 kV1 dc1 pm1 cd1 ct1 oc2 kV2 dc2 pm2 cd2 ct2 oc3 kV3 dc3 pm3 cd3 ct3 oc4 kV4 dc4 pm4 cd4 ct4 oc5 kV5 dc5 pm5 cd5 ct5 oc6 kV6 dc6 pm6 cd6 ct6 oc7 kV7 dc7 pm7 cd7 ct7 oc8 kV8 dc8 pm8 cd8 ct8 oc9 kV9 dc9 pm9 cd9 ct9 oc10 kV10 dc10 pm10 cd10 ct10 oc11 kV11 dc11 pm11 cd11 ct11 oc12 kV12 dc12 pm12 cd12 ct12 oc13 kV13 dc13 pm13 cd13 ct13 oc14 kV14 dc14 pm14 cd14 ct14 oc15 kV15 dc15 pm15 cd15 ct15 oc16 kV16 dc16 pm16 cd16 ct16 oc17 kV17 dc17 pm17 cd17 ct17 oc18 kV18 dc18 pm18 cd18 ct18 oc19 kV19 dc19 pm19 cd19 ct19 oc20 kV20 dc20 pm20 cd20 ct20 oc21 kV21 dc21 pm21 cd21 ct21 oc22 kV22 dc22 pm22 cd22 ct22 oc23 kV23 dc23 pm23 cd23 ct23 oc24 kV24 dc24 pm24 cd24 ct24 : Value}
    {T2 : Addr} {odT2 : Option Addr} {oT2 : Value} {nT2 : Nat} {slT2 : Array (Option Value)} {uT2_0 : Tok} {uT2_1 : Tok}
    {T3 : Addr} {odT3 : Option Addr} {oT3 : Value} {nT3 : Nat} {slT3 : Array (Option Value)} 
    (a0 : PySem.W.nsIn K mainGlobals "is_integer" = some (some (.ref f0))) (l0 : K.lookup f0 = some ⟨oc0, od0, .func (PySem.W.fnOf "is_integer" "is_integer" (defArgs s_is_integer) (defBody s_is_integer) (defScope s_is_integer) .none kV0 dc0 pm0 an0 cd0 ct0), sl0⟩) (c0 : PySem.W.codeIn K cd0 "is_integer" = true) (k0 : PySem.W.keepIn K (.ref f0) = true)
    (a1 : PySem.W.nsIn K mainGlobals "is_within" = some (some (.ref f1))) (l1 : K.lookup f1 = some ⟨oc1, od1, .func (PySem.W.fnOf "is_within" "is_within" (defArgs s_is_within) (defBody s_is_within) (defScope s_is_within) .none kV1 dc1 pm1 an1 cd1 ct1), sl1⟩) (c1 : PySem.W.codeIn K cd1 "is_within" = true) (k1 : PySem.W.keepIn K (.ref f1) = true)
    (a2 : PySem.W.nsIn K mainGlobals "check_keys" = some (some (.ref f2))) (l2 : K.lookup f2 = some ⟨oc2, od2, .func (PySem.W.fnOf "check_keys" "check_keys" (defArgs s_check_keys) (defBody s_check_keys) (defScope s_check_keys) (.ref T2) kV2 dc2 pm2 an2 cd2 ct2), sl2⟩) (c2 : PySem.W.codeIn K cd2 "check_keys" = true) (k2 : PySem.W.keepIn K (.ref f2) = true)
    (t2 : K.lookup T2 = some ⟨oT2, odT2, .seq #[.int 0 uT2_0, .int 2000 uT2_1] nT2, slT2⟩)
    (a3 : PySem.W.nsIn K mainGlobals "check_number" = some (some (.ref f3))) (l3 : K.lookup f3 = some ⟨oc3, od3, .func (PySem.W.fnOf "check_number" "check_number" (defArgs s_check_number) (defBody s_check_number) (defScope s_check_number) (.ref T3) kV3 dc3 pm3 an3 cd3 ct3), sl3⟩) (c3 : PySem.W.codeIn K cd3 "check_number" = true) (k3 : PySem.W.keepIn K (.ref f3) = true)
    (t3 : K.lookup T3 = some ⟨oT3, odT3, .seq #[.none] nT3, slT3⟩)
    (a4 : PySem.W.findIn K (.ref C_Leaper) "__init__" = some (some (.ref f4))) (i4 : PySem.W.isFn K (.ref f4) = true) (l4 : K.lookup f4 = some ⟨oc4, od4, .func (PySem.W.fnOf "__init__" "Leaper.__init__" (defArgs s_Leaper___init__) (defBody s_Leaper___init__) (defScope s_Leaper___init__) .none kV4 dc4 pm4 an4 cd4 ct4), sl4⟩) (c4 : PySem.W.codeIn K cd4 "Leaper.__init__" = true) (k4 : PySem.W.keepIn K (.ref f4) = true)
    (a5 : PySem.W.findIn K (.ref C_Leaper) "take" = some (some (.ref f5))) (i5 : PySem.W.isFn K (.ref f5) = true) (l5 : K.lookup f5 = some ⟨oc5, od5, .func (PySem.W.fnOf "take" "Leaper.take" (defArgs s_Leaper_take) (defBody s_Leaper_take) (defScope s_Leaper_take) .none kV5 dc5 pm5 an5 cd5 ct5), sl5⟩) (c5 : PySem.W.codeIn K cd5 "Leaper.take" = true) (k5 : PySem.W.keepIn K (.ref f5) = true)
    (a6 : PySem.W.findIn K (.ref C_Leaper) "_begin_stepping" = some (some (.ref f6))) (i6 : PySem.W.isFn K (.ref f6) = true) (l6 : K.lookup f6 = some ⟨oc6, od6, .func (PySem.W.fnOf "_begin_stepping" "Leaper._begin_stepping" (defArgs s_Leaper__begin_stepping) (defBody s_Leaper__begin_stepping) (defScope s_Leaper__begin_stepping) .none kV6 dc6 pm6 an6 cd6 ct6), sl6⟩) (c6 : PySem.W.codeIn K cd6 "Leaper._begin_stepping" = true) (k6 : PySem.W.keepIn K (.ref f6) = true)
    (a7 : PySem.W.findIn K (.ref C_Leaper) "_take_step" = some (some (.ref f7))) (i7 : PySem.W.isFn K (.ref f7) = true) (l7 : K.lookup f7 = some ⟨oc7, od7, .func (PySem.W.fnOf "_take_step" "Leaper._take_step" (defArgs s_Leaper__take_step) (defBody s_Leaper__take_step) (defScope s_Leaper__take_step) .none kV7 dc7 pm7 an7 cd7 ct7), sl7⟩) (c7 : PySem.W.codeIn K cd7 "Leaper._take_step" = true) (k7 : PySem.W.keepIn K (.ref f7) = true)
    (a8 : PySem.W.findIn K (.ref C_Leaper) "_step_or_halve" = some (some (.ref f8))) (i8 : PySem.W.isFn K (.ref f8) = true) (l8 : K.lookup f8 = some ⟨oc8, od8, .func (PySem.W.fnOf "_step_or_halve" "Leaper._step_or_halve" (defArgs s_Leaper__step_or_halve) (defBody s_Leaper__step_or_halve) (defScope s_Leaper__step_or_halve) .none kV8 dc8 pm8 an8 cd8 ct8), sl8⟩) (c8 : PySem.W.codeIn K cd8 "Leaper._step_or_halve" = true) (k8 : PySem.W.keepIn K (.ref f8) = true)
    (a9 : PySem.W.findIn K (.ref C_Leaper) "_begin_halving" = some (some (.ref f9))) (i9 : PySem.W.isFn K (.ref f9) = true) (l9 : K.lookup f9 = some ⟨oc9, od9, .func (PySem.W.fnOf "_begin_halving" "Leaper._begin_halving" (defArgs s_Leaper__begin_halving) (defBody s_Leaper__begin_halving) (defScope s_Leaper__begin_halving) .none kV9 dc9 pm9 an9 cd9 ct9), sl9⟩) (c9 : PySem.W.codeIn K cd9 "Leaper._begin_halving" = true) (k9 : PySem.W.keepIn K (.ref f9) = true)
    (a10 : PySem.W.findIn K (.ref C_Leaper) "_take_half" = some (some (.ref f10))) (i10 : PySem.W.isFn K (.ref f10) = true) (l10 : K.lookup f10 = some ⟨oc10, od10, .func (PySem.W.fnOf "_take_half" "Leaper._take_half" (defArgs s_Leaper__take_half) (defBody s_Leaper__take_half) (defScope s_Leaper__take_half) .none kV10 dc10 pm10 an10 cd10 ct10), sl10⟩) (c10 : PySem.W.codeIn K cd10 "Leaper._take_half" = true) (k10 : PySem.W.keepIn K (.ref f10) = true)
    (a11 : PySem.W.findIn K (.ref C_Leaper) "_halve" = some (some (.ref f11))) (i11 : PySem.W.isFn K (.ref f11) = true) (l11 : K.lookup f11 = some ⟨oc11, od11, .func (PySem.W.fnOf "_halve" "Leaper._halve" (defArgs s_Leaper__halve) (defBody s_Leaper__halve) (defScope s_Leaper__halve) .none kV11 dc11 pm11 an11 cd11 ct11), sl11⟩) (c11 : PySem.W.codeIn K cd11 "Leaper._halve" = true) (k11 : PySem.W.keepIn K (.ref f11) = true)
    (a12 : PySem.W.nsIn K mainGlobals "leap" = some (some (.ref f12))) (l12 : K.lookup f12 = some ⟨oc12, od12, .func (PySem.W.fnOf "leap" "leap" (defArgs s_leap) (defBody s_leap) (defScope s_leap) .none kV12 dc12 pm12 an12 cd12 ct12), sl12⟩) (c12 : PySem.W.codeIn K cd12 "leap" = true) (k12 : PySem.W.keepIn K (.ref f12) = true)
    (a13 : PySem.W.nsIn K mainGlobals "places_of_leap" = some (some (.ref f13))) (l13 : K.lookup f13 = some ⟨oc13, od13, .func (PySem.W.fnOf "places_of_leap" "places_of_leap" (defArgs s_places_of_leap) (defBody s_places_of_leap) (defScope s_places_of_leap) .none kV13 dc13 pm13 an13 cd13 ct13), sl13⟩) (c13 : PySem.W.codeIn K cd13 "places_of_leap" = true) (k13 : PySem.W.keepIn K (.ref f13) = true)
    (a14 : PySem.W.nsIn K mainGlobals "before" = some (some (.ref f14))) (l14 : K.lookup f14 = some ⟨oc14, od14, .func (PySem.W.fnOf "before" "before" (defArgs s_before) (defBody s_before) (defScope s_before) .none kV14 dc14 pm14 an14 cd14 ct14), sl14⟩) (c14 : PySem.W.codeIn K cd14 "before" = true) (k14 : PySem.W.keepIn K (.ref f14) = true)
    (a15 : PySem.W.nsIn K mainGlobals "behind" = some (some (.ref f15))) (l15 : K.lookup f15 = some ⟨oc15, od15, .func (PySem.W.fnOf "behind" "behind" (defArgs s_behind) (defBody s_behind) (defScope s_behind) .none kV15 dc15 pm15 an15 cd15 ct15), sl15⟩) (c15 : PySem.W.codeIn K cd15 "behind" = true) (k15 : PySem.W.keepIn K (.ref f15) = true)
    (a16 : PySem.W.nsIn K mainGlobals "leap_places" = some (some (.ref f16))) (l16 : K.lookup f16 = some ⟨oc16, od16, .func (PySem.W.fnOf "leap_places" "leap_places" (defArgs s_leap_places) (defBody s_leap_places) (defScope s_leap_places) .none kV16 dc16 pm16 an16 cd16 ct16), sl16⟩) (c16 : PySem.W.codeIn K cd16 "leap_places" = true) (k16 : PySem.W.keepIn K (.ref f16) = true)
    (a17 : PySem.W.nsIn K mainGlobals "_check_leap" = some (some (.ref f17))) (l17 : K.lookup f17 = some ⟨oc17, od17, .func (PySem.W.fnOf "_check_leap" "_check_leap" (defArgs s_check_leap) (defBody s_check_leap) (defScope s_check_leap) .none kV17 dc17 pm17 an17 cd17 ct17), sl17⟩) (c17 : PySem.W.codeIn K cd17 "_check_leap" = true) (k17 : PySem.W.keepIn K (.ref f17) = true)
    (a18 : PySem.W.nsIn K mainGlobals "_check_row" = some (some (.ref f18))) (l18 : K.lookup f18 = some ⟨oc18, od18, .func (PySem.W.fnOf "_check_row" "_check_row" (defArgs s_check_row) (defBody s_check_row) (defScope s_check_row) .none kV18 dc18 pm18 an18 cd18 ct18), sl18⟩) (c18 : PySem.W.codeIn K cd18 "_check_row" = true) (k18 : PySem.W.keepIn K (.ref f18) = true)
    (a19 : PySem.W.nsIn K mainGlobals "_law_well" = some (some (.ref f19))) (l19 : K.lookup f19 = some ⟨oc19, od19, .func (PySem.W.fnOf "_law_well" "_law_well" (defArgs s_well) (defBody s_well) (defScope s_well) .none kV19 dc19 pm19 an19 cd19 ct19), sl19⟩) (c19 : PySem.W.codeIn K cd19 "_law_well" = true) (k19 : PySem.W.keepIn K (.ref f19) = true)
    (a20 : PySem.W.nsIn K mainGlobals "_law_draw" = some (some (.ref f20))) (l20 : K.lookup f20 = some ⟨oc20, od20, .func (PySem.W.fnOf "_law_draw" "_law_draw" (defArgs s_draw) (defBody s_draw) (defScope s_draw) .none kV20 dc20 pm20 an20 cd20 ct20), sl20⟩) (c20 : PySem.W.codeIn K cd20 "_law_draw" = true) (k20 : PySem.W.keepIn K (.ref f20) = true)
    (a21 : PySem.W.nsIn K mainGlobals "_law_one" = some (some (.ref f21))) (l21 : K.lookup f21 = some ⟨oc21, od21, .func (PySem.W.fnOf "_law_one" "_law_one" (defArgs s_one) (defBody s_one) (defScope s_one) .none kV21 dc21 pm21 an21 cd21 ct21), sl21⟩) (c21 : PySem.W.codeIn K cd21 "_law_one" = true) (k21 : PySem.W.keepIn K (.ref f21) = true)
    (a22 : PySem.W.nsIn K mainGlobals "_law_found" = some (some (.ref f22))) (l22 : K.lookup f22 = some ⟨oc22, od22, .func (PySem.W.fnOf "_law_found" "_law_found" (defArgs s_found) (defBody s_found) (defScope s_found) .none kV22 dc22 pm22 an22 cd22 ct22), sl22⟩) (c22 : PySem.W.codeIn K cd22 "_law_found" = true) (k22 : PySem.W.keepIn K (.ref f22) = true)
    (a23 : PySem.W.nsIn K mainGlobals "_law_right" = some (some (.ref f23))) (l23 : K.lookup f23 = some ⟨oc23, od23, .func (PySem.W.fnOf "_law_right" "_law_right" (defArgs s_right) (defBody s_right) (defScope s_right) .none kV23 dc23 pm23 an23 cd23 ct23), sl23⟩) (c23 : PySem.W.codeIn K cd23 "_law_right" = true) (k23 : PySem.W.keepIn K (.ref f23) = true)
    (a24 : PySem.W.nsIn K mainGlobals "law" = some (some (.ref f24))) (l24 : K.lookup f24 = some ⟨oc24, od24, .func (PySem.W.fnOf "law" "law" (defArgs s_law) (defBody s_law) (defScope s_law) .none kV24 dc24 pm24 an24 cd24 ct24), sl24⟩) (c24 : PySem.W.codeIn K cd24 "law" = true) (k24 : PySem.W.keepIn K (.ref f24) = true)
    (v_AT_HINT : PySem.W.nsIn K mainGlobals "AT_HINT" = some (some (.int 1 t_AT_HINT)))
    (v_GREATEST_ROW : PySem.W.nsIn K mainGlobals "GREATEST_ROW" = some (some (.int 1000000000000000000000000000000 t_GREATEST_ROW)))
    (v_HALVING : PySem.W.nsIn K mainGlobals "HALVING" = some (some (.int 3 t_HALVING)))
    (v_STEPPING : PySem.W.nsIn K mainGlobals "STEPPING" = some (some (.int 2 t_STEPPING)))
    (z_bool : PySem.W.nsIn K mainGlobals "bool" = some none)
    (z_enumerate : PySem.W.nsIn K mainGlobals "enumerate" = some none)
    (z_int : PySem.W.nsIn K mainGlobals "int" = some none)
    (z_isinstance : PySem.W.nsIn K mainGlobals "isinstance" = some none)
    (z_len : PySem.W.nsIn K mainGlobals "len" = some none)
    (z_list : PySem.W.nsIn K mainGlobals "list" = some none)
    (z_range : PySem.W.nsIn K mainGlobals "range" = some none)
    (z_sorted : PySem.W.nsIn K mainGlobals "sorted" = some none)
    (z_tuple : PySem.W.nsIn K mainGlobals "tuple" = some none)
    (aC_Leaper : PySem.W.nsIn K mainGlobals "Leaper" = some (some (.ref C_Leaper)))
    (pg_Leaper : PySem.W.plainGet K C_Leaper Str.empty = true)
    (hd_Leaper : PySem.W.hasDictIn K C_Leaper = true)
    (po_Leaper : PySem.W.plainOver K C_Leaper = true)
    (sa_Leaper : PySem.W.findIn K (.ref C_Leaper) "__setattr__" = some (some (.builtin "object.__setattr__")))
    (mk_Leaper : PySem.W.makesIn K C_Leaper = true)
    (kc_Leaper : PySem.W.keepIn K (.ref C_Leaper) = true)
    (n_many : PySem.W.findIn K (.ref C_Leaper) "many" = some none)
    (n_hint : PySem.W.findIn K (.ref C_Leaper) "hint" = some none)
    (n_phase : PySem.W.findIn K (.ref C_Leaper) "phase" = some none)
    (n_upward : PySem.W.findIn K (.ref C_Leaper) "upward" = some none)
    (n_last : PySem.W.findIn K (.ref C_Leaper) "last" = some none)
    (n_step : PySem.W.findIn K (.ref C_Leaper) "step" = some none)
    (n_longest : PySem.W.findIn K (.ref C_Leaper) "longest" = some none)
    (n_left : PySem.W.findIn K (.ref C_Leaper) "left" = some none)
    (n_right : PySem.W.findIn K (.ref C_Leaper) "right" = some none)
    (n_waiting : PySem.W.findIn K (.ref C_Leaper) "waiting" = some none)
    (n_found : PySem.W.findIn K (.ref C_Leaper) "found" = some none)
    (le_places_of_leap : cd13 = .ref lc_places_of_leap) (lh_places_of_leap : PySem.W.codeHdIn K lc_places_of_leap lp_places_of_leap = true) (ln_places_of_leap : K.lookup lp_places_of_leap = none)
    (le_before : cd14 = .ref lc_before) (lh_before : PySem.W.codeHdIn K lc_before lp_before = true) (ln_before : K.lookup lp_before = none)
    (le_behind : cd15 = .ref lc_behind) (lh_behind : PySem.W.codeHdIn K lc_behind lp_behind = true) (ln_behind : K.lookup lp_behind = none)
    (lne_places_of_leap_before : lp_places_of_leap ≠ lp_before)
    (lne_places_of_leap_behind : lp_places_of_leap ≠ lp_behind)
    (lne_before_behind : lp_before ≠ lp_behind)
    : LamX.LawAtS l w K CX0 10 63 "script" mg fa h := by
  have e : fa = f24 := by
    have e := hfa.symm.trans (PySem.W.mg_of X G a24)
    cases e
    rfl
  have F0 := fun_mk (st := s_is_integer) l0 c0 k0
  have B0 := F0.binds (ps := P_is_integer) fun _ _ _ _ _ _ us hl => match us, hl with | [_], _ => rfl
  have F1 := fun_mk (st := s_is_within) l1 c1 k1
  have B1 := F1.binds (ps := P_is_within) fun _ _ _ _ _ _ us hl => match us, hl with | [_, _, _], _ => rfl
  have F2 := funV_mk (st := s_check_keys) l2 c2
  have B2_0 := bindsV (st := s_check_keys) (dvs := [.int 0, .int 2000]) (its := [.int 0 uT2_0, .int 2000 uT2_1]) (ps := P_check_keys) l2 c2 k2 t2 (.cons ⟨_, rfl⟩ (.cons ⟨_, rfl⟩ .nil)) 3 2 (List.cons_ne_nil _ _) rfl fun _ _ _ _ _ _ _ us its h1 h2 => match us, its, h1, h2 with | [_, _, _], [_, _], _, _ => ⟨_, rfl, rfl⟩
  have B2_2 := bindsV (st := s_check_keys) (dvs := [.int 0, .int 2000]) (its := [.int 0 uT2_0, .int 2000 uT2_1]) (ps := P_check_keys) l2 c2 k2 t2 (.cons ⟨_, rfl⟩ (.cons ⟨_, rfl⟩ .nil)) 1 0 (List.cons_ne_nil _ _) rfl fun _ _ _ _ _ _ _ us its h1 h2 => match us, its, h1, h2 with | [_], [_, _], _, _ => ⟨_, rfl, rfl⟩
  obtain ⟨ds2, rds2, bds2⟩ := B2_0
  have F3 := funV_mk (st := s_check_number) l3 c3
  have B3_0 := bindsV (st := s_check_number) (dvs := [.non]) (its := [.none]) (ps := P_check_number) l3 c3 k3 t3 (.cons rfl .nil) 4 1 (List.cons_ne_nil _ _) rfl fun _ _ _ _ _ _ _ us its h1 h2 => match us, its, h1, h2 with | [_, _, _, _], [_], _, _ => ⟨_, rfl, rfl⟩
  obtain ⟨ds3, rds3, bds3⟩ := B3_0
  have F4 := fun_mk (st := s_Leaper___init__) l4 c4 k4
  have B4 := F4.binds (ps := P_Leaper___init__) fun _ _ _ _ _ _ us hl => match us, hl with | [_, _, _], _ => rfl
  have F5 := fun_mk (st := s_Leaper_take) l5 c5 k5
  have B5 := F5.binds (ps := P_Leaper_take) fun _ _ _ _ _ _ us hl => match us, hl with | [_, _], _ => rfl
  have F6 := fun_mk (st := s_Leaper__begin_stepping) l6 c6 k6
  have B6 := F6.binds (ps := P_Leaper__begin_stepping) fun _ _ _ _ _ _ us hl => match us, hl with | [_, _], _ => rfl
  have F7 := fun_mk (st := s_Leaper__take_step) l7 c7 k7
  have B7 := F7.binds (ps := P_Leaper__take_step) fun _ _ _ _ _ _ us hl => match us, hl with | [_, _], _ => rfl
  have F8 := fun_mk (st := s_Leaper__step_or_halve) l8 c8 k8
  have B8 := F8.binds (ps := P_Leaper__step_or_halve) fun _ _ _ _ _ _ us hl => match us, hl with | [_], _ => rfl
  have F9 := fun_mk (st := s_Leaper__begin_halving) l9 c9 k9
  have B9 := F9.binds (ps := P_Leaper__begin_halving) fun _ _ _ _ _ _ us hl => match us, hl with | [_], _ => rfl
  have F10 := fun_mk (st := s_Leaper__take_half) l10 c10 k10
  have B10 := F10.binds (ps := P_Leaper__take_half) fun _ _ _ _ _ _ us hl => match us, hl with | [_, _], _ => rfl
  have F11 := fun_mk (st := s_Leaper__halve) l11 c11 k11
  have B11 := F11.binds (ps := P_Leaper__halve) fun _ _ _ _ _ _ us hl => match us, hl with | [_], _ => rfl
  have F12 := fun_mk (st := s_leap) l12 c12 k12
  have B12 := F12.binds (ps := P_leap) fun _ _ _ _ _ _ us hl => match us, hl with | [_, _, _], _ => rfl
  have F13 := fun_mk (st := s_places_of_leap) l13 c13 k13
  have B13 := F13.binds (ps := P_places_of_leap) fun _ _ _ _ _ _ us hl => match us, hl with | [_, _, _], _ => rfl
  have F14 := fun_mk (st := s_before) l14 c14 k14
  have B14 := F14.binds (ps := P_before) fun _ _ _ _ _ _ us hl => match us, hl with | [_, _, _], _ => rfl
  have F15 := fun_mk (st := s_behind) l15 c15 k15
  have B15 := F15.binds (ps := P_behind) fun _ _ _ _ _ _ us hl => match us, hl with | [_, _, _], _ => rfl
  have F16 := fun_mk (st := s_leap_places) l16 c16 k16
  have B16 := F16.binds (ps := P_leap_places) fun _ _ _ _ _ _ us hl => match us, hl with | [_, _, _], _ => rfl
  have F17 := fun_mk (st := s_check_leap) l17 c17 k17
  have B17 := F17.binds (ps := P_check_leap) fun _ _ _ _ _ _ us hl => match us, hl with | [_, _, _], _ => rfl
  have F18 := fun_mk (st := s_check_row) l18 c18 k18
  have B18 := F18.binds (ps := P_check_row) fun _ _ _ _ _ _ us hl => match us, hl with | [_, _], _ => rfl
  have F19 := fun_mk (st := s_well) l19 c19 k19
  have B19 := F19.binds (ps := P_well) fun _ _ _ _ _ _ us hl => match us, hl with | [_], _ => rfl
  have F20 := fun_mk (st := s_draw) l20 c20 k20
  have B20 := F20.binds (ps := P_draw) fun _ _ _ _ _ _ us hl => match us, hl with | [_, _], _ => rfl
  have F21 := fun_mk (st := s_one) l21 c21 k21
  have B21 := F21.binds (ps := P_one) fun _ _ _ _ _ _ us hl => match us, hl with | [_, _], _ => rfl
  have F22 := fun_mk (st := s_found) l22 c22 k22
  have B22 := F22.binds (ps := P_found) fun _ _ _ _ _ _ us hl => match us, hl with | [_, _], _ => rfl
  have F23 := fun_mk (st := s_right) l23 c23 k23
  have B23 := F23.binds (ps := P_right) fun _ _ _ _ _ _ us hl => match us, hl with | [_], _ => rfl
  have F24 := fun_mk (st := s_law) l24 c24 k24
  have B24 := F24.binds (ps := P_law) fun _ _ _ _ _ _ us hl => match us, hl with | [_], _ => rfl
  have T : Txt K mg ⟨lc_places_of_leap, lp_places_of_leap, lc_before, lp_before, lc_behind, lp_behind, f0, f1, f2, f3, f4, f5, f6, f7, f8, f9, f10, f11, f12, f13, f14, f15, f16, f17, f18, f19, f20, f21, f22, f23, f24, t_AT_HINT, t_GREATEST_ROW, t_HALVING, t_STEPPING, C_Leaper⟩ ⟨_, _, _, _, _, _, _, _, _, _, _, _, _, _, _, _, _, _, _, _, _, _, _, _, _⟩ := ⟨PySem.W.mg_of X G a0, k0, F0, B0, PySem.W.mg_of X G a1, k1, F1, B1, PySem.W.mg_of X G a2, k2, F2, B2_2, Binds.none rds2 bds2, PySem.W.mg_of X G a3, k3, F3, Binds.none rds3 bds3, ⟨a4, i4, k4⟩, F4, B4, ⟨a5, i5, k5⟩, F5, B5, ⟨a6, i6, k6⟩, F6, B6, ⟨a7, i7, k7⟩, F7, B7, ⟨a8, i8, k8⟩, F8, B8, ⟨a9, i9, k9⟩, F9, B9, ⟨a10, i10, k10⟩, F10, B10, ⟨a11, i11, k11⟩, F11, B11, PySem.W.mg_of X G a12, k12, F12, B12, PySem.W.mg_of X G a13, k13, F13, B13, PySem.W.mg_of X G a14, k14, F14, B14, PySem.W.mg_of X G a15, k15, F15, B15, PySem.W.mg_of X G a16, k16, F16, B16, PySem.W.mg_of X G a17, k17, F17, B17, PySem.W.mg_of X G a18, k18, F18, B18, PySem.W.mg_of X G a19, k19, F19, B19, PySem.W.mg_of X G a20, k20, F20, B20, PySem.W.mg_of X G a21, k21, F21, B21, PySem.W.mg_of X G a22, k22, F22, B22, PySem.W.mg_of X G a23, k23, F23, B23, PySem.W.mg_of X G a24, k24, F24, B24, le_places_of_leap, le_before, le_behind, lne_places_of_leap_before, lne_places_of_leap_behind, lne_before_behind, PySem.W.mg_of X G v_AT_HINT, PySem.W.mg_of X G v_GREATEST_ROW, PySem.W.mg_of X G v_HALVING, PySem.W.mg_of X G v_STEPPING, PySem.W.mg_none_of X G z_bool, PySem.W.mg_none_of X G z_enumerate, PySem.W.mg_none_of X G z_int, PySem.W.mg_none_of X G z_isinstance, PySem.W.mg_none_of X G z_len, PySem.W.mg_none_of X G z_list, PySem.W.mg_none_of X G z_range, PySem.W.mg_none_of X G z_sorted, PySem.W.mg_none_of X G z_tuple, ⟨pg_Leaper, hd_Leaper, po_Leaper, sa_Leaper⟩, PySem.W.mg_of X G aC_Leaper, ⟨mk_Leaper, a4, i4, kc_Leaper⟩, n_many, n_hint, n_phase, n_upward, n_last, n_step, n_longest, n_left, n_right, n_waiting, n_found⟩
  exact ⟨_, [(lc_places_of_leap, lp_places_of_leap), (lc_before, lp_before), (lc_behind, lp_behind)], spLaw K [(lp_places_of_leap, lq_places_of_leap), (lp_before, lq_before), (lp_behind, lq_behind)], (fac tb_places_of_leap (fac tb_before (fac tb_behind fan))), (fac ln_places_of_leap (fac ln_before (fac ln_behind fan))), (fac (PySem.W.codeHd_of_K X lh_places_of_leap) (fac (PySem.W.codeHd_of_K X lh_before) (fac (PySem.W.codeHd_of_K X lh_behind) fan))), fun s v => .of_eq rfl, fun H a ns hl _ ht hS => ⟨a, ns, rfl, hS, hl, (fac (LamX.TabS.nil (ht _ (List.Mem.head _))) (fac (LamX.TabS.nil (ht _ (List.Mem.tail _ (List.Mem.head _)))) (fac (LamX.TabS.nil (ht _ (List.Mem.tail _ (List.Mem.tail _ (List.Mem.head _))))) fan))), fun _ => rfl⟩, fun base _ _ TB => by rw [e]; exact ok_law T (TB _ (List.Mem.head _)) (TB _ (List.Mem.tail _ (List.Mem.head _))) (TB _ (List.Mem.tail _ (List.Mem.tail _ (List.Mem.head _))))⟩
end K25
open PySem PySem.W PyProof.Rows
set_option maxHeartbeats 0 in
theorem PySem.Challenge.cw_askedorder_k25_whole_leaps_of_related_ro_holds : PySem.Challenge.rw_askedorder_k25_whole_leaps_of_related_ro.Holds := by
  w_on; o_law; k_head; (case hw => w_witness2)
  k_fill
  refine LamX.walk_ofTs (l := PySem.Challenge.rw_askedorder_k25_whole_leaps_of_related_ro) (n := 63) (k := 10) (x := "script") (CX := fun _ => L2.CX0) rfl (by decide) rfl ⟨rfl, by decide, by decide⟩ (fun w h Y => PySem.W.km_in_of Y) ?F (fun _ _ _ _ _ h => h)
  case F =>
    intro w mg fa h Y KX G hmg
    have hP := PySem.W.km_tabs_of Y
    refine' K25.all_mk KX G hmg (hP _ (List.Mem.head _)) (hP _ (List.Mem.tail _ (List.Mem.tail _ (List.Mem.head _)))) (hP _ (List.Mem.tail _ (List.Mem.head _))) ?a0 ?l0 ?c0 ?k0 ?a1 ?l1 ?c1 ?k1 ?a2 ?l2 ?c2 ?k2 ?t2 ?a3 ?l3 ?c3 ?k3 ?t3 ?a4 ?i4 ?l4 ?c4 ?k4 ?a5 ?i5 ?l5 ?c5 ?k5 ?a6 ?i6 ?l6 ?c6 ?k6 ?a7 ?i7 ?l7 ?c7 ?k7 ?a8 ?i8 ?l8 ?c8 ?k8 ?a9 ?i9 ?l9 ?c9 ?k9 ?a10 ?i10 ?l10 ?c10 ?k10 ?a11 ?i11 ?l11 ?c11 ?k11 ?a12 ?l12 ?c12 ?k12 ?a13 ?l13 ?c13 ?k13 ?a14 ?l14 ?c14 ?k14 ?a15 ?l15 ?c15 ?k15 ?a16 ?l16 ?c16 ?k16 ?a17 ?l17 ?c17 ?k17 ?a18 ?l18 ?c18 ?k18 ?a19 ?l19 ?c19 ?k19 ?a20 ?l20 ?c20 ?k20 ?a21 ?l21 ?c21 ?k21 ?a22 ?l22 ?c22 ?k22 ?a23 ?l23 ?c23 ?k23 ?a24 ?l24 ?c24 ?k24 ?v_AT_HINT ?v_GREATEST_ROW ?v_HALVING ?v_STEPPING ?z_bool ?z_enumerate ?z_int ?z_isinstance ?z_len ?z_list ?z_range ?z_sorted ?z_tuple ?aC_Leaper ?pg_Leaper ?hd_Leaper ?po_Leaper ?sa_Leaper ?mk_Leaper ?kc_Leaper ?n_many ?n_hint ?n_phase ?n_upward ?n_last ?n_step ?n_longest ?n_left ?n_right ?n_waiting ?n_found ?le_places_of_leap ?lh_places_of_leap ?ln_places_of_leap ?le_before ?lh_before ?ln_before ?le_behind ?lh_behind ?ln_behind ?lne_places_of_leap_before ?lne_places_of_leap_behind ?lne_before_behind
    (case aC_Leaper => k_is); (case a0 => k_is); (case l0 => k_is); (case c0 => k_is); (case k0 => k_is); (case a1 => k_is)
    (case l1 => k_is); (case c1 => k_is); (case k1 => k_is); (case a2 => k_is); (case l2 => k_is); (case c2 => k_is)
    (case k2 => k_is); (case t2 => k_is); (case a3 => k_is); (case l3 => k_is); (case c3 => k_is); (case k3 => k_is)
    (case t3 => k_is); (case a4 => k_is); (case i4 => k_is); (case l4 => k_is); (case c4 => k_is); (case k4 => k_is)
    (case a5 => k_is); (case i5 => k_is); (case l5 => k_is); (case c5 => k_is); (case k5 => k_is); (case a6 => k_is)
    (case i6 => k_is); (case l6 => k_is); (case c6 => k_is); (case k6 => k_is); (case a7 => k_is); (case i7 => k_is)
    (case l7 => k_is); (case c7 => k_is); (case k7 => k_is); (case a8 => k_is); (case i8 => k_is); (case l8 => k_is)
    (case c8 => k_is); (case k8 => k_is); (case a9 => k_is); (case i9 => k_is); (case l9 => k_is); (case c9 => k_is)
    (case k9 => k_is); (case a10 => k_is); (case i10 => k_is); (case l10 => k_is); (case c10 => k_is); (case k10 => k_is)
    (case a11 => k_is); (case i11 => k_is); (case l11 => k_is); (case c11 => k_is); (case k11 => k_is); (case a12 => k_is)
    (case l12 => k_is); (case c12 => k_is); (case k12 => k_is); (case a13 => k_is); (case l13 => k_is); (case c13 => k_is)
    (case k13 => k_is); (case a14 => k_is); (case l14 => k_is); (case c14 => k_is); (case k14 => k_is); (case a15 => k_is)
    (case l15 => k_is); (case c15 => k_is); (case k15 => k_is); (case a16 => k_is); (case l16 => k_is); (case c16 => k_is)
    (case k16 => k_is); (case a17 => k_is); (case l17 => k_is); (case c17 => k_is); (case k17 => k_is); (case a18 => k_is)
    (case l18 => k_is); (case c18 => k_is); (case k18 => k_is); (case a19 => k_is); (case l19 => k_is); (case c19 => k_is)
    (case k19 => k_is); (case a20 => k_is); (case l20 => k_is); (case c20 => k_is); (case k20 => k_is); (case a21 => k_is)
    (case l21 => k_is); (case c21 => k_is); (case k21 => k_is); (case a22 => k_is); (case l22 => k_is); (case c22 => k_is)
    (case k22 => k_is); (case a23 => k_is); (case l23 => k_is); (case c23 => k_is); (case k23 => k_is); (case a24 => k_is)
    (case l24 => k_is); (case c24 => k_is); (case k24 => k_is); (case v_AT_HINT => k_is); (case v_GREATEST_ROW => k_is); (case v_HALVING => k_is)
    (case v_STEPPING => k_is); (case z_bool => k_is); (case z_enumerate => k_is); (case z_int => k_is); (case z_isinstance => k_is); (case z_len => k_is)
    (case z_list => k_is); (case z_range => k_is); (case z_sorted => k_is); (case z_tuple => k_is); (case pg_Leaper => k_is); (case hd_Leaper => k_is)
    (case po_Leaper => k_is); (case sa_Leaper => k_is); (case mk_Leaper => k_is); (case kc_Leaper => k_is); (case n_many => k_is); (case n_hint => k_is)
    (case n_phase => k_is); (case n_upward => k_is); (case n_last => k_is); (case n_step => k_is); (case n_longest => k_is); (case n_left => k_is)
    (case n_right => k_is); (case n_waiting => k_is); (case n_found => k_is); (case le_places_of_leap => exact rfl); (case lh_places_of_leap => kernel_rfl); (case ln_places_of_leap => kernel_rfl)
    (case le_before => exact rfl); (case lh_before => kernel_rfl); (case ln_before => kernel_rfl); (case le_behind => exact rfl); (case lh_behind => kernel_rfl); (case ln_behind => kernel_rfl)
    (case lne_places_of_leap_before => decide); (case lne_places_of_leap_behind => decide); (case lne_before_behind => decide)


