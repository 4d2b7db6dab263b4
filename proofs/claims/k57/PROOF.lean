import PyProof.Rows.All
import Wide.All
import OpenK.AllK
import Wide.FinOn
import Lean
import PyProof.EqAt
import PyProof.EqKinds
import PyProof.TupleCall
import PySem.Challenge.RW_carvebed_k57_numbers_at_a_desk
set_option Elab.async false
set_option linter.all false
set_option maxRecDepth 100000
set_option maxHeartbeats 4000000
namespace L2
open PySem PySem.Spec PyProof.Rows
def inClass (s:Stmt) (j:Nat):Stmt:=match s with
 | .ClassDef _ _ _ body _ _ _ _ _ _ _=>body.getD j (.Pass ⟨0,0,0,0⟩)
 | _=>.Pass ⟨0,0,0,0⟩
def defArgs (s:Stmt):Arguments:=match s with
 | .FunctionDef _ a _ _ _ _ _ _ _ _=>a
 | _=>{ posonlyargs:=[],args:=[],vararg:=none,kwonlyargs:=[],kw_defaults:=[],kwarg:=none,defaults:=[] }
def defBody (s:Stmt):List Stmt:=match s with
 | .FunctionDef _ _ b _ _ _ _ _ _ _=>b
 | _=>[]
def defScope (s:Stmt):Scope:=match s with
 | .FunctionDef _ _ _ _ _ _ sc _ _ _=>sc
 | _=>{ kind:=.function,names:=[],isGenerator:=false,isCoroutine:=false }
end L2
namespace Car
open PySem L2
def top (i:Nat):Stmt:=PySem.Challenge.pw_carvebed_k57_numbers_at_a_desk.main.body.getD i (.Pass ⟨0,0,0,0⟩)
end Car
namespace Car
open PySem PySem.W PySem.Calls PyProof.Rows L2
def goT (tbl:String→Option Builtin) (pr:Program) (wd:World) (lo:Nat) (an:Option Value):Nat→SharedT→Thread→Option SharedT
 | 0,_,_=>none
 | fuel + 1,sh,th=>if through th then some sh else
  if stepOk lo an th then (stepT (denote tbl) pr wd sh th).bind fun x=>goT tbl pr wd lo an fuel x.1 x.2 else none
theorem goT_run {tbl:String→Option Builtin} {pr:Program} {wd:World} {lo:Nat} {an:Option Value} (fuel:Nat):∀ (sh out:SharedT) (th:Thread),goT tbl pr wd lo an fuel sh th=some out→topRun tbl pr wd lo an fuel sh.abs th=some out.abs:=by
 induction fuel with
 | zero=>intro sh out th h; exact absurd h (by simp [goT])
 | succ k ih =>
  intro sh out th h
  unfold goT at h
  unfold topRun
  by_cases a:through th=true
  ·rw [if_pos a] at h; rw [a]; cases h; rfl
  ·rw [if_neg a] at h
   rw [Bool.not_eq_true] at a
   rw [a]
   by_cases b:stepOk lo an th=true
   ·rw [if_pos b] at h
    rw [b]
    obtain ⟨x,hx,hr⟩:=Option.bind_eq_some_iff.mp h
    rw [stepT_spec (s':=x.1) (t':=x.2) hx]
    exact ih _ _ _ hr
   ·rw [if_neg b] at h; cases h
def plant:List Obj→Nat→BT→BT
 | [],_,tr=>tr
 | ob :: more,i,tr=>plant more (i + 1) (tr.ins i ob)
noncomputable def boot0 (P:Params) (os:OsState):SharedT:=⟨plant (boot_heap P).objs.toList 0 .nil,11,(boot_heap P).life,#[],boot_drawn,boot_toks,os⟩
theorem boot0_abs (P:Params) (os:OsState):(boot0 P os).abs=⟨boot_heap P,#[],boot_drawn,boot_toks,os⟩:=by kernel_rfl
noncomputable def sight {α:Type} (pr q:Program) (loose:List Str) (Yf:Shared→α) (M:Nat) (wd:World) (os:OsState) :=
 (goT treeTable pr wd 11 (some (.ref 6)) M (boot0 wd.params os) (topStub pr)).map fun x =>
  ((staticsOk (importedModules pr.main.body) (boot_heap wd.params) x.abs.heap && namesBound pr x.abs.heap && gensDone x.abs && laidKept (boot_heap wd.params) x.abs.heap),
   openSeen q loose (importedModules pr.main.body) (fun s=>xlAt q [] s && recOk [] s) true x.abs,Yf x.abs)
theorem left_by {α:Type} {pr q:Program} {loose:List Str} {Yf:Shared→α} {Ya:World→α} {N M:Nat} (le:Nat.ble M N=true)
  (hop:opening pr=plainProg pr.main.scope.names) (hN:Nat.ble 600 N=true) (hf:∀ s,fenceModules? pr s=some s)
  (hs:∀ wd os,sight pr q loose Yf M wd os=some (true,openGood q loose,Ya wd)):LeftO pr q loose (fun s=>xlAt q [] s && recOk [] s) Yf Ya N true:=fun wd=>by
 obtain ⟨⟨hp,gs,d,k,os⟩,e,e'⟩:=Option.map_eq_some_iff.mp (boot_open hop hN hf wd)
 simp only [Prod.mk.injEq] at e'
 obtain ⟨rfl,rfl,rfl,rfl⟩:=e'
 obtain ⟨x,hx,hv⟩:=Option.map_eq_some_iff.mp (hs wd os)
 simp only [Prod.mk.injEq] at hv
 obtain ⟨h1,h2,h3⟩:=hv
 have r:=topRun_mono (N - M) _ _ _ _ (goT_run _ _ _ _ hx)
 have hm:M + (N - M)=N:=Nat.add_sub_cancel' (Nat.le_of_ble_eq_true le)
 rw [hm,boot0_abs] at r
 have z1:((boot_heap wd.params).isNs mainGlobals && (#[]:Array GenState).size == 0)=true:=by kernel_rfl
 have z2:(boot_heap wd.params).objs.size=11:=by kernel_rfl
 have z3:(boot_heap wd.params).nsMap mainGlobals "__annotations__"=some (.ref 6):=by kernel_rfl
 have t:topFrom treeTable pr wd N ⟨boot_heap wd.params,#[],boot_drawn,boot_toks,os⟩=some x.abs:=by
  unfold topFrom
  dsimp only
  rw [z1,z2,z3]
  dsimp only
  rw [show topRun treeTable pr wd 11 (some (.ref 6)) N ⟨boot_heap wd.params,#[],boot_drawn,boot_toks,os⟩ (topStub pr)=some x.abs from r]
  dsimp only [Option.bind]
  rw [h1]
 unfold openEnds
 rw [e]
 dsimp only [Option.bind]
 rw [show topFrom treeTable pr wd N ⟨boot_heap wd.params,{ toList:=[] },boot_drawn,boot_toks,os⟩=some x.abs from t]
 dsimp only [Option.map]
 rw [h2,h3]
def dS (P:Params) (x:Str) (t:Nat) (v:Value):DictEntry:=⟨PyData.keyHash P x,.str x t,v⟩
def fF (x q:Str) (s:Stmt) (dv kv doc pm:Value) (an:Option Addr) (cd ct:Value):FuncData:=fnOf x q (defArgs s) (defBody s) (defScope s) dv kv doc pm an cd ct
def cO (x q:Str) (t l a r1 r2:Nat) (u v z:Value) (r3 g:Nat):Obj:=⟨.type "code",none,.fields #[.str x t,.str q (t + 1),.str "/claim/cut.py" (t + 2),.int l 0,.int a 0,.int 0 0,.int 0 0,.int 3 0,.ref r1,.bool true,.int 181 0,.ref r2,u,v,z,.ref r3,.int g 0,.int l 0,.str "/claim/cut.py" (g + 1)],#[]⟩
noncomputable def o2 (P:Params):Obj:=⟨.none,none,(.dict #[dS P "type.__subclasses__.Exception.0" 226 (.int 32 0),dS P "type.__subclasses__.Exception.n" 227 (.int 2 0),dS P "type.__subclasses__.Exception.1" 666 (.int 335 0)] 3),#[]⟩
noncomputable def o3 (P:Params):Obj:=⟨.type "dict",none,(.dict #[dS P "__name__" 165 (.str "law_carvebed_k57_numbers_at_a_desk" 1561),dS P "__doc__" 166 .none,dS P "__package__" 167 .none,dS P "__loader__" 168 (.builtin "__main__.__loader__#opaque"),dS P "__spec__" 169 .none,dS P "__annotations__" 170 (.ref 6),dS P "__builtins__" 171 (.ref 4),dS P "__file__" 173 (.str "/claim/cut.py" 172),dS P "__cached__" 174 .none,dS P "TOP" 190 (.int 1000 189),dS P "BEGINNING_carver" 200 (.ref 15),dS P "Fault" 229 (.ref 32),dS P "Carver" 324 (.ref 99),dS P "do_moves" 337 (.ref 110),dS P "Cells" 399 (.ref 149),dS P "carved" 410 (.ref 160),dS P "CarveError" 430 (.ref 170),dS P "TooLong" 446 (.ref 183),dS P "NoRow" 462 (.ref 195),dS P "NoPlace" 478 (.ref 207),dS P "TooDeep" 494 (.ref 219),dS P "Twice" 510 (.ref 231),dS P "Open" 526 (.ref 243),dS P "NoSub" 542 (.ref 255),dS P "NoForm" 558 (.ref 267),dS P "NoBed" 574 (.ref 279),dS P "NoMeasure" 590 (.ref 291),dS P "NoCell" 606 (.ref 303),dS P "NoCutter" 622 (.ref 315),dS P "MOST_NUMBER" 626 (.int 1000000 625),dS P "MOST_CALLS" 628 (.int 10 627),dS P "MOST_COUNTED" 630 (.int 2000 629),dS P "BEGINNING_runs" 640 (.ref 318),dS P "Stop" 669 (.ref 335),dS P "is_big" 676 (.ref 345),dS P "bounded" 683 (.ref 352),dS P "joined" 692 (.ref 359),dS P "look_at_depth" 699 (.ref 366),dS P "Track" 756 (.ref 404),dS P "reckoned" 768 (.ref 415),dS P "named" 776 (.ref 422),dS P "Walk" 813 (.ref 439),dS P "Run" 903 (.ref 505),dS P "run_plainly" 912 (.ref 516),dS P "SMALL_LETTERS" 916 (.str "abcdefghijklmnopqrstuvwxyz" 915),dS P "FIGURES" 918 (.str "0123456789" 917),dS P "JOINTS" 920 (.str "+-*()" 919),dS P "KEPT_WORDS" 935 (.ref 517),dS P "MOST_LETTERS" 937 (.int 8 936),dS P "MOST_FIGURES" 939 (.int 6 938),dS P "MOST_SIGNS" 941 (.int 60 940),dS P "MOST_BRACKETS" 943 (.int 5 942),dS P "is_written_in" 949 (.ref 522),dS P "is_name" 956 (.ref 529),dS P "is_number" 963 (.ref 536),dS P "Scan" 1051 (.ref 602),dS P "expression" 1060 (.ref 613),dS P "AXES" 1066 (.ref 614),dS P "COMPARISONS" 1069 (.ref 615),dS P "MOST_NAMES" 1071 (.int 4 1070),dS P "look_at_length" 1080 (.ref 622),dS P "name_of" 1087 (.ref 629),dS P "hold_row" 1094 (.ref 636),dS P "move_row" 1102 (.ref 643),dS P "let_row" 1109 (.ref 650),dS P "call_row" 1115 (.ref 655),dS P "times_row" 1122 (.ref 662),dS P "if_row" 1129 (.ref 669),dS P "bare_row" 1136 (.ref 676),dS P "sub_row" 1142 (.ref 681),dS P "FORMS" 1163 (.ref 682),dS P "row_of" 1171 (.ref 689),dS P "MOST_ROWS" 1175 (.int 120 1174),dS P "MOST_BODIES" 1177 (.int 6 1176),dS P "Draft" 1300 (.ref 783),dS P "read" 1310 (.ref 794),dS P "within" 1318 (.ref 799),dS P "cells_under" 1324 (.ref 804),dS P "places_over" 1330 (.ref 809),dS P "greatest" 1336 (.ref 814),dS P "lowest_at" 1346 (.ref 821),dS P "lowest_over" 1360 (.ref 828),dS P "NUMBERS_DUE" 1384 (.ref 829),dS P "ROW_AHEAD" 1386 (.str "row " 1385),dS P "SIDES" 1389 (.ref 830),dS P "HEIGHTS" 1392 (.ref 831),dS P "BITES" 1395 (.ref 832),dS P "REACHES" 1398 (.ref 833),dS P "MOST_CUTTERS" 1400 (.int 6 1399),dS P "told_in" 1406 (.ref 838),dS P "look_at_measure" 1414 (.ref 845),dS P "look_at_cell" 1423 (.ref 852),dS P "look_at_shelf" 1430 (.ref 859),dS P "lay_bed" 1436 (.ref 864),dS P "square_foot" 1442 (.ref 869),dS P "put_cutter" 1450 (.ref 876),dS P "put_row" 1458 (.ref 883),dS P "drop_rows" 1466 (.ref 890),dS P "end_told" 1474 (.ref 897),dS P "carve" 1484 (.ref 904),dS P "tell_cell" 1492 (.ref 911),dS P "show" 1498 (.ref 916),dS P "tell_low" 1504 (.ref 921),dS P "DOINGS" 1521 (.ref 922),dS P "Desk" 1560 (.ref 946),dS P "_law_writing" 1573 (.ref 957),dS P "_law_number" 1582 (.ref 964),dS P "_law_said" 1591 (.ref 971),dS P "_law_at" 1600 (.ref 978),dS P "law" 1616 (.ref 985)] 110),#[]⟩
noncomputable def o15 (P:Params):Obj:=⟨.type "dict",none,(.dict #[dS P "x" 191 (.int 0 192),dS P "y" 193 (.int 0 194),dS P "z" 195 (.int 1000 196)] 3),#[]⟩
noncomputable def o28:Obj:=cO "__init__" "Fault.__init__" 213 6 2 23 24 .none (.ref 25) (.ref 26) 27 218
noncomputable def o29:Obj:=⟨.type "function",none,(.func (fF "__init__" "Fault.__init__" (inClass (top 3) 0) .none .none .none (.str "carvebed.carver" 187) none (.ref 28) .none)),#[]⟩
noncomputable def o31 (P:Params):Obj:=⟨.type "dict",none,(.dict #[dS P "__module__" 208 (.str "carvebed.carver" 187),dS P "__firstlineno__" 212 (.int 4 211),dS P "__init__" 220 (.ref 29),dS P "__static_attributes__" 222 (.ref 30),dS P "__weakref__" 224 (.ref 33),dS P "__doc__" 225 .none] 3),#[]⟩
noncomputable def o32:Obj:=⟨.type "type",none,(.cls { name:="Fault",bases:=[.type "Exception"],mro:=[.ref 32,.type "Exception",.type "BaseException",.type "object"],ns:=31,qualname:="Fault",hasDict:=true,slotNames:=[],subclasses:=[],abstract:=false,collection:=none,hasDel:=false }),#[some (.ref 16),none,some (.str "Fault" 201),some (.str "Fault" 209),some (.builtin "Exception.__new__"),some (.bool true)]⟩
noncomputable def o33:Obj:=⟨.type "getset_descriptor",none,(.fields #[.str "__weakref__" 223,.ref 32,.builtin "ExceptionGroup.__weakref__",.none]),#[]⟩
noncomputable def o48:Obj:=cO "__init__" "Carver.__init__" 242 10 3 43 44 .none (.ref 45) (.ref 46) 47 248
noncomputable def o49:Obj:=⟨.type "function",none,(.func (fF "__init__" "Carver.__init__" (inClass (top 4) 0) .none .none .none (.str "carvebed.carver" 187) none (.ref 48) .none)),#[]⟩
noncomputable def o55:Obj:=cO "do" "Carver.do" 251 16 2 50 51 .none (.ref 52) (.ref 53) 54 256
noncomputable def o56:Obj:=⟨.type "function",none,(.func (fF "do" "Carver.do" (inClass (top 4) 1) .none .none .none (.str "carvebed.carver" 187) none (.ref 55) .none)),#[]⟩
noncomputable def o62:Obj:=cO "do_hold" "Carver.do_hold" 259 21 2 57 58 .none (.ref 59) (.ref 60) 61 264
noncomputable def o63:Obj:=⟨.type "function",none,(.func (fF "do_hold" "Carver.do_hold" (inClass (top 4) 2) .none .none .none (.str "carvebed.carver" 187) none (.ref 62) .none)),#[]⟩
noncomputable def o69:Obj:=cO "do_move" "Carver.do_move" 267 29 4 64 65 .none (.ref 66) (.ref 67) 68 276
noncomputable def o70:Obj:=⟨.type "function",none,(.func (fF "do_move" "Carver.do_move" (inClass (top 4) 3) .none .none .none (.str "carvebed.carver" 187) none (.ref 69) .none)),#[]⟩
noncomputable def o76:Obj:=cO "has_room" "Carver.has_room" 279 42 3 71 72 .none (.ref 73) (.ref 74) 75 285
noncomputable def o77:Obj:=⟨.type "function",none,(.func (fF "has_room" "Carver.has_room" (inClass (top 4) 4) .none .none .none (.str "carvebed.carver" 187) none (.ref 76) .none)),#[]⟩
noncomputable def o81:Obj:=cO "way_to" "Carver.way_to" 288 49 3 78 79 .none .none .none 80 291
noncomputable def o82:Obj:=⟨.type "function",none,(.func (fF "way_to" "Carver.way_to" (inClass (top 4) 5) .none .none .none (.str "carvebed.carver" 187) none (.ref 81) .none)),#[]⟩
noncomputable def o88:Obj:=cO "pass_over" "Carver.pass_over" 294 55 2 83 84 .none (.ref 85) (.ref 86) 87 300
noncomputable def o89:Obj:=⟨.type "function",none,(.func (fF "pass_over" "Carver.pass_over" (inClass (top 4) 6) .none .none .none (.str "carvebed.carver" 187) none (.ref 88) .none)),#[]⟩
noncomputable def o95:Obj:=cO "cut_along" "Carver.cut_along" 303 61 2 90 91 .none (.ref 92) (.ref 93) 94 310
noncomputable def o96:Obj:=⟨.type "function",none,(.func (fF "cut_along" "Carver.cut_along" (inClass (top 4) 7) .none .none .none (.str "carvebed.carver" 187) none (.ref 95) .none)),#[]⟩
noncomputable def o98 (P:Params):Obj:=⟨.type "dict",none,(.dict #[dS P "__module__" 237 (.str "carvebed.carver" 187),dS P "__firstlineno__" 241 (.int 8 240),dS P "__init__" 250 (.ref 49),dS P "do" 258 (.ref 56),dS P "do_hold" 266 (.ref 63),dS P "do_move" 278 (.ref 70),dS P "has_room" 287 (.ref 77),dS P "way_to" 293 (.ref 82),dS P "pass_over" 302 (.ref 89),dS P "cut_along" 312 (.ref 96),dS P "__static_attributes__" 317 (.ref 97),dS P "__dict__" 319 (.ref 100),dS P "__weakref__" 321 (.ref 101),dS P "__doc__" 322 .none] 4),#[]⟩
noncomputable def o99:Obj:=⟨.type "type",none,(.cls { name:="Carver",bases:=[.type "object"],mro:=[.ref 99,.type "object"],ns:=98,qualname:="Carver",hasDict:=true,slotNames:=[],subclasses:=[],abstract:=false,collection:=none,hasDel:=false }),#[none,none,some (.str "Carver" 230),some (.str "Carver" 238),some (.builtin "object.__new__"),some (.bool true)]⟩
noncomputable def o100:Obj:=⟨.type "getset_descriptor",none,(.fields #[.str "__dict__" 318,.ref 99,.builtin "function.__dict__",.builtin "function.__dict__#set"]),#[]⟩
noncomputable def o101:Obj:=⟨.type "getset_descriptor",none,(.fields #[.str "__weakref__" 320,.ref 99,.builtin "ExceptionGroup.__weakref__",.none]),#[]⟩
noncomputable def o109:Obj:=cO "do_moves" "do_moves" 325 67 3 104 105 .none (.ref 106) (.ref 107) 108 335
noncomputable def o110:Obj:=⟨.type "function",none,(.func (fF "do_moves" "do_moves" (top 5) .none .none .none (.str "carvebed.carver" 187) none (.ref 109) .none)),#[]⟩
noncomputable def o121:Obj:=cO "__init__" "Cells.__init__" 352 79 2 118 119 .none .none .none 120 355
noncomputable def o122:Obj:=⟨.type "function",none,(.func (fF "__init__" "Cells.__init__" (inClass (top 7) 0) .none .none .none (.str "carvebed.beds" 338) none (.ref 121) .none)),#[]⟩
noncomputable def o128:Obj:=cO "has_cell" "Cells.has_cell" 358 82 3 123 124 .none (.ref 125) (.ref 126) 127 364
noncomputable def o129:Obj:=⟨.type "function",none,(.func (fF "has_cell" "Cells.has_cell" (inClass (top 7) 1) .none .none .none (.str "carvebed.beds" 338) none (.ref 128) .none)),#[]⟩
noncomputable def o133:Obj:=cO "under" "Cells.under" 367 85 3 130 131 .none .none .none 132 370
noncomputable def o134:Obj:=⟨.type "function",none,(.func (fF "under" "Cells.under" (inClass (top 7) 2) .none .none .none (.str "carvebed.beds" 338) none (.ref 133) .none)),#[]⟩
noncomputable def o138:Obj:=cO "rises_above" "Cells.rises_above" 373 93 3 135 136 .none .none .none 137 376
noncomputable def o139:Obj:=⟨.type "function",none,(.func (fF "rises_above" "Cells.rises_above" (inClass (top 7) 3) .none .none .none (.str "carvebed.beds" 338) none (.ref 138) .none)),#[]⟩
noncomputable def o145:Obj:=cO "cut_down" "Cells.cut_down" 379 96 3 140 141 .none (.ref 142) (.ref 143) 144 388
noncomputable def o146:Obj:=⟨.type "function",none,(.func (fF "cut_down" "Cells.cut_down" (inClass (top 7) 4) .none .none .none (.str "carvebed.beds" 338) none (.ref 145) .none)),#[]⟩
noncomputable def o148 (P:Params):Obj:=⟨.type "dict",none,(.dict #[dS P "__module__" 347 (.str "carvebed.beds" 338),dS P "__firstlineno__" 351 (.int 77 350),dS P "__init__" 357 (.ref 122),dS P "has_cell" 366 (.ref 129),dS P "under" 372 (.ref 134),dS P "rises_above" 378 (.ref 139),dS P "cut_down" 390 (.ref 146),dS P "__static_attributes__" 392 (.ref 147),dS P "__dict__" 394 (.ref 150),dS P "__weakref__" 396 (.ref 151),dS P "__doc__" 397 .none] 4),#[]⟩
noncomputable def o149:Obj:=⟨.type "type",none,(.cls { name:="Cells",bases:=[.type "object"],mro:=[.ref 149,.type "object"],ns:=148,qualname:="Cells",hasDict:=true,slotNames:=[],subclasses:=[],abstract:=false,collection:=none,hasDel:=false }),#[none,none,some (.str "Cells" 340),some (.str "Cells" 348),some (.builtin "object.__new__"),some (.bool true)]⟩
noncomputable def o150:Obj:=⟨.type "getset_descriptor",none,(.fields #[.str "__dict__" 393,.ref 149,.builtin "function.__dict__",.builtin "function.__dict__#set"]),#[]⟩
noncomputable def o151:Obj:=⟨.type "getset_descriptor",none,(.fields #[.str "__weakref__" 395,.ref 149,.builtin "ExceptionGroup.__weakref__",.none]),#[]⟩
noncomputable def o159:Obj:=cO "carved" "carved" 400 104 3 154 155 .none (.ref 156) (.ref 157) 158 408
noncomputable def o160:Obj:=⟨.type "function",none,(.func (fF "carved" "carved" (top 8) .none .none .none (.str "carvebed.beds" 338) none (.ref 159) .none)),#[]⟩
noncomputable def o169 (P:Params):Obj:=⟨.type "dict",none,(.dict #[dS P "__module__" 420 (.str "carvebed.errors" 411),dS P "__firstlineno__" 424 (.int 109 423),dS P "__static_attributes__" 425 (.ref 168),dS P "__weakref__" 427 (.ref 171),dS P "__doc__" 428 .none] 3),#[]⟩
noncomputable def o170:Obj:=⟨.type "type",none,(.cls { name:="CarveError",bases:=[.type "ValueError"],mro:=[.ref 170,.type "ValueError",.type "Exception",.type "BaseException",.type "object"],ns:=169,qualname:="CarveError",hasDict:=true,slotNames:=[],subclasses:=[.ref 183,.ref 195,.ref 207,.ref 219,.ref 231,.ref 243,.ref 255,.ref 267,.ref 279,.ref 291,.ref 303,.ref 315],abstract:=false,collection:=none,hasDel:=false }),#[some (.ref 161),none,some (.str "CarveError" 413),some (.str "CarveError" 421),some (.builtin "ValueError.__new__"),some (.bool true)]⟩
noncomputable def o171:Obj:=⟨.type "getset_descriptor",none,(.fields #[.str "__weakref__" 426,.ref 170,.builtin "ExceptionGroup.__weakref__",.none]),#[]⟩
noncomputable def o182 (P:Params):Obj:=⟨.type "dict",none,(.dict #[dS P "__module__" 438 (.str "carvebed.errors" 411),dS P "__firstlineno__" 442 (.int 111 441),dS P "__static_attributes__" 443 (.ref 181),dS P "__doc__" 444 .none] 2),#[]⟩
noncomputable def o183:Obj:=⟨.type "type",none,(.cls { name:="TooLong",bases:=[.ref 170],mro:=[.ref 183,.ref 170,.type "ValueError",.type "Exception",.type "BaseException",.type "object"],ns:=182,qualname:="TooLong",hasDict:=true,slotNames:=[],subclasses:=[],abstract:=false,collection:=none,hasDel:=false }),#[some (.ref 174),none,some (.str "TooLong" 431),some (.str "TooLong" 439),some (.builtin "ValueError.__new__"),some (.bool true)]⟩
noncomputable def o194 (P:Params):Obj:=⟨.type "dict",none,(.dict #[dS P "__module__" 454 (.str "carvebed.errors" 411),dS P "__firstlineno__" 458 (.int 113 457),dS P "__static_attributes__" 459 (.ref 193),dS P "__doc__" 460 .none] 2),#[]⟩
noncomputable def o195:Obj:=⟨.type "type",none,(.cls { name:="NoRow",bases:=[.ref 170],mro:=[.ref 195,.ref 170,.type "ValueError",.type "Exception",.type "BaseException",.type "object"],ns:=194,qualname:="NoRow",hasDict:=true,slotNames:=[],subclasses:=[],abstract:=false,collection:=none,hasDel:=false }),#[some (.ref 186),none,some (.str "NoRow" 447),some (.str "NoRow" 455),some (.builtin "ValueError.__new__"),some (.bool true)]⟩
noncomputable def o206 (P:Params):Obj:=⟨.type "dict",none,(.dict #[dS P "__module__" 470 (.str "carvebed.errors" 411),dS P "__firstlineno__" 474 (.int 115 473),dS P "__static_attributes__" 475 (.ref 205),dS P "__doc__" 476 .none] 2),#[]⟩
noncomputable def o207:Obj:=⟨.type "type",none,(.cls { name:="NoPlace",bases:=[.ref 170],mro:=[.ref 207,.ref 170,.type "ValueError",.type "Exception",.type "BaseException",.type "object"],ns:=206,qualname:="NoPlace",hasDict:=true,slotNames:=[],subclasses:=[],abstract:=false,collection:=none,hasDel:=false }),#[some (.ref 198),none,some (.str "NoPlace" 463),some (.str "NoPlace" 471),some (.builtin "ValueError.__new__"),some (.bool true)]⟩
noncomputable def o218 (P:Params):Obj:=⟨.type "dict",none,(.dict #[dS P "__module__" 486 (.str "carvebed.errors" 411),dS P "__firstlineno__" 490 (.int 117 489),dS P "__static_attributes__" 491 (.ref 217),dS P "__doc__" 492 .none] 2),#[]⟩
noncomputable def o219:Obj:=⟨.type "type",none,(.cls { name:="TooDeep",bases:=[.ref 170],mro:=[.ref 219,.ref 170,.type "ValueError",.type "Exception",.type "BaseException",.type "object"],ns:=218,qualname:="TooDeep",hasDict:=true,slotNames:=[],subclasses:=[],abstract:=false,collection:=none,hasDel:=false }),#[some (.ref 210),none,some (.str "TooDeep" 479),some (.str "TooDeep" 487),some (.builtin "ValueError.__new__"),some (.bool true)]⟩
noncomputable def o230 (P:Params):Obj:=⟨.type "dict",none,(.dict #[dS P "__module__" 502 (.str "carvebed.errors" 411),dS P "__firstlineno__" 506 (.int 119 505),dS P "__static_attributes__" 507 (.ref 229),dS P "__doc__" 508 .none] 2),#[]⟩
noncomputable def o231:Obj:=⟨.type "type",none,(.cls { name:="Twice",bases:=[.ref 170],mro:=[.ref 231,.ref 170,.type "ValueError",.type "Exception",.type "BaseException",.type "object"],ns:=230,qualname:="Twice",hasDict:=true,slotNames:=[],subclasses:=[],abstract:=false,collection:=none,hasDel:=false }),#[some (.ref 222),none,some (.str "Twice" 495),some (.str "Twice" 503),some (.builtin "ValueError.__new__"),some (.bool true)]⟩
noncomputable def o242 (P:Params):Obj:=⟨.type "dict",none,(.dict #[dS P "__module__" 518 (.str "carvebed.errors" 411),dS P "__firstlineno__" 522 (.int 121 521),dS P "__static_attributes__" 523 (.ref 241),dS P "__doc__" 524 .none] 2),#[]⟩
noncomputable def o243:Obj:=⟨.type "type",none,(.cls { name:="Open",bases:=[.ref 170],mro:=[.ref 243,.ref 170,.type "ValueError",.type "Exception",.type "BaseException",.type "object"],ns:=242,qualname:="Open",hasDict:=true,slotNames:=[],subclasses:=[],abstract:=false,collection:=none,hasDel:=false }),#[some (.ref 234),none,some (.str "Open" 511),some (.str "Open" 519),some (.builtin "ValueError.__new__"),some (.bool true)]⟩
noncomputable def o254 (P:Params):Obj:=⟨.type "dict",none,(.dict #[dS P "__module__" 534 (.str "carvebed.errors" 411),dS P "__firstlineno__" 538 (.int 123 537),dS P "__static_attributes__" 539 (.ref 253),dS P "__doc__" 540 .none] 2),#[]⟩
noncomputable def o255:Obj:=⟨.type "type",none,(.cls { name:="NoSub",bases:=[.ref 170],mro:=[.ref 255,.ref 170,.type "ValueError",.type "Exception",.type "BaseException",.type "object"],ns:=254,qualname:="NoSub",hasDict:=true,slotNames:=[],subclasses:=[],abstract:=false,collection:=none,hasDel:=false }),#[some (.ref 246),none,some (.str "NoSub" 527),some (.str "NoSub" 535),some (.builtin "ValueError.__new__"),some (.bool true)]⟩
noncomputable def o266 (P:Params):Obj:=⟨.type "dict",none,(.dict #[dS P "__module__" 550 (.str "carvebed.errors" 411),dS P "__firstlineno__" 554 (.int 125 553),dS P "__static_attributes__" 555 (.ref 265),dS P "__doc__" 556 .none] 2),#[]⟩
noncomputable def o267:Obj:=⟨.type "type",none,(.cls { name:="NoForm",bases:=[.ref 170],mro:=[.ref 267,.ref 170,.type "ValueError",.type "Exception",.type "BaseException",.type "object"],ns:=266,qualname:="NoForm",hasDict:=true,slotNames:=[],subclasses:=[],abstract:=false,collection:=none,hasDel:=false }),#[some (.ref 258),none,some (.str "NoForm" 543),some (.str "NoForm" 551),some (.builtin "ValueError.__new__"),some (.bool true)]⟩
noncomputable def o278 (P:Params):Obj:=⟨.type "dict",none,(.dict #[dS P "__module__" 566 (.str "carvebed.errors" 411),dS P "__firstlineno__" 570 (.int 127 569),dS P "__static_attributes__" 571 (.ref 277),dS P "__doc__" 572 .none] 2),#[]⟩
noncomputable def o279:Obj:=⟨.type "type",none,(.cls { name:="NoBed",bases:=[.ref 170],mro:=[.ref 279,.ref 170,.type "ValueError",.type "Exception",.type "BaseException",.type "object"],ns:=278,qualname:="NoBed",hasDict:=true,slotNames:=[],subclasses:=[],abstract:=false,collection:=none,hasDel:=false }),#[some (.ref 270),none,some (.str "NoBed" 559),some (.str "NoBed" 567),some (.builtin "ValueError.__new__"),some (.bool true)]⟩
noncomputable def o290 (P:Params):Obj:=⟨.type "dict",none,(.dict #[dS P "__module__" 582 (.str "carvebed.errors" 411),dS P "__firstlineno__" 586 (.int 129 585),dS P "__static_attributes__" 587 (.ref 289),dS P "__doc__" 588 .none] 2),#[]⟩
noncomputable def o291:Obj:=⟨.type "type",none,(.cls { name:="NoMeasure",bases:=[.ref 170],mro:=[.ref 291,.ref 170,.type "ValueError",.type "Exception",.type "BaseException",.type "object"],ns:=290,qualname:="NoMeasure",hasDict:=true,slotNames:=[],subclasses:=[],abstract:=false,collection:=none,hasDel:=false }),#[some (.ref 282),none,some (.str "NoMeasure" 575),some (.str "NoMeasure" 583),some (.builtin "ValueError.__new__"),some (.bool true)]⟩
noncomputable def o302 (P:Params):Obj:=⟨.type "dict",none,(.dict #[dS P "__module__" 598 (.str "carvebed.errors" 411),dS P "__firstlineno__" 602 (.int 131 601),dS P "__static_attributes__" 603 (.ref 301),dS P "__doc__" 604 .none] 2),#[]⟩
noncomputable def o303:Obj:=⟨.type "type",none,(.cls { name:="NoCell",bases:=[.ref 170],mro:=[.ref 303,.ref 170,.type "ValueError",.type "Exception",.type "BaseException",.type "object"],ns:=302,qualname:="NoCell",hasDict:=true,slotNames:=[],subclasses:=[],abstract:=false,collection:=none,hasDel:=false }),#[some (.ref 294),none,some (.str "NoCell" 591),some (.str "NoCell" 599),some (.builtin "ValueError.__new__"),some (.bool true)]⟩
noncomputable def o314 (P:Params):Obj:=⟨.type "dict",none,(.dict #[dS P "__module__" 614 (.str "carvebed.errors" 411),dS P "__firstlineno__" 618 (.int 133 617),dS P "__static_attributes__" 619 (.ref 313),dS P "__doc__" 620 .none] 2),#[]⟩
noncomputable def o315:Obj:=⟨.type "type",none,(.cls { name:="NoCutter",bases:=[.ref 170],mro:=[.ref 315,.ref 170,.type "ValueError",.type "Exception",.type "BaseException",.type "object"],ns:=314,qualname:="NoCutter",hasDict:=true,slotNames:=[],subclasses:=[],abstract:=false,collection:=none,hasDel:=false }),#[some (.ref 306),none,some (.str "NoCutter" 607),some (.str "NoCutter" 615),some (.builtin "ValueError.__new__"),some (.bool true)]⟩
noncomputable def o318 (P:Params):Obj:=⟨.type "dict",none,(.dict #[dS P "x" 631 (.int 0 632),dS P "y" 633 (.int 0 634),dS P "z" 635 (.int 1000 636)] 3),#[]⟩
noncomputable def o331:Obj:=cO "__init__" "Stop.__init__" 653 142 2 326 327 .none (.ref 328) (.ref 329) 330 658
noncomputable def o332:Obj:=⟨.type "function",none,(.func (fF "__init__" "Stop.__init__" (inClass (top 28) 0) .none .none .none (.str "carvebed.runs" 623) none (.ref 331) .none)),#[]⟩
noncomputable def o334 (P:Params):Obj:=⟨.type "dict",none,(.dict #[dS P "__module__" 648 (.str "carvebed.runs" 623),dS P "__firstlineno__" 652 (.int 140 651),dS P "__init__" 660 (.ref 332),dS P "__static_attributes__" 662 (.ref 333),dS P "__weakref__" 664 (.ref 336),dS P "__doc__" 665 .none] 3),#[]⟩
noncomputable def o335:Obj:=⟨.type "type",none,(.cls { name:="Stop",bases:=[.type "Exception"],mro:=[.ref 335,.type "Exception",.type "BaseException",.type "object"],ns:=334,qualname:="Stop",hasDict:=true,slotNames:=[],subclasses:=[],abstract:=false,collection:=none,hasDel:=false }),#[some (.ref 319),none,some (.str "Stop" 641),some (.str "Stop" 649),some (.builtin "Exception.__new__"),some (.bool true)]⟩
noncomputable def o336:Obj:=⟨.type "getset_descriptor",none,(.fields #[.str "__weakref__" 663,.ref 335,.builtin "ExceptionGroup.__weakref__",.none]),#[]⟩
noncomputable def o344:Obj:=cO "is_big" "is_big" 670 144 1 339 340 .none (.ref 341) (.ref 342) 343 674
noncomputable def o345:Obj:=⟨.type "function",none,(.func (fF "is_big" "is_big" (top 29) .none .none .none (.str "carvebed.runs" 623) none (.ref 344) .none)),#[]⟩
noncomputable def o351:Obj:=cO "bounded" "bounded" 677 146 1 346 347 .none (.ref 348) (.ref 349) 350 681
noncomputable def o352:Obj:=⟨.type "function",none,(.func (fF "bounded" "bounded" (top 30) .none .none .none (.str "carvebed.runs" 623) none (.ref 351) .none)),#[]⟩
noncomputable def o358:Obj:=cO "joined" "joined" 684 150 3 353 354 .none (.ref 355) (.ref 356) 357 690
noncomputable def o359:Obj:=⟨.type "function",none,(.func (fF "joined" "joined" (top 31) .none .none .none (.str "carvebed.runs" 623) none (.ref 358) .none)),#[]⟩
noncomputable def o365:Obj:=cO "look_at_depth" "look_at_depth" 693 156 1 360 361 .none (.ref 362) (.ref 363) 364 697
noncomputable def o366:Obj:=⟨.type "function",none,(.func (fF "look_at_depth" "look_at_depth" (top 32) .none .none .none (.str "carvebed.runs" 623) none (.ref 365) .none)),#[]⟩
noncomputable def o379:Obj:=cO "__init__" "Track.__init__" 712 161 1 374 375 .none (.ref 376) (.ref 377) 378 716
noncomputable def o380:Obj:=⟨.type "function",none,(.func (fF "__init__" "Track.__init__" (inClass (top 33) 0) .none .none .none (.str "carvebed.runs" 623) none (.ref 379) .none)),#[]⟩
noncomputable def o386:Obj:=cO "count_one" "Track.count_one" 719 166 1 381 382 .none (.ref 383) (.ref 384) 385 723
noncomputable def o387:Obj:=⟨.type "function",none,(.func (fF "count_one" "Track.count_one" (inClass (top 33) 1) .none .none .none (.str "carvebed.runs" 623) none (.ref 386) .none)),#[]⟩
noncomputable def o393:Obj:=cO "make_hold" "Track.make_hold" 726 171 2 388 389 .none (.ref 390) (.ref 391) 392 731
noncomputable def o394:Obj:=⟨.type "function",none,(.func (fF "make_hold" "Track.make_hold" (inClass (top 33) 2) .none .none .none (.str "carvebed.runs" 623) none (.ref 393) .none)),#[]⟩
noncomputable def o400:Obj:=cO "make_move" "Track.make_move" 734 174 5 395 396 .none (.ref 397) (.ref 398) 399 743
noncomputable def o401:Obj:=⟨.type "function",none,(.func (fF "make_move" "Track.make_move" (inClass (top 33) 3) .none .none .none (.str "carvebed.runs" 623) none (.ref 400) .none)),#[]⟩
noncomputable def o403 (P:Params):Obj:=⟨.type "dict",none,(.dict #[dS P "__module__" 707 (.str "carvebed.runs" 623),dS P "__firstlineno__" 711 (.int 159 710),dS P "__init__" 718 (.ref 380),dS P "count_one" 725 (.ref 387),dS P "make_hold" 733 (.ref 394),dS P "make_move" 745 (.ref 401),dS P "__static_attributes__" 749 (.ref 402),dS P "__dict__" 751 (.ref 405),dS P "__weakref__" 753 (.ref 406),dS P "__doc__" 754 .none] 4),#[]⟩
noncomputable def o404:Obj:=⟨.type "type",none,(.cls { name:="Track",bases:=[.type "object"],mro:=[.ref 404,.type "object"],ns:=403,qualname:="Track",hasDict:=true,slotNames:=[],subclasses:=[],abstract:=false,collection:=none,hasDel:=false }),#[none,none,some (.str "Track" 700),some (.str "Track" 708),some (.builtin "object.__new__"),some (.bool true)]⟩
noncomputable def o405:Obj:=⟨.type "getset_descriptor",none,(.fields #[.str "__dict__" 750,.ref 404,.builtin "function.__dict__",.builtin "function.__dict__#set"]),#[]⟩
noncomputable def o406:Obj:=⟨.type "getset_descriptor",none,(.fields #[.str "__weakref__" 752,.ref 404,.builtin "ExceptionGroup.__weakref__",.none]),#[]⟩
noncomputable def o414:Obj:=cO "reckoned" "reckoned" 759 179 2 409 410 .none (.ref 411) (.ref 412) 413 766
noncomputable def o415:Obj:=⟨.type "function",none,(.func (fF "reckoned" "reckoned" (top 35) .none .none .none (.str "carvebed.plain" 757) none (.ref 414) .none)),#[]⟩
noncomputable def o421:Obj:=cO "named" "named" 769 187 2 416 417 .none (.ref 418) (.ref 419) 420 774
noncomputable def o422:Obj:=⟨.type "function",none,(.func (fF "named" "named" (top 36) .none .none .none (.str "carvebed.plain" 757) none (.ref 421) .none)),#[]⟩
noncomputable def o435:Obj:=cO "__init__" "Walk.__init__" 789 193 4 430 431 .none (.ref 432) (.ref 433) 434 796
noncomputable def o436:Obj:=⟨.type "function",none,(.func (fF "__init__" "Walk.__init__" (inClass (top 37) 0) .none .none .none (.str "carvebed.plain" 757) none (.ref 435) .none)),#[]⟩
noncomputable def o438 (P:Params):Obj:=⟨.type "dict",none,(.dict #[dS P "__module__" 784 (.str "carvebed.plain" 757),dS P "__firstlineno__" 788 (.int 191 787),dS P "__init__" 798 (.ref 436),dS P "__static_attributes__" 806 (.ref 437),dS P "__dict__" 808 (.ref 440),dS P "__weakref__" 810 (.ref 441),dS P "__doc__" 811 .none] 4),#[]⟩
noncomputable def o439:Obj:=⟨.type "type",none,(.cls { name:="Walk",bases:=[.type "object"],mro:=[.ref 439,.type "object"],ns:=438,qualname:="Walk",hasDict:=true,slotNames:=[],subclasses:=[],abstract:=false,collection:=none,hasDel:=false }),#[none,none,some (.str "Walk" 777),some (.str "Walk" 785),some (.builtin "object.__new__"),some (.bool true)]⟩
noncomputable def o440:Obj:=⟨.type "getset_descriptor",none,(.fields #[.str "__dict__" 807,.ref 439,.builtin "function.__dict__",.builtin "function.__dict__#set"]),#[]⟩
noncomputable def o441:Obj:=⟨.type "getset_descriptor",none,(.fields #[.str "__weakref__" 809,.ref 439,.builtin "ExceptionGroup.__weakref__",.none]),#[]⟩
noncomputable def o454:Obj:=cO "__init__" "Run.__init__" 826 203 2 451 452 .none .none .none 453 829
noncomputable def o455:Obj:=⟨.type "function",none,(.func (fF "__init__" "Run.__init__" (inClass (top 38) 0) .none .none .none (.str "carvebed.plain" 757) none (.ref 454) .none)),#[]⟩
noncomputable def o461:Obj:=cO "go" "Run.go" 832 208 1 456 457 .none (.ref 458) (.ref 459) 460 836
noncomputable def o462:Obj:=⟨.type "function",none,(.func (fF "go" "Run.go" (inClass (top 38) 1) .none .none .none (.str "carvebed.plain" 757) none (.ref 461) .none)),#[]⟩
noncomputable def o468:Obj:=cO "step" "Run.step" 839 212 2 463 464 .none (.ref 465) (.ref 466) 467 844
noncomputable def o469:Obj:=⟨.type "function",none,(.func (fF "step" "Run.step" (inClass (top 38) 2) .none .none .none (.str "carvebed.plain" 757) none (.ref 468) .none)),#[]⟩
noncomputable def o475:Obj:=cO "begin_turn" "Run.begin_turn" 847 221 2 470 471 .none (.ref 472) (.ref 473) 474 852
noncomputable def o476:Obj:=⟨.type "function",none,(.func (fF "begin_turn" "Run.begin_turn" (inClass (top 38) 3) .none .none .none (.str "carvebed.plain" 757) none (.ref 475) .none)),#[]⟩
noncomputable def o482:Obj:=cO "do" "Run.do" 855 227 3 477 478 .none (.ref 479) (.ref 480) 481 862
noncomputable def o483:Obj:=⟨.type "function",none,(.func (fF "do" "Run.do" (inClass (top 38) 4) .none .none .none (.str "carvebed.plain" 757) none (.ref 482) .none)),#[]⟩
noncomputable def o487:Obj:=cO "do_call" "Run.do_call" 865 243 3 484 485 .none .none .none 486 868
noncomputable def o488:Obj:=⟨.type "function",none,(.func (fF "do_call" "Run.do_call" (inClass (top 38) 5) .none .none .none (.str "carvebed.plain" 757) none (.ref 487) .none)),#[]⟩
noncomputable def o494:Obj:=cO "do_times" "Run.do_times" 871 249 3 489 490 .none (.ref 491) (.ref 492) 493 878
noncomputable def o495:Obj:=⟨.type "function",none,(.func (fF "do_times" "Run.do_times" (inClass (top 38) 6) .none .none .none (.str "carvebed.plain" 757) none (.ref 494) .none)),#[]⟩
noncomputable def o501:Obj:=cO "do_if" "Run.do_if" 881 256 3 496 497 .none (.ref 498) (.ref 499) 500 890
noncomputable def o502:Obj:=⟨.type "function",none,(.func (fF "do_if" "Run.do_if" (inClass (top 38) 7) .none .none .none (.str "carvebed.plain" 757) none (.ref 501) .none)),#[]⟩
noncomputable def o504 (P:Params):Obj:=⟨.type "dict",none,(.dict #[dS P "__module__" 821 (.str "carvebed.plain" 757),dS P "__firstlineno__" 825 (.int 201 824),dS P "__init__" 831 (.ref 455),dS P "go" 838 (.ref 462),dS P "step" 846 (.ref 469),dS P "begin_turn" 854 (.ref 476),dS P "do" 864 (.ref 483),dS P "do_call" 870 (.ref 488),dS P "do_times" 880 (.ref 495),dS P "do_if" 892 (.ref 502),dS P "__static_attributes__" 896 (.ref 503),dS P "__dict__" 898 (.ref 506),dS P "__weakref__" 900 (.ref 507),dS P "__doc__" 901 .none] 4),#[]⟩
noncomputable def o505:Obj:=⟨.type "type",none,(.cls { name:="Run",bases:=[.type "object"],mro:=[.ref 505,.type "object"],ns:=504,qualname:="Run",hasDict:=true,slotNames:=[],subclasses:=[],abstract:=false,collection:=none,hasDel:=false }),#[none,none,some (.str "Run" 814),some (.str "Run" 822),some (.builtin "object.__new__"),some (.bool true)]⟩
noncomputable def o506:Obj:=⟨.type "getset_descriptor",none,(.fields #[.str "__dict__" 897,.ref 505,.builtin "function.__dict__",.builtin "function.__dict__#set"]),#[]⟩
noncomputable def o507:Obj:=⟨.type "getset_descriptor",none,(.fields #[.str "__weakref__" 899,.ref 505,.builtin "ExceptionGroup.__weakref__",.none]),#[]⟩
noncomputable def o515:Obj:=cO "run_plainly" "run_plainly" 904 261 1 510 511 .none (.ref 512) (.ref 513) 514 910
noncomputable def o516:Obj:=⟨.type "function",none,(.func (fF "run_plainly" "run_plainly" (top 39) .none .none .none (.str "carvebed.plain" 757) none (.ref 515) .none)),#[]⟩
noncomputable def o517:Obj:=⟨.type "tuple",none,(.seq #[.str "hold" 921,.str "fast" 922,.str "slow" 923,.str "by" 924,.str "let" 925,.str "times" 926,.str "if" 927,.str "else" 928,.str "end" 929,.str "sub" 930,.str "call" 931,.str "x" 932,.str "y" 933,.str "z" 934] 0),#[]⟩
noncomputable def o521:Obj:=cO "is_written_in" "is_written_in" 944 277 2 518 519 .none .none .none 520 947
noncomputable def o522:Obj:=⟨.type "function",none,(.func (fF "is_written_in" "is_written_in" (top 49) .none .none .none (.str "carvebed.words" 913) none (.ref 521) .none)),#[]⟩
noncomputable def o528:Obj:=cO "is_name" "is_name" 950 279 1 523 524 .none (.ref 525) (.ref 526) 527 954
noncomputable def o529:Obj:=⟨.type "function",none,(.func (fF "is_name" "is_name" (top 50) .none .none .none (.str "carvebed.words" 913) none (.ref 528) .none)),#[]⟩
noncomputable def o535:Obj:=cO "is_number" "is_number" 957 281 1 530 531 .none (.ref 532) (.ref 533) 534 961
noncomputable def o536:Obj:=⟨.type "function",none,(.func (fF "is_number" "is_number" (top 51) .none .none .none (.str "carvebed.words" 913) none (.ref 535) .none)),#[]⟩
noncomputable def o549:Obj:=cO "__init__" "Scan.__init__" 976 287 2 544 545 .none (.ref 546) (.ref 547) 548 981
noncomputable def o550:Obj:=⟨.type "function",none,(.func (fF "__init__" "Scan.__init__" (inClass (top 52) 0) .none .none .none (.str "carvebed.words" 913) none (.ref 549) .none)),#[]⟩
noncomputable def o556:Obj:=cO "sign_ahead" "Scan.sign_ahead" 984 292 1 551 552 .none (.ref 553) (.ref 554) 555 988
noncomputable def o557:Obj:=⟨.type "function",none,(.func (fF "sign_ahead" "Scan.sign_ahead" (inClass (top 52) 1) .none .none .none (.str "carvebed.words" 913) none (.ref 556) .none)),#[]⟩
noncomputable def o563:Obj:=cO "take_sign" "Scan.take_sign" 991 295 1 558 559 .none (.ref 560) (.ref 561) 562 996
noncomputable def o564:Obj:=⟨.type "function",none,(.func (fF "take_sign" "Scan.take_sign" (inClass (top 52) 2) .none .none .none (.str "carvebed.words" 913) none (.ref 563) .none)),#[]⟩
noncomputable def o570:Obj:=cO "take_terms" "Scan.take_terms" 999 300 1 565 566 .none (.ref 567) (.ref 568) 569 1005
noncomputable def o571:Obj:=⟨.type "function",none,(.func (fF "take_terms" "Scan.take_terms" (inClass (top 52) 3) .none .none .none (.str "carvebed.words" 913) none (.ref 570) .none)),#[]⟩
noncomputable def o577:Obj:=cO "take_factors" "Scan.take_factors" 1008 307 1 572 573 .none (.ref 574) (.ref 575) 576 1014
noncomputable def o578:Obj:=⟨.type "function",none,(.func (fF "take_factors" "Scan.take_factors" (inClass (top 52) 4) .none .none .none (.str "carvebed.words" 913) none (.ref 577) .none)),#[]⟩
noncomputable def o584:Obj:=cO "take_factor" "Scan.take_factor" 1017 314 1 579 580 .none (.ref 581) (.ref 582) 583 1022
noncomputable def o585:Obj:=⟨.type "function",none,(.func (fF "take_factor" "Scan.take_factor" (inClass (top 52) 5) .none .none .none (.str "carvebed.words" 913) none (.ref 584) .none)),#[]⟩
noncomputable def o591:Obj:=cO "take_brackets" "Scan.take_brackets" 1025 324 1 586 587 .none (.ref 588) (.ref 589) 590 1030
noncomputable def o592:Obj:=⟨.type "function",none,(.func (fF "take_brackets" "Scan.take_brackets" (inClass (top 52) 6) .none .none .none (.str "carvebed.words" 913) none (.ref 591) .none)),#[]⟩
noncomputable def o598:Obj:=cO "take_piece" "Scan.take_piece" 1033 335 1 593 594 .none (.ref 595) (.ref 596) 597 1038
noncomputable def o599:Obj:=⟨.type "function",none,(.func (fF "take_piece" "Scan.take_piece" (inClass (top 52) 7) .none .none .none (.str "carvebed.words" 913) none (.ref 598) .none)),#[]⟩
noncomputable def o601 (P:Params):Obj:=⟨.type "dict",none,(.dict #[dS P "__module__" 971 (.str "carvebed.words" 913),dS P "__firstlineno__" 975 (.int 285 974),dS P "__init__" 983 (.ref 550),dS P "sign_ahead" 990 (.ref 557),dS P "take_sign" 998 (.ref 564),dS P "take_terms" 1007 (.ref 571),dS P "take_factors" 1016 (.ref 578),dS P "take_factor" 1024 (.ref 585),dS P "take_brackets" 1032 (.ref 592),dS P "take_piece" 1040 (.ref 599),dS P "__static_attributes__" 1044 (.ref 600),dS P "__dict__" 1046 (.ref 603),dS P "__weakref__" 1048 (.ref 604),dS P "__doc__" 1049 .none] 4),#[]⟩
noncomputable def o602:Obj:=⟨.type "type",none,(.cls { name:="Scan",bases:=[.type "object"],mro:=[.ref 602,.type "object"],ns:=601,qualname:="Scan",hasDict:=true,slotNames:=[],subclasses:=[],abstract:=false,collection:=none,hasDel:=false }),#[none,none,some (.str "Scan" 964),some (.str "Scan" 972),some (.builtin "object.__new__"),some (.bool true)]⟩
noncomputable def o603:Obj:=⟨.type "getset_descriptor",none,(.fields #[.str "__dict__" 1045,.ref 602,.builtin "function.__dict__",.builtin "function.__dict__#set"]),#[]⟩
noncomputable def o604:Obj:=⟨.type "getset_descriptor",none,(.fields #[.str "__weakref__" 1047,.ref 602,.builtin "ExceptionGroup.__weakref__",.none]),#[]⟩
noncomputable def o612:Obj:=cO "expression" "expression" 1052 340 1 607 608 .none (.ref 609) (.ref 610) 611 1058
noncomputable def o613:Obj:=⟨.type "function",none,(.func (fF "expression" "expression" (top 53) .none .none .none (.str "carvebed.words" 913) none (.ref 612) .none)),#[]⟩
noncomputable def o614:Obj:=⟨.type "tuple",none,(.seq #[.str "x" 1063,.str "y" 1064,.str "z" 1065] 0),#[]⟩
noncomputable def o615:Obj:=⟨.type "tuple",none,(.seq #[.str "<" 1067,.str "=" 1068] 0),#[]⟩
noncomputable def o621:Obj:=cO "look_at_length" "look_at_length" 1072 352 3 616 617 .none (.ref 618) (.ref 619) 620 1078
noncomputable def o622:Obj:=⟨.type "function",none,(.func (fF "look_at_length" "look_at_length" (top 58) .none .none .none (.str "carvebed.rows" 1061) none (.ref 621) .none)),#[]⟩
noncomputable def o628:Obj:=cO "name_of" "name_of" 1081 355 1 623 624 .none (.ref 625) (.ref 626) 627 1085
noncomputable def o629:Obj:=⟨.type "function",none,(.func (fF "name_of" "name_of" (top 59) .none .none .none (.str "carvebed.rows" 1061) none (.ref 628) .none)),#[]⟩
noncomputable def o635:Obj:=cO "hold_row" "hold_row" 1088 359 1 630 631 .none (.ref 632) (.ref 633) 634 1092
noncomputable def o636:Obj:=⟨.type "function",none,(.func (fF "hold_row" "hold_row" (top 60) .none .none .none (.str "carvebed.rows" 1061) none (.ref 635) .none)),#[]⟩
noncomputable def o642:Obj:=cO "move_row" "move_row" 1095 362 1 637 638 .none (.ref 639) (.ref 640) 641 1100
noncomputable def o643:Obj:=⟨.type "function",none,(.func (fF "move_row" "move_row" (top 61) .none .none .none (.str "carvebed.rows" 1061) none (.ref 642) .none)),#[]⟩
noncomputable def o649:Obj:=cO "let_row" "let_row" 1103 368 1 644 645 .none (.ref 646) (.ref 647) 648 1107
noncomputable def o650:Obj:=⟨.type "function",none,(.func (fF "let_row" "let_row" (top 62) .none .none .none (.str "carvebed.rows" 1061) none (.ref 649) .none)),#[]⟩
noncomputable def o654:Obj:=cO "call_row" "call_row" 1110 371 1 651 652 .none .none .none 653 1113
noncomputable def o655:Obj:=⟨.type "function",none,(.func (fF "call_row" "call_row" (top 63) .none .none .none (.str "carvebed.rows" 1061) none (.ref 654) .none)),#[]⟩
noncomputable def o661:Obj:=cO "times_row" "times_row" 1116 374 1 656 657 .none (.ref 658) (.ref 659) 660 1120
noncomputable def o662:Obj:=⟨.type "function",none,(.func (fF "times_row" "times_row" (top 64) .none .none .none (.str "carvebed.rows" 1061) none (.ref 661) .none)),#[]⟩
noncomputable def o668:Obj:=cO "if_row" "if_row" 1123 377 1 663 664 .none (.ref 665) (.ref 666) 667 1127
noncomputable def o669:Obj:=⟨.type "function",none,(.func (fF "if_row" "if_row" (top 65) .none .none .none (.str "carvebed.rows" 1061) none (.ref 668) .none)),#[]⟩
noncomputable def o675:Obj:=cO "bare_row" "bare_row" 1130 382 1 670 671 .none (.ref 672) (.ref 673) 674 1134
noncomputable def o676:Obj:=⟨.type "function",none,(.func (fF "bare_row" "bare_row" (top 66) .none .none .none (.str "carvebed.rows" 1061) none (.ref 675) .none)),#[]⟩
noncomputable def o680:Obj:=cO "sub_row" "sub_row" 1137 385 1 677 678 .none .none .none 679 1140
noncomputable def o681:Obj:=⟨.type "function",none,(.func (fF "sub_row" "sub_row" (top 67) .none .none .none (.str "carvebed.rows" 1061) none (.ref 680) .none)),#[]⟩
noncomputable def o682 (P:Params):Obj:=⟨.type "dict",none,(.dict #[dS P "hold" 1143 (.ref 636),dS P "fast" 1144 (.ref 643),dS P "slow" 1145 (.ref 643),dS P "let" 1146 (.ref 650),dS P "call" 1147 (.ref 655),dS P "times" 1148 (.ref 662),dS P "if" 1149 (.ref 669),dS P "else" 1150 (.ref 676),dS P "end" 1151 (.ref 676),dS P "sub" 1152 (.ref 681)] 10),#[]⟩
noncomputable def o688:Obj:=cO "row_of" "row_of" 1164 389 1 683 684 .none (.ref 685) (.ref 686) 687 1169
noncomputable def o689:Obj:=⟨.type "function",none,(.func (fF "row_of" "row_of" (top 69) .none .none .none (.str "carvebed.rows" 1061) none (.ref 688) .none)),#[]⟩
noncomputable def o702:Obj:=cO "__init__" "Draft.__init__" 1190 399 1 697 698 .none (.ref 699) (.ref 700) 701 1194
noncomputable def o703:Obj:=⟨.type "function",none,(.func (fF "__init__" "Draft.__init__" (inClass (top 73) 0) .none .none .none (.str "carvebed.programs" 1172) none (.ref 702) .none)),#[]⟩
noncomputable def o709:Obj:=cO "put" "Draft.put" 1197 406 2 704 705 .none (.ref 706) (.ref 707) 708 1203
noncomputable def o710:Obj:=⟨.type "function",none,(.func (fF "put" "Draft.put" (inClass (top 73) 1) .none .none .none (.str "carvebed.programs" 1172) none (.ref 709) .none)),#[]⟩
noncomputable def o716:Obj:=cO "innermost" "Draft.innermost" 1206 421 1 711 712 .none (.ref 713) (.ref 714) 715 1210
noncomputable def o717:Obj:=⟨.type "function",none,(.func (fF "innermost" "Draft.innermost" (inClass (top 73) 2) .none .none .none (.str "carvebed.programs" 1172) none (.ref 716) .none)),#[]⟩
noncomputable def o723:Obj:=cO "put_plain" "Draft.put_plain" 1213 426 2 718 719 .none (.ref 720) (.ref 721) 722 1218
noncomputable def o724:Obj:=⟨.type "function",none,(.func (fF "put_plain" "Draft.put_plain" (inClass (top 73) 3) .none .none .none (.str "carvebed.programs" 1172) none (.ref 723) .none)),#[]⟩
noncomputable def o730:Obj:=cO "look_at_depth" "Draft.look_at_depth" 1221 431 1 725 726 .none (.ref 727) (.ref 728) 729 1225
noncomputable def o731:Obj:=⟨.type "function",none,(.func (fF "look_at_depth" "Draft.look_at_depth" (inClass (top 73) 4) .none .none .none (.str "carvebed.programs" 1172) none (.ref 730) .none)),#[]⟩
noncomputable def o737:Obj:=cO "begin_sub" "Draft.begin_sub" 1228 435 3 732 733 .none (.ref 734) (.ref 735) 736 1235
noncomputable def o738:Obj:=⟨.type "function",none,(.func (fF "begin_sub" "Draft.begin_sub" (inClass (top 73) 5) .none .none .none (.str "carvebed.programs" 1172) none (.ref 737) .none)),#[]⟩
noncomputable def o744:Obj:=cO "begin_times" "Draft.begin_times" 1238 445 2 739 740 .none (.ref 741) (.ref 742) 743 1244
noncomputable def o745:Obj:=⟨.type "function",none,(.func (fF "begin_times" "Draft.begin_times" (inClass (top 73) 6) .none .none .none (.str "carvebed.programs" 1172) none (.ref 744) .none)),#[]⟩
noncomputable def o751:Obj:=cO "begin_if" "Draft.begin_if" 1247 451 2 746 747 .none (.ref 748) (.ref 749) 750 1254
noncomputable def o752:Obj:=⟨.type "function",none,(.func (fF "begin_if" "Draft.begin_if" (inClass (top 73) 7) .none .none .none (.str "carvebed.programs" 1172) none (.ref 751) .none)),#[]⟩
noncomputable def o758:Obj:=cO "turn_to_else" "Draft.turn_to_else" 1257 458 1 753 754 .none (.ref 755) (.ref 756) 757 1262
noncomputable def o759:Obj:=⟨.type "function",none,(.func (fF "turn_to_else" "Draft.turn_to_else" (inClass (top 73) 8) .none .none .none (.str "carvebed.programs" 1172) none (.ref 758) .none)),#[]⟩
noncomputable def o765:Obj:=cO "end_body" "Draft.end_body" 1265 464 1 760 761 .none (.ref 762) (.ref 763) 764 1269
noncomputable def o766:Obj:=⟨.type "function",none,(.func (fF "end_body" "Draft.end_body" (inClass (top 73) 9) .none .none .none (.str "carvebed.programs" 1172) none (.ref 765) .none)),#[]⟩
noncomputable def o772:Obj:=cO "look_at_end" "Draft.look_at_end" 1272 469 1 767 768 .none (.ref 769) (.ref 770) 771 1276
noncomputable def o773:Obj:=⟨.type "function",none,(.func (fF "look_at_end" "Draft.look_at_end" (inClass (top 73) 10) .none .none .none (.str "carvebed.programs" 1172) none (.ref 772) .none)),#[]⟩
noncomputable def o779:Obj:=cO "look_at_calls" "Draft.look_at_calls" 1279 473 1 774 775 .none (.ref 776) (.ref 777) 778 1285
noncomputable def o780:Obj:=⟨.type "function",none,(.func (fF "look_at_calls" "Draft.look_at_calls" (inClass (top 73) 11) .none .none .none (.str "carvebed.programs" 1172) none (.ref 779) .none)),#[]⟩
noncomputable def o782 (P:Params):Obj:=⟨.type "dict",none,(.dict #[dS P "__module__" 1185 (.str "carvebed.programs" 1172),dS P "__firstlineno__" 1189 (.int 397 1188),dS P "__init__" 1196 (.ref 703),dS P "put" 1205 (.ref 710),dS P "innermost" 1212 (.ref 717),dS P "put_plain" 1220 (.ref 724),dS P "look_at_depth" 1227 (.ref 731),dS P "begin_sub" 1237 (.ref 738),dS P "begin_times" 1246 (.ref 745),dS P "begin_if" 1256 (.ref 752),dS P "turn_to_else" 1264 (.ref 759),dS P "end_body" 1271 (.ref 766),dS P "look_at_end" 1278 (.ref 773),dS P "look_at_calls" 1287 (.ref 780),dS P "__static_attributes__" 1293 (.ref 781),dS P "__dict__" 1295 (.ref 784),dS P "__weakref__" 1297 (.ref 785),dS P "__doc__" 1298 .none] 4),#[]⟩
noncomputable def o783:Obj:=⟨.type "type",none,(.cls { name:="Draft",bases:=[.type "object"],mro:=[.ref 783,.type "object"],ns:=782,qualname:="Draft",hasDict:=true,slotNames:=[],subclasses:=[],abstract:=false,collection:=none,hasDel:=false }),#[none,none,some (.str "Draft" 1178),some (.str "Draft" 1186),some (.builtin "object.__new__"),some (.bool true)]⟩
noncomputable def o784:Obj:=⟨.type "getset_descriptor",none,(.fields #[.str "__dict__" 1294,.ref 783,.builtin "function.__dict__",.builtin "function.__dict__#set"]),#[]⟩
noncomputable def o785:Obj:=⟨.type "getset_descriptor",none,(.fields #[.str "__weakref__" 1296,.ref 783,.builtin "ExceptionGroup.__weakref__",.none]),#[]⟩
noncomputable def o793:Obj:=cO "read" "read" 1301 478 1 788 789 .none (.ref 790) (.ref 791) 792 1308
noncomputable def o794:Obj:=⟨.type "function",none,(.func (fF "read" "read" (top 74) .none .none .none (.str "carvebed.programs" 1172) none (.ref 793) .none)),#[]⟩
noncomputable def o798:Obj:=cO "within" "within" 1313 489 2 795 796 .none .none .none 797 1316
noncomputable def o799:Obj:=⟨.type "function",none,(.func (fF "within" "within" (top 76) .none .none .none (.str "carvebed.reach" 1311) none (.ref 798) .none)),#[]⟩
noncomputable def o803:Obj:=cO "cells_under" "cells_under" 1319 491 4 800 801 .none .none .none 802 1322
noncomputable def o804:Obj:=⟨.type "function",none,(.func (fF "cells_under" "cells_under" (top 77) .none .none .none (.str "carvebed.reach" 1311) none (.ref 803) .none)),#[]⟩
noncomputable def o808:Obj:=cO "places_over" "places_over" 1325 493 4 805 806 .none .none .none 807 1328
noncomputable def o809:Obj:=⟨.type "function",none,(.func (fF "places_over" "places_over" (top 78) .none .none .none (.str "carvebed.reach" 1311) none (.ref 808) .none)),#[]⟩
noncomputable def o813:Obj:=cO "greatest" "greatest" 1331 495 2 810 811 .none .none .none 812 1334
noncomputable def o814:Obj:=⟨.type "function",none,(.func (fF "greatest" "greatest" (top 79) .none .none .none (.str "carvebed.reach" 1311) none (.ref 813) .none)),#[]⟩
noncomputable def o820:Obj:=cO "lowest_at" "lowest_at" 1337 497 4 815 816 .none (.ref 817) (.ref 818) 819 1344
noncomputable def o821:Obj:=⟨.type "function",none,(.func (fF "lowest_at" "lowest_at" (top 80) .none .none .none (.str "carvebed.reach" 1311) none (.ref 820) .none)),#[]⟩
noncomputable def o827:Obj:=cO "lowest_over" "lowest_over" 1347 499 5 822 823 .none (.ref 824) (.ref 825) 826 1358
noncomputable def o828:Obj:=⟨.type "function",none,(.func (fF "lowest_over" "lowest_over" (top 81) .none .none .none (.str "carvebed.reach" 1311) none (.ref 827) .none)),#[]⟩
noncomputable def o829 (P:Params):Obj:=⟨.type "dict",none,(.dict #[dS P "bed" 1363 (.int 3 1364),dS P "cutter" 1365 (.int 2 1366),dS P "drop" 1367 (.int 0 1368),dS P "carve" 1369 (.int 0 1370),dS P "cell" 1371 (.int 2 1372),dS P "show" 1373 (.int 0 1374),dS P "low" 1375 (.int 2 1376)] 7),#[]⟩
noncomputable def o830:Obj:=⟨.type "tuple",none,(.seq #[.int 1 1387,.int 40 1388] 0),#[]⟩
noncomputable def o831:Obj:=⟨.type "tuple",none,(.seq #[.int 0 1390,.int 1000 1391] 0),#[]⟩
noncomputable def o832:Obj:=⟨.type "tuple",none,(.seq #[.int 1 1393,.int 1000 1394] 0),#[]⟩
noncomputable def o833:Obj:=⟨.type "tuple",none,(.seq #[.int 0 1396,.int 2 1397] 0),#[]⟩
noncomputable def o837:Obj:=cO "told_in" "told_in" 1401 513 1 834 835 .none .none .none 836 1404
noncomputable def o838:Obj:=⟨.type "function",none,(.func (fF "told_in" "told_in" (top 90) .none .none .none (.str "carvebed.desk" 1361) none (.ref 837) .none)),#[]⟩
noncomputable def o844:Obj:=cO "look_at_measure" "look_at_measure" 1407 522 2 839 840 .none (.ref 841) (.ref 842) 843 1412
noncomputable def o845:Obj:=⟨.type "function",none,(.func (fF "look_at_measure" "look_at_measure" (top 91) .none .none .none (.str "carvebed.desk" 1361) none (.ref 844) .none)),#[]⟩
noncomputable def o851:Obj:=cO "look_at_cell" "look_at_cell" 1415 525 3 846 847 .none (.ref 848) (.ref 849) 850 1421
noncomputable def o852:Obj:=⟨.type "function",none,(.func (fF "look_at_cell" "look_at_cell" (top 92) .none .none .none (.str "carvebed.desk" 1361) none (.ref 851) .none)),#[]⟩
noncomputable def o858:Obj:=cO "look_at_shelf" "look_at_shelf" 1424 528 1 853 854 .none (.ref 855) (.ref 856) 857 1428
noncomputable def o859:Obj:=⟨.type "function",none,(.func (fF "look_at_shelf" "look_at_shelf" (top 93) .none .none .none (.str "carvebed.desk" 1361) none (.ref 858) .none)),#[]⟩
noncomputable def o863:Obj:=cO "lay_bed" "lay_bed" 1431 531 2 860 861 .none .none .none 862 1434
noncomputable def o864:Obj:=⟨.type "function",none,(.func (fF "lay_bed" "lay_bed" (top 94) .none .none .none (.str "carvebed.desk" 1361) none (.ref 863) .none)),#[]⟩
noncomputable def o868:Obj:=cO "square_foot" "square_foot" 1437 539 1 865 866 .none .none .none 867 1440
noncomputable def o869:Obj:=⟨.type "function",none,(.func (fF "square_foot" "square_foot" (top 95) .none .none .none (.str "carvebed.desk" 1361) none (.ref 868) .none)),#[]⟩
noncomputable def o875:Obj:=cO "put_cutter" "put_cutter" 1443 544 2 870 871 .none (.ref 872) (.ref 873) 874 1448
noncomputable def o876:Obj:=⟨.type "function",none,(.func (fF "put_cutter" "put_cutter" (top 96) .none .none .none (.str "carvebed.desk" 1361) none (.ref 875) .none)),#[]⟩
noncomputable def o882:Obj:=cO "put_row" "put_row" 1451 551 2 877 878 .none (.ref 879) (.ref 880) 881 1456
noncomputable def o883:Obj:=⟨.type "function",none,(.func (fF "put_row" "put_row" (top 97) .none .none .none (.str "carvebed.desk" 1361) none (.ref 882) .none)),#[]⟩
noncomputable def o889:Obj:=cO "drop_rows" "drop_rows" 1459 554 2 884 885 .none (.ref 886) (.ref 887) 888 1464
noncomputable def o890:Obj:=⟨.type "function",none,(.func (fF "drop_rows" "drop_rows" (top 98) .none .none .none (.str "carvebed.desk" 1361) none (.ref 889) .none)),#[]⟩
noncomputable def o896:Obj:=cO "end_told" "end_told" 1467 557 2 891 892 .none (.ref 893) (.ref 894) 895 1472
noncomputable def o897:Obj:=⟨.type "function",none,(.func (fF "end_told" "end_told" (top 99) .none .none .none (.str "carvebed.desk" 1361) none (.ref 896) .none)),#[]⟩
noncomputable def o903:Obj:=cO "carve" "carve" 1475 563 2 898 899 .none (.ref 900) (.ref 901) 902 1482
noncomputable def o904:Obj:=⟨.type "function",none,(.func (fF "carve" "carve" (top 100) .none .none .none (.str "carvebed.desk" 1361) none (.ref 903) .none)),#[]⟩
noncomputable def o910:Obj:=cO "tell_cell" "tell_cell" 1485 569 2 905 906 .none (.ref 907) (.ref 908) 909 1490
noncomputable def o911:Obj:=⟨.type "function",none,(.func (fF "tell_cell" "tell_cell" (top 101) .none .none .none (.str "carvebed.desk" 1361) none (.ref 910) .none)),#[]⟩
noncomputable def o915:Obj:=cO "show" "show" 1493 572 2 912 913 .none .none .none 914 1496
noncomputable def o916:Obj:=⟨.type "function",none,(.func (fF "show" "show" (top 102) .none .none .none (.str "carvebed.desk" 1361) none (.ref 915) .none)),#[]⟩
noncomputable def o920:Obj:=cO "tell_low" "tell_low" 1499 574 2 917 918 .none .none .none 919 1502
noncomputable def o921:Obj:=⟨.type "function",none,(.func (fF "tell_low" "tell_low" (top 103) .none .none .none (.str "carvebed.desk" 1361) none (.ref 920) .none)),#[]⟩
noncomputable def o922 (P:Params):Obj:=⟨.type "dict",none,(.dict #[dS P "bed" 1505 (.ref 864),dS P "cutter" 1506 (.ref 876),dS P "row" 1507 (.ref 883),dS P "drop" 1508 (.ref 890),dS P "carve" 1509 (.ref 904),dS P "cell" 1510 (.ref 911),dS P "show" 1511 (.ref 916),dS P "low" 1512 (.ref 921)] 8),#[]⟩
noncomputable def o935:Obj:=cO "__init__" "Desk.__init__" 1534 585 1 930 931 .none (.ref 932) (.ref 933) 934 1538
noncomputable def o936:Obj:=⟨.type "function",none,(.func (fF "__init__" "Desk.__init__" (inClass (top 105) 0) .none .none .none (.str "carvebed.desk" 1361) none (.ref 935) .none)),#[]⟩
noncomputable def o942:Obj:=cO "say" "Desk.say" 1541 590 2 937 938 .none (.ref 939) (.ref 940) 941 1547
noncomputable def o943:Obj:=⟨.type "function",none,(.func (fF "say" "Desk.say" (inClass (top 105) 1) .none .none .none (.str "carvebed.desk" 1361) none (.ref 942) .none)),#[]⟩
noncomputable def o945 (P:Params):Obj:=⟨.type "dict",none,(.dict #[dS P "__module__" 1529 (.str "carvebed.desk" 1361),dS P "__firstlineno__" 1533 (.int 583 1532),dS P "__init__" 1540 (.ref 936),dS P "say" 1549 (.ref 943),dS P "__static_attributes__" 1553 (.ref 944),dS P "__dict__" 1555 (.ref 947),dS P "__weakref__" 1557 (.ref 948),dS P "__doc__" 1558 .none] 4),#[]⟩
noncomputable def o946:Obj:=⟨.type "type",none,(.cls { name:="Desk",bases:=[.type "object"],mro:=[.ref 946,.type "object"],ns:=945,qualname:="Desk",hasDict:=true,slotNames:=[],subclasses:=[],abstract:=false,collection:=none,hasDel:=false }),#[none,none,some (.str "Desk" 1522),some (.str "Desk" 1530),some (.builtin "object.__new__"),some (.bool true)]⟩
noncomputable def o947:Obj:=⟨.type "getset_descriptor",none,(.fields #[.str "__dict__" 1554,.ref 946,.builtin "function.__dict__",.builtin "function.__dict__#set"]),#[]⟩
noncomputable def o948:Obj:=⟨.type "getset_descriptor",none,(.fields #[.str "__weakref__" 1556,.ref 946,.builtin "ExceptionGroup.__weakref__",.none]),#[]⟩
noncomputable def o956:Obj:=cO "_law_writing" "_law_writing" 1563 596 1 951 952 .none (.ref 953) (.ref 954) 955 1571
noncomputable def o957:Obj:=⟨.type "function",none,(.func (fF "_law_writing" "_law_writing" (top 107) .none .none .none (.str "law_carvebed_k57_numbers_at_a_desk" 1561) none (.ref 956) .none)),#[]⟩
noncomputable def o963:Obj:=cO "_law_number" "_law_number" 1574 612 1 958 959 .none (.ref 960) (.ref 961) 962 1580
noncomputable def o964:Obj:=⟨.type "function",none,(.func (fF "_law_number" "_law_number" (top 108) .none .none .none (.str "law_carvebed_k57_numbers_at_a_desk" 1561) none (.ref 963) .none)),#[]⟩
noncomputable def o970:Obj:=cO "_law_said" "_law_said" 1583 621 2 965 966 .none (.ref 967) (.ref 968) 969 1589
noncomputable def o971:Obj:=⟨.type "function",none,(.func (fF "_law_said" "_law_said" (top 109) .none .none .none (.str "law_carvebed_k57_numbers_at_a_desk" 1561) none (.ref 970) .none)),#[]⟩
noncomputable def o977:Obj:=cO "_law_at" "_law_at" 1592 632 2 972 973 .none (.ref 974) (.ref 975) 976 1598
noncomputable def o978:Obj:=⟨.type "function",none,(.func (fF "_law_at" "_law_at" (top 110) .none .none .none (.str "law_carvebed_k57_numbers_at_a_desk" 1561) none (.ref 977) .none)),#[]⟩
noncomputable def o984:Obj:=cO "law" "law" 1601 648 1 979 980 .none (.ref 981) (.ref 982) 983 1614
noncomputable def o985:Obj:=⟨.type "function",none,(.func (fF "law" "law" (top 111) .none .none .none (.str "law_carvebed_k57_numbers_at_a_desk" 1561) none (.ref 984) .none)),#[]⟩
noncomputable def KK (P:Params):PySem.W.Frag:=(nat_lit 2,o2 P) :: (nat_lit 3,o3 P) :: (nat_lit 15,o15 P) :: (nat_lit 28,o28) :: (nat_lit 29,o29) :: (nat_lit 31,o31 P) :: (nat_lit 32,o32) :: (nat_lit 33,o33) :: (nat_lit 48,o48) :: (nat_lit 49,o49) :: (nat_lit 55,o55) :: (nat_lit 56,o56) :: (nat_lit 62,o62) :: (nat_lit 63,o63) :: (nat_lit 69,o69) :: (nat_lit 70,o70) :: (nat_lit 76,o76) :: (nat_lit 77,o77) :: (nat_lit 81,o81) :: (nat_lit 82,o82) :: (nat_lit 88,o88) :: (nat_lit 89,o89) :: (nat_lit 95,o95) :: (nat_lit 96,o96) :: (nat_lit 98,o98 P) :: (nat_lit 99,o99) :: (nat_lit 100,o100) :: (nat_lit 101,o101) :: (nat_lit 109,o109) :: (nat_lit 110,o110) :: (nat_lit 121,o121) :: (nat_lit 122,o122) :: (nat_lit 128,o128) :: (nat_lit 129,o129) :: (nat_lit 133,o133) :: (nat_lit 134,o134) :: (nat_lit 138,o138) :: (nat_lit 139,o139) :: (nat_lit 145,o145) :: (nat_lit 146,o146) :: (nat_lit 148,o148 P) :: (nat_lit 149,o149) :: (nat_lit 150,o150) :: (nat_lit 151,o151) :: (nat_lit 159,o159) :: (nat_lit 160,o160) :: (nat_lit 169,o169 P) :: (nat_lit 170,o170) :: (nat_lit 171,o171) :: (nat_lit 182,o182 P) :: (nat_lit 183,o183) :: (nat_lit 194,o194 P) :: (nat_lit 195,o195) :: (nat_lit 206,o206 P) :: (nat_lit 207,o207) :: (nat_lit 218,o218 P) :: (nat_lit 219,o219) :: (nat_lit 230,o230 P) :: (nat_lit 231,o231) :: (nat_lit 242,o242 P) :: (nat_lit 243,o243) :: (nat_lit 254,o254 P) :: (nat_lit 255,o255) :: (nat_lit 266,o266 P) :: (nat_lit 267,o267) :: (nat_lit 278,o278 P) :: (nat_lit 279,o279) :: (nat_lit 290,o290 P) :: (nat_lit 291,o291) :: (nat_lit 302,o302 P) :: (nat_lit 303,o303) :: (nat_lit 314,o314 P) :: (nat_lit 315,o315) :: (nat_lit 318,o318 P) :: (nat_lit 331,o331) :: (nat_lit 332,o332) :: (nat_lit 334,o334 P) :: (nat_lit 335,o335) :: (nat_lit 336,o336) :: (nat_lit 344,o344) :: (nat_lit 345,o345) :: (nat_lit 351,o351) :: (nat_lit 352,o352) :: (nat_lit 358,o358) :: (nat_lit 359,o359) :: (nat_lit 365,o365) :: (nat_lit 366,o366) :: (nat_lit 379,o379) :: (nat_lit 380,o380) :: (nat_lit 386,o386) :: (nat_lit 387,o387) :: (nat_lit 393,o393) :: (nat_lit 394,o394) :: (nat_lit 400,o400) :: (nat_lit 401,o401) :: (nat_lit 403,o403 P) :: (nat_lit 404,o404) :: (nat_lit 405,o405) :: (nat_lit 406,o406) :: (nat_lit 414,o414) :: (nat_lit 415,o415) :: (nat_lit 421,o421) :: (nat_lit 422,o422) :: (nat_lit 435,o435) :: (nat_lit 436,o436) :: (nat_lit 438,o438 P) :: (nat_lit 439,o439) :: (nat_lit 440,o440) :: (nat_lit 441,o441) :: (nat_lit 454,o454) :: (nat_lit 455,o455) :: (nat_lit 461,o461) :: (nat_lit 462,o462) :: (nat_lit 468,o468) :: (nat_lit 469,o469) :: (nat_lit 475,o475) :: (nat_lit 476,o476) :: (nat_lit 482,o482) :: (nat_lit 483,o483) :: (nat_lit 487,o487) :: (nat_lit 488,o488) :: (nat_lit 494,o494) :: (nat_lit 495,o495) :: (nat_lit 501,o501) :: (nat_lit 502,o502) :: (nat_lit 504,o504 P) :: (nat_lit 505,o505) :: (nat_lit 506,o506) :: (nat_lit 507,o507) :: (nat_lit 515,o515) :: (nat_lit 516,o516) :: (nat_lit 517,o517) :: (nat_lit 521,o521) :: (nat_lit 522,o522) :: (nat_lit 528,o528) :: (nat_lit 529,o529) :: (nat_lit 535,o535) :: (nat_lit 536,o536) :: (nat_lit 549,o549) :: (nat_lit 550,o550) :: (nat_lit 556,o556) :: (nat_lit 557,o557) :: (nat_lit 563,o563) :: (nat_lit 564,o564) :: (nat_lit 570,o570) :: (nat_lit 571,o571) :: (nat_lit 577,o577) :: (nat_lit 578,o578) :: (nat_lit 584,o584) :: (nat_lit 585,o585) :: (nat_lit 591,o591) :: (nat_lit 592,o592) :: (nat_lit 598,o598) :: (nat_lit 599,o599) :: (nat_lit 601,o601 P) :: (nat_lit 602,o602) :: (nat_lit 603,o603) :: (nat_lit 604,o604) :: (nat_lit 612,o612) :: (nat_lit 613,o613) :: (nat_lit 614,o614) :: (nat_lit 615,o615) :: (nat_lit 621,o621) :: (nat_lit 622,o622) :: (nat_lit 628,o628) :: (nat_lit 629,o629) :: (nat_lit 635,o635) :: (nat_lit 636,o636) :: (nat_lit 642,o642) :: (nat_lit 643,o643) :: (nat_lit 649,o649) :: (nat_lit 650,o650) :: (nat_lit 654,o654) :: (nat_lit 655,o655) :: (nat_lit 661,o661) :: (nat_lit 662,o662) :: (nat_lit 668,o668) :: (nat_lit 669,o669) :: (nat_lit 675,o675) :: (nat_lit 676,o676) :: (nat_lit 680,o680) :: (nat_lit 681,o681) :: (nat_lit 682,o682 P) :: (nat_lit 688,o688) :: (nat_lit 689,o689) :: (nat_lit 702,o702) :: (nat_lit 703,o703) :: (nat_lit 709,o709) :: (nat_lit 710,o710) :: (nat_lit 716,o716) :: (nat_lit 717,o717) :: (nat_lit 723,o723) :: (nat_lit 724,o724) :: (nat_lit 730,o730) :: (nat_lit 731,o731) :: (nat_lit 737,o737) :: (nat_lit 738,o738) :: (nat_lit 744,o744) :: (nat_lit 745,o745) :: (nat_lit 751,o751) :: (nat_lit 752,o752) :: (nat_lit 758,o758) :: (nat_lit 759,o759) :: (nat_lit 765,o765) :: (nat_lit 766,o766) :: (nat_lit 772,o772) :: (nat_lit 773,o773) :: (nat_lit 779,o779) :: (nat_lit 780,o780) :: (nat_lit 782,o782 P) :: (nat_lit 783,o783) :: (nat_lit 784,o784) :: (nat_lit 785,o785) :: (nat_lit 793,o793) :: (nat_lit 794,o794) :: (nat_lit 798,o798) :: (nat_lit 799,o799) :: (nat_lit 803,o803) :: (nat_lit 804,o804) :: (nat_lit 808,o808) :: (nat_lit 809,o809) :: (nat_lit 813,o813) :: (nat_lit 814,o814) :: (nat_lit 820,o820) :: (nat_lit 821,o821) :: (nat_lit 827,o827) :: (nat_lit 828,o828) :: (nat_lit 829,o829 P) :: (nat_lit 830,o830) :: (nat_lit 831,o831) :: (nat_lit 832,o832) :: (nat_lit 833,o833) :: (nat_lit 837,o837) :: (nat_lit 838,o838) :: (nat_lit 844,o844) :: (nat_lit 845,o845) :: (nat_lit 851,o851) :: (nat_lit 852,o852) :: (nat_lit 858,o858) :: (nat_lit 859,o859) :: (nat_lit 863,o863) :: (nat_lit 864,o864) :: (nat_lit 868,o868) :: (nat_lit 869,o869) :: (nat_lit 875,o875) :: (nat_lit 876,o876) :: (nat_lit 882,o882) :: (nat_lit 883,o883) :: (nat_lit 889,o889) :: (nat_lit 890,o890) :: (nat_lit 896,o896) :: (nat_lit 897,o897) :: (nat_lit 903,o903) :: (nat_lit 904,o904) :: (nat_lit 910,o910) :: (nat_lit 911,o911) :: (nat_lit 915,o915) :: (nat_lit 916,o916) :: (nat_lit 920,o920) :: (nat_lit 921,o921) :: (nat_lit 922,o922 P) :: (nat_lit 935,o935) :: (nat_lit 936,o936) :: (nat_lit 942,o942) :: (nat_lit 943,o943) :: (nat_lit 945,o945 P) :: (nat_lit 946,o946) :: (nat_lit 947,o947) :: (nat_lit 948,o948) :: (nat_lit 956,o956) :: (nat_lit 957,o957) :: (nat_lit 963,o963) :: (nat_lit 964,o964) :: (nat_lit 970,o970) :: (nat_lit 971,o971) :: (nat_lit 977,o977) :: (nat_lit 978,o978) :: (nat_lit 984,o984) :: (nat_lit 985,o985) :: []
def KKas:List Addr:=nat_lit 2 :: nat_lit 3 :: nat_lit 15 :: nat_lit 28 :: nat_lit 29 :: nat_lit 31 :: nat_lit 32 :: nat_lit 33 :: nat_lit 48 :: nat_lit 49 :: nat_lit 55 :: nat_lit 56 :: nat_lit 62 :: nat_lit 63 :: nat_lit 69 :: nat_lit 70 :: nat_lit 76 :: nat_lit 77 :: nat_lit 81 :: nat_lit 82 :: nat_lit 88 :: nat_lit 89 :: nat_lit 95 :: nat_lit 96 :: nat_lit 98 :: nat_lit 99 :: nat_lit 100 :: nat_lit 101 :: nat_lit 109 :: nat_lit 110 :: nat_lit 121 :: nat_lit 122 :: nat_lit 128 :: nat_lit 129 :: nat_lit 133 :: nat_lit 134 :: nat_lit 138 :: nat_lit 139 :: nat_lit 145 :: nat_lit 146 :: nat_lit 148 :: nat_lit 149 :: nat_lit 150 :: nat_lit 151 :: nat_lit 159 :: nat_lit 160 :: nat_lit 169 :: nat_lit 170 :: nat_lit 171 :: nat_lit 182 :: nat_lit 183 :: nat_lit 194 :: nat_lit 195 :: nat_lit 206 :: nat_lit 207 :: nat_lit 218 :: nat_lit 219 :: nat_lit 230 :: nat_lit 231 :: nat_lit 242 :: nat_lit 243 :: nat_lit 254 :: nat_lit 255 :: nat_lit 266 :: nat_lit 267 :: nat_lit 278 :: nat_lit 279 :: nat_lit 290 :: nat_lit 291 :: nat_lit 302 :: nat_lit 303 :: nat_lit 314 :: nat_lit 315 :: nat_lit 318 :: nat_lit 331 :: nat_lit 332 :: nat_lit 334 :: nat_lit 335 :: nat_lit 336 :: nat_lit 344 :: nat_lit 345 :: nat_lit 351 :: nat_lit 352 :: nat_lit 358 :: nat_lit 359 :: nat_lit 365 :: nat_lit 366 :: nat_lit 379 :: nat_lit 380 :: nat_lit 386 :: nat_lit 387 :: nat_lit 393 :: nat_lit 394 :: nat_lit 400 :: nat_lit 401 :: nat_lit 403 :: nat_lit 404 :: nat_lit 405 :: nat_lit 406 :: nat_lit 414 :: nat_lit 415 :: nat_lit 421 :: nat_lit 422 :: nat_lit 435 :: nat_lit 436 :: nat_lit 438 :: nat_lit 439 :: nat_lit 440 :: nat_lit 441 :: nat_lit 454 :: nat_lit 455 :: nat_lit 461 :: nat_lit 462 :: nat_lit 468 :: nat_lit 469 :: nat_lit 475 :: nat_lit 476 :: nat_lit 482 :: nat_lit 483 :: nat_lit 487 :: nat_lit 488 :: nat_lit 494 :: nat_lit 495 :: nat_lit 501 :: nat_lit 502 :: nat_lit 504 :: nat_lit 505 :: nat_lit 506 :: nat_lit 507 :: nat_lit 515 :: nat_lit 516 :: nat_lit 517 :: nat_lit 521 :: nat_lit 522 :: nat_lit 528 :: nat_lit 529 :: nat_lit 535 :: nat_lit 536 :: nat_lit 549 :: nat_lit 550 :: nat_lit 556 :: nat_lit 557 :: nat_lit 563 :: nat_lit 564 :: nat_lit 570 :: nat_lit 571 :: nat_lit 577 :: nat_lit 578 :: nat_lit 584 :: nat_lit 585 :: nat_lit 591 :: nat_lit 592 :: nat_lit 598 :: nat_lit 599 :: nat_lit 601 :: nat_lit 602 :: nat_lit 603 :: nat_lit 604 :: nat_lit 612 :: nat_lit 613 :: nat_lit 614 :: nat_lit 615 :: nat_lit 621 :: nat_lit 622 :: nat_lit 628 :: nat_lit 629 :: nat_lit 635 :: nat_lit 636 :: nat_lit 642 :: nat_lit 643 :: nat_lit 649 :: nat_lit 650 :: nat_lit 654 :: nat_lit 655 :: nat_lit 661 :: nat_lit 662 :: nat_lit 668 :: nat_lit 669 :: nat_lit 675 :: nat_lit 676 :: nat_lit 680 :: nat_lit 681 :: nat_lit 682 :: nat_lit 688 :: nat_lit 689 :: nat_lit 702 :: nat_lit 703 :: nat_lit 709 :: nat_lit 710 :: nat_lit 716 :: nat_lit 717 :: nat_lit 723 :: nat_lit 724 :: nat_lit 730 :: nat_lit 731 :: nat_lit 737 :: nat_lit 738 :: nat_lit 744 :: nat_lit 745 :: nat_lit 751 :: nat_lit 752 :: nat_lit 758 :: nat_lit 759 :: nat_lit 765 :: nat_lit 766 :: nat_lit 772 :: nat_lit 773 :: nat_lit 779 :: nat_lit 780 :: nat_lit 782 :: nat_lit 783 :: nat_lit 784 :: nat_lit 785 :: nat_lit 793 :: nat_lit 794 :: nat_lit 798 :: nat_lit 799 :: nat_lit 803 :: nat_lit 804 :: nat_lit 808 :: nat_lit 809 :: nat_lit 813 :: nat_lit 814 :: nat_lit 820 :: nat_lit 821 :: nat_lit 827 :: nat_lit 828 :: nat_lit 829 :: nat_lit 830 :: nat_lit 831 :: nat_lit 832 :: nat_lit 833 :: nat_lit 837 :: nat_lit 838 :: nat_lit 844 :: nat_lit 845 :: nat_lit 851 :: nat_lit 852 :: nat_lit 858 :: nat_lit 859 :: nat_lit 863 :: nat_lit 864 :: nat_lit 868 :: nat_lit 869 :: nat_lit 875 :: nat_lit 876 :: nat_lit 882 :: nat_lit 883 :: nat_lit 889 :: nat_lit 890 :: nat_lit 896 :: nat_lit 897 :: nat_lit 903 :: nat_lit 904 :: nat_lit 910 :: nat_lit 911 :: nat_lit 915 :: nat_lit 916 :: nat_lit 920 :: nat_lit 921 :: nat_lit 922 :: nat_lit 935 :: nat_lit 936 :: nat_lit 942 :: nat_lit 943 :: nat_lit 945 :: nat_lit 946 :: nat_lit 947 :: nat_lit 948 :: nat_lit 956 :: nat_lit 957 :: nat_lit 963 :: nat_lit 964 :: nat_lit 970 :: nat_lit 971 :: nat_lit 977 :: nat_lit 978 :: nat_lit 984 :: nat_lit 985 :: []
noncomputable def kc0 (P:Params) (r:List (Option Obj)):List (Option Obj):=some (o2 P) :: some (o3 P) :: some (o15 P) :: some (o28) :: some (o29) :: some (o31 P) :: some (o32) :: some (o33) :: some (o48) :: some (o49) :: some (o55) :: some (o56) :: r
noncomputable def kc1 (P:Params) (r:List (Option Obj)):List (Option Obj):=some (o62) :: some (o63) :: some (o69) :: some (o70) :: some (o76) :: some (o77) :: some (o81) :: some (o82) :: some (o88) :: some (o89) :: some (o95) :: some (o96) :: r
noncomputable def kc2 (P:Params) (r:List (Option Obj)):List (Option Obj):=some (o98 P) :: some (o99) :: some (o100) :: some (o101) :: some (o109) :: some (o110) :: some (o121) :: some (o122) :: some (o128) :: some (o129) :: some (o133) :: some (o134) :: r
noncomputable def kc3 (P:Params) (r:List (Option Obj)):List (Option Obj):=some (o138) :: some (o139) :: some (o145) :: some (o146) :: some (o148 P) :: some (o149) :: some (o150) :: some (o151) :: some (o159) :: some (o160) :: some (o169 P) :: some (o170) :: r
noncomputable def kc4 (P:Params) (r:List (Option Obj)):List (Option Obj):=some (o171) :: some (o182 P) :: some (o183) :: some (o194 P) :: some (o195) :: some (o206 P) :: some (o207) :: some (o218 P) :: some (o219) :: some (o230 P) :: some (o231) :: some (o242 P) :: r
noncomputable def kc5 (P:Params) (r:List (Option Obj)):List (Option Obj):=some (o243) :: some (o254 P) :: some (o255) :: some (o266 P) :: some (o267) :: some (o278 P) :: some (o279) :: some (o290 P) :: some (o291) :: some (o302 P) :: some (o303) :: some (o314 P) :: r
noncomputable def kc6 (P:Params) (r:List (Option Obj)):List (Option Obj):=some (o315) :: some (o318 P) :: some (o331) :: some (o332) :: some (o334 P) :: some (o335) :: some (o336) :: some (o344) :: some (o345) :: some (o351) :: some (o352) :: some (o358) :: r
noncomputable def kc7 (P:Params) (r:List (Option Obj)):List (Option Obj):=some (o359) :: some (o365) :: some (o366) :: some (o379) :: some (o380) :: some (o386) :: some (o387) :: some (o393) :: some (o394) :: some (o400) :: some (o401) :: some (o403 P) :: r
noncomputable def kc8 (P:Params) (r:List (Option Obj)):List (Option Obj):=some (o404) :: some (o405) :: some (o406) :: some (o414) :: some (o415) :: some (o421) :: some (o422) :: some (o435) :: some (o436) :: some (o438 P) :: some (o439) :: some (o440) :: r
noncomputable def kc9 (P:Params) (r:List (Option Obj)):List (Option Obj):=some (o441) :: some (o454) :: some (o455) :: some (o461) :: some (o462) :: some (o468) :: some (o469) :: some (o475) :: some (o476) :: some (o482) :: some (o483) :: some (o487) :: r
noncomputable def kc10 (P:Params) (r:List (Option Obj)):List (Option Obj):=some (o488) :: some (o494) :: some (o495) :: some (o501) :: some (o502) :: some (o504 P) :: some (o505) :: some (o506) :: some (o507) :: some (o515) :: some (o516) :: some (o517) :: r
noncomputable def kc11 (P:Params) (r:List (Option Obj)):List (Option Obj):=some (o521) :: some (o522) :: some (o528) :: some (o529) :: some (o535) :: some (o536) :: some (o549) :: some (o550) :: some (o556) :: some (o557) :: some (o563) :: some (o564) :: r
noncomputable def kc12 (P:Params) (r:List (Option Obj)):List (Option Obj):=some (o570) :: some (o571) :: some (o577) :: some (o578) :: some (o584) :: some (o585) :: some (o591) :: some (o592) :: some (o598) :: some (o599) :: some (o601 P) :: some (o602) :: r
noncomputable def kc13 (P:Params) (r:List (Option Obj)):List (Option Obj):=some (o603) :: some (o604) :: some (o612) :: some (o613) :: some (o614) :: some (o615) :: some (o621) :: some (o622) :: some (o628) :: some (o629) :: some (o635) :: some (o636) :: r
noncomputable def kc14 (P:Params) (r:List (Option Obj)):List (Option Obj):=some (o642) :: some (o643) :: some (o649) :: some (o650) :: some (o654) :: some (o655) :: some (o661) :: some (o662) :: some (o668) :: some (o669) :: some (o675) :: some (o676) :: r
noncomputable def kc15 (P:Params) (r:List (Option Obj)):List (Option Obj):=some (o680) :: some (o681) :: some (o682 P) :: some (o688) :: some (o689) :: some (o702) :: some (o703) :: some (o709) :: some (o710) :: some (o716) :: some (o717) :: some (o723) :: r
noncomputable def kc16 (P:Params) (r:List (Option Obj)):List (Option Obj):=some (o724) :: some (o730) :: some (o731) :: some (o737) :: some (o738) :: some (o744) :: some (o745) :: some (o751) :: some (o752) :: some (o758) :: some (o759) :: some (o765) :: r
noncomputable def kc17 (P:Params) (r:List (Option Obj)):List (Option Obj):=some (o766) :: some (o772) :: some (o773) :: some (o779) :: some (o780) :: some (o782 P) :: some (o783) :: some (o784) :: some (o785) :: some (o793) :: some (o794) :: some (o798) :: r
noncomputable def kc18 (P:Params) (r:List (Option Obj)):List (Option Obj):=some (o799) :: some (o803) :: some (o804) :: some (o808) :: some (o809) :: some (o813) :: some (o814) :: some (o820) :: some (o821) :: some (o827) :: some (o828) :: some (o829 P) :: r
noncomputable def kc19 (P:Params) (r:List (Option Obj)):List (Option Obj):=some (o830) :: some (o831) :: some (o832) :: some (o833) :: some (o837) :: some (o838) :: some (o844) :: some (o845) :: some (o851) :: some (o852) :: some (o858) :: some (o859) :: r
noncomputable def kc20 (P:Params) (r:List (Option Obj)):List (Option Obj):=some (o863) :: some (o864) :: some (o868) :: some (o869) :: some (o875) :: some (o876) :: some (o882) :: some (o883) :: some (o889) :: some (o890) :: some (o896) :: some (o897) :: r
noncomputable def kc21 (P:Params) (r:List (Option Obj)):List (Option Obj):=some (o903) :: some (o904) :: some (o910) :: some (o911) :: some (o915) :: some (o916) :: some (o920) :: some (o921) :: some (o922 P) :: some (o935) :: some (o936) :: some (o942) :: r
noncomputable def kc22 (P:Params) (r:List (Option Obj)):List (Option Obj):=some (o943) :: some (o945 P) :: some (o946) :: some (o947) :: some (o948) :: some (o956) :: some (o957) :: some (o963) :: some (o964) :: some (o970) :: some (o971) :: some (o977) :: r
noncomputable def kc23 (P:Params) (r:List (Option Obj)):List (Option Obj):=some (o978) :: some (o984) :: some (o985) :: r
noncomputable def KKv (P:Params):List (Option Obj):=kc0 P (kc1 P (kc2 P (kc3 P (kc4 P (kc5 P (kc6 P (kc7 P (kc8 P (kc9 P (kc10 P (kc11 P (kc12 P (kc13 P (kc14 P (kc15 P (kc16 P (kc17 P (kc18 P (kc19 P (kc20 P (kc21 P (kc22 P (kc23 P ([]))))))))))))))))))))))))
def hLoose:List Str:=.ofString "TOP" :: .ofString "BEGINNING_carver" :: .ofString "Fault" :: .ofString "Carver" :: .ofString "do_moves" :: .ofString "Cells" :: .ofString "carved" :: .ofString "CarveError" :: .ofString "TooLong" :: .ofString "NoRow" :: .ofString "NoPlace" :: .ofString "TooDeep" :: .ofString "Twice" :: .ofString "Open" :: .ofString "NoSub" :: .ofString "NoForm" :: .ofString "NoBed" :: .ofString "NoMeasure" :: .ofString "NoCell" :: .ofString "NoCutter" :: .ofString "MOST_NUMBER" :: .ofString "MOST_CALLS" :: .ofString "MOST_COUNTED" :: .ofString "BEGINNING_runs" :: .ofString "Stop" :: .ofString "is_big" :: .ofString "bounded" :: .ofString "joined" :: .ofString "look_at_depth" :: .ofString "Track" :: .ofString "reckoned" :: .ofString "named" :: .ofString "Walk" :: .ofString "Run" :: .ofString "run_plainly" :: .ofString "SMALL_LETTERS" :: .ofString "FIGURES" :: .ofString "JOINTS" :: .ofString "KEPT_WORDS" :: .ofString "MOST_LETTERS" :: .ofString "MOST_FIGURES" :: .ofString "MOST_SIGNS" :: .ofString "MOST_BRACKETS" :: .ofString "is_written_in" :: .ofString "is_name" :: .ofString "is_number" :: .ofString "Scan" :: .ofString "expression" :: .ofString "AXES" :: .ofString "COMPARISONS" :: .ofString "MOST_NAMES" :: .ofString "look_at_length" :: .ofString "name_of" :: .ofString "hold_row" :: .ofString "move_row" :: .ofString "let_row" :: .ofString "call_row" :: .ofString "times_row" :: .ofString "if_row" :: .ofString "bare_row" :: .ofString "sub_row" :: .ofString "FORMS" :: .ofString "row_of" :: .ofString "MOST_ROWS" :: .ofString "MOST_BODIES" :: .ofString "Draft" :: .ofString "read" :: .ofString "within" :: .ofString "cells_under" :: .ofString "places_over" :: .ofString "greatest" :: .ofString "lowest_at" :: .ofString "lowest_over" :: .ofString "NUMBERS_DUE" :: .ofString "ROW_AHEAD" :: .ofString "SIDES" :: .ofString "HEIGHTS" :: .ofString "BITES" :: .ofString "REACHES" :: .ofString "MOST_CUTTERS" :: .ofString "told_in" :: .ofString "look_at_measure" :: .ofString "look_at_cell" :: .ofString "look_at_shelf" :: .ofString "lay_bed" :: .ofString "square_foot" :: .ofString "put_cutter" :: .ofString "put_row" :: .ofString "drop_rows" :: .ofString "end_told" :: .ofString "carve" :: .ofString "tell_cell" :: .ofString "show" :: .ofString "tell_low" :: .ofString "DOINGS" :: .ofString "Desk" :: .ofString "_law_writing" :: .ofString "_law_number" :: .ofString "_law_said" :: .ofString "_law_at" :: []
noncomputable def hQ:Program:={ PySem.Challenge.pw_carvebed_k57_numbers_at_a_desk with main:={ PySem.Challenge.pw_carvebed_k57_numbers_at_a_desk.main with body:=[top 111] } }
noncomputable def hL (wd:World) (os:OsState):=sight PySem.Challenge.pw_carvebed_k57_numbers_at_a_desk hQ hLoose (fun s=>KKas.map s.heap.get?) 8666 wd os
noncomputable def hR (wd:World):=some (true,openGood hQ hLoose,KKv wd.params)
theorem hL_e:hL=hL:=Eq.refl hL
theorem hR_e:hR=hR:=Eq.refl hR
name_quick hLq for Car.hL by Car.hL_e
name_quick hRq for Car.hR by Car.hR_e
set_option maxHeartbeats 0 in
theorem hTf (wd:World) (os:OsState):PySem.W.Fast.hLq (wd.withFollow "special-get-raises" false) os=PySem.W.Fast.hRq (wd.withFollow "special-get-raises" false):=by kernel_rfl
set_option maxHeartbeats 0 in
theorem hTt (wd:World) (os:OsState):PySem.W.Fast.hLq (wd.withFollow "special-get-raises" true) os=PySem.W.Fast.hRq (wd.withFollow "special-get-raises" true):=by kernel_rfl
theorem hAll:∀ (wd:World) (os:OsState),PySem.W.Fast.hLq wd os=PySem.W.Fast.hRq wd:=(byRow2 "special-get-raises" (P:=fun wd=>∀ os,PySem.W.Fast.hLq wd os=PySem.W.Fast.hRq wd) (fun wd os=>hTf wd os) (fun wd os=>hTt wd os))
theorem hSeen (wd:World) (os:OsState):sight PySem.Challenge.pw_carvebed_k57_numbers_at_a_desk hQ hLoose (fun s=>KKas.map s.heap.get?) 8666 wd os=some (true,openGood hQ hLoose,(KK wd.params).map fun x=>some x.2) :=
 (congrFun (congrFun PySem.W.Fast.hLq_eq wd) os).trans ((hAll wd os).trans (congrFun PySem.W.Fast.hRq_eq wd).symm)
noncomputable def hH:Hook:=kHook KK KKas (fun _=>rfl)
theorem hLeft:LeftO PySem.Challenge.pw_carvebed_k57_numbers_at_a_desk hQ hLoose (fun s=>xlAt hQ [] s && recOk [] s) (Hook.obs hH) (Hook.val hH) 17392:=left_by rfl (Eq.refl _) rfl (fun s=>Eq.refl _) hSeen
end Car
namespace L2
open PySem PySem.Spec PyProof.Rows
abbrev Key:=Sum Int Str
def keyIs:Key→Value→Bool
 | .inl k,v=>Value.isInt k v
 | .inr x,v=>Value.isStrOf x v
def keyH (w:World):Key→Int
 | .inl k=>hashInt k
 | .inr x=>hashStr w x
theorem keyIs_shape:∀ {k:Key} {v:Value},keyIs k v=true→(∃ i t,k=Sum.inl i∧v=Value.int i t)∨(∃ x t,k=Sum.inr x∧v=Value.str x t)
 | .inl i,v,h=>by
  obtain ⟨t,e⟩:=Value.isInt_shape (k:=i) (v:=v) h
  exact .inl ⟨i,t,rfl,e⟩
 | .inr x,v,h=>by
  obtain ⟨t,e⟩:=Value.isStrOf_shape (x:=x) (v:=v) h
  exact .inr ⟨x,t,rfl,e⟩
theorem keyIs_int (i:Int) (t:Tok):keyIs (.inl i) (.int i t)=true:=by simp [keyIs,Value.isInt]
theorem keyIs_str (x:Str) (t:Tok):keyIs (.inr x) (.str x t)=true:=by simp [keyIs,Value.isStrOf]
theorem key_ll (a b:Int):decide ((Sum.inl a:Key)=Sum.inl b)=(a == b):=by
 by_cases e:a=b
 ·subst e; simp
 ·have h:¬ (Sum.inl a:Key)=Sum.inl b:=fun q=>e (Sum.inl.inj q)
  rw [decide_eq_false h]
  exact (beq_eq_false_iff_ne.mpr e).symm
theorem key_rr (a b:Str):decide ((Sum.inr a:Key)=Sum.inr b)=decide (a=b):=by
 by_cases e:a=b
 ·subst e; simp
 ·have h:¬ (Sum.inr a:Key)=Sum.inr b:=fun q=>e (Sum.inr.inj q)
  rw [decide_eq_false h,decide_eq_false e]
theorem key_lr (a:Int) (b:Str):decide ((Sum.inl a:Key)=Sum.inr b)=false:=decide_eq_false (fun q=>nomatch q)
theorem key_rl (a:Str) (b:Int):decide ((Sum.inr a:Key)=Sum.inl b)=false:=decide_eq_false (fun q=>nomatch q)
def mixKind (prog:Program) (w:World):PySem.KeyKind prog w Key where
 is:=keyIs
 hash:=keyH w
 inj:=fun v a b ha hb=>by
  rcases keyIs_shape ha with ⟨i,t,rfl,rfl⟩ | ⟨x,t,rfl,rfl⟩
  ·rcases keyIs_shape hb with ⟨j,u,rfl,e⟩ | ⟨y,u,rfl,e⟩
   ·injection e with e1 _; rw [e1]
   ·exact nomatch e
  ·rcases keyIs_shape hb with ⟨j,u,rfl,e⟩ | ⟨y,u,rfl,e⟩
   ·exact nomatch e
   ·injection e with e1 _; rw [e1]
 byValue:=fun k v h=>by
  rcases keyIs_shape h with ⟨i,t,rfl,rfl⟩ | ⟨x,t,rfl,rfl⟩ <;> rfl
 pyHash:=fun hv h=>by
  rcases keyIs_shape hv with ⟨i,t,rfl,rfl⟩ | ⟨x,t,rfl,rfl⟩
  ·exact wpAny_pyHash_int h
  ·exact wpAny_pyHash_str h
 eqBool:=fun hu hv h=>by
  rcases keyIs_shape hu with ⟨i,t,rfl,rfl⟩ | ⟨x,t,rfl,rfl⟩
  ·rcases keyIs_shape hv with ⟨j,u,rfl,rfl⟩ | ⟨y,u,rfl,rfl⟩
   ·rw [key_ll] at h; exact wpAny_eqBool_int h
   ·rw [key_lr] at h; exact SeqAt.EqAt.int_str i t y u _ _ _ _ h
  ·rcases keyIs_shape hv with ⟨j,u,rfl,rfl⟩ | ⟨y,u,rfl,rfl⟩
   ·rw [key_rl] at h; exact SeqAt.EqAt.str_int x t j u _ _ _ _ h
   ·rw [key_rr] at h; exact wpAny_eqBool_str h
 «strs»:=fun k x t v h=>by
  rcases keyIs_shape h with ⟨i,u,rfl,e⟩ | ⟨y,u,rfl,e⟩
  ·exact nomatch e
  ·injection e with e1 _
   subst e1
   cases v <;> rfl
theorem mixKind_int (prog:Program) (w:World) (i:Int) (t:Tok):(mixKind prog w).is (.inl i) (.int i t)=true:=keyIs_int i t
theorem mixKind_str (prog:Program) (w:World) (x:Str) (t:Tok):(mixKind prog w).is (.inr x) (.str x t)=true:=keyIs_str x t
inductive V where
 | non | bl (b:Bool) | int (i:Int) | str (x:Str) | byt (b:Array UInt8) | flt (b:UInt64) | ref (a:Addr) | ty (n:String)
 deriving DecidableEq
def RelV:V→Value→Prop
 | .non,u=>u=Value.none
 | .bl b,u=>u=Value.bool b
 | .int i,u=>∃ t,u=Value.int i t
 | .str x,u=>∃ t,u=Value.str x t
 | .byt b,u=>∃ t,u=Value.bytes b t
 | .flt b,u=>∃ t,u=Value.float b t
 | .ref a,u=>u=Value.ref a
 | .ty n,u=>u=Value.type n
abbrev Vals:List V→List Value→Prop:=Paired RelV
theorem Vals.length {xs:List V} {us:List Value} (r:Vals xs us):xs.length=us.length:=Paired.length r
theorem Vals.get:∀ {xs:List V} {us:List Value} {i:Nat} {x:V},Vals xs us→xs[i]?=some x→∃ u,us[i]?=some u∧RelV x u
 | _,_,_,_,.nil,e=>by simp at e
 | _,_,0,_,.cons r _,e=>by simp at e; subst e; exact ⟨_,rfl,r⟩
 | _,_,i + 1,x,.cons _ t,e=>by
  obtain ⟨u,h1,h2⟩:=Vals.get (i:=i) (x:=x) t (by simpa using e)
  exact ⟨u,by simpa using h1,h2⟩
theorem Vals.set {x:V} {u:Value} (r:RelV x u):∀ {xs:List V} {us:List Value} (i:Nat),Vals xs us→Vals (xs.set i x) (us.set i u)
 | _,_,_,.nil=>.nil
 | _,_,0,.cons _ t=>.cons r t
 | _,_,i + 1,.cons q t=>.cons q (Vals.set r i t)
theorem Vals.append:∀ {xs ys:List V} {us ws:List Value},Vals xs us→Vals ys ws→Vals (xs++ys) (us++ws)
 | _,_,_,_,.nil,s=>s
 | _,_,_,_,.cons r t,s=>.cons r (Vals.append t s)
theorem Vals.take:∀ {xs:List V} {us:List Value} (n:Nat),Vals xs us→Vals (xs.take n) (us.take n)
 | _,_,0,_=>.nil
 | _,_,_ + 1,.nil=>.nil
 | _,_,n + 1,.cons r t=>.cons r (Vals.take n t)
theorem Vals.drop:∀ {xs:List V} {us:List Value} (n:Nat),Vals xs us→Vals (xs.drop n) (us.drop n)
 | _,_,0,r=>r
 | _,_,_ + 1,.nil=>.nil
 | _,_,n + 1,.cons _ t=>Vals.drop n t
def RelO:Option V→Option Value→Prop
 | some v,some u=>RelV v u
 | none,none=>True
 | _,_=>False
def KV {κ:Type}:List (κ×V)→List (κ×Value)→Prop:=Paired fun (p:κ×V) (q:κ×Value)=>p.1=q.1∧RelV p.2 q.2
def kV:Key→V
 | .inl i=>.int i
 | .inr x=>.str x
inductive HO where
  | lst (xs:List V)
  | tup (xs:List V)
  | dK (kvs:List (Key×V)) | dT (kvs:List (List Key×V))
  | set (S:Int→Bool) (n:Nat)
  | ins (C dx:Addr) (fs:List (Str×V))
  | own (x:Addr)
  | xd (fs:List (Str×V))
  | met (f x:Addr)
  | rng (lo hi:Int)
  | frz (o:Obj) (u:HO)
  | tbl (ps:Array Value)
  | ext (φ:Heap→Prop)
abbrev Hp:=Addr→Option HO
def upd (H:Hp) (a:Addr) (o:HO):Hp:=fun b=>if b=a then some o else H b
theorem upd_same {H:Hp} {a:Addr} {o:HO}:upd H a o a=some o:=by unfold upd; rw [if_pos rfl]
theorem upd_ne {H:Hp} {a b:Addr} {o:HO} (h:b≠a):upd H a o b=H b:=by unfold upd; rw [if_neg h]
theorem ne_of_none {H:Hp} {a b:Addr} {o:HO} (h:H a=some o) (h':H b=none):a≠b:=by
 intro e; subst e; rw [h] at h'; cases h'
section
variable (P:Program) (w:World)
def ObjOk (H:Hp) (h:Heap) (a:Addr):HO→Prop
 | .lst xs=>xs.length≤sizeLine∧∃ (its:List Value) (n:Nat),Vals xs its∧h.get? a=some { cls:=.type "list",data:=.seq its.toArray n }
 | .tup xs=>xs.length≤sizeLine∧∃ its:List Value,Vals xs its∧IsTup h a its.toArray
 | .dK kvs=>kvs.length≤sizeLine∧(a == sysModules)=false∧∃ vs,KV kvs vs∧h.DictOf (mixKind P w) a vs
 | .dT kvs=>kvs.length≤sizeLine∧(a == sysModules)=false∧∃ xs:List (List Key×Addr×Value),
   Paired (fun (p:List Key×V) (q:List Key×Addr×Value)=>p.1=q.1∧H q.2.1=some (.tup (p.1.map kV))∧RelV p.2 q.2.2) kvs xs ∧
   ∃ o es ep,h.get? a=some o∧o.ExactDict∧o.data=.dict es ep∧es.toList=xs.map (entryOfKey (tupleKind (mixKind P w)))∧(xs.map (·.1)).Nodup
 | .set S n=>h.SetOf (intKind P w) a S n
 | .ins C dx fs=>H dx=some (.own a)∧fs.length≤1000∧dx≠a∧h.get? a=some (PySem.W.instObj C dx) ∧
   ∃ mA,h.Ns1 dx mA∧(∀ f,RelO (fs.lookup f) (mA f))∧PySem.Within mA (fs.map (·.1))
 | .own _=>∃ o,h.get? a=some o
 | .xd fs=>∃ mA,h.Ns1 a mA∧∀ f,RelO (fs.lookup f) (mA f)
 | .rng lo hi=>∃ t u v,h.get? a=some { cls:=.type "range",data:=.fields #[.int lo t,.int hi u,.int 1 v] }
 | .frz o u=>h.get? a=some o∧ObjOk H h a u
 | .tbl ps=>h.get? a=some { cls:=.none,data:=.fields ps }
 | .met f x=>h.get? a=some (PySem.W.methodObj (.ref f) (.ref x))
 | .ext φ=>φ h∧(∃ o,h.get? a=some o)∧∀ h1 h2:Heap,φ h1→(∀ o,h1.get? a=some o→h2.get? a=some o)→φ h2
def HOk (H:Hp) (h:Heap):Prop:=∀ a o,H a=some o→ObjOk P w H h a o
end
section
variable {P:Program} {w:World} {H H':Hp} {h h':Heap} {a:Addr} {o:HO}
theorem ObjOk.lt (x:ObjOk P w H h a o):a < h.objs.size:=by
 cases o with
 | lst xs=>obtain ⟨_,_,_,_,e⟩:=x; exact Heap.lt_size e
 | tup xs=>obtain ⟨_,_,_,p⟩:=x; exact p.lt
 | dK kvs=>obtain ⟨_,_,_,_,o,_,_,e,_⟩:=x; exact Heap.lt_size e
 | dT kvs=>obtain ⟨_,_,_,_,o,_,_,e,_⟩:=x; exact Heap.lt_size e
 | set S n=>obtain ⟨o,_,_,_,e,_⟩:=x; exact Heap.lt_size e
 | ins C dx fs=>obtain ⟨_,_,_,e,_⟩:=x; exact Heap.lt_size e
 | own y=>obtain ⟨_,e⟩:=x; exact Heap.lt_size e
 | xd fs=>obtain ⟨_,⟨_,_,_,e,_⟩,_⟩:=x; exact Heap.lt_size e
 | rng lo hi=>obtain ⟨_,_,_,e⟩:=x; exact Heap.lt_size e
 | frz ob u=>obtain ⟨e,_⟩:=x; exact Heap.lt_size e
 | tbl ps=>exact Heap.lt_size (show h.get? a=some _ from x)
 | met f y=>exact Heap.lt_size (show h.get? a=some _ from x)
 | ext φ=>obtain ⟨_,⟨_,e⟩,_⟩:=x; exact Heap.lt_size e
theorem Paired.mapP {α β:Type} {F G:α→β→Prop}:∀ {l₁:List α} {l₂:List β},Paired F l₁ l₂→(∀ a b,F a b→G a b)→Paired G l₁ l₂
 | _,_,.nil,_=>.nil
 | _,_,.cons r t,f=>.cons (f _ _ r) (Paired.mapP t f)
theorem ObjOk.stay (x:ObjOk P w H h a o) (k:∀ b u,(b=a∨H b=some (.own a))→h.get? b=some u→h'.get? b=some u)
  (ho:∀ b,H b=some (.own a)→H' b=some (.own a)) (ht:∀ b xs,H b=some (.tup xs)→H' b=some (.tup xs)):ObjOk P w H' h' a o:=by
 induction o with
 | lst xs=>obtain ⟨z,its,n,r,e⟩:=x; exact ⟨z,its,n,r,k _ _ (.inl rfl) e⟩
 | tup xs=>obtain ⟨z,its,r,ob,e,c⟩:=x; exact ⟨z,its,r,ob,k _ _ (.inl rfl) e,c⟩
 | dK kvs=>obtain ⟨z,y,vs,r,ob,es,ep,e,c⟩:=x; exact ⟨z,y,vs,r,ob,es,ep,k _ _ (.inl rfl) e,c⟩
 | dT kvs =>
  obtain ⟨z,y,xs,r,ob,es,ep,e,c⟩:=x
  exact ⟨z,y,xs,Paired.mapP r fun p q z=>⟨z.1,ht _ _ z.2.1,z.2.2⟩,ob,es,ep,k _ _ (.inl rfl) e,c⟩
 | set S n=>obtain ⟨ob,es,ep,t,e,c⟩:=x; exact ⟨ob,es,ep,t,k _ _ (.inl rfl) e,c⟩
 | ins C dx fs =>
  obtain ⟨d,z,ne,e,mA,⟨od,es,ep,e2,c⟩,r⟩:=x
  exact ⟨ho _ d,z,ne,k _ _ (.inl rfl) e,mA,⟨od,es,ep,k _ _ (.inr d) e2,c⟩,r⟩
 | own y=>obtain ⟨ob,e⟩:=x; exact ⟨ob,k _ _ (.inl rfl) e⟩
 | xd fs=>obtain ⟨mA,⟨od,es,ep,e,c⟩,r⟩:=x; exact ⟨mA,⟨od,es,ep,k _ _ (.inl rfl) e,c⟩,r⟩
 | rng lo hi=>obtain ⟨t,u,v,e⟩:=x; exact ⟨t,u,v,k _ _ (.inl rfl) e⟩
 | frz ob u ih=>obtain ⟨e,q⟩:=x; exact ⟨k _ _ (.inl rfl) e,ih q⟩
 | tbl ps =>
  have e:h.get? a=some { cls:=.none,data:=.fields ps }:=x
  show h'.get? a=some { cls:=.none,data:=.fields ps }
  exact k a _ (.inl rfl) e
 | met f y =>
  have e:h.get? a=some (PySem.W.methodObj (.ref f) (.ref y)):=x
  show h'.get? a=some (PySem.W.methodObj (.ref f) (.ref y))
  exact k a _ (.inl rfl) e
 | ext φ=>obtain ⟨p,⟨o,e⟩,st⟩:=x; exact ⟨st _ _ p fun o q=>k _ _ (.inl rfl) q,⟨o,k _ _ (.inl rfl) e⟩,st⟩
theorem HOk.lt (x:HOk P w H h) (e:H a=some o):a < h.objs.size:=(x a o e).lt
theorem HOk.fresh (x:HOk P w H h) (e:h.objs.size≤a):H a=none:=by
 cases q:H a with
 | none=>rfl
 | some u=>exact absurd (Nat.lt_of_lt_of_le (x.lt q) e) (Nat.lt_irrefl _)
theorem HOk.kept (x:HOk P w H h) (k:∀ b u,h.get? b=some u→h'.get? b=some u):HOk P w H h':=fun a o e =>
 (x a o e).stay (fun b u _ q=>k b u q) (fun _ q=>q) fun _ _ q=>q
theorem HOk.laid (x:HOk P w H h) (k:∀ b u,h.get? b=some u→h'.get? b=some u) (hp:h.objs.size≤a) (new:ObjOk P w (upd H a o) h' a o):HOk P w (upd H a o) h':=fun b u e=>by
 have hn:=x.fresh hp
 by_cases hb:b=a
 ·subst hb; rw [upd_same] at e; cases e; exact new
 ·rw [upd_ne hb] at e
  exact (x b u e).stay (fun c v _ q=>k c v q) (fun c q=>by rw [upd_ne (ne_of_none q hn)]; exact q) fun c xs q=>by rw [upd_ne (ne_of_none q hn)]; exact q
end
def Rd (H:Hp) (a:Addr) (u:HO):Prop:=H a=some u∨∃ o,H a=some (.frz o u)
theorem Rd.ok {P:Program} {w:World} {H:Hp} {h:Heap} {a:Addr} {u:HO} (r:Rd H a u) (x:HOk P w H h):ObjOk P w H h a u:=by
 rcases r with r | ⟨o,r⟩
 ·exact x a u r
 ·obtain ⟨_,q⟩:=x a _ r
  exact q
def Mut:Option HO→Prop
 | some (.lst _)=>True
 | some (.dK _)=>True
 | some (.dT _)=>True
 | some (.set _ _)=>True
 | some (.ins _ _ _)=>True
 | some (.ext _)=>True
 | _=>False
section
variable {P:Program} {w:World} {H:Hp} {h h':Heap} {x e:Addr} {o':HO}
theorem HOk.write (ok:HOk P w H h) (mu:Mut (H x)) (he:e=x∨H e=some (.own x)) (k:∀ b u,b≠e→h.get? b=some u→h'.get? b=some u) (heo:∃ u,h'.get? e=some u)
  (new:ObjOk P w (upd H x o') h' x o'):HOk P w (upd H x o') h':=fun b u q=>by
 have nown:∀ c y,H c=some (.own y)→c≠x:=fun c y r z=>by subst z; rw [r] at mu; exact mu
 have ntup:∀ c xs,H c=some (.tup xs)→c≠x:=fun c xs r z=>by subst z; rw [r] at mu; exact mu
 by_cases hb:b=x
 ·subst hb; rw [upd_same] at q; cases q; exact new
 ·rw [upd_ne hb] at q
  by_cases hbe:b=e
  ·have q':H b=some (.own x):=by
    rcases he with z | z
    ·exact absurd (hbe.trans z) hb
    ·rw [hbe]; exact z
   rw [q] at q'; cases q'
   obtain ⟨v,hv⟩:=heo
   exact ⟨v,by rw [hbe]; exact hv⟩
  ·refine (ok b u q).stay (fun c v hc r=>k c v ?_ r) (fun c r=>by rw [upd_ne (nown c b r)]; exact r) fun c xs r=>by rw [upd_ne (ntup c xs r)]; exact r
   rcases hc with rfl | hc
   ·exact hbe
   ·rintro rfl
    rcases he with z | z
    ·exact nown c b hc z
    ·rw [hc] at z; cases z; exact hb rfl
end
structure Un (fs ex:List Addr) (H H':Hp) (h h':Heap):Prop where
 keep:∀ b o,h.get? b=some o→H b=none→b ∉ fs→b ∉ ex→h'.get? b=some o
 slot:∀ b o,h.get? b=some o→H b=none→b∈fs→b ∉ ex→∃ sl,h'.get? b=some { o with slots:=sl }
 free:∀ b o,h.get? b=some o→H b=none→b ∉ ex→H' b=none
 there:∀ b o,h.get? b=some o→b ∉ ex→∃ o',h'.get? b=some o'
 tups:∀ b xs,H b=some (.tup xs)→H' b=some (.tup xs)
 frzs:∀ b o u,H b=some (.frz o u)→H' b=some (.frz o u)
 tbls:∀ b ps,H b=some (.tbl ps)→∃ more,H' b=some (.tbl (ps++more))
section
variable {fs fs' ex ex':List Addr} {H H1 H2:Hp} {h h1 h2 h':Heap} {a x e:Addr} {o:HO}
theorem Un.any (u:Un fs ex H H1 h h1) {b:Addr} {ob:Obj} (q:h.get? b=some ob) (n:H b=none) (hx:b ∉ ex):∃ sl,h1.get? b=some { ob with slots:=sl }:=by
 by_cases hb:b∈fs
 ·exact u.slot b ob q n hb hx
 ·exact ⟨ob.slots,u.keep b ob q n hb hx⟩
theorem Un.kept (k:∀ b u,h.get? b=some u→h'.get? b=some u):Un fs ex H H h h' :=
 ⟨fun b ob q _ _ _=>k b ob q,fun b ob q _ _ _=>⟨ob.slots,k b ob q⟩,fun _ _ _ n _=>n,fun b ob q _=>⟨ob,k b ob q⟩,fun _ _ q=>q,fun _ _ _ q=>q,fun _ ps q=>⟨#[],by rw [q]; simp⟩⟩
theorem Un.refl:Un fs ex H H h h:=Un.kept fun _ _ q=>q
theorem Un.laid (k:∀ b u,h.get? b=some u→h'.get? b=some u) (hp:h.objs.size≤a) (hn:H a=none):Un fs ex H (upd H a o) h h' where
 keep:=fun b u q _ _ _=>k b u q
 slot:=fun b u q _ _ _=>⟨u.slots,k b u q⟩
 free:=fun b u q n _=>by rw [upd_ne (Nat.ne_of_lt (Nat.lt_of_lt_of_le (Heap.lt_size q) hp))]; exact n
 there:=fun b u q _=>⟨u,k b u q⟩
 tups:=fun b xs q=>by rw [upd_ne (ne_of_none q hn)]; exact q
 frzs:=fun b u xs q=>by rw [upd_ne (ne_of_none q hn)]; exact q
 tbls:=fun b ps q=>⟨#[],by rw [upd_ne (ne_of_none q hn),q]; simp⟩
theorem Un.write (mu:Mut (H x)) (he:e=x∨H e=some (.own x)) (k:∀ b u,b≠e→h.get? b=some u→h'.get? b=some u) (heo:∃ u,h'.get? e=some u):Un fs ex H (upd H x o) h h':=by
 have hx:∀ b,H b=none→b≠x:=fun b n z=>by subst z; rw [n] at mu; exact mu
 have hb:∀ b,H b=none→b≠e:=fun b n z=>by
  subst z
  rcases he with r | r
  ·exact hx b n r
  ·rw [n] at r; cases r
 have hm:∀ b u,H b=some u→¬ Mut (some u)→b≠x:=fun b u q nm z=>by subst z; rw [q] at mu; exact nm mu
 refine ⟨fun b u q n _ _=>k b u (hb b n) q,fun b u q n _ _=>⟨u.slots,k b u (hb b n) q⟩,fun b u q n _=>by rw [upd_ne (hx b n)]; exact n,fun b u q _=>?_,
  fun b xs q=>by rw [upd_ne (hm b _ q fun z=>z)]; exact q,fun b u xs q=>by rw [upd_ne (hm b _ q fun z=>z)]; exact q,fun b ps q=>⟨#[],by rw [upd_ne (hm b _ q fun z=>z),q]; simp⟩⟩
 by_cases hbe:b=e
 ·subst hbe; exact heo
 ·exact ⟨u,k b u hbe q⟩
end
def trk (h:Heap) (H:Hp):List Addr:=(List.range h.objs.size).filter fun a=>(H a).isSome
def hidT (h:Heap) (H:Hp):Heap:=PySem.W.hideAll h (trk h H)
theorem hidT_size (h:Heap) (H:Hp):(hidT h H).objs.size=h.objs.size:=PySem.W.hideAll_size _ _
theorem hidT_get {h:Heap} {H:Hp} {b:Addr} {o:Obj} (e:h.get? b=some o) (n:H b=none):(hidT h H).get? b=some o :=
 PySem.W.hideAll_get _ e fun hm=>by
  have q:(H b).isSome=true:=(List.mem_filter.mp hm).2
  rw [n] at q; simp at q
theorem of_hidT {h:Heap} {H:Hp} {b:Addr} {o:Obj} (e:(hidT h H).get? b=some o):h.get? b=some o∧H b=none:=by
 have e':h.get? b=some o:=PySem.W.of_hideAll (trk h H) e
 refine ⟨e',?_⟩
 cases q:H b with
 | none=>rfl
 | some x =>
  have hm:b∈trk h H:=List.mem_filter.mpr ⟨List.mem_range.mpr (Heap.lt_size e'),by simp [q]⟩
  have z:(hidT h H).get? b=none:=PySem.W.hideAll_none (trk h H) hm
  rw [z] at e; cases e
structure Mod (K:PySem.W.Frag) (mg:Str→Option Value) (base:Heap):Prop where
 kin:K.In base
 glob:base.Ns mainGlobals mg
 blt:∃ mb,base.Ns builtinsNs mb∧∀ x:Str,x≠"__name__"→mb x=bootBuiltins x
 nolimit:base.NoLimit
structure Cx where
 prog:Program
 w:World
 K:PySem.W.Frag
 mg:Str→Option Value
 base:Heap
 A:Around
 N:List Str
 s₀:Shared
 H₀:Hp
 env:Env
 outer:List Env
 stack:List Env
 ex:List Addr
 fn:Str→Bool
 calm:Bool
 pn:List (Addr×Obj)
 xe:Value→Shared→Prop
def frs (l:List Env):List Addr:=l.filterMap (·.frame)
abbrev Cx.fs (X:Cx):List Addr:=frs X.outer
def Vis (sc:Scope) (x:Str):Prop:=sc.names.lookup x=some .local∨sc.names.lookup x=some .cell∨sc.names.lookup x=some .free
def Loc (sc:Scope) (x:Str):Prop:=sc.names.lookup x=some .local∨sc.names.lookup x=some .cell
def Look (env:Env) (h:Heap) (m:Str→Option Value) (x:Str) (u:Value):Prop :=
 (env.kindOf x=some .local∧m x=some u)∨((env.kindOf x=some .cell∨env.kindOf x=some .free)∧∃ c,env.cells.lookup x=some c∧h.IsCell c (some u))
structure Cx.Ok (X:Cx):Prop where
 mod:Mod X.K X.mg X.base
 kind:X.env.scope.kind=.function
 glob:X.env.globals=mainGlobals
 blt:X.env.builtins=builtinsNs
 above:X.s₀.heap.objs.size≤X.env.locals
 inj:∀ x y c,X.env.cells.lookup x=some c→X.env.cells.lookup y=some c→x=y
 has:∀ x,(X.env.kindOf x=some .cell∨X.env.kindOf x=some .free)→∃ c,X.env.cells.lookup x=some c
 cab:∀ x c,X.fn x=true→X.env.cells.lookup x=some c→X.s₀.heap.objs.size≤c
 hd:X.calm=true→X.A.handled=none
 frames:X.A.frames=some X.stack
 stk:X.stack=X.outer∨(X.stack=X.env :: X.outer∧X.env.frame=some X.env.locals)
 exf:∀ b∈X.ex,b≠X.env.locals∧∀ x c,X.env.cells.lookup x=some c→c≠b
 bs:∀ b o,X.base.get? b=some o→X.s₀.heap.get? b=some o∧X.H₀ b=none
 bsz:X.base.objs.size≤X.s₀.heap.objs.size
 noex:∀ b o,X.base.get? b=some o→b ∉ X.ex
 exfs:∀ b∈X.ex,b ∉ X.fs
 funs:X.s₀.heap.FunFrames X.base X.outer
 frf:∀ b∈X.fs,X.H₀ b=none
structure Inv (X:Cx) (pins:List (Addr×Obj)) (σ:List (Option V)) (H:Hp) (s:Shared):Prop where
 ok:X.Ok
 os:s.os=X.s₀.os
 bare:AllBare s.gens
 base:Un X.fs X.ex X.H₀ H X.s₀.heap s.heap
 loc:∃ m,s.heap.Ns X.env.locals m∧∀ (i:Nat) (x:Str) (v:V),X.N[i]?=some x→σ[i]?=some (some v)→Vis X.env.scope x→∃ u,RelV v u∧Look X.env s.heap m x u
 cell:∀ x c,X.env.cells.lookup x=some c→∃ v,s.heap.IsCell c v
 free:H X.env.locals=none
 freeC:∀ x c,X.env.cells.lookup x=some c→H c=none
 pin:∀ p∈X.pn++pins,s.heap.get? p.1=some p.2∧H p.1=none∧p.1≠X.env.locals∧p.1 ∉ X.fs∧∀ v,p.2.data≠.cell v
 hok:HOk X.prog X.w H s.heap
 len:σ.length=X.N.length
section
variable {X:Cx} {pins:List (Addr×Obj)} {σ:List (Option V)} {H H':Hp} {s:Shared} {h':Heap}
theorem Cx.Ok.nofr (ok:X.Ok) {b:Addr} {o:Obj} (e:X.base.get? b=some o):b ∉ X.fs:=fun hb=>by
 have:=(ok.funs.mem hb).1
 rw [e] at this; cases this
theorem Inv.bs (I:Inv X pins σ H s):∀ b o,X.base.get? b=some o→s.heap.get? b=some o∧H b=none:=fun b o e =>
 ⟨I.base.keep b o (I.ok.bs b o e).1 (I.ok.bs b o e).2 (I.ok.nofr e) (I.ok.noex b o e),I.base.free b o (I.ok.bs b o e).1 (I.ok.bs b o e).2 (I.ok.noex b o e)⟩
theorem Inv.bk (I:Inv X pins σ H s):∀ b o,X.base.get? b=some o→s.heap.get? b=some o:=fun b o e=>(I.bs b o e).1
theorem Inv.mod (I:Inv X pins σ H s):Mod X.K X.mg X.base:=I.ok.mod
theorem Inv.kIn (I:Inv X pins σ H s):X.K.In s.heap:=I.ok.mod.kin.keeps I.bk
theorem Inv.lt (I:Inv X pins σ H s):X.env.locals < s.heap.objs.size:=let ⟨_,hn,_⟩:=I.loc; hn.lt
theorem Inv.sz (I:Inv X pins σ H s):X.s₀.heap.objs.size≤s.heap.objs.size:=Nat.le_trans I.ok.above (Nat.le_of_lt I.lt)
theorem Inv.nofs (I:Inv X pins σ H s) {a:Addr} (h:s.heap.objs.size≤a):a ∉ X.fs:=fun hb=>by
 obtain ⟨_,o,ho,_⟩:=I.ok.funs.mem hb
 exact absurd (Nat.lt_of_lt_of_le (Heap.lt_size ho) (Nat.le_trans I.sz h)) (Nat.lt_irrefl _)
theorem Inv.cne (I:Inv X pins σ H s):∀ x c,X.env.cells.lookup x=some c→c≠X.env.locals:=fun x c e z=>by
 obtain ⟨v,o,ho,hd⟩:=I.cell x c e
 obtain ⟨m,⟨o',es,ep,ho',hd',_⟩,_⟩:=I.loc
 rw [z,ho'] at ho; cases ho; rw [hd'] at hd; cases hd
theorem Inv.funs (I:Inv X pins σ H s):s.heap.FunFrames X.base X.outer:=by
 have all:∀ (l:List Env),(∀ b∈frs l,b∈X.fs)→X.s₀.heap.FunFrames X.base l→s.heap.FunFrames X.base l:=by
  intro l
  induction l with
  | nil=>intro _ _; trivial
  | cons env r ih =>
   intro hs hl
   obtain ⟨hk,⟨L,o,hf,hn,ho,hd⟩,hr⟩:=hl
   have hL:L∈X.fs:=hs L (by unfold frs; rw [List.filterMap_cons,hf]; exact List.mem_cons_self)
   obtain ⟨sl,e⟩:=I.base.slot L o ho (I.ok.frf L hL) hL fun z=>I.ok.exfs L z hL
   exact ⟨hk,⟨L,_,hf,hn,e,hd⟩,ih (fun b hb=>hs b (by unfold frs; rw [List.filterMap_cons,hf]; exact List.mem_cons_of_mem _ hb)) hr⟩
 exact all X.outer (fun _ hb=>hb) I.ok.funs
theorem Inv.stack (I:Inv X pins σ H s):s.heap.FunFrames X.base X.stack:=by
 rcases I.ok.stk with e | ⟨e,hf⟩
 ·rw [e]; exact I.funs
 ·rw [e]
  obtain ⟨m,hn,_⟩:=I.loc
  refine .cons (by rw [I.ok.kind]; decide) hf hn ?_ I.funs
  exact Heap.get?_none_of_le (Nat.le_trans I.ok.bsz I.ok.above)
theorem Inv.stkSub (I:Inv X pins σ H s):∀ b∈frs X.stack,b∈X.env.locals :: X.fs:=fun b hb=>by
 rcases I.ok.stk with e | ⟨e,hf⟩
 ·rw [e] at hb; exact List.mem_cons_of_mem _ hb
 ·rw [e] at hb
  unfold frs at hb
  rw [List.filterMap_cons,hf] at hb
  exact hb
theorem Inv.stkFree (I:Inv X pins σ H s):∀ b∈frs X.stack,H b=none:=fun b hb=>by
 rcases List.mem_cons.mp (I.stkSub b hb) with e | hb
 ·rw [e]; exact I.free
 ·obtain ⟨_,o,ho,_⟩:=I.ok.funs.mem hb
  exact I.base.free b o ho (I.ok.frf b hb) fun z=>I.ok.exfs b z hb
theorem Inv.step {g':Array GenState} {t':Nat} {d':Drawn} {ch:List Addr} (I:Inv X pins σ H s)
  (hch:∀ b∈ch,(b∈X.ex∨X.s₀.heap.objs.size≤b)∧b≠X.env.locals∧(∀ x c,X.env.cells.lookup x=some c→c≠b)∧∀ p∈X.pn++pins,p.1≠b)
  (keep:∀ b o,b≠X.env.locals→b ∉ X.fs→b ∉ ch→s.heap.get? b=some o→H b=none→h'.get? b=some o)
  (slot:∀ b o,b≠X.env.locals→b∈X.fs→b ∉ ch→s.heap.get? b=some o→H b=none→∃ sl,h'.get? b=some { o with slots:=sl }) (free:∀ b o,b ∉ ch→s.heap.get? b=some o→H b=none→H' b=none)
  (there:∀ b o,b ∉ ch→s.heap.get? b=some o→∃ o',h'.get? b=some o')
  (tups:∀ b xs,H b=some (.tup xs)→H' b=some (.tup xs)) (frzs:∀ b o u,H b=some (.frz o u)→H' b=some (.frz o u)) (tbls:∀ b ps,H b=some (.tbl ps)→∃ more,H' b=some (.tbl (ps++more)))
  (ns:∀ m,s.heap.Ns X.env.locals m→h'.Ns X.env.locals m) (hok:HOk X.prog X.w H' h') (hg:AllBare g') :
  Inv X pins σ H' { s with heap:=h',gens:=g',drawn:=d',toks:=t' }:=by
 have neL:∀ b o,X.s₀.heap.get? b=some o→b≠X.env.locals:=fun b o e=>Nat.ne_of_lt (Nat.lt_of_lt_of_le (Heap.lt_size e) I.ok.above)
 have neC:∀ b o,X.s₀.heap.get? b=some o→b ∉ X.ex→b ∉ ch:=fun b o e hx hb=>by
  rcases (hch b hb).1 with z | z
  ·exact hx z
  ·exact absurd (Nat.lt_of_lt_of_le (Heap.lt_size e) z) (Nat.lt_irrefl _)
 have cellK:∀ x c,X.env.cells.lookup x=some c→∀ v,s.heap.IsCell c v→h'.IsCell c v:=fun x c e v ⟨o,ho,hd⟩=>by
  have nch:c ∉ ch:=fun z=>(hch c z).2.2.1 x c e rfl
  by_cases hc:c∈X.fs
  ·obtain ⟨sl,q⟩:=slot c o (I.cne x c e) hc nch ho (I.freeC x c e)
   exact ⟨_,q,hd⟩
  ·exact ⟨o,keep c o (I.cne x c e) hc nch ho (I.freeC x c e),hd⟩
 refine ⟨I.ok,I.os,hg,⟨fun b o e n hb hx=>?_,fun b o e n hb hx=>?_,fun b o e n hx=>?_,fun b o e hx=>?_,fun b xs e=>tups b xs (I.base.tups b xs e),fun b o xs e=>frzs b o xs (I.base.frzs b o xs e),fun b ps e=>?_⟩,?_,fun x c e=>?_,?_,fun x c e=>?_,fun p hp=>?_,hok,I.len⟩
 ·exact keep b o (neL b o e) hb (neC b o e hx) (I.base.keep b o e n hb hx) (I.base.free b o e n hx)
 ·obtain ⟨sl,e1⟩:=I.base.slot b o e n hb hx
  obtain ⟨sl',e2⟩:=slot b _ (neL b o e) hb (neC b o e hx) e1 (I.base.free b o e n hx)
  exact ⟨sl',e2⟩
 ·obtain ⟨o',e1⟩:=I.base.there b o e hx
  exact free b o' (neC b o e hx) e1 (I.base.free b o e n hx)
 ·obtain ⟨o',e1⟩:=I.base.there b o e hx
  exact there b o' (neC b o e hx) e1
 ·obtain ⟨m1,e1⟩:=I.base.tbls b ps e
  obtain ⟨m2,e2⟩:=tbls b _ e1
  exact ⟨m1++m2,by rw [e2,Array.append_assoc]⟩
 ·obtain ⟨m,hn,hl⟩:=I.loc
  refine ⟨m,ns m hn,fun i x v e1 e2 e3=>?_⟩
  obtain ⟨u,r,l⟩:=hl i x v e1 e2 e3
  refine ⟨u,r,?_⟩
  rcases l with l | ⟨k,c,e,z⟩
  ·exact .inl l
  ·exact .inr ⟨k,c,e,cellK x c e _ z⟩
 ·obtain ⟨v,z⟩:=I.cell x c e
  exact ⟨v,cellK x c e v z⟩
 ·obtain ⟨m,⟨o,_,_,ho,_⟩,_⟩:=I.loc
  exact free _ o (fun z=>(hch _ z).2.1 rfl) ho I.free
 ·obtain ⟨v,o,ho,hd⟩:=I.cell x c e
  exact free c o (fun z=>(hch c z).2.2.1 x c e rfl) ho (I.freeC x c e)
 ·obtain ⟨e,n,ne,nf,d⟩:=I.pin p hp
  have nch:p.1 ∉ ch:=fun z=>(hch p.1 z).2.2.2 p hp rfl
  exact ⟨keep p.1 p.2 ne nf nch e n,free p.1 p.2 nch e n,ne,nf,d⟩
theorem Inv.un {t':Nat} (I:Inv X pins σ H s) (u:Un X.fs [] H H' s.heap h') (hok:HOk X.prog X.w H' h'):Inv X pins σ H' { s with heap:=h',toks:=t' }:=by
 obtain ⟨m,⟨o,es,ep,ho,r⟩,_⟩:=id I.loc
 obtain ⟨sl,hL⟩:=u.any ho I.free (by simp)
 exact I.step (g':=s.gens) (d':=s.drawn) (ch:=[]) (fun _ z=>nomatch z) (fun b o _ hb _ e n=>u.keep b o e n hb (by simp)) (fun b o _ hb _ e n=>u.slot b o e n hb (by simp)) (fun b o _ e n=>u.free b o e n (by simp)) (fun b o _ e=>u.there b o e (by simp)) u.tups u.frzs u.tbls (fun m' hm=>by
  obtain ⟨o',es',ep',ho',r'⟩:=hm
  rw [ho] at ho'; cases ho'
  exact ⟨_,es',ep',hL,r'⟩) hok I.bare
theorem Inv.call {g':Array GenState} {t':Nat} {d':Drawn} {ch:List Addr} (I:Inv X pins σ H s) (u:Un (frs X.stack) ch H H' s.heap h') (hok:HOk X.prog X.w H' h') (hg:AllBare g')
  (hch:∀ b∈ch,(b∈X.ex∨X.s₀.heap.objs.size≤b)∧b≠X.env.locals∧(∀ x c,X.env.cells.lookup x=some c→c≠b)∧∀ p∈X.pn++pins,p.1≠b) :
  Inv X pins σ H' { s with heap:=h',gens:=g',drawn:=d',toks:=t' }:=by
 obtain ⟨m,⟨o,es,ep,ho,r⟩,_⟩:=id I.loc
 obtain ⟨sl,hL⟩:=u.any ho I.free fun z=>(hch _ z).2.1 rfl
 exact I.step (ch:=ch) hch (fun b o hL hb hc e n=>u.keep b o e n (fun z=>(List.mem_cons.mp (I.stkSub b z)).elim hL hb) hc) (fun b o _ _ hc e n=>u.any e n hc) (fun b o hc e n=>u.free b o e n hc) (fun b o hc e=>u.there b o e hc) u.tups u.frzs u.tbls (fun m' hm=>by
  obtain ⟨o',es',ep',ho',r'⟩:=hm
  rw [ho] at ho'; cases ho'
  exact ⟨_,es',ep',hL,r'⟩) hok hg
theorem Inv.turned {t':Nat} {it:Addr} (I:Inv X pins σ H s) (k:∀ b o,b≠it→s.heap.get? b=some o→h'.get? b=some o) (hn:H it=none) (hL:it≠X.env.locals)
  (h1:it∈X.ex∨X.s₀.heap.objs.size≤it) (h2:∀ x c,X.env.cells.lookup x=some c→c≠it) (h3:∀ p∈X.pn++pins,p.1≠it):Inv X pins σ H { s with heap:=h',toks:=t' }:=by
 have nit:∀ b u,H b=some u→b≠it:=fun b u e z=>by rw [z,hn] at e; cases e
 refine I.step (g':=s.gens) (d':=s.drawn) (ch:=[it]) (fun b hb=>?_) (fun b o _ _ hc e _=>k b o (fun z=>hc (by simp [z])) e) (fun b o _ _ hc e _=>⟨o.slots,k b o (fun z=>hc (by simp [z])) e⟩) (fun _ _ _ _ n=>n)
  (fun b o hc e=>⟨o,k b o (fun z=>hc (by simp [z])) e⟩) (fun _ _ e=>e) (fun _ _ _ e=>e) (fun b ps e=>⟨#[],by rw [e]; simp⟩) (fun m hm=>?_) (fun b u e=>?_) I.bare
 ·have e:b=it:=by simpa using hb
  subst e
  exact ⟨h1,hL,h2,h3⟩
 ·obtain ⟨o,es,ep,ho,r⟩:=hm
  exact ⟨o,es,ep,k _ o (Ne.symm hL) ho,r⟩
 ·refine (I.hok b u e).stay (fun c v hc q=>k c v ?_ q) (fun _ q=>q) fun _ _ q=>q
  rcases hc with z | z
  ·rw [z]; exact nit b u e
  ·exact nit c _ z
theorem Inv.tok (I:Inv X pins σ H s) (t:Nat):Inv X pins σ H { s with toks:=t }:=I.un (h':=s.heap) (t':=t) Un.refl I.hok
theorem Inv.kept {t':Nat} (I:Inv X pins σ H s) (k:∀ b u,s.heap.get? b=some u→h'.get? b=some u):Inv X pins σ H { s with heap:=h',toks:=t' }:=I.un (Un.kept k) (I.hok.kept k)
theorem Inv.laid {a:Addr} {o:HO} {t':Nat} (I:Inv X pins σ H s) (k:∀ b u,s.heap.get? b=some u→h'.get? b=some u) (hp:s.heap.objs.size≤a) (new:ObjOk X.prog X.w (upd H a o) h' a o) :
  Inv X pins σ (upd H a o) { s with heap:=h',toks:=t' }:=I.un (Un.laid k hp (I.hok.fresh hp)) (I.hok.laid k hp new)
theorem Inv.write {x e:Addr} {o:HO} {t':Nat} (I:Inv X pins σ H s) (mu:Mut (H x)) (he:e=x∨H e=some (.own x)) (k:∀ b u,b≠e→s.heap.get? b=some u→h'.get? b=some u) (heo:∃ u,h'.get? e=some u)
  (new:ObjOk X.prog X.w (upd H x o) h' x o):Inv X pins σ (upd H x o) { s with heap:=h',toks:=t' }:=I.un (Un.write mu he k heo) (I.hok.write mu he k heo new)
theorem Inv.pins_of {pins':List (Addr×Obj)} (I:Inv X pins σ H s) (h:∀ p∈pins',s.heap.get? p.1=some p.2∧H p.1=none∧p.1≠X.env.locals∧p.1 ∉ X.fs∧∀ v,p.2.data≠.cell v):Inv X pins' σ H s :=
 ⟨I.ok,I.os,I.bare,I.base,I.loc,I.cell,I.free,I.freeC,fun p hp=>(List.mem_append.mp hp).elim (fun z=>I.pin p (List.mem_append_left _ z)) (h p),I.hok,I.len⟩
theorem nodup_ix {N:List Str} (hN:N.Nodup) {i j:Nat} {x:Str} (a:N[i]?=some x) (b:N[j]?=some x):i=j:=by
 obtain ⟨h1,e1⟩:=List.getElem?_eq_some_iff.mp a
 obtain ⟨h2,e2⟩:=List.getElem?_eq_some_iff.mp b
 exact (List.getElem_inj hN).mp (e1.trans e2.symm)
theorem store_ok2 {M:Model} {A:Around} {E:Value→Shared→Prop} {i:Nat} {x:Str} {v:V} {u:Value} {Q:Unit→Shared→Prop} (I:Inv X pins σ H s) (hN:X.N.Nodup) (hi:X.N[i]?=some x) (hx:Loc X.env.scope x) (r:RelV v u)
  (h:∀ s',Inv X pins (σ.set i (some v)) H s'→(∃ a,Heap.SameBut a s.heap s'.heap∧(a=X.env.locals∨X.env.cells.lookup x=some a))→Q () s') (hf:X.fn x=true∨X.env.scope.names.lookup x=some .local:=by first | exact .inl rfl | exact .inr rfl | assumption):wpAny M A (storeName X.env x u) Q E s:=by
 obtain ⟨m,hn,hl⟩:=id I.loc
 have hcls:(X.env.scope.kind == .class || (X.env.scope.kind == .module && X.env.locals != X.env.globals))=false:=by rw [I.ok.kind]; rfl
 have hiσ:i < σ.length:=by rw [I.len]; exact (List.getElem?_eq_some_iff.mp hi).1
 have cne:=I.cne
 have tracked:∀ {a:Addr} {h':Heap},(∃ o,s.heap.get? a=some o∧H a=none)→Heap.SameBut a s.heap h'→HOk X.prog X.w H h':=fun {a h'} ha hs b ob e=>by
  obtain ⟨_,_,hfree⟩:=ha
  refine (I.hok b ob e).stay (fun c w' hc q=>(hs.2 c ?_).trans q) (fun _ q=>q) fun _ _ q=>q
  rintro rfl
  rcases hc with rfl | hc
  ·rw [hfree] at e; cases e
  ·rw [hfree] at hc; cases hc
 rcases hx with hk | hk
 ·refine wpAny_storeName_local hk hn (fun h' hn' hs=>?_) hcls
  obtain ⟨oL,_,_,hoL,_⟩:=id hn
  refine h _ ⟨I.ok,I.os,I.bare,⟨fun b o e n hb hx=>?_,fun b o e n hb hx=>?_,I.base.free,fun b o e hx=>?_,I.base.tups,I.base.frzs,I.base.tbls⟩,⟨_,hn',fun j y v' e1 e2 e3=>?_⟩,fun y c e=>?_,I.free,I.freeC,fun p hp=>?_,tracked ⟨oL,hoL,I.free⟩ hs,by simpa using I.len⟩ ⟨_,hs,.inl rfl⟩
  ·exact (hs.2 b (Nat.ne_of_lt (Nat.lt_of_lt_of_le (Heap.lt_size e) I.ok.above))).trans (I.base.keep b o e n hb hx)
  ·obtain ⟨sl,e1⟩:=I.base.slot b o e n hb hx
   exact ⟨sl,(hs.2 b (Nat.ne_of_lt (Nat.lt_of_lt_of_le (Heap.lt_size e) I.ok.above))).trans e1⟩
  ·obtain ⟨o',e1⟩:=I.base.there b o e hx
   exact ⟨o',(hs.2 b (Nat.ne_of_lt (Nat.lt_of_lt_of_le (Heap.lt_size e) I.ok.above))).trans e1⟩
  ·by_cases hj:j=i
   ·subst hj
    rw [hi] at e1; cases e1
    rw [List.getElem?_set_self hiσ] at e2
    cases e2
    exact ⟨u,r,.inl ⟨hk,by simp⟩⟩
   ·rw [List.getElem?_set_ne (Ne.symm hj)] at e2
    obtain ⟨u',r',q⟩:=hl j y v' e1 e2 e3
    refine ⟨u',r',?_⟩
    rcases q with ⟨k,e⟩ | ⟨k,c,e,z⟩
    ·refine .inl ⟨k,?_⟩
     have:y≠x:=fun e=>hj (nodup_ix hN e1 (e ▸ hi))
     simp [this,e]
    ·exact .inr ⟨k,c,e,z.sameBut hs (cne y c e)⟩
  ·obtain ⟨w',z⟩:=I.cell y c e
   exact ⟨w',z.sameBut hs (cne y c e)⟩
  ·obtain ⟨e,n,ne,nf,d⟩:=I.pin p hp
   exact ⟨(hs.2 p.1 ne).trans e,n,ne,nf,d⟩
 ·have hfn:X.fn x=true:=by
   rcases hf with z | z
   ·exact z
   ·rw [z] at hk; cases hk
  obtain ⟨c,hc⟩:=I.ok.has x (.inl hk)
  obtain ⟨w',z⟩:=I.cell x c hc
  refine wpAny_storeName_cell I.ok.kind hk hc z (fun h' hc' hs=>?_)
  obtain ⟨oc,hoc,hocd⟩:=id z
  refine h { s with heap:=h' } ⟨I.ok,I.os,I.bare,⟨fun b o e n hb hx=>?_,fun b o e n hb hx=>?_,I.base.free,fun b o e hx=>?_,I.base.tups,I.base.frzs,I.base.tbls⟩,⟨m,hn.sameBut hs (Ne.symm (cne x c hc)),fun j y v' e1 e2 e3=>?_⟩,fun y c' e=>?_,I.free,I.freeC,fun p hp=>?_,tracked ⟨oc,hoc,I.freeC x c hc⟩ hs,by simpa using I.len⟩ ⟨c,hs,.inr hc⟩
  ·exact (hs.2 b (Nat.ne_of_lt (Nat.lt_of_lt_of_le (Heap.lt_size e) (I.ok.cab x c hfn hc)))).trans (I.base.keep b o e n hb hx)
  ·obtain ⟨sl,e1⟩:=I.base.slot b o e n hb hx
   exact ⟨sl,(hs.2 b (Nat.ne_of_lt (Nat.lt_of_lt_of_le (Heap.lt_size e) (I.ok.cab x c hfn hc)))).trans e1⟩
  ·obtain ⟨o',e1⟩:=I.base.there b o e hx
   exact ⟨o',(hs.2 b (Nat.ne_of_lt (Nat.lt_of_lt_of_le (Heap.lt_size e) (I.ok.cab x c hfn hc)))).trans e1⟩
  ·by_cases hj:j=i
   ·subst hj
    rw [hi] at e1; cases e1
    rw [List.getElem?_set_self hiσ] at e2
    cases e2
    exact ⟨u,r,.inr ⟨.inl hk,c,hc,hc'⟩⟩
   ·rw [List.getElem?_set_ne (Ne.symm hj)] at e2
    obtain ⟨u',r',q⟩:=hl j y v' e1 e2 e3
    refine ⟨u',r',?_⟩
    rcases q with q | ⟨k,c',e,z'⟩
    ·exact .inl q
    ·refine .inr ⟨k,c',e,z'.sameBut hs ?_⟩
     rintro rfl
     exact hj (nodup_ix hN e1 (I.ok.inj _ _ _ e hc ▸ hi))
  ·by_cases hcc:c'=c
   ·subst hcc; exact ⟨_,hc'⟩
   ·obtain ⟨w2,z2⟩:=I.cell y c' e
    exact ⟨w2,z2.sameBut hs hcc⟩
  ·obtain ⟨e,n,ne,nf,d⟩:=I.pin p hp
   refine ⟨(hs.2 p.1 ?_).trans e,n,ne,nf,d⟩
   intro q
   rw [q,hoc] at e
   have q':oc=p.2:=Option.some.inj e
   exact d w' (by rw [← q']; exact hocd)
theorem store_ok {M:Model} {A:Around} {E:Value→Shared→Prop} {i:Nat} {x:Str} {v:V} {u:Value} {Q:Unit→Shared→Prop} (I:Inv X pins σ H s) (hN:X.N.Nodup) (hi:X.N[i]?=some x) (hx:Loc X.env.scope x) (r:RelV v u)
  (h:∀ s',Inv X pins (σ.set i (some v)) H s'→Q () s') (hf:X.fn x=true∨X.env.scope.names.lookup x=some .local:=by first | exact .inl rfl | exact .inr rfl | assumption):wpAny M A (storeName X.env x u) Q E s :=
 store_ok2 I hN hi hx r (fun s' I' _=>h s' I') hf
theorem Inv.call' {s':Shared} {ch:List Addr} (I:Inv X pins σ H s) (ho:s'.os=s.os) (u:Un (frs X.stack) ch H H' s.heap s'.heap) (hok:HOk X.prog X.w H' s'.heap) (hg:AllBare s'.gens)
  (hch:∀ b∈ch,(b∈X.ex∨X.s₀.heap.objs.size≤b)∧b≠X.env.locals∧(∀ x c,X.env.cells.lookup x=some c→c≠b)∧∀ p∈X.pn++pins,p.1≠b):Inv X pins σ H' s':=by
 obtain ⟨h',g',d',t',o'⟩:=s'
 have e:o'=s.os:=ho
 subst e
 exact I.call (g':=g') (t':=t') (d':=d') u hok hg hch
end
abbrev XK:=Value→Option Addr→Hp→Prop
abbrev St:=List (Option V)
abbrev VK:=V→Hp→Prop
abbrev TE:=St→Hp→VK→Prop
abbrev TT:=St→Hp→(Bool→Hp→Prop)→Prop
abbrev TA:=St→Hp→(List V→Hp→Prop)→Prop
structure Ends where
 nx:St→Hp→Prop
 rt:VK
 bk:St→Hp→Prop:=fun _ _=>False
 ct:St→Hp→Prop:=fun _ _=>False
abbrev TS:=Ends→St→Hp→Prop
def EP (X:Cx) (pins:List (Addr×Obj)) (σ:St) (Q:VK) (u:Value) (s':Shared):Prop:=∃ v H',Inv X pins σ H' s'∧RelV v u∧Q v H'
def TP (X:Cx) (pins:List (Addr×Obj)) (σ:St) (Q:Bool→Hp→Prop) (b:Bool) (s':Shared):Prop:=∃ H',Inv X pins σ H' s'∧Q b H'
def AP (X:Cx) (pins:List (Addr×Obj)) (σ:St) (Q:List V→Hp→Prop) (us:List Value) (s':Shared):Prop:=∃ vs H',Inv X pins σ H' s'∧Vals vs us∧Q vs H'
def SP (X:Cx) (pins:List (Addr×Obj)) (D:Ends) (f:Flow) (s':Shared):Prop :=
 match f with
 | .next=>∃ σ' H',Inv X pins σ' H' s'∧D.nx σ' H'
 | .brk=>∃ σ' H',Inv X pins σ' H' s'∧D.bk σ' H'
 | .cont=>∃ σ' H',Inv X pins σ' H' s'∧D.ct σ' H'
 | .ret u=>∃ v σ' H',Inv X pins σ' H' s'∧RelV v u∧D.rt v H'
def PE (X:Cx) (e:Expr) (t:TE):Prop :=
 ∀ (pins:List (Addr×Obj)) (s:Shared) (σ:St) (H:Hp) (Q:VK),Inv X pins σ H s→t σ H Q→wpAny (model X.prog X.w) X.A (eval e X.env) (EP X pins σ Q) X.xe s
def PT (X:Cx) (e:Expr) (t:TT):Prop :=
 ∀ (pins:List (Addr×Obj)) (s:Shared) (σ:St) (H:Hp) (Q:Bool→Hp→Prop),Inv X pins σ H s→t σ H Q→wpAny (model X.prog X.w) X.A (isTrue e X.env (eval e X.env)) (TP X pins σ Q) X.xe s
def PW (X:Cx) (e:Expr) (t:TT):Prop :=
 ∀ (whole:Sem Value) (pins:List (Addr×Obj)) (s:Shared) (σ:St) (H:Hp) (Q:Bool→Hp→Prop),Inv X pins σ H s→t σ H Q→wpAny (model X.prog X.w) X.A (isTrue e X.env whole) (TP X pins σ Q) X.xe s
theorem PW.pt {X:Cx} {e:Expr} {t:TT} (h:PW X e t):PT X e t:=h _
def PA (X:Cx) (es:List Expr) (t:TA):Prop :=
 ∀ (pos:Pos) (pins:List (Addr×Obj)) (s:Shared) (σ:St) (H:Hp) (Q:List V→Hp→Prop),Inv X pins σ H s→t σ H Q→wpAny (model X.prog X.w) X.A (spliced (backTo pos (starEach es X.env))) (AP X pins σ Q) X.xe s
def PS (X:Cx) (st:Stmt) (t:TS):Prop :=
 ∀ (pins:List (Addr×Obj)) (s:Shared) (σ:St) (H:Hp) (D:Ends),Inv X pins σ H s→t D σ H→wpAny (model X.prog X.w) X.A (exec st X.env) (SP X pins D) X.xe s
def PSs (X:Cx) (st:List Stmt) (t:TS):Prop :=
 ∀ (pins:List (Addr×Obj)) (s:Shared) (σ:St) (H:Hp) (D:Ends),Inv X pins σ H s→t D σ H→wpAny (model X.prog X.w) X.A (execs st X.env) (SP X pins D) X.xe s
theorem thn {α:Type} {t:Sem α} {Q Q':α→Shared→Prop} {M:Model} {A:Around} {E:Value→Shared→Prop} {s:Shared} (h:wpAny M A t Q E s) (hQ:∀ a s,Q a s→Q' a s):wpAny M A t Q' E s:=wpAny_mono h hQ fun _ _ x=>x
section
variable {X:Cx}
theorem bin {a b:Expr} {ta tb:TE} (ha:PE X a ta) (hb:PE X b tb) {pins:List (Addr×Obj)} {s:Shared} {σ:St} {H:Hp} {R:V→V→Hp→Prop} (I:Inv X pins σ H s) (h:ta σ H fun x H1=>tb σ H1 fun y H2=>R x y H2)
  {α:Type} {Q:α→Shared→Prop} {f:Value→Value→Sem α}
  (hf:∀ v u s2 x y H2,Inv X pins σ H2 s2→RelV x v→RelV y u→R x y H2→wpAny (model X.prog X.w) X.A (f v u) Q X.xe s2) :
  wpAny (model X.prog X.w) X.A (eval a X.env) (fun v s₁=>wpAny (model X.prog X.w) X.A (eval b X.env) (fun u s₂=>wpAny (model X.prog X.w) X.A (f v u) Q X.xe s₂) X.xe s₁) X.xe s:=by
 refine thn (ha pins s σ H _ I h) fun v s1 ⟨x,H1,I1,r1,q1⟩=>?_
 refine thn (hb pins s1 σ H1 _ I1 q1) fun u s2 ⟨y,H2,I2,r2,q2⟩=>?_
 exact hf v u s2 x y H2 I2 r1 r2 q2
def tVar (i:Nat):TE:=fun σ H Q=>∃ v,σ[i]?=some (some v)∧Q v H
def tC (v:V):TE:=fun _ H Q=>Q v H
theorem pe_var {i:Nat} {x:Str} {pos:Pos} (hN:X.N[i]?=some x) (hv:Vis X.env.scope x) (hd:(x == ("__debug__":Str))=false:=by decide) (hcd:(x == ("__classdict__":Str))=false:=by decide):PE X (.Name x pos) (tVar i):=by
 intro pins s σ H Q I h
 obtain ⟨v,e,h⟩:=h
 obtain ⟨m,hn,hl⟩:=I.loc
 obtain ⟨u,r,l⟩:=hl i x v hN e hv
 have fin:EP X pins σ Q u s:=⟨v,H,I,r,h⟩
 rcases l with ⟨hk,hm⟩ | ⟨hk,c,hc,hcell⟩
 ·exact wpAny_Name (wpAny_loadName_local I.ok.kind hk hn hm fin) hd
 ·rcases hk with hk | hk
  ·exact wpAny_Name (wpAny_loadName_cell I.ok.kind hk hc hcell fin) hd
  ·exact wpAny_Name (wpAny_loadName_free I.ok.kind hk hc hcell fin hcd) hd
theorem pe_int {i j pos}:PE X (.Constant (.int i) j pos) (tC (.int i)):=fun _ _ _ H _ I h=>wpAny_Constant_int ⟨.int i,H,I.tok _,⟨_,rfl⟩,h⟩
theorem pe_bl {b j pos}:PE X (.Constant (.bool b) j pos) (tC (.bl b)):=fun _ _ _ H _ I h=>Constant_bool ⟨.bl b,H,I,rfl,h⟩
theorem pe_non {j pos}:PE X (.Constant .none j pos) (tC .non):=fun _ _ _ H _ I h=>Constant_none ⟨.non,H,I,rfl,h⟩
theorem pe_str {x j pos}:PE X (.Constant (.str x) j pos) (tC (.str x)):=fun _ _ _ H _ I h=>Calls.Constant_str ⟨.str x,H,I.tok _,⟨_,rfl⟩,h⟩
def Gl (X:Cx) (x:Str):Prop:=X.env.kindOf x=some .globalImplicit
theorem ld_glob {E:Value→Shared→Prop} {pins:List (Addr×Obj)} {s:Shared} {σ:St} {H:Hp} {x:Str} {u:Value} {pos:Pos} {Q:Value→Shared→Prop} (I:Inv X pins σ H s) (hg:Gl X x) (hm:X.mg x=some u) (h:Q u s)
  (hd:(x == ("__debug__":Str))=false:=by decide):wpAny (model X.prog X.w) X.A (eval (.Name x pos) X.env) Q E s :=
 Calls.Name_function_global I.ok.kind hg (Calls.loadGlobal_global (by rw [I.ok.glob]; exact I.mod.glob.keeps I.bk) hm h) hd
theorem ld_blt {E:Value→Shared→Prop} {pins:List (Addr×Obj)} {s:Shared} {σ:St} {H:Hp} {x:Str} {u:Value} {pos:Pos} {Q:Value→Shared→Prop} (I:Inv X pins σ H s) (hg:Gl X x) (hm:X.mg x=none) (hv:bootBuiltins x=some u) (h:Q u s)
  (hn:x≠"__name__":=by decide) (hd:(x == ("__debug__":Str))=false:=by decide):wpAny (model X.prog X.w) X.A (eval (.Name x pos) X.env) Q E s:=by
 obtain ⟨mb,h1,h2⟩:=I.mod.blt
 exact Calls.Name_function_global I.ok.kind hg (Calls.loadGlobal_builtin (by rw [I.ok.glob]; exact I.mod.glob.keeps I.bk) hm (by rw [I.ok.blt]; exact h1.keeps I.bk) ((h2 x hn).trans hv) h) hd
theorem pe_glob {x:Str} {v:V} {u:Value} {pos:Pos} (hg:Gl X x) (hm:X.mg x=some u) (r:RelV v u) (hd:(x == ("__debug__":Str))=false:=by decide):PE X (.Name x pos) (tC v) :=
 fun _ _ _ H _ I h=>ld_glob I hg hm ⟨v,H,I,r,h⟩ hd
variable {a b:Expr} {ta tb:TE} {pos:Pos}
variable {tA tB':TT} {rest:List Expr}
def tAnd (t u:TT):TT:=fun σ H Q=>t σ H fun c H1=>if c=true then u σ H1 Q else Q false H1
def tOr (t u:TT):TT:=fun σ H Q=>t σ H fun c H1=>if c=true then Q true H1 else u σ H1 Q
def tNot (t:TT):TT:=fun σ H Q=>t σ H fun c H1=>Q (!c) H1
theorem pw_and1 (ha:PT X a tA):PW X (.BoolOp .And [a] pos) tA:=by
 intro wh pins s σ H Q I h
 refine isTrue_and (thn (ha pins s σ H Q I h) fun c s1 e=>?_)
 cases c with
 | true=>exact isTrue_and_nil e
 | false=>exact e
theorem pw_or1 (ha:PT X a tA):PW X (.BoolOp .Or [a] pos) tA:=by
 intro wh pins s σ H Q I h
 refine isTrue_or (thn (ha pins s σ H Q I h) fun c s1 e=>?_)
 cases c with
 | false=>exact isTrue_or_nil e
 | true=>exact e
theorem pw_and (ha:PT X a tA) (hb:PW X (.BoolOp .And (b :: rest) pos) tB'):PW X (.BoolOp .And (a :: b :: rest) pos) (tAnd tA tB'):=by
 intro wh pins s σ H Q I h
 refine isTrue_and (thn (ha pins s σ H _ I h) fun c s1 ⟨H1,I1,q1⟩=>?_)
 cases c with
 | true=>exact hb wh pins s1 σ H1 Q I1 q1
 | false=>exact ⟨H1,I1,q1⟩
theorem pw_or (ha:PT X a tA) (hb:PW X (.BoolOp .Or (b :: rest) pos) tB'):PW X (.BoolOp .Or (a :: b :: rest) pos) (tOr tA tB'):=by
 intro wh pins s σ H Q I h
 refine isTrue_or (thn (ha pins s σ H _ I h) fun c s1 ⟨H1,I1,q1⟩=>?_)
 cases c with
 | true=>exact ⟨H1,I1,q1⟩
 | false=>exact hb wh pins s1 σ H1 Q I1 q1
theorem pt_not (ha:PT X a tA):PT X (.UnaryOp .Not a pos) (tNot tA):=by
 intro pins s σ H Q I h
 exact isTrue_not (ha pins s σ H (fun c H1=>Q (!c) H1) I h)
def tOrV (ta tb:TE):TE:=fun σ H Q=>ta σ H fun x H1=>∃ c,x=.bl c∧if c=true then Q (.bl true) H1 else tb σ H1 Q
theorem pe_one {op} {t:TE} (h:PE X a t):PE X (.BoolOp op [a] pos) t:=fun pins s σ H Q I hw=>BoolOp_one (h pins s σ H Q I hw)
theorem pe_or (ha:PE X a ta) (hb:PE X (.BoolOp .Or (b :: rest) pos) tb):PE X (.BoolOp .Or (a :: b :: rest) pos) (tOrV ta tb):=by
 intro pins s σ H Q I h
 refine BoolOp_or (thn (ha pins s σ H _ I h) fun v s1 ⟨x,H1,I1,r1,q1⟩=>?_)
 obtain ⟨c,rfl,q1⟩:=q1
 cases r1
 refine wpAny_truthy_bool ?_
 cases c with
 | false=>exact hb pins s1 σ H1 Q I1 q1
 | true=>exact ⟨.bl true,H1,I1,rfl,q1⟩
end
def SqL (K:PySem.W.Frag) (H:Hp) (a:Addr) (xs:List V):Prop :=
 Rd H a (.lst xs) ∨
  ∃ (o:Obj) (its:Array Value) (n:Nat),K.lookup a=some o∧o.cls=.type "list"∧o.dict=none∧o.data=.seq its n∧its.size≤sizeLine∧Vals xs its.toList
def SqT (K:PySem.W.Frag) (H:Hp) (a:Addr) (xs:List V):Prop :=
 Rd H a (.tup xs) ∨
  ∃ (o:Obj) (its:Array Value) (n:Nat),K.lookup a=some o∧o.cls=.type "tuple"∧o.data=.seq its n∧its.size≤sizeLine∧Vals xs its.toList
def absV:Value→Option V
 | .none=>some .non
 | .bool b=>some (.bl b)
 | .int i _=>some (.int i)
 | .str x _=>some (.str x)
 | .bytes b _=>some (.byt b)
 | .float b _=>some (.flt b)
 | .ref a=>some (.ref a)
 | .type n=>some (.ty n)
 | _=>none
theorem RelV.abs {x:V} {u:Value} (r:RelV x u):absV u=some x:=by
 cases x with
 | non=>cases r; rfl
 | bl _=>cases r; rfl
 | int _=>obtain ⟨t,rfl⟩:=r; rfl
 | str _=>obtain ⟨t,rfl⟩:=r; rfl
 | byt _=>obtain ⟨t,rfl⟩:=r; rfl
 | flt _=>obtain ⟨t,rfl⟩:=r; rfl
 | ref _=>cases r; rfl
 | ty _=>cases r; rfl
theorem RelV.inj {x y:V} {u:Value} (r:RelV x u) (q:RelV y u):x=y:=Option.some.inj (r.abs.symm.trans q.abs)
theorem Vals.inj:∀ {xs ys:List V} {us:List Value},Vals xs us→Vals ys us→xs=ys
 | _,_,_,.nil,.nil=>rfl
 | _,_,_,.cons r t,.cons r' t'=>by rw [r.inj r',Vals.inj t t']
section
variable {X:Cx} {pins:List (Addr×Obj)} {σ:St} {H:Hp} {s:Shared} {a:Addr} {xs ys:List V}
theorem SqL.of {K:PySem.W.Frag} (h:H a=some (.lst xs)):SqL K H a xs:=.inl (.inl h)
theorem SqT.of {K:PySem.W.Frag} (h:H a=some (.tup xs)):SqT K H a xs:=.inl (.inl h)
theorem Inv.list (I:Inv X pins σ H s) (h:SqL X.K H a xs):∃ its:List Value,Vals xs its∧PlainL s.heap a its.toArray∧xs.length≤sizeLine:=by
 rcases h with h | ⟨o,its,n,hk,hc,hd,hs,hz,r⟩
 ·obtain ⟨z,its,n,r,e⟩:=h.ok I.hok
  exact ⟨its,r,⟨_,n,e,rfl,rfl,rfl⟩,z⟩
 ·refine ⟨its.toList,r,⟨o,n,I.kIn a o hk,hc,hd,by simpa using hs⟩,?_⟩
  have e:=r.length
  simp only [Array.length_toList] at e
  lia
theorem Inv.tuple (I:Inv X pins σ H s) (h:SqT X.K H a xs):∃ its:List Value,Vals xs its∧IsTup s.heap a its.toArray∧xs.length≤sizeLine:=by
 rcases h with h | ⟨o,its,n,hk,hc,hs,hz,r⟩
 ·obtain ⟨z,its,r,p⟩:=h.ok I.hok
  exact ⟨its,r,p,z⟩
 ·refine ⟨its.toList,r,⟨o,I.kIn a o hk,hc,n,by simpa using hs⟩,?_⟩
  have e:=r.length
  simp only [Array.length_toList] at e
  lia
theorem Inv.list_inj (I:Inv X pins σ H s) (h:SqL X.K H a xs) (h':SqL X.K H a ys):xs=ys:=by
 obtain ⟨its,r,⟨o,n,e,_,_,d⟩,_⟩:=I.list h
 obtain ⟨its',r',⟨o',n',e',_,_,d'⟩,_⟩:=I.list h'
 rw [e] at e'; cases e'
 rw [d] at d'
 injection d' with d1 _
 have:its=its':=by simpa using congrArg Array.toList d1
 subst this
 exact r.inj r'
end
abbrev Cx.wish (X:Cx) (E:Value→Shared→Prop):Cx:={ X with xe:=E }
theorem Cx.Ok.wish {X:Cx} (ok:X.Ok) (E:Value→Shared→Prop):(X.wish E).Ok :=
 ⟨ok.mod,ok.kind,ok.glob,ok.blt,ok.above,ok.inj,ok.has,ok.cab,ok.hd,ok.frames,ok.stk,ok.exf,ok.bs,ok.bsz,ok.noex,ok.exfs,ok.funs,ok.frf⟩
theorem Cx.Ok.unwish {X:Cx} {E:Value→Shared→Prop} (ok:(X.wish E).Ok):X.Ok :=
 ⟨ok.mod,ok.kind,ok.glob,ok.blt,ok.above,ok.inj,ok.has,ok.cab,ok.hd,ok.frames,ok.stk,ok.exf,ok.bs,ok.bsz,ok.noex,ok.exfs,ok.funs,ok.frf⟩
section
variable {X:Cx} {pins:List (Addr×Obj)} {σ:St} {H:Hp} {s:Shared} {E:Value→Shared→Prop}
theorem Inv.wish (I:Inv X pins σ H s) (E:Value→Shared→Prop):Inv (X.wish E) pins σ H s:=⟨I.ok.wish E,I.os,I.bare,I.base,I.loc,I.cell,I.free,I.freeC,I.pin,I.hok,I.len⟩
theorem Inv.unwish (I:Inv (X.wish E) pins σ H s):Inv X pins σ H s:=⟨I.ok.unwish,I.os,I.bare,I.base,I.loc,I.cell,I.free,I.freeC,I.pin,I.hok,I.len⟩
end
section
variable {X:Cx} {st:Stmt} {rest:List Stmt} {t u:TS} {e:Expr} {te:TE} {pos:Pos}
def tNext:TS:=fun D σ H=>D.nx σ H
def tSeq (t u:TS):TS:=fun D σ H=>t { D with nx:=u D } σ H
theorem pss_nil:PSs X [] tNext:=fun _ _ σ H _ I h=>wpAny_execs_nil ⟨σ,H,I,h⟩
theorem pss_cons (h1:PS X st t) (h2:PSs X rest u):PSs X (st :: rest) (tSeq t u):=by
 intro pins s σ H D I h
 refine wpAny_execs_cons (thn (h1 pins s σ H { D with nx:=u D } I h) fun f s1 q=>?_)
 cases f with
 | next =>
  obtain ⟨σ',H',I',q⟩:=q
  exact h2 pins s1 σ' H' D I' q
 | ret v=>exact q
 | brk=>exact q
 | cont=>exact q
theorem pss_one (h1:PS X st t):PSs X [st] t:=by
 intro pins s σ H D I h
 refine wpAny_execs_cons (thn (h1 pins s σ H D I h) fun f s1 q=>?_)
 cases f with
 | next=>exact wpAny_execs_nil q
 | ret v=>exact q
 | brk=>exact q
 | cont=>exact q
theorem Inv.quiet {pins:List (Addr×Obj)} {σ:St} {H:Hp} {s:Shared} (I:Inv X pins σ H s):interactive X.env=false:=by simp [interactive,I.ok.kind]
def tDrop (te:TE):TS:=fun D σ H=>te σ H fun _ H1=>D.nx σ H1
theorem ps_expr (he:PE X e te) (hs:swapsWith e none pos.line X.env=pure false:=by rfl):PS X (.Expr e pos) (tDrop te):=by
 intro pins s σ H D I h
 exact wpAny_Expr_any (thn (he pins s σ H _ I h) fun v s1 ⟨x,H1,I1,r1,q1⟩=>⟨σ,H1,I1,q1⟩) I.quiet hs
def tRet (te:TE):TS:=fun D σ H=>te σ H D.rt
theorem ps_ret (he:PE X e te):PS X (.Return (some e) pos) (tRet te):=by
 intro pins s σ H D I h
 exact wpAny_Return_some (thn (he pins s σ H _ I h) fun v s1 ⟨x,H1,I1,r1,q1⟩=>⟨x,σ,H1,I1,r1,q1⟩)
def tIfS (c:TT) (t u:TS):TS:=fun D σ H=>c σ H fun b H1=>if b=true then t D σ H1 else u D σ H1
theorem ps_if {c:Expr} {a b:List Stmt} {tc:TT} (hc:PT X c tc) (ha:PSs X a t) (hb:PSs X b u):PS X (.If c a b pos) (tIfS tc t u):=by
 intro pins s σ H D I h
 refine wpAny_If (thn (hc pins s σ H _ I h) fun d s1 ⟨H1,I1,q1⟩=>?_)
 cases d with
 | true=>exact ha pins s1 σ H1 D I1 q1
 | false=>exact hb pins s1 σ H1 D I1 q1
end
abbrev TG:=V→St→Hp→(St→Hp→Prop)→Prop
abbrev TGs:=List V→St→Hp→(St→Hp→Prop)→Prop
def PG (X:Cx) (target:Expr) (t:TG):Prop :=
 ∀ (pins:List (Addr×Obj)) (s:Shared) (σ:St) (H:Hp) (v:V) (u:Value) (Q:St→Hp→Prop),Inv X pins σ H s→RelV v u→t v σ H Q →
  wpAny (model X.prog X.w) X.A (assign target X.env u) (fun _ s'=>∃ σ' H',Inv X pins σ' H' s'∧Q σ' H') X.xe s
def PGs (X:Cx) (ts:List Expr) (t:TGs):Prop :=
 ∀ (pins:List (Addr×Obj)) (s:Shared) (σ:St) (H:Hp) (vs:List V) (us:List Value) (Q:St→Hp→Prop),Inv X pins σ H s→Vals vs us→t vs σ H Q →
  wpAny (model X.prog X.w) X.A (assignInOrder ((assignEach ts X.env).map (·.2)) us) (fun _ s'=>∃ σ' H',Inv X pins σ' H' s'∧Q σ' H') X.xe s
abbrev TSet:=V→V→V→Hp→(Hp→Prop)→Prop
def PSet (X:Cx) (t:TSet):Prop :=
 ∀ (pins:List (Addr×Obj)) (s:Shared) (σ:St) (H:Hp) (o i v:V) (ov iv u:Value) (Q:Hp→Prop),Inv X pins σ H s→RelV o ov→RelV i iv→RelV v u→t o i v H Q →
  wpAny (model X.prog X.w) X.A (setItem ov iv u) (fun _ s'=>∃ H',Inv X pins σ H' s'∧Q H') X.xe s
section
variable {X:Cx} {pos:Pos}
def gName (i:Nat):TG:=fun v σ H Q=>Q (σ.set i (some v)) H
theorem pg_name {i:Nat} {x:Str} (hN:X.N.Nodup) (hi:X.N[i]?=some x) (hx:Loc X.env.scope x) (hf:X.fn x=true∨X.env.scope.names.lookup x=some .local:=by first | exact .inl rfl | exact .inr rfl | assumption):PG X (.Name x pos) (gName i):=by
 intro pins s σ H v u Q I r h
 exact wpAny_assign_Name (store_ok I hN hi hx r (fun s' I'=>⟨_,H,I',h⟩) hf)
def gNil:TGs:=fun vs σ H Q=>vs=[]∧Q σ H
def gCons (t:TG) (u:TGs):TGs:=fun vs σ H Q=>∃ v r,vs=v :: r∧t v σ H fun σ' H'=>u r σ' H' Q
theorem pgs_nil:PGs X [] gNil:=by
 intro pins s σ H vs us Q I r h
 obtain ⟨e,h⟩:=h
 subst e
 cases r
 exact assignInOrder_nil ⟨σ,H,I,h⟩
theorem pgs_cons {e:Expr} {es:List Expr} {t:TG} {u:TGs} (h1:PG X e t) (h2:PGs X es u)
  (hs:(assignEach (e :: es) X.env).map (·.2)=assign e X.env :: (assignEach es X.env).map (·.2):=by rfl):PGs X (e :: es) (gCons t u):=by
 intro pins s σ H vs us Q I r h
 obtain ⟨v,vr,e1,h⟩:=h
 subst e1
 cases r with
 | cons r rr =>
  rw [hs]
  refine assignInOrder_cons (thn (h1 pins s σ H _ _ _ I r h) fun _ s1 ⟨σ1,H1,I1,q1⟩=>?_)
  exact h2 pins s1 σ1 H1 _ _ Q I1 rr q1
def gSub (to ti:TE) (t:TSet):TG:=fun v σ H Q=>to σ H fun o H1=>ti σ H1 fun i H2=>t o i v H2 fun H3=>Q σ H3
theorem pg_sub {o i:Expr} {to ti:TE} {t:TSet} (ho:PE X o to) (hi:PE X i ti) (hs:PSet X t)
  (ha:∀ v,assign (.Subscript o i pos) X.env v=(do
   let ov ← holding [v] (eval o X.env)
   let iv ← holding [v,ov] (eval i X.env)
   standAt pos
   holding [v,ov,iv] (setItem ov iv v)
   release [v,ov,iv] []):=by intro _; rfl):PG X (.Subscript o i pos) (gSub to ti t):=by
 intro pins s σ H v u Q I r h
 rw [ha]
 refine wpAny_bind (wpAny_holding (thn (ho pins s σ H _ I h) fun ov s1 ⟨x,H1,I1,r1,q1⟩=>?_))
 refine wpAny_bind (wpAny_holding (thn (hi pins s1 σ H1 _ I1 q1) fun iv s2 ⟨y,H2,I2,r2,q2⟩=>?_))
 refine wpAny_bind (wpAny_standAt (wpAny_bind (wpAny_holding (thn (hs pins s2 σ H2 x y v ov iv u _ I2 r1 r2 r q2) fun _ s3 ⟨H3,I3,q3⟩=>?_))))
 exact wpAny_release ⟨σ,H3,I3,q3⟩
def tAsg (te:TE) (g:TG):TS:=fun D σ H=>te σ H fun x H1=>g x σ H1 D.nx
theorem ps_asg {tg e:Expr} {te:TE} {g:TG} (he:PE X e te) (hg:PG X tg g) (hs:swapsWithSole [tg] e pos.line X.env=pure false:=by rfl) (hw:swappedStores [tg] e X.env=pure none:=by rfl)
  (h1:(assignEach [tg] X.env).map (·.2)=[assign tg X.env]:=by rfl):PS X (.Assign [tg] e pos) (tAsg te g):=by
 intro pins s σ H D I h
 refine wpAny_Assign_stores (thn (he pins s σ H _ I h) fun v s1 ⟨x,H1,I1,r1,q1⟩=>?_) hs hw
 rw [h1]
 exact thn (hg pins s1 σ H1 x v _ I1 r1 q1) fun _ s2 q=>q
theorem ps_set {i:Nat} {x:Str} {e:Expr} {te:TE} {pos':Pos} (hN:X.N.Nodup) (hi:X.N[i]?=some x) (hx:Loc X.env.scope x) (he:PE X e te) (hs:swapsWith e (some (.Name x pos')) pos.line X.env=pure false:=by rfl) (hf:X.fn x=true∨X.env.scope.names.lookup x=some .local:=by first | exact .inl rfl | exact .inr rfl | assumption) :
  PS X (.Assign [.Name x pos'] e pos) (tAsg te (gName i)):=by
 intro pins s σ H D I h
 refine wpAny_Assign_Name (thn (he pins s σ H _ I h) fun v s1 ⟨y,H1,I1,r1,q1⟩=>?_) hs
 exact store_ok I1 hN hi hx r1 (fun s2 I2=>⟨_,H1,I2,q1⟩) hf
end
section
variable {X:Cx} {pos:Pos}
end
structure It where
 go:Nat→Hp→Prop
 yld:Nat→Hp→V→Hp→Prop
 stop:Nat→Hp→Prop
def FpOk (X:Cx) (pins:List (Addr×Obj)) (H:Hp) (b:Addr):Prop :=
 H b=none∧b≠X.env.locals∧b ∉ X.fs∧(b∈X.ex∨X.s₀.heap.objs.size≤b)∧(∀ x c,X.env.cells.lookup x=some c→c≠b)∧∀ p∈X.pn++pins,p.1≠b
theorem Inv.fpOk {X:Cx} {pins:List (Addr×Obj)} {σ:St} {H H':Hp} {s:Shared} {b:Addr} (I:Inv X pins σ H s) (hb:s.heap.objs.size≤b) (hn:H' b=none):FpOk X pins H' b:=by
 refine ⟨hn,Nat.ne_of_gt (Nat.lt_of_lt_of_le I.lt hb),I.nofs hb,.inr (Nat.le_trans I.sz hb),fun x c e z=>?_,fun p hp z=>?_⟩
 ·obtain ⟨v,q⟩:=I.cell x c e
  exact absurd (Nat.lt_of_lt_of_le q.lt (by rw [z]; exact hb)) (Nat.lt_irrefl _)
 ·exact absurd (Nat.lt_of_lt_of_le (Heap.lt_size (I.pin p hp).1) (by rw [z]; exact hb)) (Nat.lt_irrefl _)
structure Turn (P:Program) (w:World) (K:PySem.W.Frag) (tg:Expr) (J:It) (fp:List Addr) (it:Addr) (tn:Nat→Heap→Prop):Prop where
 mem:it∈fp
 obj:∀ i h,tn i h→∀ b∈fp,∃ o,h.get? b=some o∧∀ v,o.data≠.cell v
 keep:∀ i h h',tn i h→(∀ b∈fp,∀ o,h.get? b=some o→h'.get? b=some o)→tn i h'
 item:∀ (X:Cx),X.prog=P→X.w=w→X.K=K→X.calm=true→∀ (i:Nat) (pins:List (Addr×Obj)) (s:Shared) (σ:St) (H:Hp) (E:Value→Shared→Prop),Inv X pins σ H s→(∀ b∈fp,FpOk X pins H b)→tn i s.heap→J.go i H →
  wpAny (model P w) X.A (pyNext (.ref it)) (fun r s1=>∃ u,r=some u ∧
   wpAny (model P w) X.A (letOwnedTupleGo tg (.ref it) u) (fun _ s2=>∃ x H',Inv X pins σ H' s2∧RelV x u∧J.yld i H x H'∧tn (i + 1) s2.heap∧∀ b∈fp,H' b=none) E s1) E s
 done:∀ (X:Cx),X.prog=P→X.w=w→X.K=K→X.calm=true→∀ (i:Nat) (pins:List (Addr×Obj)) (s:Shared) (σ:St) (H:Hp) (E:Value→Shared→Prop),Inv X pins σ H s→(∀ b∈fp,FpOk X pins H b)→tn i s.heap→J.stop i H →
  wpAny (model P w) X.A (pyNext (.ref it)) (fun r s1=>r=none∧Inv X pins σ H s1) E s
 self:∀ (A:Around) (i:Nat) (s:Shared) (Q:Value→Shared→Prop) (E:Value→Shared→Prop),tn i s.heap→Q (.ref it) s→wpAny (model P w) A (pyIter (.ref it)) Q E s
abbrev TI:=St→Hp→(It→Hp→Prop)→Prop
def PIE (X:Cx) (pins:List (Addr×Obj)) (σ:St) (tg:Expr) (R:It→Hp→Prop) (itv:Value) (s2:Shared):Prop :=
 ∃ (it:Addr) (fp:List Addr) (tn:Nat→Heap→Prop) (J:It) (H':Hp),itv=.ref it∧Inv X pins σ H' s2∧Turn X.prog X.w X.K tg J fp it tn∧tn 0 s2.heap∧(∀ b∈fp,FpOk X pins H' b)∧R J H'
def PI (X:Cx) (tg iter:Expr) (wi:TI):Prop :=
 ∀ (pins:List (Addr×Obj)) (s:Shared) (σ:St) (H:Hp) (R:It→Hp→Prop),Inv X pins σ H s→wi σ H R →
  wpAny (model X.prog X.w) X.A (eval iter X.env) (fun v s1=>wpAny (model X.prog X.w) X.A (pyIter v) (PIE X pins σ tg R) X.xe s1) X.xe s
theorem go_of {M:Model} {A:Around} {E:Value→Shared→Prop} {s:Shared} {tg:Expr} {it:Addr} {u:Value} {o:Obj} {n:String} {vs:Array Value} {Q:Unit→Shared→Prop} (ho:s.heap.get? it=some o) (hc:o.cls=.type n) (hd:o.data=.fields vs)
  (hn:["enumerate","zip","dict_itemiterator","dict_reverseitemiterator","odict_iterator","itertools.zip_longest","itertools.pairwise"].contains n=false) (hQ:Q () s):wpAny M A (letOwnedTupleGo tg (.ref it) u) Q E s:=by
 unfold letOwnedTupleGo
 cases tg <;> first
  | exact wpAny_pure hQ
  | (cases u <;> first
    | exact wpAny_pure hQ
    | (refine wpAny_bind (wpAny_load ho ?_)
       rw [hc,hd]
       show wpAny M A (if (["enumerate","zip","dict_itemiterator","dict_reverseitemiterator","odict_iterator","itertools.zip_longest","itertools.pairwise"].contains n && vs[0]? == some (rawInt _))=true then _ else _) Q E s
       rw [if_neg (by intro h; rw [hn,Bool.false_and] at h; cases h)]
       exact wpAny_pure hQ))
def Itl (K:PySem.W.Frag) (a:Addr):It :=
 ⟨fun i H=>∃ xs x,SqL K H a xs∧xs[i]?=some x,fun i H x H'=>H'=H∧∀ xs,SqL K H a xs→xs[i]?=some x,fun i H=>∃ xs,SqL K H a xs∧xs.length≤i⟩
def Itr (lo:Int) (n:Nat):It:=⟨fun i _=>i < n,fun i H x H'=>H'=H∧x=.int (lo + i),fun i _=>n≤i⟩
theorem turn_list {P:Program} {w:World} {K:PySem.W.Frag} {tg:Expr} (a it:Addr):Turn P w K tg (Itl K a) [it] it (fun i h=>h.IsListIter it a i) where
 mem:=by simp
 obj:=fun i h st b hb=>by
  have e:b=it:=by simpa using hb
  subst e
  obtain ⟨o,e,c,d⟩:=st
  exact ⟨o,e,fun v z=>by rw [d] at z; cases z⟩
 keep:=fun i h h' st k=>st.at fun o e=>k it (by simp) o e
 item:=by
  intro X hP hw hK hc i pins s σ H E I hf st hg
  subst hP hw hK
  obtain ⟨xs,x,hq,hx⟩:=hg
  obtain ⟨its,rv,p,hz⟩:=I.list hq
  obtain ⟨u,hu,ru⟩:=rv.get hx
  obtain ⟨f0,f1,f2,f3,f4,f5⟩:=hf it (by simp)
  refine wpAny_pyNext_list_item st p.isList (x:=u) (by simpa using hu) fun h' st' sb=>?_
  have I1:Inv X pins σ H { s with heap:=h' }:=I.turned (t':=s.toks) (fun b o hb e=>(sb.2 b hb).trans e) f0 f1 f3 f4 f5
  obtain ⟨o,e,c,d⟩:=id st'
  exact ⟨u,rfl,go_of (s:={ s with heap:=h' }) e c d (by decide) ⟨x,H,I1,ru,⟨rfl,fun ys hy=>by rw [I.list_inj hy hq]; exact hx⟩,st',fun b hb=>(hf b hb).1⟩⟩
 done:=by
  intro X hP hw hK hc i pins s σ H E I hf st hg
  subst hP hw hK
  obtain ⟨xs,hq,hx⟩:=hg
  obtain ⟨its,rv,p,hz⟩:=I.list hq
  obtain ⟨f0,f1,f2,f3,f4,f5⟩:=hf it (by simp)
  have hl:=rv.length
  exact wpAny_pyNext_list_end (I.ok.hd hc) st p.isList (by simp; lia) fun h' eb=>⟨rfl,I.turned (t':=s.toks) (fun b o hb e=>eb b o hb e) f0 f1 f3 f4 f5⟩
 self:=fun _ _ _ _ _ st h=>wpAny_pyIter_listiter st h
theorem turn_range {P:Program} {w:World} {K:PySem.W.Frag} {tg:Expr} (it:Addr) (lo:Int) (n:Nat):Turn P w K tg (Itr lo n) [it] it (fun i h=>IsRangeIter h it (lo + (i:Nat) * 1) ((n:Int) - (i:Nat)) 1) where
 mem:=by simp
 obj:=fun i h st b hb=>by
  have e:b=it:=by simpa using hb
  subst e
  exact ⟨_,st,fun v z=>by
   have z':Data.fields _=Data.cell v:=z
   cases z'⟩
 keep:=fun i h h' st k=>k it (by simp) _ st
 item:=by
  intro X hP hw hK hc i pins s σ H E I hf st hg
  subst hP hw hK
  obtain ⟨f0,f1,f2,f3,f4,f5⟩:=hf it (by simp)
  have W:=Walks.range (prog:=X.prog) (w:=X.w) (I.ok.hd hc) it lo 1 n
  refine W.item i s _ _ hg st fun v h' tk hv st' kk=>?_
  obtain ⟨t,rfl⟩:=hv
  have I1:Inv X pins σ H { s with heap:=h',toks:=tk }:=I.turned (fun b o hb e=>kk b o (by simpa using hb) e) f0 f1 f3 f4 f5
  refine ⟨_,rfl,go_of (s:={ s with heap:=h',toks:=tk }) (n:="range_iterator") st' rfl rfl (by decide) ⟨.int (lo + i),H,I1,⟨t,?_⟩,⟨rfl,rfl⟩,st',fun b hb=>(hf b hb).1⟩⟩
  rw [Int.mul_one]
 done:=by
  intro X hP hw hK hc i pins s σ H E I hf st hg
  subst hP hw hK
  obtain ⟨f0,f1,f2,f3,f4,f5⟩:=hf it (by simp)
  exact wpAny_pyNext_range_end (I.ok.hd hc) st (by have:n≤i:=hg; lia) fun h' eb=>⟨rfl,I.turned (t':=s.toks) (fun b o hb e=>eb b o hb e) f0 f1 f3 f4 f5⟩
 self:=fun _ _ _ _ _ st h=>wpAny_pyIter_rangeiter st h
section
variable {X:Cx} {tg:Expr}
def iList (K:PySem.W.Frag) (tl:TE):TI:=fun σ H R=>tl σ H fun x H1=>∃ a,x=.ref a∧(∃ xs,SqL K H1 a xs)∧R (Itl K a) H1
theorem pi_list {l:Expr} {tl:TE} (hl:PE X l tl):PI X tg l (iList X.K tl):=by
 intro pins s σ H R I h
 refine thn (hl pins s σ H _ I h) fun v s1 ⟨x,H1,I1,r1,q1⟩=>?_
 obtain ⟨a,e,⟨xs,hq⟩,q⟩:=q1
 subst e
 cases r1
 obtain ⟨its,rv,p,hz⟩:=I1.list hq
 refine wpAny_pyIter_list p.isList ?_
 refine ⟨s1.heap.objs.size,[s1.heap.objs.size],_,_,H1,rfl,I1.kept (t':=s1.toks) fun b o e=>Heap.get?_push_of_some _ e,turn_list a _,⟨_,Heap.get?_push_size _ rfl,rfl,rfl⟩,fun b hb=>?_,q⟩
 have e:b=s1.heap.objs.size:=by simpa using hb
 subst e
 exact I1.fpOk (Nat.le_refl _) (I1.hok.fresh (Nat.le_refl _))
theorem range_it {pins:List (Addr×Obj)} {σ:St} {H:Hp} {s:Shared} {R:It→Hp→Prop} {E:Value→Shared→Prop} {lo hi:Int} {t u v:Tok} {tk:Nat} (I:Inv X pins σ H s) (h1:-(2 ^ 62)≤lo) (h2:lo < 2 ^ 62) (h3:-(2 ^ 62)≤hi) (h4:hi < 2 ^ 62)
  (q:R (Itr lo (hi - lo).toNat) H):wpAny (model X.prog X.w) X.A (pyIter (.ref s.heap.objs.size)) (PIE X pins σ tg R) E { s with heap:=s.heap.push { cls:=.type "range",data:=.fields #[.int lo t,.int hi u,.int 1 v] },toks:=tk }:=by
 refine wpAny_pyIter_range (IsRange.new ..) (small_one h1 h2 h3 h4) ?_
 have I1:Inv X pins σ H { s with heap:=s.heap.push { cls:=.type "range",data:=.fields #[.int lo t,.int hi u,.int 1 v] },toks:=tk }:=I.kept fun b o e=>Heap.get?_push_of_some _ e
 refine ⟨(s.heap.push { cls:=.type "range",data:=.fields #[.int lo t,.int hi u,.int 1 v] }).objs.size,[(s.heap.push { cls:=.type "range",data:=.fields #[.int lo t,.int hi u,.int 1 v] }).objs.size],_,_,H,rfl,
  I1.kept (t':=tk) fun b o e=>Heap.get?_push_of_some _ e,turn_range _ lo (hi - lo).toNat,?_,fun b hb=>?_,q⟩
 ·have e1:lo + ((0:Nat):Int) * 1=lo:=by simp
  have e2:(((hi - lo).toNat:Nat):Int) - ((0:Nat):Int)=Builtin.Range.rangeSize lo hi 1:=by rw [rangeSize_one]; split <;> lia
  show IsRangeIter _ _ (lo + ((0:Nat):Int) * 1) ((((hi - lo).toNat:Nat):Int) - ((0:Nat):Int)) 1
  rw [e1,e2]
  exact Heap.get?_push_size _ rfl
 ·have e:b=(s.heap.push { cls:=.type "range",data:=.fields #[.int lo t,.int hi u,.int 1 v] }).objs.size:=by simpa using hb
  subst e
  exact I1.fpOk (Nat.le_refl _) (I1.hok.fresh (Nat.le_refl _))
def iRng1 (ta:TA):TI:=fun σ H R=>ta σ H fun vs H1=>∃ j:Int,vs=[.int j]∧-(2 ^ 62)≤j∧j < 2 ^ 62∧R (Itr 0 j.toNat) H1
def iRng2 (ta:TA):TI:=fun σ H R=>ta σ H fun vs H1=>∃ i j:Int,vs=[.int i,.int j]∧(-(2 ^ 62)≤i∧i < 2 ^ 62∧-(2 ^ 62)≤j∧j < 2 ^ 62)∧R (Itr i (j - i).toNat) H1
theorem pi_range1 {a:Expr} {ta:TA} {p pos:Pos} (hg:Gl X "range") (hm:X.mg "range"=none) (ha:PA X [a] ta) (hs:starEach [a] X.env=[(false,eval a X.env)]:=by rfl):PI X tg (.Call (.Name "range" p) [a] [] pos) (iRng1 ta):=by
 intro pins s σ H R I h
 refine Call_ (ld_blt I hg hm boot_range (PyProof.Rows.callWith_type1 (thn (ha pos pins s σ H _ I h) fun us s1 ⟨vs,H1,I1,r1,q1⟩=>?_) hs rfl))
 obtain ⟨j,e,q1,q2,q⟩:=q1
 subst e
 cases r1 with
 | cons r rr =>
  cases rr
  obtain ⟨t,rfl⟩:=r
  exact call_range_1 (range_it I1 (by lia) (by lia) q1 q2 (by simpa using q))
theorem pi_range2 {a b:Expr} {ta:TA} {p pos:Pos} (hg:Gl X "range") (hm:X.mg "range"=none) (ha:PA X [a,b] ta) (hs:starEach [a,b] X.env=[(false,eval a X.env),(false,eval b X.env)]:=by rfl) (hs2:starEach [b] X.env=[(false,eval b X.env)]:=by rfl) :
  PI X tg (.Call (.Name "range" p) [a,b] [] pos) (iRng2 ta):=by
 intro pins s σ H R I h
 refine Call_ (ld_blt I hg hm boot_range (PyProof.Rows.callWith_type1 (thn (ha pos pins s σ H _ I h) fun us s1 ⟨vs,H1,I1,r1,q1⟩=>?_) (by rw [hs,hs2]) (by rw [hs2]; rfl)))
 obtain ⟨i,j,e,⟨q1,q2,q3,q4⟩,q⟩:=q1
 subst e
 cases r1 with
 | cons r rr =>
  cases rr with
  | cons r' rr =>
   cases rr
   obtain ⟨t,rfl⟩:=r
   obtain ⟨t',rfl⟩:=r'
   exact call_range_2 (range_it I1 q1 q2 q3 q4 q)
def tFor (wi:TI) (g:TG) (tb:TS):TS:=fun D σ H=>wi σ H fun J H1=>∃ W:Nat→Nat→St→Hp→Prop,(∃ m,W 0 m σ H1)∧∀ i m σ H,W i m σ H →
 (J.stop i H∧D.nx σ H)∨(J.go i H∧∃ N:St→Hp→Prop,(∀ σ' H',N σ' H'→∃ m',m' < m∧W (i + 1) m' σ' H')∧∀ x H',J.yld i H x H'→g x σ H' fun σ2 H2=>tb { D with nx:=N,ct:=N,bk:=D.nx } σ2 H2)
def pinsAt (fp:List Addr) (h:Heap):List (Addr×Obj):=fp.filterMap fun b=>(h.get? b).map fun o=>(b,o)
theorem mem_pinsAt {fp:List Addr} {h:Heap} {b:Addr} {o:Obj} (hb:b∈fp) (e:h.get? b=some o):(b,o)∈pinsAt fp h:=List.mem_filterMap.mpr ⟨b,hb,by rw [e]; rfl⟩
theorem of_pinsAt {fp:List Addr} {h:Heap} {p:Addr×Obj} (hp:p∈pinsAt fp h):p.1∈fp∧h.get? p.1=some p.2:=by
 obtain ⟨b,hb,e⟩:=List.mem_filterMap.mp hp
 cases q:h.get? b with
 | none=>rw [q] at e; cases e
 | some o =>
  rw [q] at e
  have e':(b,o)=p:=Option.some.inj e
  subst e'
  exact ⟨hb,q⟩
theorem Inv.pinned {pins:List (Addr×Obj)} {σ:St} {H:Hp} {s:Shared} {fp:List Addr} (I:Inv X pins σ H s) (hf:∀ b∈fp,FpOk X pins H b) (ho:∀ b∈fp,∃ o,s.heap.get? b=some o∧∀ v,o.data≠.cell v):Inv X (pins++pinsAt fp s.heap) σ H s :=
 I.pins_of fun p hp=>(List.mem_append.mp hp).elim (fun z=>I.pin p (List.mem_append_right _ z)) fun z=>by
  obtain ⟨hb,e⟩:=of_pinsAt z
  obtain ⟨f0,f1,f2,_⟩:=hf p.1 hb
  obtain ⟨o,e',d⟩:=ho p.1 hb
  rw [e] at e'; cases e'
  exact ⟨e,f0,f1,f2,d⟩
theorem Inv.unpinned {pins pl:List (Addr×Obj)} {σ:St} {H:Hp} {s:Shared} (I:Inv X (pins++pl) σ H s):Inv X pins σ H s:=I.pins_of fun p hp=>I.pin p (List.mem_append_right _ (List.mem_append_left _ hp))
theorem ps_for {iter:Expr} {body:List Stmt} {wi:TI} {g:TG} {tb:TS} {pos:Pos} (hp:PassesOwn (model X.prog X.w) X.A X.env X.xe) (hc:X.calm=true) (hi:PI X tg iter wi) (hg:PG X tg g) (hb:PSs X body tb)
  (hs:∀ x,foldedSetIterable iter X.env x=pure x:=by intro _; rfl):PS X (.For tg iter body [] pos) (tFor wi g tb):=by
 intro pins s σ H D I h
 refine wpAny_For (thn (hi pins s σ H _ I h) fun v s1 h1=>thn h1 fun itv s2 h2=>?_) hs
 obtain ⟨it,fp,tn,J,H2,e,I2,T,st2,f2,W,⟨m0,w0⟩,turn⟩:=h2
 subst e
 have stat:∀ {H':Hp},(∀ b∈fp,H' b=none)→∀ b∈fp,FpOk X pins H' b:=fun hn b hb=>⟨hn b hb,(f2 b hb).2⟩
 refine codeAny_forLoop_any (fun n s'=>∃ i σ' H',Inv X pins σ' H' s'∧tn i s'.heap∧(∀ b∈fp,H' b=none)∧W i n σ' H') ?_ m0 ⟨0,σ,H2,I2,st2,fun b hb=>(f2 b hb).1,w0⟩
 rintro n s3 ⟨i,σ3,H3,I3,st3,fr3,w3⟩
 rcases turn i n σ3 H3 w3 with ⟨stop,qn⟩ | ⟨go,N,hN,step⟩
 ·refine wpAny_passesOwn hp (thn (T.done X rfl rfl rfl hc i pins s3 σ3 H3 X.xe I3 (stat fr3) st3 stop) fun r s4 ⟨hr,I4⟩=>?_)
  subst hr
  exact wpAny_execs_nil ⟨σ3,H3,I4,qn⟩
 ·refine wpAny_passesOwn hp (thn (T.item X rfl rfl rfl hc i pins s3 σ3 H3 X.xe I3 (stat fr3) st3 go) fun r s4 ⟨u,hr,h4⟩=>?_)
  subst hr
  refine wpAny_passesOwn hp (thn h4 fun _ s5 ⟨x,H5,I5,r5,y5,st5,fr5⟩=>?_)
  have I5':=I5.pinned (stat fr5) (T.obj _ _ st5)
  refine wpAny_passesOwn hp (thn (hg _ s5 σ3 H5 x u _ I5' r5 (step x H5 y5)) fun _ s6 ⟨σ6,H6,I6,q6⟩=>?_)
  refine wpAny_passesOwn hp (thn (hb _ s6 σ6 H6 _ I6 q6) fun f s7 q7=>?_)
  have again:∀ {σ7:St} {H7:Hp},Inv X (pins++pinsAt fp s5.heap) σ7 H7 s7→N σ7 H7→∃ m,m < n∧∃ i σ' H',Inv X pins σ' H' s7∧tn i s7.heap∧(∀ b∈fp,H' b=none)∧W i m σ' H':=fun {σ7 H7} I7 n7=>by
   obtain ⟨m',hm,w7⟩:=hN σ7 H7 n7
   refine ⟨m',hm,i + 1,σ7,H7,I7.unpinned,T.keep _ _ _ st5 fun b hb o e=>(I7.pin (b,o) (List.mem_append_right _ (List.mem_append_right _ (mem_pinsAt hb e)))).1,fun b hb=>?_,w7⟩
   obtain ⟨o,e,d⟩:=T.obj _ _ st5 b hb
   exact (I7.pin (b,o) (List.mem_append_right _ (List.mem_append_right _ (mem_pinsAt hb e)))).2.1
  cases f with
  | next=>obtain ⟨σ7,H7,I7,n7⟩:=q7; exact again I7 n7
  | cont=>obtain ⟨σ7,H7,I7,n7⟩:=q7; exact again I7 n7
  | brk=>obtain ⟨σ7,H7,I7,q7⟩:=q7; exact ⟨σ7,H7,I7.unpinned,q7⟩
  | ret v=>obtain ⟨x7,σ7,H7,I7,r7,q7⟩:=q7; exact ⟨x7,σ7,H7,I7.unpinned,r7,q7⟩
end
theorem for_list {K:PySem.W.Frag} {a:Addr} {xs:List V} {g:TG} {tb:TS} {D:Ends} {σ:St} {H:Hp} (Pv:Nat→St→Hp→Prop) (h0:Pv 0 σ H) (hl:∀ i σ H,i≤xs.length→Pv i σ H→SqL K H a xs)
  (hs:∀ i x σ H,xs[i]?=some x→Pv i σ H→g x σ H fun σ2 H2=>tb { D with nx:=Pv (i + 1),ct:=Pv (i + 1),bk:=D.nx } σ2 H2) (hd:∀ σ H,Pv xs.length σ H→D.nx σ H) :
  ∃ W:Nat→Nat→St→Hp→Prop,(∃ m,W 0 m σ H)∧∀ i m σ H,W i m σ H →
   ((Itl K a).stop i H∧D.nx σ H)∨((Itl K a).go i H∧∃ N:St→Hp→Prop,(∀ σ' H',N σ' H'→∃ m',m' < m∧W (i + 1) m' σ' H')∧∀ x H',(Itl K a).yld i H x H'→g x σ H' fun σ2 H2=>tb { D with nx:=N,ct:=N,bk:=D.nx } σ2 H2):=by
 refine ⟨fun i m σ H=>m=xs.length - i∧i≤xs.length∧Pv i σ H,⟨xs.length,by simp,Nat.zero_le _,h0⟩,?_⟩
 rintro i m σ H ⟨rfl,hi,p⟩
 have q:=hl i σ H hi p
 by_cases hlt:i < xs.length
 ·refine .inr ⟨⟨xs,xs[i],q,by simp [hlt]⟩,Pv (i + 1),fun σ' H' p'=>⟨xs.length - (i + 1),by lia,rfl,hlt,p'⟩,fun x H' y=>?_⟩
  obtain ⟨e,y⟩:=y
  subst e
  exact hs i x σ _ (y xs q) p
 ·have e:i=xs.length:=by lia
  subst e
  exact .inl ⟨⟨xs,q,Nat.le_refl _⟩,hd σ H p⟩
theorem for_range {lo:Int} {n:Nat} {g:TG} {tb:TS} {D:Ends} {σ:St} {H:Hp} (Pv:Nat→St→Hp→Prop) (h0:Pv 0 σ H)
  (hs:∀ i σ H,i < n→Pv i σ H→g (.int (lo + i)) σ H fun σ2 H2=>tb { D with nx:=Pv (i + 1),ct:=Pv (i + 1),bk:=D.nx } σ2 H2) (hd:∀ σ H,Pv n σ H→D.nx σ H) :
  ∃ W:Nat→Nat→St→Hp→Prop,(∃ m,W 0 m σ H)∧∀ i m σ H,W i m σ H →
   ((Itr lo n).stop i H∧D.nx σ H)∨((Itr lo n).go i H∧∃ N:St→Hp→Prop,(∀ σ' H',N σ' H'→∃ m',m' < m∧W (i + 1) m' σ' H')∧∀ x H',(Itr lo n).yld i H x H'→g x σ H' fun σ2 H2=>tb { D with nx:=N,ct:=N,bk:=D.nx } σ2 H2):=by
 refine ⟨fun i m σ H=>m=n - i∧i≤n∧Pv i σ H,⟨n,by simp,Nat.zero_le _,h0⟩,?_⟩
 rintro i m σ H ⟨rfl,hi,p⟩
 by_cases hlt:i < n
 ·refine .inr ⟨hlt,Pv (i + 1),fun σ' H' p'=>⟨n - (i + 1),by lia,rfl,hlt,p'⟩,fun x H' y=>?_⟩
  obtain ⟨e,y⟩:=y
  subst e y
  exact hs i σ _ hlt p
 ·have e:i=n:=by lia
  subst e
  exact .inl ⟨Nat.le_refl _,hd σ H p⟩
abbrev R2:=V→V→Hp→VK→Prop
def OpR (X:Cx) (f:Value→Value→Sem Value) (r:R2):Prop :=
 ∀ (pins:List (Addr×Obj)) (s:Shared) (σ:St) (H:Hp) (x y:V) (v u:Value) (Q:VK),Inv X pins σ H s→RelV x v→RelV y u→r x y H Q →
  wpAny (model X.prog X.w) X.A (f v u) (EP X pins σ Q) X.xe s
def UnR (X:Cx) (f:Value→Sem Value) (r:V→Hp→VK→Prop):Prop :=
 ∀ (pins:List (Addr×Obj)) (s:Shared) (σ:St) (H:Hp) (x:V) (v:Value) (Q:VK),Inv X pins σ H s→RelV x v→r x H Q →
  wpAny (model X.prog X.w) X.A (f v) (EP X pins σ Q) X.xe s
def CallR (X:Cx) (f:Value) (r:List V→Hp→VK→Prop):Prop :=
 ∀ (pins:List (Addr×Obj)) (s:Shared) (σ:St) (H:Hp) (xs:List V) (us:List Value) (Q:VK),Inv X pins σ H s→Vals xs us→r xs H Q →
  wpAny (model X.prog X.w) X.A (call f us) (EP X pins σ Q) X.xe s
def TruR (X:Cx) (r:V→Hp→(Bool→Hp→Prop)→Prop):Prop :=
 ∀ (pins:List (Addr×Obj)) (s:Shared) (σ:St) (H:Hp) (x:V) (v:Value) (Q:Bool→Hp→Prop),Inv X pins σ H s→RelV x v→r x H Q →
  wpAny (model X.prog X.w) X.A (truthy v) (TP X pins σ Q) X.xe s
def tOp (r:R2) (ta tb:TE):TE:=fun σ H Q=>ta σ H fun x H1=>tb σ H1 fun y H2=>r x y H2 Q
def tUn (r:V→Hp→VK→Prop) (ta:TE):TE:=fun σ H Q=>ta σ H fun x H1=>r x H1 Q
def rI (C:Int→Int→Prop) (g:Int→Int→V):R2:=fun x y H Q=>∃ i j,x=.int i∧y=.int j∧C i j∧Q (g i j) H
def rI0 (g:Int→Int→V):R2:=fun x y H Q=>∃ i j,x=.int i∧y=.int j∧Q (g i j) H
def rU (g:Int→V):V→Hp→VK→Prop:=fun x H Q=>∃ i,x=.int i∧Q (g i) H
section
variable {X:Cx} {a b c:Expr} {ta tb tc:TE} {pos:Pos}
theorem binT (ha:PE X a ta) (hb:PE X b tb) {pins:List (Addr×Obj)} {s:Shared} {σ:St} {H:Hp} {R:V→V→Hp→Prop} (I:Inv X pins σ H s)
  (h:ta σ H fun x H1=>tb σ H1 fun y H2=>R x y H2) {Q:Value→Shared→Prop} {f:Value→Value→Sem Value}
  (hf:∀ v u s2 x y H2,Inv X pins σ H2 s2→RelV x v→RelV y u→R x y H2→wpAny (model X.prog X.w) X.A (f v u) Q X.xe s2) :
  wpAny (model X.prog X.w) X.A (eval a X.env) (fun v s₁=>wpAny (model X.prog X.w) X.A (eval b X.env) (fun u s₂=>wpAny (model X.prog X.w) X.A (f v u) Q X.xe s₂) X.xe s₁) X.xe s:=by
 refine thn (ha pins s σ H _ I h) fun v s1 ⟨x,H1,I1,r1,q1⟩=>?_
 refine thn (hb pins s1 σ H1 _ I1 q1) fun u s2 ⟨y,H2,I2,r2,q2⟩=>?_
 exact hf v u s2 x y H2 I2 r1 r2 q2
theorem pe_op {op:Operator} {r:R2} (ho:OpR X (binaryOp op) r) (ha:PE X a ta) (hb:PE X b tb):PE X (.BinOp a op b pos) (tOp r ta tb):=by
 intro pins s σ H Q I h
 exact wpAny_BinOp (binT ha hb I h fun v u s2 x y H2 I2 rx ry q=>ho pins s2 σ H2 x y v u Q I2 rx ry q)
theorem pe_un {op:UnaryOp} {r:V→Hp→VK→Prop} (ho:UnR X (unaryOp op) r) (ha:PE X a ta):PE X (.UnaryOp op a pos) (tUn r ta):=by
 intro pins s σ H Q I h
 exact UnaryOp_ (thn (ha pins s σ H _ I h) fun v s1 ⟨x,H1,I1,r1,q1⟩=>ho pins s1 σ H1 x v Q I1 r1 q1)
theorem opI {f:Value→Value→Sem Value} {C:Int→Int→Prop} {g:Int→Int→Int}
  (rule:∀ (i j:Int) (t u:Tok) (s:Shared) (Q:Value→Shared→Prop) (E:Value→Shared→Prop),C i j→Q (.int (g i j) s.toks) { s with toks:=s.toks + 1 }→wpAny (model X.prog X.w) X.A (f (.int i t) (.int j u)) Q E s) :
  OpR X f (rI C fun i j=>.int (g i j)):=by
 intro pins s σ H x y v u Q I rx ry h
 obtain ⟨i,j,rfl,rfl,hc,q⟩:=h
 obtain ⟨t,rfl⟩:=rx
 obtain ⟨t',rfl⟩:=ry
 exact rule i j t t' s _ _ hc ⟨.int (g i j),H,I.tok _,⟨_,rfl⟩,q⟩
theorem opI0 {f:Value→Value→Sem Value} {g:Int→Int→Int}
  (rule:∀ (i j:Int) (t u:Tok) (s:Shared) (Q:Value→Shared→Prop) (E:Value→Shared→Prop),Q (.int (g i j) s.toks) { s with toks:=s.toks + 1 }→wpAny (model X.prog X.w) X.A (f (.int i t) (.int j u)) Q E s) :
  OpR X f (rI0 fun i j=>.int (g i j)):=by
 intro pins s σ H x y v u Q I rx ry h
 obtain ⟨i,j,rfl,rfl,q⟩:=h
 obtain ⟨t,rfl⟩:=rx
 obtain ⟨t',rfl⟩:=ry
 exact rule i j t t' s _ _ ⟨.int (g i j),H,I.tok _,⟨_,rfl⟩,q⟩
theorem opB0 {f:Value→Value→Sem Value} {g:Int→Int→Bool}
  (rule:∀ (i j:Int) (t u:Tok) (s:Shared) (Q:Value→Shared→Prop) (E:Value→Shared→Prop),Q (.bool (g i j)) s→wpAny (model X.prog X.w) X.A (f (.int i t) (.int j u)) Q E s) :
  OpR X f (rI0 fun i j=>.bl (g i j)):=by
 intro pins s σ H x y v u Q I rx ry h
 obtain ⟨i,j,rfl,rfl,q⟩:=h
 obtain ⟨t,rfl⟩:=rx
 obtain ⟨t',rfl⟩:=ry
 exact rule i j t t' s _ _ ⟨.bl (g i j),H,I,rfl,q⟩
def CDiv (i j:Int):Prop:=0 < j∧j < 1073741824
def CPow (i j:Int):Prop:=0≤j∧j≤1000000∧i.natAbs < 2 ^ 64
def CMul (i j:Int):Prop:=(-(2 ^ 64) < i∧i < 2 ^ 64)∨(-(2 ^ 64) < j∧j < 2 ^ 64)
theorem CMul.ok {i j:Int} (h:CMul i j):IntMulOk i j:=by
 rcases h with ⟨h1,h2⟩ | ⟨h1,h2⟩
 ·exact .of_left (intBits_le_64 h1 h2)
 ·exact .of_right (intBits_le_64 h1 h2)
theorem op_add:OpR X (binaryOp .Add) (rI0 fun i j=>.int (i + j)):=opI0 fun _ _ _ _ _ _ _ q=>add_int q
theorem op_sub:OpR X (binaryOp .Sub) (rI0 fun i j=>.int (i - j)):=opI0 fun _ _ _ _ _ _ _ q=>sub_int q
theorem op_mul:OpR X (binaryOp .Mult) (rI CMul fun i j=>.int (i * j)):=opI fun _ _ _ _ _ _ _ hc q=>mul_int q hc.ok
theorem op_fdiv:OpR X (binaryOp .FloorDiv) (rI CDiv fun i j=>.int (i / j)):=opI fun i j _ _ _ _ _ hc q=>by
 have h1:(0:Int) < j:=hc.1
 have h2:j < 1073741824:=hc.2
 exact floordiv_int (by lia) (by rw [Int.fdiv_eq_ediv_of_nonneg i (by lia)]; exact q) (.inl (PyProof.noPylong_small (by lia)))
theorem op_mod:OpR X (binaryOp .Mod) (rI (fun _ j=>0 < j) fun i j=>.int (i % j)):=opI fun i j _ _ _ _ _ hc q=>by
 have h1:(0:Int) < j:=hc
 exact mod_int' (by lia) (by rw [Int.fmod_eq_emod_of_nonneg i (by lia)]; exact q)
theorem op_pow:OpR X (binaryOp .Pow) (rI CPow fun i j=>.int (i ^ j.toNat)):=opI fun _ _ _ _ _ _ _ hc q=>pow_int_small hc.1 hc.2.1 hc.2.2 q
theorem unI {f:Value→Sem Value} {g:Int→Int}
  (rule:∀ (i:Int) (t:Tok) (s:Shared) (Q:Value→Shared→Prop) (E:Value→Shared→Prop),Q (.int (g i) s.toks) { s with toks:=s.toks + 1 }→wpAny (model X.prog X.w) X.A (f (.int i t)) Q E s) :
  UnR X f (rU fun i=>.int (g i)):=by
 intro pins s σ H x v Q I rx h
 obtain ⟨i,rfl,q⟩:=h
 obtain ⟨t,rfl⟩:=rx
 exact rule i t s _ _ ⟨.int (g i),H,I.tok _,⟨_,rfl⟩,q⟩
theorem un_neg:UnR X (unaryOp .USub) (rU fun i=>.int (-i)):=unI fun _ _ _ _ _ q=>neg_int q
end
def scal:V→V→Bool
 | .non,.non=>true | .non,.int _=>true | .int _,.non=>true | .non,.bl _=>true | .bl _,.non=>true | .non,.str _=>true | .str _,.non=>true
 | .int _,.int _=>true | .bl _,.bl _=>true | .str _,.str _=>true | .byt _,.byt _=>true
 | .int _,.str _=>true | .str _,.int _=>true | .bl _,.str _=>true | .str _,.bl _=>true
 | _,_=>false
def rEq:R2:=fun x y H Q=>scal x y=true∧Q (.bl (decide (x=y))) H
def rNe:R2:=fun x y H Q=>scal x y=true∧Q (.bl (!decide (x=y))) H
theorem dec_int {i j:Int}:decide (V.int i=V.int j)=(i == j):=by
 rw [Bool.eq_iff_iff]
 simp
theorem dec_bl {i j:Bool}:decide (V.bl i=V.bl j)=(i == j):=by
 rw [Bool.eq_iff_iff]
 simp
theorem dec_str {i j:Str}:decide (V.str i=V.str j)=(i == j):=by
 rw [Bool.eq_iff_iff]
 simp
theorem dec_byt {i j:Array UInt8}:decide (V.byt i=V.byt j)=(i.toList == j.toList):=by
 rw [Bool.eq_iff_iff]
 cases i
 cases j
 simp
section
variable {X:Cx} {a b c:Expr} {ta tb tc:TE} {pos:Pos}
theorem fin_bl {pins:List (Addr×Obj)} {σ:St} {H:Hp} {s:Shared} {Q:VK} {k k':Bool} (I:Inv X pins σ H s) (q:Q (.bl k) H) (e:k=k'):EP X pins σ Q (.bool k') s:=by
 subst e
 exact ⟨.bl k,H,I,rfl,q⟩
theorem op_eq:OpR X (compareOp .Eq) rEq:=by
 intro pins s σ H x y v u Q I rx ry h
 obtain ⟨hs,q⟩:=h
 cases x with
 | non =>
  cases rx
  cases y with
  | non=>cases ry; exact PySem.EqNone.eq_none_none (fin_bl I q (by simp))
  | bl j=>cases ry; exact PySem.EqNone.eq_none_bool (fin_bl I q (by simp))
  | int j=>obtain ⟨t',rfl⟩:=ry; exact PySem.EqNone.eq_none_int (fin_bl I q (by simp))
  | str j=>obtain ⟨t',rfl⟩:=ry; exact PySem.EqNone.eq_none_str (fin_bl I q (by simp))
  | _=>exact absurd (show false=true from hs) Bool.false_ne_true
 | bl i =>
  cases rx
  cases y with
  | non=>cases ry; exact PySem.EqNone.eq_bool_none (fin_bl I q (by simp))
  | bl j=>cases ry; exact eq_bool (fin_bl I q dec_bl)
  | str j=>obtain ⟨t',rfl⟩:=ry; exact PySem.EqMixed.eq_bool_str (fin_bl I q (by simp))
  | _=>exact absurd (show false=true from hs) Bool.false_ne_true
 | int i =>
  obtain ⟨t,rfl⟩:=rx
  cases y with
  | non=>cases ry; exact PySem.EqNone.eq_int_none (fin_bl I q (by simp))
  | int j=>obtain ⟨t',rfl⟩:=ry; exact eq_int (fin_bl I q dec_int)
  | str j=>obtain ⟨t',rfl⟩:=ry; exact PySem.EqMixed.eq_int_str (fin_bl I q (by simp))
  | _=>exact absurd (show false=true from hs) Bool.false_ne_true
 | str i =>
  obtain ⟨t,rfl⟩:=rx
  cases y with
  | non=>cases ry; exact PySem.EqNone.eq_str_none (fin_bl I q (by simp))
  | bl j=>cases ry; exact PySem.EqMixed.eq_str_bool (fin_bl I q (by simp))
  | int j=>obtain ⟨t',rfl⟩:=ry; exact PySem.EqMixed.eq_str_int (fin_bl I q (by simp))
  | str j=>obtain ⟨t',rfl⟩:=ry; exact eq_str (fin_bl I q dec_str)
  | _=>exact absurd (show false=true from hs) Bool.false_ne_true
 | byt i =>
  obtain ⟨t,rfl⟩:=rx
  cases y with
  | byt j=>obtain ⟨t',rfl⟩:=ry; exact PySem.W.eq_bytes (fin_bl I q dec_byt)
  | _=>exact absurd (show false=true from hs) Bool.false_ne_true
 | _=>cases y <;> exact absurd (show false=true from hs) Bool.false_ne_true
theorem op_ne:OpR X (compareOp .NotEq) rNe:=by
 intro pins s σ H x y v u Q I rx ry h
 obtain ⟨hs,q⟩:=h
 cases x with
 | non =>
  cases rx
  cases y with
  | non=>cases ry; exact PySem.EqNone.ne_none_none (fin_bl I q (by simp))
  | bl j=>cases ry; exact PySem.EqNone.ne_none_bool (fin_bl I q (by simp))
  | int j=>obtain ⟨t',rfl⟩:=ry; exact PySem.EqNone.ne_none_int (fin_bl I q (by simp))
  | str j=>obtain ⟨t',rfl⟩:=ry; exact PySem.EqNone.ne_none_str (fin_bl I q (by simp))
  | _=>exact absurd (show false=true from hs) Bool.false_ne_true
 | bl i =>
  cases rx
  cases y with
  | non=>cases ry; exact PySem.EqNone.ne_bool_none (fin_bl I q (by simp))
  | bl j=>cases ry; exact ne_bool (fin_bl I q (congrArg not dec_bl))
  | str j=>obtain ⟨t',rfl⟩:=ry; exact PySem.EqMixed.ne_bool_str (fin_bl I q (by simp))
  | _=>exact absurd (show false=true from hs) Bool.false_ne_true
 | int i =>
  obtain ⟨t,rfl⟩:=rx
  cases y with
  | non=>cases ry; exact PySem.EqNone.ne_int_none (fin_bl I q (by simp))
  | int j=>obtain ⟨t',rfl⟩:=ry; exact ne_int (fin_bl I q (congrArg not dec_int))
  | str j=>obtain ⟨t',rfl⟩:=ry; exact PySem.EqMixed.ne_int_str (fin_bl I q (by simp))
  | _=>exact absurd (show false=true from hs) Bool.false_ne_true
 | str i =>
  obtain ⟨t,rfl⟩:=rx
  cases y with
  | non=>cases ry; exact PySem.EqNone.ne_str_none (fin_bl I q (by simp))
  | bl j=>cases ry; exact PySem.EqMixed.ne_str_bool (fin_bl I q (by simp))
  | int j=>obtain ⟨t',rfl⟩:=ry; exact PySem.EqMixed.ne_str_int (fin_bl I q (by simp))
  | str j=>obtain ⟨t',rfl⟩:=ry; exact ne_str (fin_bl I q (congrArg not dec_str))
  | _=>exact absurd (show false=true from hs) Bool.false_ne_true
 | byt i =>
  obtain ⟨t,rfl⟩:=rx
  cases y with
  | byt j=>obtain ⟨t',rfl⟩:=ry; exact PySem.W.ne_bytes (fin_bl I q (congrArg not dec_byt))
  | _=>exact absurd (show false=true from hs) Bool.false_ne_true
 | _=>cases y <;> exact absurd (show false=true from hs) Bool.false_ne_true
theorem op_lt:OpR X (compareOp .Lt) (rI0 fun i j=>.bl (decide (i < j))):=opB0 fun _ _ _ _ _ _ _ q=>lt_int q
theorem op_le:OpR X (compareOp .LtE) (rI0 fun i j=>.bl (decide (i≤j))):=opB0 fun _ _ _ _ _ _ _ q=>le_int q
theorem op_gt:OpR X (compareOp .Gt) (rI0 fun i j=>.bl (decide (j < i))):=opB0 fun _ _ _ _ _ _ _ q=>gt_int q
theorem op_in_str:OpR X (compareOp .In) (fun x y H Q=>∃ i j,x=.str i∧y=.str j∧Q (.bl (!(Builtin.Str.occurrences j i 0 j.length 1).isEmpty)) H):=by
 intro pins s σ H x y v u Q I rx ry h
 obtain ⟨i,j,rfl,rfl,q⟩:=h
 obtain ⟨t,rfl⟩:=rx
 obtain ⟨t',rfl⟩:=ry
 exact in_str (fin_bl I q rfl)
theorem op_isN:OpR X (compareOp .Is) (fun x y H Q=>y=.non∧Q (.bl (decide (x=.non))) H):=by
 intro pins s σ H x y v u Q I rx ry h
 obtain ⟨rfl,q⟩:=h
 cases ry
 refine is_none_gen (fin_bl I q ?_)
 cases x <;> first
  | (cases rx; rfl)
  | (obtain ⟨t,rfl⟩:=rx; rfl)
theorem nomark (b:Expr) {op:CmpOp} (h:op≠.In:=by decide) (h2:op≠.NotIn:=by decide):behindInMarks op b=false:=by
 have e1:(op == CmpOp.In)=false:=by cases op <;> first | rfl | exact absurd rfl h
 have e2:(op == CmpOp.NotIn)=false:=by cases op <;> first | rfl | exact absurd rfl h2
 cases b <;> simp [behindInMarks,e1,e2]
theorem pe_cmpR {op:CmpOp} {r:R2} (ho:OpR X (compareOp op) r) (ha:PE X a ta) (hb:PE X b tb) (hm:behindInMarks op b=false):PE X (.Compare a [op] [b] pos) (tOp r ta tb):=by
 intro pins s σ H Q I h
 exact wpAny_Compare1 (binT ha hb I h fun v u s2 x y H2 I2 rx ry q=>ho pins s2 σ H2 x y v u Q I2 rx ry q) hm
def tTest (t:TE):TT:=fun σ H Q=>t σ H fun x H'=>∃ k,x=.bl k∧Q k H'
theorem pt_cmpR {op:CmpOp} {r:R2} (ho:OpR X (compareOp op) r) (ha:PE X a ta) (hb:PE X b tb) (hm:behindInMarks op b=false):PT X (.Compare a [op] [b] pos) (tTest (tOp r ta tb)):=by
 intro pins s σ H Q I h
 refine wpAny_isTrue_Compare1 (thn (ha pins s σ H _ I h) fun v s1 ⟨x,H1,I1,r1,q1⟩=>thn (hb pins s1 σ H1 _ I1 q1) fun u s2 ⟨y,H2,I2,r2,q2⟩ =>
  thn (ho pins s2 σ H2 x y v u _ I2 r1 r2 q2) fun c s3 ⟨z,H3,I3,r3,k,e,q3⟩=>?_) hm
 subst e
 cases r3
 exact wpAny_truthy_bool ⟨H3,I3,q3⟩
def tChain (r r':R2) (ta tb tc:TE):TE:=fun σ H Q=>ta σ H fun x H1=>tb σ H1 fun y H2=>r x y H2 fun z H3=>∃ k,z=.bl k ∧
 (if k=true then tc σ H3 fun w' H4=>r' y w' H4 Q else Q (.bl false) H3)
theorem pt_chain {op op':CmpOp} {r r':R2} (ho:OpR X (compareOp op) r) (ho':OpR X (compareOp op') r') (ha:PE X a ta) (hb:PE X b tb) (hc:PE X c tc)
  (hm:lastMarks [op,op'] [b,c]=false:=by with_unfolding_all rfl):PT X (.Compare a [op,op'] [b,c] pos) (tTest (tChain r r' ta tb tc)):=by
 intro pins s σ H Q I h
 refine isTrue_chain (thn (ha pins s σ H _ I h) fun v s1 ⟨x,H1,I1,r1,q1⟩=>test_link (thn (hb pins s1 σ H1 _ I1 q1) fun u s2 ⟨y,H2,I2,r2,q2⟩ =>
  thn (ho pins s2 σ H2 x y v u _ I2 r1 r2 q2) fun d s3 ⟨z,H3,I3,r3,k,e,q3⟩=>?_)) hm
 subst e
 cases r3
 refine wpAny_truthy_bool ?_
 cases k with
 | false =>
  obtain ⟨k',e',q'⟩:=q3
  cases e'
  exact ite_ff ⟨H3,I3,q'⟩
 | true =>
  refine ite_tt (test_last (thn (hc pins s3 σ H3 _ I3 q3) fun w' s4 ⟨z',H4,I4,r4,q4⟩=>thn (ho' pins s4 σ H4 y z' u w' _ I4 r2 r4 q4) fun d' s5 ⟨z2,H5,I5,r5,k2,e2,q5⟩=>?_))
  subst e2
  cases r5
  exact wpAny_truthy_bool ⟨H5,I5,q5⟩
def TruV (K:PySem.W.Frag) (x:V) (H:Hp) (k:Bool):Prop :=
 match x with
 | .non=>k=false
 | .bl b=>k=b
 | .int i=>k=(i != 0)
 | .str y=>y.length≤sizeLine∧k=((y.length:Int) != 0)
 | .byt y=>y.size≤sizeLine∧k=((y.size:Int) != 0)
 | .ref p=>(∃ xs,SqL K H p xs∧k=!xs.isEmpty)∨(∃ xs,SqT K H p xs∧k=!xs.isEmpty)∨∃ kvs,H p=some (.dK kvs)∧k=!kvs.isEmpty
 | _=>False
theorem isEmpty_kv {κ:Type} {kvs:List (κ×V)} {vs:List (κ×Value)} (r:KV kvs vs):(!vs.isEmpty)=!kvs.isEmpty:=by
 cases r <;> rfl
theorem isEmpty_of {xs:List V} {its:List Value} (r:Vals xs its):(!its.toArray.isEmpty)=!xs.isEmpty:=by
 cases r <;> simp
theorem line63:(sizeLine:Nat) < 2 ^ 63:=by rw [sizeLine_eq]; decide
theorem tru_ok:TruR X (fun x H Q=>∃ k,TruV X.K x H k∧Q k H):=by
 intro pins s σ H x v Q I rx h
 obtain ⟨k,e,q⟩:=h
 have hl:=line63
 have hs:sizeLine=16777216:=sizeLine_eq
 cases x with
 | non =>
  cases rx
  have e':k=false:=e
  subst e'
  exact truthy_none ⟨H,I,q⟩
 | bl b =>
  cases rx
  have e':k=b:=e
  subst e'
  exact wpAny_truthy_bool ⟨H,I,q⟩
 | int i =>
  obtain ⟨t,rfl⟩:=rx
  have e':k=(i != 0):=e
  subst e'
  exact PySem.P.truthy_int ⟨H,I,q⟩
 | str y =>
  obtain ⟨t,rfl⟩:=rx
  obtain ⟨hy,e'⟩:y.length≤sizeLine∧k=((y.length:Int) != 0):=e
  subst e'
  exact PySem.P.truthy_str (by lia) ⟨H,I.tok _,q⟩
 | byt y =>
  obtain ⟨t,rfl⟩:=rx
  obtain ⟨hy,e'⟩:y.size≤sizeLine∧k=((y.size:Int) != 0):=e
  subst e'
  exact PySem.W.truthy_bytes (by lia) ⟨H,I.tok _,q⟩
 | ref p =>
  cases rx
  have e':(∃ xs,SqL X.K H p xs∧k=!xs.isEmpty)∨(∃ xs,SqT X.K H p xs∧k=!xs.isEmpty)∨∃ kvs,H p=some (.dK kvs)∧k=!kvs.isEmpty:=e
  rcases e' with ⟨xs,hx,e'⟩ | ⟨xs,hx,e'⟩ | ⟨kvs,hx,e'⟩
  ·subst e'
   obtain ⟨its,r,pl,hz⟩:=I.list hx
   have hlen:=r.length
   exact wpAny_truthy_list pl.isList (by simp only [List.size_toArray]; lia) ⟨H,I.tok _,by rw [isEmpty_of r]; exact q⟩
  ·subst e'
   obtain ⟨its,r,pl,hz⟩:=I.tuple hx
   have hlen:=r.length
   exact truthy_tuple pl (by simp only [List.size_toArray]; lia) ⟨H,I.tok _,by rw [isEmpty_of r]; exact q⟩
  ·subst e'
   obtain ⟨hz,hS,vs,r,m⟩:kvs.length≤sizeLine∧(p == sysModules)=false∧∃ vs,KV kvs vs∧s.heap.DictOf (mixKind X.prog X.w) p vs:=I.hok p _ hx
   have hlen:kvs.length=vs.length:=Paired.length r
   exact wpAny_truthy_dict hS m (by lia) ⟨H,I.tok _,by rw [isEmpty_kv r]; exact q⟩
 | _=>exact (show False from e).elim
theorem pt_truth (ha:PE X a ta) (he:∀ whole,isTrue a X.env whole=(do let v ← whole; standAt a.pos; holding [v] (truthy v))) :
  PT X a (fun σ H Q=>ta σ H fun x H'=>∃ k,TruV X.K x H' k∧Q k H'):=by
 intro pins s σ H Q I h
 exact isTrue_plain (thn (ha pins s σ H _ I h) fun v s1 ⟨x,H1,I1,r1,q1⟩=>tru_ok pins s1 σ H1 x v Q I1 r1 q1) (he _)
theorem op_add_str:OpR X (binaryOp .Add) (fun x y H Q=>∃ i j,x=.str i∧y=.str j∧i.length + j.length≤sizeLine∧Q (.str (i++j)) H):=by
 intro pins s σ H x y v u Q I rx ry h
 obtain ⟨i,j,rfl,rfl,hz,q⟩:=h
 obtain ⟨t,rfl⟩:=rx
 obtain ⟨t',rfl⟩:=ry
 exact add_str (fun t' tk=>⟨.str (i++j),H,I.tok _,⟨_,rfl⟩,q⟩) hz
theorem vals1 {x:V} {us:List Value} (r:Vals [x] us):∃ u,us=[u]∧RelV x u:=by
 cases r with
 | cons r1 r2=>cases r2; exact ⟨_,rfl,r1⟩
theorem vals2 {x y:V} {us:List Value} (r:Vals [x,y] us):∃ u w',us=[u,w']∧RelV x u∧RelV y w':=by
 cases r with
 | cons r1 r2 =>
  cases r2 with
  | cons r3 r4=>cases r4; exact ⟨_,_,rfl,r1,r3⟩
theorem call_min2 (hc:X.calm=true):CallR X (.builtin "min") (fun xs H Q=>∃ i j,xs=[.int i,.int j]∧Q (.int (if j < i then j else i)) H):=by
 intro pins s σ H xs us Q I r h
 obtain ⟨i,j,rfl,q⟩:=h
 obtain ⟨u,w',rfl,⟨t,rfl⟩,⟨t',rfl⟩⟩:=vals2 r
 refine min_two_ints (I.ok.hd hc) fun h' tk k=>⟨_,H,I.kept k,?_,q⟩
 by_cases hj:j < i
 ·rw [if_pos hj,if_pos hj]; exact ⟨_,rfl⟩
 ·rw [if_neg hj,if_neg hj]; exact ⟨_,rfl⟩
theorem call_str_int:CallR X (.type "str") (fun xs H Q=>∃ i,xs=[.int i]∧i.natAbs.log2 < 1920∧Q (.str (toString i)) H):=by
 intro pins s σ H xs us Q I r h
 obtain ⟨i,rfl,hz,q⟩:=h
 obtain ⟨u,rfl,t,rfl⟩:=vals1 r
 exact PySem.P.str_of_int hz ⟨.str _,H,I.tok _,⟨_,rfl⟩,q⟩
end
structure ObjM (h:Heap) (x dx C:Addr) (mA:Str→Option Value):Prop where
 obj:h.get? x=some (PySem.W.instObj C dx)
 ns:h.Ns1 dx mA
 ne:dx≠x
theorem lookIn_ns {h:Heap} {dx:Addr} {mA:Str→Option Value} (n:h.Ns1 dx mA):∃ od,h.get? dx=some od∧∀ name,PySem.W.lookIn name od=some (mA name):=by
 obtain ⟨o,es,ep,ho,hd,hk,_,hm⟩:=n
 refine ⟨o,ho,fun name=>?_⟩
 have e:=hm name
 unfold nsFind findBy at e
 rw [← Array.find?_toList] at e
 unfold PySem.W.lookIn
 rw [hd]
 dsimp only
 split
 ·rename_i y q
  rw [q] at e
  exact congrArg some e
 ·rename_i q
  rw [q] at e
  have a:es.toList.any (·.refKey)=false:=by
   rw [List.any_eq_false]
   intro y hy
   obtain ⟨z,t,hkey⟩:=hk y (Array.mem_toList_iff.mp hy)
   simp [DictEntry.refKey,hkey]
  have a':¬ es.toList.any (·.refKey)=true:=by rw [a]; exact Bool.false_ne_true
  rw [if_neg a']
  exact congrArg some e
theorem ObjM.look {h:Heap} {x dx C:Addr} {mA:Str→Option Value} (I:ObjM h x dx C mA):∃ od,PySem.W.InstAt h x (PySem.W.instObj C dx) C (some od)∧∀ name,PySem.W.lookIn name od=some (mA name) :=
 let ⟨od,ho,hl⟩:=lookIn_ns I.ns
 ⟨od,⟨I.obj,rfl,rfl,ho⟩,hl⟩
section
variable {prog:Program} {w:World} {A:Around} {E:Value→Shared→Prop} {s:Shared} {K:PySem.W.Frag} {x dx C f:Addr} {mA:Str→Option Value} {name:Str} {v:Value}
theorem get_map {expr:Bool} {Q:Value→Shared→Prop} (X:K.In s.heap) (I:ObjM s.heap x dx C mA) (hg:PySem.W.plainGet K C name=true) (hh:PySem.W.hasDictIn K C=true)
  (ha:PySem.W.findIn K (.ref C) name=some none) (hv:mA name=some v) (hv':PySem.W.handedIn v=true) (h:Q v { s with toks:=s.toks + 1 }) :
  wpAny (model prog w) A (getAttr (.ref x) name expr) Q E s:=by
 obtain ⟨od,J,hl⟩:=I.look
 exact PySem.W.get_value X J (PySem.W.plainGet_of hg).1 (PySem.W.findObj_own hh ha rfl (by rw [hl,hv])) hv' h
theorem get_meth {pl:Sem Bool} {Q:Value×List Value→Shared→Prop} (X:K.In s.heap) (I:ObjM s.heap x dx C mA) (hg:PySem.W.plainGet K C name=true)
  (hf:PySem.W.findIn K (.ref C) name=some (some (.ref f))) (ht:PySem.W.isFn K (.ref f)=true) (hv:mA name=none) (h:Q (.ref f,[.ref x]) s) :
  wpAny (model prog w) A (getMethod (.ref x) name pl) Q E s:=by
 obtain ⟨od,J,hl⟩:=I.look
 exact PySem.W.method_fn X J (PySem.W.plainGet_of hg).1 (PySem.W.plainGet_of hg).2 hf (beq_iff_eq.mp ht) (by show (PySem.W.lookIn name od).map (·.isSome)=some false; rw [hl,hv]; rfl) h
theorem set_map {ns:List Str} {Q:Unit→Shared→Prop} (X:K.In s.heap) (I:ObjM s.heap x dx C mA)
  (hs:PySem.W.findIn K (.ref C) "__setattr__"=some (some (.builtin "object.__setattr__"))) (hp:PySem.W.plainOver K C=true) (ht:PySem.W.takerIn K C name=some none) (hh:PySem.W.hasDictIn K C=true)
  (hw:PySem.Within mA ns) (hsz:ns.length≤sizeLine)
  (h:∀ h',ObjM h' x dx C (fun y=>if y=name then some v else mA y)→Heap.SameBut dx s.heap h'→Q () { s with heap:=h',toks:=s.toks + 2 }) :
  wpAny (model prog w) A (setAttr (.ref x) name v) Q E s:=by
 obtain ⟨od,J,hl⟩:=I.look
 refine PySem.W.set_plain X J hs (PySem.W.osa_open (s:={ s with toks:=s.toks + 1 }) (r:=none) X J hp ht fun b=>?_)
 obtain ⟨cd,hc,hd'⟩:=PySem.W.any_some hh
 have hx:s.heap.get? x=some ⟨.ref C,some dx,.plain,#[]⟩:=I.obj
 refine wpAny_bind (wpAny_pure (wpAny_bind (wpAny_bind (wpAny_loadPart hx (wpAny_bind (PySem.W.Looks.here (s:={ s with toks:=s.toks + 1 }) (PySem.W.looks_clsIn X hc) ?_))))))
 rw [hd']
 refine wpAny_pure (a:=some dx) (wpAny_bind (wpAny_pure (wpAny_bind ?_)))
 refine wpAny_nsSet1 (s:={ s with toks:=s.toks + 1 }) I.ns fun h' hn2 hs2=>?_
 obtain ⟨oD,esD,epD,hoD,hdD,hcD⟩:=hn2.count (PySem.Within.cons name v hw)
 refine wpAny_bind (wpAny_lookBehind hoD (by rw [hdD]; exact pastItsLine_dict (Nat.le_trans hcD (by rw [List.length_cons]; lia))) ?_)
 exact wpAny_pure (h _ ⟨(hs2.2 _ (Ne.symm I.ne)).trans I.obj,hn2,I.ne⟩ hs2)
theorem make_map {R:Result→Shared→Prop} {vs:List Value} {kw:List (Str×Value)} (X:K.In s.heap) (hm:PySem.W.makesIn K C=true)
  (hi:PySem.W.findIn K (.ref C) "__init__"=some (some (.ref f))) (hf:PySem.W.typeIn K (.ref f)=some (.type "function"))
  (h:codeAny (model prog w) (A.under (.builtin "type.__call__" ⟨.ref C :: vs,kw⟩)) (.call (.ref f) ⟨.ref (s.heap.objs.size + 1) :: vs,kw⟩) (PySem.W.InitBack (s.heap.objs.size + 1) R)
   { s with heap:=(s.heap.push PySem.W.emptyDict).push (PySem.W.instObj C s.heap.objs.size) }) :
  codeAny (model prog w) A (.call (.ref C) ⟨vs,kw⟩) R s:=by
 obtain ⟨hh,g,d,t,os⟩:=s
 exact PySem.W.make_core (PySem.W.makes_of X hm) (PySem.W.looks_findIn X hi) (fun self=>PySem.W.bind_fn X self hf) (.inl rfl) h
end
def putF (f:Str) (v:V):List (Str×V)→List (Str×V)
 | []=>[(f,v)]
 | (g,x) :: r=>if g=f then (g,v) :: r else (g,x) :: putF f v r
theorem lookup_putF (f g:Str) (v:V):∀ fs:List (Str×V),(putF f v fs).lookup g=if g=f then some v else fs.lookup g
 | []=>by
  show List.lookup g [(f,v)]=_
  by_cases h:g=f
  ·have hb:(g == f)=true:=beq_iff_eq.mpr h
   simp only [List.lookup,hb,if_pos h]
  ·have hb:(g == f)=false:=beq_eq_false_iff_ne.mpr h
   simp only [List.lookup,hb,if_neg h]
 | (k,x) :: r=>by
  have ih:=lookup_putF f g v r
  rw [show putF f v ((k,x) :: r)=(if k=f then (k,v) :: r else (k,x) :: putF f v r) from rfl]
  by_cases hk:k=f
  ·rw [if_pos hk]
   by_cases h:g=k
   ·have hb:(g == k)=true:=beq_iff_eq.mpr h
    simp only [List.lookup,hb,if_pos (h.trans hk)]
   ·have hb:(g == k)=false:=beq_eq_false_iff_ne.mpr h
    simp only [List.lookup,hb,if_neg (fun e:g=f=>h (e.trans hk.symm))]
  ·rw [if_neg hk]
   by_cases h:g=k
   ·have hb:(g == k)=true:=beq_iff_eq.mpr h
    simp only [List.lookup,hb,if_neg (fun e:g=f=>hk (h.symm.trans e))]
   ·have hb:(g == k)=false:=beq_eq_false_iff_ne.mpr h
    simp only [List.lookup,hb]
    exact ih
theorem keys_putF (f:Str) (v:V):∀ fs:List (Str×V),f∈(putF f v fs).map (·.1)∧∀ g,g∈fs.map (·.1)→g∈(putF f v fs).map (·.1)
 | []=>⟨by simp [putF],fun g h=>by simp at h⟩
 | (k,x) :: r=>by
  obtain ⟨i1,i2⟩:=keys_putF f v r
  rw [show putF f v ((k,x) :: r)=(if k=f then (k,v) :: r else (k,x) :: putF f v r) from rfl]
  by_cases hk:k=f
  ·rw [if_pos hk]
   subst hk
   exact ⟨by simp,fun g h=>by simpa using h⟩
  ·rw [if_neg hk]
   refine ⟨?_,fun g h=>?_⟩
   ·rw [List.map_cons]
    exact List.mem_cons_of_mem _ i1
   ·rw [List.map_cons] at h ⊢
    rcases List.mem_cons.mp h with e | e
    ·exact List.mem_cons.mpr (.inl e)
    ·exact List.mem_cons_of_mem _ (i2 g e)
theorem length_putF (f:Str) (v:V):∀ fs:List (Str×V),(putF f v fs).length≤fs.length + 1
 | []=>by simp [putF]
 | (k,x) :: r=>by
  have ih:=length_putF f v r
  rw [show putF f v ((k,x) :: r)=(if k=f then (k,v) :: r else (k,x) :: putF f v r) from rfl]
  by_cases hk:k=f
  ·rw [if_pos hk,List.length_cons,List.length_cons]; lia
  ·rw [if_neg hk,List.length_cons,List.length_cons]; lia
theorem RelO.some_of {v:V} {o:Option Value} (r:RelO (some v) o):∃ u,o=some u∧RelV v u:=by
 cases o with
 | none=>exact (show False from r).elim
 | some u=>exact ⟨u,rfl,r⟩
theorem RelO.none_of {o:Option Value} (r:RelO none o):o=none:=by
 cases o with
 | none=>rfl
 | some u=>exact (show False from r).elim
theorem handed_of {v:V} {u:Value} (r:RelV v u):PySem.W.handedIn u=true:=by
 cases v with
 | non=>cases (show u=Value.none from r); rfl
 | bl b=>cases (show u=Value.bool b from r); rfl
 | int i=>obtain ⟨t,e⟩:=(show ∃ t,u=Value.int i t from r); cases e; rfl
 | str x=>obtain ⟨t,e⟩:=(show ∃ t,u=Value.str x t from r); cases e; rfl
 | byt b=>obtain ⟨t,e⟩:=(show ∃ t,u=Value.bytes b t from r); cases e; rfl
 | flt b=>obtain ⟨t,e⟩:=(show ∃ t,u=Value.float b t from r); cases e; rfl
 | ref a=>cases (show u=Value.ref a from r); rfl
 | ty n=>cases (show u=Value.type n from r); rfl
section
variable {P:Program} {w:World} {H H':Hp} {h h':Heap} {a C dx:Addr} {fs fs':List (Str×V)}
theorem ins_get (hok:HOk P w H h) (e:H a=some (.ins C dx fs)):∃ mA,ObjM h a dx C mA∧(∀ f,RelO (fs.lookup f) (mA f))∧PySem.Within mA (fs.map (·.1))∧fs.length≤1000∧H dx=some (.own a):=by
 obtain ⟨d,z,ne,ob,mA,n,r,q⟩:=(show ObjOk P w H h a (.ins C dx fs) from hok a _ e)
 exact ⟨mA,⟨ob,n,ne⟩,r,q,z,d⟩
end
structure Cls (K:PySem.W.Frag) (C:Addr):Prop where
 pg:PySem.W.plainGet K C Str.empty=true
 hd:PySem.W.hasDictIn K C=true
 po:PySem.W.plainOver K C=true
 sa:PySem.W.findIn K (.ref C) "__setattr__"=some (some (.builtin "object.__setattr__"))
theorem Cls.get {K:PySem.W.Frag} {C:Addr} (c:Cls K C) (f:Str):PySem.W.plainGet K C f=true:=c.pg
def NoAttr (K:PySem.W.Frag) (C:Addr) (f:Str):Prop:=PySem.W.findIn K (.ref C) f=some none
theorem NoAttr.taker {K:PySem.W.Frag} {C:Addr} {f:Str} (n:NoAttr K C f):PySem.W.takerIn K C f=some none:=by
 unfold PySem.W.takerIn
 rw [show PySem.W.findIn K (.ref C) f=some none from n]
 rfl
structure Meth (K:PySem.W.Frag) (C:Addr) (m:Str) (f:Addr):Prop where
 at_:PySem.W.findIn K (.ref C) m=some (some (.ref f))
 fn:PySem.W.isFn K (.ref f)=true
 kp:PySem.W.keepIn K (.ref f)=true
section
variable {X:Cx} {pins:List (Addr×Obj)} {σ:St} {H:Hp} {s:Shared} {a C dx:Addr} {fs:List (Str×V)} {f:Str} {v:V} {A:Around} {E:Value→Shared→Prop}
theorem getattr_ok {b:Bool} {Q:Value→Shared→Prop} (I:Inv X pins σ H s) (e:H a=some (.ins C dx fs)) (c:Cls X.K C) (n:NoAttr X.K C f) (l:fs.lookup f=some v)
  (h:∀ u s',Inv X pins σ H s'→RelV v u→Q u s'):wpAny (model X.prog X.w) A (getAttr (.ref a) f b) Q E s:=by
 obtain ⟨mA,O,r,_,_,_⟩:=ins_get I.hok e
 obtain ⟨u,hu,ru⟩:=RelO.some_of (v:=v) (o:=mA f) (by rw [← l]; exact r f)
 exact get_map I.kIn O (c.get f) c.hd n hu (handed_of ru) (h u _ (I.tok _) ru)
theorem getmeth_ok {m:Str} {g:Addr} {pl:Sem Bool} {Q:Value×List Value→Shared→Prop} (I:Inv X pins σ H s) (e:H a=some (.ins C dx fs)) (c:Cls X.K C) (k:Meth X.K C m g) (l:fs.lookup m=none)
  (h:Q (.ref g,[.ref a]) s):wpAny (model X.prog X.w) A (getMethod (.ref a) m pl) Q E s:=by
 obtain ⟨mA,O,r,_,_,_⟩:=ins_get I.hok e
 have hn:mA m=none:=RelO.none_of (by rw [← l]; exact r m)
 exact get_meth I.kIn O (c.get m) k.at_ k.fn hn h
theorem setattr_ok {y:V} {u:Value} {Q:Unit→Shared→Prop} (I:Inv X pins σ H s) (e:H a=some (.ins C dx fs)) (c:Cls X.K C) (n:NoAttr X.K C f) (hl:fs.length < 1000) (ry:RelV y u)
  (h:∀ s',Inv X pins σ (upd H a (.ins C dx (putF f y fs))) s'→Q () s'):wpAny (model X.prog X.w) A (setAttr (.ref a) f u) Q E s:=by
 obtain ⟨mA,O,r,wi,_,ho⟩:=ins_get I.hok e
 have hz:(fs.map (·.1)).length≤sizeLine:=by rw [List.length_map,sizeLine_eq]; lia
 refine set_map I.kIn O c.sa c.po n.taker c.hd wi hz fun h' O' sb=>h _ ?_
 have hd:∃ o,h'.get? dx=some o:=let ⟨o,_,_,e',_⟩:=O'.ns; ⟨o,e'⟩
 refine I.write (x:=a) (e:=dx) (by rw [e]; exact True.intro) (.inr ho) (fun b q hb z=>(sb.2 b hb).trans z) hd ?_
 refine ⟨by rw [upd_ne O.ne]; exact ho,?_,O.ne,O'.obj,_,O'.ns,fun g=>?_,fun g hg=>?_⟩
 ·have:=length_putF f y fs; lia
 ·show RelO ((putF f y fs).lookup g) (if g=f then some u else mA g)
  rw [lookup_putF]
  by_cases q:g=f
  ·rw [if_pos q,if_pos q]; exact ry
  ·rw [if_neg q,if_neg q]; exact r g
 ·by_cases q:g=f
  ·rw [q]; exact (keys_putF f y fs).1
  ·refine (keys_putF f y fs).2 g (wi g fun z=>hg ?_)
   show (if g=f then some u else mA g)=none
   rw [if_neg q]; exact z
theorem Inv.made (I:Inv X pins σ H s):Inv X pins σ (upd (upd H s.heap.objs.size (.own (s.heap.objs.size + 1))) (s.heap.objs.size + 1) (.ins C s.heap.objs.size []))
  { s with heap:=(s.heap.push PySem.W.emptyDict).push (PySem.W.instObj C s.heap.objs.size) }:=by
 have e1:(s.heap.push PySem.W.emptyDict).get? s.heap.objs.size=some PySem.W.emptyDict:=Heap.get?_push_size s.heap rfl
 have e2:((s.heap.push PySem.W.emptyDict).push (PySem.W.instObj C s.heap.objs.size)).get? (s.heap.objs.size + 1)=some (PySem.W.instObj C s.heap.objs.size):=by
  have:=Heap.get?_push_size (s.heap.push PySem.W.emptyDict) (o:=PySem.W.instObj C s.heap.objs.size) rfl
  rwa [Heap.size_push] at this
 have e3:(s.heap.push PySem.W.emptyDict).Ns s.heap.objs.size (fun _=>none):=⟨PySem.W.emptyDict,#[],_,e1,rfl,(fun e he=>absurd he (by simp)),fun _=>rfl⟩
 have I1:=I.laid (a:=s.heap.objs.size) (o:=.own (s.heap.objs.size + 1)) (h':=s.heap.push PySem.W.emptyDict) (t':=s.toks) (fun b u q=>Heap.get?_push_of_some _ q) (Nat.le_refl _) ⟨_,e1⟩
 refine I1.laid (a:=s.heap.objs.size + 1) (o:=.ins C s.heap.objs.size []) (t':=s.toks) (fun b u q=>Heap.get?_push_of_some _ q) (Nat.le_of_eq (Heap.size_push _ _)) ?_
 have ne:s.heap.objs.size≠s.heap.objs.size + 1:=Nat.ne_of_lt (Nat.lt_succ_self _)
 refine ⟨by rw [upd_ne ne,upd_same],Nat.zero_le _,ne,e2,fun _=>none,(Heap.Ns1.of_empty e3).at fun o q=>Heap.get?_push_of_some _ q,fun _=>True.intro,fun y hy=>absurd rfl hy⟩
theorem attr_of {prog:Program} {w:World} {env:Env} {e:Expr} {f:Str} {pos:Pos} {s:Shared} {Q:Value→Shared→Prop} (hb:attributeBase e f env (eval e env)=eval e env)
  (h:wpAny (model prog w) A (eval e env) (fun o s₁=>wpAny (model prog w) A (getAttr o f true) Q E s₁) E s):wpAny (model prog w) A (eval (.Attribute e f pos) env) Q E s :=
 Attribute_any_ h (by rw [arm_eval_Attribute,hb])
end
def tFld (K:PySem.W.Frag) (ta:TE) (f:Str):TE:=fun σ H Q=>ta σ H fun x H1=>∃ a C dx fs v,x=.ref a∧H1 a=some (.ins C dx fs)∧Cls K C∧NoAttr K C f∧fs.lookup f=some v∧Q v H1
def sFld (K:PySem.W.Frag) (ta tv:TE) (f:Str):TS:=fun D σ H=>tv σ H fun y H1=>ta σ H1 fun x H2=>∃ a C dx fs,x=.ref a∧H2 a=some (.ins C dx fs)∧Cls K C∧NoAttr K C f∧fs.length < 1000 ∧
 D.nx σ (upd H2 a (.ins C dx (putF f y fs)))
section
variable {X:Cx} {o e value:Expr} {f:Str} {pos pos' tpos:Pos} {ta tv:TE}
theorem pe_fld (he:PE X e ta) (hb:attributeBase e f X.env (eval e X.env)=eval e X.env):PE X (.Attribute e f pos) (tFld X.K ta f):=by
 intro pins s σ H Q I h
 refine attr_of hb (thn (he pins s σ H _ I h) fun u s1 ⟨x,H1,I1,rx,a,C,dx,fs,v,ex,ea,c,n,l,q⟩=>?_)
 subst ex
 obtain rfl:u=Value.ref a:=rx
 exact getattr_ok I1 ea c n l fun u' s2 I2 ru=>⟨v,H1,I2,ru,q⟩
theorem ps_fld (ha:PE X o ta) (hv:PE X value tv) (hs:swapsWith value (some (.Attribute o f pos')) pos.line X.env=pure false):PS X (.Assign [.Attribute o f pos'] value pos) (sFld X.K ta tv f):=by
 intro pins s σ H D I h
 refine plainObj_wpAny_Assign_Attribute (thn (hv pins s σ H _ I h) fun u s1 ⟨y,H1,I1,ry,q⟩=>thn (ha pins s1 σ H1 _ I1 q) fun ov s2 ⟨x,H2,I2,rx,a,C,dx,fs,ex,ea,c,n,l,q2⟩=>?_) hs
 subst ex
 obtain rfl:ov=Value.ref a:=rx
 exact setattr_ok I2 ea c n l ry fun s3 I3=>⟨σ,_,I3,q2⟩
theorem methcall_of {pl:Sem Bool} {m:Str} {apos:Pos} {args:List Expr} {pins:List (Addr×Obj)} {s:Shared} {σ:St} {H:Hp} {Q:Value→Shared→Prop} {te:TE} (he:PE X e te) (I:Inv X pins σ H s)
  (h:te σ H fun x H1=>∃ a C dx fs g,x=.ref a∧H1 a=some (.ins C dx fs)∧Cls X.K C∧Meth X.K C m g∧fs.lookup m=none ∧
   ∀ s1,Inv X pins σ H1 s1→wpAny (model X.prog X.w) X.A (callWith pos (.ref g) [.ref a] (backTo pos (starEach args X.env)) (backToKw pos (keywordEach [] X.env))) Q X.xe s1)
  (ht:eval (.Call (.Attribute e m apos) args [] pos) X.env=(do
   let ov ← eval e X.env
   standAt apos.atName
   let (f,first) ← holding [ov] (getMethod ov m pl)
   callWith pos f first (backTo pos (starEach args X.env)) (backToKw pos (keywordEach [] X.env)))) :
  wpAny (model X.prog X.w) X.A (eval (.Call (.Attribute e m apos) args [] pos) X.env) Q X.xe s:=by
 refine PySem.W.methodCall_KW (pl:=pl) (thn (he pins s σ H _ I h) fun u s1 ⟨x,H1,I1,rx,a,C,dx,fs,g,ex,ea,c,k,l,q⟩=>?_) ht
 subst ex
 obtain rfl:u=Value.ref a:=rx
 exact getmeth_ok I1 ea c k l (q s1 I1)
end
section
variable {X:Cx} {pins:List (Addr×Obj)} {σ:St} {H:Hp} {s:Shared} {A:Around} {E:Value→Shared→Prop} {Q:Value→Shared→Prop} {c:Value} {b:Bool}
end
structure Room (k:Nat) (A:Around):Prop where
 hd:A.handled=none
 dp:A.depth + 3 * k + 5 < recursionLimit
 un:A.units + 16 * k + 200 < cLine
theorem Room.mono {j k:Nat} {A:Around} (r:Room k A) (h:j≤k):Room j A:=⟨r.hd,by have:=r.dp; lia,by have:=r.un; lia⟩
theorem Room.deeper {k:Nat} {A:Around} (r:Room (k + 1) A) (env:Env):Room k (A.deeper env) :=
 ⟨r.hd,by have:=r.dp; show A.depth + 1 + 3 * k + 5 < _; lia,by have:=r.un; show A.units + 3 + 16 * k + 200 < _; lia⟩
theorem make_depth {A:Around} {C:Addr} {us:List Value} {kw:List (Str×Value)}:(A.under (.builtin "type.__call__" ⟨.ref C :: us,kw⟩)).depth=A.depth + 1:=by
 first | rfl | simp [Around.under,Code.weight,Code.isCreation,Code.isGuard,Code.isCaller,Code.frames,Code.isFrame,guardIds]
theorem make_units {A:Around} {C:Addr} {us:List Value} {kw:List (Str×Value)}:(A.under (.builtin "type.__call__" ⟨.ref C :: us,kw⟩)).units=A.units + 1:=by
 first | rfl | simp [Around.under,Code.cUnits,Code.frames,Code.isFrame]
theorem Room.make {k:Nat} {A:Around} (r:Room (k + 1) A) (C:Addr) (us:List Value) (kw:List (Str×Value)):Room k (A.under (.builtin "type.__call__" ⟨.ref C :: us,kw⟩)) :=
 ⟨r.hd,by have:=r.dp; rw [make_depth]; lia,by have:=r.un; rw [make_units]; lia⟩
theorem Room.depth {k:Nat} {A:Around} (r:Room k A):A.depth < recursionLimit:=by have:=r.dp; lia
def tNil:TA:=fun _ H Q=>Q [] H
def tCons (ta:TE) (tr:TA):TA:=fun σ H Q=>ta σ H fun x H1=>tr σ H1 fun xs H2=>Q (x :: xs) H2
section
variable {X:Cx} {e:Expr} {es:List Expr} {te:TE} {t:TA} {pos:Pos}
theorem pa_nil:PA X [] tNil:=fun _ _ _ _ H Q I h=>Calls.spliced_nil ⟨[],H,I,.nil,h⟩
theorem pa_cons (ha:PE X e te) (hr:PA X es t) (hs:starEach (e :: es) X.env=(false,eval e X.env) :: starEach es X.env:=by rfl):PA X (e :: es) (tCons te t):=by
 intro pos pins s σ H Q I h
 rw [hs]
 show wpAny _ _ (spliced ((false,eval e X.env) :: backTo pos (starEach es X.env))) _ _ s
 refine Calls.spliced_cons (thn (ha pins s σ H _ I h) fun u s1 ⟨x,H1,I1,r1,q1⟩=>?_)
 exact thn (hr pos pins s1 σ H1 _ I1 q1) fun us s2 ⟨xs,H2,I2,r2,q2⟩=>⟨x :: xs,H2,I2,.cons r1 r2,q2⟩
def tTup (t:TA):TE:=fun σ H Q=>t σ H fun xs H1=>xs.length≤sizeLine∧∀ p,H1 p=none→Q (.ref p) (upd H1 p (.tup xs))
def tLst (t:TA):TE:=fun σ H Q=>t σ H fun xs H1=>xs.length≤sizeLine∧∀ p,H1 p=none→Q (.ref p) (upd H1 p (.lst xs))
theorem pe_tup {x1} (h:PA X es t):PE X (.Tuple es x1 pos) (tTup t):=by
 intro pins s σ H Q I hq
 refine wpAny_Tuple_spliced (thn (h pos pins s σ H _ I hq) fun us s1 ⟨xs,H1,I1,r,z,q⟩=>⟨by rw [← r.length]; exact z,?_⟩)
 have hf:H1 s1.heap.objs.size=none:=I1.hok.fresh (Nat.le_refl _)
 refine ⟨.ref s1.heap.objs.size,upd H1 s1.heap.objs.size (.tup xs),I1.laid (t':=s1.toks) (fun b u e=>Heap.get?_push_of_some _ e) (Nat.le_refl _) ?_,rfl,q _ hf⟩
 exact ⟨z,us,r,⟨_,Heap.get?_push_size _ rfl,rfl,_,rfl⟩⟩
theorem pe_lst (h:PA X es t):PE X (.List es pos) (tLst t):=by
 intro pins s σ H Q I hq
 refine wpAny_List_spliced (thn (h pos pins s σ H _ I hq) fun us s1 ⟨xs,H1,I1,r,z,q⟩=>⟨by rw [← r.length]; exact z,?_⟩)
 have hf:H1 s1.heap.objs.size=none:=I1.hok.fresh (Nat.le_refl _)
 refine ⟨.ref s1.heap.objs.size,upd H1 s1.heap.objs.size (.lst xs),I1.laid (t':=s1.toks) (fun b u e=>Heap.get?_push_of_some _ e) (Nat.le_refl _) ?_,rfl,q _ hf⟩
 exact ⟨z,us,0,r,Heap.get?_push_size _ rfl⟩
end
abbrev Sp:=List V→Hp→VK→XK→Prop
abbrev CXT:=List Env→Hp→Shared→XK→Value→Shared→Prop
structure Env0 (P:Program) (w:World) (K:PySem.W.Frag) (mg:Str→Option Value) (base:Heap) (A:Around) (outer:List Env) (s:Shared) (H:Hp):Prop where
 frames:A.frames=some outer
 mod:Mod K mg base
 bs:∀ b o,base.get? b=some o→s.heap.get? b=some o∧H b=none
 bsz:base.objs.size≤s.heap.objs.size
 funs:s.heap.FunFrames base outer
 frf:∀ b∈frs outer,H b=none
 hok:HOk P w H s.heap
 bare:AllBare s.gens
def CE (outer:List Env) (P:Program) (w:World) (H:Hp) (s:Shared) (Q:VK) (u:Value) (s':Shared):Prop :=
 ∃ v H',s'.os=s.os∧AllBare s'.gens∧Un (frs outer) [] H H' s.heap s'.heap∧HOk P w H' s'.heap∧RelV v u∧Q v H'
def CR (CX:CXT) (outer:List Env) (P:Program) (w:World) (H:Hp) (s:Shared) (Q:VK) (E:XK) (r:Result) (s':Shared):Prop :=
 match r with
 | .ok (.ret u)=>CE outer P w H s Q u s'
 | .ok _=>False
 | .error e=>CX outer H s E e s'
structure FnOk (P:Program) (w:World) (K:PySem.W.Frag) (mg:Str→Option Value) (base:Heap) (CX:CXT) (k:Nat) (f:Addr) (fd:FuncData) (ps:List Str) (sp:Sp):Prop where
 len:∀ vs H Q E,sp vs H Q E→vs.length=ps.length
 run:∀ (A:Around) (outer:List Env) (s:Shared) (H:Hp) (args:Args) (us:List Value) (vs:List V) (Q:VK) (E:XK),Room k A→Env0 P w K mg base A outer s H→BindsTo s fd args (ps.zip us)→Vals vs us→sp vs H Q E →
  codeAny (model P w) A (.call (.ref f) args) (CR CX outer P w H s Q E) s
theorem FnOk.mono {P:Program} {w:World} {K:PySem.W.Frag} {mg:Str→Option Value} {base:Heap} {CX:CXT} {j k:Nat} {f:Addr} {fd:FuncData} {ps:List Str} {sp:Sp} (F:FnOk P w K mg base CX j f fd ps sp) (h:j≤k) :
  FnOk P w K mg base CX k f fd ps sp:=⟨F.len,fun A outer s H args us vs Q E hr=>F.run A outer s H args us vs Q E (hr.mono h)⟩
theorem Env0.make {P:Program} {w:World} {K:PySem.W.Frag} {mg:Str→Option Value} {base:Heap} {A:Around} {outer:List Env} {s:Shared} {H:Hp} (e:Env0 P w K mg base A outer s H) (C:Addr) (us:List Value) (kw:List (Str×Value)) :
  Env0 P w K mg base (A.under (.builtin "type.__call__" ⟨.ref C :: us,kw⟩)) outer s H:=⟨by first | exact e.frames | (simpa [Around.under,Code.envs,Code.isFrame,pushEnvs] using e.frames),e.mod,e.bs,e.bsz,e.funs,e.frf,e.hok,e.bare⟩
section
variable {X:Cx} {pins:List (Addr×Obj)} {σ:St} {H:Hp} {s s':Shared}
theorem Inv.env0 (I:Inv X pins σ H s):Env0 X.prog X.w X.K X.mg X.base X.A X.stack s H :=
 ⟨I.ok.frames,I.ok.mod,I.bs,Nat.le_trans I.ok.bsz I.sz,I.stack,I.stkFree,I.hok,I.bare⟩
theorem Inv.after {Q:VK} {u:Value} (I:Inv X pins σ H s) (h:CE X.stack X.prog X.w H s Q u s'):EP X pins σ Q u s':=by
 obtain ⟨v,H',os,bare,un,hok,r,q⟩:=h
 obtain ⟨hh,g,d,t,os'⟩:=s'
 obtain rfl:os'=s.os:=os
 exact ⟨v,H',I.call (h':=hh) (g':=g) (d':=d) (t':=t) (ch:=[]) un hok bare (fun b z=>absurd z (by simp)),r,q⟩
end
def tCall (sp:Sp) (dvs:List V) (E:XK) (t:TA):TE:=fun σ H Q=>t σ H fun vs H1=>sp (vs++dvs) H1 Q E
def tMeth (C:Addr) (m:Str) (sp:Sp) (dvs:List V) (E:XK) (ta:TE) (t:TA):TE:=fun σ H Q=>ta σ H fun x H1=>∃ a dx fs,x=.ref a∧H1 a=some (.ins C dx fs)∧fs.lookup m=none ∧
 t σ H1 fun vs H2=>sp (x :: (vs++dvs)) H2 Q E
def tMake (C:Addr) (sp:Sp) (dvs:List V) (E:XK) (t:TA):TE:=fun σ H Q=>t σ H fun vs H1=>∀ x dx,H1 x=none→H1 dx=none→dx≠x →
 sp (.ref x :: (vs++dvs)) (upd (upd H1 dx (.own x)) x (.ins C dx [])) (fun v H2=>v=.non∧Q (.ref x) H2) E
def Binds (K:PySem.W.Frag) (fd:FuncData) (ps:List Str) (ds:List Value):Prop :=
 ∀ (s:Shared) (us:List Value),K.In s.heap→(us++ds).length=ps.length→BindsTo s fd ⟨us,[]⟩ (ps.zip (us++ds))
theorem Binds.all {K:PySem.W.Frag} {fd:FuncData} {ps:List Str} (h:∀ us:List Value,us.length=ps.length→bindArgs fd ⟨us,[]⟩=pure (ps.zip us)):Binds K fd ps []:=fun s us _ hl=>by
 rw [List.append_nil] at hl ⊢
 exact .of_eq (h us hl)
def Passes (CX:CXT) (X:Cx) (E:XK):Prop:=∀ (pins:List (Addr×Obj)) (σ:St) (H:Hp) (s:Shared) (e:Value) (s':Shared),Inv X pins σ H s→CX X.stack H s E e s'→X.xe e s'
section
variable {X:Cx} {CX:CXT} {k:Nat} {f C:Addr} {fd:FuncData} {ps:List Str} {sp:Sp} {dvs:List V} {ds:List Value} {E:XK} {x m:Str} {p pos apos:Pos} {e o:Expr} {es:List Expr} {ta:TE} {t:TA}
theorem run_fn {pins:List (Addr×Obj)} {σ:St} {H:Hp} {s:Shared} {Q:VK} {us:List Value} {vs:List V} (F:FnOk X.prog X.w X.K X.mg X.base CX k f fd ps sp) (hr:Room k X.A) (hb:Binds X.K fd ps ds) (hd:Vals dvs ds) (hx:Passes CX X E)
  (I:Inv X pins σ H s) (r:Vals vs us) (h:sp (vs++dvs) H Q E):wpAny (model X.prog X.w) X.A (call (.ref f) us) (EP X pins σ Q) X.xe s:=by
 have r2:Vals (vs++dvs) (us++ds):=r.append hd
 have hl:(us++ds).length=ps.length:=by rw [← r2.length]; exact F.len _ _ _ _ h
 refine wpAny_call (codeAny_mono (F.run X.A X.stack s H ⟨us,[]⟩ (us++ds) (vs++dvs) Q E hr I.env0 (hb s us I.kIn hl) r2 h) fun r s' hq=>?_)
 cases r with
 | error e=>exact hx pins σ H s e s' I hq
 | ok fl =>
  cases fl with
  | ret u=>exact I.after hq
  | next=>exact False.elim hq
  | brk=>exact False.elim hq
  | cont=>exact False.elim hq
theorem pe_call (F:FnOk X.prog X.w X.K X.mg X.base CX k f fd ps sp) (hr:Room k X.A) (hg:Gl X x) (hm:X.mg x=some (.ref f)) (hk:PySem.W.keepIn X.K (.ref f)=true) (hb:Binds X.K fd ps ds) (hd:Vals dvs ds) (hx:Passes CX X E)
  (ha:PA X (e :: es) t) (hdb:(x == ("__debug__":Str))=false:=by decide) (he:starEach (e :: es) X.env=(false,eval e X.env) :: starEach es X.env:=by rfl) (hpl:(backTo pos (starEach es X.env)).any (·.1)=false:=by rfl) :
  PE X (.Call (.Name x p) (e :: es) [] pos) (tCall sp dvs E t):=by
 intro pins s σ H Q I h
 refine wpAny_Call_Name_kw (ld_glob I hg hm ?_ hdb)
 refine PySem.W.callWith_K (h₀:=X.base) I.ok.mod.kin hk (thn (ha pos pins s σ H _ I h) fun us s1 ⟨vs,H1,I1,r,q⟩=>⟨I1.kIn,?_⟩) he hpl
 exact run_fn F hr hb hd hx I1 r q
theorem pe_meth {pl:Sem Bool} (he:PE X o ta) (c:Cls X.K C) (hm:Meth X.K C m f) (F:FnOk X.prog X.w X.K X.mg X.base CX k f fd ps sp) (hr:Room k X.A) (hb:Binds X.K fd ps ds) (hd:Vals dvs ds) (hx:Passes CX X E) (ha:PA X (e :: es) t)
  (hst:starEach (e :: es) X.env=(false,eval e X.env) :: starEach es X.env:=by rfl) (hpl:(backTo pos (starEach es X.env)).any (·.1)=false:=by rfl)
  (ht:eval (.Call (.Attribute o m apos) (e :: es) [] pos) X.env=(do
   let ov ← eval o X.env
   standAt apos.atName
   let (f,first) ← holding [ov] (getMethod ov m pl)
   callWith pos f first (backTo pos (starEach (e :: es) X.env)) (backToKw pos (keywordEach [] X.env))):=by rfl) :
  PE X (.Call (.Attribute o m apos) (e :: es) [] pos) (tMeth C m sp dvs E ta t):=by
 intro pins s σ H Q I h
 refine PySem.W.methodCall_KW (pl:=pl) (thn (he pins s σ H _ I h) fun u s1 ⟨x,H1,I1,rx,a,dx,fs,ex,ea,l,q⟩=>?_) ht
 subst ex
 obtain rfl:u=Value.ref a:=rx
 refine getmeth_ok I1 ea c hm l ?_
 refine PySem.W.callWith_K (first:=[.ref a]) (h₀:=X.base) I.ok.mod.kin hm.kp (thn (ha pos pins s1 σ H1 _ I1 q) fun us s2 ⟨vs,H2,I2,r,q2⟩=>⟨I2.kIn,?_⟩) hst hpl
 exact run_fn (us:=.ref a :: us) (vs:=.ref a :: vs) F hr hb hd hx I2 (.cons rfl r) q2
structure Mk (K:PySem.W.Frag) (C f:Addr):Prop where
 makes:PySem.W.makesIn K C=true
 init:PySem.W.findIn K (.ref C) "__init__"=some (some (.ref f))
 fn:PySem.W.isFn K (.ref f)=true
 kp:PySem.W.keepIn K (.ref C)=true
theorem run_make {pins:List (Addr×Obj)} {σ:St} {H:Hp} {s:Shared} {Q:VK} {us:List Value} {vs:List V} (M:Mk X.K C f) (F:FnOk X.prog X.w X.K X.mg X.base CX k f fd ps sp) (hr:Room (k + 1) X.A) (hb:Binds X.K fd ps ds) (hd:Vals dvs ds)
  (hx:Passes CX X E) (I:Inv X pins σ H s) (r:Vals vs us)
  (h:∀ x dx,H x=none→H dx=none→dx≠x→sp (.ref x :: (vs++dvs)) (upd (upd H dx (.own x)) x (.ins C dx [])) (fun v H2=>v=.non∧Q (.ref x) H2) E) :
  wpAny (model X.prog X.w) X.A (call (.ref C) us) (EP X pins σ Q) X.xe s:=by
 have hq:=h (s.heap.objs.size + 1) s.heap.objs.size (I.hok.fresh (Nat.le_succ _)) (I.hok.fresh (Nat.le_refl _)) (Nat.ne_of_lt (Nat.lt_succ_self _))
 have I2:=Inv.made (C:=C) I
 have r2:Vals (V.ref (s.heap.objs.size + 1) :: (vs++dvs)) (Value.ref (s.heap.objs.size + 1) :: (us++ds)):=.cons rfl (r.append hd)
 have hl:(Value.ref (s.heap.objs.size + 1) :: us++ds).length=ps.length:=by
  have e:=r2.length
  rw [F.len _ _ _ _ hq] at e
  exact e.symm
 refine wpAny_call (make_map (f:=f) I.kIn M.makes M.init (beq_iff_eq.mp M.fn) (codeAny_mono (F.run _ X.stack _ _ ⟨Value.ref (s.heap.objs.size + 1) :: us,[]⟩ (Value.ref (s.heap.objs.size + 1) :: (us++ds)) _ _ E (hr.make C us [])
  (I2.env0.make C us []) (hb _ (Value.ref (s.heap.objs.size + 1) :: us) I2.kIn hl) r2 hq) fun r s' hq'=>?_))
 cases r with
 | error e=>exact hx pins σ _ _ e s' I2 hq'
 | ok fl =>
  cases fl with
  | ret u =>
   obtain ⟨v,H',I3,rv,ev,q3⟩:=I2.after hq'
   subst ev
   exact ⟨rv,⟨V.ref (s.heap.objs.size + 1),H',I3,rfl,q3⟩⟩
  | next=>exact False.elim hq'
  | brk=>exact False.elim hq'
  | cont=>exact False.elim hq'
theorem pe_make0 (M:Mk X.K C f) (F:FnOk X.prog X.w X.K X.mg X.base CX k f fd ps sp) (hr:Room (k + 1) X.A) (hg:Gl X x) (hm:X.mg x=some (.ref C)) (hb:Binds X.K fd ps ds) (hd:Vals dvs ds) (hx:Passes CX X E)
  (hdb:(x == ("__debug__":Str))=false:=by decide):PE X (.Call (.Name x p) [] [] pos) (tMake C sp dvs E tNil):=by
 intro pins s σ H Q I h
 refine wpAny_Call_Name_kw (ld_glob I hg hm ?_ hdb)
 exact PySem.W.callWith_K0 I.kIn M.kp (run_make (us:=[]) M F hr hb hd hx I .nil h)
end
def PK (X:Cx) (kws:List Keyword) (t:TA):Prop :=
 ∀ (pos:Pos) (pins:List (Addr×Obj)) (s:Shared) (σ:St) (H:Hp) (Q:List V→Hp→Prop),Inv X pins σ H s→t σ H Q→wpAny (model X.prog X.w) X.A (evalAll ((backToKw pos (keywordEach kws X.env)).map (·.2))) (AP X pins σ Q) X.xe s
section
variable {X:Cx} {CX:CXT} {k:Nat} {f C:Addr} {fd:FuncData} {ps ks:List Str} {sp:Sp} {E:XK} {x m:Str} {p pos apos kpos:Pos} {e o:Expr} {es:List Expr} {kws:List Keyword} {te ta:TE} {t tk:TA} {nm:Option Str}
theorem pk_nil:PK X [] tNil:=fun _ _ _ _ H Q I h=>wpAny_evalAll_nil ⟨[],H,I,.nil,h⟩
theorem pk_cons (ha:PE X e te) (hr:PK X kws t):PK X (⟨nm,e,kpos⟩ :: kws) (tCons te t):=by
 intro pos pins s σ H Q I h
 show wpAny _ _ (evalAll ((do let v ← eval e X.env; standAt pos; pure v) :: (backToKw pos (keywordEach kws X.env)).map (·.2))) _ _ s
 refine wpAny_evalAll_cons (wpAny_bind (thn (ha pins s σ H _ I h) fun u s1 ⟨x,H1,I1,r1,q1⟩=>wpAny_bind (wpAny_standAt (wpAny_pure ?_))))
 exact thn (hr pos pins s1 σ H1 _ I1 q1) fun us s2 ⟨xs,H2,I2,r2,q2⟩=>⟨x :: xs,H2,I2,.cons r1 r2,q2⟩
variable {g:List Value→List Value→List Value} {gV:List V→List V→List V}
end
structure FnScope (N P:List Str) (sc:Scope):Prop where
 kind:sc.kind=.function
 co:sc.isCoroutine=false
 gen:sc.isGenerator=false
 nd:N.Nodup
 pre:N.take P.length=P
 par:∀ x∈P,sc.names.lookup x=some .local∨sc.names.lookup x=some .cell
 nofree:∀ y∈sc.names,y.2≠.free
theorem bindL_out {kindOf:Str→Option NameKind} {x:Str}:∀ {binds:List (Str×Value)} {m:Str→Option Value},(∀ v,(x,v) ∉ binds)→bindL kindOf binds m x=m x
 | [],_,_=>rfl
 | (n,v) :: r,m,h=>by
  unfold bindL
  rw [bindL_out fun w hw=>h w (List.mem_cons_of_mem _ hw)]
  split
  ·have:x≠n:=by rintro rfl; exact h v List.mem_cons_self
   simp [this]
  ·rfl
theorem bindC_out {kindOf:Str→Option NameKind} {x:Str}:∀ {binds:List (Str×Value)} {m:Str→Option Value},(∀ v,(x,v) ∉ binds)→bindC kindOf binds m x=m x
 | [],_,_=>rfl
 | (n,v) :: r,m,h=>by
  unfold bindC
  rw [bindC_out fun w hw=>h w (List.mem_cons_of_mem _ hw)]
  split
  ·rfl
  ·have:x≠n:=by rintro rfl; exact h v List.mem_cons_self
   simp [this]
theorem bindL_get {kindOf:Str→Option NameKind} {x:Str} {v:Value}:∀ {P:List Str} {vs:List Value} {i:Nat} {m:Str→Option Value},P.Nodup→P[i]?=some x→vs[i]?=some v→kindOf x=some .local →
  bindL kindOf (P.zip vs) m x=some v
 | [],_,_,_,_,h,_,_=>by simp at h
 | _ :: _,[],_,_,_,_,h,_=>by simp at h
 | p :: P,w :: vs,0,m,nd,h1,h2,hk=>by
  simp at h1 h2; subst h1; subst h2
  show bindL kindOf ((p,w) :: P.zip vs) m p=_
  unfold bindL
  rw [bindL_out fun v hv=>(List.nodup_cons.mp nd).1 (List.of_mem_zip hv).1,if_pos hk]
  simp
 | p :: P,w :: vs,i + 1,m,nd,h1,h2,hk=>by
  show bindL kindOf ((p,w) :: P.zip vs) m x=_
  unfold bindL
  exact bindL_get (i:=i) (List.nodup_cons.mp nd).2 (by simpa using h1) (by simpa using h2) hk
theorem bindC_get {kindOf:Str→Option NameKind} {x:Str} {v:Value}:∀ {P:List Str} {vs:List Value} {i:Nat} {m:Str→Option Value},P.Nodup→P[i]?=some x→vs[i]?=some v→kindOf x≠some .local →
  bindC kindOf (P.zip vs) m x=some v
 | [],_,_,_,_,h,_,_=>by simp at h
 | _ :: _,[],_,_,_,_,h,_=>by simp at h
 | p :: P,w :: vs,0,m,nd,h1,h2,hk=>by
  simp at h1 h2; subst h1; subst h2
  show bindC kindOf ((p,w) :: P.zip vs) m p=_
  unfold bindC
  rw [bindC_out fun v hv=>(List.nodup_cons.mp nd).1 (List.of_mem_zip hv).1,if_neg hk]
  simp
 | p :: P,w :: vs,i + 1,m,nd,h1,h2,hk=>by
  show bindC kindOf ((p,w) :: P.zip vs) m x=_
  unfold bindC
  exact bindC_get (i:=i) (List.nodup_cons.mp nd).2 (by simpa using h1) (by simpa using h2) hk
def start (N:List Str) (vs:List V):St:=vs.map some++List.replicate (N.length - vs.length) none
def cxOf (CX:CXT) (P:Program) (w:World) (K:PySem.W.Frag) (mg:Str→Option Value) (base:Heap) (N:List Str) (qual:Str) (scope:Scope) (f:Addr) (cd:Value) (A:Around) (outer:List Env) (s:Shared) (H:Hp) (E:XK):Cx where
 prog:=P
 w:=w
 K:=K
 mg:=mg
 base:=base
 A:=A.deeper (envOfC qual scope s.heap.objs.size f cd)
 N:=N
 s₀:=s
 H₀:=H
 env:=envOfC qual scope s.heap.objs.size f cd
 outer:=outer
 stack:=envOfC qual scope s.heap.objs.size f cd :: outer
 ex:=[]
 calm:=true
 fn:=fun _=>true
 pn:=[]
 xe:=fun e s'=>wpAny (model P w) (A.deeper (envOfC qual scope s.heap.objs.size f cd)) (leaving (envOfC qual scope s.heap.objs.size f cd) e) (fun _ s''=>CX outer H s E e s'') (fun e' s''=>CX outer H s E e' s'') s'
theorem cell_has {sc:Scope} {n:Nat} {x:Str} (h:sc.names.lookup x=some .cell):∃ c,(cellsFrom n sc.names []).lookup x=some c:=by
 have q:=PySem.W.cellsFrom_some sc.names n [] (.inl h)
 exact Option.isSome_iff_exists.mp q
theorem inv_start {CX:CXT} {P:Program} {w:World} {K:PySem.W.Frag} {mg:Str→Option Value} {base:Heap} {N ps:List Str} {qual:Str} {scope:Scope} {f:Addr} {cd:Value} {A:Around} {outer:List Env} {s s1:Shared} {H:Hp} {E:XK} {us:List Value} {vs:List V}
  (S:FnScope N ps scope) (hd:A.handled=none) (e0:Env0 P w K mg base A outer s H) (hl:vs.length=ps.length) (r:Vals vs us)
  (x:InCallC s s.heap.objs.size (bindL (envOfC qual scope s.heap.objs.size f cd).kindOf (ps.zip us) fun _=>none) (cellsFrom (s.heap.objs.size + 1) scope.names []) (bindC (envOfC qual scope s.heap.objs.size f cd).kindOf (ps.zip us) fun _=>none) s1) :
  Inv (cxOf CX P w K mg base N qual scope f cd A outer s H E) [] (start N vs) H s1:=by
 have hpl:ps.length≤N.length:=by have:=congrArg List.length S.pre; rw [List.length_take] at this; lia
 obtain ⟨h1,tk,rfl,hk⟩:=x.done
 have noA:∀ b:Addr,b ∉ (cxOf CX P w K mg base N qual scope f cd A outer s H E).ex:=fun b z=>absurd (show b∈([]:List Addr) from z) (by simp)
 refine ⟨⟨e0.mod,S.kind,rfl,rfl,Nat.le_refl _,fun y z c h1 h2=>?_,fun y hy=>?_,fun y c _ h=>?_,fun _=>hd,Around.frames_deeper e0.frames,.inr ⟨rfl,rfl⟩,fun b z=>absurd z (noA b),e0.bs,e0.bsz,fun b _ _=>noA b,fun b z=>absurd z (noA b),e0.funs,e0.frf⟩,
  rfl,e0.bare,Un.kept hk,⟨_,x.toInCall.ns,fun i y v h1 h2 h3=>?_⟩,fun y c h=>⟨_,x.cell y c h⟩,e0.hok.fresh (Nat.le_refl _),fun y c h=>?_,fun p hp=>absurd (show p∈([]:List (Addr×Obj)) from hp) (by simp),e0.hok.kept hk,?_⟩
 ·exact name_of_addr x.apart (PySem.mem_of_lookup h1) (PySem.mem_of_lookup h2)
 ·have hy:scope.names.lookup y=some .cell∨scope.names.lookup y=some .free:=hy
  rcases hy with hy | hy
  ·exact cell_has hy
  ·exact absurd rfl (S.nofree _ (PySem.mem_of_lookup hy))
 ·exact Nat.le_of_lt (x.above y c (PySem.mem_of_lookup h))
 ·have hi:i < vs.length:=by
   unfold start at h2
   by_cases hi:i < vs.length
   ·exact hi
   ·rw [List.getElem?_append_right (by simpa using hi)] at h2
    rw [List.getElem?_replicate] at h2
    split at h2 <;> cases h2
  have ha:vs[i]?=some v:=by
   unfold start at h2
   rw [List.getElem?_append_left (by simpa using hi),List.getElem?_map] at h2
   cases e:vs[i]? with
   | none=>rw [e] at h2; cases h2
   | some a=>rw [e] at h2; cases h2; rfl
  obtain ⟨u,hu,rv⟩:=r.get ha
  have hp:ps[i]?=some y:=by
   rw [← S.pre,List.getElem?_take_of_lt (by lia)]; exact h1
  have ndP:ps.Nodup:=by rw [← S.pre]; exact S.nd.sublist (List.take_sublist _ _)
  refine ⟨u,rv,?_⟩
  rcases S.par y (List.mem_of_getElem? hp) with k | k
  ·exact .inl ⟨k,bindL_get ndP hp hu k⟩
  ·obtain ⟨c,e⟩:=cell_has (n:=s.heap.objs.size + 1) k
   refine .inr ⟨.inl k,c,e,?_⟩
   have q:=x.cell y c e
   rw [bindC_get ndP hp hu (by show scope.names.lookup y≠_; rw [k]; decide)] at q
   exact q
 ·exact e0.hok.fresh (Nat.le_of_lt (x.above y c (PySem.mem_of_lookup h)))
 ·unfold start
  show _=N.length
  rw [List.length_append,List.length_map,List.length_replicate]
  lia
theorem fn_of {CX:CXT} {P:Program} {w:World} {K:PySem.W.Frag} {mg:Str→Option Value} {base:Heap} {k:Nat} {f:Addr} {name qual:Str} {params:Arguments} {body:List Stmt} {scope:Scope} {dV kV doc pm cdv ct oc:Value} {an od:Option Addr}
  {osl:Array (Option Value)} {N ps:List Str} {sp:Sp} (lk:K.lookup f=some ⟨oc,od,.func (PySem.W.fnOf name qual params body scope dV kV doc pm an cdv ct),osl⟩) (hcd:PySem.W.codeIn K cdv qual=true) (S:FnScope N ps scope)
  (len:∀ vs H Q E,sp vs H Q E→vs.length=ps.length)
  (hbody:∀ (A:Around) (outer:List Env) (s:Shared) (H:Hp) (vs:List V) (Q:VK) (E:XK),Room k (A.deeper (envOfC qual scope s.heap.objs.size f cdv))→sp vs H Q E →
   ∃ t,PSs (cxOf CX P w K mg base N qual scope f cdv A outer s H E) body t∧t { nx:=fun _ H'=>Q .non H',rt:=Q } (start N vs) H) :
  FnOk P w K mg base CX (k + 1) f (PySem.W.fnOf name qual params body scope dV kV doc pm an cdv ct) ps sp:=by
 refine ⟨len,fun A outer s H args us vs Q E hr e0 hb r hsp=>?_⟩
 have hl:=len _ _ _ _ hsp
 have KX:K.In s.heap:=e0.mod.kin.keeps fun b o e=>(e0.bs b o e).1
 have lim:s.heap.NoLimit:=e0.mod.nolimit.keeps fun b o e=>(e0.bs b o e).1
 have hkind:∀ y∈ps.zip us,scope.names.lookup y.1=some .local∨(scope.names.lookup y.1=some .cell∧((cellsFrom (s.heap.objs.size + 1) scope.names []).lookup y.1).isSome=true):=fun ⟨n,v⟩ hy=>by
  rcases S.par n (List.of_mem_zip hy).1 with q | q
  ·exact .inl q
  ·exact .inr ⟨q,PySem.W.cellsFrom_some _ _ _ (.inl q)⟩
 refine codeAny_call_function hr.depth (KX _ _ lk) rfl S.co S.gen rfl (PySem.W.codeRec_of KX hcd) (hb _ _ _ _ ?_)
 refine wpAny_newFunctionEnv_cells S.kind hkind fun env he s1 x=>?_
 subst he
 refine ⟨lim.keeps x.toInCall.keep,codeAny_func ?_⟩
 obtain ⟨t,ht,hq⟩:=hbody A outer s H vs Q E (hr.deeper _) hsp
 have I:Inv (cxOf CX P w K mg base N qual scope f cdv A outer s H E) [] (start N vs) H s1:=inv_start S hr.hd e0 hl r x
 refine wpAny_mono (ht [] s1 (start N vs) H _ I hq) (fun fl s' hs=>?_) fun e s' hs=>hs
 have fin:∀ {σ':St} {H':Hp} {v:V} {u:Value},Inv (cxOf CX P w K mg base N qual scope f cdv A outer s H E) [] σ' H' s'→RelV v u→Q v H'→CE outer P w H s Q u s' :=
  fun {σ' H' v u} J rv q=>⟨v,H',J.os,J.bare,J.base,J.hok,rv,q⟩
 cases fl with
 | ret u =>
  obtain ⟨v,σ',H',J,rv,q⟩:=hs
  exact fin J rv q
 | next =>
  obtain ⟨σ',H',J,q⟩:=hs
  exact fin (v:=V.non) (u:=Value.none) J rfl q
 | brk =>
  obtain ⟨_,_,_,q⟩:=hs
  exact False.elim q
 | cont =>
  obtain ⟨_,_,_,q⟩:=hs
  exact False.elim q
section
variable {X:Cx} {x:Str} {p pos:Pos} {e:Expr} {es:List Expr} {t:TA} {id T:String} {r:List V→Hp→VK→Prop}
def tCB (r:List V→Hp→VK→Prop) (t:TA):TE:=fun σ H Q=>t σ H fun vs H1=>r vs H1 Q
theorem pe_callB (hc:CallR X (.builtin id) r) (hg:Gl X x) (hm:X.mg x=none) (hv:bootBuiltins x=some (.builtin id)) (ha:PA X (e :: es) t) (hn:x≠"__name__":=by decide) (hdb:(x == ("__debug__":Str))=false:=by decide)
  (he:starEach (e :: es) X.env=(false,eval e X.env) :: starEach es X.env:=by rfl) (hpl:(backTo pos (starEach es X.env)).any (·.1)=false:=by rfl):PE X (.Call (.Name x p) (e :: es) [] pos) (tCB r t):=by
 intro pins s σ H Q I h
 refine wpAny_Call_Name_kw (ld_blt I hg hm hv ?_ hn hdb)
 exact PyProof.Rows.callWith_builtin1 (thn (ha pos pins s σ H _ I h) fun us s1 ⟨vs,H1,I1,r1,q1⟩=>hc pins s1 σ H1 vs us Q I1 r1 q1) he hpl
theorem pe_callTy (hc:CallR X (.type T) r) (hg:Gl X x) (hm:X.mg x=none) (hv:bootBuiltins x=some (.type T)) (ha:PA X (e :: es) t) (hn:x≠"__name__":=by decide) (hdb:(x == ("__debug__":Str))=false:=by decide)
  (he:starEach (e :: es) X.env=(false,eval e X.env) :: starEach es X.env:=by rfl) (hpl:(backTo pos (starEach es X.env)).any (·.1)=false:=by rfl):PE X (.Call (.Name x p) (e :: es) [] pos) (tCB r t):=by
 intro pins s σ H Q I h
 refine wpAny_Call_Name_kw (ld_blt I hg hm hv ?_ hn hdb)
 exact PyProof.Rows.callWith_type1 (thn (ha pos pins s σ H _ I h) fun us s1 ⟨vs,H1,I1,r1,q1⟩=>hc pins s1 σ H1 vs us Q I1 r1 q1) he hpl
end
section
variable {κ:Type} [DecidableEq κ]
def valV (kvs:List (κ×V)) (k:κ):Option V:=(kvs.find? fun kv=>decide (kv.1=k)).map (·.2)
theorem valV_pos {p:κ×V} {r:List (κ×V)} {k:κ} (e:p.1=k):valV (p :: r) k=some p.2:=by simp [valV,List.find?_cons,e]
theorem valV_neg {p:κ×V} {r:List (κ×V)} {k:κ} (e:¬ p.1=k):valV (p :: r) k=valV r k:=by simp [valV,List.find?_cons,e]
theorem RelO.getD {o:Option V} {u:Option Value} {d:V} {d':Value} (r:RelO o u) (rd:RelV d d'):RelV (o.getD d) (u.getD d'):=by
 cases o with
 | none=>cases u with
  | none=>exact rd
  | some _=>exact (show False from r).elim
 | some _=>cases u with
  | none=>exact (show False from r).elim
  | some _=>exact r
theorem KV.val {kvs:List (κ×V)} {vs:List (κ×Value)} (r:KV kvs vs) (k:κ):RelO (valV kvs k) (valueAt vs k):=by
 unfold KV at r
 induction r with
 | nil=>exact True.intro
 | @cons p q ps qs h t ih =>
  obtain ⟨h1,h2⟩:=h
  by_cases e:p.1=k
  ·have e':q.1=k:=h1.symm.trans e
   have b:valueAt (q :: qs) k=some q.2:=by simp [valueAt,List.find?_cons,e']
   rw [valV_pos e,b]; exact h2
  ·have e':¬ q.1=k:=fun z=>e (h1.trans z)
   have b:valueAt (q :: qs) k=valueAt qs k:=by simp [valueAt,List.find?_cons,e']
   rw [valV_neg e,b]; exact ih
end
theorem kV_is {P:Program} {w:World} {k:Key} {u:Value} (r:RelV (kV k) u):(mixKind P w).is k u=true:=by
 cases k with
 | inl i=>obtain ⟨t,e⟩:=(show ∃ t,u=Value.int i t from r); subst e; exact mixKind_int P w i t
 | inr x=>obtain ⟨t,e⟩:=(show ∃ t,u=Value.str x t from r); subst e; exact mixKind_str P w x t
section
variable {P:Program} {w:World} {H:Hp} {h:Heap} {a:Addr}
end
section
variable {X:Cx} {pins:List (Addr×Obj)} {σ:St} {H:Hp} {s:Shared} {a:Addr} {y v:V} {u r:Value} {o:Option V} {A:Around} {E:Value→Shared→Prop}
end
section
variable {X:Cx} {pins:List (Addr×Obj)} {σ:St} {H:Hp} {s:Shared} {a:Addr} {kvs:List (Key×V)} {k:Key} {u:Value} {A:Around} {E:Value→Shared→Prop}
end
def NoSl (i:Expr):Prop:=∀ ov iv,subscripted i false ov iv=operate [ov,iv] (getItem ov iv)
theorem subD_of {prog:Program} {w:World} {A:Around} {E:Value→Shared→Prop} {s:Shared} {env:Env} {value slice:Expr} {pos:Pos} {T id:String} {Q:Value→Shared→Prop}
  (hl:typeLookup (.type T) "__getitem__"=pure (some (.builtin id))) (hs:NoSl slice)
  (h:wpAny (model prog w) A (eval value env) (fun o s₁=>wpAny (model prog w) A (eval slice env) (fun i s₂=>s₂.TypeIs o T∧wpAny (model prog w) A (getItem o i) Q E s₂) E s₁) E s) :
  wpAny (model prog w) A (eval (.Subscript value slice pos) env) Q E s:=by
 refine Subscript_ (wpAny_mono h (fun o s₁ h₁=>wpAny_mono h₁ (fun i s₂ h₂=>?_) fun _ _ x=>x) fun _ _ x=>x)
 obtain ⟨hT,h₂⟩:=h₂
 unfold subscriptTail
 refine wpAny_bind ?_
 rw [getitemInPython_of_ne hT.not_modules]
 refine wpAny_bind (wpAny_specialOf hT hl ?_)
 have fin:wpAny (model prog w) A (subscripted slice false o i) (fun r s₃=>wpAny (model prog w) A (letTemporaryGo value o r >>= fun _=>pure r) Q E s₃) E s₂:=by
  rw [hs o i]
  exact wpAny_operating (wpAny_mono h₂ (fun r s₃ h₃=>wpAny_bind (wpAny_letTemporaryGo (wpAny_pure h₃))) fun _ _ x=>x)
 first
  | exact wpAny_pure (wpAny_bind fin)
  | exact wpAny_bind (wpAny_pure (wpAny_bind fin))
  | exact wpAny_bind fin
section
variable {X:Cx} {o i e value:Expr} {pos pos' tpos:Pos} {td ty tv:TE}
end
section
variable {X:Cx} {pos:Pos}
end
structure M1 (X:Cx) (o:Expr) (m:Str) (apos:Pos) (e:Expr) (cpos:Pos):Prop where
 base:attributeBase o m X.env (eval o X.env)=eval o X.env
 few:((backTo cpos (starEach [e] X.env)).all (fun x=>!x.1) && (backToKw cpos (keywordEach [] X.env)).all (fun x=>x.1.isSome)
  && decide (([e]:List Expr).length + ([]:List Keyword).length + (if ([]:List Keyword).isEmpty then 0 else 1) < 30))=true
 line:(apos.endLine == cpos.line)=true
 trees:backTo cpos (starEach [e] X.env)=[(false,eval e X.env)]
section
variable {X:Cx} {pins:List (Addr×Obj)} {σ:St} {H:Hp} {s:Shared} {a:Addr} {y d:V} {u r:Value} {o:Option V} {A:Around} {E:Value→Shared→Prop}
end
section
variable {X:Cx} {o e f:Expr} {apos cpos:Pos} {td ty tx:TE}
end
section
variable {X:Cx} {pins:List (Addr×Obj)} {σ:St} {H:Hp} {s:Shared} {a:Addr} {kvs:List (Key×V)} {A:Around} {E:Value→Shared→Prop}
end
section
variable {X:Cx} {pins:List (Addr×Obj)} {σ:St} {H:Hp} {s:Shared} {a:Addr} {y:V} {u:Value} {A:Around} {E:Value→Shared→Prop}
end
end L2
namespace HT
open PySem PyProof.Rows
section
open PySem.SeqAt
open PySem.AutoSeq1 (wpAny_loadPart')
open PySem.MeetsSeq PySem.MeetsSeq2 PySem.MeetsSeq3
end
section
variable {prog:Program} {w:World} {A:Around} {E:Value→Shared→Prop} {s:Shared}
def sIx (n d:Nat):Option Int→Nat
 | none=>d
 | some v=>if v < 0 then (v + (n:Int)).toNat else min v.toNat n
end
end HT
namespace L2
open PySem PySem.Spec PyProof.Rows
abbrev TO:=St→Hp→(Option Int→Hp→Prop)→Prop
def PO (X:Cx) (e:Option Expr) (t:TO):Prop :=
 ∀ (pins:List (Addr×Obj)) (s:Shared) (σ:St) (H:Hp) (Q:Option Int→Hp→Prop),Inv X pins σ H s→t σ H Q →
  wpAny (model X.prog X.w) X.A (evalPart e X.env) (fun u s'=>∃ o H',Inv X pins σ H' s'∧IsPart u o∧Q o H') X.xe s
def tNoPart:TO:=fun _ H Q=>Q none H
def tPart (t:TE):TO:=fun σ H Q=>t σ H fun x H1=>∃ i,x=.int i∧Q (some i) H1
section
variable {X:Cx} {e:Expr} {te:TE} {lo hi:Option Expr} {tl th:TO} {pos p2:Pos}
theorem po_none:PO X none tNoPart:=by
 intro pins s σ H Q I h
 rw [evalPart_none]
 exact wpAny_pure ⟨none,H,I,.none,h⟩
theorem po_some (h:PE X e te):PO X (some e) (tPart te):=by
 intro pins s σ H Q I hw
 rw [evalPart_some]
 refine thn (h pins s σ H _ I hw) fun u s1 ⟨x,H1,I1,r1,q1⟩=>?_
 obtain ⟨i,rfl,q⟩:=q1
 obtain ⟨t,rfl⟩:=r1
 exact ⟨some i,H1,I1,.int i t,q⟩
def SlR (X:Cx) (r:V→Option Int→Option Int→Hp→VK→Prop):Prop :=
 ∀ (pins:List (Addr×Obj)) (s:Shared) (σ:St) (H:Hp) (x:V) (v vl vu:Value) (lo hi:Option Int) (sl:Addr) (Q:VK),Inv X pins σ H s→RelV x v→s.heap.IsSliceOf sl vl vu .none→IsPart vl lo→IsPart vu hi→r x lo hi H Q →
  ∃ T id,typeLookup (.type T) "__getitem__"=pure (some (.builtin id))∧s.TypeIs v T∧wpAny (model X.prog X.w) X.A (getItem v (.ref sl)) (EP X pins σ Q) X.xe s
def tSl (r:V→Option Int→Option Int→Hp→VK→Prop) (te:TE) (tl th:TO):TE:=fun σ H Q=>te σ H fun x H1=>tl σ H1 fun l H2=>th σ H2 fun u H3=>r x l u H3 Q
theorem pe_slice {r:V→Option Int→Option Int→Hp→VK→Prop} (hr:SlR X r) (he:PE X e te) (hl:PO X lo tl) (hu:PO X hi th):PE X (.Subscript e (.Slice lo hi none p2) pos) (tSl r te tl th):=by
 intro pins s σ H Q I h
 refine Subscript_ (thn (he pins s σ H _ I h) fun v s1 ⟨x,H1,I1,r1,q1⟩=>?_)
 refine wpAny_Slice (thn (hl pins s1 σ H1 _ I1 q1) fun vl s2 ⟨l,H2,I2,pl,q2⟩=>thn (hu pins s2 σ H2 _ I2 q2) fun vu s3 ⟨u,H3,I3,pu,q3⟩=>?_)
 rw [evalPart_none]
 refine wpAny_pure ?_
 have I4:Inv X pins σ H3 { s3 with heap:=s3.heap.push { cls:=.type "slice",data:=.fields #[vl,vu,.none] } }:=I3.kept (t':=s3.toks) fun b ob q=>Heap.get?_push_of_some _ q
 obtain ⟨T,id,hT,ht,hg⟩:=hr pins { s3 with heap:=s3.heap.push { cls:=.type "slice",data:=.fields #[vl,vu,.none] } } σ H3 x v vl vu l u s3.heap.objs.size Q I4 r1 (Heap.IsSliceOf.new ..) pl pu q3
 show wpAny (model X.prog X.w) X.A (subscriptTail e (.Slice lo hi none p2) v (.ref s3.heap.objs.size)) (EP X pins σ Q) X.xe { s3 with heap:=s3.heap.push { cls:=.type "slice",data:=.fields #[vl,vu,.none] } }
 exact tail_any (ops:=[.ref s3.heap.objs.size,v]) ht hT hg (by with_unfolding_all rfl)
def cutV (xs:List V) (lo hi:Option Int):List V:=(xs.drop (HT.sIx xs.length 0 lo)).take (HT.sIx xs.length xs.length hi - HT.sIx xs.length 0 lo)
theorem cutV_length (xs:List V) (lo hi:Option Int):(cutV xs lo hi).length≤xs.length:=by
 unfold cutV
 rw [List.length_take,List.length_drop]
 lia
end
def ixN (n:Nat) (i:Int):Option Nat:=if 0≤i then (if i < n then some i.toNat else none) else if -(n:Int)≤i then some (i + n).toNat else none
def atI {α:Type} (xs:List α) (i:Int):Option α:=(ixN xs.length i).bind fun j=>xs[j]?
theorem ixN_seq {n:Nat} {i:Int} {j:Nat} (h:ixN n i=some j):seqIndex? i n=some j∧j < n∧-(n:Int)≤i∧i < n:=by
 unfold ixN at h
 by_cases h0:0≤i
 ·rw [if_pos h0] at h
  by_cases h1:i < n
  ·rw [if_pos h1] at h
   have e:i.toNat=j:=Option.some.inj h
   exact ⟨by rw [seqIndex_of h0 h1,e],by lia,by lia,h1⟩
  ·rw [if_neg h1] at h; cases h
 ·rw [if_neg h0] at h
  by_cases h1:-(n:Int)≤i
  ·rw [if_pos h1] at h
   have e:(i + n).toNat=j:=Option.some.inj h
   exact ⟨by rw [seqIndex_neg (by lia) h1,e],by lia,h1,by lia⟩
  ·rw [if_neg h1] at h; cases h
theorem atI_get {α:Type} {xs:List α} {i:Int} {v:α} (h:atI xs i=some v):∃ j,seqIndex? i xs.length=some j∧xs[j]?=some v∧j < xs.length∧-(xs.length:Int)≤i∧i < xs.length:=by
 unfold atI at h
 cases e:ixN xs.length i with
 | none=>rw [e] at h; cases h
 | some j =>
  rw [e] at h
  obtain ⟨h1,h2,h3,h4⟩:=ixN_seq e
  exact ⟨j,h1,h,h2,h3,h4⟩
theorem atI_nat {α:Type} {xs:List α} {j:Nat} {v:α} (h:xs[j]?=some v):atI xs (j:Int)=some v:=by
 have hj:j < xs.length:=(List.getElem?_eq_some_iff.mp h).1
 have e:ixN xs.length (j:Int)=some j:=by
  unfold ixN
  rw [if_pos (by lia),if_pos (by lia)]; simp
 unfold atI; rw [e]; exact h
def PlainIx (b:Expr):Prop:=∀ o i,subscripted b false o i=operate [o,i] (getItem o i)
def IxR (X:Cx) (r:R2):Prop :=
 ∀ (value slice:Expr) (pins:List (Addr×Obj)) (s:Shared) (σ:St) (H:Hp) (x y:V) (v u:Value) (Q:VK),Inv X pins σ H s→RelV x v→RelV y u→r x y H Q →
  subscripted slice false v u=operate [v,u] (getItem v u)→wpAny (model X.prog X.w) X.A (subscriptTail value slice v u) (EP X pins σ Q) X.xe s
def MtR (X:Cx) (id:String) (r:V→List V→Hp→VK→Prop):Prop :=
 ∀ (pins:List (Addr×Obj)) (s:Shared) (σ:St) (H:Hp) (x:V) (xs:List V) (v:Value) (us:List Value) (Q:VK),Inv X pins σ H s→RelV x v→Vals xs us→r x xs H Q →
  wpAny (model X.prog X.w) X.A (call (.builtin id) (v :: us)) (EP X pins σ Q) X.xe s
section
variable {X:Cx} {a b:Expr} {ta tb:TE} {pos:Pos}
theorem pe_ix {r:R2} (hr:IxR X r) (ha:PE X a ta) (hb:PE X b tb) (hs:PlainIx b):PE X (.Subscript a b pos) (tOp r ta tb):=by
 intro pins s σ H Q I h
 exact Subscript_ (binT ha hb I h fun v u s2 x y H2 I2 rx ry q=>hr a b pins s2 σ H2 x y v u Q I2 rx ry q (hs _ _))
def rIxL (K:PySem.W.Frag):R2:=fun x y H Q=>∃ p xs i v,x=.ref p∧y=.int i∧SqL K H p xs∧atI xs i=some v∧Q v H
def rIxT (K:PySem.W.Frag):R2:=fun x y H Q=>∃ p xs i v,x=.ref p∧y=.int i∧SqT K H p xs∧atI xs i=some v∧Q v H
def rIxS:R2:=fun x y H Q=>∃ z i c,x=.str z∧y=.int i∧z.length≤sizeLine∧atI z.cps.toList i=some c∧Q (.str ⟨#[c]⟩) H
theorem ix_list:IxR X (rIxL X.K):=by
 intro value slice pins s σ H x y v u Q I rx ry h hs
 obtain ⟨p,xs,i,z,rfl,rfl,hq,he,q⟩:=h
 cases rx
 obtain ⟨t,rfl⟩:=ry
 obtain ⟨its,r,pl,hz⟩:=I.list hq
 obtain ⟨j,h1,h2,h3,h4,h5⟩:=atI_get he
 obtain ⟨w,ew,rw'⟩:=r.get h2
 have hl:=r.length
 have hn:=line63
 have fin:EP X pins σ Q w s:=⟨z,H,I,rw',q⟩
 by_cases h0:0≤i
 ·have hj:i.toNat=j:=by
   rw [seqIndex_of h0 h5] at h1
   exact Option.some.inj h1
  exact item_listR pl.isList h0 (by lia) (by rw [hj]; simpa using ew) fin hs
 ·have hj:(i + (its.toArray.size:Int)).toNat=j:=by
   rw [seqIndex_neg (by lia) h4] at h1
   rw [List.size_toArray,← hl]
   exact Option.some.inj h1
  exact subscriptTail_builtinR (x:=w) pl.isList.typeIs slot_list_getitem.lookup
   (wpAny_getItem_list_neg (Q:=fun r s'=>r=w∧EP X pins σ Q r s') pl.isList (by lia) (by rw [List.size_toArray] <;> lia) (by lia) (by rw [hj]; simpa using ew) ⟨rfl,fin⟩) hs
theorem ix_tup:IxR X (rIxT X.K):=by
 intro value slice pins s σ H x y v u Q I rx ry h hs
 obtain ⟨p,xs,i,z,rfl,rfl,hq,he,q⟩:=h
 cases rx
 obtain ⟨t,rfl⟩:=ry
 obtain ⟨its,r,pl,hz⟩:=I.tuple hq
 obtain ⟨j,h1,h2,h3,h4,h5⟩:=atI_get he
 obtain ⟨w,ew,rw'⟩:=r.get h2
 have hl:=r.length
 have hn:=line63
 have fin:EP X pins σ Q w s:=⟨z,H,I,rw',q⟩
 exact subscriptTail_builtinR (x:=w) pl.typeIs slot_tuple_getitem.lookup
  (getItem_tuple (j:=j) (Q:=fun r s'=>r=w∧EP X pins σ Q r s') pl (by lia) (by lia) (by rw [List.size_toArray,← hl]; exact h1) (by simpa using ew) ⟨rfl,fin⟩) hs
theorem ix_str:IxR X rIxS:=by
 intro value slice pins s σ H x y v u Q I rx ry h hs
 obtain ⟨z,i,c,rfl,rfl,hz,he,q⟩:=h
 obtain ⟨t,rfl⟩:=rx
 obtain ⟨t',rfl⟩:=ry
 obtain ⟨j,h1,h2,h3,h4,h5⟩:=atI_get he
 have hl:z.cps.toList.length=z.length:=by simp [Str.length]
 rw [hl] at h1 h4 h5
 have hn:=line63
 exact tail_any (typeIs_str s z t) slot_str_getitem.lookup (getItem_str (c:=c) (by
  have e1:decide (i < -(2 ^ 63:Int))=false:=decide_eq_false (by lia)
  have e2:decide (i ≥ 2 ^ 63)=false:=decide_eq_false (by lia)
  rw [e1,e2,Bool.or_false]) (by rw [h1]; simpa using h2) ⟨.str ⟨#[c]⟩,H,I.tok _,⟨_,rfl⟩,q⟩) hs
theorem mapSeq_set (its:List Value) (n j:Nat) (u:Value):Obj.mapSeq (·.setIfInBounds j u) { cls:=.type "list",data:=.seq its.toArray n }={ cls:=.type "list",data:=.seq (its.set j u).toArray n }:=by
 simp [Obj.mapSeq]
theorem Inv.lst {pins:List (Addr×Obj)} {σ:St} {H:Hp} {s:Shared} {p:Addr} {xs:List V} (I:Inv X pins σ H s) (h:H p=some (.lst xs)) :
  ∃ (its:List Value) (n:Nat),Vals xs its∧s.heap.get? p=some { cls:=.type "list",data:=.seq its.toArray n }∧xs.length≤sizeLine:=by
 obtain ⟨z,its,n,r,e⟩:=I.hok p _ h
 exact ⟨its,n,r,e,z⟩
theorem Inv.lstUpd {pins:List (Addr×Obj)} {σ:St} {H:Hp} {s:Shared} {p:Addr} {xs ys:List V} {its its':List Value} {n n':Nat} {f:Obj→Obj} (I:Inv X pins σ H s) (h:H p=some (.lst xs))
  (ho:s.heap.get? p=some { cls:=.type "list",data:=.seq its.toArray n }) (hf:f { cls:=.type "list",data:=.seq its.toArray n }={ cls:=.type "list",data:=.seq its'.toArray n' }) (r:Vals ys its') (hz:ys.length≤sizeLine) (t:Nat) :
  Inv X pins σ (upd H p (.lst ys)) { s with heap:=s.heap.update p f,toks:=t }:=by
 have e:(s.heap.update p f).get? p=some { cls:=.type "list",data:=.seq its'.toArray n' }:=by
  rw [Heap.get?_update_self f ho (by rw [hf] <;> rfl),hf]
 refine I.write (x:=p) (e:=p) (by rw [h]; trivial) (.inl rfl) (fun b u hb q=>(Heap.get?_update_other _ _ (Ne.symm hb)).trans q) ⟨_,e⟩ ?_
 exact ⟨hz,its',n',r,e⟩
def rSetL:V→V→V→Hp→(Hp→Prop)→Prop:=fun o i v H Q=>∃ p xs k j,o=.ref p∧i=.int k∧H p=some (.lst xs)∧ixN xs.length k=some j∧Q (upd H p (.lst (xs.set j v)))
theorem set_list:PSet X rSetL:=by
 intro pins s σ H o i v ov iv u Q I ro ri rv h
 obtain ⟨p,xs,k,j,rfl,rfl,hp,hj,q⟩:=h
 cases ro
 obtain ⟨t,rfl⟩:=ri
 obtain ⟨its,n,r,ho,hz⟩:=I.lst hp
 obtain ⟨h1,h2,h3,h4⟩:=ixN_seq hj
 have hl:=r.length
 have hn:=line63
 have I':Inv X pins σ (upd H p (.lst (xs.set j v))) { s with heap:=s.heap.update p (Obj.mapSeq (·.setIfInBounds j u)) } :=
  I.lstUpd hp ho (mapSeq_set its n j u) (r.set rv j) (by rw [List.length_set]; exact hz) s.toks
 by_cases h0:0≤k
 ·have hk:k.toNat=j:=by
   rw [seqIndex_of h0 h4] at h1
   exact Option.some.inj h1
  exact PySem.W.ki_setAt ho h0 (by lia) (by rw [List.size_toArray,← hl]; exact h4) (by rw [hk]; exact ⟨_,I',q⟩)
 ·have hk:(k + (its.toArray.size:Int)).toNat=j:=by
   rw [seqIndex_neg (by lia) h3] at h1
   rw [List.size_toArray,← hl]
   exact Option.some.inj h1
  exact PySem.W.ki_setBack ho (by lia) (by rw [List.size_toArray,← hl]; exact h3) (by lia) (by rw [hk]; exact ⟨_,I',q⟩)
theorem slice_bounds (lo hi:Option Int) (n:Nat):(sliceBounds lo hi none n).1=((HT.sIx n 0 lo:Nat):Int)∧(sliceBounds lo hi none n).2.1=((HT.sIx n n hi:Nat):Int)∧(sliceBounds lo hi none n).2.2=1:=by
 refine ⟨?_,?_,rfl⟩
 ·cases lo with
  | none=>simp [sliceBounds,HT.sIx]
  | some i =>
   simp only [sliceBounds,HT.sIx,Option.getD_none,show (1:Int) > 0 by decide,if_true]
   by_cases h:i < 0
   ·simp only [h,if_true] <;> lia
   ·simp only [h,if_false] <;> lia
 ·cases hi with
  | none=>simp [sliceBounds,HT.sIx]
  | some i =>
   simp only [sliceBounds,HT.sIx,Option.getD_none,show (1:Int) > 0 by decide,if_true]
   by_cases h:i < 0
   ·simp only [h,if_true] <;> lia
   ·simp only [h,if_false] <;> lia
theorem slicePick_cut (its:List Value) (lo hi:Option Int):slicePick its.toArray lo hi none=((its.drop (HT.sIx its.length 0 lo)).take (HT.sIx its.length its.length hi - HT.sIx its.length 0 lo)).toArray:=by
 obtain ⟨h1,h2,h3⟩:=slice_bounds lo hi its.toArray.size
 unfold slicePick
 rw [h1,h2,h3]
 simp only [sliceRange_one,pick_run,List.size_toArray] <;> rfl
def rSlL (K:PySem.W.Frag):V→Option Int→Option Int→Hp→VK→Prop:=fun x lo hi H Q=>∃ a xs,x=.ref a∧SqL K H a xs∧∀ p,H p=none→Q (.ref p) (upd H p (.lst (cutV xs lo hi)))
theorem sl_list:SlR X (rSlL X.K):=by
 intro pins s σ H x v vl vu lo hi sl Q I rx hs pl pu h
 obtain ⟨a,xs,rfl,hx,q⟩:=h
 cases rx
 obtain ⟨its,r,ht,hz⟩:=I.list hx
 have hlen:=r.length
 refine ⟨"list",_,slot_list_getitem.lookup,ht.isList.typeIs,?_⟩
 refine wpAny_getItem_list_slice ht.isList hs pl pu .none (by simp) ?_ (by rw [List.size_toArray] <;> lia)
 rw [slicePick_cut,← hlen]
 refine ⟨.ref s.heap.objs.size,_,I.laid (t':=s.toks) (o:=.lst (cutV xs lo hi)) (fun b ob q=>Heap.get?_push_of_some _ q) (Nat.le_refl _) ?_,rfl,q _ (I.hok.fresh (Nat.le_refl _))⟩
 exact ⟨Nat.le_trans (cutV_length xs lo hi) hz,_,0,(r.drop (HT.sIx xs.length 0 lo)).take (HT.sIx xs.length xs.length hi - HT.sIx xs.length 0 lo),Heap.get?_push_size _ rfl⟩
theorem op_notIn_str:OpR X (compareOp .NotIn) (fun x y H Q=>∃ i j,x=.str i∧y=.str j∧Q (.bl (!(!(Builtin.Str.occurrences j i 0 j.length 1).isEmpty))) H):=by
 intro pins s σ H x y v u Q I rx ry h
 obtain ⟨i,j,rfl,rfl,q⟩:=h
 obtain ⟨t,rfl⟩:=rx
 obtain ⟨t',rfl⟩:=ry
 exact notIn_str ⟨.bl _,H,I,rfl,q⟩
theorem call_len_seq:CallR X (.builtin "len") (fun xs H Q=>∃ p ys,xs=[.ref p]∧(SqL X.K H p ys∨SqT X.K H p ys)∧Q (.int ys.length) H):=by
 intro pins s σ H xs us Q I r h
 obtain ⟨p,ys,rfl,hq,q⟩:=h
 obtain ⟨u,rfl,rx⟩:=vals1 r
 cases rx
 have hn:=line63
 rcases hq with hq | hq
 ·obtain ⟨its,r',pl,hz⟩:=I.list hq
  have hlen:=r'.length
  exact Calls.call_len_list pl.isList (by simp only [List.size_toArray] <;> lia) ⟨.int ys.length,H,I.tok _,⟨s.toks + 1,by rw [List.size_toArray,hlen]⟩,q⟩
 ·obtain ⟨its,r',pl,hz⟩:=I.tuple hq
  have hlen:=r'.length
  exact len_tuple pl (by simp only [List.size_toArray] <;> lia) ⟨.int ys.length,H,I.tok _,⟨s.toks + 1,by rw [List.size_toArray,hlen]⟩,q⟩
theorem call_len_str:CallR X (.builtin "len") (fun xs H Q=>∃ z,xs=[.str z]∧z.length≤sizeLine∧Q (.int z.length) H):=by
 intro pins s σ H xs us Q I r h
 obtain ⟨z,rfl,hz,q⟩:=h
 obtain ⟨u,rfl,t,rfl⟩:=vals1 r
 have hn:=line63
 exact len_str (by lia) ⟨.int z.length,H,I.tok _,⟨_,rfl⟩,q⟩
theorem call_list_of:CallR X (.type "list") (fun xs H Q=>∃ p ys,xs=[.ref p]∧(SqL X.K H p ys∨SqT X.K H p ys)∧∀ l,H l=none→Q (.ref l) (upd H l (.lst ys))):=by
 intro pins s σ H xs us Q I r h
 obtain ⟨p,ys,rfl,hq,q⟩:=h
 obtain ⟨u,rfl,rx⟩:=vals1 r
 cases rx
 have fin:∀ (its:List Value),Vals ys its→ys.length≤sizeLine→∀ (h':Heap) (c':Nat),(∀ b o',s.heap.get? b=some o'→h'.get? b=some o') →
   h'.get? s.heap.objs.size=some { cls:=.type "list",dict:=none,data:=.seq its.toArray c',slots:=#[] }→EP X pins σ Q (.ref s.heap.objs.size) { s with heap:=h' }:=fun its r' hz h' c' kp e =>
  ⟨.ref s.heap.objs.size,_,I.laid (t':=s.toks) kp (Nat.le_refl _) (show ObjOk X.prog X.w _ h' _ (.lst ys) from ⟨hz,its,c',r',e⟩),rfl,q _ (I.hok.fresh (Nat.le_refl _))⟩
 rcases hq with hq | hq
 ·obtain ⟨its,r',pl,hz⟩:=I.list hq
  have hlen:=r'.length
  obtain ⟨o,ho,hc,n,hd⟩:=pl.isList
  exact call_list_seq p (.inl rfl) ho hc hd (fun h' c' kp e=>fin its r' hz h' c' kp e) (by simp only [List.size_toArray] <;> lia)
 ·obtain ⟨its,r',pl,hz⟩:=I.tuple hq
  have hlen:=r'.length
  obtain ⟨o,ho,hc,n,hd⟩:=pl
  exact call_list_seq p (.inr rfl) ho hc hd (fun h' c' kp e=>fin its r' hz h' c' kp e) (by simp only [List.size_toArray] <;> lia)
def tyV (K:PySem.W.Frag) (T:String) (x:V) (H:Hp):Prop:=match x with
 | .str _=>T="str"
 | .int _=>T="int"
 | .ref p=>(T="list"∧∃ xs,SqL K H p xs)∨(T="tuple"∧∃ o,K.lookup p=some o∧o.cls=.type "tuple"∧o.dict=none) ∨
   (T="dict"∧((∃ kvs,H p=some (.dK kvs))∨∃ kvs,H p=some (.dT kvs)))∨(T="set"∧∃ S n,H p=some (.set S n))
 | _=>False
theorem tyV_is {pins:List (Addr×Obj)} {σ:St} {H:Hp} {s:Shared} {T:String} {x:V} {v:Value} (I:Inv X pins σ H s) (r:RelV x v) (ty:tyV X.K T x H) :
  s.TypeIs v T∧∀ a,v=.ref a→∃ ob,s.heap.get? a=some ob∧ob.dict=none:=by
 cases x with
 | str z =>
  obtain ⟨t,rfl⟩:=r
  cases (show T="str" from ty)
  exact ⟨typeIs_str s z t,fun _ e=>nomatch e⟩
 | int i =>
  obtain ⟨t,rfl⟩:=r
  cases (show T="int" from ty)
  exact ⟨typeIs_int s i t,fun _ e=>nomatch e⟩
 | ref p =>
  cases r
  rcases ty with ⟨rfl,xs,hq⟩ | ⟨rfl,o,hk,hc,hd⟩ | ⟨rfl,hk⟩ | ⟨rfl,S,n,hk⟩
  ·obtain ⟨its,_,pl,_⟩:=I.list hq
   refine ⟨pl.isList.typeIs,fun a e=>?_⟩
   cases e
   obtain ⟨o,n,e,c,hd,_⟩:=pl
   exact ⟨o,e,hd⟩
  ·refine ⟨⟨o,I.kIn p o hk,hc⟩,fun a e=>?_⟩
   cases e
   exact ⟨o,I.kIn _ o hk,hd⟩
  ·have z:∃ o,s.heap.get? p=some o∧o.ExactDict:=by
    rcases hk with ⟨kvs,hk⟩ | ⟨kvs,hk⟩
    ·obtain ⟨_,_,_,_,o,_,_,e,ex,_⟩:=I.hok p _ hk
     exact ⟨o,e,ex⟩
    ·obtain ⟨_,_,_,_,o,_,_,e,ex,_⟩:=I.hok p _ hk
     exact ⟨o,e,ex⟩
   obtain ⟨o,e,ex⟩:=z
   refine ⟨⟨o,e,ex.1⟩,fun a e2=>?_⟩
   cases e2
   exact ⟨o,e,ex.2.1⟩
  ·obtain ⟨o,_,_,_,e,ex,_⟩:=I.hok p _ hk
   refine ⟨⟨o,e,ex.1⟩,fun a e2=>?_⟩
   cases e2
   exact ⟨o,e,ex.2.1⟩
 | _=>exact False.elim ty
def tBM (K:PySem.W.Frag) (T:String) (r:V→List V→Hp→VK→Prop) (to:TE) (t:TA):TE:=fun σ H Q=>to σ H fun x H1=>tyV K T x H1∧t σ H1 fun xs H2=>r x xs H2 Q
variable {o e:Expr} {es:List Expr} {to:TE} {t:TA} {name:Str} {apos cpos:Pos} {T id:String} {r:V→List V→Hp→VK→Prop}
theorem pe_bm (pa:PlainAttrs T) (slot:Slot T name id) (hty:typeOf (.builtin id)=pure (.type "method_descriptor")) (hm:MtR X id r) (ho:PE X o to) (ha:PA X (e :: es) t)
  (hbase:attributeBase o name X.env (eval o X.env)=eval o X.env:=by rfl)
  (hfew:((backTo cpos (starEach (e :: es) X.env)).all (fun x=>!x.1) && (backToKw cpos (keywordEach [] X.env)).all (fun x=>x.1.isSome)
   && decide ((e :: es).length + ([]:List Keyword).length + (if ([]:List Keyword).isEmpty then 0 else 1) < 30))=true:=by rfl)
  (hline:(apos.endLine == cpos.line)=true:=by rfl) (hs:starEach (e :: es) X.env=(false,eval e X.env) :: starEach es X.env:=by rfl) (hplain:(backTo cpos (starEach es X.env)).any (·.1)=false:=by rfl) :
  PE X (.Call (.Attribute o name apos) (e :: es) [] cpos) (tBM X.K T r to t):=by
 intro pins s σ H Q I h
 refine wpAny_Call_method_late hbase hfew hline rfl (thn (ho pins s σ H _ I h) fun v s1 ⟨x,H1,I1,r1,ty,q1⟩=>?_)
 obtain ⟨h1,h2⟩:=tyV_is I1 r1 ty
 refine ⟨T,id,pa,slot,hty,h1,h2,?_⟩
 have hA:=ha cpos pins s1 σ H1 _ I1 q1
 rw [hs] at hA ⊢
 refine Calls.callWith_builtin (by show (false || (backTo cpos (starEach es X.env)).any (·.1))=false; rw [hplain] <;> rfl) (Calls.evalArgs_plain ?_)
 exact thn hA fun us s2 ⟨vs,H2,I2,r2,q2⟩=>hm pins s2 σ H2 x vs v us Q I2 r1 r2 q2
end
def MtM (X:Cx) (id:String) (r:V→List V→Hp→VK→Prop):Prop :=
 ∀ (pins:List (Addr×Obj)) (s:Shared) (σ:St) (H:Hp) (x:V) (xs:List V) (v:Value) (us:List Value) (Q:VK),Inv X pins σ H s→RelV x v→Vals xs us→r x xs H Q →
  wpAny (model X.prog X.w) X.A (call (.builtin id) (v :: us)) (EP X pins σ Q) X.xe s
theorem Vals.one:∀ {x:V} {us:List Value},Vals [x] us→∃ u,us=[u]∧RelV x u
 | _,_,.cons r .nil=>⟨_,rfl,r⟩
theorem Vals.two:∀ {x y:V} {us:List Value},Vals [x,y] us→∃ u v,us=[u,v]∧RelV x u∧RelV y v
 | _,_,_,.cons r (.cons q .nil)=>⟨_,_,rfl,r,q⟩
theorem Vals.rep {xs:List V} {us:List Value} (h:Vals xs us):∀ k:Nat,Vals (List.replicate k xs).flatten (List.replicate k us).flatten
 | 0=>.nil
 | k + 1=>by
  rw [List.replicate_succ,List.replicate_succ,List.flatten_cons,List.flatten_cons]
  exact Vals.append h (Vals.rep h k)
theorem foldl_rep (its:List Value):∀ (k:Nat) (acc:List Value),
  List.foldl (fun x1 x2=>x1++x2) acc.toArray (List.replicate k its.toArray)=(acc++(List.replicate k its).flatten).toArray
 | 0,acc=>by simp
 | k + 1,acc=>by
  have e:acc.toArray++its.toArray=(acc++its).toArray:=by simp
  have e2:(acc++its)++(List.replicate k its).flatten=acc++(List.replicate (k + 1) its).flatten:=by
   rw [List.replicate_succ,List.flatten_cons,List.append_assoc]
  rw [← e2,← foldl_rep its k (acc++its),← e,List.replicate_succ,List.foldl_cons]
section
variable {X:Cx} {pins:List (Addr×Obj)} {σ:St} {H:Hp} {s:Shared} {l b:Addr} {xs ys zs:List V}
theorem Inv.lset {its its':List Value} {n:Nat} {f:Array Value→Array Value} {t':Nat} (I:Inv X pins σ H s) (hH:H l=some (.lst xs))
  (e:s.heap.get? l=some { cls:=.type "list",data:=.seq its.toArray n }) (hf:f its.toArray=its'.toArray) (hv:Vals ys its') (hz:ys.length≤sizeLine) :
  Inv X pins σ (upd H l (.lst ys)) { s with heap:=s.heap.update l (Obj.mapSeq f),toks:=t' }:=by
 have q:=PySem.IsL.update e f
 rw [hf] at q
 refine I.write (x:=l) (e:=l) (by rw [hH]; exact trivial) (.inl rfl) (fun b' u hb hu=>(Heap.get?_update_other s.heap (Obj.mapSeq f) (Ne.symm hb)).trans hu) ⟨_,q⟩ ?_
 exact ⟨hz,its',_,hv,q⟩
theorem Inv.lnew {its:List Value} {t':Nat} (I:Inv X pins σ H s) (hv:Vals ys its) (hz:ys.length≤sizeLine) :
  Inv X pins σ (upd H s.heap.objs.size (.lst ys)) { s with heap:=s.heap.push { cls:=.type "list",data:=.seq its.toArray },toks:=t' } :=
 I.laid (fun _ _ q=>Heap.get?_push_of_some _ q) (Nat.le_refl _) ⟨hz,its,0,hv,Heap.get?_push_size _ rfl⟩
theorem Inv.fresh (I:Inv X pins σ H s):H s.heap.objs.size=none:=I.hok.fresh (Nat.le_refl _)
theorem Inv.lstM (I:Inv X pins σ H s) (hH:H l=some (.lst xs)):xs.length≤sizeLine∧∃ (its:List Value) (n:Nat),Vals xs its∧xs.length=its.length∧s.heap.get? l=some { cls:=.type "list",data:=.seq its.toArray n }:=by
 obtain ⟨z,its,n,r,e⟩:=I.hok l _ hH
 exact ⟨z,its,n,r,r.length,e⟩
theorem notLongL {n:Nat} (h:n≤sizeLine):Builtin.List.listTooLong n=false:=by
 unfold Builtin.List.listTooLong
 exact decide_eq_false (by lia)
end
section
variable {X:Cx}
def rAppend:V→List V→Hp→VK→Prop:=fun x vs H Q=>∃ l xs y,x=.ref l∧vs=[y]∧H l=some (.lst xs)∧xs.length < sizeLine∧Q .non (upd H l (.lst (xs++[y])))
theorem mt_append:MtM X "list.append" rAppend:=by
 intro pins s σ H x vs v us Q I rx rv h
 obtain ⟨l,xs,y,rfl,rfl,hH,hz,q⟩:=h
 cases rx
 obtain ⟨u,rfl,ru⟩:=rv.one
 obtain ⟨z,its,n,r,hl,e⟩:=I.lstM hH
 refine call_meets F.slot_list_append ⟨_,e,rfl⟩ F.entry_list_append (F.args_list_append_2 _ _) (PySem.list_append l its.toArray n u (by rw [List.size_toArray]; lia)) ⟨e,?_⟩
 refine ⟨.non,_,I.lset (its':=its++[u]) hH e (by simp) (r.append (.cons ru .nil)) ?_,rfl,q⟩
 rw [List.length_append,List.length_singleton]
 lia
def rExtend:V→List V→Hp→VK→Prop:=fun x vs H Q=>∃ l b xs zs,x=.ref l∧vs=[.ref b]∧H l=some (.lst xs)∧H b=some (.lst zs)∧xs.length + zs.length≤sizeLine∧Q .non (upd H l (.lst (xs++zs)))
theorem mt_extend:MtM X "list.extend" rExtend:=by
 intro pins s σ H x vs v us Q I rx rv h
 obtain ⟨l,b,xs,zs,rfl,rfl,hH,hB,hz,q⟩:=h
 cases rx
 obtain ⟨u,rfl,ru⟩:=rv.one
 cases ru
 obtain ⟨z,its,n,r,hl,e⟩:=I.lstM hH
 obtain ⟨z2,its2,n2,r2,hl2,e2⟩:=I.lstM hB
 have hsz:its.toArray.size + its2.toArray.size≤sizeLine:=by rw [List.size_toArray,List.size_toArray]; lia
 have hlong:¬ (!its.toArray.isEmpty && Builtin.List.listTooLong (its.toArray.size + its2.toArray.size))=true:=by
  rw [notLongL hsz,Bool.and_false]
  exact Bool.false_ne_true
 refine call_meets F.slot_list_extend ⟨_,e,rfl⟩ F.entry_list_extend (F.args_list_extend_2 _ _)
  (AutoSeq1.list_extend_list_list_0 l its.toArray n b its2.toArray n2 hlong (by rw [List.size_toArray]; lia) (by lia)) ⟨e,e2,?_⟩
 refine ⟨.non,_,I.lset (its':=its++its2) hH e (by simp) (r.append r2) ?_,rfl,q⟩
 rw [List.length_append]
 lia
def rRep:R2:=fun x y H Q=>∃ l k xs,x=.ref l∧y=.int k∧H l=some (.lst xs)∧-(2 ^ 63)≤k∧k < 2 ^ 63∧xs.length * k.toNat≤sizeLine ∧
 ∀ p,H p=none→Q (.ref p) (upd H p (.lst (List.replicate k.toNat xs).flatten))
theorem len_rep {α:Type} (xs:List α) (k:Nat):(List.replicate k xs).flatten.length=k * xs.length:=by
 induction k with
 | zero=>simp
 | succ k ih=>rw [List.replicate_succ,List.flatten_cons,List.length_append,ih,Nat.succ_mul,Nat.add_comm]
theorem op_rep:OpR X (binaryOp .Mult) rRep:=by
 intro pins s σ H x y v u Q I rx ry h
 obtain ⟨l,k,xs,rfl,rfl,hH,h1,h2,hz,q⟩:=h
 cases rx
 obtain ⟨t,rfl⟩:=ry
 obtain ⟨z,its,n,r,hl,e⟩:=I.lstM hH
 have hlen:its.toArray.size * k.toNat≤sizeLine:=by rw [List.size_toArray,← hl]; exact hz
 have hcap:¬ its.toArray.size * k.toNat > (2 ^ 63 - 1) / 8:=by
  have:(sizeLine:Nat)≤(2 ^ 63 - 1) / 8:=by decide
  lia
 have hfit:¬ (!Builtin.List.listFitsIndex k)=true:=by
  rw [fitsIndex_both h1 h2]
  exact Bool.false_ne_true
 have hlong:¬ Builtin.List.listTooLong (its.toArray.size * k.toNat)=true:=by
  rw [notLongL hlen]
  exact Bool.false_ne_true
 have hnew:List.foldl (fun x1 x2=>x1++x2) #[] (List.replicate (if its.toArray.isEmpty=true then 0 else k.toNat) its.toArray)=(List.replicate k.toNat its).flatten.toArray:=by
  have f0:∀ m:Nat,List.foldl (fun x1 x2=>x1++x2) #[] (List.replicate m its.toArray)=(List.replicate m its).flatten.toArray:=fun m=>by
   have:=foldl_rep its m []
   rw [List.nil_append] at this
   exact this
  rw [f0]
  cases its with
  | nil=>simp
  | cons a r'=>rw [if_neg (by simp)]
 refine wpAny_binaryOp_repeat_ref (T:="list") (U:="int") (by decide) ⟨_,e,rfl⟩ (fun s'=>typeIs_int s' k t) noFill_list_mul F.fills_int_mul F.slot_int_rmul repeat_list F.slot_int_index.lookup
  (call_meets F.slot_int_rmul (typeIs_int s k t) F.entry_int_rmul (F.args_int_rmul_2 _ _) (int___rmul___int_list k t l its.toArray n)
   ⟨e,rfl,⟨_,e,rfl⟩,call_meets F.slot_list_mul ⟨_,e,rfl⟩ F.entry_list_mul (F.args_list_mul_2 _ _) (AutoListH.list___mul___list_int_3 l its.toArray n k t hfit hcap hlong) ⟨e,?_⟩⟩)
 rw [hnew]
 exact ⟨.ref _,_,I.lnew (t':=s.toks) (r.rep k.toNat) (by rw [len_rep,Nat.mul_comm]; exact hz),rfl,q _ I.fresh⟩
end
section
variable {prog:Program} {w:World} {A:Around} {E:Value→Shared→Prop} {s:Shared}
set_option maxRecDepth 100000 in
end
section
variable {X:Cx}
end
end L2
namespace Att
open PySem PySem.W PySem.Calls PyProof.Rows
theorem ints_of_wellAll {P:Params} {h:Heap}:∀ (ns:List Int) (vs:List Value),WellAll P h vs (ns.map WData.int)→IntsAre vs ns:=by
 intro ns
 induction ns with
 | nil =>
  intro vs w
  rw [List.map_nil] at w
  cases w
  exact .nil
 | cons n ns ih =>
  intro vs w
  rw [List.map_cons] at w
  cases w with
  | cons a b =>
   cases a
   exact .cons _ _ (ih _ b)
theorem script_of {l:OpenLaw} {n:Nat} (hn:l.most=some n) {P:Params} {h:Heap} {args:List WData} {vals:List Value}
  (hpre:l.row.toRowW.claim.pre args=true) (hwl:WellAll P h vals args) :
  ∃ a vs ns,vals=[Value.ref a]∧args=[WData.list (ns.map WData.int)]∧h.get? a=some { cls:=.type "list",data:=.seq vs.toArray }∧IntsAre vs ns∧ns.length≤n:=by
 have hsh:WShape.hasAll [] args [.list .int]=true:=(pre_splitW hpre).1
 have hc:l.pre.holds [] { args:=args }=true:=(pre_splitW hpre).2
 obtain ⟨d,r,rfl,h1,h2⟩:=hasAllW_cons hsh
 obtain rfl:=hasAllW_nil h2
 obtain ⟨xs,rfl,h3⟩:=hasW_list h1
 obtain ⟨ns,rfl⟩:=items_int h3
 have hlen:ns.length≤n:=by
  unfold OpenLaw.pre at hc
  have h4:(WTm.not (.lt (.lit (.int (n:Int))) (.len (.arg 0)))).holds [] { args:=[.list (ns.map .int)] }=true:=by
   have h4:=(holds_andW hc).1
   rw [hn] at h4
   exact h4
  have h5:=condW_of h4 (w_not (w_lt w_lit (w_len_list (w_arg rfl))))
  rw [List.length_map] at h5
  refine Nat.le_of_not_lt fun q=>?_
  have q':(n:Int) < ((ns.length:Nat):Int):=by lia
  first
   | (rw [decide_eq_true q'] at h5; exact absurd h5 (by decide))
   | (simp at h5; lia)
 cases hwl with
 | cons w1 w2 =>
  cases w2
  cases w1 with
  | list ho hall=>exact ⟨_,_,ns,rfl,rfl,ho,ints_of_wellAll ns _ hall,hlen⟩
theorem post_true (l:OpenLaw) (args:List WData):l.row.toRowW.claim.post args (.bool true) args=true :=
 postW_of (r:=l.row.toRowW) (X:=(true == true))
  (show WShape.has [] (.bool true) .bool=true by first | rfl | decide | simp [WShape.has,WShape.arms,WShape.armsAll])
  (show (WTm.eq .res (.lit (.bool true))).value [] { args:=args,res:=some (.bool true),after:=args }=some (.bool (true == true)) from w_eq_bool (w_res rfl) w_lit) rfl
theorem attach_call {l:OpenLaw} {n:Nat} {q:Program} {loose:List Str} {XP:(Str→Option Value)→Heap→Prop} {YP:World→Heap→Prop} {d:DefRec}
  (hn:l.most=some n) (hdf:d.params.defaults=[])
  (call:∀ (w:World) (s₀ s₁:Shared) (mg mb:Str→Option Value) (fa:Addr) (o:Obj) (pm cd doc:Value) (a:Addr) (vs:List Value) (ns:List Int),
   Ground q loose [] XP w s₀ mg mb s₁.heap→YP w s₁.heap →
   s₁.heap.get? fa=some o→o.data=.func (docDef d.name d.params d.body d.scope pm cd doc)→s₁.heap.CodeRec cd d.name→mg d.name=some (.ref fa) →
   s₁.heap.get? a=some { cls:=.type "list",data:=.seq vs.toArray }→IntsAre vs ns→ns.length≤n→s₁.gens=#[] →
   codeAny (model l.prog w) callerA (.call (.ref fa) ⟨[.ref a],[]⟩) (fun r s'=>r=.ok (.ret (.bool true))∧OldK s₁.heap s'.heap∧s'.os=s₁.os∧AllBare s'.gens) s₁) :
  WalkO q loose XP YP l.row.toRowW d [] (fun f vs=>PySem.call f vs):=by
 intro w s₀ s₁ mg mb G Y fa o pm cd doc dV kV ho hd hcd hD hmg hg args vals as hpre hlay hrd hwl hlo
 obtain rfl:dV=.none:=Dflts.none hD hdf
 obtain rfl:kV=.none:=Dflts.noKw hD
 obtain ⟨a,vs,ns,rfl,rfl,hobj,hints,hlen⟩:=script_of hn hpre hwl
 refine enter_call (codeAny_mono (call w s₀ s₁ mg mb fa o pm cd doc a vs ns G Y ho (fd_plain hd) hcd hmg hobj hints hlen hg) fun r s' hq=>?_)
 obtain ⟨rfl,h2,h3,h4⟩:=hq
 exact ⟨.inl ⟨.bool true,.bool true,[],rfl,fun _=>rfl,.bool true,post_true l _,fun _=>⟨List.Pairwise.nil,fun _ hm=>(nomatch hm)⟩⟩,h2,h3,h4⟩
section
variable {prog:Program} {w:World} {A:Around} {E:Value→Shared→Prop} {s:Shared} {K:Frag}
end
end Att
namespace L2
open PySem PySem.Spec PyProof.Rows
theorem vals_ints:∀ {vs:List Value} {ns:List Int},IntsAre vs ns→Vals (ns.map V.int) vs
 | _,_,.nil=>.nil
 | _,_,.cons n t h=>.cons ⟨t,rfl⟩ (vals_ints h)
def Only (H:Hp):Prop:=∀ b,H b=none∨∃ o xs,H b=some (.frz o (.lst xs))
theorem law_call {P:Program} {w:World} {K:PySem.W.Frag} {mg mb:Str→Option Value} {CX:CXT} {k:Nat} {fa a:Addr} {fd:FuncData} {x:Str} {sp:Sp} {s₁:Shared} {vs:List Value} {ns:List Int}
  (KX:K.In s₁.heap) (hns:s₁.heap.Ns mainGlobals mg) (hb:s₁.heap.Ns builtinsNs mb) (hbb:∀ x:Str,x≠"__name__"→mb x=bootBuiltins x) (hlim:s₁.heap.NoLimit) (hg:s₁.gens=#[])
  (ha:s₁.heap.get? a=some { cls:=.type "list",data:=.seq vs.toArray }) (hi:IntsAre vs ns) (hl:ns.length≤sizeLine) (hr:Room k callerA)
  (F:∀ base:Heap,K.In base→base.Ns mainGlobals mg→FnOk P w K mg base CX k fa fd [x] sp) (hbind:∀ (s:Shared) (u:Value),BindsTo s fd ⟨[u],[]⟩ [(x,u)])
  (hsp:∀ H:Hp,Only H→SqL K H a (ns.map V.int)→sp [.ref a] H (fun v _=>v=.bl true) fun _ _ _=>False)
  (hCX:∀ H e s',CX [] H s₁ (fun _ _ _=>False) e s'→False) :
  codeAny (model P w) callerA (.call (.ref fa) ⟨[.ref a],[]⟩) (fun r s'=>r=.ok (.ret (.bool true))∧OldK s₁.heap s'.heap∧s'.os=s₁.os∧AllBare s'.gens) s₁:=by
 have rv:=vals_ints hi
 have lenV:=hi.length
 have core:∀ H:Hp,Only H→SqL K H a (ns.map V.int)→HOk P w H s₁.heap→(∀ b,H b≠none→b=a)→(H a≠none→K.lookup a=none) →
   codeAny (model P w) callerA (.call (.ref fa) ⟨[.ref a],[]⟩) (fun r s'=>r=.ok (.ret (.bool true))∧OldK s₁.heap s'.heap∧s'.os=s₁.os∧AllBare s'.gens) s₁:=by
  intro H hO hS hok hA hK
  have base_of:∀ {b:Addr} {o:Obj},s₁.heap.get? b=some o→H b=none→(hidT s₁.heap H).get? b=some o:=fun e n=>hidT_get e n
  have noA:∀ {b:Addr} {o:Obj} {es:Array DictEntry} {ep:Nat},s₁.heap.get? b=some o→o.data=.dict es ep→H b=none:=fun {b o es ep} e d=>by
   cases q:H b with
   | none=>rfl
   | some u =>
    have e':b=a:=hA b (by rw [q]; simp)
    subst e'
    rw [ha] at e; cases e
    have d':Data.seq vs.toArray _=Data.dict es ep:=d
    cases d'
  have nsK:∀ {b:Addr} {m:Str→Option Value},s₁.heap.Ns b m→(hidT s₁.heap H).Ns b m:=fun {b m} ⟨o,es,ep,e,d,r⟩=>⟨o,es,ep,base_of e (noA e d),d,r⟩
  have hKb:K.In (hidT s₁.heap H):=fun b o e=>base_of (KX b o e) (by
   cases q:H b with
   | none=>rfl
   | some u =>
    have e':b=a:=hA b (by rw [q]; simp)
    subst e'
    rw [hK (by rw [q]; simp)] at e; cases e)
  have hM:Mod K mg (hidT s₁.heap H):=⟨hKb,nsK hns,⟨mb,nsK hb,hbb⟩,let ⟨mc,h1,h2⟩:=hlim; ⟨mc,nsK h1,h2⟩⟩
  have e0:Env0 P w K mg (hidT s₁.heap H) callerA [] s₁ H:=⟨rfl,hM,fun b o e=>of_hidT e,Nat.le_of_eq (hidT_size _ _),trivial,fun b hb=>absurd (show b∈([]:List Addr) from hb) (by simp),hok,.of_eq hg⟩
  refine codeAny_mono ((F _ hKb (nsK hns)).run callerA [] s₁ H ⟨[.ref a],[]⟩ [.ref a] [.ref a] _ _ hr e0 (hbind s₁ (.ref a)) (.cons rfl .nil) (hsp H hO hS)) fun r s' h=>?_
  cases r with
  | error e=>exact (hCX H e s' h).elim
  | ok fl =>
   cases fl with
   | next=>exact False.elim h
   | brk=>exact False.elim h
   | cont=>exact False.elim h
   | ret u =>
    obtain ⟨v,H',os,bare,un,hok',r',q⟩:=h
    have q':v=.bl true:=q
    subst q'
    obtain rfl:u=Value.bool true:=r'
    refine ⟨rfl,OldK.of_keep fun b o e=>?_,os,bare⟩
    cases q:H b with
    | none=>exact un.keep b o e q (by intro z; exact absurd (show b∈([]:List Addr) from z) (by simp)) (by simp)
    | some u =>
     rcases hO b with z | ⟨ob,xs,z⟩
     ·rw [q] at z; cases z
     ·have z2:=un.frzs b ob _ z
      obtain ⟨e1,_⟩:=hok b _ z
      obtain ⟨e2,_⟩:=hok' b _ z2
      rw [e] at e1; cases e1
      exact e2
 cases hk:K.lookup a with
 | some o =>
  have e:=KX a o hk
  rw [ha] at e
  cases e
  refine core (fun _=>none) (fun _=>.inl rfl) (.inr ⟨_,vs.toArray,_,hk,rfl,rfl,rfl,by rw [List.size_toArray,lenV]; exact hl,by simpa using rv⟩) (fun b u z=>by have z':(none:Option HO)=some u:=z; cases z') (fun b z=>absurd rfl z) fun z=>absurd rfl z
 | none =>
  refine core (fun b=>if b=a then some (.frz { cls:=.type "list",data:=.seq vs.toArray } (.lst (ns.map V.int))) else none) (fun b=>?_) (.inl (.inr ⟨{ cls:=.type "list",data:=.seq vs.toArray },if_pos rfl⟩)) (fun b u z=>?_) (fun b z=>?_) fun _=>hk
  ·by_cases hb:b=a
   ·exact .inr ⟨_,_,if_pos hb⟩
   ·exact .inl (if_neg hb)
  ·by_cases hb:b=a
   ·have z':=(if_pos hb).symm.trans z
    cases z'
    subst hb
    exact ⟨ha,by rw [List.length_map]; exact hl,vs,_,rv,ha⟩
   ·have z':=(if_neg hb).symm.trans z
    cases z'
  ·by_cases hb:b=a
   ·exact hb
   ·exact absurd (if_neg hb) z
abbrev KOf {K:PySem.W.Frag} {h:Heap} (_:K.In h):PySem.W.Frag:=K
theorem walk_of {l:PySem.W.OpenLaw} {n k:Nat} {q:Program} {loose:List Str} {XP:(Str→Option Value)→Heap→Prop} {YP:World→Heap→Prop} {d:DefRec} {K:Params→PySem.W.Frag} {CX:World→CXT} {sp:World→Sp} {x:Str}
  (hn:l.most=some n) (hn2:n≤sizeLine) (hdf:d.params.defaults=[]) (hr:Room k callerA)
  (hY:∀ (w:World) (h:Heap),YP w h→(K w.params).In h)
  (F:∀ (w:World) (mg:Str→Option Value) (fa:Addr) (h:Heap),(K w.params).In h→h.Ns mainGlobals mg→mg d.name=some (.ref fa) →
   ∃ fd:FuncData,(∀ (s:Shared) (u:Value),BindsTo s fd ⟨[u],[]⟩ [(x,u)]) ∧
    ∀ base:Heap,(K w.params).In base→base.Ns mainGlobals mg→FnOk l.prog w (K w.params) mg base (CX w) k fa fd [x] (sp w))
  (hsp:∀ (w:World) (H:Hp) (a:Addr) (ns:List Int),ns.length≤n→Only H→SqL (K w.params) H a (ns.map V.int)→sp w [.ref a] H (fun v _=>v=.bl true) fun _ _ _=>False)
  (hCX:∀ (w:World) (H:Hp) (s:Shared) (e:Value) (s':Shared),CX w [] H s (fun _ _ _=>False) e s'→False) :
  PySem.W.WalkO q loose XP YP l.row.toRowW d [] (fun f vs=>PySem.call f vs):=by
 refine Att.attach_call hn hdf fun w s₀ s₁ mg mb fa o pm cd doc a vs ns G Y ho hd hcd hmg hobj hints hlen hg=>?_
 have KX:=hY w _ Y
 obtain ⟨fd,hb,hF⟩:=F w mg fa _ KX G.T.g hmg
 exact law_call KX G.T.g G.T.b G.T.builtins G.T.nolimit hg hobj hints (Nat.le_trans hlen hn2) hr hF hb (fun H hO hS=>hsp w H a ns hlen hO hS) fun H e s'=>hCX w H s₁ e s'
end L2
namespace L2
open PySem PySem.Spec PyProof.Rows
abbrev E0:XK:=fun _ _ _=>False
structure Fun (K:PySem.W.Frag) (x qual:Str) (st:Stmt) (f:Addr) (fd:FuncData):Prop where
 ex:∃ (oc:Value) (od:Option Addr) (kV doc pm:Value) (an:Option Addr) (cdv ct:Value) (osl:Array (Option Value)),
  fd=PySem.W.fnOf x qual (defArgs st) (defBody st) (defScope st) .none kV doc pm an cdv ct∧K.lookup f=some ⟨oc,od,.func fd,osl⟩∧PySem.W.codeIn K cdv qual=true
 kp:PySem.W.keepIn K (.ref f)=true
section
variable {P:Program} {w:World} {K:PySem.W.Frag} {mg:Str→Option Value} {base:Heap}
theorem Fun.binds {x qual:Str} {st:Stmt} {f:Addr} {fd:FuncData} {ps:List Str} (F:Fun K x qual st f fd)
  (h:∀ (kV doc pm:Value) (an:Option Addr) (cdv ct:Value) (us:List Value),us.length=ps.length→bindArgs (PySem.W.fnOf x qual (defArgs st) (defBody st) (defScope st) .none kV doc pm an cdv ct) ⟨us,[]⟩=pure (ps.zip us)):Binds K fd ps []:=by
 obtain ⟨oc,od,kV,doc,pm,an,cdv,ct,osl,rfl,lk,hcd⟩:=F.ex
 exact .all (h kV doc pm an cdv ct)
theorem fun_mk {x qual:Str} {st:Stmt} {f:Addr} {oc:Value} {od an:Option Addr} {osl:Array (Option Value)} {kV doc pm cdv ct:Value} (l:K.lookup f=some ⟨oc,od,.func (PySem.W.fnOf x qual (defArgs st) (defBody st) (defScope st) .none kV doc pm an cdv ct),osl⟩)
  (c:PySem.W.codeIn K cdv qual=true) (k:PySem.W.keepIn K (.ref f)=true):Fun K x qual st f (PySem.W.fnOf x qual (defArgs st) (defBody st) (defScope st) .none kV doc pm an cdv ct):=⟨⟨oc,od,kV,doc,pm,an,cdv,ct,osl,rfl,l,c⟩,k⟩
end
section
variable {X:Cx}
theorem pv (i:Nat) {x:Str} {pos:Pos} (hN:X.N[i]?=some x:=by rfl) (hv:Vis X.env.scope x:=by first | exact Or.inl rfl | exact Or.inr (Or.inl rfl) | exact Or.inr (Or.inr rfl)) (hd:(x == ("__debug__":Str))=false:=by decide)
  (hcd:(x == ("__classdict__":Str))=false:=by decide):PE X (.Name x pos) (tVar i):=pe_var hN hv hd hcd
end
theorem iteF {A B:Prop} (h:B):if false=true then A else B:=by
 rw [if_neg Bool.false_ne_true]
 exact h
theorem iteT {A B:Prop} (h:A):if true=true then A else B:=by
 rw [if_pos rfl]
 exact h
theorem ite2 {c A B:Prop} [Decidable c] (h1:c→A) (h2:¬ c→B):if c then A else B:=by
 by_cases h:c
 ·rw [if_pos h]
  exact h1 h
 ·rw [if_neg h]
  exact h2 h
def Same (H H':Hp):Prop:=∀ b o,H b=some o→H' b=some o
theorem Same.refl (H:Hp):Same H H:=fun _ _ h=>h
theorem Same.trans {H H1 H2:Hp} (a:Same H H1) (b:Same H1 H2):Same H H2:=fun c o h=>b c o (a c o h)
theorem Same.free {H H':Hp} (e:Same H H') {l:Addr} (h:H' l=Option.none):H l=Option.none:=by
 cases q:H l with
 | none=>rfl
 | some o =>
  rw [e l o q] at h
  cases h
theorem Same.seq {K:PySem.W.Frag} {H H':Hp} {a:Addr} {xs:List V} (e:Same H H') (h:SqL K H a xs):SqL K H' a xs:=by
 rcases h with (h | ⟨o,h⟩) | h
 ·exact .inl (.inl (e _ _ h))
 ·exact .inl (.inr ⟨o,e _ _ h⟩)
 ·exact .inr h
section
variable {κ:Type} [DecidableEq κ]
end
def Fly (h:Heap) (e T:Addr) (cls:Value) (dct:Option Addr):Prop :=
 ∃ oe vs oT ts,h.get? e=some oe∧oe.cls=cls∧oe.dict=dct∧oe.data=.fields vs∧vs[1]?=some (.ref T)∧T≠e∧h.get? T=some oT∧oT.data=.fields ts∧ts[3]?=some .none
def FlyAt (h:Heap) (e T:Addr) (cls:Value) (dct:Option Addr) (fl:Value):Prop :=
 ∃ oe vs oT ts,h.get? e=some oe∧oe.cls=cls∧oe.dict=dct∧oe.data=.fields vs∧vs[1]?=some (.ref T)∧T≠e∧h.get? T=some oT∧oT.data=.fields ts∧ts[3]?=some fl
structure Noted (fs:List Addr) (e T:Addr) (h h':Heap):Prop where
 keep:∀ b o,b≠e→b ∉ fs→h.get? b=some o→h'.get? b=some o
 slot:∀ b o,b≠e→h.get? b=some o→∃ sl,h'.get? b=some { o with slots:=sl }
 new:h.objs.size≤T
section
variable {M:Model} {A:Around} {E:Value→Shared→Prop} {s:Shared}
theorem entry_x {base:Heap} {env:Env} {outer:List Env} {L e:Addr} {oe:Obj} {vs:Array Value} {head:Value} {hadNext:Bool} {Q:Unit→Shared→Prop}
  (hfr:A.frames=some (env :: outer)) (hl:s.heap.FunFrames base (env :: outer)) (hf:env.frame=some L) (he:s.heap.get? e=some oe) (hd:oe.data=.fields vs) (hsz:1 < vs.size)
  (h:∀ h' T,Noted (frs (env :: outer)) e T s.heap h'→FlyAt h' e T oe.cls oe.dict (rawInt L)→Q () { s with heap:=h' }) :
  wpAny M A (do
   let a ← frameOf env
   let pl ← entryPlaceOf L hadNext
   let b ← EntryCells.newEntry head a .none (rawInt L) .none pl
   setField (.ref e) 1 b) Q E s:=by
 have nf:e ∉ (env :: outer).filterMap (·.frame):=fun hm=>by
  obtain ⟨_,o,ho,hnf⟩:=hl.mem hm
  rw [he] at ho
  cases ho
  exact hnf vs hd
 refine wpAny_bind (wpAny_frameOf_fun hfr hl hf fun h1 so=>wpAny_bind (wpAny_entryPlaceOf fun pl hpl=>?_))
 unfold EntryCells.newEntry newFields
 refine wpAny_bind (wpAny_newObj_type ?_ (hpl.sizeOk5 _ _ _ _ _))
 have e1:h1.get? e=some oe:=(so.2.1 e nf).trans he
 generalize hn:([head,Value.ref L,Value.none,rawInt L,Value.none]++(if pl.isEmpty=true then List.replicate 6 Value.none else pl))=cells
 have c3:cells.toArray[3]?=some (rawInt L):=by subst hn; simp
 have e2:=Heap.get?_push_of_some (h:=h1) { cls:=.type "traceback",dict:=none,data:=.fields cells.toArray } e1
 refine wpAny_setField e2 hd hsz ?_
 have ne:h1.objs.size≠e:=Nat.ne_of_gt (Heap.lt_size e1)
 have d3:=Obj.data_mapFields hd (·.setIfInBounds 1 (Value.ref h1.objs.size))
 refine h _ h1.objs.size ⟨fun b o hbe hbf hb=>?_,fun b o hbe hb=>?_,Nat.le_of_eq so.1.symm⟩ ?_
 ·rw [Heap.get?_update_other _ _ (Ne.symm hbe)]
  exact Heap.get?_push_of_some _ ((so.2.1 b hbf).trans hb)
 ·obtain ⟨sl,hs⟩:=so.2.2 b o hb
  refine ⟨sl,?_⟩
  rw [Heap.get?_update_other _ _ (Ne.symm hbe)]
  exact Heap.get?_push_of_some _ hs
 ·refine ⟨_,_,{ cls:=.type "traceback",dict:=none,data:=.fields cells.toArray },cells.toArray,Heap.get?_update_self _ e2 (Obj.isFreed_of_fields d3),Obj.cls_mapFields _ _,?_,d3,by simp [hsz],ne,?_,rfl,c3⟩
  ·obtain ⟨c,d,dt,sl⟩:=oe
   cases dt <;> rfl
  ·rw [Heap.get?_update_other _ _ (Ne.symm ne)]
   exact Heap.get?_push_size h1 rfl
theorem flight_x {e T:Addr} {cls:Value} {dct:Option Addr} {fl:Value} {Q:Unit→Shared→Prop} (ht:FlyAt s.heap e T cls dct fl)
  (h:∀ h',(∀ b o,b≠T→s.heap.get? b=some o→h'.get? b=some o)→Fly h' e T cls dct→Q () { s with heap:=h' }):wpAny M A (setFlight (.ref e) none) Q E s:=by
 obtain ⟨oe,vs,oT,ts,he,hc,hdx,hd,h1,ne,hT,hdT,h3⟩:=ht
 have hsz:3 < ts.size:=(Array.getElem?_eq_some_iff.mp h3).1
 refine wpAny_setFlight_none he hd h1 hT hdT hsz (h _ (fun b o hb q=>?_) ?_)
 ·rw [Heap.get?_update_other _ _ (Ne.symm hb)]
  exact q
 ·refine ⟨oe,vs,_,_,?_,hc,hdx,hd,h1,ne,Heap.get?_update_self _ hT (Obj.isFreed_of_fields (Obj.data_mapFields hdT _)),Obj.data_mapFields hdT _,by simp [hsz]⟩
  rw [Heap.get?_update_other _ _ ne]
  exact he
theorem note_first {base:Heap} {env:Env} {outer:List Env} {L e:Addr} {oe:Obj} {vs:Array Value} {Q:Unit→Shared→Prop}
  (hfr:A.frames=some (env :: outer)) (hl:s.heap.FunFrames base (env :: outer)) (hf:env.frame=some L) (he:s.heap.get? e=some oe) (hd:oe.data=.fields vs) (h1:vs[1]?=some .none)
  (h:∀ h' T,Noted (frs (env :: outer)) e T s.heap h'→FlyAt h' e T oe.cls oe.dict (rawInt L)→Q () { s with heap:=h' }):wpAny M A (noteFrame (.ref e) env) Q E s:=by
 unfold noteFrame
 simp only [hf]
 refine wpAny_bind (wpAny_field he hd h1 ?_)
 rw [if_neg (by decide)]
 exact entry_x hfr hl hf he hd (Array.getElem?_eq_some_iff.mp h1).1 h
theorem note_next {base:Heap} {env:Env} {outer:List Env} {L e T0:Addr} {cls:Value} {dct:Option Addr} {Q:Unit→Shared→Prop}
  (hfr:A.frames=some (env :: outer)) (hl:s.heap.FunFrames base (env :: outer)) (hf:env.frame=some L) (ht:Fly s.heap e T0 cls dct)
  (h:∀ h' T,(∀ b o,b≠e→b≠T0→b ∉ frs (env :: outer)→s.heap.get? b=some o→h'.get? b=some o)→(∀ b o,b≠e→b≠T0→s.heap.get? b=some o→∃ sl,h'.get? b=some { o with slots:=sl })→s.heap.objs.size≤T →
   FlyAt h' e T cls dct (rawInt L)→(∀ b o,s.heap.get? b=some o→∃ o',h'.get? b=some o')→Q () { s with heap:=h' }):wpAny M A (noteFrame (.ref e) env) Q E s:=by
 obtain ⟨oe,vs,oT,ts,he,rfl,rfl,hd,h1,ne,hT,hdT,h3⟩:=ht
 unfold noteFrame
 simp only [hf]
 refine wpAny_bind (wpAny_field he hd h1 ?_)
 rw [if_pos (show (Value.ref T0 != Value.none)=true from by simp)]
 refine wpAny_bind (wpAny_field hT hdT h3 ?_)
 rw [if_neg (show ¬ ((Value.none == rawInt L)=true) from by simp [rawInt])]
 refine wpAny_bind (wpAny_setField hT hdT (Array.getElem?_eq_some_iff.mp h3).1 ?_)
 have oth:∀ b,b≠T0→(s.heap.update T0 (Obj.mapFields (·.setIfInBounds 3 Value.none))).get? b=s.heap.get? b:=fun b hb=>Heap.get?_update_other _ _ (Ne.symm hb)
 have selfT:=Heap.get?_update_self (Obj.mapFields (·.setIfInBounds 3 Value.none)) hT (Obj.isFreed_of_fields (Obj.data_mapFields hdT _))
 have nrec:∀ b o,s.heap.get? b=some o→(∀ vs,o.data≠.fields vs)→b≠T0:=fun b o hb hnf q=>by
  rw [q,hT] at hb
  cases hb
  exact hnf ts hdT
 have hl':(s.heap.update T0 (Obj.mapFields (·.setIfInBounds 3 Value.none))).FunFrames base (env :: outer):=hl.of_keeps fun b o hb hnf=>⟨o,(oth b (nrec b o hb hnf)).trans hb,rfl⟩
 refine entry_x (s:={ s with heap:=s.heap.update T0 (Obj.mapFields (·.setIfInBounds 3 Value.none)) }) hfr hl' hf ((oth e (Ne.symm ne)).trans he) hd (Array.getElem?_eq_some_iff.mp h1).1 fun h' T N F=>?_
 refine h h' T (fun b o b1 b2 b3 q=>N.keep b o b1 b3 ((oth b b2).trans q)) (fun b o b1 b2 q=>N.slot b o b1 ((oth b b2).trans q)) (Nat.le_trans (Nat.le_of_eq (Heap.size_after_update _ _ _).symm) N.new) F fun b o q=>?_
 by_cases b1:b=e
 ·subst b1
  obtain ⟨oe',_,_,_,q',_⟩:=F
  exact ⟨oe',q'⟩
 ·by_cases b2:b=T0
  ·subst b2
   obtain ⟨sl,q'⟩:=N.slot b _ b1 selfT
   exact ⟨_,q'⟩
  ·obtain ⟨sl,q'⟩:=N.slot b o b1 ((oth b b2).trans q)
   exact ⟨_,q'⟩
end
def CX1 (P:Program) (w:World):CXT:=fun outer H s E ev s' =>
 ∃ e T cls dct H',ev=.ref e∧s'.os=s.os∧AllBare s'.gens∧Un (frs outer) [] H H' s.heap s'.heap∧HOk P w H' s'.heap∧Fly s'.heap e T cls dct ∧
  s.heap.get? e=none∧s.heap.get? T=none∧H' e=none∧H' T=none∧E cls dct H'
section
variable {X:Cx} {pins:List (Addr×Obj)} {σ:St} {H:Hp} {s:Shared} {h':Heap}
theorem left_ok (I:Inv X pins σ H s) (hex:X.ex=[]) (bad:List Addr) (hb:∀ b∈bad,X.s₀.heap.get? b=none∧H b=none)
  (k1:∀ b o,b ∉ bad→b ∉ frs X.stack→s.heap.get? b=some o→h'.get? b=some o) (k2:∀ b o,b ∉ bad→s.heap.get? b=some o→∃ sl,h'.get? b=some { o with slots:=sl })
  (k3:∀ b o,s.heap.get? b=some o→∃ o',h'.get? b=some o'):Un X.fs [] X.H₀ H X.s₀.heap h'∧HOk X.prog X.w H h':=by
 have B:=I.base
 rw [hex] at B
 have nb:∀ b o,X.s₀.heap.get? b=some o→b ∉ bad:=fun b o q z=>by
  rw [(hb b z).1] at q
  cases q
 have nL:∀ b o,X.s₀.heap.get? b=some o→b≠X.env.locals:=fun b o q=>Nat.ne_of_lt (Nat.lt_of_lt_of_le (Heap.lt_size q) I.ok.above)
 have e0:∀ b:Addr,b ∉ ([]:List Addr):=fun b=>by simp
 refine ⟨⟨fun b o q n hf _=>?_,fun b o q n hf _=>?_,B.free,fun b o q _=>?_,B.tups,B.frzs,B.tbls⟩,fun a u q=>?_⟩
 ·refine k1 b o (nb b o q) (fun z=>?_) (B.keep b o q n hf (e0 b))
  rcases List.mem_cons.mp (I.stkSub b z) with z | z
  ·exact nL b o q z
  ·exact hf z
 ·obtain ⟨sl,q1⟩:=B.slot b o q n hf (e0 b)
  obtain ⟨sl',q2⟩:=k2 b _ (nb b o q) q1
  exact ⟨sl',q2⟩
 ·obtain ⟨o1,q1⟩:=B.there b o q (e0 b)
  exact k3 b o1 q1
 ·have tr:∀ b v,H b=some v→b ∉ bad∧b ∉ frs X.stack:=fun b v z=>⟨(fun y=>absurd ((hb b y).2.symm.trans z) (by simp)),fun y=>absurd ((I.stkFree b y).symm.trans z) (by simp)⟩
  refine (I.hok a u q).stay (fun b v hbv z=>?_) (fun _ z=>z) fun _ _ z=>z
  rcases hbv with rfl | hbv
  ·exact k1 b v (tr b _ q).1 (tr b _ q).2 z
  ·exact k1 b v (tr b _ hbv).1 (tr b _ hbv).2 z
end
section
variable {P:Program} {w:World} {K:PySem.W.Frag} {mg:Str→Option Value} {base:Heap} {N:List Str} {qual:Str} {scope:Scope} {f:Addr} {cd:Value} {A:Around} {outer:List Env} {s₀:Shared} {H₀:Hp} {E:XK}
abbrev cx1 (P:Program) (w:World) (K:PySem.W.Frag) (mg:Str→Option Value) (base:Heap) (N:List Str) (qual:Str) (scope:Scope) (f:Addr) (cd:Value) (A:Around) (outer:List Env) (s₀:Shared) (H₀:Hp) (E:XK):Cx :=
 cxOf (CX1 P w) P w K mg base N qual scope f cd A outer s₀ H₀ E
theorem xe_made {pins:List (Addr×Obj)} {σ:St} {H:Hp} {s:Shared} {e:Addr} {oe:Obj} {vs:Array Value} (I:Inv (cx1 P w K mg base N qual scope f cd A outer s₀ H₀ E) pins σ H s)
  (he:s.heap.get? e=some oe) (hd:oe.data=.fields vs) (h1:vs[1]?=some .none) (hn:s₀.heap.get? e=none) (hH:H e=none) (q:E oe.cls oe.dict H):(cx1 P w K mg base N qual scope f cd A outer s₀ H₀ E).xe (.ref e) s:=by
 show wpAny _ _ (leaving _ _) _ _ _
 unfold leaving
 refine wpAny_bind (note_first (base:=base) (L:=s₀.heap.objs.size) I.ok.frames I.stack rfl he hd h1 fun h1' T Nt F=>?_)
 refine flight_x (s:={ s with heap:=h1' }) F fun h2 k F2=>?_
 have bT:s.heap.objs.size≤T:=Nt.new
 have tn:∀ b o,s.heap.get? b=some o→b≠T:=fun b o z=>Nat.ne_of_lt (Nat.lt_of_lt_of_le (Heap.lt_size z) bT)
 have s0T:s₀.heap.objs.size≤T:=Nat.le_trans I.sz bT
 obtain ⟨u,hk⟩:=left_ok (h':=h2) I rfl [e] (fun b hb=>by
   have z:b=e:=by simpa using hb
   subst z
   exact ⟨hn,hH⟩)
  (fun b o b1 b2 z=>k b o (tn b o z) (Nt.keep b o (by simpa using b1) b2 z))
  (fun b o b1 z=>by
   obtain ⟨sl,z1⟩:=Nt.slot b o (by simpa using b1) z
   exact ⟨sl,k b _ (tn b o z) z1⟩)
  (fun b o z=>by
   by_cases b1:b=e
   ·subst b1
    obtain ⟨oe',_,_,_,z1,_⟩:=F2
    exact ⟨oe',z1⟩
   ·obtain ⟨sl,z1⟩:=Nt.slot b o b1 z
    exact ⟨_,k b _ (tn b o z) z1⟩)
 exact ⟨e,T,_,_,H,rfl,I.os,I.bare,u,hk,F2,hn,Heap.get?_none_of_le s0T,hH,I.hok.fresh bT,q⟩
theorem pass1:Passes (CX1 P w) (cx1 P w K mg base N qual scope f cd A outer s₀ H₀ E) E:=by
 intro pins σ H s ev s' I hc
 obtain ⟨e,T0,cls,dct,H',rfl,os,bare,un,hok,F0,hne,hnT,hHe,hHT,q⟩:=hc
 have I':Inv (cx1 P w K mg base N qual scope f cd A outer s₀ H₀ E) pins σ H' s':=I.call' (ch:=[]) os un hok bare fun b z=>absurd z (by simp)
 have old:∀ b,s.heap.get? b=none→s₀.heap.get? b=none:=fun b z=>by
  cases q1:s₀.heap.get? b with
  | none=>rfl
  | some o =>
   obtain ⟨o',q2⟩:=I.base.there b o q1 (show b ∉ ([]:List Addr) by simp)
   rw [z] at q2
   cases q2
 show wpAny _ _ (leaving _ _) _ _ _
 unfold leaving
 refine wpAny_bind (note_next (base:=base) (L:=s₀.heap.objs.size) I'.ok.frames I'.stack rfl F0 fun h1' T k1 k2 bT F k3=>?_)
 refine flight_x (s:={ s' with heap:=h1' }) F fun h2 k F2=>?_
 have tn:∀ b o,s'.heap.get? b=some o→b≠T:=fun b o z=>Nat.ne_of_lt (Nat.lt_of_lt_of_le (Heap.lt_size z) bT)
 have s0T:s₀.heap.objs.size≤T:=Nat.le_trans I'.sz bT
 obtain ⟨u,hk⟩:=left_ok (h':=h2) I' rfl [e,T0] (fun b hb=>by
   rcases List.mem_cons.mp hb with z | hb
   ·subst z
    exact ⟨old b hne,hHe⟩
   ·have z:b=T0:=by simpa using hb
    subst z
    exact ⟨old b hnT,hHT⟩)
  (fun b o b1 b2 z=>k b o (tn b o z) (k1 b o (fun y=>b1 (by simp [y])) (fun y=>b1 (by simp [y])) b2 z))
  (fun b o b1 z=>by
   obtain ⟨sl,z1⟩:=k2 b o (fun y=>b1 (by simp [y])) (fun y=>b1 (by simp [y])) z
   exact ⟨sl,k b _ (tn b o z) z1⟩)
  (fun b o z=>by
   obtain ⟨o1,z1⟩:=k3 b o z
   exact ⟨o1,k b _ (tn b o z) z1⟩)
 exact ⟨e,T,cls,dct,H',rfl,I'.os,bare,u,hk,F2,old e hne,Heap.get?_none_of_le s0T,hHe,hok.fresh bT,q⟩
theorem own1:PassesOwn (model P w) (cx1 P w K mg base N qual scope f cd A outer s₀ H₀ E).A (cx1 P w K mg base N qual scope f cd A outer s₀ H₀ E).env (cx1 P w K mg base N qual scope f cd A outer s₀ H₀ E).xe:=PassesOwn.leaving
end
theorem ObjOk.there {P:Program} {w:World} {H:Hp} {h:Heap} {a:Addr} {o:HO} (x:ObjOk P w H h a o):∃ ob,h.get? a=some ob:=by
 cases o with
 | lst xs=>obtain ⟨_,_,_,_,e⟩:=x; exact ⟨_,e⟩
 | tup xs=>obtain ⟨_,_,_,o,e,_⟩:=x; exact ⟨_,e⟩
 | dK kvs=>obtain ⟨_,_,_,_,o,_,_,e,_⟩:=x; exact ⟨_,e⟩
 | dT kvs=>obtain ⟨_,_,_,_,o,_,_,e,_⟩:=x; exact ⟨_,e⟩
 | set S n=>obtain ⟨o,_,_,_,e,_⟩:=x; exact ⟨_,e⟩
 | ins C dx fs=>obtain ⟨_,_,_,e,_⟩:=x; exact ⟨_,e⟩
 | own y=>exact x
 | xd fs=>obtain ⟨_,⟨_,_,_,e,_⟩,_⟩:=x; exact ⟨_,e⟩
 | rng lo hi=>obtain ⟨_,_,_,e⟩:=x; exact ⟨_,e⟩
 | frz ob u=>obtain ⟨e,_⟩:=x; exact ⟨_,e⟩
 | tbl ps=>exact ⟨_,(show h.get? a=some _ from x)⟩
 | met f y=>exact ⟨_,(show h.get? a=some _ from x)⟩
 | ext φ=>obtain ⟨_,e,_⟩:=x; exact e
theorem HOk.new {P:Program} {w:World} {H:Hp} {h:Heap} {a:Addr} (x:HOk P w H h) (e:h.get? a=none):H a=none:=by
 cases q:H a with
 | none=>rfl
 | some u =>
  obtain ⟨o,z⟩:=(x a u q).there
  rw [e] at z
  cases z
def Raises (X:Cx) (E:XK):Prop:=∀ (pins:List (Addr×Obj)) (σ:St) (H:Hp) (s:Shared) (h':Heap) (e:Addr) (oe:Obj) (vs:Array Value),Inv X pins σ H s→(∀ b o,s.heap.get? b=some o→h'.get? b=some o)→s.heap.get? e=none →
 h'.get? e=some oe→oe.data=.fields vs→vs[1]?=some .none→E oe.cls oe.dict H→X.xe (.ref e) { s with heap:=h' }
section
variable {P:Program} {w:World} {K:PySem.W.Frag} {mg:Str→Option Value} {base:Heap} {N:List Str} {qual:Str} {scope:Scope} {f:Addr} {cd:Value} {A:Around} {outer:List Env} {s₀:Shared} {H₀:Hp} {E:XK}
theorem raises1:Raises (cx1 P w K mg base N qual scope f cd A outer s₀ H₀ E) E:=by
 intro pins σ H s h' e oe vs I k hn he hd h1 q
 have I':Inv (cx1 P w K mg base N qual scope f cd A outer s₀ H₀ E) pins σ H { s with heap:=h' }:=I.kept (t':=s.toks) k
 refine xe_made I' he hd h1 ?_ (I.hok.new hn) q
 cases q1:s₀.heap.get? e with
 | none=>rfl
 | some o =>
  obtain ⟨o',q2⟩:=I.base.there e o q1 (show e ∉ ([]:List Addr) by simp)
  rw [hn] at q2
  cases q2
end
section
variable {X:Cx} {x:Str} {C:Addr} {B newId initId:String} {bm:List Value} {np cpos pos:Pos} {E:XK} {e₀:Expr} {rest:List Expr} {t:TA}
def tRaise (C:Addr) (E:XK) (t:TA):TS:=fun _ σ H=>t σ H fun vs H1=>vs.length≤sizeLine∧E (.ref C) none H1
theorem ps_raise (O:OwnCls x C bm newId X.mg X.base) (FB:ExcBaseFacts B newId initId bm) (hg:Gl X x) (hc:X.calm=true) (hx:Raises X E) (ha:PA X (e₀ :: rest) t)
  (he:starEach (e₀ :: rest) X.env=(false,eval e₀ X.env) :: starEach rest X.env:=by rfl) (hpl:(backTo cpos (starEach rest X.env)).any (·.1)=false:=by rfl) (hd:(x == ("__debug__":Str))=false:=by decide) :
  PS X (.Raise (some (.Call (.Name x np) (e₀ :: rest) [] cpos)) none pos) (tRaise C E t):=by
 intro pins s σ H D I h
 obtain ⟨tl,N,nm,q,bs,hdct,sn,sub,ab,col,dd,k0,k1,k2,k3,k5,mN,hC,hN,hni,T⟩:=O.obj
 refine wpAny_Raise_call_subT (C:=C) (nm:=nm) (q:=q) (N:=N) (bs:=bs) (bm:=tl) (hdct:=hdct) (sn:=sn) (sub:=sub) (ab:=ab) (col:=col) (dd:=dd) (k0:=k0) (k1:=k1) (k2:=k2) (k3:=k3) (k5:=k5)
  FB (mN:=mN) (T.hasType FB.hasBase) (I.ok.hd hc) (by rw [he]; exact hpl) hni (ld_glob I hg O.bound ⟨rfl,?_⟩ hd)
 have hp:=ha cpos pins s σ H _ I h
 rw [he] at hp ⊢
 refine Calls.evalArgs_plain (thn hp fun us s2 ⟨vs,H1,I1,r1,z,hE⟩=>⟨rfl,by show us.length≤_; rw [← r1.length]; exact z,I1.bk _ _ hC,hN.keeps I1.bk,T.keeps I1.bk,fun h' e M=>?_⟩)
 obtain ⟨tt,he',_,_⟩:=M.there
 exact hx pins σ H1 s2 h' e _ _ I1 M.keeps M.new he' rfl rfl hE
end
section
variable {X:Cx} {pins:List (Addr×Obj)} {σ:St} {H H':Hp} {s:Shared} {h':Heap}
theorem Inv.stepN {g':Array GenState} {t':Nat} {d':Drawn} {ch:List Addr} (I:Inv X pins σ H s)
  (hch:∀ b∈ch,(b∈X.ex∨X.s₀.heap.get? b=none)∧b≠X.env.locals∧(∀ x c,X.env.cells.lookup x=some c→c≠b)∧∀ p∈X.pn++pins,p.1≠b)
  (keep:∀ b o,b≠X.env.locals→b ∉ X.fs→b ∉ ch→s.heap.get? b=some o→H b=none→h'.get? b=some o)
  (slot:∀ b o,b≠X.env.locals→b∈X.fs→b ∉ ch→s.heap.get? b=some o→H b=none→∃ sl,h'.get? b=some { o with slots:=sl }) (free:∀ b o,b ∉ ch→s.heap.get? b=some o→H b=none→H' b=none)
  (there:∀ b o,b ∉ ch→s.heap.get? b=some o→∃ o',h'.get? b=some o')
  (tups:∀ b xs,H b=some (.tup xs)→H' b=some (.tup xs)) (frzs:∀ b o u,H b=some (.frz o u)→H' b=some (.frz o u)) (tbls:∀ b ps,H b=some (.tbl ps)→∃ more,H' b=some (.tbl (ps++more)))
  (ns:∀ m,s.heap.Ns X.env.locals m→h'.Ns X.env.locals m) (hok:HOk X.prog X.w H' h') (hg:AllBare g') :
  Inv X pins σ H' { s with heap:=h',gens:=g',drawn:=d',toks:=t' }:=by
 have neL:∀ b o,X.s₀.heap.get? b=some o→b≠X.env.locals:=fun b o e=>Nat.ne_of_lt (Nat.lt_of_lt_of_le (Heap.lt_size e) I.ok.above)
 have neC:∀ b o,X.s₀.heap.get? b=some o→b ∉ X.ex→b ∉ ch:=fun b o e hx hb=>by
  rcases (hch b hb).1 with z | z
  ·exact hx z
  ·rw [z] at e
   cases e
 have cellK:∀ x c,X.env.cells.lookup x=some c→∀ v,s.heap.IsCell c v→h'.IsCell c v:=fun x c e v ⟨o,ho,hd⟩=>by
  have nch:c ∉ ch:=fun z=>(hch c z).2.2.1 x c e rfl
  by_cases hc:c∈X.fs
  ·obtain ⟨sl,q⟩:=slot c o (I.cne x c e) hc nch ho (I.freeC x c e)
   exact ⟨_,q,hd⟩
  ·exact ⟨o,keep c o (I.cne x c e) hc nch ho (I.freeC x c e),hd⟩
 refine ⟨I.ok,I.os,hg,⟨fun b o e n hb hx=>?_,fun b o e n hb hx=>?_,fun b o e n hx=>?_,fun b o e hx=>?_,fun b xs e=>tups b xs (I.base.tups b xs e),fun b o xs e=>frzs b o xs (I.base.frzs b o xs e),fun b ps e=>?_⟩,?_,fun x c e=>?_,?_,fun x c e=>?_,fun p hp=>?_,hok,I.len⟩
 ·exact keep b o (neL b o e) hb (neC b o e hx) (I.base.keep b o e n hb hx) (I.base.free b o e n hx)
 ·obtain ⟨sl,e1⟩:=I.base.slot b o e n hb hx
  obtain ⟨sl',e2⟩:=slot b _ (neL b o e) hb (neC b o e hx) e1 (I.base.free b o e n hx)
  exact ⟨sl',e2⟩
 ·obtain ⟨o',e1⟩:=I.base.there b o e hx
  exact free b o' (neC b o e hx) e1 (I.base.free b o e n hx)
 ·obtain ⟨o',e1⟩:=I.base.there b o e hx
  exact there b o' (neC b o e hx) e1
 ·obtain ⟨m1,e1⟩:=I.base.tbls b ps e
  obtain ⟨m2,e2⟩:=tbls b _ e1
  exact ⟨m1++m2,by rw [e2,Array.append_assoc]⟩
 ·obtain ⟨m,hn,hl⟩:=I.loc
  refine ⟨m,ns m hn,fun i x v e1 e2 e3=>?_⟩
  obtain ⟨u,r,l⟩:=hl i x v e1 e2 e3
  refine ⟨u,r,?_⟩
  rcases l with l | ⟨k,c,e,z⟩
  ·exact .inl l
  ·exact .inr ⟨k,c,e,cellK x c e _ z⟩
 ·obtain ⟨v,z⟩:=I.cell x c e
  exact ⟨v,cellK x c e v z⟩
 ·obtain ⟨m,⟨o,_,_,ho,_⟩,_⟩:=I.loc
  exact free _ o (fun z=>(hch _ z).2.1 rfl) ho I.free
 ·obtain ⟨v,o,ho,hd⟩:=I.cell x c e
  exact free c o (fun z=>(hch c z).2.2.1 x c e rfl) ho (I.freeC x c e)
 ·obtain ⟨e,n,ne,nf,d⟩:=I.pin p hp
  have nch:p.1 ∉ ch:=fun z=>(hch p.1 z).2.2.2 p hp rfl
  exact ⟨keep p.1 p.2 ne nf nch e n,free p.1 p.2 nch e n,ne,nf,d⟩
structure Apart (X:Cx) (pins:List (Addr×Obj)) (e:Addr):Prop where
 old:X.s₀.heap.get? e=none
 loc:e≠X.env.locals
 cel:∀ x c,X.env.cells.lookup x=some c→c≠e
 pin:∀ p∈X.pn++pins,p.1≠e
theorem Inv.apart (I:Inv X pins σ H s) (hex:X.ex=[]) {e:Addr} (hn:s.heap.get? e=none):Apart X pins e:=by
 have ne:∀ b o,s.heap.get? b=some o→b≠e:=fun b o q z=>by
  rw [z,hn] at q
  cases q
 refine ⟨?_,?_,fun x c q=>?_,fun p hp=>ne _ _ (I.pin p hp).1⟩
 ·cases q1:X.s₀.heap.get? e with
  | none=>rfl
  | some o =>
   obtain ⟨o',q2⟩:=I.base.there e o q1 (by rw [hex]; simp)
   rw [hn] at q2
   cases q2
 ·obtain ⟨m,⟨o,_,_,ho,_⟩,_⟩:=I.loc
  exact Ne.symm (ne _ _ ho)
 ·obtain ⟨v,o,ho,_⟩:=I.cell x c q
  exact ne _ _ ho
end
structure CatchC (K:PySem.W.Frag) (mg:Str→Option Value) (x:Str) (C:Addr):Prop where
 bound:mg x=some (.ref C)
 obj:∃ dd cd sl,K.lookup C=some ⟨.type "type",dd,.cls cd,sl⟩
 exc:PySem.W.mroIn K C (.type "BaseException")=some true
theorem excm_K {K:PySem.W.Frag} {mg:Str→Option Value} {x:Str} {prog:Program} {w:World} {A:Around} {E:Value→Shared→Prop} {s:Shared} {e C Cc:Addr} {oe:Obj} {b:Bool} {Q:Bool→Shared→Prop} (X:K.In s.heap) (hm:PySem.W.mroIn K C (.ref Cc)=some b)
  (cc:CatchC K mg x Cc) (he:s.heap.get? e=some oe) (hcls:oe.cls=.ref C) (q:Q b s):wpAny (model prog w) A (excMatches (.ref e) (.ref Cc)) Q E s:=by
 obtain ⟨dd,cd,sl,hl⟩:=cc.obj
 have L1:=PySem.W.looks_mroIn (M:=model prog w) X hm
 have L2:=PySem.W.looks_mroIn (M:=model prog w) X cc.exc
 have hC:=X _ _ hl
 have f:=tc_notTuple
 have hT:s.TypeIs (.ref Cc) "type":=⟨_,hC,rfl⟩
 obtain ⟨hp,g,d,tk,os⟩:=s
 unfold excMatches
 repeat (first | (with_reducible refine wpAny_loadPart_at he ?_; rw [hcls]) | (with_reducible refine wpAny_loadPart_at hC ?_) | (with_reducible refine L1.here ?_) | (with_reducible refine L2.here ?_) | wp_step)
 cases b with
 | true =>
  wp_walk
  exact q
 | false =>
  wp_walk
  exact q
abbrev Cx.sup (X:Cx) (e:Addr):Cx:={ X with A:=X.A.mark (some (.ref e)),calm:=false,xe:=fun _ _=>False }
theorem Cx.Ok.sup {X:Cx} (ok:X.Ok) (e:Addr):(X.sup e).Ok :=
 ⟨ok.mod,ok.kind,ok.glob,ok.blt,ok.above,ok.inj,ok.has,ok.cab,(fun z=>absurd (show false=true from z) (by decide)),ok.frames,ok.stk,ok.exf,ok.bs,ok.bsz,ok.noex,ok.exfs,ok.funs,ok.frf⟩
section
variable {X:Cx} {pins:List (Addr×Obj)} {σ:St} {H:Hp} {s:Shared} {e:Addr}
theorem Inv.sup (I:Inv X pins σ H s) (e:Addr):Inv (X.sup e) pins σ H s:=⟨I.ok.sup e,I.os,I.bare,I.base,I.loc,I.cell,I.free,I.freeC,I.pin,I.hok,I.len⟩
theorem Inv.unsup (ok:X.Ok) (I:Inv (X.sup e) pins σ H s):Inv X pins σ H s:=⟨ok,I.os,I.bare,I.base,I.loc,I.cell,I.free,I.freeC,I.pin,I.hok,I.len⟩
theorem Inv.recd {T:Addr} {h':Heap} (I:Inv X pins σ H s) (a:Apart X pins T) (hT:H T=none) (nf:T ∉ X.fs) (k:∀ b o,b≠T→s.heap.get? b=some o→h'.get? b=some o):Inv X pins σ H { s with heap:=h' }:=by
 have kt:∀ b u,H b=some u→b≠T:=fun b u q z=>by
  rw [z,hT] at q
  cases q
 refine I.stepN (g':=s.gens) (d':=s.drawn) (t':=s.toks) (ch:=[T]) (fun b hb=>?_) (fun b o _ _ hc q _=>k b o (by simpa using hc) q) (fun b o _ hf hc q _=>⟨o.slots,k b o (by simpa using hc) q⟩) (fun b o _ _ n=>n)
  (fun b o hc q=>⟨o,k b o (by simpa using hc) q⟩) (fun _ _ q=>q) (fun _ _ _ q=>q) (fun b ps q=>⟨#[],by rw [q]; simp⟩) (fun m hm=>?_) (fun b u q=>?_) I.bare
 ·have z:b=T:=by simpa using hb
  subst z
  exact ⟨.inr a.old,a.loc,a.cel,a.pin⟩
 ·obtain ⟨o,es,ep,ho,r⟩:=hm
  exact ⟨o,es,ep,k _ o (Ne.symm a.loc) ho,r⟩
 ·refine (I.hok b u q).stay (fun c v hc z=>k c v ?_ z) (fun _ z=>z) fun _ _ z=>z
  rcases hc with rfl | hc
  ·exact kt c u q
  ·exact kt c _ hc
theorem catch_core {M:Model} {E0:Value→Shared→Prop} {E:XK} {ev:Value} {s':Shared} {Q:Shared→Prop} (hst:X.stack=X.env :: X.outer) (hfr:X.env.frame=some X.env.locals) (hex:X.ex=[]) (I:Inv X pins σ H s)
  (hc:CX1 X.prog X.w X.stack H s E ev s')
  (k:∀ e T cls dct H' s3,ev=.ref e→E cls dct H'→H' e=none→H' T=none→Apart X pins e→Apart X pins T→T ∉ X.fs→Inv X pins σ H' s3→Fly s3.heap e T cls dct→Q s3) :
  wpAny M X.A (noteFrame ev X.env) (fun _ s2=>wpAny M X.A (setFlight ev none) (fun _ s3=>Q s3) E0 s2) E0 s':=by
 obtain ⟨e,T0,cls,dct,H',rfl,os,bare,un,hok,F0,hne,hnT,hHe,hHT,q⟩:=hc
 have I':Inv X pins σ H' s':=I.call' (ch:=[]) os un hok bare fun b z=>absurd z (by simp)
 have ae:=I.apart hex hne
 have aT0:=I.apart hex hnT
 have hfr':X.A.frames=some (X.env :: X.outer):=by rw [I.ok.frames,hst]
 have hst':s'.heap.FunFrames X.base (X.env :: X.outer):=by have z:=I'.stack; rwa [hst] at z
 have nfs:∀ b,b≠X.env.locals→b ∉ X.fs→b ∉ frs (X.env :: X.outer):=fun b h1 h2 z=>by
  unfold frs at z
  rw [List.filterMap_cons,hfr] at z
  rcases List.mem_cons.mp z with z | z
  ·exact h1 z
  ·exact h2 z
 refine note_next (base:=X.base) (L:=X.env.locals) hfr' hst' hfr F0 fun h1 T k1 k2 bT F1 k3=>?_
 refine flight_x (s:={ s' with heap:=h1 }) F1 fun h2 k4 F2=>?_
 have tn:∀ b o,s'.heap.get? b=some o→b≠T:=fun b o z=>Nat.ne_of_lt (Nat.lt_of_lt_of_le (Heap.lt_size z) bT)
 have HT:H' T=none:=hok.fresh bT
 have aT:=I'.apart hex (Heap.get?_none_of_le bT)
 have tr:∀ b u,H' b=some u→b≠e∧b≠T0∧b ∉ frs (X.env :: X.outer):=fun b u z=>⟨(fun y=>absurd ((congrArg H' y).symm.trans z) (by rw [hHe]; simp)),(fun y=>absurd ((congrArg H' y).symm.trans z) (by rw [hHT]; simp)),fun y=>absurd ((I'.stkFree b (by rw [hst]; exact y)).symm.trans z) (by simp)⟩
 refine k e T cls dct H' { s' with heap:=h2 } rfl q hHe HT ae aT (I'.nofs bT) ?_ F2
 refine I'.stepN (g':=s'.gens) (d':=s'.drawn) (t':=s'.toks) (ch:=[e,T0]) (fun b hb=>?_) (fun b o hL hf hc z _=>k4 b o (tn b o z) (k1 b o (fun y=>hc (by simp [y])) (fun y=>hc (by simp [y])) (nfs b hL hf) z))
  (fun b o _ _ hc z _=>by
   obtain ⟨sl,z1⟩:=k2 b o (fun y=>hc (by simp [y])) (fun y=>hc (by simp [y])) z
   exact ⟨sl,k4 b _ (tn b o z) z1⟩) (fun _ _ _ _ n=>n)
  (fun b o _ z=>by
   obtain ⟨o1,z1⟩:=k3 b o z
   exact ⟨o1,k4 b _ (tn b o z) z1⟩) (fun _ _ z=>z) (fun _ _ _ z=>z) (fun b ps z=>⟨#[],by rw [z]; simp⟩) (fun m hm=>?_) (fun b u z=>?_) bare
 ·rcases List.mem_cons.mp hb with z | hb
  ·subst z
   exact ⟨.inr ae.old,ae.loc,ae.cel,ae.pin⟩
  ·have z:b=T0:=by simpa using hb
   subst z
   exact ⟨.inr aT0.old,aT0.loc,aT0.cel,aT0.pin⟩
 ·obtain ⟨o,es,ep,ho,r⟩:=hm
  obtain ⟨sl,z1⟩:=k2 _ o (Ne.symm ae.loc) (Ne.symm aT0.loc) ho
  exact ⟨_,es,ep,k4 _ _ (tn _ o ho) z1,r⟩
 ·refine (I'.hok b u z).stay (fun c v hc y=>?_) (fun _ y=>y) fun _ _ y=>y
  have t3:c≠e∧c≠T0∧c ∉ frs (X.env :: X.outer):=by
   rcases hc with rfl | hc
   ·exact tr c u z
   ·exact tr c _ hc
  exact k4 c v (tn c v y) (k1 c v t3.1 t3.2.1 t3.2.2 y)
theorem suite_bare {Cc e T:Addr} {cls:Value} {dct:Option Addr} {s3:Shared} {D:Ends} {cx:Str} {np hpos:Pos} {b₀:Stmt} {suite:List Stmt} {rest:List ExceptHandler} {ts:TS} (cc:CatchC X.K X.mg cx Cc) (hg:Gl X cx)
  (hs:PSs (X.sup e) (b₀ :: suite) ts) (hm:∃ C,cls=.ref C∧PySem.W.mroIn X.K C (.ref Cc)=some true)
  (hH:H e=none) (hT:H T=none) (ae:Apart X pins e) (aT:Apart X pins T) (nT:T ∉ X.fs) (I:Inv X pins σ H s3) (F:Fly s3.heap e T cls dct)
  (h:ts D σ H) (hd:(cx == ("__debug__":Str))=false:=by decide) :
  wpAny (model X.prog X.w) X.A (handleBy (.ref e) X.env (.ExceptHandler (some (.Name cx np)) none (b₀ :: suite) hpos :: rest)) (SP X pins D) X.xe s3:=by
 obtain ⟨C,rfl,hmro⟩:=hm
 obtain ⟨oe,vs,oT,ts',he,hcl,hdx,hdt,h1,ne,hoT,hdT,h3⟩:=id F
 have Is:=I.sup e
 refine wpAny_handleBy_cons (codeAny_handlers_test (ld_glob (X:=X.sup e) Is hg cc.bound ?_ hd)) (by intro q; cases q)
 refine excm_K I.kIn hmro cc he hcl ?_
 refine codeAny_handlers_suite (flight_x F fun h' k' F'=>?_)
 have I1:Inv X pins σ H { s3 with heap:=h' }:=I.recd aT hT nT k'
 refine wpAny_mono (hs pins _ _ _ _ (I1.sup e) h) (fun f s5 q=>?_) fun _ _ z=>False.elim z
 cases f with
 | next=>obtain ⟨σ5,H5,I5,q5⟩:=q; exact ⟨_,H5,I5.unsup I.ok,q5⟩
 | brk=>obtain ⟨σ5,H5,I5,q5⟩:=q; exact ⟨_,H5,I5.unsup I.ok,q5⟩
 | cont=>obtain ⟨σ5,H5,I5,q5⟩:=q; exact ⟨_,H5,I5.unsup I.ok,q5⟩
 | ret u=>obtain ⟨v5,σ5,H5,I5,r5,q5⟩:=q; exact ⟨v5,_,H5,I5.unsup I.ok,r5,q5⟩
end
def PX (X:Cx) (e:Expr) (te:XK→TE):Prop :=
 ∀ (pins:List (Addr×Obj)) (s:Shared) (σ:St) (H:Hp) (Q:VK) (E:XK) (W:Value→Shared→Prop),Inv X pins σ H s→te E σ H Q →
  (∀ s1 H1 ev s',Inv X pins σ H1 s1→CX1 X.prog X.w X.stack H1 s1 E ev s'→W ev s')→wpAny (model X.prog X.w) X.A (eval e X.env) (EP X pins σ Q) W s
section
variable {X:Cx} {k:Nat} {f C:Addr} {fd:FuncData} {ps:List Str} {sp:Sp} {dvs:List V} {ds:List Value} {x m:Str} {p pos apos epos cpos:Pos} {e o:Expr} {es:List Expr} {ta:TE} {t:TA}
theorem run_fnW {W:Value→Shared→Prop} {E:XK} {pins:List (Addr×Obj)} {σ:St} {H:Hp} {s:Shared} {Q:VK} {us:List Value} {vs:List V} (F:FnOk X.prog X.w X.K X.mg X.base (CX1 X.prog X.w) k f fd ps sp) (hr:Room k X.A) (hb:Binds X.K fd ps ds) (hd:Vals dvs ds)
  (I:Inv X pins σ H s) (r:Vals vs us) (h:sp (vs++dvs) H Q E) (hx:∀ ev s',CX1 X.prog X.w X.stack H s E ev s'→W ev s'):wpAny (model X.prog X.w) X.A (call (.ref f) us) (EP X pins σ Q) W s:=by
 have r2:Vals (vs++dvs) (us++ds):=r.append hd
 have hl:(us++ds).length=ps.length:=by rw [← r2.length]; exact F.len _ _ _ _ h
 refine wpAny_call (codeAny_mono (F.run X.A X.stack s H ⟨us,[]⟩ (us++ds) (vs++dvs) Q E hr I.env0 (hb s us I.kIn hl) r2 h) fun r s' hq=>?_)
 cases r with
 | error ev=>exact hx ev s' hq
 | ok fl =>
  cases fl with
  | ret u=>exact I.after hq
  | next=>exact False.elim hq
  | brk=>exact False.elim hq
  | cont=>exact False.elim hq
variable {te:XK→TE} {cx n:Str} {np hpos tpos:Pos} {i:Nat} {b₀:Stmt} {suite:List Stmt} {ts:TS} {Cc:Addr} {call:Expr}
end
section
variable {P:Program} {w:World} {K:PySem.W.Frag} {mg:Str→Option Value} {base:Heap}
theorem Fun.ok1 {x qual:Str} {st:Stmt} {f:Addr} {fd:FuncData} {N ps:List Str} {k:Nat} {sp:Sp} (F:Fun K x qual st f fd) (S:FnScope N ps (defScope st)) (len:∀ vs H Q E,sp vs H Q E→vs.length=ps.length)
  (hbody:∀ (cdv:Value) (A:Around) (outer:List Env) (s:Shared) (H:Hp) (vs:List V) (Q:VK) (E:XK),Room k (A.deeper (envOfC qual (defScope st) s.heap.objs.size f cdv))→sp vs H Q E →
   ∃ t,PSs (cx1 P w K mg base N qual (defScope st) f cdv A outer s H E) (defBody st) t∧t { nx:=fun _ H'=>Q .non H',rt:=Q } (start N vs) H):FnOk P w K mg base (CX1 P w) (k + 1) f fd ps sp:=by
 obtain ⟨oc,od,kV,doc,pm,an,cdv,ct,osl,rfl,lk,hcd⟩:=F.ex
 exact fn_of lk hcd S len fun A outer s H vs Q E hr hsp=>hbody cdv A outer s H vs Q E hr hsp
end
open Builtin Builtin.ObjectAttr
section
variable {prog:Program} {w:World} {A:Around} {E:Value→Shared→Prop} {h:Heap} {g:Array GenState} {d:Drawn} {t:Nat} {os:OsState}
variable {nm q:Str} {C N x:Addr} {bs:List Value} {sn:List Str} {sub:List Value} {ab:Bool} {col:Option Bool} {dd:Option Addr} {k0 k1 k2 k3 k5:Option Value} {newId:String}
 {mN mA:Str→Option Value} {name:Str} {v:Value}
end
open Builtin Builtin.ObjectAttr
section
variable {prog:Program} {w:World} {A:Around} {E:Value→Shared→Prop} {h:Heap} {g:Array GenState} {d:Drawn} {t:Nat} {os:OsState}
variable {nm q:Str} {C N x:Addr} {bs:List Value} {sn:List Str} {sub:List Value} {ab:Bool} {col:Option Bool} {dd:Option Addr} {k0 k1 k2 k3 k5:Option Value} {newId:String}
 {mN mA:Str→Option Value} {name:Str} {v:Value}
end
section
variable {prog:Program} {w:World} {A:Around} {R:Result→Shared→Prop} {s:Shared}
theorem comp_loop {elt target iter:Expr} {ifs:List Expr} {scope:Scope} {pos:Pos} {it acc:Value} {env:Env} (I:Nat→Shared→Prop)
  (turn:∀ n s,I n s→wpAny (model prog w) A (pyNext it) (fun r s1=>match r with
   | none=>R (.ok .next) s1
   | some v=>wpAny (model prog w) A (letOwnedTupleGo target it v) (fun _ s1'=>wpAny (model prog w) A (assign target env v) (fun _ s2 =>
     wpAny (model prog w) A (forIn ifs true fun c r=>if r=true then do let ok ← isTrue c env (eval c env); pure (ForInStep.yield ok) else pure (ForInStep.yield r)) (fun ok s3 =>
      if ok=true then wpAny (model prog w) A (eval elt env) (fun x s4 =>
       wpAny (model prog w) A (call (.builtin "list.append") [acc,x]) (fun _ s5=>∃ m,m < n∧I m s5) (notedBy (model prog w) A env fun e s'=>R (.error e) s') s4) (notedBy (model prog w) A env fun e s'=>R (.error e) s') s3
      else ∃ m,m < n∧I m s3) (notedBy (model prog w) A env fun e s'=>R (.error e) s') s2) (notedBy (model prog w) A env fun e s'=>R (.error e) s') s1') (notedBy (model prog w) A env fun e s'=>R (.error e) s') s1) (notedBy (model prog w) A env fun e s'=>R (.error e) s') s)
  (n:Nat) (h:I n s):codeAny (model prog w) A (.compLoop (.ListComp elt [⟨target,iter,ifs,0⟩] scope pos) 0 it acc env) R s:=by
 refine codeAny_loop rfl I (fun n s hI=>?_) n h
 show wpAny _ A ((compTurn (.ListComp elt [⟨target,iter,ifs,0⟩] scope pos) 0 it acc env).onRaise (fun x=>do noteFrame x env; theTreesLotGoes x)) _ _ s
 refine wpAny_noted ?_
 rw [compTurn_list]
 refine wpAny_bind (wpAny_standAt (wpAny_bind (thn (turn n s hI) fun r s1 h1=>?_)))
 cases r with
 | none=>exact wpAny_pure h1
 | some v =>
  refine wpAny_bind (thn h1 fun _ s1' h1'=>wpAny_bind (thn h1' fun _ s2 h2=>wpAny_bind (thn h2 fun ok s3 h3=>?_)))
  cases ok with
  | false=>exact wpAny_pure ⟨rfl,h3⟩
  | true=>exact wpAny_bind (wpAny_bind (thn h3 fun x s4 h4=>wpAny_bind (thn h4 fun _ s5 h5=>wpAny_pure (wpAny_pure ⟨rfl,h5⟩))))
end
def PIfs (X:Cx) (ifs:List Expr) (t:TT):Prop :=
 ∀ (pins:List (Addr×Obj)) (s:Shared) (σ:St) (H:Hp) (Q:Bool→Hp→Prop),Inv X pins σ H s→t σ H Q →
  wpAny (model X.prog X.w) X.A (forIn ifs true fun c r=>if r=true then do let ok ← isTrue c X.env (eval c X.env); pure (ForInStep.yield ok) else pure (ForInStep.yield r)) (TP X pins σ Q) X.xe s
def tNoIf:TT:=fun _ H Q=>Q true H
theorem pifs_nil {X:Cx}:PIfs X [] tNoIf:=by
 intro pins s σ H Q I h
 exact wpAny_pure ⟨H,I,h⟩
theorem pifs_one {X:Cx} {c:Expr} {t:TT} (hc:PT X c t):PIfs X [c] t:=by
 intro pins s σ H Q I h
 show wpAny _ _ (forIn [c] true _) _ _ _
 rw [List.forIn_cons]
 refine wpAny_bind ?_
 rw [if_pos rfl]
 refine wpAny_bind (thn (hc pins s σ H Q I h) fun b s1 q=>wpAny_pure ?_)
 exact wpAny_pure q
section
variable {X:Cx} {pins:List (Addr×Obj)} {σ:St} {H:Hp} {s:Shared}
theorem closure_go (env:Env):∀ (names:List (Str×NameKind)) (acc:List (Str×Addr)),(∀ y∈names,y.2=.free→∃ c,env.cells.lookup y.1=some c)→(∀ x c,acc.lookup x=some c→env.cells.lookup x=some c) →
  ∃ cl,(forIn names acc fun (x:Str×NameKind) (r:List (Str×Addr))=>(match x with | (name,kind)=>if (kind == NameKind.free)=true then do let a ← cellOf env name; pure (ForInStep.yield ((name,a) :: r)) else pure (ForInStep.yield r):Sem (ForInStep (List (Str×Addr)))))=pure cl ∧
   (∀ x c,cl.lookup x=some c→env.cells.lookup x=some c)∧(∀ x c,acc.lookup x=some c→∃ c',cl.lookup x=some c')∧∀ y∈names,y.2=.free→∃ c,cl.lookup y.1=some c:=by
 intro names
 induction names with
 | nil=>exact fun acc _ h2=>⟨acc,rfl,h2,fun x c e=>⟨c,e⟩,fun y hy=>by simp at hy⟩
 | cons p r ih =>
  intro acc h1 h2
  obtain ⟨n,k⟩:=p
  rw [List.forIn_cons]
  by_cases hk:k=.free
  ·subst hk
   obtain ⟨c,hc⟩:=h1 (n,.free) List.mem_cons_self rfl
   obtain ⟨cl,e1,e2,e3,e4⟩:=ih ((n,c) :: acc) (fun y hy=>h1 y (List.mem_cons_of_mem _ hy)) (fun x c' e=>by
    rw [List.lookup_cons] at e
    cases hx:x == n with
    | true =>
     rw [hx] at e
     have:x=n:=by simpa using hx
     subst this
     cases e
     exact hc
    | false =>
     rw [hx] at e
     exact h2 x c' e)
   refine ⟨cl,?_,e2,fun x c' e=>?_,fun y hy hf=>?_⟩
   ·have hcell:cellOf env n=pure c:=by simp only [cellOf,hc]
    simp only [beq_self_eq_true,if_true,hcell,pure_bind]
    exact e1
   ·cases hx:x == n with
    | true=>exact e3 x c (by rw [List.lookup_cons,hx])
    | false=>exact e3 x c' (by rw [List.lookup_cons,hx]; exact e)
   ·rcases List.mem_cons.mp hy with rfl | hy
    ·exact e3 n c (by rw [List.lookup_cons]; simp)
    ·exact e4 y hy hf
  ·obtain ⟨cl,e1,e2,e3,e4⟩:=ih acc (fun y hy=>h1 y (List.mem_cons_of_mem _ hy)) h2
   refine ⟨cl,?_,e2,e3,fun y hy hf=>?_⟩
   ·have hb:(k == NameKind.free)=false:=by simpa using hk
    simp only [hb,Bool.false_eq_true,if_false,pure_bind]
    exact e1
   ·rcases List.mem_cons.mp hy with rfl | hy
    ·exact absurd hf hk
    ·exact e4 y hy hf
theorem closure_of {env:Env} {scope:Scope} (h:∀ y∈scope.names,y.2=.free→∃ c,env.cells.lookup y.1=some c) :
  ∃ cl,closureFor scope env=pure cl∧(∀ x c,cl.lookup x=some c→env.cells.lookup x=some c)∧∀ y∈scope.names,y.2=.free→∃ c,cl.lookup y.1=some c:=by
 obtain ⟨cl,e1,e2,_,e4⟩:=closure_go env scope.names [] h (fun x c e=>by simp at e)
 refine ⟨cl,?_,e2,e4⟩
 unfold closureFor
 show (forIn scope.names [] _ >>= fun r=>pure r)=pure cl
 rw [show ∀ m:Sem (List (Str×Addr)),(m >>= fun r=>pure r)=m from fun m=>bind_pure m]
 exact e1
end
def Cx.blk (X:Cx) (scope:Scope) (N:List Str) (cl:List (Str×Addr)) (C:Addr) (s:Shared) (H:Hp) (fp:List Addr) (pins:List (Addr×Obj)):Cx where
 prog:=X.prog
 w:=X.w
 K:=X.K
 mg:=X.mg
 base:=X.base
 A:=X.A
 N:=N
 s₀:=s
 H₀:=H
 env:=compEnvC scope cl C X.env
 outer:=X.stack
 stack:=X.stack
 ex:=fp
 fn:=fun _=>false
 calm:=X.calm
 pn:=X.pn++pins
 xe:=fun _ _=>False
def capsOf (k:Nat) (is:List Nat) (σ:St):St:=List.replicate k none++is.map fun i=>(σ[i]?).join
theorem lookup_relabel {env:Env}:∀ {names:List (Str×NameKind)} {x:Str} {k:NameKind},
  (names.map fun (n,k)=>if (k == NameKind.free && env.scope.kind == .function && env.kindOf n == some .cell) then (n,NameKind.cell) else (n,k)).lookup x=some k→∃ k0,(x,k0)∈names∧(k0=k∨k0=.free):=by
 intro names
 induction names with
 | nil=>intro x k h; simp at h
 | cons p r ih =>
  obtain ⟨n,k0⟩:=p
  intro x k h
  rw [List.map_cons] at h
  have st:∃ k1,(if (k0 == NameKind.free && env.scope.kind == .function && env.kindOf n == some .cell)=true then (n,NameKind.cell) else (n,k0))=(n,k1)∧(k1=k0∨k0=.free):=by
   split
   ·rename_i hc
    refine ⟨_,rfl,.inr ?_⟩
    simp only [Bool.and_eq_true,beq_iff_eq] at hc
    exact hc.1.1
   ·exact ⟨_,rfl,.inl rfl⟩
  obtain ⟨k1,e1,e2⟩:=st
  simp only at h
  rw [e1,List.lookup_cons] at h
  cases hx:x == n with
  | true =>
   rw [hx] at h
   have:x=n:=by simpa using hx
   subst this
   cases h
   refine ⟨k0,List.mem_cons_self,?_⟩
   rcases e2 with e2 | e2
   ·exact .inl e2.symm
   ·exact .inr e2
  | false =>
   rw [hx] at h
   obtain ⟨k2,m,z⟩:=ih h
   exact ⟨k2,List.mem_cons_of_mem _ m,z⟩
structure BlkScope (X:Cx) (scope:Scope) (own capn:List Str) (capI:List Nat):Prop where
 kind:scope.kind=.function
 cell:∀ y∈scope.names,y.2≠.cell
 names:∀ y∈scope.names,y.2=.local→scope.names.lookup y.1=some .local
 free:∀ y∈scope.names,y.2=.free→X.env.scope.names.lookup y.1=some .cell
 caps:capI.map (fun i=>X.N[i]?)=capn.map some
 capc:∀ y∈capn,X.env.scope.names.lookup y=some .cell∧(relabel scope X.env).names.lookup y=some .cell
section
variable {X:Cx} {pins:List (Addr×Obj)} {σ:St} {H:Hp} {s:Shared}
theorem blk_start {scope:Scope} {own capn:List Str} {capI:List Nat} {cl:List (Str×Addr)} {fp:List Addr} {h':Heap} {t':Nat} (B:BlkScope X scope own capn capI) (I:Inv X pins σ H s) (hf:∀ b∈fp,FpOk X pins H b) (ho:∀ b∈fp,∃ o,s.heap.get? b=some o)
  (hcl:∀ x c,cl.lookup x=some c→X.env.cells.lookup x=some c) (hcf:∀ y∈scope.names,y.2=.free→∃ c,cl.lookup y.1=some c)
  (hn:h'.Ns s.heap.objs.size (fun _=>none)) (hk:∀ b o,s.heap.get? b=some o→h'.get? b=some o) :
  Inv (X.blk scope (own++capn) cl s.heap.objs.size s H fp pins) [] (capsOf own.length capI σ) H { s with heap:=h',toks:=t' }:=by
 have lt:∀ b o,s.heap.get? b=some o→b≠s.heap.objs.size:=fun b o e=>Nat.ne_of_lt (Heap.lt_size e)
 have hkind:∀ x,((relabel scope X.env).names.lookup x=some .cell∨(relabel scope X.env).names.lookup x=some .free)→∃ c,cl.lookup x=some c:=fun x hx=>by
  have z:∃ k,(k=.cell∨k=.free)∧(relabel scope X.env).names.lookup x=some k:=by
   rcases hx with hx | hx
   ·exact ⟨_,.inl rfl,hx⟩
   ·exact ⟨_,.inr rfl,hx⟩
  obtain ⟨k,hk,hx⟩:=z
  obtain ⟨k0,m,z⟩:=lookup_relabel (env:=X.env) hx
  have:k0=.free:=by
   rcases z with z | z
   ·rcases hk with hk | hk
    ·exact absurd (z.trans hk) (B.cell _ m)
    ·exact z.trans hk
   ·exact z
  exact hcf _ m this
 have nfs:∀ b,b≠X.env.locals→b ∉ X.fs→b ∉ frs X.stack:=fun b h1 h2 z=>by
  rcases List.mem_cons.mp (I.stkSub b z) with z | z
  ·exact h1 z
  ·exact h2 z
 have cellAt:∀ x c,cl.lookup x=some c→∃ v o,s.heap.get? c=some o∧o.data=.cell v:=fun x c e=>by
  obtain ⟨v,o,ho,hd⟩:=I.cell x c (hcl x c e)
  exact ⟨v,o,ho,hd⟩
 have ok:(X.blk scope (own++capn) cl s.heap.objs.size s H fp pins).Ok:=by
  refine ⟨I.ok.mod,B.kind,I.ok.glob,I.ok.blt,Nat.le_refl _,fun x y c e1 e2=>I.ok.inj x y c (hcl x c e1) (hcl y c e2),fun x hx=>hkind x hx,(fun x c e=>absurd (show false=true from e) (by decide)),I.ok.hd,I.ok.frames,.inl rfl,fun b hb=>?_,I.bs,Nat.le_trans I.ok.bsz I.sz,fun b o e hb=>?_,fun b hb=>?_,I.stack,fun b hb=>I.stkFree b hb⟩
  ·obtain ⟨o,e⟩:=ho b hb
   exact ⟨lt b o e,fun x c ec=>(hf b hb).2.2.2.2.1 x c (hcl x c ec)⟩
  ·rcases (hf b hb).2.2.2.1 with z | z
   ·exact I.ok.noex b o e z
   ·exact absurd (Nat.lt_of_lt_of_le (Heap.lt_size (I.ok.bs b o e).1) z) (Nat.lt_irrefl _)
  ·exact nfs b (hf b hb).2.1 (hf b hb).2.2.1
 refine ⟨ok,rfl,I.bare,Un.kept hk,⟨_,hn,fun i x v e1 e2 e3=>?_⟩,fun x c e=>?_,I.hok.fresh (Nat.le_refl _),fun x c e=>I.freeC x c (hcl x c e),fun p hp=>?_,I.hok.kept hk,?_⟩
 ·unfold capsOf at e2
  have hi:own.length≤i:=by
   by_cases h:own.length≤i
   ·exact h
   ·rw [List.getElem?_append_left (by simpa using h),List.getElem?_replicate] at e2
    split at e2 <;> cases e2
  rw [List.getElem?_append_right (by simpa using hi),List.length_replicate,List.getElem?_map] at e2
  have e1':(own++capn)[i]?=some x:=e1
  rw [List.getElem?_append_right hi] at e1'
  cases hc:capI[i - own.length]? with
  | none=>rw [hc] at e2; cases e2
  | some j =>
   rw [hc] at e2
   have e4:(σ[j]?).join=some v:=by simpa using e2
   have e5:σ[j]?=some (some v):=by
    cases q:σ[j]? with
    | none=>rw [q] at e4; cases e4
    | some o=>rw [q] at e4; cases o with | none=>cases e4 | some v'=>cases e4; rfl
   have e6:X.N[j]?=some x:=by
    have z:=congrArg (fun l=>l[i - own.length]?) B.caps
    simp only [List.getElem?_map,hc,e1',Option.map_some] at z
    exact Option.some.inj z
   have cx:=B.capc x (List.mem_of_getElem? e1')
   obtain ⟨m,hm,hl⟩:=I.loc
   obtain ⟨u,r,l⟩:=hl j x v e6 e5 (.inr (.inl cx.1))
   refine ⟨u,r,.inr ?_⟩
   obtain ⟨c',hc'⟩:=hkind x (.inl cx.2)
   have hc2:=hcl x c' hc'
   rcases l with ⟨k,_⟩ | ⟨_,c,ec,o,hoc,hdc⟩
   ·have k':X.env.scope.names.lookup x=some .local:=k
    rw [cx.1] at k'
    cases k'
   ·rw [hc2] at ec
    cases ec
    exact ⟨.inl cx.2,c',hc',o,hk _ _ hoc,hdc⟩
 ·obtain ⟨v,o,hoc,hd⟩:=cellAt x c e
  exact ⟨v,o,hk _ _ hoc,hd⟩
 ·have hp':p∈X.pn++pins:=by
   have z:p∈(X.pn++pins)++[]:=hp
   simpa using z
  obtain ⟨e,n,ne,nf,d⟩:=I.pin p hp'
  exact ⟨hk _ _ e,n,lt _ _ e,nfs _ ne nf,d⟩
 ·show (List.replicate own.length none++capI.map _).length=(own++capn).length
  have z:=congrArg List.length B.caps
  simp only [List.length_map] at z
  simp [z]
end
def tLC (wi:TI) (k:Nat) (capI:List Nat) (g:TG) (tt:TT) (te:TE):TE:=fun σ H Q=>wi σ H fun J H1=>∀ D,H1 D=none→∃ W:Nat→Nat→St→List V→Hp→Prop,(∃ m,W 0 m (capsOf k capI σ) [] (upd H1 D (.lst []))) ∧
 ∀ i m σ' acc H,W i m σ' acc H→(J.stop i H∧Q (.ref D) H)∨(J.go i H∧∀ x H',J.yld i H x H'→g x σ' H' fun σ2 H2=>tt σ2 H2 fun b H3 =>
  if b=true then te σ2 H3 fun y H4=>H4 D=some (.lst acc)∧acc.length < sizeLine∧∃ m',m' < m∧W (i + 1) m' σ2 (acc++[y]) (upd H4 D (.lst (acc++[y]))) else ∃ m',m' < m∧W (i + 1) m' σ2 acc H3)
section
variable {X:Cx} {pins:List (Addr×Obj)} {σ:St} {H:Hp} {s:Shared}
theorem blk_end {scope:Scope} {N:List Str} {cl:List (Str×Addr)} {fp:List Addr} {h':Heap} {σ':St} {H':Hp} {s':Shared} (I:Inv X pins σ H s) (hf:∀ b∈fp,FpOk X pins H b)
  (J:Inv (X.blk scope N cl s.heap.objs.size s H fp pins) [] σ' H' s') (hs:Heap.SameBut s.heap.objs.size s'.heap h'):Inv X pins σ H' { s' with heap:=h' }:=by
 have B:=J.base
 have ne:∀ b o,s.heap.get? b=some o→b≠s.heap.objs.size:=fun b o e=>Nat.ne_of_lt (Heap.lt_size e)
 have u:Un (frs X.stack) fp H H' s.heap h':=⟨fun b o e n h1 h2=>(hs.2 b (ne b o e)).trans (B.keep b o e n h1 h2),fun b o e n h1 h2=>by
   obtain ⟨sl,z⟩:=B.slot b o e n h1 h2
   exact ⟨sl,(hs.2 b (ne b o e)).trans z⟩,B.free,fun b o e h2=>by
   obtain ⟨o',z⟩:=B.there b o e h2
   exact ⟨o',(hs.2 b (ne b o e)).trans z⟩,B.tups,B.frzs,B.tbls⟩
 have hok:HOk X.prog X.w H' h':=fun b o e=>by
  refine (J.hok b o e).stay (fun c v hc q=>(hs.2 c ?_).trans q) (fun _ z=>z) fun _ _ z=>z
  have fr:H' s.heap.objs.size=none:=J.free
  rintro rfl
  rcases hc with z | z
  ·rw [← z,fr] at e
   cases e
  ·rw [fr] at z
   cases z
 exact I.call' (s':={ s' with heap:=h' }) (ch:=fp) J.os u hok J.bare fun b hb=>⟨(hf b hb).2.2.2.1,(hf b hb).2.1,(hf b hb).2.2.2.2.1,(hf b hb).2.2.2.2.2⟩
variable {elt iter tg:Expr} {ifs:List Expr} {scope:Scope} {pos:Pos} {own capn:List Str} {capI:List Nat} {wi:TI} {g:TG} {tt:TT} {te:TE}
theorem pe_lc (hc:X.calm=true) (B:BlkScope X scope own capn capI) (hi:PI X tg iter wi) (hg:∀ cl C s H fp pins,PG (X.blk scope (own++capn) cl C s H fp pins) tg g)
  (ht:∀ cl C s H fp pins,PIfs (X.blk scope (own++capn) cl C s H fp pins) ifs tt) (he:∀ cl C s H fp pins,PE (X.blk scope (own++capn) cl C s H fp pins) elt te)
  (hs:∀ x,foldedSetIterable iter X.env x=pure x:=by intro _; rfl):PE X (.ListComp elt [⟨tg,iter,ifs,0⟩] scope pos) (tLC wi own.length capI g tt te):=by
 intro pins s σ H Q I h
 rw [eval_ListComp]
 obtain ⟨cl,hclos,hcl,hcf⟩:=closure_of (env:=X.env) (scope:=scope) (fun y hy hf=>I.ok.has y.1 (.inl (B.free y hy hf)))
 refine wpAny_comprehension_free (use:=none) rfl hs hclos B.kind B.names (thn (hi pins s σ H _ I h) fun v s1 h1=>thn h1 fun itv s2 h2=>?_)
 obtain ⟨it,fp,tn,J,H2,e,I2,T,st2,f2,hW⟩:=h2
 subst e
 obtain ⟨W,⟨m0,w0⟩,turn⟩:=hW s2.heap.objs.size (I2.hok.fresh (Nat.le_refl _))
 refine wpAny_newObj_type (wpAny_newFunctionEnv B.cell (by intro y hy; simp at hy) (fun h4 hns hsb=>?_) B.kind)
 dsimp only at hns hsb ⊢
 have I3:Inv X pins σ (upd H2 s2.heap.objs.size (.lst [])) { s2 with heap:=s2.heap.push { cls:=.type "list",dict:=none,data:=.seq ([]:List Value).toArray } } :=
  I2.laid (t':=s2.toks) (fun b u e=>Heap.get?_push_of_some _ e) (Nat.le_refl _) ⟨Nat.zero_le _,[],0,.nil,Heap.get?_push_size _ rfl⟩
 generalize hs3:({ s2 with heap:=s2.heap.push { cls:=.type "list",dict:=none,data:=.seq ([]:List Value).toArray } }:Shared)=s3 at I3
 have e3:s2.heap.push { cls:=.type "list",dict:=none,data:=.seq ([]:List Value).toArray }=s3.heap:=by rw [← hs3]
 have ob2:∀ b∈fp,∃ o,s2.heap.get? b=some o:=fun b hb=>let ⟨o,z,_⟩:=T.obj _ _ st2 b hb; ⟨o,z⟩
 have up3:∀ b o,s2.heap.get? b=some o→s3.heap.get? b=some o:=fun b o z=>by
  rw [← e3]
  exact Heap.get?_push_of_some _ z
 have f3:∀ b∈fp,FpOk X pins (upd H2 s2.heap.objs.size (.lst [])) b:=fun b hb=>by
  obtain ⟨o,z⟩:=ob2 b hb
  exact ⟨by rw [upd_ne (Nat.ne_of_lt (Heap.lt_size z))]; exact (f2 b hb).1,(f2 b hb).2⟩
 have ob3:∀ b∈fp,∃ o,s3.heap.get? b=some o:=fun b hb=>let ⟨o,z⟩:=ob2 b hb; ⟨o,up3 b o z⟩
 rw [e3] at hns hsb ⊢
 have up4:∀ b o,s3.heap.get? b=some o→h4.get? b=some o:=fun b o z=>(hsb.2 b (Nat.ne_of_lt (Heap.lt_size z))).trans (Heap.get?_push_of_some _ z)
 have IB:=blk_start (t':=s2.toks + ([]:List (Str×Value)).length) B I3 f3 ob3 hcl hcf hns up4
 have e4:({ s3 with heap:=h4,toks:=s2.toks + ([]:List (Str×Value)).length }:Shared)={ s2 with heap:=h4,toks:=s2.toks + ([]:List (Str×Value)).length }:=by rw [← hs3]
 rw [e4] at IB
 have tn4:tn 0 h4:=T.keep _ _ _ st2 fun b hb o z=>up4 b o (up3 b o z)
 have fst:∀ {H':Hp},(∀ b∈fp,H' b=none)→∀ b∈fp,FpOk (X.blk scope (own++capn) cl s3.heap.objs.size s3 (upd H2 s2.heap.objs.size (.lst [])) fp pins) [] H' b:=fun {H'} hn b hb=>by
  obtain ⟨o,z⟩:=ob3 b hb
  refine ⟨hn b hb,Nat.ne_of_lt (Heap.lt_size z),fun y=>?_,.inl hb,fun x c ec=>(f3 b hb).2.2.2.2.1 x c (hcl x c ec),fun p hp=>(f3 b hb).2.2.2.2.2 p (by have y:p∈(X.pn++pins)++[]:=hp; simpa using y)⟩
  rcases List.mem_cons.mp (I3.stkSub b y) with y | y
  ·exact (f3 b hb).2.1 y
  ·exact (f3 b hb).2.2.1 y
 have loop:codeAny (model X.prog X.w) X.A (.compLoop (.ListComp elt [⟨tg,iter,ifs,0⟩] scope pos) 0 (.ref it) (.ref s2.heap.objs.size) (compEnvC scope cl s3.heap.objs.size X.env))
   (compPost (model X.prog X.w) X.A X.xe none (EP X pins σ Q) (.ref s2.heap.objs.size) s3.heap.objs.size) { s2 with heap:=h4,toks:=s2.toks + ([]:List (Str×Value)).length }:=by
  refine comp_loop (fun n s'=>∃ i σ' acc H',Inv (X.blk scope (own++capn) cl s3.heap.objs.size s3 (upd H2 s2.heap.objs.size (.lst [])) fp pins) [] σ' H' s'∧tn i s'.heap∧(∀ b∈fp,H' b=none)∧W i n σ' acc H') ?_ m0 ⟨0,_,[],_,IB,tn4,fun b hb=>(f3 b hb).1,w0⟩
  rintro n s5 ⟨i,σ5,acc,H5,I5,st5,fr5,w5⟩
  have no:∀ {α:Type} {t:Sem α} {Q:α→Shared→Prop} {E:Value→Shared→Prop} {s:Shared},wpAny (model X.prog X.w) X.A t Q (fun _ _=>False) s→wpAny (model X.prog X.w) X.A t Q E s:=fun z=>wpAny_mono z (fun _ _ y=>y) fun _ _ y=>y.elim
  rcases turn i n σ5 acc H5 w5 with ⟨stop,qn⟩ | ⟨go,step⟩
  ·refine no (thn (T.done (X.blk scope (own++capn) cl s3.heap.objs.size s3 (upd H2 s2.heap.objs.size (.lst [])) fp pins) rfl rfl rfl hc i [] s5 σ5 H5 _ I5 (fst fr5) st5 stop) fun r s6 ⟨hr,I6⟩=>?_)
   subst hr
   obtain ⟨m,hm,_⟩:=id I6.loc
   exact ⟨m,hm,fun h' hs'=>⟨.ref s2.heap.objs.size,H5,blk_end I3 f3 I6 hs',rfl,qn⟩⟩
  ·refine no (thn (T.item (X.blk scope (own++capn) cl s3.heap.objs.size s3 (upd H2 s2.heap.objs.size (.lst [])) fp pins) rfl rfl rfl hc i [] s5 σ5 H5 _ I5 (fst fr5) st5 go) fun r s6 ⟨u,hr,h6⟩=>?_)
   subst hr
   refine no (thn h6 fun _ s7 ⟨x,H7,I7,r7,y7,st7,fr7⟩=>?_)
   have I7':=I7.pinned (fst fr7) (T.obj _ _ st7)
   have kp:∀ {σ8:St} {H8:Hp} {s8:Shared},Inv (X.blk scope (own++capn) cl s3.heap.objs.size s3 (upd H2 s2.heap.objs.size (.lst [])) fp pins) ([]++pinsAt fp s7.heap) σ8 H8 s8→tn (i + 1) s8.heap∧∀ b∈fp,H8 b=none:=fun {σ8 H8 s8} I8=>by
    refine ⟨T.keep _ _ _ st7 fun b hb o z=>(I8.pin (b,o) (List.mem_append_right _ (List.mem_append_right _ (mem_pinsAt hb z)))).1,fun b hb=>?_⟩
    obtain ⟨o,z,d⟩:=T.obj _ _ st7 b hb
    exact (I8.pin (b,o) (List.mem_append_right _ (List.mem_append_right _ (mem_pinsAt hb z)))).2.1
   refine no (thn (hg cl s3.heap.objs.size s3 _ fp pins _ s7 σ5 H7 x u _ I7' r7 (step x H7 y7)) fun _ s8 ⟨σ8,H8,I8,q8⟩=>?_)
   refine no (thn (ht cl s3.heap.objs.size s3 _ fp pins _ s8 σ8 H8 _ I8 q8) fun b s9 ⟨H9,I9,q9⟩=>?_)
   cases b with
   | false =>
    obtain ⟨m',hm,w9⟩:=q9
    exact ⟨m',hm,i + 1,σ8,acc,H9,I9.unpinned,(kp I9).1,(kp I9).2,w9⟩
   | true =>
    refine no (thn (he cl s3.heap.objs.size s3 _ fp pins _ s9 σ8 H9 _ I9 q9) fun y s10 ⟨yv,H10,I10,r10,hD,hz,m',hm,w10⟩=>?_)
    refine no (thn (mt_append _ s10 σ8 H10 (.ref s2.heap.objs.size) [yv] (.ref s2.heap.objs.size) [y] (fun v H11=>v=.non∧H11=upd H10 s2.heap.objs.size (.lst (acc++[yv]))) I10 rfl (.cons r10 .nil) ⟨_,acc,yv,rfl,rfl,hD,hz,rfl,rfl⟩) fun _ s11 ⟨_,H11,I11,_,_,e11⟩=>?_)
    subst e11
    exact ⟨m',hm,i + 1,σ8,acc++[yv],_,I11.unpinned,(kp I11).1,(kp I11).2,w10⟩
 exact codeAny_compStart_list loop (T.self _ 0 _ _ _ tn4 loop)
end
section
variable {X:Cx} {x a:Str} {C fI:Addr} {o value:Expr} {pos pos':Pos} {ta tv:TE} {mg:Str→Option Value}
end
section
variable {M:Model} {A:Around} {E:Value→Shared→Prop} {env:Env}
variable {nm q:Str} {C N:Addr} {bs bm:List Value} {hdct:Bool} {sn:List Str} {sub:List Value} {ab:Bool} {col:Option Bool} {dd:Option Addr} {k0 k1 k2 k3 k5:Option Value} {newId:String}
end
section
variable {P:Program} {w:World} {K:PySem.W.Frag} {mg:Str→Option Value} {base:Heap} {N:List Str} {qual:Str} {scope:Scope} {f:Addr} {cd:Value} {A:Around} {outer:List Env} {s₀:Shared} {H₀:Hp} {E:XK}
end
section
variable {X:Cx} {x a:Str} {C fI:Addr} {np cpos pos:Pos} {E:XK} {e₀:Expr} {rest:List Expr} {t:TA} {k:Nat} {fd:FuncData} {ps:List Str} {sp:Sp}
end
section
variable {prog:Program} {w:World} {K:Type} [DecidableEq K] {knd:KeyKind prog w K} {A:Around}
end
section
variable {X:Cx}
def DkK (P:Program) (w:World) (K:PySem.W.Frag) (a:Addr) (kvs:List (Key×V)):Prop:=(a == sysModules)=false∧kvs.length≤sizeLine∧∃ vs,KV kvs vs∧∀ h:Heap,K.In h→h.DictOf (mixKind P w) a vs
end
mutual
inductive Rp (K:PySem.W.Frag) (H:Hp):V→PyData→Prop
 | non:Rp K H .non .none
 | bl (b:Bool):Rp K H (.bl b) (.bool b)
 | int (i:Int):Rp K H (.int i) (.int i)
 | str (x:Str):Rp K H (.str x) (.str x)
 | tup {a:Addr} {xs:List V} {ds:List PyData}:SqT K H a xs→Rps K H xs ds→Rp K H (.ref a) (.tuple ds)
 | lst {a:Addr} {xs:List V} {ds:List PyData}:SqL K H a xs→Rps K H xs ds→Rp K H (.ref a) (.list ds)
inductive Rps (K:PySem.W.Frag) (H:Hp):List V→List PyData→Prop
 | nil:Rps K H [] []
 | cons {x:V} {d:PyData} {xs:List V} {ds:List PyData}:Rp K H x d→Rps K H xs ds→Rps K H (x :: xs) (d :: ds)
end
theorem Same.sqT {K:PySem.W.Frag} {H H':Hp} {a:Addr} {xs:List V} (e:Same H H') (h:SqT K H a xs):SqT K H' a xs:=by
 rcases h with (h | ⟨o,h⟩) | h
 ·exact .inl (.inl (e _ _ h))
 ·exact .inl (.inr ⟨o,e _ _ h⟩)
 ·exact .inr h
section
variable {X:Cx} {pins:List (Addr×Obj)} {σ:St} {H:Hp} {s:Shared}
end
structure Fn (P:Program) (w:World) (K:PySem.W.Frag) (mg:Str→Option Value) (base:Heap) (x:Str) (k:Nat) (ps:List Str) (sp:Sp):Prop where
 ex:∃ f fd,FnOk P w K mg base (CX1 P w) k f fd ps sp∧mg x=some (.ref f)∧PySem.W.keepIn K (.ref f)=true∧Binds K fd ps []
structure Mt (P:Program) (w:World) (K:PySem.W.Frag) (mg:Str→Option Value) (base:Heap) (C:Addr) (m:Str) (k:Nat) (ps:List Str) (sp:Sp):Prop where
 ex:∃ f fd,FnOk P w K mg base (CX1 P w) k f fd ps sp∧Meth K C m f∧Cls K C∧Binds K fd ps []
structure Mc (P:Program) (w:World) (K:PySem.W.Frag) (mg:Str→Option Value) (base:Heap) (x:Str) (C:Addr) (k:Nat) (ps:List Str) (sp:Sp):Prop where
 ex:∃ f fd,FnOk P w K mg base (CX1 P w) k f fd ps sp∧Mk K C f∧mg x=some (.ref C)∧Binds K fd ps []
section
variable {X:Cx} {k:Nat} {C:Addr} {ps:List Str} {sp:Sp} {E:XK} {x m:Str} {p pos apos:Pos} {e o:Expr} {es:List Expr} {ta:TE} {t:TA}
theorem pf_call (F:Fn X.prog X.w X.K X.mg X.base x k ps sp) (hr:Room k X.A) (hg:Gl X x) (hx:Passes (CX1 X.prog X.w) X E) (ha:PA X (e :: es) t) (hdb:(x == ("__debug__":Str))=false:=by decide)
  (he:starEach (e :: es) X.env=(false,eval e X.env) :: starEach es X.env:=by rfl) (hpl:(backTo pos (starEach es X.env)).any (·.1)=false:=by rfl):PE X (.Call (.Name x p) (e :: es) [] pos) (tCall sp [] E t):=by
 obtain ⟨f,fd,ok,mgf,kp,bi⟩:=F.ex
 exact pe_call ok hr hg mgf kp bi .nil hx ha hdb he hpl
theorem pf_meth {pl:Sem Bool} (F:Mt X.prog X.w X.K X.mg X.base C m k ps sp) (ho:PE X o ta) (hr:Room k X.A) (hx:Passes (CX1 X.prog X.w) X E) (ha:PA X (e :: es) t)
  (hst:starEach (e :: es) X.env=(false,eval e X.env) :: starEach es X.env:=by rfl) (hpl:(backTo pos (starEach es X.env)).any (·.1)=false:=by rfl)
  (ht:eval (.Call (.Attribute o m apos) (e :: es) [] pos) X.env=(do
   let ov ← eval o X.env
   standAt apos.atName
   let (f,first) ← holding [ov] (getMethod ov m pl)
   callWith pos f first (backTo pos (starEach (e :: es) X.env)) (backToKw pos (keywordEach [] X.env))):=by rfl) :
  PE X (.Call (.Attribute o m apos) (e :: es) [] pos) (tMeth C m sp [] E ta t):=by
 obtain ⟨f,fd,ok,mt,cl,bi⟩:=F.ex
 exact pe_meth (pl:=pl) ho cl mt ok hr bi .nil hx ha hst hpl ht
end
section
variable {X:Cx} {es:List Expr} {env:Env}
end
section
variable {X:Cx} {elt iter tg:Expr} {ifs:List Expr} {scope:Scope} {pos:Pos} {own capn:List Str} {capI:List Nat} {wi:TI} {g:TG} {tt:TT} {te:TE}
theorem ps_setC {i:Nat} {y:Str} {py spos:Pos} (hN:X.N.Nodup) (hi:X.N[i]?=some y) (hy:Loc X.env.scope y) (hex:X.ex=[]) (hc:X.calm=true) (B:BlkScope X scope own capn capI) (hit:PI X tg iter wi) (hg:∀ cl C s H fp pins,PG (X.blk scope (own++capn) cl C s H fp pins) tg g)
  (ht:∀ cl C s H fp pins,PIfs (X.blk scope (own++capn) cl C s H fp pins) ifs tt) (he:∀ cl C s H fp pins,PE (X.blk scope (own++capn) cl C s H fp pins) elt te)
  (hs:∀ x,foldedSetIterable iter X.env x=pure x:=by intro _; rfl) (hsw:swapsWith (.ListComp elt [⟨tg,iter,ifs,0⟩] scope pos) (some (.Name y py)) spos.line X.env=pure true:=by rfl)
  (hf:X.fn y=true∨X.env.scope.names.lookup y=some .local:=by first | exact .inl rfl | exact .inr rfl | assumption) :
  PS X (.Assign [.Name y py] (.ListComp elt [⟨tg,iter,ifs,0⟩] scope pos) spos) (tAsg (tLC wi own.length capI g tt te) (gName i)):=by
 intro pins s σ H D0 I h
 rw [exec_Assign_Name_used _ _ _ _ hsw]
 refine wpAny_bind (wpAny_standAt (wpAny_bind ?_))
 show wpAny _ X.A (do let _ ← comprehension (.ListComp elt [⟨tg,iter,ifs,0⟩] scope pos) scope X.env _ (newList []) false (eval iter X.env) (some (assign (.Name y py) X.env))) _ _ s
 obtain ⟨cl,hclos,hcl,hcf⟩:=closure_of (env:=X.env) (scope:=scope) (fun y hy hf=>I.ok.has y.1 (.inl (B.free y hy hf)))
 refine wpAny_bind (wpAny_mono (wpAny_comprehension_free (use:=some (assign (.Name y py) X.env)) (Q:=fun _ s'=>SP X pins D0 .next s') rfl hs hclos B.kind B.names (thn (hit pins s σ H _ I h) fun v s1 h1=>thn h1 fun itv s2 h2=>?_)) (fun _ s' hq=>wpAny_pure (wpAny_pure hq)) fun _ _ e=>e)
 obtain ⟨it,fp,tn,J,H2,e,I2,T,st2,f2,hW⟩:=h2
 subst e
 obtain ⟨W,⟨m0,w0⟩,turn⟩:=hW s2.heap.objs.size (I2.hok.fresh (Nat.le_refl _))
 refine wpAny_newObj_type (wpAny_newFunctionEnv B.cell (by intro y hy; simp at hy) (fun h4 hns hsb=>?_) B.kind)
 dsimp only at hns hsb ⊢
 have I3:Inv X pins σ (upd H2 s2.heap.objs.size (.lst [])) { s2 with heap:=s2.heap.push { cls:=.type "list",dict:=none,data:=.seq ([]:List Value).toArray } } :=
  I2.laid (t':=s2.toks) (fun b u e=>Heap.get?_push_of_some _ e) (Nat.le_refl _) ⟨Nat.zero_le _,[],0,.nil,Heap.get?_push_size _ rfl⟩
 generalize hs3:({ s2 with heap:=s2.heap.push { cls:=.type "list",dict:=none,data:=.seq ([]:List Value).toArray } }:Shared)=s3 at I3
 have e3:s2.heap.push { cls:=.type "list",dict:=none,data:=.seq ([]:List Value).toArray }=s3.heap:=by rw [← hs3]
 have ob2:∀ b∈fp,∃ o,s2.heap.get? b=some o:=fun b hb=>let ⟨o,z,_⟩:=T.obj _ _ st2 b hb; ⟨o,z⟩
 have up3:∀ b o,s2.heap.get? b=some o→s3.heap.get? b=some o:=fun b o z=>by
  rw [← e3]
  exact Heap.get?_push_of_some _ z
 have f3:∀ b∈fp,FpOk X pins (upd H2 s2.heap.objs.size (.lst [])) b:=fun b hb=>by
  obtain ⟨o,z⟩:=ob2 b hb
  exact ⟨by rw [upd_ne (Nat.ne_of_lt (Heap.lt_size z))]; exact (f2 b hb).1,(f2 b hb).2⟩
 have ob3:∀ b∈fp,∃ o,s3.heap.get? b=some o:=fun b hb=>let ⟨o,z⟩:=ob2 b hb; ⟨o,up3 b o z⟩
 rw [e3] at hns hsb ⊢
 have up4:∀ b o,s3.heap.get? b=some o→h4.get? b=some o:=fun b o z=>(hsb.2 b (Nat.ne_of_lt (Heap.lt_size z))).trans (Heap.get?_push_of_some _ z)
 have IB:=blk_start (t':=s2.toks + ([]:List (Str×Value)).length) B I3 f3 ob3 hcl hcf hns up4
 have e4:({ s3 with heap:=h4,toks:=s2.toks + ([]:List (Str×Value)).length }:Shared)={ s2 with heap:=h4,toks:=s2.toks + ([]:List (Str×Value)).length }:=by rw [← hs3]
 rw [e4] at IB
 have tn4:tn 0 h4:=T.keep _ _ _ st2 fun b hb o z=>up4 b o (up3 b o z)
 have fst:∀ {H':Hp},(∀ b∈fp,H' b=none)→∀ b∈fp,FpOk (X.blk scope (own++capn) cl s3.heap.objs.size s3 (upd H2 s2.heap.objs.size (.lst [])) fp pins) [] H' b:=fun {H'} hn b hb=>by
  obtain ⟨o,z⟩:=ob3 b hb
  refine ⟨hn b hb,Nat.ne_of_lt (Heap.lt_size z),fun y=>?_,.inl hb,fun x c ec=>(f3 b hb).2.2.2.2.1 x c (hcl x c ec),fun p hp=>(f3 b hb).2.2.2.2.2 p (by have y:p∈(X.pn++pins)++[]:=hp; simpa using y)⟩
  rcases List.mem_cons.mp (I3.stkSub b y) with y | y
  ·exact (f3 b hb).2.1 y
  ·exact (f3 b hb).2.2.1 y
 have loop:codeAny (model X.prog X.w) X.A (.compLoop (.ListComp elt [⟨tg,iter,ifs,0⟩] scope pos) 0 (.ref it) (.ref s2.heap.objs.size) (compEnvC scope cl s3.heap.objs.size X.env))
   (compPost (model X.prog X.w) X.A X.xe (some (assign (.Name y py) X.env)) (fun _ s'=>SP X pins D0 .next s') (.ref s2.heap.objs.size) s3.heap.objs.size) { s2 with heap:=h4,toks:=s2.toks + ([]:List (Str×Value)).length }:=by
  refine comp_loop (fun n s'=>∃ i σ' acc H',Inv (X.blk scope (own++capn) cl s3.heap.objs.size s3 (upd H2 s2.heap.objs.size (.lst [])) fp pins) [] σ' H' s'∧tn i s'.heap∧(∀ b∈fp,H' b=none)∧W i n σ' acc H') ?_ m0 ⟨0,_,[],_,IB,tn4,fun b hb=>(f3 b hb).1,w0⟩
  rintro n s5 ⟨i,σ5,acc,H5,I5,st5,fr5,w5⟩
  have no:∀ {α:Type} {t:Sem α} {Q:α→Shared→Prop} {E:Value→Shared→Prop} {s:Shared},wpAny (model X.prog X.w) X.A t Q (fun _ _=>False) s→wpAny (model X.prog X.w) X.A t Q E s:=fun z=>wpAny_mono z (fun _ _ y=>y) fun _ _ y=>y.elim
  rcases turn i n σ5 acc H5 w5 with ⟨stop,qn⟩ | ⟨go,step⟩
  ·refine no (thn (T.done (X.blk scope (own++capn) cl s3.heap.objs.size s3 (upd H2 s2.heap.objs.size (.lst [])) fp pins) rfl rfl rfl hc i [] s5 σ5 H5 _ I5 (fst fr5) st5 stop) fun r s6 ⟨hr,I6⟩=>?_)
   subst hr
   obtain ⟨m,hm,_⟩:=id I6.loc
   have IX:Inv X pins σ H5 s6:=blk_end I3 f3 I6 (Heap.SameBut.refl _ _)
   have fC:∀ b∈[s3.heap.objs.size],FpOk X pins H5 b:=fun b hb=>by
    obtain rfl:b=s3.heap.objs.size:=by simpa using hb
    exact I3.fpOk (Nat.le_refl _) I6.free
   obtain ⟨oC,esC,epC,hoC,hdC,hrC⟩:=id hm
   have Ip:=IX.pinned fC (fun b hb=>by
    obtain rfl:b=s3.heap.objs.size:=by simpa using hb
    exact ⟨oC,hoC,fun v z=>by rw [hdC] at z; cases z⟩)
   have apC:=I3.apart hex (Heap.get?_none_of_le (Nat.le_refl s3.heap.objs.size))
   have nfC:=I3.nofs (Nat.le_refl s3.heap.objs.size)
   show wpAny _ X.A (assign (.Name y py) X.env (.ref s2.heap.objs.size)) _ _ _
   refine wpAny_assign_Name (store_ok Ip hN hi hy (v:=.ref s2.heap.objs.size) rfl (fun s7 I7=>?_) hf)
   have hC7:s7.heap.get? s3.heap.objs.size=some oC:=(I7.pin (s3.heap.objs.size,oC) (List.mem_append_right _ (List.mem_append_right _ (mem_pinsAt (by simp) hoC)))).1
   refine ⟨m,⟨oC,esC,epC,hC7,hdC,hrC⟩,fun h' hs'=>⟨_,H5,?_,qn⟩⟩
   exact I7.unpinned.recd apC I6.free nfC fun b o hb z=>(hs'.2 b hb).trans z
  ·refine no (thn (T.item (X.blk scope (own++capn) cl s3.heap.objs.size s3 (upd H2 s2.heap.objs.size (.lst [])) fp pins) rfl rfl rfl hc i [] s5 σ5 H5 _ I5 (fst fr5) st5 go) fun r s6 ⟨u,hr,h6⟩=>?_)
   subst hr
   refine no (thn h6 fun _ s7 ⟨x,H7,I7,r7,y7,st7,fr7⟩=>?_)
   have I7':=I7.pinned (fst fr7) (T.obj _ _ st7)
   have kp:∀ {σ8:St} {H8:Hp} {s8:Shared},Inv (X.blk scope (own++capn) cl s3.heap.objs.size s3 (upd H2 s2.heap.objs.size (.lst [])) fp pins) ([]++pinsAt fp s7.heap) σ8 H8 s8→tn (i + 1) s8.heap∧∀ b∈fp,H8 b=none:=fun {σ8 H8 s8} I8=>by
    refine ⟨T.keep _ _ _ st7 fun b hb o z=>(I8.pin (b,o) (List.mem_append_right _ (List.mem_append_right _ (mem_pinsAt hb z)))).1,fun b hb=>?_⟩
    obtain ⟨o,z,d⟩:=T.obj _ _ st7 b hb
    exact (I8.pin (b,o) (List.mem_append_right _ (List.mem_append_right _ (mem_pinsAt hb z)))).2.1
   refine no (thn (hg cl s3.heap.objs.size s3 _ fp pins _ s7 σ5 H7 x u _ I7' r7 (step x H7 y7)) fun _ s8 ⟨σ8,H8,I8,q8⟩=>?_)
   refine no (thn (ht cl s3.heap.objs.size s3 _ fp pins _ s8 σ8 H8 _ I8 q8) fun b s9 ⟨H9,I9,q9⟩=>?_)
   cases b with
   | false =>
    obtain ⟨m',hm,w9⟩:=q9
    exact ⟨m',hm,i + 1,σ8,acc,H9,I9.unpinned,(kp I9).1,(kp I9).2,w9⟩
   | true =>
    refine no (thn (he cl s3.heap.objs.size s3 _ fp pins _ s9 σ8 H9 _ I9 q9) fun y s10 ⟨yv,H10,I10,r10,hD,hz,m',hm,w10⟩=>?_)
    refine no (thn (mt_append _ s10 σ8 H10 (.ref s2.heap.objs.size) [yv] (.ref s2.heap.objs.size) [y] (fun v H11=>v=.non∧H11=upd H10 s2.heap.objs.size (.lst (acc++[yv]))) I10 rfl (.cons r10 .nil) ⟨_,acc,yv,rfl,rfl,hD,hz,rfl,rfl⟩) fun _ s11 ⟨_,H11,I11,_,_,e11⟩=>?_)
    subst e11
    exact ⟨m',hm,i + 1,σ8,acc++[yv],_,I11.unpinned,(kp I11).1,(kp I11).2,w10⟩
 exact codeAny_compStart_list loop (T.self _ 0 _ _ _ tn4 loop)
end
section
variable {X:Cx}
end
section
variable {prog:Program} {w:World} {A:Around} {E:Value→Shared→Prop} {s:Shared}
end
section
variable {prog:Program} {w:World} {K:Type} [DecidableEq K] {knd:KeyKind prog w K} {A:Around}
end
section
variable {prog:Program} {w:World} {K:Type} [DecidableEq K] {knd:KeyKind prog w K} {A:Around}
end
section
variable {X:Cx}
end
section
variable {X:Cx} {e st:Expr} {te:TE} {lo hi:Option Expr} {tl th ts:TO} {pos p2:Pos}
theorem rg_ask {lo:Int} {n i:Nat} {H:Hp} {A:Prop} {B:V→Hp→Prop} (hi:i≤n) (hs:i < n→B (.int (lo + i)) H) (hd:i=n→A) :
  ((Itr lo n).stop i H∧A)∨((Itr lo n).go i H∧∀ x H',(Itr lo n).yld i H x H'→B x H'):=by
 by_cases hlt:i < n
 ·refine .inr ⟨hlt,fun x H' y=>?_⟩
  obtain ⟨rfl,rfl⟩:=y
  exact hs hlt
 ·exact .inl ⟨by show n≤i; lia,hd (by lia)⟩
theorem ints_items:∀ {ns:List Int} {its:List Value},Vals (ns.map V.int) its→∃ xs:List (Int×Tok),its=xs.map fun p=>Value.int p.1 p.2
 | [],its,h=>by cases h; exact ⟨[],rfl⟩
 | n :: ns,its,h=>by
  cases h with
  | cons a b =>
   obtain ⟨t,rfl⟩:=a
   obtain ⟨xs,rfl⟩:=ints_items b
   exact ⟨(n,t) :: xs,rfl⟩
end
section
variable {X:Cx} {pins:List (Addr×Obj)} {σ:List (Option V)} {H H':Hp} {s:Shared} {h':Heap}
theorem Inv.turnedL {t':Nat} {wr:List Addr} (I:Inv X pins σ H s) (k:∀ b o,b ∉ wr→s.heap.get? b=some o→h'.get? b=some o) (hf:∀ b∈wr,FpOk X pins H b):Inv X pins σ H { s with heap:=h',toks:=t' }:=by
 have nit:∀ b u,H b=some u→b ∉ wr:=fun b u e z=>by rw [(hf b z).1] at e; cases e
 refine I.step (g':=s.gens) (d':=s.drawn) (ch:=wr) (fun b hb=>⟨(hf b hb).2.2.2.1,(hf b hb).2.1,(hf b hb).2.2.2.2.1,(hf b hb).2.2.2.2.2⟩) (fun b o _ _ hc e _=>k b o hc e) (fun b o _ _ hc e _=>⟨o.slots,k b o hc e⟩) (fun _ _ _ _ n=>n)
  (fun b o hc e=>⟨o,k b o hc e⟩) (fun _ _ e=>e) (fun _ _ _ e=>e) (fun b ps e=>⟨#[],by rw [e]; simp⟩) (fun m hm=>?_) (fun b u e=>?_) I.bare
 ·obtain ⟨o,es,ep,ho,r⟩:=hm
  exact ⟨o,es,ep,k _ o (fun z=>(hf _ z).2.1 rfl) ho,r⟩
 ·refine (I.hok b u e).stay (fun c v hc q=>k c v ?_ q) (fun _ q=>q) fun _ _ q=>q
  rcases hc with z | z
  ·rw [z]; exact nit b u e
  ·exact nit c _ z
end
section
variable {X:Cx} {elts:List Expr} {kk:Nat} {pt:Pos}
end
section
variable {X:Cx} {o i:Expr} {pos:Pos} {td ty:TE}
def tDGetC (P:Program) (w:World) (K:PySem.W.Frag) (td ty:TE):TE:=fun σ H Q=>td σ H fun x H1=>ty σ H1 fun y H2=>∃ a kvs k v,x=.ref a∧DkK P w K a kvs∧y=kV k∧valV kvs k=some v∧Q v H2
theorem pe_dgetC (ho:PE X o td) (hi:PE X i ty) (hs:NoSl i):PE X (.Subscript o i pos) (tDGetC X.prog X.w X.K td ty):=by
 intro pins s σ H Q I h
 refine subD_of PySem.F.slot_dict_getitem.lookup hs (thn (ho pins s σ H _ I h) fun u s1 ⟨x,H1,I1,rx,q1⟩=>thn (hi pins s1 σ H1 _ I1 q1) fun iv s2 ⟨y,H2,I2,ry,a,kvs,k,v,ex,hd,ey,hv,q2⟩=>?_)
 subst ex ey
 obtain rfl:u=Value.ref a:=rx
 obtain ⟨z,hl,vs,rel,hd⟩:=hd
 have dd:=hd _ I2.kIn
 obtain ⟨w',hw,rw'⟩:=RelO.some_of (v:=v) (o:=valueAt vs k) (by rw [← hv]; exact rel.val k)
 exact ⟨dd.typeIs,wpAny_getItem_of (kV_is ry) dd.mapOf hw ⟨v,H2,I2.tok _,rw',q2⟩⟩
structure FnV (P:Program) (w:World) (K:PySem.W.Frag) (mg:Str→Option Value) (base:Heap) (k:Nat) (f:Addr) (ps:List Str) (sp:Sp):Prop where
 ex:∃ fd,FnOk P w K mg base (CX1 P w) k f fd ps sp∧PySem.W.keepIn K (.ref f)=true∧Binds K fd ps []
def tDo (P:Program) (w:World) (K:PySem.W.Frag) (mg:Str→Option Value) (base:Heap) (k:Nat) (E:XK) (tf:TE) (t:TA):TE:=fun σ H Q=>tf σ H fun v H1=>∃ f ps sp,v=.ref f∧FnV P w K mg base k f ps sp∧t σ H1 fun vs H2=>sp vs H2 Q E
theorem pe_do {E:XK} {k:Nat} {fn e:Expr} {es:List Expr} {tf:TE} {t:TA} (hf:PE X fn tf) (hr:Room k X.A) (hx:Passes (CX1 X.prog X.w) X E) (ha:PA X (e :: es) t)
  (hc:eval (.Call fn (e :: es) [] pos) X.env=(do callWith pos (← eval fn X.env) [] (backTo pos (starEach (e :: es) X.env)) (backToKw pos (keywordEach [] X.env))))
  (he:starEach (e :: es) X.env=(false,eval e X.env) :: starEach es X.env:=by rfl) (hpl:(backTo pos (starEach es X.env)).any (·.1)=false:=by rfl) :
  PE X (.Call fn (e :: es) [] pos) (tDo X.prog X.w X.K X.mg X.base k E tf t):=by
 intro pins s σ H Q I h
 refine Call_ (thn (hf pins s σ H _ I h) fun u s1 ⟨x,H1,I1,rx,f,ps,sp,ex,F,q1⟩=>?_) hc
 subst ex
 obtain rfl:u=Value.ref f:=rx
 obtain ⟨fd,ok,hk,hb⟩:=F.ex
 refine PySem.W.callWith_K (h₀:=X.base) I.ok.mod.kin hk (thn (ha pos pins s1 σ H1 _ I1 q1) fun us s2 ⟨vs,H2,I2,r,q⟩=>⟨I2.kIn,?_⟩) he hpl
 exact run_fn ok hr hb .nil hx I2 r (by rw [List.append_nil]; exact q)
end
section
variable {X:Cx} {k:Nat} {f C:Addr} {fd:FuncData} {ps:List Str} {sp:Sp} {dvs:List V} {ds:List Value} {m:Str} {p pos apos epos cpos:Pos} {e o:Expr} {es:List Expr} {ta:TE} {t:TA}
theorem px_meth {pl:Sem Bool} (he:∀ W,PE (X.wish W) o ta) (c:Cls X.K C) (hm:Meth X.K C m f) (F:FnOk X.prog X.w X.K X.mg X.base (CX1 X.prog X.w) k f fd ps sp) (hr:Room k X.A) (hb:Binds X.K fd ps []) (ha:∀ W,PA (X.wish W) (e :: es) t)
  (ht:eval (.Call (.Attribute o m apos) (e :: es) [] pos) X.env=(do
   let ov ← eval o X.env
   standAt apos.atName
   let (f,first) ← holding [ov] (getMethod ov m pl)
   callWith pos f first (backTo pos (starEach (e :: es) X.env)) (backToKw pos (keywordEach [] X.env))):=by rfl)
  (hs:starEach (e :: es) X.env=(false,eval e X.env) :: starEach es X.env:=by rfl) (hpl:(backTo pos (starEach es X.env)).any (·.1)=false:=by rfl) :
  PX X (.Call (.Attribute o m apos) (e :: es) [] pos) (fun E=>tMeth C m sp [] E ta t):=by
 intro pins s σ H Q E W I h hx
 refine PySem.W.methodCall_KW (pl:=pl) (thn (he W pins s σ H _ (I.wish W) h) fun u s1 ⟨x,H1,I1,rx,a,dx,fs,ex,ea,l,q⟩=>?_) ht
 subst ex
 obtain rfl:u=Value.ref a:=rx
 have I1':Inv X pins σ H1 s1:=I1.unwish
 refine getmeth_ok I1' ea c hm l ?_
 refine PySem.W.callWith_K (first:=[.ref a]) (h₀:=X.base) I.ok.mod.kin hm.kp (thn (ha W pos pins s1 σ H1 _ I1 q) fun us s2 ⟨vs,H2,I2,r,q⟩=>⟨I2.kIn,?_⟩) hs hpl
 exact run_fnW (us:=.ref a :: us) (vs:=.ref a :: vs) F hr hb .nil I2.unwish (.cons rfl r) q fun ev s' z=>hx s2 H2 ev s' I2.unwish z
variable {te:XK→TE} {cx n:Str} {np hpos tpos wpos:Pos} {i j:Nat} {b₀:Stmt} {suite:List Stmt} {ts:TS} {Cc:Addr} {call:Expr}
end
def mxF:Int→List Int→Int
 | a,[]=>a
 | a,b :: r=>mxF (if b > a then b else a) r
def mxD (d:Int):List Int→Int
 | []=>d
 | a :: r=>mxF a r
theorem mxF_snoc:∀ (r:List Int) (a b:Int),mxF a (r++[b])=if b > mxF a r then b else mxF a r
 | [],_,_=>rfl
 | _ :: r,_,b=>mxF_snoc r _ b
theorem numAt_list {ns:List Int} {ys:List (Int×Tok)} (h:ys.map (·.1)=ns) (i:Nat):numAt ys.toArray i=(ns[i]?).getD 0:=by
 subst h
 simp [numAt]
theorem best_mx {ns:List Int} {a:Int} {r:List Int} {ys:List (Int×Tok)} (h:ys.map (·.1)=ns) (e:ns=a :: r):∀ k,k < ns.length→numAt ys.toArray (argBest (fun i j=>decide (numAt ys.toArray i > numAt ys.toArray j)) k)=mxF a (r.take k)∧argBest (fun i j=>decide (numAt ys.toArray i > numAt ys.toArray j)) k≤k
 | 0,_=>by
  rw [argBest,numAt_list h,e,List.take_zero]
  exact ⟨rfl,Nat.le_refl _⟩
 | k + 1,hk=>by
  obtain ⟨ih,le⟩:=best_mx h e k (by lia)
  have hk':k < r.length:=by
   rw [e,List.length_cons] at hk
   lia
  have x1:numAt ys.toArray (k + 1)=r[k]:=by
   rw [numAt_list h,e,List.getElem?_cons_succ,List.getElem?_eq_getElem hk']
   rfl
  rw [List.take_add_one,List.getElem?_eq_getElem hk',Option.toList_some,mxF_snoc,argBest]
  by_cases c:r[k] > mxF a (r.take k)
  ·rw [if_pos c,if_pos (by rw [decide_eq_true_eq,x1,ih]; exact c)]
   exact ⟨x1,Nat.le_refl _⟩
  ·rw [if_neg c,if_neg (by rw [decide_eq_true_eq,x1,ih]; exact c)]
   exact ⟨ih,by lia⟩
section
variable {prog:Program} {w:World} {A:Around} {R:Result→Shared→Prop} {I S:Addr} {fp wr:List Addr} {n:Nat} {P:Nat→Value→Prop} {St:Nat→Heap→Prop} {kw:List (Str×Value)} {bt:Nat→Nat→Bool}
abbrev pairL (b:Value) (c:Nat):Obj:={ cls:=.type "list",dict:=none,data:=.seq #[b,b] c,slots:=#[] }
theorem mx_loop (W:Walks prog w A.in1 I fp wr n P St) (cm:CmpOf prog w A.in1 .Gt P bt) (nf:S ∉ fp):∀ (r i:Nat) (s:Shared) (b:Value) (c:Nat),i + 1 + r=n→St (i + 1) s.heap→P (argBest bt i) b→s.heap.get? S=some (pairL b c) →
  (∀ v h' tk,P (argBest bt (n - 1)) v→(∀ x o,x ∉ wr→x≠S→s.heap.get? x=some o→h'.get? x=some o)→R (.ok (.ret v)) { s with heap:=h',toks:=tk })→codeAny (model prog w) A (.builtin "max.loop" ⟨[.ref I,.none,.ref S],kw⟩) R s:=by
 have nw:S ∉ wr:=fun z=>nf (W.sub _ z)
 have nm:(toString "max"++toString ".loop":String)="max.loop":=by decide
 intro r
 induction r with
 | zero =>
  intro i s b c e st pb gS q
  refine codeAny_builtin PySem.F.entry_max_loop (by
   rw [PySem.Around.under_plainId PySem.F.plain_max_loop]
   show wpAny _ A.in1 (seqItems? (Value.ref S) >>= _) _ _ s
   refine wpAny_bind (wpAny_seqItems gS rfl ?_)
   show wpAny _ A.in1 (tryCatch (pyNext (Value.ref I)) _ >>= _) _ _ s
   refine wpAny_bind (wpAny_tryCatch (W.done s _ _ (show St n s.heap by rw [← e]; exact st) fun h1 tk1 k1=>?_))
   show wpAny _ A.in1 (updateSeq S (fun _=>#[]) >>= _) _ _ _
   refine wpAny_bind (wpAny_updateSeq (k1 S _ nw gS) rfl (wpAny_bind (wpAny_letGo (wpAny_pure ?_))))
   exact q b _ tk1 (by rw [show n - 1=i by lia]; exact pb) fun x o x1 x2 y=>(Heap.get?_update_other _ _ (Ne.symm x2)).trans (k1 x o x1 y))
 | succ r ih =>
  intro i s b c e st pb gS q
  refine codeAny_builtin PySem.F.entry_max_loop (by
   rw [PySem.Around.under_plainId PySem.F.plain_max_loop]
   show wpAny _ A.in1 (seqItems? (Value.ref S) >>= _) _ _ s
   refine wpAny_bind (wpAny_seqItems gS rfl ?_)
   show wpAny _ A.in1 (tryCatch (pyNext (Value.ref I)) _ >>= _) _ _ s
   refine wpAny_bind (wpAny_tryCatch (W.item (i + 1) s _ _ (by lia) st fun v h1 tk1 pv st1 k1=>?_))
   have gS1:=k1 S _ nw gS
   show wpAny _ A.in1 (tryCatch (holding [v,v] (richCompare .Gt v b >>= _)) _ >>= _) _ _ _
   refine wpAny_bind (wpAny_tryCatch (wpAny_holding (wpAny_bind (cm (i + 1) (argBest bt i) v b _ _ _ pv pb (wpAny_bind (wpAny_holding (wpAny_truthy_bool (wpAny_bind (wpAny_letGo (wpAny_pure ?_))))))))))
   cases hb:bt (i + 1) (argBest bt i) with
   | true =>
    simp only [if_true]
    refine wpAny_bind (wpAny_updateSeq gS1 rfl (wpAny_bind (wpAny_letGo ?_)))
    rw [nm]
    refine wpAny_pure ⟨plainId_quiet PySem.F.plain_max_loop _,ih (i + 1) _ v _ (by lia) (W.frame _ _ _ st1 fun x xf o y=>(Heap.get?_update_other _ _ (fun z:S=x=>nf (by rw [z]; exact xf))).trans y) (by simp only [argBest,hb,if_true]; exact pv) (Heap.get?_update_self _ gS1 rfl) fun v2 h2 tk2 p2 k2=>q v2 h2 tk2 p2 fun x o x1 x2 y=>k2 x o x1 x2 ((Heap.get?_update_other _ _ (Ne.symm x2)).trans (k1 x o x1 y))⟩
   | false =>
    simp only [Bool.false_eq_true,if_false]
    refine wpAny_bind (wpAny_letGo ?_)
    rw [nm]
    refine wpAny_pure ⟨plainId_quiet PySem.F.plain_max_loop _,ih (i + 1) _ b c (by lia) st1 (by simp only [argBest,hb,Bool.false_eq_true,if_false]; exact pb) gS1 fun v2 h2 tk2 p2 k2=>q v2 h2 tk2 p2 fun x o x1 x2 y=>k2 x o x1 x2 (k1 x o x1 y)⟩)
theorem mx_start (W:Walks prog w A.in1 I fp wr n P St) (cm:CmpOf prog w A.in1 .Gt P bt) (nf:S ∉ fp) {d:Value} {s:Shared} {c:Nat} (st:St 0 s.heap) (gS:s.heap.get? S=some { cls:=.type "list",dict:=none,data:=.seq #[] c,slots:=#[] })
  (q:∀ v h' tk,(0 < n→P (argBest bt (n - 1)) v)→(n=0→v=d)→(∀ x o,x ∉ wr→x≠S→s.heap.get? x=some o→h'.get? x=some o)→R (.ok (.ret v)) { s with heap:=h',toks:=tk }):codeAny (model prog w) A (.builtin "max.loop" ⟨[.ref I,.none,.ref S],[("default",d)]⟩) R s:=by
 have nw:S ∉ wr:=fun z=>nf (W.sub _ z)
 have nm:(toString "max"++toString ".loop":String)="max.loop":=by decide
 refine codeAny_builtin PySem.F.entry_max_loop (by
  rw [PySem.Around.under_plainId PySem.F.plain_max_loop]
  show wpAny _ A.in1 (seqItems? (Value.ref S) >>= _) _ _ s
  refine wpAny_bind (wpAny_seqItems gS rfl ?_)
  show wpAny _ A.in1 (tryCatch (pyNext (Value.ref I)) _ >>= _) _ _ s
  by_cases n0:n=0
  ·subst n0
   refine wpAny_bind (wpAny_tryCatch (W.done s _ _ st fun h1 tk1 k1=>?_))
   show wpAny _ A.in1 (rule _ >>= _) _ _ _
   refine wpAny_bind (wpAny_rule (wpAny_pure ?_))
   exact q d h1 tk1 (fun z=>absurd z (Nat.lt_irrefl _)) (fun _=>rfl) fun x o x1 _ y=>k1 x o x1 y
  ·refine wpAny_bind (wpAny_tryCatch (W.item 0 s _ _ (by lia) st fun v h1 tk1 pv st1 k1=>?_))
   have gS1:=k1 S _ nw gS
   show wpAny _ A.in1 (updateSeq S (fun _=>#[v,v]) >>= _) _ _ _
   refine wpAny_bind (wpAny_updateSeq gS1 rfl ?_)
   rw [nm]
   refine wpAny_pure ⟨plainId_quiet PySem.F.plain_max_loop _,mx_loop W cm nf (n - 1) 0 _ v _ (by lia) (W.frame _ _ _ st1 fun x xf o y=>(Heap.get?_update_other _ _ (fun z:S=x=>nf (by rw [z]; exact xf))).trans y) pv (Heap.get?_update_self _ gS1 rfl) fun v2 h2 tk2 p2 k2=>?_⟩
   exact q v2 h2 tk2 (fun _=>p2) (fun z=>absurd z n0) fun x o x1 x2 y=>k2 x o x1 x2 ((Heap.get?_update_other _ _ (Ne.symm x2)).trans (k1 x o x1 y)))
end
section
variable {X:Cx}
theorem mx_args (a d:Value):argsOk "max" ⟨[a],[("default",d)]⟩:=by unfold argsOk; kernel_rfl
theorem items_toks {ns:List Int} {ys:List (Int×Tok)} (v:Vals (ns.map V.int) (ys.map fun p=>Value.int p.1 p.2)):ys.map (·.1)=ns:=by
 induction ns generalizing ys with
 | nil =>
  cases ys with
  | nil=>rfl
  | cons y ys=>cases v
 | cons n ns ih =>
  cases ys with
  | nil=>cases v
  | cons y ys =>
   cases v with
   | cons a b =>
    obtain ⟨t,e⟩:=a
    cases e
    rw [List.map_cons,ih b]
def tMaxD (K:PySem.W.Frag) (t tk:TA):TE:=fun σ H Q=>t σ H fun vs H1=>tk σ H1 fun zs H2=>∃ (l:Addr) (ns:List Int) (d:Int),vs=[.ref l]∧zs=[.int d]∧SqL K H2 l (ns.map V.int)∧Q (.int (mxD d ns)) H2
theorem call_mxD (hc:X.calm=true) {pins:List (Addr×Obj)} {σ:St} {H:Hp} {s:Shared} {Q:VK} {l:Addr} {ns:List Int} {d:Int} {u:Value} (I:Inv X pins σ H s) (hl:SqL X.K H l (ns.map V.int)) (hu:RelV (.int d) u) (q:Q (.int (mxD d ns)) H) :
  wpAny (model X.prog X.w) X.A (call (.builtin "max") [.ref l] [("default",u)]) (EP X pins σ Q) X.xe s:=by
 obtain ⟨its,v,P1,z1⟩:=I.list hl
 obtain ⟨ys,rfl⟩:=ints_items v
 have hys:=items_toks v
 have hl':s.heap.IsList l (intItems ys.toArray):=by
  have:=P1.isList
  rw [show (ys.map fun p=>Value.int p.1 p.2).toArray=intItems ys.toArray by unfold intItems; simp] at this
  exact this
 have nm:(toString "max"++toString ".loop":String)="max.loop":=by decide
 refine kmk_tree PySem.F.kind_max PySem.F.plain_max PySem.F.entry_max (mx_args _ _) ?_
 show wpAny _ X.A.in1 (Builtin.Builtins.bindParams "max" ["key","default"] 0 ⟨[],[("default",u)]⟩ >>= _) _ _ s
 refine wpAny_bind (wpAny_of_eq (show Builtin.Builtins.bindParams "max" ["key","default"] 0 ⟨[],[("default",u)]⟩=pure [none,some u] from rfl) ?_)
 refine wpAny_bind (wpAny_pure (wpAny_bind (iter_intList hl' fun s2 e2 st2 fp2 ne2=>?_)))
 subst e2
 refine wpAny_bind (wpAny_newObj_type ?_)
 rw [nm]
 refine wpAny_pure ⟨plainId_quiet PySem.F.plain_max_loop _,mx_start (d:=u) (Walks.list (A:=X.A.in1) (I.ok.hd hc) _ l ne2 (intItems ys.toArray)) (CmpOf.ints_gt (numAt ys.toArray) (fun _ _=>intItems_at)) (fun z=>Nat.lt_irrefl _ (fp2 _ z)) ⟨st2.1.at fun o y=>Heap.get?_push_of_some _ y,st2.2.at fun o y=>Heap.get?_push_of_some _ y⟩ (Heap.get?_push_size _ rfl) fun v2 h2 tk2 p2 p0 k2=>?_⟩
 have kk:∀ x o,s.heap.get? x=some o→h2.get? x=some o:=fun x o y=>by
  have lt:=Heap.lt_size y
  refine k2 x o (by simpa using Nat.ne_of_lt lt) (fun z=>?_) (Heap.get?_push_of_some _ (Heap.get?_push_of_some _ y))
  rw [z,Heap.size_push] at lt
  exact Nat.lt_asymm lt (Nat.lt_succ_self _)
 have sz:(intItems ys.toArray).size=ns.length:=by rw [← hys]; simp [intItems]
 rw [sz] at p2 p0
 obtain ⟨t,ev⟩:∃ t,v2=.int (mxD d ns) t:=by
  cases hn:ns with
  | nil =>
   rw [p0 (by rw [hn]; rfl)]
   exact hu
  | cons a r =>
   have lt:ns.length - 1 < ns.length:=by rw [hn,List.length_cons]; lia
   obtain ⟨t,e⟩:=intItems_at (p2 (by lia))
   refine ⟨t,?_⟩
   rw [e,(best_mx hys hn _ lt).1,hn,List.length_cons,Nat.add_sub_cancel,List.take_of_length_le (Nat.le_refl _)]
   rfl
 subst ev
 exact ⟨.int _,H,I.kept (t':=tk2) kk,⟨t,rfl⟩,q⟩
theorem pe_maxD {e v:Expr} {t tk:TA} {p pos kp:Pos} (hc:X.calm=true) (hg:Gl X "max") (hm:X.mg "max"=none) (ha:PA X [e] t) (hkw:PK X [⟨some "default",v,kp⟩] tk) (he:backTo pos (starEach [e] X.env)=(false,eval e X.env) :: backTo pos (starEach [] X.env):=by rfl) (hpl:(backTo pos (starEach [e] X.env)).any (·.1)=false:=by rfl) :
  PE X (.Call (.Name "max" p) [e] [⟨some "default",v,kp⟩] pos) (tMaxD X.K t tk):=by
 intro pins s σ H Q I h
 refine wpAny_Call_Name_kw (ld_blt I hg hm (u:=.builtin "max") (by decide +kernel) ?_)
 refine PyProof.Rows.callWith_kw (thn (ha pos pins s σ H _ I h) fun us s1 ⟨vs,H1,I1,r1,q1⟩=>?_) he hpl
 refine thn (hkw pos pins s1 σ H1 _ I1 q1) fun ws s2 ⟨zs,H2,I2,r2,q2⟩=>?_
 obtain ⟨l,ns,d,rfl,rfl,hl,q⟩:=q2
 obtain ⟨u,rfl,ru⟩:=vals1 r1
 obtain ⟨u2,rfl,ru2⟩:=vals1 r2
 obtain rfl:u=Value.ref l:=ru
 exact call_mxD hc I2 hl ru2 q
end
section
variable {X:Cx} {pins:List (Addr×Obj)} {σ:St} {H:Hp} {s:Shared}
variable {elt iter tg:Expr} {ifs:List Expr} {scope:Scope} {pos:Pos} {own capn:List Str} {capI:List Nat} {wi:TI} {g:TG} {tt:TT} {te:TE}
end
section
variable {X:Cx} {pins:List (Addr×Obj)} {σ:St} {H:Hp} {s:Shared} {a:Addr} {u:HO} {o:Obj}
end
section
variable {prog:Program} {w:World} {A:Around} {E:Value→Shared→Prop} {sh:Shared} {ic dc:Addr} {i ep:Nat} {od:Obj} {es:Array DictEntry} {Q:Option Value→Shared→Prop}
end
section
variable {X:Cx} {tg:Expr}
end
section
variable {X:Cx} {elts:List Expr} {kk:Nat} {pt:Pos}
end
theorem bools_items:∀ {bs:List Bool} {its:List Value},Vals (bs.map V.bl) its→its=bs.map Value.bool
 | [],its,h=>by cases h; rfl
 | b :: bs,its,h=>by
  cases h with
  | cons a r =>
   rw [bools_items r]
   cases a
   rfl
section
variable {X:Cx} {o e:Expr} {to:TE} {te:XK→TE} {apos cpos:Pos}
end
section
variable {X:Cx}
end
section
variable {X:Cx} {pins:List (Addr×Obj)} {σ:St} {H:Hp} {s:Shared} {a:Addr} {u:HO} {o:Obj}
end
section
variable {prog:Program} {w:World} {A:Around} {E:Value→Shared→Prop} {sh:Shared} {ic dc:Addr} {i ep:Nat} {od:Obj} {es:Array DictEntry}
end
section
variable {X:Cx}
end
end L2
namespace Srt
open PySem PySem.W PyProof.Rows
section
variable {n:Nat} {rk:Nat→Int} {S:Shared}
def ans (n:Nat) (rk:Nat→Int) (i j:Nat) (C:Bool→Shared→Prop) (s:Shared):Prop:=i < n∧j < n∧C (decide (rk i < rk j)) s
abbrev Wp (n:Nat) (rk:Nat→Int) (s:Shared) {α:Type} (t:KasT α) (Q:α→Prop):Prop:=t.kasWp (ans n rk) (fun a s'=>s'=s∧Q a) s
theorem wp_ret {α:Type} {a:α} {Q:α→Prop} (h:Q a):Wp n rk S (.ret a) Q:=⟨rfl,h⟩
theorem wp_ask {α:Type} {i j:Nat} {k:Bool→KasT α} {Q:α→Prop} (hi:i < n) (hj:j < n) (h1:rk i < rk j→Wp n rk S (k true) Q) (h2:rk j≤rk i→Wp n rk S (k false) Q):Wp n rk S (.ask i j k) Q:=by
 refine ⟨hi,hj,?_⟩
 by_cases h:rk i < rk j
 ·rw [decide_eq_true h]
  exact h1 h
 ·rw [decide_eq_false h]
  exact h2 (Int.not_lt.mp h)
theorem wp_go {α:Type} {s:Shared} {Q R:α→Shared→Prop} (h:∀ a s,Q a s→R a s):∀ (t:KasT α) (s:Shared),t.kasWp (ans n rk) Q s→t.kasWp (ans n rk) R s
 | .ret a,s,q=>h a s q
 | .ask _ _ k,s,q=>⟨q.1,q.2.1,wp_go (s:=s) h (k _) s q.2.2⟩
theorem wp_bind {α β:Type} {t:KasT α} {f:α→KasT β} {Q:β→Prop} (h:Wp n rk S t fun a=>Wp n rk S (f a) Q):Wp n rk S (t.bind f) Q:=by
 unfold Wp
 rw [KasT.kasWp_bind]
 refine wp_go (s:=S) (fun a s q=>?_) t S h
 obtain ⟨rfl,q⟩:=q
 exact q
theorem wp_mono {α:Type} {t:KasT α} {Q R:α→Prop} (q:Wp n rk S t Q) (h:∀ a,Q a→R a):Wp n rk S t R:=wp_go (s:=S) (fun a _ z=>⟨z.1,h a z.2⟩) t S q
def Ord (n:Nat) (p:Array Nat):Prop:=p.Perm (List.range n).toArray
theorem Ord.size {p:Array Nat} (h:Ord n p):p.size=n:=by
 rw [Array.Perm.size_eq h]
 simp
theorem Ord.lt {p:Array Nat} (h:Ord n p) {i:Nat} (hi:i < n):p.getD i 0 < n:=by
 have hz:i < p.size:=by rw [h.size]; exact hi
 have e:p.getD i 0=p[i]:=by simp [Array.getD,hz]
 have m:p[i]∈(List.range n).toArray.toList:=(Array.perm_iff_toList_perm.mp h).mem_iff.mp (by simp)
 rw [e]
 simpa using m
abbrev ky (rk:Nat→Int) (p:Array Nat) (i:Nat):Int:=rk (p.getD i 0)
theorem ky_of {p q:Array Nat} {i j:Nat} (h:p[i]?=q[j]?):ky rk p i=ky rk q j:=by
 unfold ky
 rw [Array.getD_eq_getD_getElem?,Array.getD_eq_getD_getElem?,h]
theorem ky_rev {p:Array Nat} {i j:Nat} (hj:j≤p.size) (k:Nat):ky rk (kas_rev p i j) k=if i≤k∧k < j then ky rk p (i + j - 1 - k) else ky rk p k:=by
 have e:=getElem?_mirror_all (i:=i) hj k
 unfold kas_rev
 by_cases h:i≤k∧k < j
 ·rw [if_pos h] at e ⊢
  exact ky_of e
 ·rw [if_neg h] at e ⊢
  exact ky_of e
theorem ky_bub {p:Array Nat} {c d:Nat} (hc:c < p.size) (hd:d≤c) (k:Nat):ky rk (bubble p c d) k=if k=c - d then ky rk p c else if c - d < k∧k≤c then ky rk p (k - 1) else ky rk p k:=by
 have e:=getElem?_bubble hc d hd k
 by_cases h1:k=c - d
 ·rw [if_pos h1] at e ⊢
  exact ky_of e
 ·rw [if_neg h1] at e ⊢
  by_cases h2:c - d < k∧k≤c
  ·rw [if_pos h2] at e ⊢
   exact ky_of e
  ·rw [if_neg h2] at e ⊢
   exact ky_of e
theorem Ord.rev {p:Array Nat} (h:Ord n p) (i j:Nat):Ord n (kas_rev p i j):=(mirror_perm _ _ _ _).trans h
theorem Ord.bub {p:Array Nat} (h:Ord n p) (i j:Nat):Ord n (bubble p i j):=(bubble_perm _ _ _).trans h
def Up (rk:Nat→Int) (p:Array Nat) (m:Nat):Prop:=∀ i j,i≤j→j < m→ky rk p i≤ky rk p j
def Dn (rk:Nat→Int) (p:Array Nat) (m:Nat):Prop:=∀ i j,i≤j→j < m→ky rk p j≤ky rk p i
theorem Up.snoc {p:Array Nat} {m:Nat} (h:Up rk p m) (h1:1≤m) (l:ky rk p (m - 1)≤ky rk p m):Up rk p (m + 1):=fun i j hij hj=>by
 by_cases e:j < m
 ·exact h i j hij e
 ·have:j=m:=by lia
  subst this
  by_cases e2:i=j
  ·rw [e2]; exact Int.le_refl _
  ·exact Int.le_trans (h i (j - 1) (by lia) (by lia)) l
theorem Dn.snoc {p:Array Nat} {m:Nat} (h:Dn rk p m) (h1:1≤m) (l:ky rk p m≤ky rk p (m - 1)):Dn rk p (m + 1):=fun i j hij hj=>by
 by_cases e:j < m
 ·exact h i j hij e
 ·have:j=m:=by lia
  subst this
  by_cases e2:i=j
  ·rw [e2]; exact Int.le_refl _
  ·exact Int.le_trans l (h i (j - 1) (by lia) (by lia))
theorem asc {p:Array Nat} (O:Ord n p) {Q:Nat→Prop}:∀ (f a:Nat),1≤a→a + f≤n→Up rk p a→(∀ m,a≤m→m≤a + f→Up rk p m→(m=a + f∨ky rk p m < ky rk p (m - 1))→Q m)→Wp n rk S (kas_asc p f a) Q
 | 0,a,_,_,u,h=>wp_ret (h a (Nat.le_refl _) (Nat.le_refl _) u (.inl rfl))
 | f + 1,a,h1,hn,u,h=>by
  refine wp_ask (O.lt (by lia)) (O.lt (by lia)) (fun c=>?_) (fun c=>?_)
  ·exact wp_ret (h a (Nat.le_refl _) (by lia) u (.inr c))
  ·exact asc O f (a + 1) (by lia) (by lia) (u.snoc h1 c) fun m h2 h3 um hm=>h m (by lia) (by lia) um (hm.imp (fun z=>by lia) id)
def Tl (rk:Nat→Int) (p:Array Nat) (m q:Nat):Prop:=∀ i,m - (q + 1)≤i→i < m→ky rk p i=ky rk p (m - 1)
theorem Tl.rev {p:Array Nat} {m q:Nat} (h:Tl rk p m q) (hm:m≤p.size) (k:Nat):ky rk (kas_rev p (m - (q + 1)) m) k=ky rk p k:=by
 rw [ky_rev hm]
 split
 ·rename_i c
  rw [h _ (by lia) (by lia),h k c.1 c.2]
 ·rfl
theorem Dn.like {p q:Array Nat} {m:Nat} (h:Dn rk p m) (e:∀ k,ky rk q k=ky rk p k):Dn rk q m:=fun i j hij hj=>by rw [e,e]; exact h i j hij hj
theorem desc {Q:Array Nat×Nat×Nat→Prop}:∀ (f:Nat) (p:Array Nat) (a q:Nat),Ord n p→1≤a→a + f≤n→Dn rk p a→Tl rk p a q→(∀ p' m q',Ord n p'→1≤m→m≤a + f→Dn rk p' m→Tl rk p' m q'→Q (p',m,q'))→Wp n rk S (kas_desc f p a q) Q
 | 0,p,a,q,O,h1,hn,d,t,h=>wp_ret (h p a q O h1 (Nat.le_refl _) d t)
 | f + 1,p,a,q,O,h1,hn,d,t,h=>by
  have next:∀ p' q',Ord n p'→Dn rk p' (a + 1)→Tl rk p' (a + 1) q'→Wp n rk S (kas_desc f p' (a + 1) q') Q:=fun p' q' O' d' t'=>desc f p' (a + 1) q' O' (by lia) (by lia) d' t' fun p2 m q2 O2 g1 g2 d2 t2=>h p2 m q2 O2 g1 (by lia) d2 t2
  have one:∀ p',Tl rk p' (a + 1) 0:=fun p' i g1 g2=>by
   have:i=a + 1 - 1:=by lia
   rw [this]
  refine wp_ask (O.lt (by lia)) (O.lt (by lia)) (fun c=>?_) (fun c=>?_)
  ·show Wp n rk S (if q > 0 then kas_desc f (kas_rev p (a - (q + 1)) a) (a + 1) 0 else kas_desc f p (a + 1) 0) Q
   have d2:=d.snoc h1 (Int.le_of_lt c)
   split
   ·exact next _ _ (O.rev _ _) (d2.like (t.rev (by rw [O.size]; lia))) (one _)
   ·exact next _ _ O d2 (one _)
  ·refine wp_ask (O.lt (by lia)) (O.lt (by lia)) (fun c2=>?_) (fun c2=>?_)
   ·exact wp_ret (h p a q O h1 (by lia) d t)
   ·have e:ky rk p a=ky rk p (a - 1):=Int.le_antisymm c2 c
    refine next _ _ O (d.snoc h1 c2) fun i g1 g2=>?_
    show _=ky rk p a
    by_cases z:i=a
    ·rw [z]
    ·rw [e]
     exact t i (by lia) (by lia)
abbrev Run (n:Nat) (rk:Nat→Int) (r:Nat×Array Nat):Prop:=1≤r.1∧r.1≤n∧Ord n r.2∧Up rk r.2 r.1
theorem tail3 {p:Array Nat} {m:Nat} (O:Ord n p) (h1:1≤m) (hm:m≤n) (d:Dn rk p m):Wp n rk S (kas_tail3 m n p) (Run n rk):=by
 have u:Up rk (kas_rev p 0 m) m:=fun i j hij hj=>by
  rw [ky_rev (by rw [O.size]; exact hm),ky_rev (by rw [O.size]; exact hm),if_pos ⟨Nat.zero_le _,by lia⟩,if_pos ⟨Nat.zero_le _,hj⟩]
  exact d _ _ (by lia) (by lia)
 exact wp_bind (asc (O.rev _ _) _ _ h1 (by lia) u fun k g1 g2 uk _=>wp_ret ⟨by lia,by lia,O.rev _ _,uk⟩)
theorem descPart {p:Array Nat} {m:Nat} (O:Ord n p) (hm:m + 1≤n) (d:Dn rk p (m + 1)):Wp n rk S (kas_descPart m n p) (Run n rk):=by
 refine wp_bind (desc _ _ _ _ O (by lia) (by lia) d (fun i g1 g2=>?_) fun p' k q O' g1 g2 d' t'=>?_)
 ·have:i=m + 1 - 1:=by lia
  rw [this]
 ·show Wp n rk S (if q > 0 then kas_tail3 k n (kas_rev p' (k - (q + 1)) k) else kas_tail3 k n p') _
  split
  ·exact tail3 (O'.rev _ _) g1 (by lia) (d'.like (t'.rev (by rw [O'.size]; lia)))
  ·exact tail3 O' g1 (by lia) d'
theorem count {p:Array Nat} (O:Ord n p) (h1:1≤n):Wp n rk S (kas_count n p) (Run n rk):=by
 refine wp_bind (asc O _ _ (Nat.le_refl 1) (by lia) (fun i j hij hj=>?_) fun m g1 g2 u hm=>?_)
 ·have:i=j:=by lia
  rw [this]
  exact Int.le_refl _
 ·have g3:m≤n:=by lia
  show Wp n rk S (if (m == n)=true then .ret (m,p) else if m > 1 then .ask (p.getD 0 0) (p.getD (m - 1) 0) fun c=>if c=true then .ret (m,p) else kas_descPart m n (kas_rev p 0 m) else kas_descPart m n p) _
  split
  ·exact wp_ret ⟨g1,g3,O,u⟩
  ·rename_i c
   have g4:m < n:=by
    have:m≠n:=fun z=>c (by rw [z]; exact beq_self_eq_true _)
    lia
   have l:ky rk p m < ky rk p (m - 1):=hm.resolve_left (by lia)
   split
   ·rename_i c2
    refine wp_ask (O.lt (by lia)) (O.lt (by lia)) (fun _=>wp_ret ⟨g1,g3,O,u⟩) (fun c3=>?_)
    have al:∀ i,i < m→ky rk p i=ky rk p (m - 1):=fun i hi=>Int.le_antisymm (u i (m - 1) (by lia) (by lia)) (Int.le_trans c3 (u 0 i (by lia) hi))
    have t:Tl rk p m (m - 1):=fun i _ hi=>al i hi
    refine descPart (O.rev _ _) g4 ?_
    have e:∀ k,ky rk (kas_rev p 0 m) k=ky rk p k:=fun k=>by
     have:=t.rev (by rw [O.size]; exact g3) k
     rw [show m - (m - 1 + 1)=0 by lia] at this
     exact this
    refine Dn.like (Dn.snoc (fun i j _ hj=>?_) g1 (Int.le_of_lt l)) e
    rw [al i (by lia),al j hj]
    exact Int.le_refl _
   ·have e1:m=1:=by lia
    subst e1
    refine descPart O g4 (Dn.snoc (fun i j _ hj=>?_) g1 (Int.le_of_lt l))
    have:i=j:=by lia
    rw [this]
    exact Int.le_refl _
theorem place {p:Array Nat} (O:Ord n p) {k:Nat} (hk:k < n) (u:Up rk p k) {Q:Nat→Prop} (h:∀ l,l≤k→(∀ i,i < l→ky rk p i≤ky rk p k)→(∀ i,l≤i→i < k→ky rk p k≤ky rk p i)→Q l) :
  ∀ (f l r:Nat),l≤r→r≤k→r - l≤f→(∀ i,i < l→ky rk p i≤ky rk p k)→(∀ i,r≤i→i < k→ky rk p k≤ky rk p i)→Wp n rk S (kas_place p k f l r) Q
 | 0,l,r,a,b,c,d,e=>wp_ret (h l (by lia) d fun i g1 g2=>e i (by lia) g2)
 | f + 1,l,r,a,b,c,d,e=>by
  show Wp n rk S (if l ≥ r then .ret l else .ask (p.getD k 0) (p.getD ((l + r) / 2) 0) fun c=>if c=true then kas_place p k f l ((l + r) / 2) else kas_place p k f ((l + r) / 2 + 1) r) Q
  split
  ·exact wp_ret (h l (by lia) d fun i g1 g2=>e i (by lia) g2)
  ·refine wp_ask (O.lt hk) (O.lt (by lia)) (fun c1=>?_) (fun c1=>?_)
   ·exact place O hk u h f l ((l + r) / 2) (by lia) (by lia) (by lia) d fun i g1 g2=>Int.le_trans (Int.le_of_lt c1) (u _ _ g1 g2)
   ·exact place O hk u h f ((l + r) / 2 + 1) r (by lia) b (by lia) (fun i g1=>Int.le_trans (u _ _ (by lia) (by lia)) c1) e
theorem bin:∀ (f:Nat) (p:Array Nat) (k:Nat),Ord n p→k + f=n→Up rk p k→Wp n rk S (kas_bin f p k) fun p'=>Ord n p'∧Up rk p' n
 | 0,p,k,O,e,u=>wp_ret ⟨O,by rw [← e]; exact u⟩
 | f + 1,p,k,O,e,u=>by
  refine wp_bind (place O (by lia) u (fun l hl a b=>?_) _ _ _ (Nat.zero_le _) (Nat.le_refl _) (by lia) (fun i hi=>by lia) (fun i g1 g2=>by lia))
  refine bin f _ (k + 1) (O.bub _ _) (by lia) fun i j hij hj=>?_
  have hz:k < p.size:=by rw [O.size]; lia
  rw [ky_bub hz (by lia),ky_bub hz (by lia),show k - (k - l)=l by lia]
  by_cases i1:i=l
  ·rw [if_pos i1]
   by_cases j1:j=l
   ·rw [if_pos j1]; exact Int.le_refl _
   ·rw [if_neg j1,if_pos ⟨by lia,by lia⟩]
    exact b _ (by lia) (by lia)
  ·rw [if_neg i1]
   by_cases i2:l < i∧i≤k
   ·rw [if_pos i2,if_neg (by lia),if_pos ⟨by lia,by lia⟩]
    exact u _ _ (by lia) (by lia)
   ·rw [if_neg i2]
    by_cases j1:j=l
    ·rw [if_pos j1]
     exact a i (by lia)
    ·rw [if_neg j1]
     by_cases j2:l < j∧j≤k
     ·rw [if_pos j2]
      exact u _ _ (by lia) (by lia)
     ·rw [if_neg j2]
      exact u _ _ (by lia) (by lia)
theorem sort (h1:1≤n):Wp n rk S (kas_sort n) fun p=>Ord n p∧Up rk p n:=by
 refine wp_bind (wp_mono (count (Array.Perm.refl _) h1) fun r hr=>?_)
 obtain ⟨m,p⟩:=r
 obtain ⟨a,b,O,u⟩:=hr
 show Wp n rk S (if m < n then kas_bin (n - max m 1) p (max m 1) else .ret p) _
 split
 ·have e:max m 1=m:=Nat.max_eq_left a
  rw [e]
  exact bin _ _ _ O (by lia) u
 ·have e:m=n:=by
   have:m≤n:=b
   lia
  subst e
  exact wp_ret ⟨O,u⟩
end
theorem conv {n:Nat} {rk:Nat→Int} {S:Shared} {cmp:Nat→Nat→(Bool→Shared→Prop)→Shared→Prop} {α:Type} {Q:α→Shared→Prop} (hc:∀ i j C,i < n→j < n→C (decide (rk i < rk j)) S→cmp i j C S):∀ t:KasT α,t.kasWp (ans n rk) Q S→t.kasWp cmp Q S
 | .ret _,q=>q
 | .ask i j k,q=>hc i j _ q.1 q.2.1 (conv hc (k _) q.2.2)
end Srt
namespace L2
open PySem PySem.Spec PyProof.Rows PySem.W
def rkP (c:Int×Int):Int:=c.1 * 1099511627776 + c.2
def inP (c:Int×Int):Prop:=-274877906944≤c.2∧c.2≤274877906944
section
variable {prog:Program} {w:World} {A:Around} {E:Value→Shared→Prop} {s:Shared}
theorem ask_pair {c d:Int×Int} {t1 t2 u1 u2:Tok} {Q:Bool→Shared→Prop} (hc:inP c) (hd:inP d) (h:Q (decide (rkP c < rkP d)) s) :
  KatLex prog w A true false Q [(.int c.1 t1,.int d.1 u1),(.int c.2 t2,.int d.2 u2)] 0 s:=by
 obtain ⟨a,b⟩:=c
 obtain ⟨x,y⟩:=d
 obtain ⟨b1,b2⟩:-274877906944≤b∧b≤274877906944:=hc
 obtain ⟨y1,y2⟩:-274877906944≤y∧y≤274877906944:=hd
 have h':Q (decide (a * 1099511627776 + b < x * 1099511627776 + y)) s:=h
 refine kat_cons (wpAny_eqBool_int (kat_go (fun e=>kat_yes (kat_cons (wpAny_eqBool_int (kat_go (fun e2=>kat_yes (kat_nil ?_)) (fun e2=>kat_no ?_))))) (fun e=>kat_no ?_)))
 ·have e1:a=x:=eq_of_beq e
  have e3:b=y:=eq_of_beq e2
  rw [e1,e3,decide_eq_false (Int.lt_irrefl _)] at h'
  exact h'
 ·have e1:a=x:=eq_of_beq e
  show wpAny _ _ (oneLt' false (.int b t2) (.int y u2)) _ _ _
  refine kat_one _ _ (wpAny_lt_int ?_)
  show Q (decide (b < y)) s
  rw [show decide (b < y)=decide (a * 1099511627776 + b < x * 1099511627776 + y) from decide_eq_decide.mpr (by rw [e1]; lia)]
  exact h'
 ·have e1:a≠x:=fun z=>by rw [z,beq_self_eq_true] at e; cases e
  show wpAny _ _ (oneLt' true (.int a t1) (.int x u1)) _ _ _
  refine oneLt_int ?_
  rw [show decide (a < x)=decide (a * 1099511627776 + b < x * 1099511627776 + y) from decide_eq_decide.mpr (by lia)]
  exact h'
def KeptB (a:Addr) (h g:Heap):Prop:=∀ b o,b≠a→h.get? b=some o→g.get? b=some o
theorem sort_at {a:Addr} {vs:List Value} {m:Nat} {P:PySem.Fin→Shared→Prop} {rk:Nat→Int} (there:s.heap.get? a=some (seqObj "list" vs.toArray m)) (few:vs.length < 64)
  (ty:∀ g:Heap,KeptB a s.heap g→∃ fs,KatTups g vs fs∧fs.length=vs.length∧∀ v∈fs,∃ i t,v=.int i t)
  (ask:∀ g:Heap,KeptB a s.heap g→∀ i j C,i < vs.length→j < vs.length→C (decide (rk i < rk j)) { s with heap:=g }→kas_ask prog w A (tuples' true) vs i j C { s with heap:=g })
  (fin:∀ p:Array Nat,Srt.Ord vs.length p→Srt.Up rk p vs.length→P (.done (.ret .none)) { s with heap:=sortedHeap s.heap a vs (p.toList.map fun i=>vs.getD i Value.none).toArray }) :
  wpAny (model prog w) A (Builtin.«list.sort» ⟨[.ref a],[]⟩) P E s:=by
 have al:a < s.heap.objs.size:=Heap.lt_size there
 have zl:vs.length≤sizeLine:=by rw [sizeLine_eq]; lia
 rw [list_sort_plain]
 refine wpAny_bind (listItems_at there rfl (wpAny_bind (listUpdate_at there rfl ?_ (by rw [List.size_toArray]; lia) (Nat.zero_le _))))
 obtain ⟨ep,gone⟩:∃ ep,(s.heap.update a (Obj.mapSeq fun _=>#[])).get? a=some (seqObj "list" #[] ep):=⟨_,get?_update_seq there _⟩
 refine wpAny_bind (seqEpoch_at gone rfl (wpAny_bind (wpAny_newTuple ?_ (by show vs.length≤_; exact zl))))
 refine wpAny_bind (wpAny_newList (wpAny_holding ?_) (Nat.zero_le _))
 have kept:KeptB a s.heap (((s.heap.update a (Obj.mapSeq fun _=>#[])).push (seqObj "tuple" vs.toArray 0)).push (seqObj "list" #[] 0)):=fun b o ne e=>Heap.get?_push_of_some _ (Heap.get?_push_of_some _ (by rw [Heap.get?_update_ne _ _ _ _ ne]; exact e))
 have now:(((s.heap.update a (Obj.mapSeq fun _=>#[])).push (seqObj "tuple" vs.toArray 0)).push (seqObj "list" #[] 0)).get? a=some (seqObj "list" #[] ep):=Heap.get?_push_of_some _ (Heap.get?_push_of_some _ gone)
 show wpAny (model prog w) A _ P E { s with heap:=_ }
 dsimp only
 by_cases two:vs.toArray.size < 2
 ·rw [if_pos two,if_pos two]
  refine wpAny_bind (wpAny_pure ?_)
  rw [StateT.run_pure]
  refine wpAny_bind (wpAny_pure ?_)
  dsimp only
  have e0:((vs.toArray.zip vs.toArray).map (·.2))=((List.range vs.length).toArray.toList.map fun i=>vs.getD i Value.none).toArray:=by
   apply Array.ext'
   simp only [Array.toList_map,Array.toList_zip,List.toList_toArray]
   rw [List.map_snd_zip (Nat.le_refl _)]
   apply List.ext_getElem?
   intro i
   rw [List.getElem?_map]
   by_cases hi:i < vs.length
   ·rw [List.getElem?_range hi,List.getElem?_eq_getElem hi]
    simp [hi]
   ·rw [List.getElem?_eq_none (by lia),List.getElem?_eq_none (by rw [List.length_range]; lia)]
    rfl
  refine wpAny_bind (seqEpoch_at now rfl (wpAny_bind (listUpdate_at now rfl ?_ (Nat.zero_le _) (by
   show ((vs.toArray.zip vs.toArray).map (·.2)).size≤_
   rw [Array.size_map,Array.size_zip,List.size_toArray,Nat.min_self]
   lia))))
  simp only [bne_self_eq_false,Bool.false_eq_true,if_false]
  have f0:=fin (List.range vs.length).toArray (Array.Perm.refl _) fun i j ij jl=>by
   rw [List.size_toArray] at two
   rw [show i=j by lia]
   exact Int.le_refl _
  rw [← e0] at f0
  exact wpAny_pure f0
 ·rw [if_neg two,if_neg two]
  rw [List.size_toArray] at two
  obtain ⟨fs,tups,fl,nums⟩:=ty _ kept
  refine wpAny_bind (kat_kind (T:=.type "int") tups (by lia) (fun v hv=>by obtain ⟨i,t,rfl⟩:=nums v hv; exact Looks.of_pure rfl) rfl ?_)
  have run:=Srt.conv (Q:=fun p s'=>s'={ s with heap:=(((s.heap.update a (Obj.mapSeq fun _=>#[])).push (seqObj "tuple" vs.toArray 0)).push (seqObj "list" #[] 0)) }∧Srt.Ord vs.length p∧Srt.Up rk p vs.length) (ask _ kept) (kas_sort vs.length) (Srt.sort (by lia))
  refine wpAny_bind (wpAny_mono (kat_run (Q:=fun st' s'=>s'={ s with heap:=(((s.heap.update a (Obj.mapSeq fun _=>#[])).push (seqObj "tuple" vs.toArray 0)).push (seqObj "list" #[] 0)) }∧∃ p:Array Nat,Srt.Ord vs.length p∧Srt.Up rk p vs.length∧arrOf st'=p.map (kas_item (vs.toArray.zip vs.toArray))∧failedOf st'=none)
   rfl (by lia) few (fun p st' s' _ b1 b2 g=>⟨g.1,p,g.2.1,g.2.2,b1,b2⟩) run) ?_ fun _ _ z=>z)
  rintro ⟨⟨⟩,st'⟩ s' ⟨rfl,p,o,u,b1,b2⟩
  dsimp only
  have e1:=kat_snds (ks:=vs) (vs:=vs) rfl b1
  rw [e1]
  refine wpAny_bind (seqEpoch_at now rfl (wpAny_bind (listUpdate_at now rfl ?_ (Nat.zero_le _) (by
   show (List.toArray (p.toList.map fun i=>vs.getD i Value.none)).size≤_
   rw [List.size_toArray,List.length_map,Array.length_toList,o.size]
   lia))))
  rw [b2]
  simp only [bne_self_eq_false,Bool.false_eq_true,if_false]
  exact wpAny_pure (fin p o u)
theorem sorted_at {l:Addr} {vs:List Value} {Q:Value→Shared→Prop} {rk:Nat→Int} (hl:s.heap.IsList l vs.toArray) (few:vs.length < 64)
  (ty:∀ g:Heap,(∀ b o,s.heap.get? b=some o→g.get? b=some o)→∃ fs,KatTups g vs fs∧fs.length=vs.length∧∀ v∈fs,∃ i t,v=.int i t)
  (ask:∀ (B:Around) (g:Heap),(∀ b o,s.heap.get? b=some o→g.get? b=some o)→∀ i j C,i < vs.length→j < vs.length→C (decide (rk i < rk j)) { s with heap:=g }→kas_ask prog w B (tuples' true) vs i j C { s with heap:=g })
  (fin:∀ p:Array Nat,Srt.Ord vs.length p→Srt.Up rk p vs.length→Q (.ref (s.heap.objs.size + 1)) { s with heap:=sortedAll s.heap vs (p.toList.map fun i=>vs.getD i Value.none).toArray }) :
  wpAny (model prog w) A (call (.builtin "sorted") [.ref l]) Q E s:=by
 have zl:vs.length≤sizeLine:=by rw [sizeLine_eq]; lia
 refine Calls.call_function_entry kind_sorted plain_sorted entry_sorted (args_sorted1 _) ?_
 unfold Builtin.«sorted»
 refine wpAny_bind (m:=checkCount "sorted" 1 1 _) (wpAny_pure (wpAny_bind (collect_list hl (wpAny_bind (wpAny_newList ?_ zl)) zl)))
 have z1:((s.heap.push (seqObj "list" #[] 0)).update s.heap.objs.size (Obj.mapSeq (·++vs.toArray))).objs.size=s.heap.objs.size + 1:=by rw [Heap.size_update,size_push']
 have new:(((s.heap.push (seqObj "list" #[] 0)).update s.heap.objs.size (Obj.mapSeq (·++vs.toArray))).push (seqObj "list" vs.toArray 0)).get? (s.heap.objs.size + 1)=some (seqObj "list" vs.toArray 0):=by
  rw [← z1]
  exact Heap.get?_push_size _ rfl
 have old:∀ b o,s.heap.get? b=some o→(((s.heap.push (seqObj "list" #[] 0)).update s.heap.objs.size (Obj.mapSeq (·++vs.toArray))).push (seqObj "list" vs.toArray 0)).get? b=some o:=fun b o e=>Heap.get?_push_of_some _ (by
  rw [Heap.get?_update_ne _ _ _ _ (Nat.ne_of_lt (Heap.lt_size e))]
  exact Heap.get?_push_of_some _ e)
 have ne:∀ b o,s.heap.get? b=some o→b≠s.heap.objs.size + 1:=fun b o e=>Nat.ne_of_lt (Nat.lt_succ_of_lt (Heap.lt_size e))
 show wpAny _ _ _ _ _ { s with heap:=_ }
 rw [z1]
 refine wpAny_bind (wpAny_holding (wpAny_call_entry slot_list_sort ⟨_,new,rfl⟩ entry_list_sort (sort_at (rk:=rk) new few (fun g k=>ty g fun b o e=>k b o (ne b o e) (old b o e)) (fun g k=>ask _ g fun b o e=>k b o (ne b o e) (old b o e)) fun p o u=>⟨_,rfl,wpAny_pure ⟨_,rfl,fin p o u⟩⟩) (args_list_sort _)))
end
theorem paired_get {R:Addr→Int×Int→Prop}:∀ {ts:List Addr} {cs:List (Int×Int)},Paired R ts cs→ts.length=cs.length∧∀ i,i < ts.length→R (ts.getD i 0) (cs.getD i (0,0))
 | _,_,.nil=>⟨rfl,fun i h=>absurd h (Nat.not_lt_zero _)⟩
 | _,_,.cons (l₁:=ts) (l₂:=cs) r t=>by
  obtain ⟨a,b⟩:=paired_get t
  refine ⟨by rw [List.length_cons,List.length_cons,a],fun i h=>?_⟩
  cases i with
  | zero=>exact r
  | succ i=>exact b i (Nat.lt_of_succ_lt_succ h)
theorem paired_map {α β γ:Type} {R:β→γ→Prop} {f:α→β} {g:α→γ}:∀ l:List α,(∀ i∈l,R (f i) (g i))→Paired R (l.map f) (l.map g)
 | [],_=>.nil
 | i :: l,h=>.cons (h i List.mem_cons_self) (paired_map l fun j hj=>h j (List.mem_cons_of_mem _ hj))
theorem map_getD {α:Type} (d:α) (l:List α):(List.range l.length).map (fun i=>l.getD i d)=l:=by
 apply List.ext_getElem?
 intro i
 rw [List.getElem?_map]
 by_cases hi:i < l.length
 ·rw [List.getElem?_range hi,List.getElem?_eq_getElem hi]
  simp [hi]
 ·rw [List.getElem?_eq_none (by rw [List.length_range]; lia),List.getElem?_eq_none (by lia)]
  rfl
theorem vals_refs:∀ {ts:List Addr} {its:List Value},Vals (ts.map V.ref) its→its=ts.map Value.ref
 | [],_,.nil=>rfl
 | t :: ts,_,.cons r q=>by
  cases r
  rw [vals_refs q]
  rfl
theorem refs_vals:∀ ts:List Addr,Vals (ts.map V.ref) (ts.map Value.ref)
 | []=>.nil
 | _ :: ts=>.cons rfl (refs_vals ts)
def PrIs (h:Heap) (t:Addr) (c:Int×Int):Prop:=∃ (t1 t2:Tok) (o:Obj) (n:Nat),h.get? t=some o∧o.cls=.type "tuple"∧o.data=.seq (List.toArray [Value.int c.1 t1,Value.int c.2 t2]) n
theorem PrIs.tups {h:Heap}:∀ {ts:List Addr} {cs:List (Int×Int)},Paired (PrIs h) ts cs→∃ fs,PySem.W.KatTups h (ts.map Value.ref) fs∧fs.length=(ts.map Value.ref).length∧∀ v∈fs,∃ i t,v=Value.int i t
 | _,_,.nil=>⟨[],PySem.W.KatTups.nil,rfl,fun v hv=>by cases hv⟩
 | _,_,.cons (l₁:=ts) r t=>by
  obtain ⟨fs,a,b,c⟩:=PrIs.tups t
  obtain ⟨t1,t2,o,n,h1,h2,h3⟩:=r
  refine ⟨Value.int _ t1 :: fs,PySem.W.KatTups.cons h1 h2 h3 rfl a,by rw [List.map_cons,List.length_cons,List.length_cons,b],fun v hv=>?_⟩
  rcases List.mem_cons.mp hv with rfl | hv
  ·exact ⟨_,_,rfl⟩
  ·exact c v hv
inductive rSortP (K:PySem.W.Frag) (xs:List V) (H:Hp) (Q:VK):Prop
 | mk (l:Addr) (ts:List Addr) (cs:List (Int×Int)) (h0:xs=[.ref l]) (h1:SqL K H l (ts.map V.ref)) (h2:Paired (fun t c=>SqT K H t [.int c.1,.int c.2]) ts cs) (h3:ts.length < 64) (h4:∀ c∈cs,inP c)
   (h5:∀ (D:Addr) (us:List Addr) (ds:List (Int×Int)),H D=none→ds.Perm cs→ds.Pairwise (fun a b=>rkP a≤rkP b)→us.length=ts.length→(∀ R:Addr→Int×Int→Prop,Paired R ts cs→Paired R us ds)→Q (.ref D) (upd H D (.lst (us.map V.ref)))):rSortP K xs H Q
section
variable {X:Cx}
theorem call_sortP:CallR X (.builtin "sorted") (rSortP X.K):=by
 intro pins s σ H xs us Q I r h
 obtain ⟨l,ts,cs,rfl,hl,tp,few,bnd,q⟩:=h
 obtain ⟨u,rfl,ru⟩:=vals1 r
 cases ru
 obtain ⟨its,v,P1,z1⟩:=I.list hl
 rw [vals_refs v] at P1
 rw [List.length_map] at z1
 obtain ⟨tl,tg⟩:=paired_get tp
 have pi:∀ t c,SqT X.K H t [.int c.1,.int c.2]→PrIs s.heap t c:=fun t c ht=>by
  obtain ⟨its,v,⟨o,h1,h2,n,h3⟩,_⟩:=I.tuple ht
  obtain ⟨a,b,rfl,⟨t1,rfl⟩,⟨t2,rfl⟩⟩:=v.two
  exact ⟨t1,t2,o,n,h1,h2,h3⟩
 have pp:Paired (PrIs s.heap) ts cs:=Paired.mapP tp pi
 have keepP:∀ g:Heap,(∀ b o,s.heap.get? b=some o→g.get? b=some o)→∀ t c,PrIs s.heap t c→PrIs g t c:=fun g k t c ⟨t1,t2,o,n,h1,h2,h3⟩=>⟨t1,t2,o,n,k _ _ h1,h2,h3⟩
 have gd:∀ i,i < ts.length→(ts.map Value.ref).getD i Value.none=Value.ref (ts.getD i 0):=fun i hi=>by simp [hi]
 have hcs:∀ i,i < ts.length→inP (cs.getD i (0,0)):=fun i hi=>by
  have hi2:i < cs.length:=by lia
  have e:cs.getD i (0,0)=cs[i]:=by simp [hi2]
  rw [e]
  exact bnd _ (List.getElem_mem hi2)
 refine sorted_at (rk:=fun i=>rkP (cs.getD i (0,0))) P1.isList (by rw [List.length_map]; exact few) (fun g k=>PrIs.tups (Paired.mapP pp (keepP g k))) (fun B g k i j C hi hj hC=>?_) (fun p o up=>?_)
 ·rw [List.length_map] at hi hj
  have a1:=(paired_get (Paired.mapP pp (keepP g k))).2 i hi
  have a2:=(paired_get (Paired.mapP pp (keepP g k))).2 j hj
  obtain ⟨t1,t2,o1,n1,b1,_,b3⟩:=a1
  obtain ⟨u1,u2,o2,n2,d1,_,d3⟩:=a2
  unfold PySem.W.kas_ask
  rw [gd i hi,gd j hj]
  exact PySem.W.kat_lt b1 b3 d1 d3 (ask_pair (hcs i hi) (hcs j hj) hC)
 ·rw [List.length_map] at o up
  have pl:p.toList.Perm (List.range ts.length):=by
   have:=Array.perm_iff_toList_perm.mp o
   simpa using this
  have lt:∀ i∈p.toList,i < ts.length:=fun i hi=>List.mem_range.mp (pl.mem_iff.mp hi)
  have ev:(p.toList.map fun i=>(ts.map Value.ref).getD i Value.none)=(p.toList.map fun i=>ts.getD i 0).map Value.ref:=by
   rw [List.map_map]
   exact List.map_congr_left fun i hi=>gd i (lt i hi)
  have ul:(p.toList.map fun i=>ts.getD i 0).length=ts.length:=by rw [List.length_map,Array.length_toList,o.size]
  obtain ⟨c',hc'⟩:=sortedAll_at s.heap (ts.map Value.ref) (p.toList.map fun i=>(ts.map Value.ref).getD i Value.none).toArray
  refine ⟨.ref (s.heap.objs.size + 1),upd H (s.heap.objs.size + 1) (.lst ((p.toList.map fun i=>ts.getD i 0).map V.ref)),I.laid (t':=s.toks) (fun b ob e=>sortedAll_old e) (Nat.le_succ _) (show ObjOk X.prog X.w _ _ _ (.lst _) from ⟨by rw [List.length_map,ul]; exact z1,_,c',refs_vals _,by rw [← ev]; exact hc'⟩),rfl,?_⟩
  refine q _ _ (p.toList.map fun i=>cs.getD i (0,0)) (I.hok.fresh (Nat.le_succ _)) ?_ ?_ ul fun R hR=>?_
  ·have:=pl.map fun i=>cs.getD i (0,0)
   rw [tl,map_getD] at this
   exact this
  ·rw [List.pairwise_map,List.pairwise_iff_getElem]
   intro i j hi hj hij
   have hi':i < p.size:=by simpa using hi
   have hj':j < p.size:=by simpa using hj
   have:=up i j (Nat.le_of_lt hij) (by rw [← o.size]; exact hj')
   unfold Srt.ky at this
   rw [show p.getD i 0=p.toList[i] by simp [Array.getD,hi'],show p.getD j 0=p.toList[j] by simp [Array.getD,hj']] at this
   exact this
  ·have g:=(paired_get hR).2
   exact paired_map _ fun i hi=>g i (lt i hi)
end
end L2
namespace L2
open PySem PySem.Spec PyProof.Rows
section
variable {X:Cx}
def rSlS:V→Option Int→Option Int→Hp→VK→Prop:=fun x lo hi H Q=>∃ z:Str,x=.str z∧z.length≤sizeLine∧Q (.str (Txt.slice z lo hi)) H
theorem part_of {v:Value} {o:Option Int} (h:IsPart v o):∃ l:Option (Int×Tok),v=partValue l∧l.map (·.1)=o:=by
 cases h with
 | none=>exact ⟨none,rfl,rfl⟩
 | int i t=>exact ⟨some (i,t),rfl,rfl⟩
theorem sl_str:SlR X rSlS:=by
 intro pins s σ H x v vl vu lo hi sl Q I rx hs pl pu h
 obtain ⟨z,rfl,hz,q⟩:=h
 obtain ⟨t,rfl⟩:=rx
 obtain ⟨l,rfl,rfl⟩:=part_of pl
 obtain ⟨u,rfl,rfl⟩:=part_of pu
 obtain ⟨o,ho,hc,hd⟩:=hs
 refine ⟨"str",_,F.slot_str_getitem.lookup,typeIs_str _ _ _,wpAny_getItem_str_slice (l:=l) (u:=u) (st:=none) ⟨o,ho,hc,hd⟩ rfl ?_⟩
 exact post_val_or_str ⟨Nat.le_trans (Txt.slice_le z _ _) hz,fun t' k=>⟨.str (Txt.slice z (l.map (·.1)) (u.map (·.1))),H,I.tok k,⟨t',rfl⟩,q⟩⟩
def Its (z:Str):It:=⟨fun i _=>i < z.cps.size,fun i H x H'=>H'=H∧∃ c,z.cps[i]?=some c∧x=.str ⟨#[c]⟩,fun i _=>z.cps.size≤i⟩
def iStr (tl:TE):TI:=fun σ H R=>tl σ H fun x H1=>∃ z:Str,x=.str z∧R (Its z) H1
theorem turn_str {P:Program} {w:World} {K:PySem.W.Frag} {tg:Expr} {z:Str} {t:Tok} {it:Addr} {ty:String} (hn:["enumerate","zip","dict_itemiterator","dict_reverseitemiterator","odict_iterator","itertools.zip_longest","itertools.pairwise"].contains ty=false)
  (W:∀ A:Around,A.handled=none→Walks P w A it [it] [it] z.cps.size (SignAt z) (fun i h=>h.IsStrIter it ty z t i)) (S:∀ (A:Around) (i:Nat) (s:Shared) (Q:Value→Shared→Prop) (E:Value→Shared→Prop),s.heap.IsStrIter it ty z t i→Q (.ref it) s→wpAny (model P w) A (pyIter (.ref it)) Q E s):Turn P w K tg (Its z) [it] it (fun i h=>i≤z.cps.size∧h.IsStrIter it ty z t i) where
 mem:=by simp
 obj:=fun i h st b hb=>by
  have e:b=it:=by simpa using hb
  subst e
  obtain ⟨o,e,c,d⟩:=st.2
  exact ⟨o,e,fun v z=>by rw [d] at z; cases z⟩
 keep:=fun i h h' st k=>by
  obtain ⟨o,e,r⟩:=st.2
  exact ⟨st.1,o,k it (by simp) o e,r⟩
 item:=by
  intro X hP hw hK hc i pins s σ H E I hf st hg
  subst hP hw hK
  obtain ⟨f0,f1,f2,f3,f4,f5⟩:=hf it (by simp)
  refine (W X.A (I.ok.hd hc)).item i s _ _ hg st.2 fun v h' tk pv st' k=>?_
  obtain ⟨c,u,hcp,rfl⟩:=pv
  have I1:Inv X pins σ H { s with heap:=h',toks:=tk }:=I.turned (t':=tk) (fun b o hb e=>k b o (by simpa using hb) e) f0 f1 f3 f4 f5
  obtain ⟨o,e,c',d⟩:=id st'
  exact ⟨_,rfl,go_of (s:={ s with heap:=h',toks:=tk }) e c' d hn ⟨.str ⟨#[c]⟩,H,I1,⟨u,rfl⟩,⟨rfl,c,hcp,rfl⟩,⟨hg,st'⟩,fun b hb=>(hf b hb).1⟩⟩
 done:=by
  intro X hP hw hK hc i pins s σ H E I hf st hg
  subst hP hw hK
  obtain ⟨f0,f1,f2,f3,f4,f5⟩:=hf it (by simp)
  have e:i=z.cps.size:=Nat.le_antisymm st.1 hg
  subst e
  exact (W X.A (I.ok.hd hc)).done s _ _ st.2 fun h' tk k=>⟨rfl,I.turned (t':=tk) (fun b o hb e=>k b o (by simpa using hb) e) f0 f1 f3 f4 f5⟩
 self:=fun A i s Q E st h=>S A i s Q E st.2 h
theorem pi_str {tg l:Expr} {tl:TE} (hl:PE X l tl):PI X tg l (iStr tl):=by
 intro pins s σ H R I h
 refine thn (hl pins s σ H _ I h) fun v s1 ⟨x,H1,I1,r1,q1⟩=>?_
 obtain ⟨z,rfl,q⟩:=q1
 obtain ⟨t,rfl⟩:=r1
 have fin:∀ b∈[s1.heap.objs.size],FpOk X pins H1 b:=fun b hb=>by
  have e:b=s1.heap.objs.size:=by simpa using hb
  subst e
  exact I1.fpOk (Nat.le_refl _) (I1.hok.fresh (Nat.le_refl _))
 cases ha:z.cps.all (· < 128)
 ·exact wpAny_pyIter_wide ha ⟨s1.heap.objs.size,[s1.heap.objs.size],_,Its z,H1,rfl,I1.kept (t':=s1.toks) fun b o e=>Heap.get?_push_of_some _ e,turn_str (ty:="str_iterator") (by decide) (fun A hA=>Walks.strWide hA _ z t) (fun _ _ _ _ _ st h=>wpAny_pyIter_striter_wide st h),⟨Nat.zero_le _,_,Heap.get?_push_size _ rfl,rfl,rfl⟩,fin,q⟩
 ·exact wpAny_pyIter_ascii ha ⟨s1.heap.objs.size,[s1.heap.objs.size],_,Its z,H1,rfl,I1.kept (t':=s1.toks) fun b o e=>Heap.get?_push_of_some _ e,turn_str (ty:="str_ascii_iterator") (by decide) (fun A hA=>Walks.strAscii hA _ z t) (fun _ _ _ _ _ st h=>wpAny_pyIter_striter_ascii st h),⟨Nat.zero_le _,_,Heap.get?_push_size _ rfl,rfl,rfl⟩,fin,q⟩
theorem st_ask {z:Str} {i:Nat} {H:Hp} {A:Prop} {B:V→Hp→Prop} (hi:i≤z.cps.size) (hs:∀ c,z.cps[i]?=some c→i < z.cps.size→B (.str ⟨#[c]⟩) H) (hd:i=z.cps.size→A) :
  ((Its z).stop i H∧A)∨((Its z).go i H∧∀ x H',(Its z).yld i H x H'→B x H'):=by
 by_cases hlt:i < z.cps.size
 ·refine .inr ⟨hlt,fun x H' y=>?_⟩
  obtain ⟨rfl,c,hc,rfl⟩:=y
  exact hs c hc hlt
 ·exact .inl ⟨by show z.cps.size≤i; lia,hd (by lia)⟩
def rAllB (K:PySem.W.Frag):List V→Hp→VK→Prop:=fun xs H Q=>∃ (l:Addr) (bs:List Bool),xs=[.ref l]∧SqL K H l (bs.map V.bl)∧Q (.bl (bs.all id)) H
theorem call_allB (hc:X.calm=true):CallR X (.builtin "all") (rAllB X.K):=by
 intro pins s σ H xs us Q I r h
 obtain ⟨l,bs,rfl,hl,q⟩:=h
 obtain ⟨u,rfl,ru⟩:=vals1 r
 obtain rfl:u=Value.ref l:=ru
 obtain ⟨its,v,P1,z1⟩:=I.list hl
 have e:=bools_items v
 subst e
 have hll:l < s.heap.objs.size:=by
  obtain ⟨o,z,_⟩:=P1.isList
  exact Heap.lt_size z
 refine call_all_walk (wpAny_pyIter_list P1.isList ?_)
 refine ⟨s.heap.objs.size,_,_,_,_,_,(fun i=>bs.getD i true),rfl,Walks.list (A:=X.A.in1) (show X.A.in1.handled=none from I.ok.hd hc) s.heap.objs.size l (Nat.ne_of_lt hll) (bs.map Value.bool).toArray,⟨⟨_,Heap.get?_push_size _ rfl,rfl,rfl⟩,?_⟩,fun i v s' Q' E' hv hq=>?_,fun h' tk k=>?_⟩
 ·exact P1.isList.at fun o z=>Heap.get?_push_of_some _ z
 ·have hv':(bs.map Value.bool)[i]?=some v:=by simpa using hv
  rw [List.getElem?_map] at hv'
  cases hb:bs[i]? with
  | none=>rw [hb] at hv'; cases hv'
  | some b =>
   rw [hb] at hv'
   cases hv'
   refine wpAny_truthy_bool ?_
   have hq':Q' (bs.getD i true) s':=hq
   rw [List.getD_eq_getElem?_getD,hb] at hq'
   exact hq'
 ·have ea:((List.range (bs.map Value.bool).toArray.size).all fun i=>bs.getD i true)=bs.all id:=by
   rw [List.size_toArray,List.length_map,Bool.eq_iff_iff,List.all_eq_true,List.all_eq_true]
   constructor
   ·intro h b hb
    obtain ⟨i,hi⟩:=List.getElem?_of_mem hb
    have:=h i (List.mem_range.mpr (List.getElem?_eq_some_iff.mp hi).1)
    rw [List.getD_eq_getElem?_getD,hi] at this
    exact this
   ·intro h i hi
    have hi':=List.mem_range.mp hi
    rw [List.getD_eq_getElem?_getD,List.getElem?_eq_getElem hi']
    exact h _ (List.getElem_mem hi')
  rw [ea]
  have I1:Inv X pins σ H { s with heap:=s.heap.push { cls:=.type "list_iterator",data:=.fields #[.ref l,.int 0 0] } }:=I.kept (t':=s.toks) fun b ob e=>Heap.get?_push_of_some _ e
  refine ⟨.bl _,H,I1.turnedL (t':=tk) (wr:=[s.heap.objs.size]) k fun b hb=>?_,rfl,q⟩
  have e:=List.mem_singleton.mp hb
  subst e
  exact I.fpOk (Nat.le_refl _) (I.hok.fresh (Nat.le_refl _))
def rIntS:List V→Hp→VK→Prop:=fun xs H Q=>∃ (z:Str) (n:Int),xs=[.str z]∧PySem.intText? z=some n∧z.length≤640∧Q (.int n) H
theorem call_intS:CallR X (.type "int") rIntS:=by
 intro pins s σ H xs us Q I r h
 obtain ⟨z,n,rfl,hn,hz,q⟩:=h
 obtain ⟨u,rfl,ru⟩:=vals1 r
 obtain ⟨t,rfl⟩:=ru
 exact PySem.W.KIN.call_text hn hz ⟨.int n,H,I.tok _,⟨_,rfl⟩,q⟩
def tFsR (te:TE):TE:=fun σ H Q=>te σ H fun x H1=>∃ z:Str,x=.str z∧z.length≤1000∧(∀ c∈z.cps.toList,c < 16 ^ 8)∧∀ y:Str,Q (.str y) H1
theorem pe_fsR {c:Str} {e:Expr} {te:TE} {j:Nat} {p1 p2 pos:Pos} (he:PE X e te) (hc:c.length≤1000):PE X (.JoinedStr [.Constant (.str c) j p1,.FormattedValue e 114 none p2] pos) (tFsR te):=by
 intro pins s σ H Q I h
 refine wpAny_JoinedStr ?_
 refine (pe_str (X:=X) (x:=c) (j:=j) (pos:=p1)) pins s σ H (fun x H1=>x=.str c∧H=H1) I ⟨rfl,rfl⟩ |> fun k=>?_
 show wpAny _ _ (eval (.Constant (.str c) j p1) X.env) _ _ s
 refine thn k fun u s1 ⟨x,H1,I1,r1,e1,e2⟩=>?_
 subst e1 e2
 obtain ⟨t,rfl⟩:=r1
 have sl:(100000:Nat)≤sizeLine:=by decide
 refine ⟨c,t,rfl,?_,?_⟩
 ·rw [PySem.Str.length_append]
  have:(Str.empty).length=0:=rfl
  lia
 show wpAny _ _ (eval (.FormattedValue e 114 none p2) X.env) _ _ s1
 refine wpAny_FormattedValue_repr (thn (he pins s1 σ _ _ I1 h) fun v s2 ⟨x,H2,I2,r2,z,e,hz,hb,q⟩=>?_)
 subst e
 obtain ⟨t2,rfl⟩:=r2
 have hr:(reprText z).length≤10 * z.length + 2:=StrLaws.reprText_len z hb
 have hlen:(Str.empty++c++reprText z).length≤sizeLine:=by
  rw [PySem.Str.length_append,PySem.Str.length_append]
  have:(Str.empty).length=0:=rfl
  lia
 refine wpAny_pyReprObj_str (wpAny_formatField_str ?_ ?_ (by lia)) (by lia)
 ·exact ⟨_,_,rfl,hlen,hlen,.str _,H2,(I2.tok _).tok _,⟨_,rfl⟩,q _⟩
 ·exact ⟨_,_,rfl,hlen,hlen,.str _,H2,((I2.tok _).tok _).tok _,⟨_,rfl⟩,q _⟩
end
end L2
namespace L2
open PySem PySem.Spec PySem.Calls PyProof.Rows PySem.W
structure ExcK (K:PySem.W.Frag) (D:Addr):Prop where
 cls:(clsIn K D).isSome=true
 ga:findIn K (.ref D) "__getattribute__"=some (some (.builtin "BaseException.__getattribute__"))
 gh:findIn K (.ref D) "__getattr__"=some none
 cl:findIn K (.ref D) "__class__"=some (some (.builtin "object.__class__"))
 gt:specialIn K (.builtin "object.__class__") "__get__"=some (some (.builtin "getset_descriptor.__get__"))
 tk:takesIn K (.builtin "object.__class__")=some true
 ob:mroIn K D (.type "object")=some true
 be:mroIn K D (.type "BaseException")=some true
section
variable {prog:Program} {w:World} {A:Around} {E:Value→Shared→Prop} {s:Shared} {K:PySem.W.Frag} {x C D:Addr} {ox:Obj} {odo:Option Obj}
end
section
variable {X:Cx}
end
end L2
namespace L2
open PySem PySem.Spec PyProof.Rows
section
variable {X:Cx}
end
end L2
namespace L2
open PySem PySem.Spec PyProof.Rows PySem.Builtin PySem.Builtin.Str
section
variable {X:Cx}
def rSplit:V→List V→Hp→VK→Prop:=fun x vs H Q=>∃ z y:Str,x=.str z∧vs=[.str y]∧(y.length == 0)=false∧z.length≤sizeLine∧(Txt.split z y).length≤sizeLine∧∀ D,H D=none→Q (.ref D) (upd H D (.lst ((Txt.split z y).map V.str)))
theorem strs_vals:∀ l:List (Str×Tok),Vals ((l.map (·.1)).map V.str) (strValues l)
 | []=>.nil
 | p :: r=>.cons ⟨p.2,rfl⟩ (strs_vals r)
theorem mt_split:MtM X "str.split" rSplit:=by
 intro pins s σ H x vs v us Q I rx rv h
 obtain ⟨z,y,rfl,rfl,hy,hz,hn,q⟩:=h
 obtain ⟨t,rfl⟩:=rx
 obtain ⟨u,rfl,ru⟩:=rv.one
 obtain ⟨t',rfl⟩:=ru
 have hf:H s.heap.objs.size=none:=I.hok.fresh (Nat.le_refl _)
 have fin:∀ (l:List (Str×Tok)) (tk:Nat),l.map (·.1)=Txt.split z y→EP X pins σ Q (.ref s.heap.objs.size) { s with heap:=s.heap.push { cls:=.type "list",data:=.seq (strValues l).toArray },toks:=tk }:=fun l tk e=>by
  refine ⟨.ref s.heap.objs.size,_,I.laid (t':=tk) (fun b u e=>Heap.get?_push_of_some _ e) (Nat.le_refl _) ?_,rfl,q _ hf⟩
  have vv:=strs_vals l
  rw [e] at vv
  exact ⟨by rw [List.length_map]; exact hn,strValues l,0,vv,Heap.get?_push_size _ rfl⟩
 cases h1:(decide (z.length < y.length) || decide (strKind z < strKind y)) with
 | true =>
  have e:Txt.split z y=[z]:=if_pos h1
  exact call_meets F.slot_str_split (typeIs_str _ _ _) F.entry_str_split (F.args_str_split_2 _ _) (meets_str_split_cannot_occur z y t t' h1) (fin [(z,t)] s.toks e.symm)
 | false =>
  have e0:Txt.split z y=if (occurrences z y 0 z.length (z.length + 1)).isEmpty=true then [z] else partsBetween z (occurrences z y 0 z.length (z.length + 1)) y.length:=if_neg (by rw [h1]; decide)
  cases hf:(occurrences z y 0 z.length (z.length + 1)).isEmpty with
  | true=>exact call_meets F.slot_str_split (typeIs_str _ _ _) F.entry_str_split (F.args_str_split_2 _ _) (meets_str_split_not_found z y t t' h1 hy hf) (fin [(z,t)] s.toks (by rw [e0,hf]; rfl))
  | false =>
   rw [hf] at e0
   have e1:Txt.split z y=partsBetween z (occurrences z y 0 z.length (z.length + 1)) y.length:=e0
   refine call_meets F.slot_str_split (typeIs_str _ _ _) F.entry_str_split (F.args_str_split_2 _ _) (meets_str_split_sep z y t t' h1 hy hf hz (by rw [← e1]; exact hn)) ?_
   show wants _ _ _ { s with toks:=_,heap:=s.heap.push { cls:=.type "list",data:=.seq (strsFrom s.toks (partsBetween z (occurrences z y 0 z.length (z.length + 1)) y.length)).toArray } }
   rw [strsFrom_eq]
   exact fin (numbered s.toks _) _ ((numbered_texts _ _).trans e1.symm)
variable {o i:Expr} {td ty:TE}
end
section
variable {prog:Program} {w:World} {A:Around} {E:Value→Shared→Prop} {s:Shared}
set_option maxHeartbeats 3200000 in
end
section
variable {X:Cx}
end
end L2
namespace L2
open PySem PySem.Spec PyProof.Rows
def jl (c:Nat):List (List Nat)→List Nat
 | []=>[]
 | [a]=>a
 | a :: b :: r=>a++c :: jl c (b :: r)
theorem cl_join (c:Nat):∀ zs:List Str,(Str.join ⟨#[c]⟩ zs).cps.toList=jl c (zs.map fun z=>z.cps.toList)
 | []=>rfl
 | [a]=>rfl
 | a :: b :: r=>by
  rw [join_cons_cons]
  have ih:=cl_join c (b :: r)
  show (a.cps++#[c]++(Str.join ⟨#[c]⟩ (b :: r)).cps).toList=_
  rw [Array.toList_append,ih,Array.toList_append]
  simp [jl]
theorem split_app {c:Nat}:∀ {a b r s:List Nat},c ∉ a→c ∉ b→a++c :: r=b++c :: s→a=b∧r=s
 | [],[],r,s,_,_,h=>⟨rfl,by injection h⟩
 | [],y :: b,r,s,_,hb,h=>by
  injection h with h1 h2
  exact absurd (by rw [h1]; exact List.mem_cons_self) hb
 | x :: a,[],r,s,ha,_,h=>by
  injection h with h1 h2
  exact absurd (by rw [← h1]; exact List.mem_cons_self) ha
 | x :: a,y :: b,r,s,ha,hb,h=>by
  injection h with h1 h2
  obtain ⟨e1,e2⟩:=split_app (fun z=>ha (List.mem_cons_of_mem _ z)) (fun z=>hb (List.mem_cons_of_mem _ z)) h2
  exact ⟨by rw [h1,e1],e2⟩
theorem jl_inj {c:Nat}:∀ {as bs:List (List Nat)},as≠[]→bs≠[]→(∀ a∈as,c ∉ a)→(∀ b∈bs,c ∉ b)→jl c as=jl c bs→as=bs
 | [],_,h,_,_,_,_=>absurd rfl h
 | _ :: _,[],_,h,_,_,_=>absurd rfl h
 | [a],[b],_,_,_,_,h=>by rw [show a=b from h]
 | [a],b :: b2 :: r,_,_,ha,_,h=>by
  have h':a=b++c :: jl c (b2 :: r):=h
  exact absurd (by rw [h']; exact List.mem_append_right _ List.mem_cons_self) (ha a List.mem_cons_self)
 | a :: a2 :: r,[b],_,_,_,hb,h=>by
  have h':a++c :: jl c (a2 :: r)=b:=h
  exact absurd (by rw [← h']; exact List.mem_append_right _ List.mem_cons_self) (hb b List.mem_cons_self)
 | a :: a2 :: r,b :: b2 :: s,_,_,ha,hb,h=>by
  obtain ⟨e1,e2⟩:=split_app (ha a List.mem_cons_self) (hb b List.mem_cons_self) (show a++c :: jl c (a2 :: r)=b++c :: jl c (b2 :: s) from h)
  rw [e1,jl_inj (by simp) (by simp) (fun x hx=>ha x (List.mem_cons_of_mem _ hx)) (fun x hx=>hb x (List.mem_cons_of_mem _ hx)) e2]
theorem split_ne (x y:Str):Txt.split x y≠[]:=by
 unfold Txt.split
 split
 ·simp
 ·split
  ·simp
  ·rw [StrLaws.partsBetween_eq]
   obtain ⟨p,r,e⟩:=StrLaws.partsFrom_ne x y.length 0 (Builtin.Str.occurrences x y 0 x.length (x.length + 1))
   rw [e]
   simp
theorem split_join {c:Nat} {zs:List Str} (hne:zs≠[]) (h:∀ z∈zs,c ∉ z.cps.toList):Txt.split (Txt.join ⟨#[c]⟩ zs) ⟨#[c]⟩=zs:=by
 have ej:Txt.join ⟨#[c]⟩ zs=Str.join ⟨#[c]⟩ zs:=by
  show Builtin.Str.glued _ zs=_
  rw [StrLaws.glued_eq_join]
 generalize hx:Txt.join ⟨#[c]⟩ zs=x
 have h1:=StrLaws.join_split x ⟨#[c]⟩
 have hxl:x.cps.toList=jl c (zs.map fun z=>z.cps.toList):=by rw [← hx,ej]; exact cl_join c zs
 have hxs:x.cps.toList=jl c ((Txt.split x ⟨#[c]⟩).map fun z=>z.cps.toList):=by
  have:=cl_join c (Txt.split x ⟨#[c]⟩)
  rw [h1] at this
  exact this
 have hsne:Txt.split x ⟨#[c]⟩≠[]:=split_ne x _
 have hfree:∀ a∈(Txt.split x ⟨#[c]⟩).map (fun z=>z.cps.toList),c ∉ a:=fun a ha=>by
  obtain ⟨z,hz,rfl⟩:=List.mem_map.mp ha
  exact StrLaws.split_free x c z hz
 have e:=jl_inj (c:=c) (by simpa using hsne) (by simpa using hne) hfree (fun a ha=>by
  obtain ⟨z,hz,rfl⟩:=List.mem_map.mp ha
  exact h z hz) (hxs.symm.trans hxl)
 have inj:∀ (as bs:List Str),as.map (fun z=>z.cps.toList)=bs.map (fun z=>z.cps.toList)→as=bs:=by
  intro as
  induction as with
  | nil =>
   intro bs h
   cases bs with
   | nil=>rfl
   | cons b r=>cases h
  | cons a r ih =>
   intro bs h
   cases bs with
   | nil=>cases h
   | cons b s =>
    rw [List.map_cons,List.map_cons] at h
    injection h with h1 h2
    rw [ih s h2,Str.ext' (Array.toList_inj.mp h1)]
 exact inj _ _ e
section
variable {X:Cx}
def rJoinW (K:PySem.W.Frag):V→List V→Hp→VK→Prop:=fun x vs H Q=>∃ (z:Str) (l:Addr) (zs:List Str),x=.str z∧vs=[.ref l]∧SqL K H l (zs.map V.str)∧(zs.map (·.length)).sum + zs.length≤1048576∧z.length≤16∧Q (.str (Txt.join z zs)) H
theorem strs_are:∀ {zs:List Str} {us:List Value},Vals (zs.map V.str) us→StrsAre us zs
 | [],_,.nil=>.nil
 | z :: zs,_,.cons r t=>by
  obtain ⟨k,rfl⟩:=r
  exact .cons z k (strs_are t)
theorem mt_joinW:MtM X "str.join" (rJoinW X.K):=by
 intro pins s σ H x vs v us Q I rx rv h
 obtain ⟨z,l,zs,rfl,rfl,hl,hn,hz,q⟩:=h
 obtain ⟨t,rfl⟩:=rx
 obtain ⟨u,rfl,ru⟩:=rv.one
 obtain rfl:u=Value.ref l:=ru
 obtain ⟨its,v,P1,z1⟩:=I.list hl
 exact join_listW P1.isList (by simpa using strs_are v) hz hn fun t' k=>⟨.str (Txt.join z zs),H,I.tok k,⟨t',rfl⟩,q⟩
end
section
variable {M:Model} {A:Around} {E:Value→Shared→Prop} {s:Shared}
end
section
variable {X:Cx} {elt iter tg:Expr} {ifs:List Expr} {scope:Scope} {pos:Pos} {own capn:List Str} {capI:List Nat} {wi:TI} {g:TG} {tt:TT} {te:TE}
end
section
variable {X:Cx} {pins:List (Addr×Obj)} {σ:St} {H:Hp} {s:Shared} {h':Heap}
end
section
variable {P:Program} {w:World} {K:PySem.W.Frag} {mg:Str→Option Value} {base:Heap} {N:List Str} {qual:Str} {scope:Scope} {f:Addr} {cd:Value} {A:Around} {outer:List Env} {s₀:Shared} {H₀:Hp} {E:XK}
end
section
variable {X:Cx}
def rStarts:V→List V→Hp→VK→Prop:=fun x vs H Q=>∃ z y:Str,x=.str z∧vs=[.str y]∧Q (.bl (Txt.startswith z y)) H
theorem mt_starts:MtM X "str.startswith" rStarts:=by
 intro pins s σ H x vs v us Q I rx rv h
 obtain ⟨z,y,rfl,rfl,q⟩:=h
 obtain ⟨t,rfl⟩:=rx
 obtain ⟨u,rfl,ru⟩:=rv.one
 obtain ⟨t',rfl⟩:=ru
 exact PySem.SC.startswith ⟨.bl _,H,I,rfl,q⟩
def rFind:V→List V→Hp→VK→Prop:=fun x vs H Q=>∃ z y:Str,x=.str z∧vs=[.str y]∧Q (.int (Txt.find z y)) H
theorem mt_find:MtM X "str.find" rFind:=by
 intro pins s σ H x vs v us Q I rx rv h
 obtain ⟨z,y,rfl,rfl,q⟩:=h
 obtain ⟨t,rfl⟩:=rx
 obtain ⟨u,rfl,ru⟩:=rv.one
 obtain ⟨t',rfl⟩:=ru
 exact PySem.SC.find ⟨.int _,H,I.tok _,⟨_,rfl⟩,q⟩
variable {o e:Expr} {apos cpos:Pos} {td ty:TE}
def NoDict (K:PySem.W.Frag) (a:Addr):Prop:=∃ o,K.lookup a=some o∧o.dict=none
def tDGetN (P:Program) (w:World) (K:PySem.W.Frag) (td ty:TE):TE:=fun σ H Q=>td σ H fun x H1=>∃ a kvs,x=.ref a∧DkK P w K a kvs∧NoDict K a∧ty σ H1 fun y H2=>∃ k,y=kV k∧Q ((valV kvs k).getD .non) H2
theorem pe_dgetN (ho:PE X o td) (he:PE X e ty) (m:M1 X o "get" apos e cpos):PE X (.Call (.Attribute o "get" apos) [e] [] cpos) (tDGetN X.prog X.w X.K td ty):=by
 intro pins s σ H Q I h
 refine wpAny_Call_method m.base m.few m.line PySem.F.plainAttrs_dict PySem.F.slot_dict_get PySem.F.type_dict_get (thn (ho pins s σ H _ I h) fun u s1 ⟨x,H1,I1,rx,a,kvs,ex,hd,⟨ob,hob,hnd⟩,q1⟩=>?_)
 subst ex
 obtain rfl:u=Value.ref a:=rx
 obtain ⟨z,hl,vs,rel,hd⟩:=hd
 have dd1:=hd _ I1.kIn
 refine ⟨dd1.typeIs,(fun b hb=>by cases hb; exact ⟨ob,I1.kIn _ _ hob,hnd⟩),?_⟩
 rw [m.trees]
 refine Calls.callWith_builtin rfl (Calls.evalArgs_plain (Calls.spliced_cons (thn (he pins s1 σ H1 _ I1 q1) fun iv s2 ⟨y,H2,I2,ry,k,ey,q2⟩=>Calls.spliced_nil ?_)))
 subst ey
 have dd:=hd _ I2.kIn
 refine call_meetsIn PySem.F.slot_dict_get dd.typeIs PySem.F.entry_dict_get (PySem.F.args_dict_get_2 _ _) (meets_dict_get (mixKind X.prog X.w) a (kV_is ry) z) ⟨_,dd.mapOf,_,H2,I2.tok _,?_,q2⟩
 exact (rel.val k).getD rfl
def tFsI (te:TE):TE:=fun σ H Q=>te σ H fun x H1=>∃ n:Int,x=.int n∧n.natAbs.log2 < 900∧∀ y:Str,y.length≤1000→Q (.str y) H1
theorem fmt_int {te:TE} {pos:Pos} (he:PE X e te):PE X (.FormattedValue e (-1) none pos) (tFsI te):=by
 intro pins s σ H Q I h
 refine wpAny_FormattedValue_plain (thn (he pins s σ H _ I h) fun v s1 ⟨x,H1,I1,r1,n,ex,hn,q⟩=>?_)
 subst ex
 obtain ⟨t,rfl⟩:=r1
 refine wpAny_formatField_int (Nat.lt_trans hn (by decide)) ⟨.str (toString n),H1,(I1.tok _),⟨_,rfl⟩,q _ ?_⟩
 have e:=int_text_length_le (k:=900) (by decide) hn
 rw [PySem.ofString_length]
 lia
def tFs2 (te:TE):TE:=fun σ H Q=>te σ H fun x H1=>∃ z:Str,x=.str z∧z.length≤1000∧∀ y:Str,Q (.str y) H1
theorem pe_fs2 {c:Str} {te:TE} {j:Nat} {p1 pos:Pos} (he:PE X e te) (hc:c.length≤1000):PE X (.JoinedStr [.Constant (.str c) j p1,e] pos) (tFs2 te):=by
 intro pins s σ H Q I h
 refine wpAny_JoinedStr ?_
 refine (pe_str (X:=X) (x:=c) (j:=j) (pos:=p1)) pins s σ H (fun x H1=>x=.str c∧H=H1) I ⟨rfl,rfl⟩ |> fun k=>?_
 show wpAny _ _ (eval (.Constant (.str c) j p1) X.env) _ _ s
 refine thn k fun u s1 ⟨x,H1,I1,r1,e1,e2⟩=>?_
 subst e1 e2
 obtain ⟨t,rfl⟩:=r1
 have sl:(100000:Nat)≤sizeLine:=by decide
 have z0:(Str.empty).length=0:=rfl
 refine ⟨c,t,rfl,?_,?_⟩
 ·rw [PySem.Str.length_append]
  lia
 show wpAny _ _ (eval e X.env) _ _ s1
 refine thn (he pins s1 σ _ _ I1 h) fun v s2 ⟨x,H2,I2,r2,z,ez,hz,q⟩=>?_
 subst ez
 obtain ⟨t2,rfl⟩:=r2
 have hlen:(Str.empty++c++z).length≤sizeLine:=by
  rw [PySem.Str.length_append,PySem.Str.length_append]
  lia
 exact ⟨_,_,rfl,hlen,hlen,.str _,H2,I2.tok _,⟨_,rfl⟩,q _⟩
def tFs4 (te tf:TE):TE:=fun σ H Q=>te σ H fun x H1=>∃ z:Str,x=.str z∧z.length≤1000∧tf σ H1 fun x' H2=>∃ z':Str,x'=.str z'∧z'.length≤1000∧∀ y:Str,Q (.str y) H2
theorem pe_fs4 {c c':Str} {e':Expr} {te tf:TE} {j j':Nat} {p1 p2 pos:Pos} (he:PE X e te) (hf:PE X e' tf) (hc:c.length≤1000) (hc':c'.length≤1000):PE X (.JoinedStr [.Constant (.str c) j p1,e,.Constant (.str c') j' p2,e'] pos) (tFs4 te tf):=by
 intro pins s σ H Q I h
 refine wpAny_JoinedStr ?_
 refine (pe_str (X:=X) (x:=c) (j:=j) (pos:=p1)) pins s σ H (fun x H1=>x=.str c∧H=H1) I ⟨rfl,rfl⟩ |> fun k=>?_
 show wpAny _ _ (eval (.Constant (.str c) j p1) X.env) _ _ s
 refine thn k fun u s1 ⟨x,H1,I1,r1,e1,e2⟩=>?_
 subst e1 e2
 obtain ⟨t,rfl⟩:=r1
 have sl:(100000:Nat)≤sizeLine:=by decide
 have z0:(Str.empty).length=0:=rfl
 refine ⟨c,t,rfl,(by rw [PySem.Str.length_append]; lia),?_⟩
 show wpAny _ _ (eval e X.env) _ _ s1
 refine thn (he pins s1 σ _ _ I1 h) fun v s2 ⟨x,H2,I2,r2,z,ez,hz,q⟩=>?_
 subst ez
 obtain ⟨t2,rfl⟩:=r2
 refine ⟨z,t2,rfl,(by rw [PySem.Str.length_append,PySem.Str.length_append]; lia),?_⟩
 refine (pe_str (X:=X) (x:=c') (j:=j') (pos:=p2)) pins s2 σ H2 (fun x H1=>x=.str c'∧H2=H1) I2 ⟨rfl,rfl⟩ |> fun k=>?_
 show wpAny _ _ (eval (.Constant (.str c') j' p2) X.env) _ _ s2
 refine thn k fun u s3 ⟨x,H3,I3,r3,e1,e2⟩=>?_
 subst e1 e2
 obtain ⟨t3,rfl⟩:=r3
 refine ⟨c',t3,rfl,(by rw [PySem.Str.length_append,PySem.Str.length_append,PySem.Str.length_append]; lia),?_⟩
 show wpAny _ _ (eval e' X.env) _ _ s3
 refine thn (hf pins s3 σ _ _ I3 q) fun v s4 ⟨x,H4,I4,r4,z',ez,hz',q⟩=>?_
 subst ez
 obtain ⟨t4,rfl⟩:=r4
 have hlen:(Str.empty++c++z++c'++z').length≤sizeLine:=by
  rw [PySem.Str.length_append,PySem.Str.length_append,PySem.Str.length_append,PySem.Str.length_append]
  lia
 exact ⟨_,_,rfl,hlen,hlen,.str _,H4,I4.tok _,⟨_,rfl⟩,q _⟩
theorem skip_one {pins:List (Addr×Obj)} {σ:St} {H:Hp} {Cc e T:Addr} {cls:Value} {dct:Option Addr} {s3:Shared} {cx:Str} {np hpos:Pos} {b₀:Stmt} {suite:List Stmt} {rest:List ExceptHandler} {Q:Flow→Shared→Prop} (cc:CatchC X.K X.mg cx Cc) (hg:Gl X cx)
  (hm:∃ C,cls=.ref C∧PySem.W.mroIn X.K C (.ref Cc)=some false) (I:Inv X pins σ H s3) (F:Fly s3.heap e T cls dct)
  (h:wpAny (model X.prog X.w) X.A (handleBy (.ref e) X.env rest) Q X.xe s3) (hd:(cx == ("__debug__":Str))=false:=by decide) :
  wpAny (model X.prog X.w) X.A (handleBy (.ref e) X.env (.ExceptHandler (some (.Name cx np)) none (b₀ :: suite) hpos :: rest)) Q X.xe s3:=by
 obtain ⟨C,rfl,hmro⟩:=hm
 obtain ⟨oe,vs,oT,ts',he,hcl,hdx,hdt,h1,ne,hoT,hdT,h3⟩:=id F
 have Is:=I.sup e
 refine wpAny_handleBy_cons (codeAny_handlers_test (ld_glob (X:=X.sup e) Is hg cc.bound ?_ hd)) (by intro q; cases q)
 exact excm_K I.kIn hmro cc he hcl h
def isMro (K:PySem.W.Frag) (cls:Value) (Cc:Addr) (b:Bool):Prop:=∃ C,cls=.ref C∧PySem.W.mroIn K C (.ref Cc)=some b
def tTry3 (K:PySem.W.Frag) (C1 C2 C3:Addr) (i:Nat) (te:XK→TE) (t1 t2 t3:TS):TS:=fun D σ H=>te (fun cls dct H'=>(isMro K cls C1 true∧t1 D σ H')∨(isMro K cls C1 false∧((isMro K cls C2 true∧t2 D σ H')∨(isMro K cls C2 false∧isMro K cls C3 true∧t3 D σ H')))) σ H fun v H1=>D.nx (σ.set i (some v)) H1
theorem ps_try3 {te:XK→TE} {c1 c2 c3 n:Str} {np n1 n2 n3 h1 h2 h3 tpos epos:Pos} {i:Nat} {b1 b2 b3:Stmt} {s1 s2 s3:List Stmt} {t1 t2 t3:TS} {C1 C2 C3:Addr} {call:Expr} (hst:X.stack=X.env :: X.outer) (hfr:X.env.frame=some X.env.locals) (hex:X.ex=[]) (hc:PX X call te)
  (cc1:CatchC X.K X.mg c1 C1) (hg1:Gl X c1) (cc2:CatchC X.K X.mg c2 C2) (hg2:Gl X c2) (cc3:CatchC X.K X.mg c3 C3) (hg3:Gl X c3)
  (hN:X.N.Nodup) (hi:X.N[i]?=some n) (hx:Loc X.env.scope n)
  (hs1:∀ e,PSs (X.sup e) (b1 :: s1) t1) (hs2:∀ e,PSs (X.sup e) (b2 :: s2) t2) (hs3:∀ e,PSs (X.sup e) (b3 :: s3) t3)
  (hd1:(c1 == ("__debug__":Str))=false:=by decide) (hd2:(c2 == ("__debug__":Str))=false:=by decide) (hd3:(c3 == ("__debug__":Str))=false:=by decide)
  (hsw:swapsWith call (some (.Name n np)) epos.line X.env=pure false:=by rfl) (hf:X.fn n=true∨X.env.scope.names.lookup n=some .local:=by first | exact .inl rfl | exact .inr rfl | assumption) :
  PS X (.Try [.Assign [.Name n np] call epos] [.ExceptHandler (some (.Name c1 n1)) none (b1 :: s1) h1,.ExceptHandler (some (.Name c2 n2)) none (b2 :: s2) h2,.ExceptHandler (some (.Name c3 n3)) none (b3 :: s3) h3] [] [] tpos) (tTry3 X.K C1 C2 C3 i te t1 t2 t3):=by
 intro pins s σ H D I h
 refine wpAny_Try_except (wpAny_execs_cons (wpAny_Assign_Name (thn (hc pins s σ H _ _ _ I h fun s1 H1 ev s' I1 z=>?_) fun v s1 ⟨y,H1,I1,r1,q1⟩=>?_) hsw))
 ·refine catch_core hst hfr hex I1 z fun e T cls dct H' s3 ee q hHe hHT ae aT nT I3 F3=>?_
  subst ee
  rcases q with ⟨m1,q⟩ | ⟨m1,⟨m2,q⟩ | ⟨m2,m3,q⟩⟩
  ·exact suite_bare cc1 hg1 (hs1 e) m1 hHe hHT ae aT nT I3 F3 q hd1
  ·exact skip_one cc1 hg1 m1 I3 F3 (suite_bare cc2 hg2 (hs2 e) m2 hHe hHT ae aT nT I3 F3 q hd2) hd1
  ·exact skip_one cc1 hg1 m1 I3 F3 (skip_one cc2 hg2 m2 I3 F3 (suite_bare cc3 hg3 (hs3 e) m3 hHe hHT ae aT nT I3 F3 q hd3) hd2) hd1
 ·exact store_ok I1 hN hi hx r1 (fun s2 I2=>wpAny_execs_nil (wpAny_execs_nil ⟨_,H1,I2,q1⟩)) hf
end
section
variable {X:Cx} {K:PySem.W.Frag} {a:Expr} {ta:TE}
theorem blk0 {scope:Scope} {own:List Str} (kind:scope.kind=.function) (h:(scope.names.all fun y=>decide (y.2≠.cell) && (decide (y.2≠.free) && decide (y.2=.local→scope.names.lookup y.1=some .local)))=true):BlkScope X scope own [] []:=by
 have g:∀ y∈scope.names,y.2≠.cell∧y.2≠.free∧(y.2=.local→scope.names.lookup y.1=some .local):=fun y hy=>by
  have:=List.all_eq_true.mp h y hy
  rw [Bool.and_eq_true,Bool.and_eq_true] at this
  exact ⟨of_decide_eq_true this.1,of_decide_eq_true this.2.1,of_decide_eq_true this.2.2⟩
 exact ⟨kind,fun y hy=>(g y hy).1,fun y hy=>(g y hy).2.2,fun y hy e=>absurd e (g y hy).2.1,rfl,fun y hy=>by simp at hy⟩
theorem nd1 (x:Str):[x].Nodup:=by simp
theorem ix_tupK (h:X.K=K):IxR X (rIxT K):=by subst h; exact ix_tup
theorem ix_listK (h:X.K=K):IxR X (rIxL K):=by subst h; exact ix_list
end
end L2
namespace Car
open PySem L2
theorem same_upd {H:Hp} {p:Addr} (h:H p=none) (o:HO):Same H (upd H p o):=fun b u q=>by rw [upd_ne (ne_of_none q h)]; exact q
section
variable {K:PySem.W.Frag} {H:Hp}
end
def MvAt (H:Hp):List Addr→List (List V)→Prop
 | [],[]=>True
 | t :: ts,m :: ms=>H t=some (.tup m)∧MvAt H ts ms
 | _,_=>False
theorem MvAt.upd {H:Hp} {q:Addr} {o:HO} (hq:∀ m,H q≠some (.tup m)):∀ {ts:List Addr} {ms:List (List V)},MvAt H ts ms→MvAt (upd H q o) ts ms
 | [],[],_=>True.intro
 | t :: ts,m :: ms,⟨h,r⟩=>⟨by rw [upd_ne (fun z=>hq m (by rw [← z]; exact h))]; exact h,MvAt.upd hq r⟩
theorem MvAt.same {H H':Hp} (s:Same H H'):∀ {ts:List Addr} {ms:List (List V)},MvAt H ts ms→MvAt H' ts ms
 | [],[],_=>True.intro
 | t :: ts,m :: ms,⟨h,r⟩=>⟨s _ _ h,MvAt.same s r⟩
theorem MvAt.snoc {H:Hp} {t:Addr} {m:List V} (h:H t=some (.tup m)):∀ {ts:List Addr} {ms:List (List V)},MvAt H ts ms→MvAt H (ts++[t]) (ms++[m])
 | [],[],_=>⟨h,True.intro⟩
 | t :: ts,m :: ms,⟨h1,r⟩=>⟨h1,MvAt.snoc h r⟩
theorem MvAt.len {H:Hp}:∀ {ts:List Addr} {ms:List (List V)},MvAt H ts ms→ts.length=ms.length
 | [],[],_=>rfl
 | t :: ts,m :: ms,⟨_,r⟩=>by rw [List.length_cons,List.length_cons,r.len]
theorem same_in {H0 H:Hp} {q:Addr} {o:HO} (s:Same H0 H) (h:H0 q=none):Same H0 (upd H q o):=fun b u e=>by
 rw [upd_ne (ne_of_none e h)]
 exact s b u e
theorem line3 {n c:Nat} (h:n≤c) (h2:c≤2000):n < sizeLine:=Nat.lt_of_le_of_lt (Nat.le_trans h h2) (by decide)
def Wd (n:Nat) (Pv:Nat→St→List V→Hp→Prop) (i m:Nat) (σ:St) (acc:List V) (H:Hp):Prop:=m=n - i∧i≤n∧Pv i σ acc H
theorem wd_next {n:Nat} {Pv:Nat→St→List V→Hp→Prop} {i:Nat} {σ:St} {acc:List V} {H:Hp} (h:i < n) (p:Pv (i + 1) σ acc H):∃ m',m' < n - i∧Wd n Pv (i + 1) m' σ acc H:=⟨n - (i + 1),by lia,rfl,h,p⟩
theorem lc_ask {K:PySem.W.Frag} {a:Addr} {xs:List V} {i:Nat} {H:Hp} {A:Prop} {B:V→Hp→Prop} (q:SqL K H a xs) (hi:i≤xs.length) (hs:∀ x,xs[i]?=some x→i < xs.length→B x H) (hd:i=xs.length→A) :
  ((Itl K a).stop i H∧A)∨((Itl K a).go i H∧∀ x H',(Itl K a).yld i H x H'→B x H'):=by
 by_cases hlt:i < xs.length
 ·refine .inr ⟨⟨xs,xs[i],q,by simp [hlt]⟩,fun x H' y=>?_⟩
  obtain ⟨e,y⟩:=y
  subst e
  exact hs x (y xs q) hlt
 ·exact .inl ⟨⟨xs,q,by lia⟩,hd (by lia)⟩
theorem wd_0 {n:Nat} {Pv:Nat→St→List V→Hp→Prop} {σ:St} {acc:List V} {H:Hp} (h:Pv 0 σ acc H):∃ m,Wd n Pv 0 m σ acc H:=⟨n,by simp,Nat.zero_le _,h⟩
end Car
namespace L2
open PySem PySem.Spec PyProof.Rows
def tMid (t u:TS):TS:=fun D σ H=>∃ N:St→Hp→Prop,t { D with nx:=N } σ H∧∀ σ' H',N σ' H'→u D σ' H'
theorem pss_mid {X:Cx} {st:Stmt} {rest:List Stmt} {t u:TS} (h1:PS X st t) (h2:PSs X rest u):PSs X (st :: rest) (tMid t u):=by
 intro pins s σ H D I ⟨N,h,hN⟩
 refine wpAny_execs_cons (thn (h1 pins s σ H { D with nx:=N } I h) fun f s1 q=>?_)
 cases f with
 | next =>
  obtain ⟨σ',H',I',q⟩:=q
  exact h2 pins s1 σ' H' D I' (hN σ' H' q)
 | ret v=>exact q
 | brk=>exact q
 | cont=>exact q
end L2
namespace Car
open PySem L2
theorem bt_min:bootBuiltins "min"=some (.builtin "min"):=by decide +kernel
theorem bt_list:bootBuiltins "list"=some (.type "list"):=by decide +kernel
theorem bt_int:bootBuiltins "int"=some (.type "int"):=by decide +kernel
structure LawT (mg:Str→Option Value):Prop where
 len:mg "len"=none
 max:mg "max"=none
 min:mg "min"=none
 range:mg "range"=none
 isin:mg "isinstance"=none
 abs:mg "abs"=none
 tuple:mg "tuple"=none
 list:mg "list"=none
 bool:mg "bool"=none
 int:mg "int"=none
theorem at_mem {xs:List V} {i:Int} (h0:0≤i) (h:i < (xs.length:Int)):∃ v,atI xs i=some v∧v∈xs:=by
 have hlt:i.toNat < xs.length:=by lia
 refine ⟨xs[i.toNat],?_,List.getElem_mem hlt⟩
 have:=atI_nat (List.getElem?_eq_getElem hlt)
 rw [show ((i.toNat:Nat):Int)=i by lia] at this
 exact this
theorem mod_lt (n:Int) {m:Int} (h:0 < m):0≤n % m∧n % m < m:=⟨Int.emod_nonneg _ (by lia),Int.emod_lt_of_pos _ h⟩
section
variable {P:Program} {w:World} {K:PySem.W.Frag} {mg:Str→Option Value} {base:Heap} {f:Addr} {fd':FuncData}
theorem passN {X:Cx}:Passes (CX1 P w) X E0:=fun _ _ _ _ _ _ _ h=>by
 obtain ⟨_,_,_,_,_,_,_,_,_,_,_,_,_,_,_,ff⟩:=h
 exact ff.elim
end
mutual
theorem eqv_self:∀ d:PyData,PyData.canLay0 d=true→PyData.eqv d d=true
 | .none,_=>by rw [PyData.eqv]
 | .bool b,_=>by rw [PyData.eqv]; simp
 | .int i,_=>by rw [PyData.eqv]; simp
 | .str x,_=>by rw [PyData.eqv]; simp
 | .list xs,h=>by rw [PyData.canLay0] at h; rw [PyData.eqv]; exact eqvAll_self xs h
 | .tuple xs,h=>by rw [PyData.canLay0] at h; rw [PyData.eqv]; exact eqvAll_self xs h
 | .dict _,h=>by rw [PyData.canLay0] at h; cases h
theorem eqvAll_self:∀ xs:List PyData,PyData.canLayAll0 xs=true→PyData.eqvAll xs xs=true
 | [],_=>by rw [PyData.eqvAll]
 | x :: r,h=>by
  rw [PyData.canLayAll0,Bool.and_eq_true] at h
  rw [PyData.eqvAll,eqv_self x h.1,eqvAll_self r h.2]
  rfl
end
theorem le1:1≤sizeLine:=by decide
theorem le2:2≤sizeLine:=by decide
section
variable {P:Program} {w:World} {K:PySem.W.Frag} {mg:Str→Option Value} {base:Heap} {f:Addr} {fd':FuncData}
theorem blkC {X:Cx} {scope:Scope} {own capn:List Str} {capI:List Nat} (sc:Scope) (hsc:X.env.scope=sc) (kind:scope.kind=.function) (h:(scope.names.all fun y=>decide (y.2≠.cell) && (decide (y.2=.local→scope.names.lookup y.1=some .local) && decide (y.2=.free→sc.names.lookup y.1=some .cell)))=true) (caps:capI.map (fun i=>X.N[i]?)=capn.map some)
  (capc:∀ y∈capn,X.env.scope.names.lookup y=some .cell∧(relabel scope X.env).names.lookup y=some .cell):BlkScope X scope own capn capI:=by
 have g:∀ y∈scope.names,y.2≠.cell∧(y.2=.local→scope.names.lookup y.1=some .local)∧(y.2=.free→sc.names.lookup y.1=some .cell):=fun y hy=>by
  have:=List.all_eq_true.mp h y hy
  rw [Bool.and_eq_true,Bool.and_eq_true] at this
  exact ⟨of_decide_eq_true this.1,of_decide_eq_true this.2.1,of_decide_eq_true this.2.2⟩
 exact ⟨kind,fun y hy=>(g y hy).1,fun y hy=>(g y hy).2.1,fun y hy e=>by rw [hsc]; exact (g y hy).2.2 e,caps,capc⟩
end
end Car
namespace L2
open PySem PySem.Spec PyProof.Rows
section
variable {X:Cx} {pos:Pos}
def gLst (K:PySem.W.Frag) (n:Nat) (t:TGs):TG:=fun v σ H Q=>∃ a xs,v=.ref a∧SqL K H a xs∧xs.length=n∧t xs σ H Q
theorem pg_lst {es:List Expr} {k:Nat} {t:TGs} {n:Nat} (hc:X.calm=true) (h:PGs X es t)
  (hn:(assignEach es X.env).length=n:=by rfl) (hst:(assignEach es X.env).findIdx? (·.1)=none:=by rfl):PG X (.Tuple es k pos) (gLst X.K n t):=by
 intro pins s σ H v u Q I r hw
 obtain ⟨a,xs,e1,hq,hl,hw⟩:=hw
 subst e1
 cases r
 obtain ⟨its,rv,⟨o,m,e,c,c2,d⟩,hz⟩:=I.list hq
 have ht:s.heap.IsList a its.toArray:=⟨o,e,c,m,d⟩
 rw [assign_Tuple]
 refine wpAny_bind (wpAny_standAt ?_)
 unfold unpack
 rw [show (assignEach es X.env).length=its.toArray.size by simp [hn,← hl,rv.length],hst]
 refine wpAny_bind (wpAny_holding (PySem.W.kun_itemsOf (I.ok.hd hc) ht fun h' hx=>?_))
 have I1:Inv X pins σ H { s with heap:=h' }:=I.kept (t':=s.toks) fun b o e=>hx b o (Nat.ne_of_lt (Heap.lt_size e)) e
 exact h pins _ σ H xs _ Q I1 (by simpa using rv) hw
end
end L2
namespace L2
open PySem PySem.Spec PyProof.Rows
section
variable {X:Cx} {K:PySem.W.Frag}
theorem call_lenK (h:X.K=K):CallR X (.builtin "len") (fun xs H Q=>∃ p ys,xs=[.ref p]∧(SqL K H p ys∨SqT K H p ys)∧Q (.int ys.length) H):=by subst h; exact call_len_seq
theorem call_listK (h:X.K=K):CallR X (.type "list") (fun xs H Q=>∃ p ys,xs=[.ref p]∧(SqL K H p ys∨SqT K H p ys)∧∀ l,H l=none→Q (.ref l) (upd H l (.lst ys))):=by subst h; exact call_list_of
end
end L2
namespace Car
open PySem L2
abbrev sWithin:Stmt:=top 76
abbrev sUnder:Stmt:=top 77
abbrev sPlaces:Stmt:=top 78
abbrev sGreat:Stmt:=top 79
abbrev sLowest:Stmt:=top 80
abbrev sLowOver:Stmt:=top 81
abbrev sTold:Stmt:=top 90
abbrev sMeas:Stmt:=top 91
abbrev sLCell:Stmt:=top 92
abbrev sLShelf:Stmt:=top 93
abbrev sLay:Stmt:=top 94
abbrev sSq:Stmt:=top 95
abbrev sPutC:Stmt:=top 96
abbrev sTCell:Stmt:=top 101
abbrev sTLow:Stmt:=top 103
abbrev sWriting:Stmt:=top 107
abbrev sNumL:Stmt:=top 108
abbrev sSaid:Stmt:=top 109
abbrev sAtL:Stmt:=top 110
abbrev sLaw:Stmt:=top 111
abbrev sDeskI:Stmt:=inClass (top 105) 0
abbrev sSay:Stmt:=inClass (top 105) 1
abbrev pr (c:Int×Int):List V:=[.int c.1,.int c.2]
def RowsAt (H:Hp):List Addr→List (List Int)→Prop
 | [],[]=>True
 | r :: rs,row :: rows=>H r=some (.lst (row.map V.int))∧RowsAt H rs rows
 | _,_=>False
theorem RowsAt.same {H H':Hp} (s:Same H H'):∀ {rs:List Addr} {rows:List (List Int)},RowsAt H rs rows→RowsAt H' rs rows
 | [],[],_=>True.intro
 | _ :: _,_ :: _,h=>⟨s _ _ h.1,RowsAt.same s h.2⟩
 | [],_ :: _,h=>h.elim
 | _ :: _,[],h=>h.elim
theorem RowsAt.len {H:Hp}:∀ {rs:List Addr} {rows:List (List Int)},RowsAt H rs rows→rs.length=rows.length
 | [],[],_=>rfl
 | _ :: _,_ :: _,h=>by rw [List.length_cons,List.length_cons,RowsAt.len h.2]
 | [],_ :: _,h=>h.elim
 | _ :: _,[],h=>h.elim
theorem RowsAt.at_ {H:Hp}:∀ {rs:List Addr} {rows:List (List Int)} {i:Nat} {row:List Int},RowsAt H rs rows→rows[i]?=some row→∃ r,rs[i]?=some r∧H r=some (.lst (row.map V.int))
 | [],[],_,_,_,e=>by simp at e
 | r :: _,_ :: _,0,_,h,e=>by cases e; exact ⟨r,rfl,h.1⟩
 | _ :: _,_ :: _,i + 1,_,h,e=>by
  obtain ⟨r,a,b⟩:=RowsAt.at_ (i:=i) h.2 e
  exact ⟨r,a,b⟩
 | [],_ :: _,_,_,h,_=>h.elim
 | _ :: _,[],_,_,h,_=>h.elim
theorem MvAt.at_ {H:Hp}:∀ {ts:List Addr} {ms:List (List V)} {i:Nat} {t:Addr} {m:List V},MvAt H ts ms→ts[i]?=some t→ms[i]?=some m→H t=some (.tup m)
 | [],[],_,_,_,_,e,_=>by simp at e
 | _ :: _,_ :: _,0,_,_,⟨h,_⟩,e,e'=>by
  cases e
  cases e'
  exact h
 | _ :: _,_ :: _,i + 1,_,_,h,e,e'=>MvAt.at_ (i:=i) h.2 e e'
def BdAt (H:Hp) (b:Addr) (rows:List (List Int)):Prop:=∃ rs,H b=some (.lst (rs.map V.ref))∧RowsAt H rs rows
def FtAt (H:Hp) (f:Addr) (cs:List (Int×Int)):Prop:=∃ ts,H f=some (.lst (ts.map V.ref))∧MvAt H ts (cs.map pr)
theorem BdAt.same {H H':Hp} {b:Addr} {rows:List (List Int)} (h:BdAt H b rows) (s:Same H H'):BdAt H' b rows:=by
 obtain ⟨rs,a,c⟩:=h
 exact ⟨rs,s _ _ a,c.same s⟩
theorem FtAt.same {H H':Hp} {b:Addr} {cs:List (Int×Int)} (h:FtAt H b cs) (s:Same H H'):FtAt H' b cs:=by
 obtain ⟨rs,a,c⟩:=h
 exact ⟨rs,s _ _ a,c.same s⟩
def ins (rows:List (List Int)) (c:Int×Int):Bool:=decide (0≤c.2∧c.2 < rows.length∧0≤c.1∧c.1 < (rows.headD []).length)
def hgt (rows:List (List Int)) (c:Int×Int):Int:=((rows[c.2.toNat]?).bind fun r=>r[c.1.toNat]?).getD 0
def Rect (rows:List (List Int)):Prop:=rows≠[]∧∀ r∈rows,r.length=(rows.headD []).length
theorem ins_at {rows:List (List Int)} {c:Int×Int} (h:ins rows c=true) (R:Rect rows):∃ (i j:Nat) (row:List Int) (v:Int),c=((j:Int),(i:Int))∧rows[i]?=some row∧row[j]?=some v∧hgt rows c=v:=by
 obtain ⟨x,y⟩:=c
 obtain ⟨a1,a2,a3,a4⟩:0≤y∧y < rows.length∧0≤x∧x < (rows.headD []).length:=of_decide_eq_true h
 have hy:y.toNat < rows.length:=by lia
 have hr:=R.2 _ (List.getElem_mem hy)
 have hx:x.toNat < (rows[y.toNat]).length:=by lia
 have e1:=List.getElem?_eq_getElem hy
 have e2:=List.getElem?_eq_getElem hx
 refine ⟨y.toNat,x.toNat,rows[y.toNat],(rows[y.toNat])[x.toNat],?_,e1,e2,?_⟩
 ·rw [Int.toNat_of_nonneg a1,Int.toNat_of_nonneg a3]
 ·unfold hgt
  rw [e1,Option.bind_some,e2]
  rfl
theorem ref_get {ts:List Addr} {i:Nat} {x:V} (h:(ts.map V.ref)[i]?=some x):∃ t,ts[i]?=some t∧x=.ref t:=by
 rw [List.getElem?_map] at h
 cases e:ts[i]? with
 | none=>rw [e] at h; cases h
 | some p=>rw [e] at h; cases h; exact ⟨p,rfl,rfl⟩
theorem MvAt.app {H:Hp}:∀ {ts us:List Addr} {ms ns:List (List V)},MvAt H ts ms→MvAt H us ns→MvAt H (ts++us) (ms++ns)
 | [],_,[],_,_,h=>h
 | _ :: _,_,_ :: _,_,h,h2=>⟨h.1,MvAt.app h.2 h2⟩
 | [],_,_ :: _,_,h,_=>h.elim
 | _ :: _,_,[],_,h,_=>h.elim
theorem mv_new {H:Hp} {ts:List Addr} {ms:List (List V)} {t:Addr} {m:List V} (M:MvAt H ts ms) (h:H t=none):MvAt (upd H t (.tup m)) (ts++[t]) (ms++[m]):=(M.same (same_upd h _)).snoc upd_same
theorem sbn {a:Addr} {H:Hp} {xs:List V} (h:H a=some (.lst xs)):∀ m,H a≠some (.tup m):=fun m e=>by rw [h] at e; cases e
theorem lc_tupC {K:PySem.W.Frag} {a:Addr} {xs:List V} {te:TE} {F:V→List V} {H1:Hp} {A:Hp→Prop} (caps:St) (hl:SqL K H1 a xs) (hx:xs.length≤1000)
  (hte:∀ x∈xs,∀ (H2:Hp) (R:VK),Same H1 H2→(∀ t,H2 t=none→R (.ref t) (upd H2 t (.tup (F x))))→te (some x :: caps) H2 R) {D:Addr} (hD:H1 D=none)
  (q:∀ (ts:List Addr) (H':Hp),Same H1 H'→H' D=some (.lst (ts.map V.ref))→MvAt H' ts (xs.map F)→A H') :
  ∃ W:Nat→Nat→St→List V→Hp→Prop,(∃ m,W 0 m (none :: caps) [] (upd H1 D (.lst []))) ∧
   ∀ i m σ' acc H,W i m σ' acc H→((Itl K a).stop i H∧A H)∨((Itl K a).go i H∧∀ x H',(Itl K a).yld i H x H'→gName 0 x σ' H' fun σ2 H2=>tNoIf σ2 H2 fun b H3 =>
    if b=true then te σ2 H3 fun y H4=>H4 D=some (.lst acc)∧acc.length < sizeLine∧∃ m',m' < m∧W (i + 1) m' σ2 (acc++[y]) (upd H4 D (.lst (acc++[y]))) else ∃ m',m' < m∧W (i + 1) m' σ2 acc H3):=by
 refine ⟨Wd xs.length (fun i σ acc H2=>∃ (z:Option V) (ts:List Addr),σ=z :: caps∧acc=ts.map V.ref∧ts.length=i∧MvAt H2 ts ((xs.take i).map F)∧Same H1 H2∧H2 D=some (.lst acc)),wd_0 ⟨none,[],rfl,rfl,rfl,by rw [List.take_zero]; exact True.intro,same_upd hD _,upd_same⟩,?_⟩
 rintro i mm σ acc H2 ⟨rfl,hi0,z,ts,rfl,rfl,tl,mv,s2,hB2⟩
 refine lc_ask (K:=K) (xs:=xs) (s2.seq hl) hi0 (fun x hx1 hi=>?_) (fun hend=>?_)
 ·show te (some x :: caps) H2 _
  refine hte x (List.mem_of_getElem? hx1) H2 _ s2 fun t ht=>⟨same_upd ht _ _ _ hB2,?_,wd_next hi ?_⟩
  ·rw [List.length_map,tl]
   exact line3 (show i≤1000 by lia) (by decide)
  ·refine ⟨_,ts++[t],rfl,by rw [List.map_append]; rfl,by rw [List.length_append,tl]; rfl,?_,same_in (s2.trans (same_upd ht _)) hD,upd_same⟩
   have e:(xs.take (i + 1)).map F=(xs.take i).map F++[F x]:=by
    rw [List.take_add_one,hx1,List.map_append]
    rfl
   rw [e]
   exact (mv_new mv ht).upd (sbn (same_upd ht _ _ _ hB2))
 ·rw [hend,List.take_of_length_le (Nat.le_refl _)] at mv
  exact q ts H2 s2 hB2 mv
theorem lc_valC {K:PySem.W.Frag} {a:Addr} {xs:List V} {te:TE} {F:V→V} {H1:Hp} {A:Hp→Prop} (caps:St) (hl:SqL K H1 a xs) (hx:xs.length≤1000)
  (hte:∀ x∈xs,∀ (H2:Hp) (R:VK),Same H1 H2→R (F x) H2→te (some x :: caps) H2 R) {D:Addr} (hD:H1 D=none)
  (q:∀ (H':Hp),Same H1 H'→H' D=some (.lst (xs.map F))→A H') :
  ∃ W:Nat→Nat→St→List V→Hp→Prop,(∃ m,W 0 m (none :: caps) [] (upd H1 D (.lst []))) ∧
   ∀ i m σ' acc H,W i m σ' acc H→((Itl K a).stop i H∧A H)∨((Itl K a).go i H∧∀ x H',(Itl K a).yld i H x H'→gName 0 x σ' H' fun σ2 H2=>tNoIf σ2 H2 fun b H3 =>
    if b=true then te σ2 H3 fun y H4=>H4 D=some (.lst acc)∧acc.length < sizeLine∧∃ m',m' < m∧W (i + 1) m' σ2 (acc++[y]) (upd H4 D (.lst (acc++[y]))) else ∃ m',m' < m∧W (i + 1) m' σ2 acc H3):=by
 refine ⟨Wd xs.length (fun i σ acc H2=>∃ (z:Option V),σ=z :: caps∧acc=(xs.take i).map F∧Same H1 H2∧H2 D=some (.lst acc)),wd_0 ⟨none,rfl,by rw [List.take_zero]; rfl,same_upd hD _,upd_same⟩,?_⟩
 rintro i mm σ acc H2 ⟨rfl,hi0,z,rfl,rfl,s2,hB2⟩
 refine lc_ask (K:=K) (xs:=xs) (s2.seq hl) hi0 (fun x hx1 hi=>?_) (fun hend=>?_)
 ·show te (some x :: caps) H2 _
  refine hte x (List.mem_of_getElem? hx1) H2 _ s2 ⟨hB2,?_,wd_next hi ?_⟩
  ·rw [List.length_map,List.length_take]
   exact line3 (show min i xs.length≤1000 by lia) (by decide)
  ·refine ⟨_,rfl,?_,same_in s2 hD,upd_same⟩
   rw [List.take_add_one,hx1,List.map_append]
   rfl
 ·rw [hend,List.take_of_length_le (Nat.le_refl _)] at hB2
  exact q H2 s2 hB2
seal L2.PE L2.PT L2.PW L2.PA L2.PS L2.PSs L2.PG L2.PGs L2.PI L2.PSet L2.OpR L2.UnR L2.CallR L2.TruR L2.IxR L2.SlR L2.PO L2.PK L2.PX L2.PIfs
section
variable {P:Program} {w:World} {K:PySem.W.Frag} {mg:Str→Option Value} {base:Heap} {f:Addr} {fd':FuncData}
def spWithin:Sp:=fun vs H Q _=>∃ (b c:Addr) (rows:List (List Int)) (cs:List (Int×Int)),vs=[.ref b,.ref c]∧BdAt H b rows∧rows≠[]∧FtAt H c cs∧cs.length≤1000∧∀ D H',H D=none→Same H H'→FtAt H' D (cs.filter (ins rows))→Q (.ref D) H'
theorem scWithin:FnScope ["bed","cells"] ["bed","cells"] (defScope sWithin):=⟨rfl,rfl,rfl,by decide +kernel,rfl,by decide +kernel,by decide +kernel⟩
theorem nd2 {x y:Str} (h:x≠y):[x,y].Nodup:=by simp [h]
theorem ok_within (T:LawT mg) (F:Fun K "within" "within" sWithin f fd'):FnOk P w K mg base (CX1 P w) 1 f fd' ["bed","cells"] spWithin:=by
 have nd:=scWithin.nd
 refine F.ok1 scWithin (fun vs H Q E h=>?_) (fun cdv A outer s H vs Q E hr h=>?_)
 ·obtain ⟨b,c,rows,cs,rfl,_⟩:=h
  rfl
 obtain ⟨b,c,rows,cs,rfl,hb,hne,⟨ts,hc,mvc⟩,hl,q⟩:=h
 have tl:ts.length=cs.length:=by rw [mvc.len,List.length_map]
 refine ⟨_,(pss_one (ps_ret (pe_lc (own:=["cell"]) (capn:=["bed"]) (capI:=[0]) rfl (blkC (defScope sWithin) rfl rfl (by decide +kernel) rfl (fun y hy=>by rcases List.mem_cons.mp hy with rfl | hy; exact ⟨rfl,rfl⟩; cases hy)) (pi_list (pv 1)) (fun _ _ _ _ _ _=>pg_name (i:=0) (nd2 (x:="cell") (y:="bed") (by decide +kernel)) rfl (Or.inl rfl))
  (fun _ _ _ _ _ _=>(pifs_one (PW.pt (pw_and (pt_chain op_le op_lt pe_int (pe_ix (ix_tupK (K:=K) rfl) (pv 0) pe_int (fun _ _=>rfl)) (pe_callB (call_lenK (K:=K) rfl) rfl T.len PySem.boot_len (pa_cons (pv 1) pa_nil))) (pw_and1 (pt_chain op_le op_lt pe_int (pe_ix (ix_tupK (K:=K) rfl) (pv 0) pe_int (fun _ _=>rfl)) (pe_callB (call_lenK (K:=K) rfl) rfl T.len PySem.boot_len (pa_cons (pe_ix (ix_listK (K:=K) rfl) (pv 1) pe_int (fun _ _=>rfl)) pa_nil)))))))) (fun _ _ _ _ _ _=>(pv 0))))),?_⟩
 refine ⟨_,rfl,c,rfl,⟨_,SqL.of hc⟩,fun D hD=>?_⟩
 refine ⟨Wd ts.length (fun i σ acc H2=>∃ (z:Option V) (us:List Addr),σ=[z,some (.ref b)]∧acc=us.map V.ref∧us.length≤i∧MvAt H2 us (((cs.take i).filter (ins rows)).map pr)∧Same H H2∧H2 D=some (.lst acc)),wd_0 ⟨none,[],rfl,rfl,Nat.le_refl _,by rw [List.take_zero]; exact True.intro,same_upd hD _,upd_same⟩,?_⟩
 rintro i im σ acc H2 ⟨rfl,hi0,z,us,rfl,rfl,ul,mv,s2,hD2⟩
 refine lc_ask (K:=K) (xs:=ts.map V.ref) (SqL.of (s2 _ _ hc)) (by rw [List.length_map]; exact hi0) (fun x hx hi=>?_) (fun hend=>?_)
 ·obtain ⟨t,ht,rfl⟩:=ref_get hx
  have hi':i < ts.length:=by rw [List.length_map] at hi; exact hi
  have hic:i < cs.length:=by lia
  have ec:=List.getElem?_eq_getElem hic
  have gt:H2 t=some (.tup (pr cs[i])):=s2 _ _ (mvc.at_ ht (by rw [List.getElem?_map,ec]; rfl))
  generalize cs[i]=c1 at ec gt
  obtain ⟨rs,hb2,ra⟩:=hb.same s2
  obtain ⟨r0,rr,er⟩:∃ r0 rr,rows=r0 :: rr:=by
   cases rows with
   | nil=>exact absurd rfl hne
   | cons r0 rr=>exact ⟨r0,rr,rfl⟩
  obtain ⟨a0,ha0,hr0⟩:=ra.at_ (i:=0) (row:=r0) (by rw [er]; rfl)
  have rl:=ra.len
  have hw:(rows.headD []).length=r0.length:=by rw [er]; rfl
  have skip:∀ {m':Nat},ins rows c1=false→∃ m',m' < ts.length - i∧Wd ts.length (fun i σ acc H2=>∃ (z:Option V) (us:List Addr),σ=[z,some (.ref b)]∧acc=us.map V.ref∧us.length≤i∧MvAt H2 us (((cs.take i).filter (ins rows)).map pr)∧Same H H2∧H2 D=some (.lst acc)) (i + 1) m' [some (.ref t),some (.ref b)] (us.map V.ref) H2:=fun e=>wd_next hi' ⟨_,us,rfl,rfl,by lia,by rw [List.take_add_one,ec,List.filter_append]; simp [e]; simpa using mv,s2,hD2⟩
  refine ⟨_,rfl,t,_,1,.int c1.2,rfl,rfl,SqT.of gt,rfl,_,_,rfl,rfl,_,rfl,?_⟩
  refine ite2 (fun h1=>?_) (fun h1=>?_)
  ·refine ⟨_,rfl,b,_,rfl,.inl (SqL.of hb2),_,_,rfl,rfl,_,rfl,?_⟩
   refine ite2 (fun h2=>?_) (fun h2=>?_)
   ·refine ⟨_,rfl,t,_,0,.int c1.1,rfl,rfl,SqT.of gt,rfl,_,_,rfl,rfl,_,rfl,?_⟩
    refine ite2 (fun h3=>?_) (fun h3=>?_)
    ·refine ⟨_,rfl,b,_,0,.ref a0,rfl,rfl,SqL.of hb2,?_,a0,_,rfl,.inl (SqL.of hr0),_,_,rfl,rfl,_,rfl,?_⟩
     ·cases rs with
      | nil=>cases ha0
      | cons r1 rs=>cases ha0; exact atI_nat (xs:=(a0 :: rs).map V.ref) (j:=0) rfl
     ·refine ite2 (fun h4=>?_) (fun h4=>?_)
      ·refine ⟨_,rfl,hD2,?_,wd_next hi' ⟨_,us++[t],rfl,by rw [List.map_append]; rfl,by rw [List.length_append]; show us.length + 1≤_; lia,?_,same_in s2 hD,upd_same⟩⟩
       ·rw [List.length_map]
        exact line3 (show us.length≤1000 by lia) (by decide)
       ·have hin:ins rows c1=true:=by
         have a1:=of_decide_eq_true h1
         have a2:=of_decide_eq_true h2
         have a3:=of_decide_eq_true h3
         have a4:=of_decide_eq_true h4
         rw [List.length_map] at a2 a4
         exact decide_eq_true ⟨a1,by lia,a3,by lia⟩
        rw [List.take_add_one,ec,List.filter_append,List.map_append]
        have e1:(Option.toList (some c1)).filter (ins rows)=[c1]:=by simp [hin]
        rw [e1]
        exact (mv.snoc gt).upd (sbn hD2)
      ·exact skip (m':=0) (by
        refine decide_eq_false fun z=>h4 ?_
        rw [List.length_map]
        exact decide_eq_true (by lia))
    ·exact ⟨_,rfl,iteF (skip (m':=0) (decide_eq_false fun z=>h3 (decide_eq_true z.2.2.1)))⟩
   ·exact iteF (skip (m':=0) (by
     refine decide_eq_false fun z=>h2 ?_
     rw [List.length_map]
     exact decide_eq_true (by lia)))
  ·exact ⟨_,rfl,iteF (iteF (skip (m':=0) (decide_eq_false fun z=>h1 (decide_eq_true z.1))))⟩
 ·rw [List.length_map] at hend
  rw [hend,tl,List.take_of_length_le (Nat.le_refl _)] at mv
  exact q D H2 hD s2 ⟨us,hD2,mv⟩
end
section
variable {P:Program} {w:World} {K:PySem.W.Frag} {mg:Str→Option Value} {base:Heap} {f:Addr} {fd':FuncData}
def shf (x y:Int) (c:Int×Int):Int×Int:=(x + c.1,y + c.2)
def und (rows:List (List Int)) (foot:List (Int×Int)) (x y:Int):List (Int×Int):=(foot.map (shf x y)).filter (ins rows)
def spUnder:Sp:=fun vs H Q _=>∃ (b ct ft:Addr) (tv:V) (x y:Int) (rows:List (List Int)) (foot:List (Int×Int)),vs=[.ref b,.ref ct,.int x,.int y]∧BdAt H b rows∧rows≠[]∧H ct=some (.tup [.ref ft,tv])∧FtAt H ft foot∧foot.length≤1000∧∀ D H',H D=none→Same H H'→FtAt H' D (und rows foot x y)→Q (.ref D) H'
theorem scUnder:FnScope ["bed","cutter","x","y"] ["bed","cutter","x","y"] (defScope sUnder):=⟨rfl,rfl,rfl,by decide +kernel,rfl,by decide +kernel,by decide +kernel⟩
theorem nd3:(["step","x","y"]:List Str).Nodup:=by decide +kernel
theorem ok_under (FW:Fn P w K mg base "within" 1 ["bed","cells"] spWithin) (F:Fun K "cells_under" "cells_under" sUnder f fd'):FnOk P w K mg base (CX1 P w) 2 f fd' ["bed","cutter","x","y"] spUnder:=by
 have nd:=scUnder.nd
 refine F.ok1 scUnder (fun vs H Q E h=>?_) (fun cdv A outer s H vs Q E hr h=>?_)
 ·obtain ⟨b,ct,ft,tv,x,y,rows,foot,rfl,_⟩:=h
  rfl
 obtain ⟨b,ct,ft,tv,x,y,rows,foot,rfl,hb,hne,hct,⟨ts,hft,mvf⟩,hl,q⟩:=h
 have hr1:Room 1 _:=hr.mono (by decide)
 have tl:ts.length=foot.length:=by rw [mvf.len,List.length_map]
 refine ⟨_,(pss_one (ps_ret (pf_call FW hr1 rfl (pass1 (E:=E)) (pa_cons (pv 0) (pa_cons (pe_lc (own:=["step"]) (capn:=["x","y"]) (capI:=[2,3]) rfl (blkC (defScope sUnder) rfl rfl (by decide +kernel) rfl (fun y hy=>by rcases List.mem_cons.mp hy with rfl | hy; exact ⟨rfl,rfl⟩; rcases List.mem_cons.mp hy with rfl | hy; exact ⟨rfl,rfl⟩; cases hy)) (pi_list (pe_ix ix_tup (pv 1) pe_int (fun _ _=>rfl))) (fun _ _ _ _ _ _=>pg_name (i:=0) nd3 rfl (Or.inl rfl)) (fun _ _ _ _ _ _=>pifs_nil) (fun _ _ _ _ _ _=>(pe_tup (pa_cons (pe_op op_add (pv 1) (pe_ix (ix_tupK (K:=K) rfl) (pv 0) pe_int (fun _ _=>rfl))) (pa_cons (pe_op op_add (pv 2) (pe_ix (ix_tupK (K:=K) rfl) (pv 0) pe_int (fun _ _=>rfl))) pa_nil))))) pa_nil))))),?_⟩
 refine ⟨_,rfl,_,rfl,ct,_,0,.ref ft,rfl,rfl,SqT.of hct,rfl,ft,rfl,⟨_,SqL.of hft⟩,fun D hD=>?_⟩
 obtain ⟨g,hg⟩:∃ g:V→Int×Int,∀ t c,MvAt H [t] [pr c]→g (.ref t)=c:=by
  refine ⟨fun v=>match v with | .ref t=>(match H t with | some (.tup [.int a,.int b])=>(a,b) | _=>(0,0)) | _=>(0,0),fun t c h=>?_⟩
  have e:H t=some (.tup [.int c.1,.int c.2]):=h.1
  simp only [e]
 have gall:∀ (us:List Addr) (cs:List (Int×Int)),MvAt H us (cs.map pr)→(us.map V.ref).map (fun v=>pr (shf x y (g v)))=(cs.map (shf x y)).map pr:=by
  intro us
  induction us with
  | nil =>
   intro cs h
   cases cs with
   | nil=>rfl
   | cons c cs=>exact h.elim
  | cons u us ih =>
   intro cs h
   cases cs with
   | nil=>exact h.elim
   | cons c cs =>
    rw [List.map_cons,List.map_cons,List.map_cons,List.map_cons,ih cs h.2,hg u c ⟨h.1,True.intro⟩]
 refine lc_tupC (K:=K) (xs:=ts.map V.ref) (F:=fun v=>pr (shf x y (g v))) [some (.int x),some (.int y)] (SqL.of hft) (by rw [List.length_map]; lia) (fun v hv H2 R s2 r=>?_) hD (fun us H2 s2 hD2 mv2=>?_)
 ·obtain ⟨t,ht,rfl⟩:=List.mem_map.mp hv
  obtain ⟨i,hi⟩:=List.getElem?_of_mem ht
  have hif:i < foot.length:=by have:=(List.getElem?_eq_some_iff.mp hi).1; lia
  have e1:=mvf.at_ hi (by rw [List.getElem?_map,List.getElem?_eq_getElem hif]; rfl)
  have e2:=s2 _ _ e1
  have e3:=hg t _ ⟨e1,True.intro⟩
  generalize foot[i]=c1 at e1 e2 e3
  rw [e3] at r
  exact ⟨_,rfl,_,rfl,t,_,0,.int c1.1,rfl,rfl,SqT.of e2,rfl,_,_,rfl,rfl,_,rfl,_,rfl,t,_,1,.int c1.2,rfl,rfl,SqT.of e2,rfl,_,_,rfl,rfl,le2,r⟩
 ·rw [gall ts foot mvf] at mv2
  exact ⟨b,D,rows,foot.map (shf x y),rfl,hb.same s2,hne,⟨us,hD2,mv2⟩,by rw [List.length_map]; exact hl,fun D2 H3 n3 s3 h3=>q D2 H3 (s2.free n3) (s2.trans s3) h3⟩
def spGreat:Sp:=fun vs H Q _=>∃ (b c:Addr) (rows:List (List Int)) (cs:List (Int×Int)),vs=[.ref b,.ref c]∧BdAt H b rows∧Rect rows∧FtAt H c cs∧cs.length≤1000∧(∀ x∈cs,ins rows x=true)∧∀ H',Same H H'→Q (.int (mxD 0 (cs.map (hgt rows)))) H'
theorem scGreat:FnScope ["bed","cells"] ["bed","cells"] (defScope sGreat):=⟨rfl,rfl,rfl,by decide +kernel,rfl,by decide +kernel,by decide +kernel⟩
theorem ok_great (T:LawT mg) (F:Fun K "greatest" "greatest" sGreat f fd'):FnOk P w K mg base (CX1 P w) 1 f fd' ["bed","cells"] spGreat:=by
 have nd:=scGreat.nd
 refine F.ok1 scGreat (fun vs H Q E h=>?_) (fun cdv A outer s H vs Q E hr h=>?_)
 ·obtain ⟨b,c,rows,cs,rfl,_⟩:=h
  rfl
 obtain ⟨b,c,rows,cs,rfl,hb,rect,⟨ts,hc,mvc⟩,hl,hin,q⟩:=h
 have tl:ts.length=cs.length:=by rw [mvc.len,List.length_map]
 refine ⟨_,(pss_one (ps_ret (pe_maxD rfl rfl T.max (pa_cons (pe_lc (own:=["cell"]) (capn:=["bed"]) (capI:=[0]) rfl (blkC (defScope sGreat) rfl rfl (by decide +kernel) rfl (fun y hy=>by rcases List.mem_cons.mp hy with rfl | hy; exact ⟨rfl,rfl⟩; cases hy)) (pi_list (pv 1)) (fun _ _ _ _ _ _=>pg_name (i:=0) (nd2 (x:="cell") (y:="bed") (by decide +kernel)) rfl (Or.inl rfl)) (fun _ _ _ _ _ _=>pifs_nil)
  (fun _ _ _ _ _ _=>(pe_ix (ix_listK (K:=K) rfl) (pe_ix (ix_listK (K:=K) rfl) (pv 1) (pe_ix (ix_tupK (K:=K) rfl) (pv 0) pe_int (fun _ _=>rfl)) (fun _ _=>rfl)) (pe_ix (ix_tupK (K:=K) rfl) (pv 0) pe_int (fun _ _=>rfl)) (fun _ _=>rfl)))) pa_nil) (pk_cons pe_int pk_nil)))),?_⟩
 refine ⟨_,rfl,c,rfl,⟨_,SqL.of hc⟩,fun D hD=>?_⟩
 obtain ⟨g,hg⟩:∃ g:V→Int×Int,∀ t c,MvAt H [t] [pr c]→g (.ref t)=c:=by
  refine ⟨fun v=>match v with | .ref t=>(match H t with | some (.tup [.int a,.int b])=>(a,b) | _=>(0,0)) | _=>(0,0),fun t c h=>?_⟩
  have e:H t=some (.tup [.int c.1,.int c.2]):=h.1
  simp only [e]
 have gall:∀ (us:List Addr) (cs:List (Int×Int)),MvAt H us (cs.map pr)→(us.map V.ref).map (fun v=>V.int (hgt rows (g v)))=(cs.map (hgt rows)).map V.int:=by
  intro us
  induction us with
  | nil =>
   intro cs h
   cases cs with
   | nil=>rfl
   | cons c cs=>exact h.elim
  | cons u us ih =>
   intro cs h
   cases cs with
   | nil=>exact h.elim
   | cons c cs =>
    rw [List.map_cons,List.map_cons,List.map_cons,List.map_cons,ih cs h.2,hg u c ⟨h.1,True.intro⟩]
 refine lc_valC (K:=K) (xs:=ts.map V.ref) (F:=fun v=>V.int (hgt rows (g v))) [some (.ref b)] (SqL.of hc) (by rw [List.length_map]; lia) (fun v hv H2 R s2 r=>?_) hD (fun H2 s2 hD2=>?_)
 ·obtain ⟨t,ht,rfl⟩:=List.mem_map.mp hv
  obtain ⟨i,hi⟩:=List.getElem?_of_mem ht
  have hif:i < cs.length:=by have:=(List.getElem?_eq_some_iff.mp hi).1; lia
  have e1:=mvc.at_ hi (by rw [List.getElem?_map,List.getElem?_eq_getElem hif]; rfl)
  have e2:=s2 _ _ e1
  have e3:=hg t _ ⟨e1,True.intro⟩
  have e4:=hin _ (List.getElem_mem hif)
  generalize cs[i]=c1 at e1 e2 e3 e4
  rw [e3] at r
  obtain ⟨y,x,row,v,ec,er,ev,eh⟩:=ins_at e4 rect
  rw [eh] at r
  subst ec
  obtain ⟨rs,hb2,ra⟩:=hb.same s2
  obtain ⟨a,ha,hra⟩:=ra.at_ er
  exact ⟨_,rfl,_,rfl,t,_,1,.int (y:Int),rfl,rfl,SqT.of e2,rfl,b,_,_,.ref a,rfl,rfl,SqL.of hb2,atI_nat (by rw [List.getElem?_map,ha]; rfl),_,rfl,t,_,0,.int (x:Int),rfl,rfl,SqT.of e2,rfl,a,_,_,.int v,rfl,rfl,SqL.of hra,atI_nat (by rw [List.getElem?_map,ev]; rfl),r⟩
 ·rw [gall ts cs mvc] at hD2
  exact ⟨D,_,0,rfl,rfl,SqL.of hD2,q H2 s2⟩
def lowAt (rows:List (List Int)) (foot:List (Int×Int)) (x y:Int):Int:=mxD 0 ((und rows foot x y).map (hgt rows))
end
def mn (a b:Int):Int:=if b < a then b else a
theorem le_mn {z a b:Int}:z≤mn a b↔z≤a∧z≤b:=by
 unfold mn
 split <;> lia
def cutC (rows:List (List Int)) (o:(Int×Int)×Int):List (List Int):=rows.set o.1.2.toNat (((rows[o.1.2.toNat]?).getD []).set o.1.1.toNat (mn (hgt rows o.1) o.2))
theorem cutC_len (rows:List (List Int)) (o:(Int×Int)×Int):(cutC rows o).length=rows.length:=List.length_set
def Alike (a b:List (List Int)):Prop:=a.length=b.length∧∀ (i:Nat) (r s:List Int),a[i]?=some r→b[i]?=some s→r.length=s.length
theorem cutC_alike (rows:List (List Int)) (o:(Int×Int)×Int):Alike rows (cutC rows o):=by
 refine ⟨(cutC_len rows o).symm,fun i r s h g=>?_⟩
 unfold cutC at g
 by_cases e:o.1.2.toNat=i
 ·subst e
  rw [List.getElem?_set_self (List.getElem?_eq_some_iff.mp h).1] at g
  cases g
  rw [h,Option.getD_some,List.length_set]
 ·rw [List.getElem?_set_ne e,h] at g
  cases g
  rfl
theorem Alike.ins {a b:List (List Int)} (h:Alike a b) (c:Int×Int):ins a c=ins b c:=by
 unfold Car.ins
 have hw:(a.headD []).length=(b.headD []).length:=by
  cases a with
  | nil =>
   cases b with
   | nil=>rfl
   | cons s b=>exact absurd h.1 (by simp)
  | cons r a =>
   cases b with
   | nil=>exact absurd h.1 (by simp)
   | cons s b=>exact h.2 0 r s rfl rfl
 rw [h.1,hw]
theorem Alike.rect {a b:List (List Int)} (h:Alike a b) (R:Rect a):Rect b:=by
 have hw:(a.headD []).length=(b.headD []).length:=by
  cases a with
  | nil=>exact absurd rfl R.1
  | cons r a =>
   cases b with
   | nil=>exact absurd h.1 (by simp)
   | cons s b=>exact h.2 0 r s rfl rfl
 refine ⟨fun z=>?_,fun s hs=>?_⟩
 ·have e:=h.1
  rw [z] at e
  cases a with
  | nil=>exact R.1 rfl
  | cons r a=>cases e
 ·obtain ⟨i,hi⟩:=List.getElem?_of_mem hs
  have hia:i < a.length:=by rw [h.1]; exact (List.getElem?_eq_some_iff.mp hi).1
  have e:=List.getElem?_eq_getElem hia
  rw [← h.2 i _ _ e hi,← hw]
  exact R.2 _ (List.getElem_mem hia)
theorem hgt_cut {rows:List (List Int)} (R:Rect rows) {c d:Int×Int} {h:Int} (hc:ins rows c=true) (hd:ins rows d=true):hgt (cutC rows (c,h)) d=if d=c then mn (hgt rows c) h else hgt rows d:=by
 obtain ⟨i,j,row,v,e1,e2,e3,e4⟩:=ins_at hc R
 obtain ⟨k,l,row2,v2,f1,f2,f3,f4⟩:=ins_at hd R
 subst e1
 subst f1
 have hi:=(List.getElem?_eq_some_iff.mp e2).1
 have hj:=(List.getElem?_eq_some_iff.mp e3).1
 unfold cutC
 simp only [Int.toNat_natCast]
 rw [e2,Option.getD_some]
 by_cases ik:i=k
 ·subst ik
  rw [e2] at f2
  cases f2
  by_cases jl:j=l
  ·subst jl
   rw [if_pos rfl]
   unfold hgt
   simp only [Int.toNat_natCast]
   rw [List.getElem?_set_self hi,Option.bind_some,List.getElem?_set_self hj]
   rfl
  ·rw [if_neg (fun z=>jl (by have:=congrArg Prod.fst z; simp at this; lia))]
   unfold hgt
   simp only [Int.toNat_natCast]
   rw [List.getElem?_set_self hi,Option.bind_some,List.getElem?_set_ne jl,e2,Option.bind_some]
 ·rw [if_neg (fun z=>ik (by have:=congrArg Prod.snd z; simp at this; lia))]
  unfold hgt
  simp only [Int.toNat_natCast]
  rw [List.getElem?_set_ne ik]
def cutsF (rows:List (List Int)) (os:List ((Int×Int)×Int)):List (List Int):=os.foldl cutC rows
theorem le_cuts {d:Int×Int}:∀ (os:List ((Int×Int)×Int)) (rows:List (List Int)),Rect rows→(∀ o∈os,ins rows o.1=true)→ins rows d=true→∀ z,z≤hgt (cutsF rows os) d↔z≤hgt rows d∧∀ o∈os,o.1=d→z≤o.2
 | [],rows,R,_,hd,z=>⟨fun h=>⟨h,fun _ m=>(List.not_mem_nil m).elim⟩,fun h=>h.1⟩
 | (c,h) :: os,rows,R,hi,hd,z=>by
  have A:=cutC_alike rows (c,h)
  have hc:=hi (c,h) List.mem_cons_self
  have ih:=le_cuts (d:=d) os (cutC rows (c,h)) (A.rect R) (fun o m=>by rw [← A.ins]; exact hi o (List.mem_cons_of_mem _ m)) (by rw [← A.ins]; exact hd) z
  show z≤hgt (cutsF (cutC rows (c,h)) os) d↔_
  rw [ih,hgt_cut R hc hd]
  by_cases e:d=c
  ·subst e
   rw [if_pos rfl,le_mn]
   constructor
   ·rintro ⟨⟨a,b⟩,k⟩
    refine ⟨a,fun o m=>?_⟩
    rcases List.mem_cons.mp m with rfl | m
    ·exact fun _=>b
    ·exact k o m
   ·rintro ⟨a,k⟩
    exact ⟨⟨a,k (d,h) List.mem_cons_self rfl⟩,fun o m=>k o (List.mem_cons_of_mem _ m)⟩
  ·rw [if_neg e]
   constructor
   ·rintro ⟨a,k⟩
    refine ⟨a,fun o m=>?_⟩
    rcases List.mem_cons.mp m with rfl | m
    ·exact fun z=>absurd z.symm e
    ·exact k o m
   ·rintro ⟨a,k⟩
    exact ⟨a,fun o m=>k o (List.mem_cons_of_mem _ m)⟩
theorem eq_of_le {a b:Int} (h:∀ z,z≤a↔z≤b):a=b:=Int.le_antisymm ((h a).mp (Int.le_refl _)) ((h b).mpr (Int.le_refl _))
def cellsR (w:Nat) (y:Nat):List (Int×Int):=(List.range w).map fun (x:Nat)=>((x:Int),(y:Int))
def cellsF:Nat→List (List Int)→List (Int×Int)
 | _,[]=>[]
 | y,r :: rows=>cellsR r.length y++cellsF (y + 1) rows
abbrev Tool:=List (Int×Int)×Int
def opsP (bed wished:List (List Int)) (t:Tool) (p:Int×Int):List ((Int×Int)×Int):=(und bed t.1 p.1 p.2).map fun c=>(c,mxD 0 ((und bed t.1 p.1 p.2).map (hgt wished)))
def opsT (bed wished:List (List Int)) (t:Tool):List ((Int×Int)×Int):=(cellsF 0 bed).flatMap (opsP bed wished t)
def opsS (bed wished:List (List Int)) (ts:List Tool):List ((Int×Int)×Int):=ts.flatMap (opsT bed wished)
def hadF (bed wished:List (List Int)) (ts:List Tool):List (List Int):=cutsF bed (opsS bed wished ts)
theorem mem_cellsF:∀ (rows:List (List Int)) (y:Nat) (c:Int×Int),c∈cellsF y rows↔∃ (i x:Nat) (r:List Int),rows[i]?=some r∧x < r.length∧c=((x:Int),((y + i:Nat):Int))
 | [],y,c=>⟨fun h=>(List.not_mem_nil h).elim,fun ⟨i,x,r,h,_⟩=>by cases h⟩
 | r :: rows,y,c=>by
  rw [cellsF,List.mem_append,mem_cellsF rows (y + 1) c]
  constructor
  ·rintro (h | ⟨i,x,r',h1,h2,h3⟩)
   ·obtain ⟨x,hx,rfl⟩:=List.mem_map.mp h
    exact ⟨0,x,r,rfl,List.mem_range.mp hx,rfl⟩
   ·exact ⟨i + 1,x,r',h1,h2,by rw [h3,show y + 1 + i=y + (i + 1) by lia]⟩
  ·rintro ⟨i,x,r',h1,h2,h3⟩
   cases i with
   | zero =>
    cases h1
    exact .inl (List.mem_map.mpr ⟨x,List.mem_range.mpr h2,h3.symm⟩)
   | succ i=>exact .inr ⟨i,x,r',h1,h2,by rw [h3,show y + 1 + i=y + (i + 1) by lia]⟩
theorem mem_cells {rows:List (List Int)} (R:Rect rows) (c:Int×Int):c∈cellsF 0 rows↔ins rows c=true:=by
 rw [mem_cellsF]
 constructor
 ·rintro ⟨i,x,r,h1,h2,rfl⟩
  have hi:=(List.getElem?_eq_some_iff.mp h1).1
  have hw:=R.2 r (List.mem_of_getElem? h1)
  exact decide_eq_true ⟨show (0:Int)≤((0 + i:Nat):Int) by lia,show ((0 + i:Nat):Int) < (rows.length:Int) by lia,show (0:Int)≤(x:Int) by lia,show (x:Int) < ((rows.headD []).length:Int) by lia⟩
 ·intro h
  obtain ⟨i,j,row,v,e1,e2,e3,_⟩:=ins_at h R
  exact ⟨i,j,row,e2,(List.getElem?_eq_some_iff.mp e3).1,by rw [e1,Nat.zero_add]⟩
theorem mem_ops {bed wished:List (List Int)} (R:Rect bed) {ts:List Tool} {o:(Int×Int)×Int}:o∈opsS bed wished ts↔∃ t∈ts,∃ s∈t.1,∃ p,ins bed p=true∧o.1=shf p.1 p.2 s∧ins bed o.1=true∧o.2=mxD 0 ((und bed t.1 p.1 p.2).map (hgt wished)):=by
 unfold opsS opsT
 constructor
 ·intro h
  obtain ⟨t,ht,h⟩:=List.mem_flatMap.mp h
  obtain ⟨p,hp,h⟩:=List.mem_flatMap.mp h
  obtain ⟨c,hc,rfl⟩:=List.mem_map.mp h
  obtain ⟨hc1,hc2⟩:=List.mem_filter.mp hc
  obtain ⟨s,hs,rfl⟩:=List.mem_map.mp hc1
  exact ⟨t,ht,s,hs,p,(mem_cells R p).mp hp,rfl,hc2,rfl⟩
 ·rintro ⟨t,ht,s,hs,p,hp,e1,e2,e3⟩
  refine List.mem_flatMap.mpr ⟨t,ht,List.mem_flatMap.mpr ⟨p,(mem_cells R p).mpr hp,List.mem_map.mpr ⟨o.1,List.mem_filter.mpr ⟨List.mem_map.mpr ⟨s,hs,e1.symm⟩,e2⟩,?_⟩⟩⟩
  rw [← e3]
theorem ops_in {bed wished:List (List Int)} (R:Rect bed) {ts:List Tool}:∀ o∈opsS bed wished ts,ins bed o.1=true:=fun o h=>by
 obtain ⟨t,_,s,_,p,_,_,e,_⟩:=(mem_ops R).mp h
 exact e
theorem le_had {bed wished:List (List Int)} (R:Rect bed) {ts:List Tool} {d:Int×Int} (hd:ins bed d=true) (z:Int):z≤hgt (hadF bed wished ts) d↔z≤hgt bed d∧∀ t∈ts,∀ s∈t.1,∀ p,ins bed p=true→d=shf p.1 p.2 s→z≤mxD 0 ((und bed t.1 p.1 p.2).map (hgt wished)):=by
 unfold hadF
 rw [le_cuts _ bed R (ops_in R) hd]
 constructor
 ·rintro ⟨a,k⟩
  refine ⟨a,fun t ht s hs p hp e=>?_⟩
  exact k (d,mxD 0 ((und bed t.1 p.1 p.2).map (hgt wished))) ((mem_ops R).mpr ⟨t,ht,s,hs,p,hp,e,hd,rfl⟩) rfl
 ·rintro ⟨a,k⟩
  refine ⟨a,fun o ho e=>?_⟩
  obtain ⟨t,ht,s,hs,p,hp,e1,e2,e3⟩:=(mem_ops R).mp ho
  rw [e3]
  exact k t ht s hs p hp (e ▸ e1)
end Car
namespace L2
open PySem PySem.Spec PyProof.Rows
end L2
namespace Car
open PySem L2
seal L2.PE L2.PT L2.PW L2.PA L2.PS L2.PSs L2.PG L2.PGs L2.PI L2.PSet L2.OpR L2.UnR L2.CallR L2.TruR L2.IxR L2.SlR L2.PO L2.PK L2.PX L2.PIfs
theorem ne_new {H:Hp} {a b:Addr} {o:HO} (h:H a=some o) (g:H b=none):b≠a:=fun z=>by rw [z,h] at g; cases g
def Small (rows:List (List Int)):Prop:=rows.length≤40∧∀ r∈rows,r.length≤40
section
variable {P:Program} {w:World} {K:PySem.W.Frag} {mg:Str→Option Value} {base:Heap} {f:Addr} {fd':FuncData}
theorem RowsAt.mem {H:Hp}:∀ {rs:List Addr} {rows:List (List Int)} {r:Addr},RowsAt H rs rows→r∈rs→∃ xs,H r=some (.lst xs)
 | _ :: _,_ :: _,r,h,m=>by
  rcases List.mem_cons.mp m with rfl | m
  ·exact ⟨_,h.1⟩
  ·exact RowsAt.mem h.2 m
 | [],_,_,_,m=>by cases m
 | _ :: _,[],_,h,_=>h.elim
theorem RowsAt.set {H:Hp} {a:Addr} {row:List Int}:∀ {rs:List Addr} {rows:List (List Int)} {i:Nat},rs.Nodup→RowsAt H rs rows→rs[i]?=some a→RowsAt (upd H a (.lst (row.map V.int))) rs (rows.set i row)
 | r :: rs,s :: rows,0,nd,h,e=>by
  cases e
  have n:=(List.nodup_cons.mp nd).1
  refine ⟨upd_same,?_⟩
  have keep:∀ {ts:List Addr} {us:List (List Int)},(∀ t∈ts,t≠a)→RowsAt H ts us→RowsAt (upd H a (.lst (row.map V.int))) ts us:=by
   intro ts
   induction ts with
   | nil =>
    intro us _ h
    cases us with
    | nil=>exact True.intro
    | cons u us=>exact h.elim
   | cons t ts ih =>
    intro us k h
    cases us with
    | nil=>exact h.elim
    | cons u us=>exact ⟨by rw [upd_ne (k t List.mem_cons_self)]; exact h.1,ih (fun x hx=>k x (List.mem_cons_of_mem _ hx)) h.2⟩
  exact keep (fun t ht z=>n (by rw [← z]; exact ht)) h.2
 | r :: rs,s :: rows,i + 1,nd,h,e=>by
  have n:=(List.nodup_cons.mp nd).1
  have m:a∈rs:=List.mem_of_getElem? (i:=i) (by simpa using e)
  refine ⟨?_,RowsAt.set (i:=i) (List.nodup_cons.mp nd).2 h.2 (by simpa using e)⟩
  rw [upd_ne (fun z=>n (by rw [z]; exact m))]
  exact h.1
 | [],_,_,_,_,e=>by cases e
 | _ :: _,[],_,_,h,_=>h.elim
theorem ixN_nat {n j:Nat} (h:j < n):ixN n (j:Int)=some j:=by
 unfold ixN
 rw [if_pos (by lia),if_pos (by lia)]
 simp
end
def CtAt (H:Hp) (ct:Addr) (t:Tool):Prop:=∃ ft,H ct=some (.tup [.ref ft,.int t.2])∧FtAt H ft t.1
theorem CtAt.same {H H':Hp} {ct:Addr} {t:Tool} (h:CtAt H ct t) (s:Same H H'):CtAt H' ct t:=by
 obtain ⟨ft,a,b⟩:=h
 exact ⟨ft,s _ _ a,b.same s⟩
def CtsAt (H:Hp):List Addr→List Tool→Prop
 | [],[]=>True
 | c :: cs,t :: ts=>CtAt H c t∧CtsAt H cs ts
 | _,_=>False
theorem CtsAt.same {H H':Hp} (s:Same H H'):∀ {cs:List Addr} {ts:List Tool},CtsAt H cs ts→CtsAt H' cs ts
 | [],[],_=>True.intro
 | _ :: _,_ :: _,h=>⟨h.1.same s,CtsAt.same s h.2⟩
 | [],_ :: _,h=>h.elim
 | _ :: _,[],h=>h.elim
theorem CtsAt.len {H:Hp}:∀ {cs:List Addr} {ts:List Tool},CtsAt H cs ts→cs.length=ts.length
 | [],[],_=>rfl
 | _ :: _,_ :: _,h=>by rw [List.length_cons,List.length_cons,CtsAt.len h.2]
 | [],_ :: _,h=>h.elim
 | _ :: _,[],h=>h.elim
theorem CtsAt.at_ {H:Hp}:∀ {cs:List Addr} {ts:List Tool} {i:Nat} {c:Addr},CtsAt H cs ts→cs[i]?=some c→∃ t,ts[i]?=some t∧CtAt H c t
 | [],[],_,_,_,e=>by cases e
 | _ :: _,t :: _,0,_,h,e=>by cases e; exact ⟨t,rfl,h.1⟩
 | _ :: _,_ :: _,i + 1,_,h,e=>by
  obtain ⟨t,a,b⟩:=CtsAt.at_ (i:=i) h.2 e
  exact ⟨t,a,b⟩
 | [],_ :: _,_,_,h,_=>h.elim
 | _ :: _,[],_,_,h,_=>h.elim
def ShAt (H:Hp) (sh:Addr) (ts:List Tool):Prop:=∃ cs,H sh=some (.lst (cs.map V.ref))∧CtsAt H cs ts
theorem ShAt.same {H H':Hp} {sh:Addr} {ts:List Tool} (h:ShAt H sh ts) (s:Same H H'):ShAt H' sh ts:=by
 obtain ⟨cs,a,b⟩:=h
 exact ⟨cs,s _ _ a,b.same s⟩
theorem RowsAt.keep {H H':Hp}:∀ {rs:List Addr} {rows:List (List Int)},(∀ r∈rs,∀ o,H r=some o→H' r=some o)→RowsAt H rs rows→RowsAt H' rs rows
 | [],[],_,_=>True.intro
 | r :: _,_ :: _,k,h=>⟨k r List.mem_cons_self _ h.1,RowsAt.keep (fun x hx=>k x (List.mem_cons_of_mem _ hx)) h.2⟩
 | [],_ :: _,_,h=>h.elim
 | _ :: _,[],_,h=>h.elim
theorem RowsAt.snoc {H:Hp} {r:Addr} {row:List Int} (e:H r=some (.lst (row.map V.int))):∀ {rs:List Addr} {rows:List (List Int)},RowsAt H rs rows→RowsAt H (rs++[r]) (rows++[row])
 | [],[],_=>⟨e,True.intro⟩
 | _ :: _,_ :: _,h=>⟨h.1,RowsAt.snoc e h.2⟩
 | [],_ :: _,h=>h.elim
 | _ :: _,[],h=>h.elim
section
variable {P:Program} {w:World} {K:PySem.W.Frag} {mg:Str→Option Value} {base:Heap} {f:Addr} {fd':FuncData}
theorem lc_rows {b:Addr} {rs:List Addr} {rows:List (List Int)} {te:TE} {H1:Hp} {A:Hp→Prop} (hb:H1 b=some (.lst (rs.map V.ref))) (ra:RowsAt H1 rs rows) (sm:rows.length≤1000)
  (hte:∀ (r:Addr) (row:List Int) (H2:Hp) (R:VK),H2 r=some (.lst (row.map V.int))→(∀ p,H2 p=none→R (.ref p) (upd H2 p (.lst (row.map V.int))))→te [some (.ref r)] H2 R) {D:Addr} (hD:H1 D=none)
  (q:∀ (hs:List Addr) (H':Hp),Same H1 H'→H' D=some (.lst (hs.map V.ref))→RowsAt H' hs rows→hs.Nodup→(∀ h∈hs,H1 h=none)→D ∉ hs→A H') :
  ∃ W:Nat→Nat→St→List V→Hp→Prop,(∃ m,W 0 m [none] [] (upd H1 D (.lst []))) ∧
   ∀ i m σ' acc H,W i m σ' acc H→((Itl K b).stop i H∧A H)∨((Itl K b).go i H∧∀ x H',(Itl K b).yld i H x H'→gName 0 x σ' H' fun σ2 H2=>tNoIf σ2 H2 fun b H3 =>
    if b=true then te σ2 H3 fun y H4=>H4 D=some (.lst acc)∧acc.length < sizeLine∧∃ m',m' < m∧W (i + 1) m' σ2 (acc++[y]) (upd H4 D (.lst (acc++[y]))) else ∃ m',m' < m∧W (i + 1) m' σ2 acc H3):=by
 have rsl:=ra.len
 refine ⟨Wd rows.length (fun i σ acc H2=>∃ (z:Option V) (hs:List Addr),σ=[z]∧acc=hs.map V.ref∧RowsAt H2 hs (rows.take i)∧(∀ h∈hs,H1 h=none)∧D ∉ hs∧hs.Nodup∧Same H1 H2∧H2 D=some (.lst acc)),wd_0 ⟨none,[],rfl,rfl,by rw [List.take_zero]; exact True.intro,fun _ h=>(List.not_mem_nil h).elim,List.not_mem_nil,List.nodup_nil,same_upd hD _,upd_same⟩,?_⟩
 rintro i im σ acc H2 ⟨rfl,hi0,z,hs,rfl,rfl,rh,nh,nD,ndh,s2,hD2⟩
 refine lc_ask (K:=K) (xs:=rs.map V.ref) (SqL.of (s2 _ _ hb)) (by rw [List.length_map,rsl]; exact hi0) (fun x hx hi=>?_) (fun hend=>?_)
 ·obtain ⟨r,hr',rfl⟩:=ref_get hx
  have hi':i < rows.length:=by rw [List.length_map,rsl] at hi; exact hi
  obtain ⟨r',e1,e2⟩:=ra.at_ (List.getElem?_eq_getElem hi')
  have e3:r=r':=by rw [hr'] at e1; cases e1; rfl
  subst e3
  have hsl:=rh.len
  rw [List.length_take] at hsl
  show te [some (.ref r)] H2 _
  refine hte r rows[i] H2 _ (s2 _ _ e2) fun p hp=>?_
  have u:=same_upd hp (.lst ((rows[i]).map V.int))
  have np:=ne_new hD2 hp
  refine ⟨u _ _ hD2,(by rw [List.length_map]; exact line3 (show hs.length≤1000 by lia) (by decide)),wd_next hi' ⟨_,hs++[p],rfl,by rw [List.map_append]; rfl,?_,fun h hh=>?_,fun z=>?_,?_,same_in (s2.trans u) hD,upd_same⟩⟩
  ·rw [List.take_add_one,List.getElem?_eq_getElem hi']
   refine RowsAt.snoc (by rw [upd_ne np,upd_same]) (rh.keep fun r hr o e=>?_)
   rw [upd_ne (fun z=>nD (by rw [← z]; exact hr))]
   exact u _ _ e
  ·rcases List.mem_append.mp hh with hh | hh
   ·exact nh h hh
   ·rw [show h=p by simpa using hh]; exact s2.free hp
  ·rcases List.mem_append.mp z with z | z
   ·exact nD z
   ·exact np (List.mem_singleton.mp z).symm
  ·refine List.nodup_append.mpr ⟨ndh,by simp,fun a ha b hb e=>?_⟩
   rw [show b=p by simpa using hb] at e
   obtain ⟨xs,hx⟩:=rh.mem ha
   rw [e,hp] at hx
   cases hx
 ·rw [List.length_map,rsl] at hend
  rw [hend,List.take_of_length_le (Nat.le_refl _)] at rh
  exact q hs H2 s2 hD2 rh ndh nh nD
end
def shb (x y:Int) (c:Int×Int):Int×Int:=(x - c.1,y - c.2)
def ovs (rows:List (List Int)) (foot:List (Int×Int)) (x y:Int):List (Int×Int):=(foot.map (shb x y)).filter (ins rows)
theorem mv_paired {K:PySem.W.Frag} {H:Hp}:∀ {ts:List Addr} {cs:List (Int×Int)},MvAt H ts (cs.map pr)→Paired (fun t (c:Int×Int)=>SqT K H t [.int c.1,.int c.2]) ts cs
 | [],[],_=>.nil
 | _ :: _,_ :: _,h=>.cons (SqT.of h.1) (mv_paired h.2)
 | [],_ :: _,h=>h.elim
 | _ :: _,[],h=>h.elim
theorem mv_pairedH {H:Hp}:∀ {ts:List Addr} {cs:List (Int×Int)},MvAt H ts (cs.map pr)→Paired (fun t (c:Int×Int)=>H t=some (.tup (pr c))) ts cs
 | [],[],_=>.nil
 | _ :: _,_ :: _,h=>.cons h.1 (mv_pairedH h.2)
 | [],_ :: _,h=>h.elim
 | _ :: _,[],h=>h.elim
theorem paired_mv {H:Hp}:∀ {ts:List Addr} {cs:List (Int×Int)},Paired (fun t (c:Int×Int)=>H t=some (.tup (pr c))) ts cs→MvAt H ts (cs.map pr)
 | _,_,.nil=>True.intro
 | _,_,.cons h r=>⟨h,paired_mv r⟩
theorem bt_sorted:bootBuiltins "sorted"=some (.builtin "sorted"):=by decide +kernel
def SrtOf (cs:List (Int×Int)) (ds:List (Int×Int)):Prop:=ds.Perm cs∧ds.Pairwise fun a b=>rkP a≤rkP b
section
variable {P:Program} {w:World} {K:PySem.W.Frag} {mg:Str→Option Value} {base:Heap} {f:Addr} {fd':FuncData}
def spPlaces:Sp:=fun vs H Q _=>∃ (b ct ft:Addr) (tv:V) (x y:Int) (rows:List (List Int)) (foot:List (Int×Int)),vs=[.ref b,.ref ct,.int x,.int y]∧BdAt H b rows∧rows≠[]∧rows.length≤40∧H ct=some (.tup [.ref ft,tv])∧FtAt H ft foot∧foot.length < 64 ∧
 ∀ D H' ds,H D=none→Same H H'→FtAt H' D ds→SrtOf (ovs rows foot x y) ds→Q (.ref D) H'
theorem scPlaces:FnScope ["bed","cutter","x","y"] ["bed","cutter","x","y"] (defScope sPlaces):=⟨rfl,rfl,rfl,by decide +kernel,rfl,by decide +kernel,by decide +kernel⟩
theorem ok_places (hso:mg "sorted"=none) (FW:Fn P w K mg base "within" 1 ["bed","cells"] spWithin) (F:Fun K "places_over" "places_over" sPlaces f fd'):FnOk P w K mg base (CX1 P w) 2 f fd' ["bed","cutter","x","y"] spPlaces:=by
 have nd:=scPlaces.nd
 refine F.ok1 scPlaces (fun vs H Q E h=>?_) (fun cdv A outer s H vs Q E hr h=>?_)
 ·obtain ⟨b,ct,ft,tv,x,y,rows,foot,rfl,_⟩:=h
  rfl
 obtain ⟨b,ct,ft,tv,x,y,rows,foot,rfl,hb,hne,h40,hct,⟨ts,hft,mvf⟩,hl,q⟩:=h
 have hr1:Room 1 _:=hr.mono (by decide)
 have tl:ts.length=foot.length:=by rw [mvf.len,List.length_map]
 refine ⟨_,(pss_one (ps_ret (pe_callB call_sortP rfl hso bt_sorted (pa_cons (pf_call FW hr1 rfl (pass1 (E:=E)) (pa_cons (pv 0) (pa_cons (pe_lc (own:=["step"]) (capn:=["x","y"]) (capI:=[2,3]) rfl (blkC (defScope sPlaces) rfl rfl (by decide +kernel) rfl (fun y hy=>by rcases List.mem_cons.mp hy with rfl | hy; exact ⟨rfl,rfl⟩; rcases List.mem_cons.mp hy with rfl | hy; exact ⟨rfl,rfl⟩; cases hy)) (pi_list (pe_ix ix_tup (pv 1) pe_int (fun _ _=>rfl))) (fun _ _ _ _ _ _=>pg_name (i:=0) nd3 rfl (Or.inl rfl)) (fun _ _ _ _ _ _=>pifs_nil) (fun _ _ _ _ _ _=>(pe_tup (pa_cons (pe_op op_sub (pv 1) (pe_ix (ix_tupK (K:=K) rfl) (pv 0) pe_int (fun _ _=>rfl))) (pa_cons (pe_op op_sub (pv 2) (pe_ix (ix_tupK (K:=K) rfl) (pv 0) pe_int (fun _ _=>rfl))) pa_nil))))) pa_nil))) pa_nil)))),?_⟩
 refine ⟨_,rfl,_,rfl,ct,_,0,.ref ft,rfl,rfl,SqT.of hct,rfl,ft,rfl,⟨_,SqL.of hft⟩,fun D hD=>?_⟩
 obtain ⟨g,hg⟩:∃ g:V→Int×Int,∀ t c,MvAt H [t] [pr c]→g (.ref t)=c:=by
  refine ⟨fun v=>match v with | .ref t=>(match H t with | some (.tup [.int a,.int b])=>(a,b) | _=>(0,0)) | _=>(0,0),fun t c h=>?_⟩
  have e:H t=some (.tup [.int c.1,.int c.2]):=h.1
  simp only [e]
 have gall:∀ (us:List Addr) (cs:List (Int×Int)),MvAt H us (cs.map pr)→(us.map V.ref).map (fun v=>pr (shb x y (g v)))=(cs.map (shb x y)).map pr:=by
  intro us
  induction us with
  | nil =>
   intro cs h
   cases cs with
   | nil=>rfl
   | cons c cs=>exact h.elim
  | cons u us ih =>
   intro cs h
   cases cs with
   | nil=>exact h.elim
   | cons c cs =>
    rw [List.map_cons,List.map_cons,List.map_cons,List.map_cons,ih cs h.2,hg u c ⟨h.1,True.intro⟩]
 refine lc_tupC (K:=K) (xs:=ts.map V.ref) (F:=fun v=>pr (shb x y (g v))) [some (.int x),some (.int y)] (SqL.of hft) (by rw [List.length_map]; lia) (fun v hv H2 R s2 r=>?_) hD (fun us H2 s2 hD2 mv2=>?_)
 ·obtain ⟨t,ht,rfl⟩:=List.mem_map.mp hv
  obtain ⟨i,hi⟩:=List.getElem?_of_mem ht
  have hif:i < foot.length:=by have:=(List.getElem?_eq_some_iff.mp hi).1; lia
  have e1:=mvf.at_ hi (by rw [List.getElem?_map,List.getElem?_eq_getElem hif]; rfl)
  have e2:=s2 _ _ e1
  have e3:=hg t _ ⟨e1,True.intro⟩
  generalize foot[i]=c1 at e1 e2 e3
  rw [e3] at r
  exact ⟨_,rfl,_,rfl,t,_,0,.int c1.1,rfl,rfl,SqT.of e2,rfl,_,_,rfl,rfl,_,rfl,_,rfl,t,_,1,.int c1.2,rfl,rfl,SqT.of e2,rfl,_,_,rfl,rfl,le2,r⟩
 ·rw [gall ts foot mvf] at mv2
  refine ⟨b,D,rows,foot.map (shb x y),rfl,hb.same s2,hne,⟨us,hD2,mv2⟩,by rw [List.length_map]; lia,fun D2 H3 n3 s3 h3=>?_⟩
  obtain ⟨ts3,h31,h32⟩:=h3
  have l3:ts3.length=(ovs rows foot x y).length:=by rw [h32.len,List.length_map]; rfl
  have lo:(ovs rows foot x y).length≤foot.length:=by
   unfold ovs
   exact Nat.le_trans (List.length_filter_le _ _) (by rw [List.length_map]; exact Nat.le_refl _)
  refine ⟨D2,ts3,ovs rows foot x y,rfl,SqL.of h31,mv_paired h32,by lia,fun c hc=>?_,fun D4 us4 ds n4 perm pw ul rel=>?_⟩
  ·have hi:=(List.mem_filter.mp hc).2
   unfold ins at hi
   have:=of_decide_eq_true hi
   unfold inP
   lia
  ·have u4:=same_upd n4 (.lst (us4.map V.ref))
   refine q D4 _ ds ((s2.trans s3).free n4) ((s2.trans s3).trans u4) ⟨us4,upd_same,(paired_mv (rel _ (mv_pairedH h32))).same u4⟩ ⟨perm,pw⟩
def spLowest:Sp:=fun vs H Q _=>∃ (b ct ft:Addr) (tv:V) (x y:Int) (rows:List (List Int)) (foot:List (Int×Int)),vs=[.ref b,.ref ct,.int x,.int y]∧BdAt H b rows∧Rect rows∧H ct=some (.tup [.ref ft,tv])∧FtAt H ft foot∧foot.length≤1000∧∀ H',Same H H'→Q (.int (lowAt rows foot x y)) H'
theorem scLowest:FnScope ["wished","cutter","x","y"] ["wished","cutter","x","y"] (defScope sLowest):=⟨rfl,rfl,rfl,by decide +kernel,rfl,by decide +kernel,by decide +kernel⟩
theorem ok_lowest (FU:Fn P w K mg base "cells_under" 2 ["bed","cutter","x","y"] spUnder) (FG:Fn P w K mg base "greatest" 1 ["bed","cells"] spGreat) (F:Fun K "lowest_at" "lowest_at" sLowest f fd'):FnOk P w K mg base (CX1 P w) 3 f fd' ["wished","cutter","x","y"] spLowest:=by
 have nd:=scLowest.nd
 refine F.ok1 scLowest (fun vs H Q E h=>?_) (fun cdv A outer s H vs Q E hr h=>?_)
 ·obtain ⟨b,ct,ft,tv,x,y,rows,foot,rfl,_⟩:=h
  rfl
 obtain ⟨b,ct,ft,tv,x,y,rows,foot,rfl,hb,rect,hct,hft,hl,q⟩:=h
 have hr1:Room 1 _:=hr.mono (by decide)
 have hr2:Room 2 _:=hr.mono (by decide)
 refine ⟨_,(pss_one (ps_ret (pf_call FG hr1 rfl (pass1 (E:=E)) (pa_cons (pv 0) (pa_cons (pf_call FU hr2 rfl (pass1 (E:=E)) (pa_cons (pv 0) (pa_cons (pv 1) (pa_cons (pv 2) (pa_cons (pv 3) pa_nil))))) pa_nil))))),?_⟩
 refine ⟨_,rfl,_,rfl,_,rfl,_,rfl,_,rfl,b,ct,ft,tv,x,y,rows,foot,rfl,hb,rect.1,hct,hft,hl,fun D H1 _ s1 hD=>?_⟩
 exact ⟨b,D,rows,und rows foot x y,rfl,hb.same s1,rect,hD,Nat.le_trans (List.length_filter_le _ _) (by rw [List.length_map]; exact hl),fun c hc=>(List.mem_filter.mp hc).2,fun H2 s2=>q H2 (s1.trans s2)⟩
end
theorem und_alike {a b:List (List Int)} (h:Alike a b) (foot:List (Int×Int)) (x y:Int):und a foot x y=und b foot x y:=by
 unfold und
 exact List.filter_congr fun c _=>h.ins c
theorem shb_shf {x y:Int} {s p:Int×Int}:p=shb x y s↔(x,y)=shf p.1 p.2 s:=by
 rcases p with ⟨p1,p2⟩
 rcases s with ⟨s1,s2⟩
 unfold shb shf
 simp only [Prod.mk.injEq]
 lia
theorem mem_ovs {rows:List (List Int)} {foot:List (Int×Int)} {x y:Int} {p:Int×Int}:p∈ovs rows foot x y↔ins rows p=true∧∃ s∈foot,(x,y)=shf p.1 p.2 s:=by
 unfold ovs
 rw [List.mem_filter,List.mem_map]
 constructor
 ·rintro ⟨⟨s,hs,e⟩,h⟩
  exact ⟨h,s,hs,shb_shf.mp e.symm⟩
 ·rintro ⟨h,s,hs,e⟩
  exact ⟨⟨s,hs,(shb_shf.mpr e).symm⟩,h⟩
theorem had_over {bed wished:List (List Int)} (R:Rect bed) (A:Alike bed wished) {ts:List Tool} {x y n:Int} (hin:ins bed (x,y)=true) (h:∀ z,z≤n↔z≤hgt bed (x,y)∧∀ t∈ts,∀ p∈ovs bed t.1 x y,z≤lowAt wished t.1 p.1 p.2):n=hgt (hadF bed wished ts) (x,y):=by
 refine eq_of_le fun z=>?_
 rw [h z,le_had R hin]
 constructor
 ·rintro ⟨a,k⟩
  refine ⟨a,fun t ht s hs p hp e=>?_⟩
  have:=k t ht p (mem_ovs.mpr ⟨hp,s,hs,e⟩)
  unfold lowAt at this
  rw [← und_alike A] at this
  exact this
 ·rintro ⟨a,k⟩
  refine ⟨a,fun t ht p hp=>?_⟩
  obtain ⟨h1,s,hs,e⟩:=mem_ovs.mp hp
  unfold lowAt
  rw [← und_alike A]
  exact k t ht s hs p h1 e
theorem take_snoc {α:Type} {xs:List α} {i:Nat} {x:α} (h:xs[i]?=some x):xs.take (i + 1)=xs.take i++[x]:=by
 rw [List.take_add_one,h]
 rfl
section
variable {P:Program} {w:World} {K:PySem.W.Frag} {mg:Str→Option Value} {base:Heap} {f:Addr} {fd':FuncData}
def spOver:Sp:=fun vs H Q _=>∃ (b wh sh:Addr) (x y:Int) (bed wished:List (List Int)) (ts:List Tool),vs=[.ref b,.ref wh,.ref sh,.int x,.int y]∧BdAt H b bed∧BdAt H wh wished∧ShAt H sh ts∧Rect bed∧Alike bed wished∧Small bed∧(∀ t∈ts,t.1.length < 64)∧ins bed (x,y)=true∧∀ H',Same H H'→Q (.int (hgt (hadF bed wished ts) (x,y))) H'
theorem scOver:FnScope ["bed","wished","shelf","x","y","told","cutter","place"] ["bed","wished","shelf","x","y"] (defScope sLowOver):=⟨rfl,rfl,rfl,by decide +kernel,rfl,by decide +kernel,by decide +kernel⟩
theorem ok_over (T:LawT mg) (FP:Fn P w K mg base "places_over" 2 ["bed","cutter","x","y"] spPlaces) (FL:Fn P w K mg base "lowest_at" 3 ["wished","cutter","x","y"] spLowest) (F:Fun K "lowest_over" "lowest_over" sLowOver f fd'):FnOk P w K mg base (CX1 P w) 4 f fd' ["bed","wished","shelf","x","y"] spOver:=by
 have nd:=scOver.nd
 refine F.ok1 scOver (fun vs H Q E h=>?_) (fun cdv A outer s H vs Q E hr h=>?_)
 ·obtain ⟨b,wh,sh,x,y,bed,wished,ts,rfl,_⟩:=h
  rfl
 obtain ⟨b,wh,sh,x,y,bed,wished,ts,rfl,hb,hw,hs,rect,al,small,feet,hin,q⟩:=h
 have hr2:Room 2 _:=hr.mono (by decide)
 have hr3:Room 3 _:=hr.mono (by decide)
 refine ⟨_,(pss_cons (ps_set (i:=5) nd rfl (Or.inl rfl) (pe_ix ix_list (pe_ix ix_list (pv 0) (pv 4) (fun _ _=>rfl)) (pv 3) (fun _ _=>rfl)))
  (pss_cons (ps_for own1 rfl (pi_list (pv 2)) (pg_name (i:=6) nd rfl (Or.inl rfl)) (pss_one (ps_for own1 rfl (pi_list (pf_call FP hr2 rfl (pass1 (E:=E)) (pa_cons (pv 0) (pa_cons (pv 6) (pa_cons (pv 3) (pa_cons (pv 4) pa_nil)))))) (pg_name (i:=7) nd rfl (Or.inl rfl)) (pss_one (ps_set (i:=5) nd rfl (Or.inl rfl) (pe_callB (call_min2 rfl) rfl T.min bt_min (pa_cons (pv 5) (pa_cons (pf_call FL hr3 rfl (pass1 (E:=E)) (pa_cons (pv 1) (pa_cons (pv 6) (pa_cons (pe_ix ix_tup (pv 7) pe_int (fun _ _=>rfl)) (pa_cons (pe_ix ix_tup (pv 7) pe_int (fun _ _=>rfl)) pa_nil))))) pa_nil))))))))
  (pss_one (ps_ret (pv 5))))),?_⟩
 obtain ⟨i,j,row,v,exy,hrow,hv,hh⟩:=ins_at hin rect
 obtain ⟨rfl,rfl⟩:x=(j:Int)∧y=(i:Int):=by cases exy; exact ⟨rfl,rfl⟩
 obtain ⟨rs,hb1,ra⟩:=id hb
 obtain ⟨r,hr',hrl⟩:=ra.at_ hrow
 refine ⟨_,rfl,_,rfl,b,_,_,.ref r,rfl,rfl,SqL.of hb1,atI_nat (by rw [List.getElem?_map,hr']; rfl),_,rfl,r,_,_,.int v,rfl,rfl,SqL.of hrl,atI_nat (by rw [List.getElem?_map,hv]; rfl),?_⟩
 obtain ⟨cs,hs1,cts⟩:=hs
 have cl:=cts.len
 refine ⟨_,rfl,sh,rfl,⟨_,SqL.of hs1⟩,?_⟩
 refine for_list (K:=K) (a:=sh) (xs:=cs.map V.ref) (fun k σ Hc=>∃ (n:Int) (g6 g7:Option V),σ=[some (.ref b),some (.ref wh),some (.ref sh),some (.int (j:Int)),some (.int (i:Int)),some (.int n),g6,g7]∧(∀ z,z≤n↔z≤hgt bed ((j:Int),(i:Int))∧∀ t∈ts.take k,∀ p∈ovs bed t.1 j i,z≤lowAt wished t.1 p.1 p.2)∧Same H Hc)
  ⟨v,none,none,rfl,fun z=>by rw [hh,List.take_zero]; exact ⟨fun a=>⟨a,fun t ht=>by cases ht⟩,fun a=>a.1⟩,Same.refl _⟩ (fun k σ Hc _ ⟨_,_,_,_,_,s⟩=>SqL.of (s _ _ hs1)) ?_ ?_
 ·rintro k x' σ Hc hx ⟨n,g6,g7,rfl,hn,s1⟩
  obtain ⟨c,hc,rfl⟩:=ref_get hx
  obtain ⟨t,ht,ct⟩:=(cts.same s1).at_ hc
  obtain ⟨ft,hct,hft⟩:=ct
  have htm:t∈ts:=List.mem_of_getElem? ht
  refine ⟨_,rfl,_,rfl,_,rfl,_,rfl,b,c,ft,_,_,_,bed,t.1,rfl,hb.same s1,rect.1,small.1,hct,hft,feet t htm,fun D H2 ds nD s2 hD srt=>?_⟩
  obtain ⟨us,hD1,mvD⟩:=hD
  have ul:us.length=ds.length:=by rw [mvD.len,List.length_map]
  refine ⟨D,rfl,⟨_,SqL.of hD1⟩,?_⟩
  refine for_list (K:=K) (a:=D) (xs:=us.map V.ref) (fun l σ Hd=>∃ (m:Int) (g7:Option V),σ=[some (.ref b),some (.ref wh),some (.ref sh),some (.int (j:Int)),some (.int (i:Int)),some (.int m),some (.ref c),g7]∧(∀ z,z≤m↔z≤n∧∀ p∈ds.take l,z≤lowAt wished t.1 p.1 p.2)∧Same H2 Hd)
   ⟨n,g7,rfl,fun z=>by rw [List.take_zero]; exact ⟨fun a=>⟨a,fun t ht=>by cases ht⟩,fun a=>a.1⟩,Same.refl _⟩ (fun l σ Hd _ ⟨_,_,_,_,s⟩=>SqL.of (s _ _ hD1)) ?_ ?_
  ·rintro l x2 σ Hd hx2 ⟨m,g7',rfl,hm,s3⟩
   obtain ⟨u,hu,rfl⟩:=ref_get hx2
   have hld:l < ds.length:=by have:=(List.getElem?_eq_some_iff.mp hu).1; lia
   have ed:=List.getElem?_eq_getElem hld
   have gu:Hd u=some (.tup (pr ds[l])):=s3 _ _ (mvD.at_ hu (by rw [List.getElem?_map,ed]; rfl))
   generalize ds[l]=p at ed gu
   have s1d:=s1.trans (s2.trans s3)
   have s2d:=s2.trans s3
   refine ⟨_,rfl,_,rfl,_,rfl,_,rfl,u,_,0,.int p.1,rfl,rfl,SqT.of gu,rfl,_,rfl,u,_,1,.int p.2,rfl,rfl,SqT.of gu,rfl,wh,c,ft,_,_,_,wished,t.1,rfl,hw.same s1d,al.rect rect,s2d _ _ hct,hft.same s2d,Nat.le_trans (Nat.le_of_lt (feet t htm)) (by decide),fun He s4=>⟨_,_,rfl,_,_,rfl,fun z=>?_,s3.trans s4⟩⟩
   rw [take_snoc ed]
   have hmz:=hm z
   have hmz':z≤(if lowAt wished t.1 p.1 p.2 < m then lowAt wished t.1 p.1 p.2 else m)↔z≤m∧z≤lowAt wished t.1 p.1 p.2:=by split <;> lia
   rw [hmz',hmz]
   constructor
   ·rintro ⟨⟨a,k1⟩,k2⟩
    refine ⟨a,fun p' hp'=>?_⟩
    rcases List.mem_append.mp hp' with hp' | hp'
    ·exact k1 p' hp'
    ·rw [List.mem_singleton.mp hp']; exact k2
   ·rintro ⟨a,k1⟩
    exact ⟨⟨a,fun p' hp'=>k1 p' (List.mem_append_left _ hp')⟩,k1 p (List.mem_append_right _ (List.mem_singleton.mpr rfl))⟩
  ·rintro σ Hd ⟨m,g7',rfl,hm,s3⟩
   rw [List.length_map,ul,List.take_of_length_le (Nat.le_refl _)] at hm
   refine ⟨m,_,_,rfl,fun z=>?_,s1.trans (s2.trans s3)⟩
   rw [take_snoc ht,hm z,hn z]
   constructor
   ·rintro ⟨⟨a,k1⟩,k2⟩
    refine ⟨a,fun t' ht' p hp=>?_⟩
    rcases List.mem_append.mp ht' with ht' | ht'
    ·exact k1 t' ht' p hp
    ·rw [List.mem_singleton.mp ht'] at hp ⊢
     exact k2 p (srt.1.mem_iff.mpr hp)
   ·rintro ⟨a,k1⟩
    exact ⟨⟨a,fun t' ht'=>k1 t' (List.mem_append_left _ ht')⟩,fun p hp=>k1 t (List.mem_append_right _ (List.mem_singleton.mpr rfl)) p (srt.1.mem_iff.mp hp)⟩
 ·rintro σ Hc ⟨n,g6,g7,rfl,hn,s1⟩
  rw [List.length_map,cl,List.take_of_length_le (Nat.le_refl _)] at hn
  have:=had_over rect al hin hn
  refine ⟨_,rfl,?_⟩
  rw [this]
  exact q Hc s1
end
abbrev sWritten:Stmt:=top 49
abbrev sNumber:Stmt:=top 51
abbrev cl (z:Str):List Nat:=z.cps.toList
abbrev figT:Str:="0123456789"
def wrt (z s:Str):Bool:=(cl z).all fun c=>decide (c∈cl s)
def numS (z:Str):Bool:=(decide (1≤z.length∧z.length≤6) && wrt z figT) && (decide (z="0") || decide (z.cps[0]?≠some 48))
structure WdN (mg:Str→Option Value):Prop where
 all:mg "all"=none
 fig:∃ t,mg "FIGURES"=some (.str figT t)
 mf:∃ t,mg "MOST_FIGURES"=some (.int 6 t)
theorem bt_all:bootBuiltins "all"=some (.builtin "all"):=by decide +kernel
theorem ndss:(["sign","signs"]:List Str).Nodup:=by decide +kernel
theorem wrt_take {z s:Str} {i c:Nat} (h:z.cps[i]?=some c):((cl z).take (i + 1)).map (fun c=>decide (c∈cl s))=((cl z).take i).map (fun c=>decide (c∈cl s))++[decide (c∈cl s)]:=by
 have hc:(cl z)[i]?=some c:=by simpa using h
 obtain ⟨hl,e⟩:=List.getElem?_eq_some_iff.mp hc
 rw [List.take_succ_eq_append_getElem hl,e,List.map_append]
 rfl
section
variable {P:Program} {w:World} {K:PySem.W.Frag} {mg:Str→Option Value} {base:Heap} {f:Addr} {fd':FuncData}
def spWritten:Sp:=fun vs H Q _=>∃ z s:Str,vs=[.str z,.str s]∧z.length≤1000∧∀ H',Same H H'→Q (.bl (wrt z s)) H'
theorem scWritten:FnScope ["word","signs"] ["word","signs"] (defScope sWritten):=⟨rfl,rfl,rfl,by decide +kernel,rfl,by decide +kernel,by decide +kernel⟩
theorem ok_written (W:WdN mg) (F:Fun K "is_written_in" "is_written_in" sWritten f fd'):FnOk P w K mg base (CX1 P w) 1 f fd' ["word","signs"] spWritten:=by
 have nd:=scWritten.nd
 refine F.ok1 scWritten (fun vs H Q E h=>?_) (fun cdv A outer s H vs Q E hr h=>?_)
 ·obtain ⟨z,y,rfl,_⟩:=h
  rfl
 obtain ⟨z,y,rfl,hz,q⟩:=h
 refine ⟨_,(pss_one (ps_ret (pe_callB (call_allB rfl) rfl W.all bt_all (pa_cons (pe_lc (own:=["sign"]) (capn:=["signs"]) (capI:=[1]) rfl (blkC (defScope sWritten) rfl rfl (by decide +kernel) rfl (fun y hy=>by rcases List.mem_cons.mp hy with rfl | hy; exact ⟨rfl,rfl⟩; cases hy)) (pi_str (pv 0)) (fun _ _ _ _ _ _=>pg_name (i:=0) ndss rfl (Or.inl rfl)) (fun _ _ _ _ _ _=>pifs_nil) (fun _ _ _ _ _ _=>(pe_cmpR op_in_str (pv 0) (pv 1) (by with_unfolding_all rfl)))) pa_nil)))),?_⟩
 refine ⟨_,rfl,z,rfl,fun D hD=>?_⟩
 refine ⟨Wd z.cps.size (fun i σ acc H2=>∃ o:Option V,σ=[o,some (.str y)]∧acc=(((cl z).take i).map fun c=>decide (c∈cl y)).map V.bl∧Same H H2∧H2 D=some (.lst acc)),wd_0 ⟨none,rfl,rfl,same_upd hD _,upd_same⟩,?_⟩
 rintro i m σ acc H2 ⟨rfl,hi0,o,rfl,rfl,s2,hD2⟩
 have hl:z.cps.size=z.length:=rfl
 refine st_ask hi0 (fun c hc hi=>?_) (fun hend=>?_)
 ·refine ⟨_,rfl,_,rfl,_,_,rfl,rfl,hD2,?_,wd_next hi ⟨_,rfl,?_,same_in s2 hD,upd_same⟩⟩
  ·rw [List.length_map,List.length_map]
   exact line3 (show _≤1000 by rw [List.length_take]; lia) (by decide)
  ·rw [wrt_take hc,List.map_append,StrLaws.found_one]
   rfl
 ·refine ⟨D,_,rfl,SqL.of hD2,?_⟩
  rw [hend,List.take_of_length_le (by simp)]
  have:(((cl z).map fun c=>decide (c∈cl y)).all id)=wrt z y:=by
   rw [List.all_map]
   rfl
  rw [this]
  exact q _ s2
def spNumber:Sp:=fun vs H Q _=>∃ z:Str,vs=[.str z]∧z.length≤1000∧∀ H',Same H H'→Q (.bl (numS z)) H'
theorem scNumber:FnScope ["word"] ["word"] (defScope sNumber):=⟨rfl,rfl,rfl,by decide +kernel,rfl,by decide +kernel,by decide +kernel⟩
theorem decS (x y:Str):decide (V.str x=V.str y)=decide (x=y):=by
 by_cases h:x=y
 ·rw [decide_eq_true h,decide_eq_true (by rw [h])]
 ·rw [decide_eq_false h,decide_eq_false (fun z=>h (by injection z))]
theorem one_zero (c:Nat):decide ((⟨#[c]⟩:Str)="0")=decide (c=48):=by
 by_cases h:c=48
 ·subst h
  rw [decide_eq_true rfl]
  decide +kernel
 ·rw [decide_eq_false h]
  refine decide_eq_false fun z=>h ?_
  have:(⟨#[c]⟩:Str).cps=(Str.ofString "0").cps:=by rw [z]
  have e:(Str.ofString "0").cps=#[48]:=by decide +kernel
  rw [e] at this
  simpa using this
theorem ok_number (T:LawT mg) (W:WdN mg) (FW:Fn P w K mg base "is_written_in" 1 ["word","signs"] spWritten) (F:Fun K "is_number" "is_number" sNumber f fd'):FnOk P w K mg base (CX1 P w) 2 f fd' ["word"] spNumber:=by
 have nd:=scNumber.nd
 refine F.ok1 scNumber (fun vs H Q E h=>?_) (fun cdv A outer s H vs Q E hr h=>?_)
 ·obtain ⟨z,rfl,_⟩:=h
  rfl
 obtain ⟨z,rfl,hz,q⟩:=h
 obtain ⟨t1,g1⟩:=W.mf
 obtain ⟨t2,g2⟩:=W.fig
 have hz':z.length≤sizeLine:=Nat.le_of_lt (line3 hz (by decide))
 refine ⟨_,(pss_mid (ps_if (PW.pt (pw_or (pt_not (pt_chain op_le op_le pe_int (pe_callB call_len_str rfl T.len PySem.boot_len (pa_cons (pv 0) pa_nil)) (pe_glob (v:=.int 6) rfl g1 ⟨_,rfl⟩))) (pw_or1 (pt_not (pt_truth (pf_call FW hr rfl (pass1 (E:=E)) (pa_cons (pv 0) (pa_cons (pe_glob (v:=.str figT) rfl g2 ⟨_,rfl⟩) pa_nil))) (fun _=>rfl)))))) (pss_one (ps_ret pe_bl)) pss_nil)
  (pss_one (ps_ret (pe_or (pe_cmpR op_eq (pv 0) pe_str (nomark _)) (pe_one (pe_cmpR op_ne (pe_ix ix_str (pv 0) pe_int (fun _ _=>rfl)) pe_str (nomark _))))))),?_⟩
 refine ⟨fun σ H1=>σ=[some (.str z)]∧Same H H1∧1≤z.length∧z.length≤6∧wrt z figT=true,?_,?_⟩
 ·refine ⟨_,rfl,z,rfl,hz',_,_,rfl,rfl,_,rfl,?_⟩
  refine ite2 (fun c1=>?_) (fun c1=>?_)
  ·have c1':(1:Int)≤(z.length:Int):=of_decide_eq_true c1
   refine ⟨_,_,rfl,rfl,_,rfl,?_⟩
   by_cases c2:(z.length:Int)≤6
   ·rw [decide_eq_true c2]
    refine iteF ⟨_,rfl,z,figT,rfl,hz,fun H1 s1=>⟨_,rfl,?_⟩⟩
    cases c3:wrt z figT with
    | true=>exact iteF ⟨rfl,s1,by lia,by lia,rfl⟩
    | false =>
     refine iteT ?_
     have e:numS z=false:=by unfold numS; rw [c3,Bool.and_false,Bool.false_and]
     rw [e] at q
     exact q _ s1
   ·rw [decide_eq_false c2]
    refine iteT (iteT ?_)
    have e:numS z=false:=by unfold numS; rw [decide_eq_false (by lia),Bool.false_and,Bool.false_and]
    rw [e] at q
    exact q _ (Same.refl _)
  ·have c1':¬ (1:Int)≤(z.length:Int):=fun h=>c1 (decide_eq_true h)
   refine ⟨_,rfl,iteT (iteT ?_)⟩
   have e:numS z=false:=by unfold numS; rw [decide_eq_false (by lia),Bool.false_and,Bool.false_and]
   rw [e] at q
   exact q _ (Same.refl _)
 rintro σ H1 ⟨rfl,s1,z1,z6,hw⟩
 have e0:numS z=(decide (z="0") || decide (z.cps[0]?≠some 48)):=by
  unfold numS
  rw [hw,decide_eq_true ⟨z1,z6⟩]
  rfl
 refine ⟨_,rfl,rfl,_,rfl,?_⟩
 rw [decS]
 refine ite2 (fun c=>?_) (fun c=>?_)
 ·rw [c,Bool.true_or] at e0
  rw [e0] at q
  exact q _ s1
 ·obtain ⟨c0,hc0⟩:∃ c0,z.cps[0]?=some c0:=⟨z.cps[0]'(by show 0 < z.length; lia),Array.getElem?_eq_getElem _⟩
  refine ⟨_,rfl,z,0,c0,rfl,rfl,hz',(show atI _ ((0:Nat):Int)=_ from atI_nat (by simpa using hc0)),rfl,?_⟩
  rw [decS,one_zero]
  rw [Bool.eq_false_iff.mpr c,Bool.false_or,hc0] at e0
  have e1:decide (some c0≠some 48)=!decide (c0=48):=by
   by_cases h:c0=48
   ·subst h; rfl
   ·have h':some c0≠some 48:=fun z=>h (Option.some.inj z)
    rw [decide_eq_true h',decide_eq_false h]; rfl
  rw [e1] at e0
  rw [e0] at q
  exact q _ s1
end
theorem fig10 {c:Nat} (h:c∈[48,49,50,51,52,53,54,55,56,57]):48≤c∧c≤57:=by
 have:∀ c∈[48,49,50,51,52,53,54,55,56,57],48≤c∧c≤57:=by decide
 exact this c h
def numV (p:Str):Int:=((PySem.NumText.digitsVal (cl p):Nat):Int)
theorem numS_int {p:Str} (h:numS p=true):PySem.intText? p=some (numV p)∧p.length≤6:=by
 unfold numS at h
 rw [Bool.and_eq_true,Bool.and_eq_true] at h
 obtain ⟨⟨h1,h2⟩,_⟩:=h
 obtain ⟨l1,l6⟩:=of_decide_eq_true h1
 refine ⟨PySem.intText_digits (x:=p) ?_ ?_ (by lia),l6⟩
 ·intro c hc
  unfold wrt at h2
  have:=of_decide_eq_true (List.all_eq_true.mp h2 c hc)
  have e:cl figT=[48,49,50,51,52,53,54,55,56,57]:=by decide +kernel
  rw [e] at this
  exact fig10 this
 ·intro z
  have:p.cps.size=0:=by have:=congrArg List.length z; simpa using this
  have:p.length=0:=this
  lia
def Nb (n:Int):Prop:=0≤n∧n < 1000000
theorem Nb.log {n:Int} (h:Nb n):n.natAbs.log2 < 900:=by
 by_cases h0:n.natAbs=0
 ·rw [h0]; decide
 ·refine Nat.lt_trans ((Nat.log2_lt h0).mpr (show n.natAbs < 2 ^ 20 by have:=h.1; have:=h.2; lia)) (by decide)
def OwnX (mg:Str→Option Value) (base:Heap) (x:Str) (CN:Addr):Prop:=∃ bm,PyProof.Rows.OwnCls x CN bm "ValueError.__new__" mg base∧PySem.ExcBaseFacts "ValueError" "ValueError.__new__" "ValueError.__init__" bm
section
variable {P:Program} {w:World} {K:PySem.W.Frag} {mg:Str→Option Value} {base:Heap} {CM CL CN f:Addr} {fd':FuncData}
def spMeas (K:PySem.W.Frag) (CM:Addr):Sp:=fun vs H Q E=>∃ (n lo hi:Int) (b:Addr),vs=[.int n,.ref b]∧Nb n∧SqT K H b [.int lo,.int hi]∧((lo≤n∧n≤hi)→Q .non H)∧(¬ (lo≤n∧n≤hi)→E (.ref CM) none H)
theorem scMeas:FnScope ["number","bounds"] ["number","bounds"] (defScope sMeas):=⟨rfl,rfl,rfl,by decide +kernel,rfl,by decide +kernel,by decide +kernel⟩
theorem ok_meas (R:OwnX mg base "NoMeasure" CM) (F:Fun K "look_at_measure" "look_at_measure" sMeas f fd'):FnOk P w K mg base (CX1 P w) 1 f fd' ["number","bounds"] (spMeas K CM):=by
 have nd:=scMeas.nd
 refine F.ok1 scMeas (fun vs H Q E h=>?_) (fun cdv A outer s H vs Q E hr h=>?_)
 ·obtain ⟨n,lo,hi,b,rfl,_⟩:=h
  rfl
 obtain ⟨n,lo,hi,b,rfl,hn,sq,q1,q2⟩:=h
 obtain ⟨bm,O,FB⟩:=R
 refine ⟨_,(pss_one (ps_if (pt_not (pt_chain op_le op_le (pe_ix (ix_tupK (K:=K) rfl) (pv 1) pe_int (fun _ _=>rfl)) (pv 0) (pe_ix (ix_tupK (K:=K) rfl) (pv 1) pe_int (fun _ _=>rfl)))) (pss_one (ps_raise O FB rfl rfl raises1 (pa_cons (pe_fs2 (fmt_int (pv 0)) (by decide +kernel)) pa_nil))) pss_nil)),?_⟩
 refine ⟨_,rfl,b,_,0,.int lo,rfl,rfl,sq,rfl,_,rfl,_,_,rfl,rfl,_,rfl,?_⟩
 have no:¬ (lo≤n∧n≤hi)→E (.ref CM) none H:=q2
 by_cases h1:lo≤n
 ·rw [decide_eq_true h1]
  refine iteT ⟨_,rfl,b,_,1,.int hi,rfl,rfl,sq,rfl,_,_,rfl,rfl,_,rfl,?_⟩
  by_cases h2:n≤hi
  ·rw [decide_eq_true h2]
   exact iteF (q1 ⟨h1,h2⟩)
  ·rw [decide_eq_false h2]
   exact iteT ⟨_,rfl,n,rfl,hn.log,fun y hy=>⟨y,rfl,hy,fun y'=>⟨le1,q2 fun z=>h2 z.2⟩⟩⟩
 ·rw [decide_eq_false h1]
  exact iteF ⟨_,rfl,iteT ⟨_,rfl,n,rfl,hn.log,fun y hy=>⟨y,rfl,hy,fun y'=>⟨le1,q2 fun z=>h1 z.1⟩⟩⟩⟩
def spLCell (CL:Addr):Sp:=fun vs H Q E=>∃ (b:Addr) (x y:Int) (rows:List (List Int)),vs=[.ref b,.int x,.int y]∧BdAt H b rows∧rows≠[]∧Nb x∧Nb y∧((x < ((rows.headD []).length:Int)∧y < (rows.length:Int))→Q .non H)∧(¬ (x < ((rows.headD []).length:Int)∧y < (rows.length:Int))→E (.ref CL) none H)
theorem scLCell:FnScope ["bed","x","y"] ["bed","x","y"] (defScope sLCell):=⟨rfl,rfl,rfl,by decide +kernel,rfl,by decide +kernel,by decide +kernel⟩
theorem ok_lcell (T:LawT mg) (R:OwnX mg base "NoCell" CL) (F:Fun K "look_at_cell" "look_at_cell" sLCell f fd'):FnOk P w K mg base (CX1 P w) 1 f fd' ["bed","x","y"] (spLCell CL):=by
 have nd:=scLCell.nd
 refine F.ok1 scLCell (fun vs H Q E h=>?_) (fun cdv A outer s H vs Q E hr h=>?_)
 ·obtain ⟨b,x,y,rows,rfl,_⟩:=h
  rfl
 obtain ⟨b,x,y,rows,rfl,hb,hne,hx,hy,q1,q2⟩:=h
 obtain ⟨bm,O,FB⟩:=R
 refine ⟨_,(pss_one (ps_if (pt_not (PW.pt (pw_and (pt_cmpR op_lt (pv 1) (pe_callB (call_lenK (K:=K) rfl) rfl T.len PySem.boot_len (pa_cons (pe_ix (ix_listK (K:=K) rfl) (pv 0) pe_int (fun _ _=>rfl)) pa_nil)) (nomark _)) (pw_and1 (pt_cmpR op_lt (pv 2) (pe_callB (call_lenK (K:=K) rfl) rfl T.len PySem.boot_len (pa_cons (pv 0) pa_nil)) (nomark _)))))) (pss_one (ps_raise O FB rfl rfl raises1 (pa_cons (pe_fs4 (fmt_int (pv 1)) (fmt_int (pv 2)) (by decide +kernel) (by decide +kernel)) pa_nil))) pss_nil)),?_⟩
 obtain ⟨rs,hb2,ra⟩:=hb
 obtain ⟨r0,rr,er⟩:∃ r0 rr,rows=r0 :: rr:=by
  cases rows with
  | nil=>exact absurd rfl hne
  | cons r0 rr=>exact ⟨r0,rr,rfl⟩
 obtain ⟨a0,ha0,hr0⟩:=ra.at_ (i:=0) (row:=r0) (by rw [er]; rfl)
 have rl:=ra.len
 have hw:(rows.headD []).length=r0.length:=by rw [er]; rfl
 rw [hw] at q1 q2
 have at0:atI (rs.map V.ref) 0=some (.ref a0):=atI_nat (xs:=rs.map V.ref) (j:=0) (by rw [List.getElem?_map,ha0]; rfl)
 have bad:¬ (x < (r0.length:Int)∧y < (rows.length:Int))→_:=q2
 refine ⟨_,rfl,_,rfl,b,_,0,.ref a0,rfl,rfl,SqL.of hb2,at0,a0,_,rfl,.inl (SqL.of hr0),_,_,rfl,rfl,_,rfl,?_⟩
 rw [List.length_map]
 by_cases h1:x < (r0.length:Int)
 ·rw [decide_eq_true h1]
  refine iteT ⟨_,rfl,_,rfl,b,_,rfl,.inl (SqL.of hb2),_,_,rfl,rfl,_,rfl,?_⟩
  rw [List.length_map,rl]
  by_cases h2:y < (rows.length:Int)
  ·rw [decide_eq_true h2]
   exact iteF (q1 ⟨h1,h2⟩)
  ·rw [decide_eq_false h2]
   exact iteT ⟨_,rfl,x,rfl,hx.log,fun z hz=>⟨z,rfl,hz,_,rfl,y,rfl,hy.log,fun z' hz'=>⟨z',rfl,hz',fun y'=>⟨le1,q2 fun z=>h2 z.2⟩⟩⟩⟩
 ·rw [decide_eq_false h1]
  refine iteF (iteT ⟨_,rfl,x,rfl,hx.log,fun z hz=>⟨z,rfl,hz,_,rfl,y,rfl,hy.log,fun z' hz'=>⟨z',rfl,hz',fun y'=>⟨le1,q2 fun z=>h1 z.1⟩⟩⟩⟩)
def spLShelf:Sp:=fun vs H Q _=>∃ (sh:Addr) (xs:List V),vs=[.ref sh]∧H sh=some (.lst xs)∧xs≠[]∧Q .non H
theorem scLShelf:FnScope ["shelf"] ["shelf"] (defScope sLShelf):=⟨rfl,rfl,rfl,by decide +kernel,rfl,by decide +kernel,by decide +kernel⟩
theorem ok_lshelf (R:OwnX mg base "NoCutter" CN) (F:Fun K "look_at_shelf" "look_at_shelf" sLShelf f fd'):FnOk P w K mg base (CX1 P w) 1 f fd' ["shelf"] spLShelf:=by
 have nd:=scLShelf.nd
 refine F.ok1 scLShelf (fun vs H Q E h=>?_) (fun cdv A outer s H vs Q E hr h=>?_)
 ·obtain ⟨sh,xs,rfl,_⟩:=h
  rfl
 obtain ⟨sh,xs,rfl,h1,hne,q⟩:=h
 obtain ⟨bm,O,FB⟩:=R
 refine ⟨_,(pss_one (ps_if (pt_not (pt_truth (pv 0) (fun _=>rfl))) (pss_one (ps_raise O FB rfl rfl raises1 (pa_cons pe_str pa_nil))) pss_nil)),?_⟩
 refine ⟨_,rfl,_,.inl ⟨_,SqL.of h1,rfl⟩,?_⟩
 have e:(!xs.isEmpty)=true:=by
  cases xs with
  | nil=>exact absurd rfl hne
  | cons a b=>rfl
 rw [e]
 exact iteF q
def sqRow (b:Nat) (y:Int):List (Int×Int):=(List.range (2 * b + 1)).map fun k=>(-(b:Int) + (k:Nat),y)
def sqF (b n:Nat):List (Int×Int):=(List.range n).flatMap fun j=>sqRow b (-(b:Int) + (j:Nat))
theorem sq_row_len (b:Nat) (y:Int):(sqRow b y).length=2 * b + 1:=by unfold sqRow; rw [List.length_map,List.length_range]
theorem sq_next (b n:Nat):sqF b (n + 1)=sqF b n++sqRow b (-(b:Int) + (n:Nat)):=by
 unfold sqF
 rw [List.range_succ,List.flatMap_append,List.flatMap_cons,List.flatMap_nil,List.append_nil]
theorem sq_len (b:Nat):∀ n,(sqF b n).length=n * (2 * b + 1)
 | 0=>by rw [Nat.zero_mul]; rfl
 | n + 1=>by rw [sq_next,List.length_append,sq_len b n,sq_row_len]; exact (Nat.succ_mul _ _).symm
def spSq:Sp:=fun vs H Q _=>∃ b:Nat,vs=[.int (b:Int)]∧b≤2∧∀ D H',H D=none→Same H H'→FtAt H' D (sqF b (2 * b + 1))→Q (.ref D) H'
theorem scSq:FnScope ["side","foot","y"] ["side"] (defScope sSq):=⟨rfl,rfl,rfl,by decide +kernel,rfl,by decide +kernel,by decide +kernel⟩
theorem ndxy:(["x","y"]:List Str).Nodup:=by decide +kernel
theorem ok_sq (T:LawT mg) (F:Fun K "square_foot" "square_foot" sSq f fd'):FnOk P w K mg base (CX1 P w) 1 f fd' ["side"] spSq:=by
 have nd:=scSq.nd
 refine F.ok1 scSq (fun vs H Q E h=>?_) (fun cdv A outer s H vs Q E hr h=>?_)
 ·obtain ⟨b,rfl,_⟩:=h
  rfl
 obtain ⟨b,rfl,hb,q⟩:=h
 refine ⟨_,(pss_cons (ps_set (i:=1) nd rfl (Or.inl rfl) (pe_lst pa_nil))
  (pss_cons (ps_for own1 rfl (pi_range2 rfl T.range (pa_cons (pe_un un_neg (pv 0)) (pa_cons (pe_op op_add (pv 0) pe_int) pa_nil))) (pg_name (i:=2) nd rfl (Or.inr rfl)) (pss_one (ps_expr (pe_bm PySem.F.plainAttrs_list PySem.F.slot_list_extend PySem.F.type_list_extend mt_extend (pv 1) (pa_cons (pe_lc (own:=["x"]) (capn:=["y"]) (capI:=[2]) rfl (blkC (defScope sSq) rfl rfl (by decide +kernel) rfl (fun y hy=>by rcases List.mem_cons.mp hy with rfl | hy; exact ⟨rfl,rfl⟩; cases hy)) (pi_range2 rfl T.range (pa_cons (pe_un un_neg (pv 0)) (pa_cons (pe_op op_add (pv 0) pe_int) pa_nil))) (fun _ _ _ _ _ _=>pg_name (i:=0) ndxy rfl (Or.inl rfl)) (fun _ _ _ _ _ _=>pifs_nil) (fun _ _ _ _ _ _=>(pe_tup (pa_cons (pv 0) (pa_cons (pv 1) pa_nil))))) pa_nil)))))
  (pss_one (ps_ret (pv 1))))),?_⟩
 refine ⟨(by decide),fun ft hft=>?_⟩
 have hN:((b:Int) + 1 - -(b:Int)).toNat=2 * b + 1:=by lia
 have bd:-(2 ^ 62)≤-(b:Int)∧-(b:Int) < 2 ^ 62∧-(2 ^ 62)≤(b:Int) + 1∧(b:Int) + 1 < 2 ^ 62:=by lia
 refine ⟨_,rfl,_,rfl,_,rfl,_,_,rfl,rfl,_,_,rfl,bd,?_⟩
 rw [hN]
 refine for_range (n:=2 * b + 1) (fun i σ G=>∃ (z:Option V) (ts:List Addr),σ=[some (.int b),some (.ref ft),z]∧G ft=some (.lst (ts.map V.ref))∧MvAt G ts ((sqF b i).map pr)∧Same H G) ⟨none,[],rfl,upd_same,True.intro,same_upd hft _⟩ ?_ ?_
 ·rintro i σ G hi ⟨z,ts,rfl,hf,mv,sG⟩
  have tl:ts.length=i * (2 * b + 1):=by rw [mv.len,List.length_map,sq_len]
  have tl5:ts.length≤20:=by
   rw [tl]
   exact Nat.le_trans (Nat.mul_le_mul (show i≤4 by lia) (show 2 * b + 1≤5 by lia)) (by decide)
  refine ⟨_,rfl,.inl ⟨rfl,_,SqL.of hf⟩,_,rfl,_,rfl,_,rfl,_,_,rfl,rfl,_,_,rfl,bd,fun D hD=>?_⟩
  rw [hN]
  refine ⟨Wd (2 * b + 1) (fun j σ2 acc G2=>∃ (z:Option V) (us:List Addr),σ2=[z,some (.int (-(b:Int) + (i:Nat)))]∧acc=us.map V.ref∧MvAt G2 us (((sqRow b (-(b:Int) + (i:Nat))).take j).map pr)∧Same G G2∧G2 D=some (.lst acc)),wd_0 ⟨none,[],rfl,rfl,(by rw [List.take_zero]; exact True.intro),same_upd hD _,upd_same⟩,?_⟩
  rintro j jm σ2 acc G2 ⟨rfl,hj0,z2,us,rfl,rfl,mv2,sG2,hDG⟩
  have ul:us.length=j:=by rw [mv2.len,List.length_map,List.length_take,sq_row_len]; lia
  refine rg_ask hj0 (fun hj=>?_) (fun hend=>?_)
  ·refine ⟨_,rfl,_,rfl,le2,fun t ht=>?_⟩
   have v:=same_upd ht (.tup [V.int (-(b:Int) + (j:Nat)),.int (-(b:Int) + (i:Nat))])
   refine ⟨v _ _ hDG,(by rw [List.length_map]; exact line3 (show us.length≤10 by lia) (by decide)),wd_next hj ⟨_,us++[t],rfl,by rw [List.map_append]; rfl,?_,same_in (sG2.trans v) hD,upd_same⟩⟩
   have ej:(sqRow b (-(b:Int) + (i:Nat)))[j]?=some (-(b:Int) + (j:Nat),-(b:Int) + (i:Nat)):=by
    unfold sqRow
    rw [List.getElem?_map,List.getElem?_range hj]
    rfl
   rw [List.take_add_one,ej,List.map_append]
   refine MvAt.upd (fun m z=>?_) ((mv2.same v).snoc upd_same)
   have:=(v _ _ hDG).symm.trans z
   cases this
  ·rw [List.take_of_length_le (by rw [sq_row_len]; lia)] at mv2
   have nD:ft≠D:=fun z=>by rw [z] at hf; rw [hf] at hD; cases hD
   have hf2:=sG2 _ _ hf
   refine ⟨ft,D,_,_,rfl,rfl,hf2,hDG,?_,?_⟩
   ·rw [List.length_map,List.length_map]
    exact Nat.le_of_lt (line3 (show ts.length + us.length≤30 by lia) (by decide))
   ·refine ⟨_,ts++us,rfl,by rw [upd_same,List.map_append],?_,same_in (sG.trans sG2) hft⟩
    rw [sq_next,List.map_append]
    refine MvAt.upd (fun m z=>?_) (MvAt.app (mv.same sG2) mv2)
    rw [hf2] at z
    cases z
 ·rintro σ G ⟨z,ts,rfl,hf,mv,sG⟩
  exact ⟨_,rfl,q ft G hft sG ⟨ts,hf,mv⟩⟩
end
structure DkC (K:PySem.W.Frag) (C:Addr):Prop where
 cl:Cls K C
 nB:NoAttr K C "bed"
 nS:NoAttr K C "shelf"
 nR:NoAttr K C "rows"
def TupT (K:PySem.W.Frag) (mg:Str→Option Value) (x:Str) (lo hi:Int):Prop:=∃ a,mg x=some (.ref a)∧∀ H:Hp,SqT K H a [.int lo,.int hi]
structure DkT (K:PySem.W.Frag) (mg:Str→Option Value):Prop where
 sides:TupT K mg "SIDES" 1 40
 heights:TupT K mg "HEIGHTS" 0 1000
 bites:TupT K mg "BITES" 1 1000
 reaches:TupT K mg "REACHES" 0 2
 most:∃ t,mg "MOST_CUTTERS"=some (.int 6 t)
 str:mg "str"=none
def fsK (bv sv rv:V):List (Str×V):=[("bed",bv),("shelf",sv),("rows",rv)]
theorem bt_str:bootBuiltins "str"=some (.type "str"):=by decide +kernel
theorem ndyn:(["y","numbers"]:List Str).Nodup:=by decide +kernel
theorem rep_flat (c:Int):∀ n:Nat,(List.replicate n [V.int c]).flatten=(List.replicate n c).map V.int
 | 0=>rfl
 | n + 1=>by rw [List.replicate_succ,List.flatten_cons,rep_flat c n,List.replicate_succ]; rfl
def bedF (a b c:Int):List (List Int):=List.replicate b.toNat (List.replicate a.toNat c)
def bedOk (a b c:Int):Prop:=(1≤a∧a≤40)∧(1≤b∧b≤40)∧(0≤c∧c≤1000)
section
variable {P:Program} {w:World} {K:PySem.W.Frag} {mg:Str→Option Value} {base:Heap} {C CM CL CN f:Addr} {fd':FuncData}
inductive PspLay (C CM:Addr) (vs:List V) (H:Hp) (Q:VK) (E:XK):Prop
 | mk (d l dx:Addr) (bv sv rv:V) (a b c:Int) (h0:vs=[.ref d,.ref l]) (h1:H d=some (.ins C dx (fsK bv sv rv))) (h2:H l=some (.lst [.int a,.int b,.int c])) (na:Nb a) (nb:Nb b) (nc:Nb c)
  (yes:bedOk a b c→∀ (B sh rw:Addr) (H':Hp),(∀ x o,x≠d→H x=some o→H' x=some o)→H' d=some (.ins C dx (fsK (.ref B) (.ref sh) (.ref rw)))→BdAt H' B (bedF a b c)→H' sh=some (.lst [])→H sh=none→H B=none→Q (.str "ok") H') (no:¬ bedOk a b c→E (.ref CM) none H):PspLay C CM vs H Q E
def spLay (C CM:Addr):Sp:=fun vs H Q E=>PspLay C CM vs H Q E
theorem scLay:FnScope ["desk","numbers"] ["desk","numbers"] (defScope sLay):=⟨rfl,rfl,rfl,by decide +kernel,rfl,by decide +kernel,by decide +kernel⟩
theorem ok_lay (T:LawT mg) (DT:DkT K mg) (DC:DkC K C) (FM:Fn P w K mg base "look_at_measure" 1 ["number","bounds"] (spMeas K CM)) (F:Fun K "lay_bed" "lay_bed" sLay f fd'):FnOk P w K mg base (CX1 P w) 2 f fd' ["desk","numbers"] (spLay C CM):=by
 have nd:=scLay.nd
 refine F.ok1 scLay (fun vs H Q E h=>?_) (fun cdv A outer s H vs Q E hr h=>?_)
 ·obtain ⟨d,l,dx,bv,sv,rv,a,b,c,rfl,_⟩:=h
  rfl
 obtain ⟨d,l,dx,bv,sv,rv,a,b,c,rfl,hd,hl,na,nb,nc,yes,no⟩:=h
 obtain ⟨aS,gS,hS⟩:=DT.sides
 obtain ⟨aH,gH,hH⟩:=DT.heights
 refine ⟨_,(pss_cons (ps_expr (pf_call FM hr rfl (pass1 (E:=E)) (pa_cons (pe_ix (ix_listK (K:=K) rfl) (pv 1) pe_int (fun _ _=>rfl)) (pa_cons (pe_glob (v:=.ref aS) rfl gS rfl) pa_nil))))
  (pss_cons (ps_expr (pf_call FM hr rfl (pass1 (E:=E)) (pa_cons (pe_ix (ix_listK (K:=K) rfl) (pv 1) pe_int (fun _ _=>rfl)) (pa_cons (pe_glob (v:=.ref aS) rfl gS rfl) pa_nil))))
  (pss_cons (ps_expr (pf_call FM hr rfl (pass1 (E:=E)) (pa_cons (pe_ix (ix_listK (K:=K) rfl) (pv 1) pe_int (fun _ _=>rfl)) (pa_cons (pe_glob (v:=.ref aH) rfl gH rfl) pa_nil))))
  (pss_cons (ps_fld (pv 0) (pe_lc (own:=["y"]) (capn:=["numbers"]) (capI:=[1]) rfl (blkC (defScope sLay) rfl rfl (by decide +kernel) rfl (fun y hy=>by rcases List.mem_cons.mp hy with rfl | hy; exact ⟨rfl,rfl⟩; cases hy)) (pi_range1 rfl T.range (pa_cons (pe_ix (ix_listK (K:=K) rfl) (pv 1) pe_int (fun _ _=>rfl)) pa_nil)) (fun _ _ _ _ _ _=>pg_name (i:=0) ndyn rfl (Or.inl rfl)) (fun _ _ _ _ _ _=>pifs_nil) (fun _ _ _ _ _ _=>(pe_op op_rep (pe_lst (pa_cons (pe_ix (ix_listK (K:=K) rfl) (pv 1) pe_int (fun _ _=>rfl)) pa_nil)) (pe_ix (ix_listK (K:=K) rfl) (pv 1) pe_int (fun _ _=>rfl))))) rfl)
  (pss_cons (ps_fld (pv 0) (pe_lst pa_nil) rfl)
  (pss_cons (ps_fld (pv 0) (pe_lst pa_nil) rfl)
  (pss_one (ps_ret pe_str)))))))),?_⟩
 have sq:=SqL.of (K:=K) hl
 refine ⟨_,rfl,l,_,0,.int a,rfl,rfl,sq,rfl,a,1,40,aS,rfl,na,hS _,fun oa=>?_,fun z=>no fun y=>z y.1⟩
 refine ⟨_,rfl,l,_,1,.int b,rfl,rfl,sq,rfl,b,1,40,aS,rfl,nb,hS _,fun ob=>?_,fun z=>no fun y=>z y.2.1⟩
 refine ⟨_,rfl,l,_,2,.int c,rfl,rfl,sq,rfl,c,0,1000,aH,rfl,nc,hH _,fun oc=>?_,fun z=>no fun y=>z y.2.2⟩
 refine ⟨_,rfl,l,_,1,.int b,rfl,rfl,sq,rfl,_,rfl,(by lia),(by lia),fun D hD=>?_⟩
 have ndl:d≠l:=fun z=>by rw [z,hl] at hd; cases hd
 refine ⟨Wd b.toNat (fun i σ acc G=>∃ (z:Option V) (us:List Addr),σ=[z,some (.ref l)]∧acc=us.map V.ref∧us.length=i∧RowsAt G us (List.replicate i (List.replicate a.toNat c))∧D ∉ us∧d ∉ us∧Same H G∧G D=some (.lst acc)),wd_0 ⟨none,[],rfl,rfl,rfl,True.intro,List.not_mem_nil,List.not_mem_nil,same_upd hD _,upd_same⟩,?_⟩
 rintro i im σ acc G ⟨rfl,hi0,z,us,rfl,rfl,ul,ra,nD,nd',sG,hDG⟩
 refine rg_ask hi0 (fun hi=>?_) (fun hend=>?_)
 ·have sq':=SqL.of (K:=K) (sG _ _ hl)
  refine ⟨_,rfl,l,_,2,.int c,rfl,rfl,sq',rfl,le1,fun t ht=>?_⟩
  have v1:=same_upd ht (.lst [V.int c])
  refine ⟨_,rfl,l,_,0,.int a,rfl,rfl,SqL.of (K:=K) (v1 _ _ (sG _ _ hl)),rfl,t,a,_,rfl,rfl,upd_same,(by lia),(by lia),?_,fun p hp=>?_⟩
  ·rw [List.length_singleton,Nat.one_mul]
   exact Nat.le_of_lt (line3 (show a.toNat≤40 by lia) (by decide))
  have v2:=v1.trans (same_upd hp (.lst (List.replicate a.toNat [V.int c]).flatten))
  have npD:D≠p:=ne_of_none (v1 _ _ hDG) hp
  have npd:d≠p:=ne_of_none (v1 _ _ (sG _ _ hd)) hp
  refine ⟨v2 _ _ hDG,(by rw [List.length_map,ul]; exact line3 (show i≤40 by lia) (by decide)),wd_next hi ⟨_,us++[p],rfl,by rw [List.map_append]; rfl,by rw [List.length_append,ul]; rfl,?_,?_,?_,same_in (sG.trans v2) hD,upd_same⟩⟩
  ·rw [List.replicate_succ']
   refine RowsAt.snoc ?_ (RowsAt.keep (fun r hr o e=>?_) ra)
   ·rw [upd_ne (Ne.symm npD),upd_same,rep_flat]
   ·rw [upd_ne (fun z=>nD (by rw [← z]; exact hr))]
    exact v2 _ _ e
  ·intro z
   rcases List.mem_append.mp z with z | z
   ·exact nD z
   ·exact npD (List.mem_singleton.mp z)
  ·intro z
   rcases List.mem_append.mp z with z | z
   ·exact nd' z
   ·exact npd (List.mem_singleton.mp z)
 ·rw [hend] at ra
  have hd1:=sG _ _ hd
  have nDd:D≠d:=fun z=>by rw [z,hd] at hD; cases hD
  have l3:∀ u v x:V,(fsK u v x).length < 1000:=fun u v x=>(by decide:3 < 1000)
  refine ⟨_,rfl,d,C,dx,_,rfl,hd1,DC.cl,DC.nB,l3 _ _ _,(by decide),fun sh (hsh:upd G d (.ins C dx (fsK (.ref D) sv rv)) sh=none)=>?_⟩
  have ed2:upd G d (.ins C dx (fsK (.ref D) sv rv)) d=some (.ins C dx (fsK (.ref D) sv rv)):=upd_same
  refine ⟨_,rfl,d,C,dx,_,rfl,same_upd hsh _ _ _ ed2,DC.cl,DC.nS,l3 _ _ _,(by decide),fun rw' (hrw:upd (upd (upd G d (.ins C dx (fsK (.ref D) sv rv))) sh (.lst [])) d (.ins C dx (fsK (.ref D) (.ref sh) rv)) rw'=none)=>?_⟩
  have nsd:sh≠d:=fun z=>by rw [z,ed2] at hsh; cases hsh
  have nrd:rw'≠d:=fun z=>by rw [z,upd_same] at hrw; cases hrw
  refine ⟨_,rfl,d,C,dx,_,rfl,same_upd hrw _ _ _ upd_same,DC.cl,DC.nR,l3 _ _ _,?_⟩
  have hsG:G sh=none:=by rw [upd_ne nsd] at hsh; exact hsh
  have hsH:H sh=none:=sG.free hsG
  have ksh:upd (upd G d (.ins C dx (fsK (.ref D) sv rv))) sh (.lst []) sh=some (.lst []):=upd_same
  have nrs:rw'≠sh:=fun z=>by rw [z,upd_ne nsd,ksh] at hrw; cases hrw
  have stay:∀ x o,x≠d→G x=some o→upd (upd (upd (upd (upd G d (.ins C dx (fsK (.ref D) sv rv))) sh (.lst [])) d (.ins C dx (fsK (.ref D) (.ref sh) rv))) rw' (.lst [])) d (.ins C dx (fsK (.ref D) (.ref sh) (.ref rw'))) x=some o:=fun x o n e=>by
   rw [upd_ne n]
   refine same_upd hrw _ _ _ ?_
   rw [upd_ne n]
   refine same_upd hsh _ _ _ ?_
   rw [upd_ne n]
   exact e
  refine yes ⟨oa,ob,oc⟩ D sh rw' _ (fun x o n e=>stay x o n (sG x o e)) upd_same ⟨us,stay _ _ nDd hDG,RowsAt.keep (fun r hr o e=>stay r o (fun z=>nd' (by rw [← z]; exact hr)) e) ra⟩ ?_ hsH hD
  show upd _ _ _ _=_
  rw [upd_ne nsd,upd_ne (Ne.symm nrs),upd_ne nsd]
  exact ksh
def cutOk (a b:Int):Prop:=(1≤a∧a≤1000)∧(0≤b∧b≤2)
inductive PspPut (C CM:Addr) (vs:List V) (H:Hp) (Q:VK) (E:XK):Prop
 | mk (d l dx sh:Addr) (bv rv:V) (a b:Int) (xs:List V) (h0:vs=[.ref d,.ref l]) (h1:H d=some (.ins C dx (fsK bv (.ref sh) rv))) (h2:H l=some (.lst [.int a,.int b])) (na:Nb a) (nb:Nb b) (h3:H sh=some (.lst xs)) (h4:xs.length≤5)
  (yes:cutOk a b→∀ (ct ft:Addr) (H':Hp),Same H H'→H' ct=some (.tup [.ref ft,.int a])→FtAt H' ft (sqF b.toNat (2 * b.toNat + 1))→H ft=none→Q (.str "ok") (upd H' sh (.lst (xs++[.ref ct])))) (no:¬ cutOk a b→E (.ref CM) none H):PspPut C CM vs H Q E
def spPut (C CM:Addr):Sp:=fun vs H Q E=>PspPut C CM vs H Q E
theorem scPut:FnScope ["desk","numbers"] ["desk","numbers"] (defScope sPutC):=⟨rfl,rfl,rfl,by decide +kernel,rfl,by decide +kernel,by decide +kernel⟩
theorem ok_put (T:LawT mg) (DT:DkT K mg) (DC:DkC K C) (R:OwnX mg base "NoMeasure" CM) (FM:Fn P w K mg base "look_at_measure" 1 ["number","bounds"] (spMeas K CM)) (FS:Fn P w K mg base "square_foot" 1 ["side"] spSq) (F:Fun K "put_cutter" "put_cutter" sPutC f fd'):FnOk P w K mg base (CX1 P w) 2 f fd' ["desk","numbers"] (spPut C CM):=by
 have nd:=scPut.nd
 refine F.ok1 scPut (fun vs H Q E h=>?_) (fun cdv A outer s H vs Q E hr h=>?_)
 ·obtain ⟨d,l,dx,sh,bv,rv,a,b,xs,rfl,_⟩:=h
  rfl
 obtain ⟨d,l,dx,sh,bv,rv,a,b,xs,rfl,hd,hl,na,nb,hsh,xl,yes,no⟩:=h
 obtain ⟨aB,gB,hB⟩:=DT.bites
 obtain ⟨aR,gR,hR⟩:=DT.reaches
 obtain ⟨tM,gM⟩:=DT.most
 obtain ⟨bm,O,FB⟩:=R
 refine ⟨_,(pss_cons (ps_expr (pf_call FM hr rfl (pass1 (E:=E)) (pa_cons (pe_ix (ix_listK (K:=K) rfl) (pv 1) pe_int (fun _ _=>rfl)) (pa_cons (pe_glob (v:=.ref aB) rfl gB rfl) pa_nil))))
  (pss_cons (ps_expr (pf_call FM hr rfl (pass1 (E:=E)) (pa_cons (pe_ix (ix_listK (K:=K) rfl) (pv 1) pe_int (fun _ _=>rfl)) (pa_cons (pe_glob (v:=.ref aR) rfl gR rfl) pa_nil))))
  (pss_cons (ps_if (pt_cmpR op_eq (pe_callB (call_lenK (K:=K) rfl) rfl T.len PySem.boot_len (pa_cons (pe_fld (pv 0) rfl) pa_nil)) (pe_glob (v:=.int 6) rfl gM ⟨_,rfl⟩) (nomark _)) (pss_one (ps_raise O FB rfl rfl raises1 (pa_cons pe_str pa_nil))) pss_nil)
  (pss_cons (ps_expr (pe_bm PySem.F.plainAttrs_list PySem.F.slot_list_append PySem.F.type_list_append mt_append (pe_fld (pv 0) rfl) (pa_cons (pe_tup (pa_cons (pf_call FS hr rfl (pass1 (E:=E)) (pa_cons (pe_ix (ix_listK (K:=K) rfl) (pv 1) pe_int (fun _ _=>rfl)) pa_nil)) (pa_cons (pe_ix (ix_listK (K:=K) rfl) (pv 1) pe_int (fun _ _=>rfl)) pa_nil))) pa_nil)))
  (pss_one (ps_ret pe_str)))))),?_⟩
 have sq:=SqL.of (K:=K) hl
 refine ⟨_,rfl,l,_,0,.int a,rfl,rfl,sq,rfl,a,1,1000,aB,rfl,na,hB _,fun oa=>?_,fun z=>no fun y=>z y.1⟩
 refine ⟨_,rfl,l,_,1,.int b,rfl,rfl,sq,rfl,b,0,2,aR,rfl,nb,hR _,fun ob=>?_,fun z=>no fun y=>z y.2⟩
 refine ⟨_,rfl,d,C,dx,_,_,rfl,hd,DC.cl,DC.nS,rfl,sh,xs,rfl,.inl (SqL.of hsh),rfl,_,rfl,?_⟩
 have e6:decide (V.int (xs.length:Int)=V.int 6)=false:=decide_eq_false fun z=>by injection z; lia
 rw [e6]
 refine iteF ⟨_,rfl,d,C,dx,_,_,rfl,hd,DC.cl,DC.nS,rfl,.inl ⟨rfl,_,SqL.of hsh⟩,_,rfl,l,_,1,.int b,rfl,rfl,sq,rfl,b.toNat,(by rw [Int.toNat_of_nonneg ob.1]; rfl),(by lia),fun ft H1 hft s1 ff=>?_⟩
 refine ⟨_,rfl,l,_,0,.int a,rfl,rfl,SqL.of (K:=K) (s1 _ _ hl),rfl,le2,fun ct hct=>?_⟩
 have v:=same_upd hct (.tup [V.ref ft,.int a])
 refine ⟨sh,_,_,rfl,rfl,v _ _ (s1 _ _ hsh),?_,?_⟩
 ·exact line3 (show xs.length≤5 from xl) (by decide)
 ·exact yes ⟨oa,ob⟩ ct ft _ (s1.trans v) upd_same (ff.same v) hft
end
def inB (rows:List (List Int)) (x y:Int):Prop:=x < ((rows.headD []).length:Int)∧y < (rows.length:Int)
theorem inB.ins {rows:List (List Int)} {x y:Int} (h:inB rows x y) (hx:Nb x) (hy:Nb y):ins rows (x,y)=true:=decide_eq_true ⟨hy.1,h.2,hx.1,h.1⟩
section
variable {P:Program} {w:World} {K:PySem.W.Frag} {mg:Str→Option Value} {base:Heap} {C CM CL CN f:Addr} {fd':FuncData}
inductive PspTC (C CL:Addr) (vs:List V) (H:Hp) (Q:VK) (E:XK):Prop
 | mk (d l dx b:Addr) (sv rv:V) (x y:Int) (rows:List (List Int)) (h0:vs=[.ref d,.ref l]) (h1:H d=some (.ins C dx (fsK (.ref b) sv rv))) (h2:H l=some (.lst [.int x,.int y])) (nx:Nb x) (ny:Nb y) (hb:BdAt H b rows) (R:Rect rows)
  (yes:inB rows x y→Nb (hgt rows (x,y))∧Q (.str (toString (hgt rows (x,y)))) H) (no:¬ inB rows x y→E (.ref CL) none H):PspTC C CL vs H Q E
def spTC (C CL:Addr):Sp:=fun vs H Q E=>PspTC C CL vs H Q E
theorem scTC:FnScope ["desk","numbers"] ["desk","numbers"] (defScope sTCell):=⟨rfl,rfl,rfl,by decide +kernel,rfl,by decide +kernel,by decide +kernel⟩
theorem ok_tc (DT:DkT K mg) (DC:DkC K C) (FC:Fn P w K mg base "look_at_cell" 1 ["bed","x","y"] (spLCell CL)) (F:Fun K "tell_cell" "tell_cell" sTCell f fd'):FnOk P w K mg base (CX1 P w) 2 f fd' ["desk","numbers"] (spTC C CL):=by
 have nd:=scTC.nd
 refine F.ok1 scTC (fun vs H Q E h=>?_) (fun cdv A outer s H vs Q E hr h=>?_)
 ·obtain ⟨d,l,dx,b,sv,rv,x,y,rows,rfl,_⟩:=h
  rfl
 obtain ⟨d,l,dx,b,sv,rv,x,y,rows,rfl,hd,hl,nx,ny,hb,R,yes,no⟩:=h
 refine ⟨_,(pss_cons (ps_expr (pf_call FC hr rfl (pass1 (E:=E)) (pa_cons (pe_fld (pv 0) rfl) (pa_cons (pe_ix (ix_listK (K:=K) rfl) (pv 1) pe_int (fun _ _=>rfl)) (pa_cons (pe_ix (ix_listK (K:=K) rfl) (pv 1) pe_int (fun _ _=>rfl)) pa_nil)))))
  (pss_one (ps_ret (pe_callTy call_str_int rfl DT.str bt_str (pa_cons (pe_ix (ix_listK (K:=K) rfl) (pe_ix (ix_listK (K:=K) rfl) (pe_fld (pv 0) rfl) (pe_ix (ix_listK (K:=K) rfl) (pv 1) pe_int (fun _ _=>rfl)) (fun _ _=>rfl)) (pe_ix (ix_listK (K:=K) rfl) (pv 1) pe_int (fun _ _=>rfl)) (fun _ _=>rfl)) pa_nil))))),?_⟩
 have sq:=SqL.of (K:=K) hl
 refine ⟨_,rfl,d,C,dx,_,_,rfl,hd,DC.cl,DC.nB,rfl,_,rfl,l,_,0,.int x,rfl,rfl,sq,rfl,_,rfl,l,_,1,.int y,rfl,rfl,sq,rfl,b,x,y,rows,rfl,hb,R.1,nx,ny,fun hi=>?_,no⟩
 obtain ⟨nh,q⟩:=yes hi
 obtain ⟨i,j,row,v,exy,hrow,hv,hh⟩:=ins_at (inB.ins hi nx ny) R
 obtain ⟨rfl,rfl⟩:x=(j:Int)∧y=(i:Int):=by cases exy; exact ⟨rfl,rfl⟩
 obtain ⟨rs,hb1,ra⟩:=id hb
 obtain ⟨r,hr',hrl⟩:=ra.at_ hrow
 refine ⟨_,rfl,d,C,dx,_,_,rfl,hd,DC.cl,DC.nB,rfl,_,rfl,l,_,1,.int i,rfl,rfl,sq,rfl,b,_,_,.ref r,rfl,rfl,SqL.of hb1,atI_nat (by rw [List.getElem?_map,hr']; rfl),_,rfl,l,_,0,.int j,rfl,rfl,sq,rfl,r,_,_,.int v,rfl,rfl,SqL.of hrl,atI_nat (by rw [List.getElem?_map,hv]; rfl),v,rfl,?_,?_⟩
 ·rw [← hh]
  exact Nat.lt_trans nh.log (by decide)
 ·rw [← hh]
  exact q
def lowV (rows:List (List Int)) (ts:List Tool) (x y:Int):Int:=hgt (hadF rows (cutC rows ((x,y),0)) ts) (x,y)
inductive PspTL (C CL:Addr) (vs:List V) (H:Hp) (Q:VK) (E:XK):Prop
 | mk (d l dx b sh:Addr) (rv:V) (x y:Int) (rows:List (List Int)) (ts:List Tool) (h0:vs=[.ref d,.ref l]) (h1:H d=some (.ins C dx (fsK (.ref b) (.ref sh) rv))) (h2:H l=some (.lst [.int x,.int y])) (nx:Nb x) (ny:Nb y) (hb:BdAt H b rows) (R:Rect rows) (sm:Small rows)
  (pos:∀ c,ins rows c=true→0≤hgt rows c) (hs:ShAt H sh ts) (ne:ts≠[]) (ft:∀ t∈ts,t.1.length < 64)
  (yes:inB rows x y→Nb (lowV rows ts x y)∧∀ H',Same H H'→Q (.str (toString (lowV rows ts x y))) H') (no:¬ inB rows x y→E (.ref CL) none H):PspTL C CL vs H Q E
def spTL (C CL:Addr):Sp:=fun vs H Q E=>PspTL C CL vs H Q E
theorem scTL:FnScope ["desk","numbers","x","y","wished"] ["desk","numbers"] (defScope sTLow):=⟨rfl,rfl,rfl,by decide +kernel,rfl,by decide +kernel,by decide +kernel⟩
theorem ok_tl (T:LawT mg) (DT:DkT K mg) (DC:DkC K C) (FC:Fn P w K mg base "look_at_cell" 1 ["bed","x","y"] (spLCell CL)) (FS:Fn P w K mg base "look_at_shelf" 1 ["shelf"] spLShelf) (FO:Fn P w K mg base "lowest_over" 4 ["bed","wished","shelf","x","y"] spOver) (F:Fun K "tell_low" "tell_low" sTLow f fd'):FnOk P w K mg base (CX1 P w) 5 f fd' ["desk","numbers"] (spTL C CL):=by
 have nd:=scTL.nd
 refine F.ok1 scTL (fun vs H Q E h=>?_) (fun cdv A outer s H vs Q E hr h=>?_)
 ·obtain ⟨d,l,dx,b,sh,rv,x,y,rows,ts,rfl,_⟩:=h
  rfl
 obtain ⟨d,l,dx,b,sh,rv,x,y,rows,ts,rfl,hd,hl,nx,ny,hb,R,sm,pos,hs,ne,ft,yes,no⟩:=h
 have hr1:Room 1 _:=hr.mono (by decide)
 refine ⟨_,(pss_cons (ps_set (i:=2) nd rfl (Or.inl rfl) (pe_ix (ix_listK (K:=K) rfl) (pv 1) pe_int (fun _ _=>rfl)))
  (pss_cons (ps_set (i:=3) nd rfl (Or.inl rfl) (pe_ix (ix_listK (K:=K) rfl) (pv 1) pe_int (fun _ _=>rfl)))
  (pss_cons (ps_expr (pf_call FC hr1 rfl (pass1 (E:=E)) (pa_cons (pe_fld (pv 0) rfl) (pa_cons (pv 2) (pa_cons (pv 3) pa_nil)))))
  (pss_cons (ps_expr (pf_call FS hr1 rfl (pass1 (E:=E)) (pa_cons (pe_fld (pv 0) rfl) pa_nil)))
  (pss_cons (ps_setC (i:=4) (own:=["row"]) (capn:=[]) (capI:=[]) nd rfl (Or.inl rfl) rfl rfl (blk0 rfl (by decide +kernel)) (pi_list (pe_fld (pv 0) rfl)) (fun _ _ _ _ _ _=>pg_name (i:=0) (nd1 "row") rfl (Or.inl rfl)) (fun _ _ _ _ _ _=>pifs_nil) (fun _ _ _ _ _ _=>(pe_callTy (call_listK (K:=K) rfl) rfl T.list bt_list (pa_cons (pv 0) pa_nil))))
  (pss_cons (ps_asg pe_int (pg_sub (pe_ix (ix_listK (K:=K) rfl) (pv 4) (pv 3) (fun _ _=>rfl)) (pv 2) set_list))
  (pss_one (ps_ret (pe_callTy call_str_int rfl DT.str bt_str (pa_cons (pf_call FO hr rfl (pass1 (E:=E)) (pa_cons (pe_fld (pv 0) rfl) (pa_cons (pv 4) (pa_cons (pe_fld (pv 0) rfl) (pa_cons (pv 2) (pa_cons (pv 3) pa_nil)))))) pa_nil)))))))))),?_⟩
 have sq:=SqL.of (K:=K) hl
 refine ⟨_,rfl,l,_,0,.int x,rfl,rfl,sq,rfl,_,rfl,l,_,1,.int y,rfl,rfl,sq,rfl,_,rfl,d,C,dx,_,_,rfl,hd,DC.cl,DC.nB,rfl,_,rfl,_,rfl,b,x,y,rows,rfl,hb,R.1,nx,ny,fun hi=>?_,no⟩
 obtain ⟨cts,hsh,hcts⟩:=id hs
 have ne':cts.map V.ref≠[]:=fun z=>ne (by
  have h1:=hcts.len
  have h2:cts.length=0:=by rw [← List.length_map (f:=V.ref),z]; rfl
  exact List.length_eq_zero_iff.mp (by lia))
 refine ⟨_,rfl,d,C,dx,_,_,rfl,hd,DC.cl,DC.nS,rfl,sh,_,rfl,hsh,ne',?_⟩
 obtain ⟨rs,hb1,ra⟩:=id hb
 refine ⟨_,rfl,d,C,dx,_,_,rfl,hd,DC.cl,DC.nB,rfl,b,rfl,⟨_,SqL.of hb1⟩,fun D hD=>?_⟩
 refine lc_rows (K:=K) hb1 ra (by have:=sm.1; lia) (fun r row H2 R hr' k=>⟨_,rfl,r,_,rfl,.inl (SqL.of hr'),k⟩) hD (fun hs' H1 s1 hD1 rh ndh nh nD=>?_)
 obtain ⟨nl,q⟩:=yes hi
 have hin:=inB.ins hi nx ny
 obtain ⟨i,j,row,v,exy,hrow,hv,hh⟩:=ins_at hin R
 obtain ⟨rfl,rfl⟩:x=(j:Int)∧y=(i:Int):=by cases exy; exact ⟨rfl,rfl⟩
 obtain ⟨r,hr',hrl⟩:=rh.at_ hrow
 have rmem:r∈hs':=List.mem_of_getElem? hr'
 have jl':j < (row.map V.int).length:=by rw [List.length_map]; exact (List.getElem?_eq_some_iff.mp hv).1
 refine ⟨_,rfl,_,rfl,D,_,_,.ref r,rfl,rfl,SqL.of hD1,atI_nat (by rw [List.getElem?_map,hr']; rfl),_,rfl,r,_,_,j,rfl,rfl,hrl,ixN_nat jl',?_⟩
 have s2:Same H (upd H1 r (.lst ((row.map V.int).set j (.int 0)))):=same_in s1 (nh r rmem)
 have v0:0≤v:=by rw [← hh]; exact pos _ hin
 have ecut:cutC rows (((j:Int),(i:Int)),0)=rows.set i (row.set j 0):=by
  show rows.set (i:Int).toNat (((rows[(i:Int).toNat]?).getD []).set (j:Int).toNat (mn (hgt rows ((j:Int),(i:Int))) 0))=_
  rw [Int.toNat_natCast,Int.toNat_natCast,hrow,hh]
  show rows.set i (row.set j (mn v 0))=_
  have:mn v 0=0:=by unfold mn; split <;> lia
  rw [this]
 have hw:BdAt (upd H1 r (.lst ((row.map V.int).set j (.int 0)))) D (cutC rows (((j:Int),(i:Int)),0)):=by
  refine ⟨hs',?_,?_⟩
  ·rw [upd_ne (fun z=>nD (by rw [z]; exact rmem))]
   exact hD1
  ·rw [ecut]
   have:=RowsAt.set (row:=row.set j 0) ndh rh hr'
   rw [List.map_set] at this
   exact this
 have hd2:=s2 _ _ hd
 refine ⟨_,rfl,d,C,dx,_,_,rfl,hd2,DC.cl,DC.nB,rfl,_,rfl,_,rfl,d,C,dx,_,_,rfl,hd2,DC.cl,DC.nS,rfl,_,rfl,_,rfl,b,D,sh,_,_,rows,_,ts,rfl,hb.same s2,hw,hs.same s2,R,cutC_alike _ _,sm,ft,hin,fun H3 s3=>⟨_,rfl,Nat.lt_trans nl.log (by decide),q _ (s2.trans s3)⟩⟩
end
abbrev kI (x:Str):Key:=Sum.inr x
def kvsN:List (Key×V):=[(kI "bed",.int 3),(kI "cutter",.int 2),(kI "drop",.int 0),(kI "carve",.int 0),(kI "cell",.int 2),(kI "show",.int 0),(kI "low",.int 2)]
def dueV (k:Str):V:=(valV kvsN (kI k)).getD .non
def toldW:List Str→Option (Str×List Int)
 | []=>none
 | k :: r=>if dueV k=.int (r.length:Int)∧r.all numS=true then some (k,r.map numV) else none
theorem due_is (k:Str):dueV k=.non∨∃ n,dueV k=.int n:=by
 unfold dueV valV
 cases h:kvsN.find? fun kv=>decide (kv.1=kI k) with
 | none=>exact .inl rfl
 | some p =>
  have:=List.mem_of_find?_eq_some h
  unfold kvsN at this
  simp only [List.mem_cons,List.not_mem_nil,or_false] at this
  rcases this with rfl | rfl | rfl | rfl | rfl | rfl | rfl <;> exact .inr ⟨_,rfl⟩
theorem str_of {zs:List Str} {i:Nat} {y:V} (h:(zs.map V.str)[i]?=some y):∃ z,y=.str z∧zs[i]?=some z:=by
 rw [List.getElem?_map] at h
 cases hz:zs[i]? with
 | none=>rw [hz] at h; cases h
 | some z=>rw [hz] at h; cases h; exact ⟨z,rfl,rfl⟩
theorem cut1 (k:Str) (r:List Str):cutV ((k :: r).map V.str) (some 1) none=r.map V.str:=by
 show cutV (V.str k :: r.map V.str) (some 1) none=r.map V.str
 generalize r.map V.str=xs
 unfold cutV
 have e1:HT.sIx (V.str k :: xs).length 0 (some 1)=1:=by
  unfold HT.sIx
  simp
 have e2:HT.sIx (V.str k :: xs).length (V.str k :: xs).length none=(V.str k :: xs).length:=by
  unfold HT.sIx
  simp
 rw [e1,e2]
 simp
structure TdT (P:Program) (w:World) (K:PySem.W.Frag) (mg:Str→Option Value):Prop where
 due:∃ a,mg "NUMBERS_DUE"=some (.ref a)∧DkK P w K a kvsN∧NoDict K a
 row:∃ t,mg "ROW_AHEAD"=some (.str "row " t)
 all:mg "all"=none
def OutT (CF:Addr) (H:Hp) (Q:VK) (E:XK):Option (Str×List Int)→Prop
 | none=>∀ H',Same H H'→E (.ref CF) none H'
 | some p=>∀ (t l:Addr) (H':Hp),Same H H'→H l=none→H' t=some (.tup [.str p.1,.ref l])→H' l=some (.lst (p.2.map V.int))→Q (.ref t) H'
structure RwOk (z:Str) (ws:List Str):Prop where
 sp:Txt.split z " "=ws
 ne:ws≠[]
 nl:10 ∉ cl z
 st:Txt.startswith z "row "=false
 wo:z.length≤1000∧∀ c∈cl z,c < 16 ^ 8
 wl:∀ x∈ws,x.length≤1000
 ln:ws.length≤1000
section
variable {P:Program} {w:World} {K:PySem.W.Frag} {mg:Str→Option Value} {base:Heap} {C CM CL CF f:Addr} {fd':FuncData}
def spTold (CF:Addr):Sp:=fun vs H Q E=>∃ (z:Str) (ws:List Str),vs=[.str z]∧RwOk z ws∧OutT CF H Q E (toldW ws)
theorem scTold:FnScope ["row","words"] ["row"] (defScope sTold):=⟨rfl,rfl,rfl,by decide +kernel,rfl,by decide +kernel,by decide +kernel⟩
theorem ok_told (T:LawT mg) (TT:TdT P w K mg) (R:OwnX mg base "NoForm" CF) (FN:Fn P w K mg base "is_number" 2 ["word"] spNumber) (F:Fun K "told_in" "told_in" sTold f fd'):FnOk P w K mg base (CX1 P w) 3 f fd' ["row"] (spTold CF):=by
 have nd:=scTold.nd
 refine F.ok1 scTold (fun vs H Q E h=>?_) (fun cdv A outer s H vs Q E hr h=>?_)
 ·obtain ⟨z,ws,rfl,_⟩:=h
  rfl
 obtain ⟨z,ws,rfl,O1,q⟩:=h
 obtain ⟨aN,gN,dN,nN⟩:=TT.due
 obtain ⟨tR,gR⟩:=TT.row
 obtain ⟨bm,O,FB⟩:=R
 refine ⟨_,(pss_cons (ps_if (pt_cmpR op_in_str pe_str (pv 0) (by with_unfolding_all rfl)) (pss_one (ps_raise O FB rfl rfl raises1 (pa_cons pe_str pa_nil))) pss_nil)
  (pss_cons (ps_if (pt_truth (pe_bm PySem.F.plainAttrs_str PySem.F.slot_str_startswith PySem.F.type_str_startswith mt_starts (pv 0) (pa_cons (pe_glob (v:=.str "row ") rfl gR ⟨_,rfl⟩) pa_nil)) (fun _=>rfl)) (pss_one (ps_ret (pe_tup (pa_cons pe_str (pa_cons (pe_slice sl_str (pv 0) (po_some (pe_callB call_len_str rfl T.len PySem.boot_len (pa_cons (pe_glob (v:=.str "row ") rfl gR ⟨_,rfl⟩) pa_nil))) po_none) pa_nil))))) pss_nil)
  (pss_cons (ps_set (i:=1) nd rfl (Or.inl rfl) (pe_bm PySem.F.plainAttrs_str PySem.F.slot_str_split PySem.F.type_str_split mt_split (pv 0) (pa_cons pe_str pa_nil)))
  (pss_mid (ps_if (PW.pt (pw_or (pt_cmpR op_ne (pe_dgetN (pe_glob (v:=.ref aN) rfl gN rfl) (pe_ix (ix_listK (K:=K) rfl) (pv 1) pe_int (fun _ _=>rfl)) ⟨rfl,rfl,rfl,rfl⟩) (pe_op op_sub (pe_callB (call_lenK (K:=K) rfl) rfl T.len PySem.boot_len (pa_cons (pv 1) pa_nil)) pe_int) (nomark _)) (pw_or1 (pt_not (pt_truth (pe_callB (call_allB rfl) rfl TT.all bt_all (pa_cons (pe_lc (own:=["word"]) (capn:=[]) (capI:=[]) rfl (blk0 rfl (by decide +kernel)) (pi_list (pe_slice sl_list (pv 1) (po_some pe_int) po_none)) (fun _ _ _ _ _ _=>pg_name (i:=0) (nd1 "word") rfl (Or.inl rfl)) (fun _ _ _ _ _ _=>pifs_nil) (fun _ _ _ _ _ _=>(pf_call FN hr rfl passN (pa_cons (pv 0) pa_nil)))) pa_nil)) (fun _=>rfl)))))) (pss_one (ps_raise O FB rfl rfl raises1 (pa_cons (pe_fsR (pv 0) (by decide +kernel)) pa_nil))) pss_nil)
  (pss_one (ps_ret (pe_tup (pa_cons (pe_ix (ix_listK (K:=K) rfl) (pv 1) pe_int (fun _ _=>rfl)) (pa_cons (pe_lc (own:=["word"]) (capn:=[]) (capI:=[]) rfl (blk0 rfl (by decide +kernel)) (pi_list (pe_slice sl_list (pv 1) (po_some pe_int) po_none)) (fun _ _ _ _ _ _=>pg_name (i:=0) (nd1 "word") rfl (Or.inl rfl)) (fun _ _ _ _ _ _=>pifs_nil) (fun _ _ _ _ _ _=>(pe_callTy call_intS rfl T.int bt_int (pa_cons (pv 0) pa_nil)))) pa_nil))))))))),?_⟩
 have hz':z.length≤sizeLine:=Nat.le_of_lt (line3 O1.wo.1 (by decide))
 obtain ⟨k,r,ews⟩:∃ k r,ws=k :: r:=by
  cases h:ws with
  | nil=>exact absurd h O1.ne
  | cons k r=>exact ⟨k,r,rfl⟩
 refine ⟨_,rfl,_,_,rfl,rfl,_,rfl,?_⟩
 rw [show (!(Builtin.Str.occurrences z (Str.ofString "\n") 0 z.length 1).isEmpty)=false by
  rw [show (Str.ofString "\n":Str)=⟨#[10]⟩ by decide +kernel,StrLaws.found_one]
  exact decide_eq_false O1.nl]
 refine iteF ⟨_,rfl,rfl,z,_,rfl,rfl,_,rfl,?_⟩
 rw [O1.st]
 refine iteF ⟨_,rfl,rfl,z,_,rfl,rfl,(by decide +kernel),hz',by rw [O1.sp]; exact Nat.le_of_lt (line3 O1.ln (by decide)),fun D hD=>?_⟩
 rw [O1.sp]
 have s1:=same_upd hD (.lst (ws.map V.str))
 have hD1:upd H D (.lst (ws.map V.str)) D=some (.lst (ws.map V.str)):=upd_same
 generalize upd H D (.lst (ws.map V.str))=H1 at s1 hD1 ⊢
 have hat:atI (ws.map V.str) 0=some (.str k):=by rw [ews]; exact atI_nat (xs:=(k :: r).map V.str) (j:=0) rfl
 refine ⟨fun σ H2=>σ=[some (.str z),some (.ref D)]∧Same H1 H2∧toldW ws=some (k,r.map numV),?_,?_⟩
 ·refine ⟨aN,kvsN,rfl,dN,nN,_,rfl,D,_,0,.str k,rfl,rfl,SqL.of hD1,hat,kI k,rfl,_,rfl,D,_,rfl,.inl (SqL.of hD1),_,_,rfl,rfl,?_⟩
  have el:((ws.map V.str).length:Int) - 1=(r.length:Int):=by rw [ews,List.length_map,List.length_cons]; lia
  show rNe (dueV k) (V.int (((ws.map V.str).length:Int) - 1)) _ _
  rw [el]
  refine ⟨(by rcases due_is k with e | ⟨n,e⟩ <;> (show scal (dueV k) _=true) <;> rw [e] <;> rfl),_,rfl,?_⟩
  show if (!decide (dueV k=V.int (r.length:Int)))=true then _ else _
  by_cases hdu:dueV k=V.int (r.length:Int)
  ·rw [decide_eq_true hdu]
   refine iteF ⟨_,rfl,1,rfl,D,_,rfl,SqL.of hD1,fun p hp=>?_⟩
   rw [ews,cut1]
   have s2:=same_upd hp (.lst (r.map V.str))
   have hp2:upd H1 p (.lst (r.map V.str)) p=some (.lst (r.map V.str)):=upd_same
   generalize upd H1 p (.lst (r.map V.str))=H2 at s2 hp2
   refine ⟨p,rfl,⟨_,SqL.of hp2⟩,fun L hL=>?_⟩
   refine ⟨Wd r.length (fun i σ acc H3=>∃ o:Option V,σ=[o]∧acc=((r.take i).map numS).map V.bl∧Same H2 H3∧H3 L=some (.lst acc)),wd_0 ⟨none,rfl,rfl,same_upd hL _,upd_same⟩,?_⟩
   rintro i m σ acc H3 ⟨rfl,hi0,o,rfl,rfl,s3,hL3⟩
   refine lc_ask (K:=K) (SqL.of (s3 _ _ hp2)) (by rw [List.length_map]; exact hi0) (fun y hy hi=>?_) (fun hend=>?_)
   ·obtain ⟨x,rfl,hx⟩:=str_of hy
    have hxm:x∈ws:=by rw [ews]; exact List.mem_cons_of_mem _ (List.mem_of_getElem? hx)
    have hi':i < r.length:=by rw [List.length_map] at hi; exact hi
    refine ⟨_,rfl,x,rfl,O1.wl x hxm,fun H4 s4=>⟨s4 _ _ hL3,?_,wd_next hi' ⟨_,rfl,?_,same_in (s3.trans s4) hL,upd_same⟩⟩⟩
    ·rw [List.length_map,List.length_map]
     have:=O1.ln
     rw [ews,List.length_cons] at this
     exact line3 (show _≤1000 by rw [List.length_take]; lia) (by decide)
    ·rw [List.take_add_one,hx,List.map_append,List.map_append]
     rfl
   ·refine ⟨L,_,rfl,SqL.of hL3,_,rfl,?_⟩
    rw [hend,List.length_map,List.take_of_length_le (Nat.le_refl _)]
    have ea:(r.map numS).all id=r.all numS:=by rw [List.all_map]; rfl
    rw [ea]
    cases hall:r.all numS with
    | true =>
     refine iteF ⟨rfl,s2.trans s3,?_⟩
     exact if_pos ⟨hdu,hall⟩
    | false =>
     refine iteT ⟨_,rfl,z,rfl,O1.wo.1,O1.wo.2,fun y=>⟨le1,?_⟩⟩
     have et:toldW ws=none:=by rw [ews]; exact if_neg fun z=>by rw [hall] at z; cases z.2
     rw [et] at q
     exact q _ (s1.trans (s2.trans s3))
  ·rw [decide_eq_false hdu]
   refine iteT (iteT ⟨_,rfl,z,rfl,O1.wo.1,O1.wo.2,fun y=>⟨le1,?_⟩⟩)
   have et:toldW ws=none:=by rw [ews]; exact if_neg fun z=>hdu z.1
   rw [et] at q
   exact q _ s1
 rintro σ H2 ⟨rfl,s2,et⟩
 rw [et] at q
 have hall:r.all numS=true:=by
  rw [ews] at et
  by_cases h:dueV k=.int (r.length:Int)∧r.all numS=true
  ·exact h.2
  ·rw [show toldW (k :: r)=none from if_neg h] at et
   cases et
 have hD2:=s2 _ _ hD1
 refine ⟨_,rfl,D,_,0,.str k,rfl,rfl,SqL.of hD2,hat,_,rfl,1,rfl,D,_,rfl,SqL.of hD2,fun p hp=>?_⟩
 rw [ews,cut1]
 have s3:=s2.trans (same_upd hp (.lst (r.map V.str)))
 have hp2:upd H2 p (.lst (r.map V.str)) p=some (.lst (r.map V.str)):=upd_same
 generalize upd H2 p (.lst (r.map V.str))=H3 at s3 hp2
 refine ⟨p,rfl,⟨_,SqL.of hp2⟩,fun L hL=>?_⟩
 have hLH:H L=none:=(s1.trans s3).free hL
 refine ⟨Wd r.length (fun i σ acc H4=>∃ o:Option V,σ=[o]∧acc=((r.take i).map numV).map V.int∧Same H3 H4∧H4 L=some (.lst acc)),wd_0 ⟨none,rfl,rfl,same_upd hL _,upd_same⟩,?_⟩
 rintro i m σ acc H4 ⟨rfl,hi0,o,rfl,rfl,s4,hL4⟩
 refine lc_ask (K:=K) (SqL.of (s4 _ _ hp2)) (by rw [List.length_map]; exact hi0) (fun y hy hi=>?_) (fun hend=>?_)
 ·obtain ⟨x,rfl,hx⟩:=str_of hy
  have hn:=numS_int (List.all_eq_true.mp hall x (List.mem_of_getElem? hx))
  have hi':i < r.length:=by rw [List.length_map] at hi; exact hi
  refine ⟨_,rfl,x,numV x,rfl,hn.1,(by lia),hL4,?_,wd_next hi' ⟨_,rfl,?_,same_in s4 hL,upd_same⟩⟩
  ·rw [List.length_map,List.length_map]
   have:=O1.ln
   rw [ews,List.length_cons] at this
   exact line3 (show _≤1000 by rw [List.length_take]; lia) (by decide)
  ·rw [List.take_add_one,hx,List.map_append,List.map_append]
   rfl
 ·refine ⟨le2,fun t ht=>?_⟩
  rw [hend,List.length_map,List.take_of_length_le (Nat.le_refl _)] at hL4
  have v:=same_upd ht (.tup [V.str k,.ref L])
  exact q t L _ (s1.trans (s3.trans (s4.trans v))) hLH upd_same (v _ _ hL4)
end
def dosK (f1 f2 f3 f4 f5 f6 f7 f8:Addr):List (Key×V):=[(kI "bed",.ref f1),(kI "cutter",.ref f2),(kI "row",.ref f3),(kI "drop",.ref f4),(kI "carve",.ref f5),(kI "cell",.ref f6),(kI "show",.ref f7),(kI "low",.ref f8)]
structure DoT (P:Program) (w:World) (K:PySem.W.Frag) (mg:Str→Option Value) (base:Heap) (C CM CL fa f1 f2 f3 f4 f5 f6 f7 f8:Addr):Prop where
 ns:mg "DOINGS"=some (.ref fa)
 dk:DkK P w K fa (dosK f1 f2 f3 f4 f5 f6 f7 f8)
 v1:FnV P w K mg base 5 f1 ["desk","numbers"] (spLay C CM)
 v2:FnV P w K mg base 5 f2 ["desk","numbers"] (spPut C CM)
 v6:FnV P w K mg base 5 f6 ["desk","numbers"] (spTC C CL)
 v8:FnV P w K mg base 5 f8 ["desk","numbers"] (spTL C CL)
section
variable {P:Program} {w:World} {K:PySem.W.Frag} {mg:Str→Option Value} {base:Heap} {C CM CL CF CB fa f1 f2 f3 f4 f5 f6 f7 f8 f:Addr} {fd':FuncData}
def spDeskI (C:Addr):Sp:=fun vs H Q _=>∃ (d dx:Addr),vs=[.ref d]∧H d=some (.ins C dx [])∧∀ (sv rv:V) (H':Hp),(∀ x o,x≠d→H x=some o→H' x=some o)→H' d=some (.ins C dx (fsK .non sv rv))→Q .non H'
theorem scDeskI:FnScope ["self"] ["self"] (defScope sDeskI):=⟨rfl,rfl,rfl,by decide +kernel,rfl,by decide +kernel,by decide +kernel⟩
theorem ok_deskI (DC:DkC K C) (F:Fun K "__init__" "Desk.__init__" sDeskI f fd'):FnOk P w K mg base (CX1 P w) 1 f fd' ["self"] (spDeskI C):=by
 have nd:=scDeskI.nd
 refine F.ok1 scDeskI (fun vs H Q E h=>?_) (fun cdv A outer s H vs Q E hr h=>?_)
 ·obtain ⟨d,dx,rfl,_⟩:=h
  rfl
 obtain ⟨d,dx,rfl,hd,q⟩:=h
 refine ⟨_,(pss_cons (ps_fld (pv 0) pe_non rfl) (pss_cons (ps_fld (pv 0) (pe_lst pa_nil) rfl) (pss_one (ps_fld (pv 0) (pe_lst pa_nil) rfl)))),?_⟩
 refine ⟨_,rfl,d,C,dx,_,rfl,hd,DC.cl,DC.nB,(by decide),?_⟩
 refine ⟨(by decide),fun sh hsh=>⟨_,rfl,d,C,dx,_,rfl,same_upd hsh _ _ _ upd_same,DC.cl,DC.nS,(by show 1 < 1000; decide),?_⟩⟩
 refine ⟨(by decide),fun rw' hrw=>⟨_,rfl,d,C,dx,_,rfl,same_upd hrw _ _ _ upd_same,DC.cl,DC.nR,(by show 2 < 1000; decide),?_⟩⟩
 refine q (.ref sh) (.ref rw') _ (fun x o n e=>?_) upd_same
 rw [upd_ne n]
 refine same_upd hrw _ _ _ ?_
 rw [upd_ne n]
 refine same_upd hsh _ _ _ ?_
 rw [upd_ne n]
 exact e
def doS (C CM CL:Addr) (k:Str):Sp:=fun vs H Q E=>(k="bed"∧spLay C CM vs H Q E)∨(k="cutter"∧spPut C CM vs H Q E)∨(k="cell"∧spTC C CL vs H Q E)∨(k="low"∧spTL C CL vs H Q E)
inductive PspSay (C CM CL CF:Addr) (vs:List V) (H:Hp) (Q:VK) (E:XK):Prop
 | mk (d dx:Addr) (bv sv rv:V) (z:Str) (ws:List Str) (h0:vs=[.ref d,.str z]) (h1:H d=some (.ins C dx (fsK bv sv rv))) (h2:RwOk z ws) (bd:bv=.non∨∃ b,bv=.ref b)
  (no:toldW ws=none→∀ H',Same H H'→E (.ref CF) none H') (yes:∀ k ns,toldW ws=some (k,ns)→(bv=.non→k="bed")∧∀ (l:Addr) (H':Hp),Same H H'→H l=none→H' l=some (.lst (ns.map V.int))→doS C CM CL k [.ref d,.ref l] H' Q E):PspSay C CM CL CF vs H Q E
def spSay (C CM CL CF:Addr):Sp:=fun vs H Q E=>PspSay C CM CL CF vs H Q E
theorem scSay:FnScope ["self","row","told"] ["self","row"] (defScope sSay):=⟨rfl,rfl,rfl,by decide +kernel,rfl,by decide +kernel,by decide +kernel⟩
theorem ok_say (DC:DkC K C) (T:DoT P w K mg base C CM CL fa f1 f2 f3 f4 f5 f6 f7 f8) (R:OwnX mg base "NoBed" CB) (FT:Fn P w K mg base "told_in" 3 ["row"] (spTold CF)) (F:Fun K "say" "Desk.say" sSay f fd'):FnOk P w K mg base (CX1 P w) 6 f fd' ["self","row"] (spSay C CM CL CF):=by
 have nd:=scSay.nd
 refine F.ok1 scSay (fun vs H Q E h=>?_) (fun cdv A outer s H vs Q E hr h=>?_)
 ·obtain ⟨d,dx,bv,sv,rv,z,ws,rfl,_⟩:=h
  rfl
 obtain ⟨d,dx,bv,sv,rv,z,ws,rfl,hd,O1,bd,no,yes⟩:=h
 obtain ⟨bm,O,FB⟩:=R
 have hr3:Room 3 _:=hr.mono (by decide)
 refine ⟨_,(pss_cons (ps_set (i:=2) nd rfl (Or.inl rfl) (pf_call FT hr3 rfl (pass1 (E:=E)) (pa_cons (pv 1) pa_nil)))
  (pss_mid (ps_if (PW.pt (pw_and (pt_cmpR op_isN (pe_fld (pv 0) rfl) pe_non (nomark _)) (pw_and1 (pt_cmpR op_ne (pe_ix (ix_tupK (K:=K) rfl) (pv 2) pe_int (fun _ _=>rfl)) pe_str (nomark _))))) (pss_one (ps_raise O FB rfl rfl raises1 (pa_cons pe_str pa_nil))) pss_nil)
  (pss_one (ps_ret (pe_do (pe_dgetC (pe_glob (v:=.ref fa) rfl T.ns rfl) (pe_ix (ix_tupK (K:=K) rfl) (pv 2) pe_int (fun _ _=>rfl)) (fun _ _=>rfl)) hr (pass1 (E:=E)) (pa_cons (pv 0) (pa_cons (pe_ix (ix_tupK (K:=K) rfl) (pv 2) pe_int (fun _ _=>rfl)) pa_nil)) rfl))))),?_⟩
 refine ⟨_,rfl,z,ws,rfl,O1,?_⟩
 cases et:toldW ws with
 | none=>exact no et
 | some p =>
  obtain ⟨k,ns⟩:=p
  obtain ⟨kb,ds⟩:=yes k ns et
  intro t l H1 s1 hl ht1 hl1
  have sq:=SqT.of (K:=K) ht1
  have hd1:=s1 _ _ hd
  refine ⟨fun σ H2=>σ=[some (.ref d),some (.str z),some (.ref t)]∧H2=H1,?_,?_⟩
  ·refine ⟨_,rfl,d,C,dx,_,_,rfl,hd1,DC.cl,DC.nB,rfl,rfl,_,rfl,?_⟩
   rcases bd with rfl | ⟨b,rfl⟩
   ·rw [decide_eq_true rfl]
    refine iteT ⟨_,rfl,t,_,0,.str k,rfl,rfl,sq,rfl,rfl,_,rfl,?_⟩
    rw [decS,decide_eq_true (kb rfl)]
    exact iteF ⟨rfl,rfl⟩
   ·rw [decide_eq_false (fun z=>by cases z)]
    exact iteF (iteF ⟨rfl,rfl⟩)
  rintro σ H2 ⟨rfl,rfl⟩
  obtain ⟨g,sp,hv,hF,q⟩:∃ (g:Addr) (sp:Sp),valV (dosK f1 f2 f3 f4 f5 f6 f7 f8) (kI k)=some (.ref g)∧FnV P w K mg base 5 g ["desk","numbers"] sp∧sp [.ref d,.ref l] H2 Q E:=by
   rcases ds l H2 s1 hl hl1 with ⟨rfl,q⟩ | ⟨rfl,q⟩ | ⟨rfl,q⟩ | ⟨rfl,q⟩
   ·exact ⟨f1,_,rfl,T.v1,q⟩
   ·exact ⟨f2,_,rfl,T.v2,q⟩
   ·exact ⟨f6,_,rfl,T.v6,q⟩
   ·exact ⟨f8,_,rfl,T.v8,q⟩
  exact ⟨_,rfl,t,_,0,.str k,rfl,rfl,sq,rfl,fa,_,kI k,.ref g,rfl,T.dk,rfl,hv,g,_,sp,rfl,hF,_,rfl,_,rfl,t,_,1,.ref l,rfl,rfl,sq,rfl,q⟩
end
abbrev st1 (c:Nat):Str:=⟨#[c]⟩
theorem for_str {z:Str} {g:TG} {tb:TS} {D:Ends} {σ:St} {H:Hp} (Pv:Nat→St→Hp→Prop) (h0:Pv 0 σ H)
  (hs:∀ i c σ H,(cl z)[i]?=some c→Pv i σ H→g (.str (st1 c)) σ H fun σ2 H2=>tb { D with nx:=Pv (i + 1),ct:=Pv (i + 1),bk:=D.nx } σ2 H2) (hd:∀ σ H,Pv (cl z).length σ H→D.nx σ H) :
  ∃ W:Nat→Nat→St→Hp→Prop,(∃ m,W 0 m σ H)∧∀ i m σ H,W i m σ H →
   ((Its z).stop i H∧D.nx σ H)∨((Its z).go i H∧∃ N:St→Hp→Prop,(∀ σ' H',N σ' H'→∃ m',m' < m∧W (i + 1) m' σ' H')∧∀ x H',(Its z).yld i H x H'→g x σ H' fun σ2 H2=>tb { D with nx:=N,ct:=N,bk:=D.nx } σ2 H2):=by
 have hz:z.cps.size=(cl z).length:=by simp
 refine ⟨fun i m σ H=>m=(cl z).length - i∧i≤(cl z).length∧Pv i σ H,⟨(cl z).length,by simp,Nat.zero_le _,h0⟩,?_⟩
 rintro i m σ H ⟨rfl,hi,p⟩
 by_cases hlt:i < (cl z).length
 ·refine .inr ⟨by show i < z.cps.size; lia,Pv (i + 1),fun σ' H' p'=>⟨(cl z).length - (i + 1),by lia,rfl,hlt,p'⟩,fun x H' y=>?_⟩
  obtain ⟨rfl,c,hc,rfl⟩:=y
  exact hs i c σ _ (by simpa using hc) p
 ·have e:i=(cl z).length:=by lia
  subst e
  exact .inl ⟨by show z.cps.size≤_; lia,hd σ H p⟩
theorem fig_cl:cl figT=[48,49,50,51,52,53,54,55,56,57]:=by decide +kernel
theorem fig_in {c:Nat}:c∈cl figT↔48≤c∧c≤57:=by
 rw [fig_cl]
 refine ⟨fig10,fun h=>?_⟩
 have:∀ k:Fin 10,48 + k.1∈[48,49,50,51,52,53,54,55,56,57]:=by decide
 have:=this ⟨c - 48,by lia⟩
 rw [show 48 + (c - 48)=c by lia] at this
 exact this
theorem fig_find {c:Nat} (h:48≤c∧c≤57):Txt.find figT (st1 c)=((c - 48:Nat):Int):=by
 obtain ⟨h1,h2⟩:=h
 have:∀ k:Fin 10,Txt.find figT (st1 (48 + k.1))=((48 + k.1 - 48:Nat):Int):=by decide +kernel
 have:=this ⟨c - 48,by lia⟩
 rw [show 48 + (c - 48)=c by lia] at this
 exact this
theorem val_lt:∀ (cs:List Nat),PySem.NumText.AllDigits cs→PySem.NumText.digitsVal cs < 10 ^ cs.length:=by
 intro cs h
 have g:∀ (cs:List Nat) (a:Nat),PySem.NumText.AllDigits cs→cs.foldl (fun acc c=>acc * 10 + (c - 48)) a < (a + 1) * 10 ^ cs.length:=by
  intro cs
  induction cs with
  | nil=>intro a _; rw [List.foldl_nil,List.length_nil]; lia
  | cons c cs ih =>
   intro a h
   have h1:=h.head
   have:=ih (a * 10 + (c - 48)) h.tail
   rw [List.foldl_cons,List.length_cons,Nat.pow_succ]
   refine Nat.lt_of_lt_of_le this ?_
   rw [show (a + 1) * (10 ^ cs.length * 10)=((a + 1) * 10) * 10 ^ cs.length by rw [Nat.mul_comm (10 ^ cs.length) 10,Nat.mul_assoc]]
   exact Nat.mul_le_mul_right _ (by lia)
 have:=g cs 0 h
 rw [Nat.zero_add,Nat.one_mul] at this
 exact this
theorem numS_digits {p:Str} (h:numS p=true):PySem.NumText.AllDigits (cl p)∧p.length≤6:=by
 unfold numS at h
 rw [Bool.and_eq_true,Bool.and_eq_true] at h
 obtain ⟨⟨h1,h2⟩,_⟩:=h
 exact ⟨fun c hc=>fig_in.mp (of_decide_eq_true (List.all_eq_true.mp h2 c hc)),(of_decide_eq_true h1).2⟩
theorem numV_nb {p:Str} (h:numS p=true):Nb (numV p):=by
 obtain ⟨h1,h2⟩:=numS_digits h
 have:=val_lt _ h1
 have e:(cl p).length=p.length:=Array.length_toList
 rw [e] at this
 have h6:10 ^ p.length≤10 ^ 6:=Nat.pow_le_pow_right (by decide) h2
 unfold numV
 refine ⟨Int.natCast_nonneg _,?_⟩
 have:PySem.NumText.digitsVal (cl p) < 1000000:=Nat.lt_of_lt_of_le this h6
 lia
section
variable {P:Program} {w:World} {K:PySem.W.Frag} {mg:Str→Option Value} {base:Heap} {C CM CL CF CB f:Addr} {fd':FuncData}
def spNumL:Sp:=fun vs H Q _=>∃ z:Str,vs=[.str z]∧z.length≤1000∧(numS z=true→Q (.int (numV z)) H)∧(numS z=false→Q .non H)
theorem scNumL:FnScope ["word","number","sign"] ["word"] (defScope sNumL):=⟨rfl,rfl,rfl,by decide +kernel,rfl,by decide +kernel,by decide +kernel⟩
theorem ok_numL (T:LawT mg) (F:Fun K "_law_number" "_law_number" sNumL f fd'):FnOk P w K mg base (CX1 P w) 1 f fd' ["word"] spNumL:=by
 have nd:=scNumL.nd
 refine F.ok1 scNumL (fun vs H Q E h=>?_) (fun cdv A outer s H vs Q E hr h=>?_)
 ·obtain ⟨z,rfl,_⟩:=h
  rfl
 obtain ⟨z,rfl,hz,q1,q2⟩:=h
 have hz':z.length≤sizeLine:=Nat.le_of_lt (line3 hz (by decide))
 refine ⟨_,(pss_mid (ps_if (PW.pt (pw_or (pt_cmpR op_lt (pe_callB call_len_str rfl T.len PySem.boot_len (pa_cons (pv 0) pa_nil)) pe_int (nomark _)) (pw_or (pt_cmpR op_gt (pe_callB call_len_str rfl T.len PySem.boot_len (pa_cons (pv 0) pa_nil)) pe_int (nomark _)) (pw_or1 (PW.pt (pw_and (pt_cmpR op_eq (pe_ix ix_str (pv 0) pe_int (fun _ _=>rfl)) pe_str (nomark _)) (pw_and1 (pt_cmpR op_ne (pv 0) pe_str (nomark _))))))))) (pss_one (ps_ret pe_non)) pss_nil)
  (pss_cons (ps_set (i:=1) nd rfl (Or.inl rfl) pe_int)
  (pss_cons (ps_for own1 rfl (pi_str (pv 0)) (pg_name (i:=2) nd rfl (Or.inl rfl)) (pss_cons (ps_if (pt_cmpR op_notIn_str (pv 2) pe_str (by with_unfolding_all rfl)) (pss_one (ps_ret pe_non)) pss_nil)
  (pss_one (ps_set (i:=1) nd rfl (Or.inl rfl) (pe_op op_add (pe_op op_mul pe_int (pv 1)) (pe_bm PySem.F.plainAttrs_str PySem.F.slot_str_find PySem.F.type_str_find mt_find pe_str (pa_cons (pv 2) pa_nil)))))))
  (pss_one (ps_ret (pv 1)))))),?_⟩
 have el:(cl z).length=z.length:=Array.length_toList
 refine ⟨fun σ H1=>σ=[some (.str z),none,none]∧H1=H∧1≤z.length∧z.length≤6∧(decide (z="0") || decide (z.cps[0]?≠some 48))=true,?_,?_⟩
 ·refine ⟨_,rfl,z,rfl,hz',_,_,rfl,rfl,_,rfl,?_⟩
  by_cases h1:(z.length:Int) < 1
  ·rw [decide_eq_true h1]
   refine iteT (iteT (q2 ?_))
   unfold numS
   rw [decide_eq_false (by lia),Bool.false_and,Bool.false_and]
  rw [decide_eq_false h1]
  refine iteF ⟨_,rfl,z,rfl,hz',_,_,rfl,rfl,_,rfl,?_⟩
  by_cases h2:(z.length:Int) > 6
  ·rw [decide_eq_true h2]
   refine iteT (iteT (q2 ?_))
   unfold numS
   rw [decide_eq_false (by lia),Bool.false_and,Bool.false_and]
  rw [decide_eq_false h2]
  obtain ⟨c0,hc0⟩:∃ c0,z.cps[0]?=some c0:=⟨z.cps[0]'(by show 0 < z.length; lia),Array.getElem?_eq_getElem _⟩
  refine iteF ⟨_,rfl,z,0,c0,rfl,rfl,hz',(show atI _ ((0:Nat):Int)=_ from atI_nat (by simpa using hc0)),rfl,_,rfl,?_⟩
  rw [decS,one_zero]
  have en:numS z=(wrt z figT && (decide (z="0") || decide (z.cps[0]?≠some 48))):=by
   unfold numS
   rw [decide_eq_true (by lia),Bool.true_and]
  by_cases h3:c0=48
  ·rw [decide_eq_true h3]
   refine iteT ⟨_,rfl,rfl,_,rfl,?_⟩
   rw [decS]
   by_cases h4:z="0"
   ·rw [decide_eq_true h4]
    exact iteF ⟨rfl,rfl,by lia,by lia,Bool.true_or _⟩
   ·rw [decide_eq_false h4]
    refine iteT (q2 ?_)
    rw [en,decide_eq_false h4,hc0,h3]
    rw [decide_eq_false (fun z=>z rfl)]
    rw [Bool.or_false,Bool.and_false]
  ·rw [decide_eq_false h3]
   refine iteF (iteF ⟨rfl,rfl,by lia,by lia,?_⟩)
   rw [hc0,show decide (some c0≠some 48)=true from decide_eq_true (fun z=>h3 (Option.some.inj z)),Bool.or_true]
 rintro σ H1 ⟨rfl,rfl,z1,z6,hb⟩
 have en:numS z=wrt z figT:=by
  unfold numS
  rw [decide_eq_true ⟨z1,z6⟩,hb,Bool.true_and,Bool.and_true]
 refine ⟨_,rfl,z,rfl,?_⟩
 refine for_str (z:=z) (fun i σ H2=>∃ o:Option V,σ=[some (.str z),some (.int ((PySem.NumText.digitsVal ((cl z).take i):Nat):Int)),o]∧H2=H1∧∀ c∈(cl z).take i,c∈cl figT) ⟨none,rfl,rfl,fun c h=>by rw [List.take_zero] at h; cases h⟩ ?_ ?_
 ·rintro i c σ H2 hc ⟨o,rfl,rfl,hin⟩
  refine ⟨_,rfl,_,_,rfl,rfl,_,rfl,?_⟩
  have hem:(Builtin.Str.occurrences figT (st1 c) 0 figT.length 1).isEmpty=!decide (c∈cl figT):=by
   rw [← StrLaws.found_one,Bool.not_not]
  have etk:(cl z).take (i + 1)=(cl z).take i++[c]:=by
   rw [List.take_add_one,hc]
   rfl
  rw [show (!!(Builtin.Str.occurrences figT (st1 c) 0 figT.length 1).isEmpty)=!decide (c∈cl figT) by rw [Bool.not_not,hem]]
  by_cases hf:c∈cl figT
  ·rw [decide_eq_true hf]
   have hr2:=fig_in.mp hf
   have hv:PySem.NumText.digitsVal ((cl z).take i) < 1000000:=by
    refine Nat.lt_of_lt_of_le (val_lt _ fun d hd=>fig_in.mp (hin d hd)) ?_
    exact Nat.pow_le_pow_right (by decide) (show ((cl z).take i).length≤6 by rw [List.length_take]; lia)
   refine iteF ⟨_,rfl,_,_,rfl,rfl,?_,rfl,_,rfl,_,_,rfl,rfl,_,_,rfl,rfl,?_⟩
   ·exact .inl ⟨by decide,by decide⟩
   ·refine ⟨some (.str (st1 c)),?_,rfl,fun d hd=>?_⟩
    ·show [some (V.str z),some (V.int (10 * ((PySem.NumText.digitsVal ((cl z).take i):Nat):Int) + Txt.find figT (st1 c))),some (V.str (st1 c))]=_
     rw [fig_find hr2,etk,PySem.NumText.digitsVal_snoc]
     rw [show (10:Int) * ((PySem.NumText.digitsVal ((cl z).take i):Nat):Int) + ((c - 48:Nat):Int)=((PySem.NumText.digitsVal ((cl z).take i) * 10 + (c - 48):Nat):Int) by lia]
    ·rw [etk] at hd
     rcases List.mem_append.mp hd with hd | hd
     ·exact hin d hd
     ·rw [List.mem_singleton.mp hd]; exact hf
  ·rw [decide_eq_false hf]
   refine iteT (q2 ?_)
   rw [en]
   refine Bool.eq_false_iff.mpr fun hw=>hf ?_
   exact of_decide_eq_true (List.all_eq_true.mp hw c (List.mem_of_getElem? hc))
 ·rintro σ H2 ⟨o,rfl,rfl,hin⟩
  rw [List.take_length] at hin ⊢
  refine ⟨_,rfl,q1 ?_⟩
  rw [en]
  exact List.all_eq_true.mpr fun c hc=>decide_eq_true (hin c hc)
end
theorem slice_mem {z:Str} {l u:Option Int} {c:Nat} (h:c∈cl (Txt.slice z l u)):c∈cl z:=by
 unfold Txt.slice at h
 split at h
 ·exact h
 ·obtain ⟨i,_,e⟩:=List.mem_filterMap.mp (by simpa using h)
  exact Array.mem_toList_iff.mpr (Array.mem_of_getElem? e)
def Gd (n:Nat) (z:Str):Prop:=z.length≤n∧∀ c∈cl z,c≠10∧c < 16 ^ 8
theorem cl_app (y z:Str):cl (y++z)=cl y++cl z:=by
 show (y.cps++z.cps).toList=_
 simp
theorem Gd.mono {n m:Nat} {z:Str} (h:Gd n z) (hm:n≤m):Gd m z:=⟨Nat.le_trans h.1 hm,h.2⟩
theorem Gd.add {n m:Nat} {y z:Str} (h1:Gd n y) (h2:Gd m z):Gd (n + m) (y++z):=by
 refine ⟨?_,fun c hc=>?_⟩
 ·rw [PySem.Str.length_append]
  have:=h1.1
  have:=h2.1
  lia
 ·rw [cl_app] at hc
  rcases List.mem_append.mp hc with h | h
  ·exact h1.2 c h
  ·exact h2.2 c h
theorem Gd.slice {n:Nat} {z:Str} (h:Gd n z) (lo hi:Option Int):Gd n (Txt.slice z lo hi):=⟨Nat.le_trans (Txt.slice_le z _ _) h.1,fun c hc=>h.2 c (slice_mem hc)⟩
theorem Gd.one {n:Nat} {z:Str} {c:Nat} (h:Gd n z) (hc:c∈cl z):Gd 1 (st1 c):=⟨Nat.le_refl _,fun d hd=>by
 have e:d=c:=by simpa using hd
 rw [e]
 exact h.2 c hc⟩
theorem Gd.of {n:Nat} {z:Str} (h:(decide (z.length≤n) && (cl z).all fun c=>decide (c≠10∧c < 16 ^ 8))=true):Gd n z:=by
 rw [Bool.and_eq_true] at h
 exact ⟨of_decide_eq_true h.1,fun c hc=>of_decide_eq_true (List.all_eq_true.mp h.2 c hc)⟩
theorem Gd.int {n:Int} (h:Nb n):Gd 7 (Str.ofString (toString n)):=by
 refine ⟨?_,fun c hc=>⟨fun z=>?_,?_⟩⟩
 ·have:=PySem.int_text_length_le10 (a:=n) (k:=6) (by decide) (by have:=h.1; have:=h.2; lia)
  rw [PySem.ofString_length]
  exact this
 ·rw [z] at hc
  exact PyProof.Rows.int_text_free' 10 ⟨by decide,by decide⟩ n hc
 ·have hc':c∈(Str.ofString (toString n)).cps.toList:=hc
  rw [PyProof.Rows.signs_ofString] at hc'
  obtain ⟨ch,h1,rfl⟩:=List.mem_map.mp hc'
  rcases PyProof.Rows.int_sign n ch h1 with hd | hd
  ·have:=PyProof.Rows.digit_range hd
   lia
  ·rw [hd]
   decide
abbrev signT:Str:=" !\"#$&'()*+,-./0123456789:;<=>?@ABCDEFGHIJKLMNOPQRSTUVWXYZ[\\]^_`abcdefghijklmnopqrstuvwxyz{|}~"
theorem sign_gd:Gd 94 signT:=Gd.of (by decide +kernel)
theorem sign_len:signT.length=94:=by decide +kernel
theorem nb_mod (n:Int) {m:Int} (h:0 < m) (h2:m≤1000000):Nb (n % m):=⟨Int.emod_nonneg _ (by lia),by have:=Int.emod_lt_of_pos n h; lia⟩
section
variable {P:Program} {w:World} {K:PySem.W.Frag} {mg:Str→Option Value} {base:Heap} {C CM CL CF CB f:Addr} {fd':FuncData}
def spWri:Sp:=fun vs H Q _=>∃ c:Int,vs=[.int c]∧∀ (z:Str) (H':Hp),Gd 100 z→Same H H'→Q (.str z) H'
theorem scWri:FnScope ["cell","number","signs","figures","at"] ["cell"] (defScope sWriting):=⟨rfl,rfl,rfl,by decide +kernel,rfl,by decide +kernel,by decide +kernel⟩
theorem ok_wri (T:LawT mg) (DT:DkT K mg) (F:Fun K "_law_writing" "_law_writing" sWriting f fd'):FnOk P w K mg base (CX1 P w) 1 f fd' ["cell"] spWri:=by
 have nd:=scWri.nd
 refine F.ok1 scWri (fun vs H Q E h=>?_) (fun cdv A outer s H vs Q E hr h=>?_)
 ·obtain ⟨c,rfl,_⟩:=h
  rfl
 obtain ⟨c,rfl,q⟩:=h
 refine ⟨_,(pss_cons (ps_set (i:=1) nd rfl (Or.inl rfl) (pe_op op_fdiv (pv 0) pe_int))
  (pss_cons (ps_if (pt_cmpR op_eq (pe_op op_mod (pv 0) pe_int) pe_int (nomark _)) (pss_one (ps_ret (pe_callTy call_str_int rfl DT.str bt_str (pa_cons (pe_op op_mod (pv 1) (pe_op op_pow pe_int pe_int)) pa_nil)))) pss_nil)
  (pss_cons (ps_if (pt_cmpR op_lt (pe_op op_mod (pv 0) pe_int) pe_int (nomark _)) (pss_one (ps_ret (pe_callTy call_str_int rfl DT.str bt_str (pa_cons (pe_op op_mod (pv 1) pe_int) pa_nil)))) pss_nil)
  (pss_cons (ps_if (pt_cmpR op_eq (pe_op op_mod (pv 0) pe_int) pe_int (nomark _)) (pss_one (ps_ret (pe_callTy call_str_int rfl DT.str bt_str (pa_cons (pe_ix (ix_listK (K:=K) rfl) (pe_lst (pa_cons pe_int (pa_cons pe_int (pa_cons pe_int (pa_cons pe_int (pa_cons pe_int (pa_cons pe_int (pa_cons pe_int (pa_cons pe_int (pa_cons pe_int (pa_cons pe_int (pa_cons pe_int (pa_cons pe_int (pa_cons pe_int (pa_cons pe_int pa_nil))))))))))))))) (pe_op op_mod (pv 1) pe_int) (fun _ _=>rfl)) pa_nil)))) pss_nil)
  (pss_cons (ps_if (pt_cmpR op_eq (pe_op op_mod (pv 0) pe_int) pe_int (nomark _)) (pss_one (ps_ret (pe_op op_add_str (pe_ix (ix_listK (K:=K) rfl) (pe_lst (pa_cons pe_str (pa_cons pe_str (pa_cons pe_str (pa_cons pe_str pa_nil))))) (pe_op op_mod (pv 1) pe_int) (fun _ _=>rfl)) (pe_callTy call_str_int rfl DT.str bt_str (pa_cons (pe_op op_mod (pe_op op_fdiv (pv 1) pe_int) pe_int) pa_nil))))) pss_nil)
  (pss_cons (ps_if (pt_cmpR op_eq (pe_op op_mod (pv 0) pe_int) pe_int (nomark _)) (pss_one (ps_ret (pe_op op_add_str (pe_slice sl_str pe_str po_none (po_some (pe_op op_mod (pv 1) pe_int))) (pe_callTy call_str_int rfl DT.str bt_str (pa_cons (pe_op op_mod (pe_op op_fdiv (pv 1) pe_int) pe_int) pa_nil))))) pss_nil)
  (pss_cons (ps_set (i:=2) nd rfl (Or.inl rfl) pe_str)
  (pss_cons (ps_set (i:=3) nd rfl (Or.inl rfl) (pe_callTy call_str_int rfl DT.str bt_str (pa_cons (pe_op op_mod (pe_op op_fdiv (pv 1) pe_int) pe_int) pa_nil)))
  (pss_cons (ps_set (i:=4) nd rfl (Or.inl rfl) (pe_op op_mod (pe_op op_fdiv (pv 1) pe_int) (pe_op op_add (pe_callB call_len_str rfl T.len PySem.boot_len (pa_cons (pv 3) pa_nil)) pe_int)))
  (pss_one (ps_ret (pe_op op_add_str (pe_op op_add_str (pe_slice sl_str (pv 3) po_none (po_some (pv 4))) (pe_ix ix_str (pv 2) (pe_op op_mod (pv 1) pe_int) (fun _ _=>rfl))) (pe_slice sl_str (pv 3) (po_some (pv 4)) po_none))))))))))))),?_⟩
 have done:∀ n:Int,Nb n→∀ H',Same H H'→n.natAbs.log2 < 1920∧Q (.str (Str.ofString (toString n))) H':=fun n hn H' s'=>⟨Nat.lt_trans hn.log (by decide),q _ _ ((Gd.int hn).mono (by decide)) s'⟩
 refine ⟨_,rfl,_,_,rfl,rfl,⟨by decide,by decide⟩,?_⟩
 refine ⟨_,rfl,_,_,rfl,rfl,(by show (0:Int) < 8; decide),rfl,_,rfl,?_⟩
 refine ite2 (fun _=>?_) (fun _=>?_)
 ·exact ⟨_,rfl,_,_,rfl,rfl,⟨by decide,by decide,by decide⟩,_,_,rfl,rfl,(by show (0:Int) < 10 ^ (6:Int).toNat; decide),_,rfl,done _ (nb_mod (c / 8) (m:=10 ^ (6:Int).toNat) (by decide) (by decide)) _ (Same.refl _)⟩
 refine ⟨_,rfl,_,_,rfl,rfl,(by show (0:Int) < 8; decide),_,_,rfl,rfl,_,rfl,?_⟩
 refine ite2 (fun _=>?_) (fun _=>?_)
 ·exact ⟨_,rfl,_,_,rfl,rfl,(by show (0:Int) < 51; decide),_,rfl,done _ (nb_mod (c / 8) (m:=51) (by decide) (by decide)) _ (Same.refl _)⟩
 refine ⟨_,rfl,_,_,rfl,rfl,(by show (0:Int) < 8; decide),rfl,_,rfl,?_⟩
 refine ite2 (fun _=>?_) (fun _=>?_)
 ·refine ⟨(by decide),fun p hp=>?_⟩
  have hm:=mod_lt (c / 8) (show (0:Int) < 14 by decide)
  obtain ⟨v,hv,hvm⟩:=at_mem (xs:=[V.int 40,.int 41,.int 39,.int 999,.int 1000,.int 1001,.int 1,.int 0,.int 2,.int 3,.int 6,.int 7,.int 4,.int 5]) hm.1 hm.2
  refine ⟨_,rfl,_,_,rfl,rfl,(by show (0:Int) < 14; decide),p,_,_,v,rfl,rfl,SqL.of upd_same,hv,?_⟩
  have:∃ i:Int,v=.int i∧Nb i:=by
   simp only [List.mem_cons,List.not_mem_nil,or_false] at hvm
   rcases hvm with rfl | rfl | rfl | rfl | rfl | rfl | rfl | rfl | rfl | rfl | rfl | rfl | rfl | rfl <;> exact ⟨_,rfl,by decide,by decide⟩
  obtain ⟨i,rfl,hi⟩:=this
  exact ⟨i,rfl,done i hi _ (same_upd hp _)⟩
 refine ⟨_,rfl,_,_,rfl,rfl,(by show (0:Int) < 8; decide),rfl,_,rfl,?_⟩
 refine ite2 (fun _=>?_) (fun _=>?_)
 ·refine ⟨(by decide),fun p hp=>?_⟩
  have hm:=mod_lt (c / 8) (show (0:Int) < 4 by decide)
  obtain ⟨v,hv,hvm⟩:=at_mem (xs:=[V.str "0",.str "00",.str "-",.str "+"]) hm.1 hm.2
  refine ⟨_,rfl,_,_,rfl,rfl,(by show (0:Int) < 4; decide),p,_,_,v,rfl,rfl,SqL.of upd_same,hv,?_⟩
  have:∃ z:Str,v=.str z∧Gd 2 z:=by
   simp only [List.mem_cons,List.not_mem_nil,or_false] at hvm
   rcases hvm with rfl | rfl | rfl | rfl <;> exact ⟨_,rfl,Gd.of (by decide +kernel)⟩
  obtain ⟨z,rfl,hz⟩:=this
  have g:=Gd.int (nb_mod ((c / 8) / 4) (m:=60) (by decide) (by decide))
  refine ⟨_,rfl,_,_,rfl,rfl,⟨by decide,by decide⟩,_,_,rfl,rfl,(by show (0:Int) < 60; decide),_,rfl,Nat.lt_trans (nb_mod ((c / 8) / 4) (m:=60) (by decide) (by decide)).log (show 900 < 1920 by decide),_,_,rfl,rfl,?_,q _ _ ((hz.add g).mono (show 9≤100 by decide)) (same_upd hp _)⟩
  exact Nat.le_of_lt (line3 (show z.length + _≤9 from Nat.add_le_add hz.1 g.1) (by decide))
 refine ⟨_,rfl,_,_,rfl,rfl,(by show (0:Int) < 8; decide),rfl,_,rfl,?_⟩
 refine ite2 (fun _=>?_) (fun _=>?_)
 ·have hz:Gd 8 ("12345678":Str):=Gd.of (by decide +kernel)
  have g:=Gd.int (nb_mod ((c / 8) / 9) (m:=60) (by decide) (by decide))
  refine ⟨_,rfl,_,_,rfl,rfl,(by show (0:Int) < 9; decide),_,rfl,_,rfl,(by decide +kernel),?_⟩
  have hs:=hz.slice none (some ((c / 8) % 9))
  refine ⟨_,rfl,_,_,rfl,rfl,⟨by decide,by decide⟩,_,_,rfl,rfl,(by show (0:Int) < 60; decide),_,rfl,Nat.lt_trans (nb_mod ((c / 8) / 9) (m:=60) (by decide) (by decide)).log (show 900 < 1920 by decide),_,_,rfl,rfl,?_,q _ _ ((hs.add g).mono (show 15≤100 by decide)) (Same.refl _)⟩
  exact Nat.le_of_lt (line3 (show _ + _≤15 from Nat.add_le_add hs.1 g.1) (by decide))
 have nb:=nb_mod ((c / 8) / 94) (m:=120) (by decide) (by decide)
 have g:=Gd.int nb
 refine ⟨_,rfl,_,_,rfl,rfl,⟨by decide,by decide⟩,_,_,rfl,rfl,(by show (0:Int) < 120; decide),_,rfl,Nat.lt_trans nb.log (show 900 < 1920 by decide),?_⟩
 have e7:(toString ((c / 8) / 94 % 120):String)=toString ((c / 8) / 94 % 120):=rfl
 generalize (Str.ofString (toString ((c / 8) / 94 % 120)))=fg at g
 have hfl:fg.length≤sizeLine:=Nat.le_of_lt (line3 g.1 (by decide))
 refine ⟨_,rfl,_,_,rfl,rfl,⟨by decide,by decide⟩,_,rfl,fg,rfl,hfl,_,_,rfl,rfl,_,_,rfl,rfl,(by show (0:Int) < (fg.length:Int) + 1; lia),?_⟩
 obtain ⟨k,hk⟩:∃ k:Int,k=c / 8 / 11280 % ((fg.length:Int) + 1):=⟨_,rfl⟩
 have h1:=g.slice none (some k)
 have h2:=g.slice (some k) none
 have hm:=mod_lt (c / 8) (show (0:Int) < 94 by decide)
 have hlt:((c / 8) % 94).toNat < (cl signT).length:=by
  have e:(cl signT).length=signT.length:=Array.length_toList
  rw [e,sign_len]
  lia
 have hat:atI (cl signT) ((c / 8) % 94)=some (cl signT)[((c / 8) % 94).toNat]:=by
  have:=atI_nat (List.getElem?_eq_getElem hlt)
  rw [show ((((c / 8) % 94).toNat:Nat):Int)=(c / 8) % 94 by lia] at this
  exact this
 have g1:=sign_gd.one (List.getElem_mem hlt)
 generalize (cl signT)[((c / 8) % 94).toNat]=c1 at hat g1
 refine ⟨_,rfl,_,rfl,_,rfl,fg,rfl,hfl,_,rfl,_,rfl,_,_,rfl,rfl,(by show (0:Int) < 94; decide),signT,_,c1,rfl,rfl,(by decide +kernel),hat,_,_,rfl,rfl,?_,?_⟩
 ·rw [← hk]
  exact Nat.le_of_lt (line3 (show _ + _≤8 from Nat.add_le_add h1.1 g1.1) (by decide))
 refine ⟨_,rfl,_,rfl,_,rfl,fg,rfl,hfl,_,_,rfl,rfl,?_,?_⟩
 ·rw [← hk,PySem.Str.length_append]
  exact Nat.le_of_lt (line3 (show _ + _≤15 from Nat.add_le_add (Nat.add_le_add h1.1 g1.1) h2.1) (by decide))
 ·rw [← hk]
  exact q _ _ (((h1.add g1).add h2).mono (show 15≤100 by decide)) (Same.refl _)
end
structure Ro where
 ws:Str→List Str
 lo:Int
 hi:Int
 no:Str
 ok:Str
def roF:Nat→Ro
 | 0=>⟨fun z=>["bed",z,"5","30"],1,40,"measure","ok"⟩
 | 1=>⟨fun z=>["bed","7",z,"30"],1,40,"measure","ok"⟩
 | 2=>⟨fun z=>["bed","7","5",z],0,1000,"measure","ok"⟩
 | 3=>⟨fun z=>["cutter",z,"1"],1,1000,"measure","ok"⟩
 | 4=>⟨fun z=>["cutter","9",z],0,2,"measure","ok"⟩
 | 5=>⟨fun z=>["cell",z,"3"],0,6,"cell","30"⟩
 | 6=>⟨fun z=>["cell","2",z],0,4,"cell","30"⟩
 | 7=>⟨fun z=>["low",z,"3"],0,6,"cell","0"⟩
 | _=>⟨fun z=>["low","2",z],0,4,"cell","0"⟩
theorem le5:5≤sizeLine:=by decide
def kW:List Str:=["bed","7","5","30","cutter","9","1","cell","2","3","low"]
theorem ro_all {p:Str→Prop} {z:Str} (hz:p z) (h:∀ x∈kW,p x) (a:Nat):∀ x∈(roF a).ws z,p x:=by
 have k:∀ x,x=z∨x∈kW→p x:=fun x e=>e.elim (fun e=>by rw [e]; exact hz) (h x)
 have m:∀ y,y∈kW→∀ x,x=y→p x:=fun y hy x e=>by rw [e]; exact h y hy
 intro x hx
 match a,hx with
 | 0,hx | 1,hx | 2,hx =>
  rcases List.mem_cons.mp hx with e | hx
  ·exact m _ (by decide +kernel) x e
  rcases List.mem_cons.mp hx with e | hx
  ·first | exact k x (.inl e) | exact m _ (by decide +kernel) x e
  rcases List.mem_cons.mp hx with e | hx
  ·first | exact k x (.inl e) | exact m _ (by decide +kernel) x e
  rcases List.mem_cons.mp hx with e | hx
  ·first | exact k x (.inl e) | exact m _ (by decide +kernel) x e
  ·cases hx
 | 3,hx | 4,hx | 5,hx | 6,hx | 7,hx | _ + 8,hx =>
  rcases List.mem_cons.mp hx with e | hx
  ·exact m _ (by decide +kernel) x e
  rcases List.mem_cons.mp hx with e | hx
  ·first | exact k x (.inl e) | exact m _ (by decide +kernel) x e
  rcases List.mem_cons.mp hx with e | hx
  ·first | exact k x (.inl e) | exact m _ (by decide +kernel) x e
  ·cases hx
theorem sum_le:∀ (zs:List Str),(∀ x∈zs,x.length≤100)→(zs.map (·.length)).sum≤100 * zs.length
 | [],_=>Nat.le_refl _
 | z :: zs,h=>by
  have:=sum_le zs fun x hx=>h x (List.mem_cons_of_mem _ hx)
  have:=h z List.mem_cons_self
  rw [List.map_cons,List.sum_cons,List.length_cons]
  lia
theorem sum4 {zs:List Str} (l:zs.length≤4) (h:∀ x∈zs,x.length≤100):(zs.map (·.length)).sum + zs.length≤1048576:=by
 have:=sum_le zs h
 lia
theorem ro_len {z:Str} (h:Gd 100 z) (a:Nat):∀ x∈(roF a).ws z,x.length≤100:=ro_all h.1 (by decide +kernel) a
section
variable {P:Program} {w:World} {K:PySem.W.Frag} {mg:Str→Option Value} {base:Heap} {C CM CL CF CB f:Addr} {fd':FuncData}
def spAtL:Sp:=fun vs H Q _=>∃ (a:Nat) (z:Str),vs=[.int (a:Int),.str z]∧a < 9∧Gd 100 z∧∀ (D:Addr) (H':Hp),Same H H'→H' D=some (.lst [.str (Txt.join " " ((roF a).ws z)),.int (roF a).lo,.int (roF a).hi,.str (roF a).no,.str (roF a).ok])→Q (.ref D) H'
theorem scAtL:FnScope ["at","word","words"] ["at","word"] (defScope sAtL):=⟨rfl,rfl,rfl,by decide +kernel,rfl,by decide +kernel,by decide +kernel⟩
theorem ok_atL (F:Fun K "_law_at" "_law_at" sAtL f fd'):FnOk P w K mg base (CX1 P w) 1 f fd' ["at","word"] spAtL:=by
 have nd:=scAtL.nd
 refine F.ok1 scAtL (fun vs H Q E h=>?_) (fun cdv A outer s H vs Q E hr h=>?_)
 ·obtain ⟨a,z,rfl,_⟩:=h
  rfl
 obtain ⟨a,z,rfl,ha,hz,q⟩:=h
 refine ⟨_,(pss_cons (ps_if (pt_cmpR op_lt (pv 0) pe_int (nomark _)) (pss_cons (ps_set (i:=2) nd rfl (Or.inl rfl) (pe_lst (pa_cons pe_str (pa_cons pe_str (pa_cons pe_str (pa_cons pe_str pa_nil))))))
  (pss_cons (ps_asg (pv 1) (pg_sub (pv 2) (pe_op op_add pe_int (pv 0)) set_list))
  (pss_one (ps_ret (pe_lst (pa_cons (pe_bm PySem.F.plainAttrs_str PySem.F.slot_str_join PySem.F.type_str_join mt_joinW pe_str (pa_cons (pv 2) pa_nil)) (pa_cons (pe_ix (ix_listK (K:=K) rfl) (pe_lst (pa_cons pe_int (pa_cons pe_int (pa_cons pe_int pa_nil)))) (pv 0) (fun _ _=>rfl)) (pa_cons (pe_ix (ix_listK (K:=K) rfl) (pe_lst (pa_cons pe_int (pa_cons pe_int (pa_cons pe_int pa_nil)))) (pv 0) (fun _ _=>rfl)) (pa_cons pe_str (pa_cons pe_str pa_nil)))))))))) pss_nil)
  (pss_cons (ps_if (pt_cmpR op_lt (pv 0) pe_int (nomark _)) (pss_cons (ps_set (i:=2) nd rfl (Or.inl rfl) (pe_lst (pa_cons pe_str (pa_cons pe_str (pa_cons pe_str pa_nil)))))
  (pss_cons (ps_asg (pv 1) (pg_sub (pv 2) (pe_op op_sub (pv 0) pe_int) set_list))
  (pss_one (ps_ret (pe_lst (pa_cons (pe_bm PySem.F.plainAttrs_str PySem.F.slot_str_join PySem.F.type_str_join mt_joinW pe_str (pa_cons (pv 2) pa_nil)) (pa_cons (pe_ix (ix_listK (K:=K) rfl) (pe_lst (pa_cons pe_int (pa_cons pe_int pa_nil))) (pe_op op_sub (pv 0) pe_int) (fun _ _=>rfl)) (pa_cons (pe_ix (ix_listK (K:=K) rfl) (pe_lst (pa_cons pe_int (pa_cons pe_int pa_nil))) (pe_op op_sub (pv 0) pe_int) (fun _ _=>rfl)) (pa_cons pe_str (pa_cons pe_str pa_nil)))))))))) pss_nil)
  (pss_cons (ps_if (pt_cmpR op_lt (pv 0) pe_int (nomark _)) (pss_cons (ps_set (i:=2) nd rfl (Or.inl rfl) (pe_lst (pa_cons pe_str (pa_cons pe_str (pa_cons pe_str pa_nil)))))
  (pss_cons (ps_asg (pv 1) (pg_sub (pv 2) (pe_op op_sub (pv 0) pe_int) set_list))
  (pss_one (ps_ret (pe_lst (pa_cons (pe_bm PySem.F.plainAttrs_str PySem.F.slot_str_join PySem.F.type_str_join mt_joinW pe_str (pa_cons (pv 2) pa_nil)) (pa_cons pe_int (pa_cons (pe_ix (ix_listK (K:=K) rfl) (pe_lst (pa_cons pe_int (pa_cons pe_int pa_nil))) (pe_op op_sub (pv 0) pe_int) (fun _ _=>rfl)) (pa_cons pe_str (pa_cons pe_str pa_nil)))))))))) pss_nil)
  (pss_cons (ps_set (i:=2) nd rfl (Or.inl rfl) (pe_lst (pa_cons pe_str (pa_cons pe_str (pa_cons pe_str pa_nil)))))
  (pss_cons (ps_asg (pv 1) (pg_sub (pv 2) (pe_op op_sub (pv 0) pe_int) set_list))
  (pss_one (ps_ret (pe_lst (pa_cons (pe_bm PySem.F.plainAttrs_str PySem.F.slot_str_join PySem.F.type_str_join mt_joinW pe_str (pa_cons (pv 2) pa_nil)) (pa_cons pe_int (pa_cons (pe_ix (ix_listK (K:=K) rfl) (pe_lst (pa_cons pe_int (pa_cons pe_int pa_nil))) (pe_op op_sub (pv 0) pe_int) (fun _ _=>rfl)) (pa_cons pe_str (pa_cons pe_str pa_nil))))))))))))),?_⟩
 have hzl:=hz.1
 refine ⟨_,rfl,_,_,rfl,rfl,_,rfl,?_⟩
 rcases (show a=0∨a=1∨a=2∨a=3∨a=4∨a=5∨a=6∨a=7∨a=8 by lia) with rfl | rfl | rfl | rfl | rfl | rfl | rfl | rfl | rfl
 ·refine iteT ⟨(by decide),fun L hL=>?_⟩
  refine ⟨_,rfl,_,rfl,_,rfl,_,_,rfl,rfl,L,_,_,_,rfl,rfl,upd_same,rfl,?_⟩
  have hL2:upd (upd H L (.lst [V.str "bed",V.str "7",V.str "5",V.str "30"])) L (.lst (((roF 0).ws z).map V.str)) L=some (.lst (((roF 0).ws z).map V.str)):=upd_same
  have s2:=same_in (o:=.lst (((roF 0).ws z).map V.str)) (same_upd hL (.lst [V.str "bed",V.str "7",V.str "5",V.str "30"])) hL
  refine ⟨rfl,_,rfl,_,L,(roF 0).ws z,rfl,rfl,SqL.of hL2,sum4 (by show 4≤4; decide) (ro_len hz 0),(by decide +kernel),?_⟩
  refine ⟨(by decide),fun p hp=>⟨_,rfl,p,_,_,.int 1,rfl,rfl,SqL.of upd_same,rfl,(by decide),fun r hr=>⟨_,rfl,r,_,_,.int 40,rfl,rfl,SqL.of upd_same,rfl,le5,fun D hD=>?_⟩⟩⟩
  exact q D _ (s2.trans ((same_upd hp _).trans ((same_upd hr _).trans (same_upd hD _)))) upd_same
 ·refine iteT ⟨(by decide),fun L hL=>?_⟩
  refine ⟨_,rfl,_,rfl,_,rfl,_,_,rfl,rfl,L,_,_,_,rfl,rfl,upd_same,rfl,?_⟩
  have hL2:upd (upd H L (.lst [V.str "bed",V.str "7",V.str "5",V.str "30"])) L (.lst (((roF 1).ws z).map V.str)) L=some (.lst (((roF 1).ws z).map V.str)):=upd_same
  have s2:=same_in (o:=.lst (((roF 1).ws z).map V.str)) (same_upd hL (.lst [V.str "bed",V.str "7",V.str "5",V.str "30"])) hL
  refine ⟨rfl,_,rfl,_,L,(roF 1).ws z,rfl,rfl,SqL.of hL2,sum4 (by show 4≤4; decide) (ro_len hz 1),(by decide +kernel),?_⟩
  refine ⟨(by decide),fun p hp=>⟨_,rfl,p,_,_,.int 1,rfl,rfl,SqL.of upd_same,rfl,(by decide),fun r hr=>⟨_,rfl,r,_,_,.int 40,rfl,rfl,SqL.of upd_same,rfl,le5,fun D hD=>?_⟩⟩⟩
  exact q D _ (s2.trans ((same_upd hp _).trans ((same_upd hr _).trans (same_upd hD _)))) upd_same
 ·refine iteT ⟨(by decide),fun L hL=>?_⟩
  refine ⟨_,rfl,_,rfl,_,rfl,_,_,rfl,rfl,L,_,_,_,rfl,rfl,upd_same,rfl,?_⟩
  have hL2:upd (upd H L (.lst [V.str "bed",V.str "7",V.str "5",V.str "30"])) L (.lst (((roF 2).ws z).map V.str)) L=some (.lst (((roF 2).ws z).map V.str)):=upd_same
  have s2:=same_in (o:=.lst (((roF 2).ws z).map V.str)) (same_upd hL (.lst [V.str "bed",V.str "7",V.str "5",V.str "30"])) hL
  refine ⟨rfl,_,rfl,_,L,(roF 2).ws z,rfl,rfl,SqL.of hL2,sum4 (by show 4≤4; decide) (ro_len hz 2),(by decide +kernel),?_⟩
  refine ⟨(by decide),fun p hp=>⟨_,rfl,p,_,_,.int 0,rfl,rfl,SqL.of upd_same,rfl,(by decide),fun r hr=>⟨_,rfl,r,_,_,.int 1000,rfl,rfl,SqL.of upd_same,rfl,le5,fun D hD=>?_⟩⟩⟩
  exact q D _ (s2.trans ((same_upd hp _).trans ((same_upd hr _).trans (same_upd hD _)))) upd_same
 ·refine iteF ⟨_,rfl,_,_,rfl,rfl,_,rfl,iteT ⟨(by decide),fun L hL=>?_⟩⟩
  refine ⟨_,rfl,_,rfl,_,rfl,_,_,rfl,rfl,L,_,_,_,rfl,rfl,upd_same,rfl,?_⟩
  have hL2:upd (upd H L (.lst [V.str "cutter",V.str "9",V.str "1"])) L (.lst (((roF 3).ws z).map V.str)) L=some (.lst (((roF 3).ws z).map V.str)):=upd_same
  have s2:=same_in (o:=.lst (((roF 3).ws z).map V.str)) (same_upd hL (.lst [V.str "cutter",V.str "9",V.str "1"])) hL
  refine ⟨rfl,_,rfl,_,L,(roF 3).ws z,rfl,rfl,SqL.of hL2,sum4 (by show 3≤4; decide) (ro_len hz 3),(by decide +kernel),?_⟩
  refine ⟨(by decide),fun p hp=>⟨_,rfl,_,_,rfl,rfl,p,_,_,.int 1,rfl,rfl,SqL.of upd_same,rfl,(by decide),fun r hr=>⟨_,rfl,_,_,rfl,rfl,r,_,_,.int 1000,rfl,rfl,SqL.of upd_same,rfl,le5,fun D hD=>?_⟩⟩⟩
  exact q D _ (s2.trans ((same_upd hp _).trans ((same_upd hr _).trans (same_upd hD _)))) upd_same
 ·refine iteF ⟨_,rfl,_,_,rfl,rfl,_,rfl,iteT ⟨(by decide),fun L hL=>?_⟩⟩
  refine ⟨_,rfl,_,rfl,_,rfl,_,_,rfl,rfl,L,_,_,_,rfl,rfl,upd_same,rfl,?_⟩
  have hL2:upd (upd H L (.lst [V.str "cutter",V.str "9",V.str "1"])) L (.lst (((roF 4).ws z).map V.str)) L=some (.lst (((roF 4).ws z).map V.str)):=upd_same
  have s2:=same_in (o:=.lst (((roF 4).ws z).map V.str)) (same_upd hL (.lst [V.str "cutter",V.str "9",V.str "1"])) hL
  refine ⟨rfl,_,rfl,_,L,(roF 4).ws z,rfl,rfl,SqL.of hL2,sum4 (by show 3≤4; decide) (ro_len hz 4),(by decide +kernel),?_⟩
  refine ⟨(by decide),fun p hp=>⟨_,rfl,_,_,rfl,rfl,p,_,_,.int 0,rfl,rfl,SqL.of upd_same,rfl,(by decide),fun r hr=>⟨_,rfl,_,_,rfl,rfl,r,_,_,.int 2,rfl,rfl,SqL.of upd_same,rfl,le5,fun D hD=>?_⟩⟩⟩
  exact q D _ (s2.trans ((same_upd hp _).trans ((same_upd hr _).trans (same_upd hD _)))) upd_same
 ·refine iteF ⟨_,rfl,_,_,rfl,rfl,_,rfl,iteF ⟨_,rfl,_,_,rfl,rfl,_,rfl,iteT ⟨(by decide),fun L hL=>?_⟩⟩⟩
  refine ⟨_,rfl,_,rfl,_,rfl,_,_,rfl,rfl,L,_,_,_,rfl,rfl,upd_same,rfl,?_⟩
  have hL2:upd (upd H L (.lst [V.str "cell",V.str "2",V.str "3"])) L (.lst (((roF 5).ws z).map V.str)) L=some (.lst (((roF 5).ws z).map V.str)):=upd_same
  have s2:=same_in (o:=.lst (((roF 5).ws z).map V.str)) (same_upd hL (.lst [V.str "cell",V.str "2",V.str "3"])) hL
  refine ⟨rfl,_,rfl,_,L,(roF 5).ws z,rfl,rfl,SqL.of hL2,sum4 (by show 3≤4; decide) (ro_len hz 5),(by decide +kernel),?_⟩
  refine ⟨(by decide),fun r hr=>⟨_,rfl,_,_,rfl,rfl,r,_,_,.int 6,rfl,rfl,SqL.of upd_same,rfl,le5,fun D hD=>?_⟩⟩
  exact q D _ (s2.trans ((same_upd hr _).trans (same_upd hD _))) upd_same
 ·refine iteF ⟨_,rfl,_,_,rfl,rfl,_,rfl,iteF ⟨_,rfl,_,_,rfl,rfl,_,rfl,iteT ⟨(by decide),fun L hL=>?_⟩⟩⟩
  refine ⟨_,rfl,_,rfl,_,rfl,_,_,rfl,rfl,L,_,_,_,rfl,rfl,upd_same,rfl,?_⟩
  have hL2:upd (upd H L (.lst [V.str "cell",V.str "2",V.str "3"])) L (.lst (((roF 6).ws z).map V.str)) L=some (.lst (((roF 6).ws z).map V.str)):=upd_same
  have s2:=same_in (o:=.lst (((roF 6).ws z).map V.str)) (same_upd hL (.lst [V.str "cell",V.str "2",V.str "3"])) hL
  refine ⟨rfl,_,rfl,_,L,(roF 6).ws z,rfl,rfl,SqL.of hL2,sum4 (by show 3≤4; decide) (ro_len hz 6),(by decide +kernel),?_⟩
  refine ⟨(by decide),fun r hr=>⟨_,rfl,_,_,rfl,rfl,r,_,_,.int 4,rfl,rfl,SqL.of upd_same,rfl,le5,fun D hD=>?_⟩⟩
  exact q D _ (s2.trans ((same_upd hr _).trans (same_upd hD _))) upd_same
 ·refine iteF ⟨_,rfl,_,_,rfl,rfl,_,rfl,iteF ⟨_,rfl,_,_,rfl,rfl,_,rfl,iteF ⟨(by decide),fun L hL=>?_⟩⟩⟩
  refine ⟨_,rfl,_,rfl,_,rfl,_,_,rfl,rfl,L,_,_,_,rfl,rfl,upd_same,rfl,?_⟩
  have hL2:upd (upd H L (.lst [V.str "low",V.str "2",V.str "3"])) L (.lst (((roF 7).ws z).map V.str)) L=some (.lst (((roF 7).ws z).map V.str)):=upd_same
  have s2:=same_in (o:=.lst (((roF 7).ws z).map V.str)) (same_upd hL (.lst [V.str "low",V.str "2",V.str "3"])) hL
  refine ⟨rfl,_,rfl,_,L,(roF 7).ws z,rfl,rfl,SqL.of hL2,sum4 (by show 3≤4; decide) (ro_len hz 7),(by decide +kernel),?_⟩
  refine ⟨(by decide),fun r hr=>⟨_,rfl,_,_,rfl,rfl,r,_,_,.int 6,rfl,rfl,SqL.of upd_same,rfl,le5,fun D hD=>?_⟩⟩
  exact q D _ (s2.trans ((same_upd hr _).trans (same_upd hD _))) upd_same
 ·refine iteF ⟨_,rfl,_,_,rfl,rfl,_,rfl,iteF ⟨_,rfl,_,_,rfl,rfl,_,rfl,iteF ⟨(by decide),fun L hL=>?_⟩⟩⟩
  refine ⟨_,rfl,_,rfl,_,rfl,_,_,rfl,rfl,L,_,_,_,rfl,rfl,upd_same,rfl,?_⟩
  have hL2:upd (upd H L (.lst [V.str "low",V.str "2",V.str "3"])) L (.lst (((roF 8).ws z).map V.str)) L=some (.lst (((roF 8).ws z).map V.str)):=upd_same
  have s2:=same_in (o:=.lst (((roF 8).ws z).map V.str)) (same_upd hL (.lst [V.str "low",V.str "2",V.str "3"])) hL
  refine ⟨rfl,_,rfl,_,L,(roF 8).ws z,rfl,rfl,SqL.of hL2,sum4 (by show 3≤4; decide) (ro_len hz 8),(by decide +kernel),?_⟩
  refine ⟨(by decide),fun r hr=>⟨_,rfl,_,_,rfl,rfl,r,_,_,.int 4,rfl,rfl,SqL.of upd_same,rfl,le5,fun D hD=>?_⟩⟩
  exact q D _ (s2.trans ((same_upd hr _).trans (same_upd hD _))) upd_same
end
theorem blank_eq:(Str.ofString " ":Str)=st1 32:=by decide +kernel
theorem join_eq (zs:List Str):Txt.join " " zs=Str.join " " zs:=by
 show Builtin.Str.glued _ zs=_
 rw [StrLaws.glued_eq_join]
theorem cl_joinB (zs:List Str):cl (Txt.join " " zs)=jl 32 (zs.map cl):=by
 rw [join_eq,blank_eq]
 exact cl_join 32 zs
theorem split_free' {x p:Str} (h:p∈Txt.split x " "):32 ∉ cl p:=by
 rw [blank_eq] at h
 exact StrLaws.split_free x 32 p h
theorem cl_split (x:Str):cl x=jl 32 ((Txt.split x " ").map cl):=by
 have:=cl_join 32 (Txt.split x (st1 32))
 rw [StrLaws.join_split x (st1 32)] at this
 rw [blank_eq]
 exact this
theorem split_joinB {zs:List Str} (hne:zs≠[]) (h:∀ z∈zs,32 ∉ cl z):Txt.split (Txt.join " " zs) " "=zs:=by
 rw [blank_eq]
 exact split_join hne h
theorem jl_len (c:Nat):∀ as:List (List Nat),as≠[]→(jl c as).length + 1=(as.map List.length).sum + as.length
 | [],h=>absurd rfl h
 | [a],_=>by
  show a.length + 1=_
  simp
 | a :: b :: r,_=>by
  have:=jl_len c (b :: r) (by simp)
  show (a++c :: jl c (b :: r)).length + 1=_
  rw [List.length_append,List.length_cons,List.map_cons,List.sum_cons,List.length_cons (a:=a)]
  lia
theorem jl_count (c:Nat):∀ as:List (List Nat),as≠[]→(jl c as).count c + 1=(as.map (List.count c)).sum + as.length
 | [],h=>absurd rfl h
 | [a],_=>by
  show a.count c + 1=_
  simp
 | a :: b :: r,_=>by
  have:=jl_count c (b :: r) (by simp)
  show (a++c :: jl c (b :: r)).count c + 1=_
  rw [List.count_append,List.count_cons_self,List.map_cons,List.sum_cons,List.length_cons (a:=a)]
  lia
theorem jl_mem {c d:Nat}:∀ {as:List (List Nat)},d∈jl c as→d=c∨∃ a∈as,d∈a
 | [],h=>by cases h
 | [a],h=>.inr ⟨a,List.mem_singleton.mpr rfl,h⟩
 | a :: b :: r,h=>by
  have h':d∈a++c :: jl c (b :: r):=h
  rcases List.mem_append.mp h' with h1 | h1
  ·exact .inr ⟨a,List.mem_cons_self,h1⟩
  ·rcases List.mem_cons.mp h1 with h1 | h1
   ·exact .inl h1
   ·rcases jl_mem h1 with h2 | ⟨x,hx,h2⟩
    ·exact .inl h2
    ·exact .inr ⟨x,List.mem_cons_of_mem _ hx,h2⟩
theorem sum_mem {xs:List Nat} {x:Nat} (h:x∈xs):x≤xs.sum:=by
 induction xs with
 | nil=>cases h
 | cons y ys ih =>
  rw [List.sum_cons]
  rcases List.mem_cons.mp h with rfl | h
  ·lia
  ·have:=ih h
   lia
theorem split_small (x:Str):(Txt.split x " ").length≤x.length + 1∧∀ p∈Txt.split x " ",p.length≤x.length:=by
 have e:=jl_len 32 ((Txt.split x " ").map cl) (by simpa using split_ne x " ")
 rw [← cl_split] at e
 have el:(cl x).length=x.length:=Array.length_toList
 rw [el,List.length_map,List.map_map] at e
 refine ⟨by lia,fun p hp=>?_⟩
 have:=sum_mem (List.mem_map.mpr ⟨p,hp,rfl⟩:(List.length ∘ cl) p∈(Txt.split x " ").map (List.length ∘ cl))
 have ep:(List.length ∘ cl) p=p.length:=Array.length_toList
 rw [ep] at this
 have:=List.length_pos_of_mem hp
 lia
theorem split_cons {w:Str} {rest:List Str} (h:32 ∉ cl w) (hr:rest≠[]):Txt.split (Txt.join " " (w :: rest)) " "=w :: Txt.split (Txt.join " " rest) " ":=by
 have e:Txt.join " " (w :: rest)=Txt.join " " (w :: Txt.split (Txt.join " " rest) " "):=by
  rw [join_eq,join_eq]
  cases rest with
  | nil=>exact absurd rfl hr
  | cons a r =>
   cases hs:Txt.split (Txt.join " " (a :: r)) " " with
   | nil=>exact absurd hs (split_ne _ _)
   | cons b s =>
    rw [PyProof.Rows.join_cons_cons,PyProof.Rows.join_cons_cons,← hs]
    have:=StrLaws.join_split (Txt.join " " (a :: r)) " "
    rw [this,join_eq]
 rw [e]
 refine split_joinB (by simp) fun z hz=>?_
 rcases List.mem_cons.mp hz with rfl | hz
 ·exact h
 ·exact split_free' hz
theorem split_many (rest:List Str) (hr:rest≠[]) {z:Str} (hz:z∈rest) (hb:32∈cl z):rest.length < (Txt.split (Txt.join " " rest) " ").length:=by
 have e1:=jl_count 32 ((Txt.split (Txt.join " " rest) " ").map cl) (by simpa using split_ne _ " ")
 rw [← cl_split,cl_joinB] at e1
 have e2:=jl_count 32 (rest.map cl) (by simpa using hr)
 rw [e2,List.length_map,List.length_map,List.map_map,List.map_map] at e1
 have z0:(((Txt.split (Txt.join " " rest) " ").map (List.count 32 ∘ cl))).sum=0:=by
  have:∀ n∈(Txt.split (Txt.join " " rest) " ").map (List.count 32 ∘ cl),n=0:=fun n hn=>by
   obtain ⟨p,hp,rfl⟩:=List.mem_map.mp hn
   exact List.count_eq_zero.mpr (split_free' hp)
  generalize (Txt.split (Txt.join " " rest) " ").map (List.count 32 ∘ cl)=ns at this
  induction ns with
  | nil=>rfl
  | cons n ns ih =>
   rw [List.sum_cons,this n List.mem_cons_self,ih fun m hm=>this m (List.mem_cons_of_mem _ hm)]
 have:=sum_mem (List.mem_map.mpr ⟨z,hz,rfl⟩:(List.count 32 ∘ cl) z∈rest.map (List.count 32 ∘ cl))
 have hc:0 < (List.count 32 ∘ cl) z:=List.count_pos_iff.mpr hb
 lia
theorem num_free {z:Str} (h:numS z=true):32 ∉ cl z:=fun hb=>by
 have:=(numS_digits h).1 32 hb
 lia
theorem told_row {k:Str} {rest:List Str} {z:Str} (hk:32 ∉ cl k) (hd:dueV k=.int (rest.length:Int)) (hz:z∈rest) (ho:∀ x∈rest,x=z∨numS x=true):toldW (Txt.split (Txt.join " " (k :: rest)) " ")=if numS z=true then some (k,rest.map numV) else none:=by
 have hr:rest≠[]:=List.ne_nil_of_mem hz
 rw [split_cons hk hr]
 by_cases hb:32∈cl z
 ·have hn:¬ numS z=true:=fun h=>num_free h hb
  rw [if_neg hn]
  refine if_neg fun h=>?_
  have:=split_many rest hr hz hb
  rw [hd] at h
  have e:=h.1
  injection e
  lia
 ·rw [split_joinB hr fun x hx=>(ho x hx).elim (fun e=>by rw [e]; exact hb) num_free]
  have ea:rest.all numS=numS z:=by
   cases hn:numS z with
   | true=>exact List.all_eq_true.mpr fun x hx=>(ho x hx).elim (fun e=>by rw [e]; exact hn) id
   | false=>exact Bool.eq_false_iff.mpr fun h=>by rw [List.all_eq_true.mp h z hz] at hn; cases hn
  show (if dueV k=.int (rest.length:Int)∧rest.all numS=true then some (k,rest.map numV) else none)=_
  rw [ea]
  by_cases hn:numS z=true
  ·rw [if_pos hn,if_pos ⟨hd,hn⟩]
  ·rw [if_neg hn,if_neg fun h=>hn h.2]
theorem row_ok {k:Str} {rest:List Str} (hr:rest≠[]) (h4:(k :: rest).length≤4) (hg:∀ x∈k :: rest,Gd 100 x) (hl:(4:Nat)≤(k++(" ":Str)).length) (hs:Txt.startswith (k++(" ":Str)) "row "=false):RwOk (Txt.join " " (k :: rest)) (Txt.split (Txt.join " " (k :: rest)) " "):=by
 have len:(Txt.join " " (k :: rest)).length≤500:=by
  have e:=jl_len 32 ((k :: rest).map cl) (by simp)
  rw [← cl_joinB,List.length_map,List.map_map] at e
  have el:(cl (Txt.join " " (k :: rest))).length=(Txt.join " " (k :: rest)).length:=Array.length_toList
  have em:(k :: rest).map (List.length ∘ cl)=(k :: rest).map (·.length):=List.map_congr_left fun x _=>Array.length_toList
  have:=sum_le (k :: rest) fun x hx=>(hg x hx).1
  rw [el,em] at e
  lia
 have mem:∀ c∈cl (Txt.join " " (k :: rest)),c≠10∧c < 16 ^ 8:=fun c hc=>by
  rw [cl_joinB] at hc
  rcases jl_mem hc with rfl | ⟨a,ha,h⟩
  ·decide
  ·obtain ⟨x,hx,rfl⟩:=List.mem_map.mp ha
   exact (hg x hx).2 c h
 have sm:=split_small (Txt.join " " (k :: rest))
 refine ⟨rfl,split_ne _ _,fun h=>(mem _ h).1 rfl,?_,⟨by lia,fun c hc=>(mem c hc).2⟩,fun p hp=>Nat.le_trans (sm.2 p hp) (by lia),by lia⟩
 rw [join_eq]
 cases rest with
 | nil=>exact absurd rfl hr
 | cons a r =>
  rw [PyProof.Rows.join_cons_cons,PySem.W.KAf.starts_left (by
   rw [show (Str.ofString "row ":Str).length=4 by decide +kernel]
   exact hl)]
  exact hs
def kF:Nat→Str
 | 0=>"bed" | 1=>"bed" | 2=>"bed" | 3=>"cutter" | 4=>"cutter" | 5=>"cell" | 6=>"cell" | _=>"low"
def nsF:Nat→Int→List Int
 | 0,n=>[n,5,30] | 1,n=>[7,n,30] | 2,n=>[7,5,n] | 3,n=>[n,1] | 4,n=>[9,n] | 5,n=>[n,3] | 6,n=>[2,n] | 7,n=>[n,3] | _,n=>[2,n]
theorem num_of:numV "7"=7∧numV "5"=5∧numV "30"=30∧numV "9"=9∧numV "1"=1∧numV "2"=2∧numV "3"=3:=by decide +kernel
theorem ro_row (a:Nat) {z:Str} (hz:Gd 100 z):RwOk (Txt.join " " ((roF a).ws z)) (Txt.split (Txt.join " " ((roF a).ws z)) " ")∧toldW (Txt.split (Txt.join " " ((roF a).ws z)) " ")=if numS z=true then some (kF a,nsF a (numV z)) else none:=by
 have hg:∀ x∈(roF a).ws z,Gd 100 x:=ro_all hz (fun x hx=>Gd.of (by
  have:∀ x∈kW,(decide (x.length≤100) && (cl x).all fun c=>decide (c≠10∧c < 16 ^ 8))=true:=by decide +kernel
  exact this x hx)) a
 obtain ⟨n7,n5,n30,n9,n1,n2,n3⟩:=num_of
 have go:∀ (k:Str) (rest:List Str) (ns:List Int),(∀ x∈k :: rest,Gd 100 x)→(k :: rest).length≤4→(decide (4≤(k++(" ":Str)).length) && (!Txt.startswith (k++(" ":Str)) "row " && decide (32 ∉ cl k)))=true→dueV k=.int (rest.length:Int)→z∈rest→(∀ x∈rest,x=z∨numS x=true)→rest.map numV=ns→RwOk (Txt.join " " (k :: rest)) (Txt.split (Txt.join " " (k :: rest)) " ")∧toldW (Txt.split (Txt.join " " (k :: rest)) " ")=if numS z=true then some (k,ns) else none:=by
  intro k rest ns h1 h2 h3 h4 h5 h6 h7
  rw [Bool.and_eq_true,Bool.and_eq_true] at h3
  subst h7
  exact ⟨row_ok (List.ne_nil_of_mem h5) h2 h1 (of_decide_eq_true h3.1) (by have:=h3.2.1; revert this; cases Txt.startswith (k++(" ":Str)) "row " <;> simp),told_row (of_decide_eq_true h3.2.2) h4 h5 h6⟩
 match a,hg with
 | 0,hg=>exact go "bed" [z,"5","30"] _ hg (by show 4≤4; decide) (by decide +kernel) rfl (by simp) (by intro x hx; simp only [List.mem_cons,List.not_mem_nil,or_false] at hx; rcases hx with rfl | rfl | rfl <;> first | exact .inl rfl | exact .inr (by decide +kernel)) (by show ([numV z,numV "5",numV "30"]:List Int)=_; rw [n5,n30]; rfl)
 | 1,hg=>exact go "bed" ["7",z,"30"] _ hg (by show 4≤4; decide) (by decide +kernel) rfl (by simp) (by intro x hx; simp only [List.mem_cons,List.not_mem_nil,or_false] at hx; rcases hx with rfl | rfl | rfl <;> first | exact .inl rfl | exact .inr (by decide +kernel)) (by show ([numV "7",numV z,numV "30"]:List Int)=_; rw [n7,n30]; rfl)
 | 2,hg=>exact go "bed" ["7","5",z] _ hg (by show 4≤4; decide) (by decide +kernel) rfl (by simp) (by intro x hx; simp only [List.mem_cons,List.not_mem_nil,or_false] at hx; rcases hx with rfl | rfl | rfl <;> first | exact .inl rfl | exact .inr (by decide +kernel)) (by show ([numV "7",numV "5",numV z]:List Int)=_; rw [n7,n5]; rfl)
 | 3,hg=>exact go "cutter" [z,"1"] _ hg (by show 3≤4; decide) (by decide +kernel) rfl (by simp) (by intro x hx; simp only [List.mem_cons,List.not_mem_nil,or_false] at hx; rcases hx with rfl | rfl <;> first | exact .inl rfl | exact .inr (by decide +kernel)) (by show ([numV z,numV "1"]:List Int)=_; rw [n1]; rfl)
 | 4,hg=>exact go "cutter" ["9",z] _ hg (by show 3≤4; decide) (by decide +kernel) rfl (by simp) (by intro x hx; simp only [List.mem_cons,List.not_mem_nil,or_false] at hx; rcases hx with rfl | rfl <;> first | exact .inl rfl | exact .inr (by decide +kernel)) (by show ([numV "9",numV z]:List Int)=_; rw [n9]; rfl)
 | 5,hg=>exact go "cell" [z,"3"] _ hg (by show 3≤4; decide) (by decide +kernel) rfl (by simp) (by intro x hx; simp only [List.mem_cons,List.not_mem_nil,or_false] at hx; rcases hx with rfl | rfl <;> first | exact .inl rfl | exact .inr (by decide +kernel)) (by show ([numV z,numV "3"]:List Int)=_; rw [n3]; rfl)
 | 6,hg=>exact go "cell" ["2",z] _ hg (by show 3≤4; decide) (by decide +kernel) rfl (by simp) (by intro x hx; simp only [List.mem_cons,List.not_mem_nil,or_false] at hx; rcases hx with rfl | rfl <;> first | exact .inl rfl | exact .inr (by decide +kernel)) (by show ([numV "2",numV z]:List Int)=_; rw [n2]; rfl)
 | 7,hg=>exact go "low" [z,"3"] _ hg (by show 3≤4; decide) (by decide +kernel) rfl (by simp) (by intro x hx; simp only [List.mem_cons,List.not_mem_nil,or_false] at hx; rcases hx with rfl | rfl <;> first | exact .inl rfl | exact .inr (by decide +kernel)) (by show ([numV z,numV "3"]:List Int)=_; rw [n3]; rfl)
 | _ + 8,hg=>exact go "low" ["2",z] _ hg (by show 3≤4; decide) (by decide +kernel) rfl (by simp) (by intro x hx; simp only [List.mem_cons,List.not_mem_nil,or_false] at hx; rcases hx with rfl | rfl <;> first | exact .inl rfl | exact .inr (by decide +kernel)) (by show ([numV "2",numV z]:List Int)=_; rw [n2]; rfl)
structure CaT (K:PySem.W.Frag) (mg:Str→Option Value) (CF CM CL:Addr):Prop where
 f:CatchC K mg "NoForm" CF
 m:CatchC K mg "NoMeasure" CM
 l:CatchC K mg "NoCell" CL
 ff:PySem.W.mroIn K CF (.ref CF)=some true
 mf:PySem.W.mroIn K CM (.ref CF)=some false
 mm:PySem.W.mroIn K CM (.ref CM)=some true
 lf:PySem.W.mroIn K CL (.ref CF)=some false
 lm:PySem.W.mroIn K CL (.ref CM)=some false
 ll:PySem.W.mroIn K CL (.ref CL)=some true
section
variable {P:Program} {w:World} {K:PySem.W.Frag} {mg:Str→Option Value} {base:Heap} {C CM CL CF CB f:Addr} {fd':FuncData}
inductive PspSaid (C CM CL CF:Addr) (vs:List V) (H:Hp) (Q:VK):Prop
 | mk (d dx:Addr) (bv sv rv:V) (z:Str) (h0:vs=[.ref d,.str z]) (h1:H d=some (.ins C dx (fsK bv sv rv)))
  (h:∀ (Q':VK) (E':XK),(∀ v H1,Q v H1→Q' v H1)→(∀ H1,Q (.str "form") H1→E' (.ref CF) none H1)→(∀ H1,Q (.str "measure") H1→E' (.ref CM) none H1)→(∀ H1,Q (.str "cell") H1→E' (.ref CL) none H1)→PspSay C CM CL CF vs H Q' E'):PspSaid C CM CL CF vs H Q
def spSaid (C CM CL CF:Addr):Sp:=fun vs H Q _=>PspSaid C CM CL CF vs H Q
theorem scSaid:FnScope ["desk","row","found"] ["desk","row"] (defScope sSaid):=⟨rfl,rfl,rfl,by decide +kernel,rfl,by decide +kernel,by decide +kernel⟩
theorem ok_said (CA:CaT K mg CF CM CL) (MS:Mt P w K mg base C "say" 6 ["self","row"] (spSay C CM CL CF)) (F:Fun K "_law_said" "_law_said" sSaid f fd'):FnOk P w K mg base (CX1 P w) 7 f fd' ["desk","row"] (spSaid C CM CL CF):=by
 have nd:=scSaid.nd
 refine F.ok1 scSaid (fun vs H Q E h=>?_) (fun cdv A outer s H vs Q E hr h=>?_)
 ·obtain ⟨d,dx,bv,sv,rv,z,rfl,_⟩:=h
  rfl
 obtain ⟨d,dx,bv,sv,rv,z,rfl,hd,h⟩:=h
 obtain ⟨fS,dS,okS,mtS,clS,bS⟩:=MS.ex
 refine ⟨_,(pss_cons (ps_set (i:=2) nd rfl (Or.inl rfl) pe_str)
  (pss_cons (ps_try3 (i:=2) rfl rfl rfl (px_meth (fun _=>pv 0) clS mtS okS hr bS (fun _=>pa_cons (pv 1) pa_nil)) CA.f rfl CA.m rfl CA.l rfl nd rfl (Or.inl rfl) (fun _=>pss_one (ps_set (i:=2) nd rfl (Or.inl rfl) pe_str)) (fun _=>pss_one (ps_set (i:=2) nd rfl (Or.inl rfl) pe_str)) (fun _=>pss_one (ps_set (i:=2) nd rfl (Or.inl rfl) pe_str)))
  (pss_one (ps_ret (pv 2))))),?_⟩
 refine ⟨_,rfl,d,dx,_,rfl,hd,rfl,_,rfl,?_⟩
 refine h _ _ (fun v H1 q=>⟨_,rfl,q⟩) (fun H1 q=>.inl ⟨⟨CF,rfl,CA.ff⟩,⟨_,rfl,q⟩⟩) (fun H1 q=>.inr ⟨⟨CM,rfl,CA.mf⟩,.inl ⟨⟨CM,rfl,CA.mm⟩,⟨_,rfl,q⟩⟩⟩) (fun H1 q=>.inr ⟨⟨CL,rfl,CA.lf⟩,.inr ⟨⟨CL,rfl,CA.lm⟩,⟨CL,rfl,CA.ll⟩,⟨_,rfl,q⟩⟩⟩)
def bed0:List (List Int):=bedF 7 5 30
def ts0:List Tool:=[([(0,0)],1000)]
inductive DeskIn (C:Addr) (H0 H:Hp) (d:Addr):Prop
 | mk (dx b sh:Addr) (rv:V) (h1:H d=some (.ins C dx (fsK (.ref b) (.ref sh) rv))) (h2:BdAt H b bed0) (h3:ShAt H sh ts0) (hd:H0 d=none) (hs:H0 sh=none) (s:Same H0 H):DeskIn C H0 H d
theorem bed0_rect:Rect bed0∧Small bed0:=by
 unfold Rect Small
 decide +kernel
theorem bed0_hgt {c:Int×Int} (h:ins bed0 c=true):hgt bed0 c=30:=by
 obtain ⟨i,j,row,v,rfl,hrow,hv,hh⟩:=ins_at h bed0_rect.1
 rw [hh]
 have:∀ r∈bed0,∀ x∈r,x=30:=by decide +kernel
 exact this row (List.mem_of_getElem? hrow) v (List.mem_of_getElem? hv)
theorem bed0_in {x y:Int}:inB bed0 x y↔x < 7∧y < 5:=by
 unfold inB
 rw [show (bed0.headD []).length=7 by decide +kernel,show bed0.length=5 by decide +kernel]
 rfl
theorem low0 {x y:Int} (h:ins bed0 (x,y)=true):lowV bed0 ts0 x y=0:=by
 have R:=bed0_rect.1
 have hc:hgt (cutC bed0 ((x,y),0)) (x,y)=0:=by
  rw [hgt_cut R h h,if_pos rfl,bed0_hgt h]
  decide
 have hu:und bed0 [(0,0)] x y=[(x,y)]:=by
  unfold und
  show ([shf x y (0,0)].filter (ins bed0))=_
  have e:shf x y (0,0)=(x,y):=by unfold shf; simp
  rw [e,List.filter_cons,if_pos h]
  rfl
 refine eq_of_le fun z=>?_
 unfold lowV
 rw [le_had R h,bed0_hgt h]
 constructor
 ·rintro ⟨_,k⟩
  have:=k ([(0,0)],1000) (List.mem_singleton.mpr rfl) (0,0) (List.mem_singleton.mpr rfl) (x,y) h (by unfold shf; simp)
  rw [hu,List.map_cons,List.map_nil,hc] at this
  exact this
 ·intro hz
  refine ⟨by lia,fun t ht s hs p hp e=>?_⟩
  rw [List.mem_singleton.mp ht] at hs ⊢
  rw [List.mem_singleton.mp hs] at e
  have ep:p=(x,y):=by
   obtain ⟨p1,p2⟩:=p
   unfold shf at e
   simp at e
   rw [e.1,e.2]
  subst ep
  rw [hu,List.map_cons,List.map_nil,hc]
  exact hz
end
def dueS (a:Nat) (z:Str):Str:=if numS z=true then (if numV z < (roF a).lo∨numV z > (roF a).hi then (roF a).no else (roF a).ok) else "form"
section
variable {C CM CL CF:Addr} {H0 H:Hp} {d:Addr}
theorem nbk (n:Nat) (h:n < 1000000):Nb (n:Int):=⟨Int.natCast_nonneg _,by lia⟩
theorem said3 (D:DeskIn C H0 H d) {a:Nat} (ha:a < 9) {z:Str} (hz:Gd 100 z) {Q:VK} (q:∀ H',Same H0 H'→Q (.str (dueS a z)) H'):PspSaid C CM CL CF [.ref d,.str (Txt.join " " ((roF a).ws z))] H Q:=by
 obtain ⟨dx,b,sh,rv,h1,hb,hsh,hd0,hs0,s0⟩:=D
 obtain ⟨ok,told⟩:=ro_row a hz
 refine .mk d dx (.ref b) (.ref sh) rv _ rfl h1 fun Q' E' mq mf mm ml=>.mk d dx _ _ _ _ _ rfl h1 ok (.inr ⟨b,rfl⟩) (fun et H' s'=>mf _ ?_) fun k ns et=>⟨(fun e=>nomatch e),fun l H' s' hl hl'=>?_⟩
 ·have hn:¬ numS z=true:=fun h=>by rw [told,if_pos h] at et; cases et
  have:=q H' (s0.trans s')
  rw [show dueS a z="form" from if_neg hn] at this
  exact this
 have hn:numS z=true:=by
  by_cases h:numS z=true
  ·exact h
  ·rw [told,if_neg h] at et; cases et
 rw [told,if_pos hn] at et
 cases et
 have nb:=numV_nb hn
 have dd:dueS a z=if numV z < (roF a).lo∨numV z > (roF a).hi then (roF a).no else (roF a).ok:=if_pos hn
 rw [dd] at q
 clear dd told ok hn hz
 generalize numV z=n at nb hl' q
 have h1':=s' _ _ h1
 have s1:=s0.trans s'
 have nd:∀ x o,H0 x=some o→x≠d:=fun x o e z=>by rw [z,hd0] at e; cases e
 have frm:∀ {H2:Hp},(∀ x o,x≠d→H' x=some o→H2 x=some o)→Same H0 H2:=fun f x o e=>f x o (nd x o e) (s1 x o e)
 have yes:∀ {H2:Hp},Same H0 H2→¬ (n < (roF a).lo∨n > (roF a).hi)→Q (.str (roF a).ok) H2:=fun s h=>by
  have:=q _ s
  rw [if_neg h] at this
  exact this
 have no:∀ {H2:Hp},Same H0 H2→(n < (roF a).lo∨n > (roF a).hi)→Q (.str (roF a).no) H2:=fun s h=>by
  have:=q _ s
  rw [if_pos h] at this
  exact this
 clear q
 obtain ⟨cs,hsh1,hcs⟩:=id hsh
 have hsl:cs.length=1:=hcs.len
 have nbk:∀ k:Nat,k < 1000000→Nb (k:Int):=nbk
 rcases (show a=0∨a=1∨a=2∨a=3∨a=4∨a=5∨a=6∨a=7∨a=8 by lia) with rfl | rfl | rfl | rfl | rfl | rfl | rfl | rfl | rfl
 ·refine .inl ⟨rfl,.mk d l dx _ _ _ n 5 30 rfl h1' hl' nb (nbk 5 (by decide)) (nbk 30 (by decide)) (fun k B sh' rw H2 fr _ _ _ _ _=>mq _ _ (yes (frm fr) (fun z=>?_))) fun k=>mm _ (no s1 ?_)⟩
  ·have z':n < 1∨n > 40:=z
   obtain ⟨k1,k2,k3⟩:=k
   lia
  ·show n < 1∨n > 40
   by_cases h:n < 1∨n > 40
   ·exact h
   ·exact absurd (show bedOk n 5 30 from ⟨by lia,by lia,by lia⟩) k
 ·refine .inl ⟨rfl,.mk d l dx _ _ _ 7 n 30 rfl h1' hl' (nbk 7 (by decide)) nb (nbk 30 (by decide)) (fun k B sh' rw H2 fr _ _ _ _ _=>mq _ _ (yes (frm fr) (fun z=>?_))) fun k=>mm _ (no s1 ?_)⟩
  ·have z':n < 1∨n > 40:=z
   obtain ⟨k1,k2,k3⟩:=k
   lia
  ·show n < 1∨n > 40
   by_cases h:n < 1∨n > 40
   ·exact h
   ·exact absurd (show bedOk 7 n 30 from ⟨by lia,by lia,by lia⟩) k
 ·refine .inl ⟨rfl,.mk d l dx _ _ _ 7 5 n rfl h1' hl' (nbk 7 (by decide)) (nbk 5 (by decide)) nb (fun k B sh' rw H2 fr _ _ _ _ _=>mq _ _ (yes (frm fr) (fun z=>?_))) fun k=>mm _ (no s1 ?_)⟩
  ·have z':n < 0∨n > 1000:=z
   obtain ⟨k1,k2,k3⟩:=k
   lia
  ·show n < 0∨n > 1000
   by_cases h:n < 0∨n > 1000
   ·exact h
   ·exact absurd (show bedOk 7 5 n from ⟨by lia,by lia,by lia⟩) k
 ·refine .inr (.inl ⟨rfl,.mk d l dx sh _ _ n 1 _ rfl h1' hl' nb (nbk 1 (by decide)) (s' _ _ hsh1) (by rw [List.length_map]; lia) (fun k ct ft H2 s2 _ _ _=>mq _ _ (yes (same_in (s1.trans s2) hs0) (fun z=>?_))) fun k=>mm _ (no s1 ?_)⟩)
  ·have z':n < 1∨n > 1000:=z
   obtain ⟨k1,k2⟩:=k
   lia
  ·show n < 1∨n > 1000
   by_cases h:n < 1∨n > 1000
   ·exact h
   ·exact absurd (show cutOk n 1 from ⟨by lia,by lia⟩) k
 ·refine .inr (.inl ⟨rfl,.mk d l dx sh _ _ 9 n _ rfl h1' hl' (nbk 9 (by decide)) nb (s' _ _ hsh1) (by rw [List.length_map]; lia) (fun k ct ft H2 s2 _ _ _=>mq _ _ (yes (same_in (s1.trans s2) hs0) (fun z=>?_))) fun k=>mm _ (no s1 ?_)⟩)
  ·have z':n < 0∨n > 2:=z
   obtain ⟨k1,k2⟩:=k
   lia
  ·show n < 0∨n > 2
   by_cases h:n < 0∨n > 2
   ·exact h
   ·exact absurd (show cutOk 9 n from ⟨by lia,by lia⟩) k
 ·refine .inr (.inr (.inl ⟨rfl,.mk d l dx b _ _ n 3 bed0 rfl h1' hl' nb (nbk 3 (by decide)) (hb.same s') bed0_rect.1 (fun k=>?_) fun k=>ml _ (no s1 ?_)⟩))
  ·have hi:=inB.ins k nb (nbk 3 (by decide))
   rw [bed0_hgt hi]
   refine ⟨nbk 30 (by decide),mq _ _ (yes s1 fun z=>?_)⟩
   have z':n < 0∨n > 6:=z
   have:=bed0_in.mp k
   have:=nb.1
   lia
  ·show n < 0∨n > 6
   rw [bed0_in] at k
   have:=nb.1
   lia
 ·refine .inr (.inr (.inl ⟨rfl,.mk d l dx b _ _ 2 n bed0 rfl h1' hl' (nbk 2 (by decide)) nb (hb.same s') bed0_rect.1 (fun k=>?_) fun k=>ml _ (no s1 ?_)⟩))
  ·have hi:=inB.ins k (nbk 2 (by decide)) nb
   rw [bed0_hgt hi]
   refine ⟨nbk 30 (by decide),mq _ _ (yes s1 fun z=>?_)⟩
   have z':n < 0∨n > 4:=z
   have:=bed0_in.mp k
   have:=nb.1
   lia
  ·show n < 0∨n > 4
   rw [bed0_in] at k
   have:=nb.1
   lia
 ·refine .inr (.inr (.inr ⟨rfl,.mk d l dx b sh _ n 3 bed0 ts0 rfl h1' hl' nb (nbk 3 (by decide)) (hb.same s') bed0_rect.1 bed0_rect.2 (fun c hc=>by rw [bed0_hgt hc]; decide) (hsh.same s') (by decide) (fun t ht=>by rw [List.mem_singleton.mp ht]; decide) (fun k=>?_) fun k=>ml _ (no s1 ?_)⟩))
  ·have hi:=inB.ins k nb (nbk 3 (by decide))
   rw [low0 hi]
   refine ⟨nbk 0 (by decide),fun H2 s2=>mq _ _ (yes (s1.trans s2) fun z=>?_)⟩
   have z':n < 0∨n > 6:=z
   have:=bed0_in.mp k
   have:=nb.1
   lia
  ·show n < 0∨n > 6
   rw [bed0_in] at k
   have:=nb.1
   lia
 ·refine .inr (.inr (.inr ⟨rfl,.mk d l dx b sh _ 2 n bed0 ts0 rfl h1' hl' (nbk 2 (by decide)) nb (hb.same s') bed0_rect.1 bed0_rect.2 (fun c hc=>by rw [bed0_hgt hc]; decide) (hsh.same s') (by decide) (fun t ht=>by rw [List.mem_singleton.mp ht]; decide) (fun k=>?_) fun k=>ml _ (no s1 ?_)⟩))
  ·have hi:=inB.ins k (nbk 2 (by decide)) nb
   rw [low0 hi]
   refine ⟨nbk 0 (by decide),fun H2 s2=>mq _ _ (yes (s1.trans s2) fun z=>?_)⟩
   have z':n < 0∨n > 4:=z
   have:=bed0_in.mp k
   have:=nb.1
   lia
  ·show n < 0∨n > 4
   rw [bed0_in] at k
   have:=nb.1
   lia
end
theorem row1:RwOk "bed 7 5 30" ["bed","7","5","30"]:=⟨by decide +kernel,by decide +kernel,by decide +kernel,by decide +kernel,by decide +kernel,by decide +kernel,by decide +kernel⟩
theorem row2:RwOk "cutter 1000 0" ["cutter","1000","0"]:=⟨by decide +kernel,by decide +kernel,by decide +kernel,by decide +kernel,by decide +kernel,by decide +kernel,by decide +kernel⟩
theorem told1:toldW ["bed","7","5","30"]=some (("bed":Str),[(7:Int),5,30]):=by decide +kernel
theorem told2:toldW ["cutter","1000","0"]=some (("cutter":Str),[(1000:Int),0]):=by decide +kernel
section
variable {P:Program} {w:World} {K:PySem.W.Frag} {mg:Str→Option Value} {base:Heap} {C CM CL CF CB f:Addr} {fd':FuncData} {H0 H:Hp} {d dx:Addr} {Q:VK} {E:XK}
theorem say1 {sv rv:V} (h1:H d=some (.ins C dx (fsK .non sv rv)))
  (q:∀ (B sh rw:Addr) (H':Hp),(∀ x o,x≠d→H x=some o→H' x=some o)→H' d=some (.ins C dx (fsK (.ref B) (.ref sh) (.ref rw)))→BdAt H' B bed0→H' sh=some (.lst [])→H sh=none→H B=none→Q (.str "ok") H'):spSay C CM CL CF [.ref d,.str "bed 7 5 30"] H Q E:=by
 refine .mk d dx _ _ _ _ _ rfl h1 row1 (.inl rfl) (fun e=>by rw [told1] at e; cases e) fun k ns e=>?_
 rw [told1] at e
 cases e
 refine ⟨fun _=>rfl,fun l H' s' hl hl'=>.inl ⟨rfl,.mk d l dx _ _ _ 7 5 30 rfl (s' _ _ h1) hl' (nbk 7 (by decide)) (nbk 5 (by decide)) (nbk 30 (by decide)) (fun _ B sh rw H2 fr e1 e2 e3 e4 e5=>?_) fun z=>absurd (show bedOk 7 5 30 from ⟨by decide,by decide,by decide⟩) z⟩⟩
 exact q B sh rw H2 (fun x o n e=>fr x o n (s' x o e)) e1 e2 e3 (s'.free e4) (s'.free e5)
theorem say2 {b sh:Addr} {rv:V} (h1:H d=some (.ins C dx (fsK (.ref b) (.ref sh) rv))) (h2:H sh=some (.lst []))
  (q:∀ (ct ft:Addr) (H':Hp),Same H H'→H' ct=some (.tup [.ref ft,.int 1000])→FtAt H' ft [(0,0)]→H ft=none→Q (.str "ok") (upd H' sh (.lst [.ref ct]))):spSay C CM CL CF [.ref d,.str "cutter 1000 0"] H Q E:=by
 refine .mk d dx _ _ _ _ _ rfl h1 row2 (.inr ⟨b,rfl⟩) (fun e=>by rw [told2] at e; cases e) fun k ns e=>?_
 rw [told2] at e
 cases e
 refine ⟨(fun e=>nomatch e),fun l H' s' hl hl'=>.inr (.inl ⟨rfl,.mk d l dx sh _ _ 1000 0 [] rfl (s' _ _ h1) hl' (nbk 1000 (by decide)) (nbk 0 (by decide)) (s' _ _ h2) (by decide) (fun _ ct ft H2 s2 e1 e2 e3=>?_) fun z=>absurd (show cutOk 1000 0 from ⟨by decide,by decide⟩) z⟩)⟩
 exact q ct ft H2 (s'.trans s2) e1 e2 (s'.free e3)
theorem desk0 {b sh ct ft:Addr} {H6 H7:Hp} {rv:V} (s6:Same H0 H6) (hd:H0 d=none) (hs:H0 sh=none) (h1:H6 d=some (.ins C dx (fsK (.ref b) (.ref sh) rv))) (h2:BdAt H6 b bed0) (h3:H6 sh=some (.lst [])) (s7:Same H6 H7) (h4:H7 ct=some (.tup [.ref ft,.int 1000])) (h5:FtAt H7 ft [(0,0)]) (h6:H6 ft=none):DeskIn C H0 (upd H7 sh (.lst [.ref ct])) d:=by
 have n1:d≠sh:=fun z=>by rw [z,h3] at h1; cases h1
 have h37:=s7 _ _ h3
 obtain ⟨rs,hb,ra⟩:=h2
 have hrl:rs.length=5:=ra.len
 refine .mk dx b sh rv ?_ ⟨rs,?_,?_⟩ ⟨[ct],upd_same,⟨⟨ft,?_,?_⟩,True.intro⟩⟩ hd hs (same_in (s6.trans s7) hs)
 ·rw [upd_ne n1]
  exact s7 _ _ h1
 ·rw [upd_ne fun z=>by
   rw [z,h3] at hb
   have e:=HO.lst.inj (Option.some.inj hb)
   rw [List.map_eq_nil_iff.mp e.symm] at hrl
   cases hrl]
  exact s7 _ _ hb
 ·refine RowsAt.keep (fun r hr o e=>?_) (ra.same s7)
  rw [upd_ne fun z=>?_]
  ·exact e
  ·obtain ⟨i,hi⟩:=List.getElem?_of_mem hr
   have hil:i < bed0.length:=by rw [← ra.len]; exact (List.getElem?_eq_some_iff.mp hi).1
   obtain ⟨r',hr',e'⟩:=ra.at_ (i:=i) (row:=bed0[i]) (List.getElem?_eq_getElem hil)
   rw [hi] at hr'
   cases hr'
   rw [z,h3] at e'
   have e2:=HO.lst.inj (Option.some.inj e')
   have:∀ row∈bed0,row≠[]:=by decide +kernel
   exact this _ (List.getElem_mem hil) (List.map_eq_nil_iff.mp e2.symm)
 ·rw [upd_ne fun z=>by rw [z,h37] at h4; cases h4]
  exact h4
 ·obtain ⟨ts,hf,mv⟩:=h5
  refine ⟨ts,?_,MvAt.upd (fun m z=>by rw [h37] at z; cases z) mv⟩
  rw [upd_ne fun z=>by rw [z,h3] at h6; cases h6]
  exact hf
def spLaw (K:PySem.W.Frag):Sp:=fun vs H Q _=>∃ (a:Addr) (ns:List Int),vs=[.ref a]∧SqL K H a (ns.map V.int)∧ns.length≤63∧∀ H',Q (.bl true) H'
theorem scLaw:FnScope ["script","cell","word","number","desk","row","least","most","refusal","due"] ["script"] (defScope sLaw):=⟨rfl,rfl,rfl,by decide +kernel,rfl,by decide +kernel,by decide +kernel⟩
theorem ok_law (FW:Fn P w K mg base "_law_writing" 1 ["cell"] spWri) (FN:Fn P w K mg base "_law_number" 1 ["word"] spNumL) (MI:Mc P w K mg base "Desk" C 1 ["self"] (spDeskI C)) (MS:Mt P w K mg base C "say" 6 ["self","row"] (spSay C CM CL CF)) (FA:Fn P w K mg base "_law_at" 1 ["at","word"] spAtL) (FS:Fn P w K mg base "_law_said" 7 ["desk","row"] (spSaid C CM CL CF)) (F:Fun K "law" "law" sLaw f fd'):FnOk P w K mg base (CX1 P w) 8 f fd' ["script"] (spLaw K):=by
 have nd:=scLaw.nd
 refine F.ok1 scLaw (fun vs H Q E h=>?_) (fun cdv A outer s H vs Q E hr h=>?_)
 ·obtain ⟨a,ns,rfl,_⟩:=h
  rfl
 obtain ⟨a,ns,rfl,sq,hl,q⟩:=h
 have hr1:Room 1 _:=hr.mono (by decide)
 have hr2:Room 2 _:=hr.mono (by decide)
 have hr6:Room 6 _:=hr.mono (by decide)
 obtain ⟨fi,di,oki,mki,mgi,bii⟩:=MI.ex
 refine ⟨_,(pss_cons (ps_for own1 rfl (pi_list (pe_slice sl_list (pv 0) po_none (po_some pe_int))) (pg_name (i:=1) nd rfl (Or.inl rfl)) (pss_cons (ps_set (i:=2) nd rfl (Or.inl rfl) (pf_call FW hr1 rfl (pass1 (E:=E)) (pa_cons (pe_op op_fdiv (pv 1) pe_int) pa_nil)))
  (pss_mid (ps_set (i:=3) nd rfl (Or.inl rfl) (pf_call FN hr1 rfl (pass1 (E:=E)) (pa_cons (pv 2) pa_nil)))
  (pss_cons (ps_set (i:=4) nd rfl (Or.inl rfl) (pe_make0 mki oki hr2 rfl mgi bii .nil (pass1 (E:=E))))
  (pss_mid (ps_if (PW.pt (pw_or (pt_cmpR op_ne (pf_meth MS (pv 4) hr6 (pass1 (E:=E)) (pa_cons pe_str pa_nil)) pe_str (nomark _)) (pw_or1 (pt_cmpR op_ne (pf_meth MS (pv 4) hr6 (pass1 (E:=E)) (pa_cons pe_str pa_nil)) pe_str (nomark _))))) (pss_one (ps_ret pe_bl)) pss_nil)
  (pss_cons (ps_asg (pf_call FA hr1 rfl (pass1 (E:=E)) (pa_cons (pe_op op_mod (pv 1) pe_int) (pa_cons (pv 2) pa_nil))) (pg_lst (n:=5) rfl (pgs_cons (pg_name (i:=5) nd rfl (Or.inl rfl)) (pgs_cons (pg_name (i:=6) nd rfl (Or.inl rfl)) (pgs_cons (pg_name (i:=7) nd rfl (Or.inl rfl)) (pgs_cons (pg_name (i:=8) nd rfl (Or.inl rfl)) (pgs_cons (pg_name (i:=9) nd rfl (Or.inl rfl)) pgs_nil)))))))
  (pss_mid (ps_if (pt_cmpR op_isN (pv 3) pe_non (nomark _)) (pss_one (ps_set (i:=9) nd rfl (Or.inl rfl) pe_str)) (pss_one (ps_if (PW.pt (pw_or (pt_cmpR op_lt (pv 3) (pv 6) (nomark _)) (pw_or1 (pt_cmpR op_gt (pv 3) (pv 7) (nomark _))))) (pss_one (ps_set (i:=9) nd rfl (Or.inl rfl) (pv 8))) pss_nil)))
  (pss_one (ps_if (pt_cmpR op_ne (pf_call FS hr rfl (pass1 (E:=E)) (pa_cons (pv 4) (pa_cons (pv 5) pa_nil))) (pv 9) (nomark _)) (pss_one (ps_ret pe_bl)) pss_nil)))))))))
  (pss_one (ps_ret pe_bl))),?_⟩
 refine ⟨_,rfl,63,rfl,a,_,rfl,sq,fun p hp=>?_⟩
 have ecut:∃ ms:List Int,cutV (ns.map V.int) none (some 63)=ms.map V.int:=by
  unfold cutV
  rw [← List.map_drop,← List.map_take]
  exact ⟨_,rfl⟩
 obtain ⟨ms,ems⟩:=ecut
 rw [ems]
 have hp1:upd H p (.lst (ms.map V.int)) p=some (.lst (ms.map V.int)):=upd_same
 generalize upd H p (.lst (ms.map V.int))=H1 at hp1
 refine ⟨p,rfl,⟨_,SqL.of hp1⟩,?_⟩
 refine for_list (K:=K) (a:=p) (xs:=ms.map V.int) (fun i σ H2=>∃ x1 x2 x3 x4 x5 x6 x7 x8 x9:Option V,σ=[some (.ref a),x1,x2,x3,x4,x5,x6,x7,x8,x9]∧Same H1 H2) ⟨none,none,none,none,none,none,none,none,none,rfl,Same.refl _⟩ (fun i σ H2 _ ⟨_,_,_,_,_,_,_,_,_,_,s2⟩=>SqL.of (s2 _ _ hp1)) ?_ ?_
 ·rintro i x σ H2 hx ⟨x1,x2,x3,x4,x5,x6,x7,x8,x9,rfl,s2⟩
  obtain ⟨c,rfl⟩:∃ c:Int,x=.int c:=by
   rw [List.getElem?_map] at hx
   cases hm:ms[i]? with
   | none=>rw [hm] at hx; cases hx
   | some c=>rw [hm] at hx; cases hx; exact ⟨c,rfl⟩
  refine ⟨_,rfl,_,_,rfl,rfl,⟨by decide,by decide⟩,_,rfl,fun z H3 hz s3=>?_⟩
  refine ⟨fun σ H4=>∃ nv:V,σ=[some (.ref a),some (.int c),some (.str z),some nv,x4,x5,x6,x7,x8,x9]∧H4=H3∧((nv=.int (numV z)∧numS z=true)∨(nv=.non∧numS z=false)),?_,?_⟩
  ·exact ⟨_,rfl,z,rfl,Nat.le_trans hz.1 (by decide),fun hn=>⟨_,rfl,rfl,.inl ⟨rfl,hn⟩⟩,fun hn=>⟨_,rfl,rfl,.inr ⟨rfl,hn⟩⟩⟩
  rintro σ H4 ⟨nv,rfl,rfl,hnv⟩
  have s4:=s2.trans s3
  intro d dx hd hdx ndx
  refine ⟨d,dx,rfl,upd_same,fun sv rv H5 fr5 hd5=>⟨rfl,?_⟩⟩
  have s5:Same H4 H5:=fun x o e=>by
   have nx:x≠d:=ne_of_none e hd
   refine fr5 x o nx ?_
   rw [upd_ne nx,upd_ne (ne_of_none e hdx)]
   exact e
  refine ⟨fun σ H6=>σ=[some (.ref a),some (.int c),some (.str z),some nv,some (.ref d),x5,x6,x7,x8,x9]∧DeskIn C H4 H6 d,?_,?_⟩
  ·refine ⟨_,rfl,d,dx,_,rfl,hd5,rfl,say1 hd5 fun B sh rw H6 fr6 e1 e2 e3 e4 e5=>⟨rfl,_,rfl,?_⟩⟩
   have s6:Same H4 H6:=fun x o e=>fr6 x o (ne_of_none e hd) (s5 x o e)
   refine iteF ⟨_,rfl,d,dx,_,rfl,e1,rfl,say2 e1 e3 fun ct ft H7 s7 e6 e7 e8=>⟨rfl,_,rfl,?_⟩⟩
   exact iteF ⟨rfl,desk0 s6 hd (s5.free e4) e1 e2 e3 s7 e6 e7 e8⟩
  rintro σ H6 ⟨rfl,DI⟩
  obtain ⟨k,hk,hk9⟩:∃ k:Nat,c % 9=(k:Int)∧k < 9:=⟨(c % 9).toNat,by lia,by lia⟩
  refine ⟨_,rfl,_,_,rfl,rfl,(by show (0:Int) < 9; decide),_,rfl,k,z,(by rw [← hk]; rfl),hk9,hz,fun D H7 s7 hD=>?_⟩
  have DI7:DeskIn C H4 H7 d:=by
   obtain ⟨dx',b,sh,rv',h1,h2,h3,h4,h5,h6⟩:=DI
   exact .mk dx' b sh rv' (s7 _ _ h1) (h2.same s7) (h3.same s7) h4 h5 (h6.trans s7)
  refine ⟨D,_,rfl,SqL.of hD,rfl,_,_,rfl,_,_,rfl,_,_,rfl,_,_,rfl,_,_,rfl,rfl,?_⟩
  refine ⟨fun σ H8=>σ=[some (.ref a),some (.int c),some (.str z),some nv,some (.ref d),some (.str (Txt.join " " ((roF k).ws z))),some (.int (roF k).lo),some (.int (roF k).hi),some (.str (roF k).no),some (.str (dueS k z))]∧H8=H7,?_,?_⟩
  ·refine ⟨_,rfl,rfl,_,rfl,?_⟩
   rcases hnv with ⟨rfl,hn⟩ | ⟨rfl,hn⟩
   ·rw [decide_eq_false (fun z=>by cases z)]
    have ed:dueS k z=if numV z < (roF k).lo∨numV z > (roF k).hi then (roF k).no else (roF k).ok:=if_pos hn
    rw [ed]
    refine iteF ⟨_,rfl,_,rfl,_,_,rfl,rfl,_,rfl,?_⟩
    by_cases h1:numV z < (roF k).lo
    ·rw [decide_eq_true h1,if_pos (.inl h1)]
     exact iteT (iteT ⟨_,rfl,rfl,rfl⟩)
    ·rw [decide_eq_false h1]
     refine iteF ⟨_,rfl,_,rfl,_,_,rfl,rfl,_,rfl,?_⟩
     by_cases h2:numV z > (roF k).hi
     ·rw [decide_eq_true h2,if_pos (.inr h2)]
      exact iteT ⟨_,rfl,rfl,rfl⟩
     ·rw [decide_eq_false h2,if_neg (fun h=>h.elim h1 h2)]
      exact iteF ⟨rfl,rfl⟩
   ·rw [decide_eq_true rfl,show dueS k z="form" from if_neg (by rw [hn]; decide)]
    exact iteT ⟨rfl,rfl⟩
  rintro σ H8 ⟨rfl,rfl⟩
  refine ⟨_,rfl,_,rfl,said3 DI7 hk9 hz fun H9 s9=>⟨_,rfl,rfl,_,rfl,?_⟩⟩
  rw [decide_eq_true rfl]
  exact iteF ⟨_,_,_,_,_,_,_,_,_,rfl,s4.trans s9⟩
 ·rintro σ H2 ⟨x1,x2,x3,x4,x5,x6,x7,x8,x9,rfl,s2⟩
  exact q _
end
structure FnT (K:PySem.W.Frag) (x:Str) (st:Stmt) (f:Addr) (fd:FuncData):Prop where
 ns:PySem.W.nsIn K mainGlobals x=some (some (.ref f))
 fn:Fun K x x st f fd
theorem fnT_mk {K:PySem.W.Frag} {x:Str} {st:Stmt} {f:Addr} {oc:Value} {od an:Option Addr} {osl:Array (Option Value)} {kV doc pm cdv ct:Value} (a:PySem.W.nsIn K mainGlobals x=some (some (.ref f)))
  (l:K.lookup f=some ⟨oc,od,.func (PySem.W.fnOf x x (defArgs st) (defBody st) (defScope st) .none kV doc pm an cdv ct),osl⟩) (c:PySem.W.codeIn K cdv x=true) (k:PySem.W.keepIn K (.ref f)=true):∃ f fd,FnT K x st f fd:=⟨_,_,a,fun_mk l c k⟩
structure C_Desk (K:PySem.W.Frag) (C f0 f1:Addr) (d0 d1:FuncData):Prop where
 ns:PySem.W.nsIn K mainGlobals "Desk"=some (some (.ref C))
 cl:Cls K C
 fn___init__:Fun K "__init__" "Desk.__init__" (inClass (top 105) 0) f0 d0
 mks:Mk K C f0
 fn_say:Fun K "say" "Desk.say" (inClass (top 105) 1) f1 d1
 mt_say:Meth K C "say" f1
 n_bed:NoAttr K C "bed"
 n_shelf:NoAttr K C "shelf"
 n_rows:NoAttr K C "rows"
theorem C_Desk_mk {K:PySem.W.Frag} {C f0 f1:Addr} {od0 an0 od1 an1:Option Addr} {sl0 sl1:Array (Option Value)} {oc0 kV0 dc0 pm0 cd0 ct0 oc1 kV1 dc1 pm1 cd1 ct1:Value}
  (aC:PySem.W.nsIn K mainGlobals "Desk"=some (some (.ref C)))
  (a0:PySem.W.findIn K (.ref C) "__init__"=some (some (.ref f0))) (i0:PySem.W.isFn K (.ref f0)=true) (l0:K.lookup f0=some ⟨oc0,od0,.func (PySem.W.fnOf "__init__" "Desk.__init__" (defArgs (inClass (top 105) 0)) (defBody (inClass (top 105) 0)) (defScope (inClass (top 105) 0)) .none kV0 dc0 pm0 an0 cd0 ct0),sl0⟩) (c0:PySem.W.codeIn K cd0 "Desk.__init__"=true) (k0:PySem.W.keepIn K (.ref f0)=true)
  (a1:PySem.W.findIn K (.ref C) "say"=some (some (.ref f1))) (i1:PySem.W.isFn K (.ref f1)=true) (l1:K.lookup f1=some ⟨oc1,od1,.func (PySem.W.fnOf "say" "Desk.say" (defArgs (inClass (top 105) 1)) (defBody (inClass (top 105) 1)) (defScope (inClass (top 105) 1)) .none kV1 dc1 pm1 an1 cd1 ct1),sl1⟩) (c1:PySem.W.codeIn K cd1 "Desk.say"=true) (k1:PySem.W.keepIn K (.ref f1)=true)
  (pg:PySem.W.plainGet K C Str.empty=true) (hd:PySem.W.hasDictIn K C=true) (po:PySem.W.plainOver K C=true) (sa:PySem.W.findIn K (.ref C) "__setattr__"=some (some (.builtin "object.__setattr__"))) (mk:PySem.W.makesIn K C=true) (kc:PySem.W.keepIn K (.ref C)=true) (n0:PySem.W.findIn K (.ref C) "bed"=some none) (n1:PySem.W.findIn K (.ref C) "shelf"=some none) (n2:PySem.W.findIn K (.ref C) "rows"=some none) :
  ∃ C f0 f1 d0 d1,C_Desk K C f0 f1 d0 d1 :=
 ⟨C,f0,f1,_,_,aC,⟨pg,hd,po,sa⟩,fun_mk l0 c0 k0,⟨mk,a0,i0,kc⟩,fun_mk l1 c1 k1,⟨a1,i1,k1⟩,n0,n1,n2⟩
theorem byLen0 {P:List Value→Prop} (h:P []):∀ us:List Value,us.length=0→P us:=fun us hl=>by
 rw [List.length_eq_zero_iff.mp hl]
 exact h
theorem byLenS {n:Nat} {P:List Value→Prop} (h:∀ (a:Value) (us:List Value),us.length=n→P (a :: us)):∀ us:List Value,us.length=n + 1→P us:=fun us hl=>by
 cases us with
 | nil=>cases hl
 | cons a r=>exact h a r (Nat.succ.inj hl)
theorem byLen1 {P:List Value→Prop} (h:∀ a0:Value,P [a0]):∀ us:List Value,us.length=1→P us:=byLenS fun a=>byLen0 (P:=fun us=>P (a :: us)) (h a)
theorem byLen2 {P:List Value→Prop} (h:∀ a0 a1:Value,P [a0,a1]):∀ us:List Value,us.length=2→P us:=byLenS fun a=>byLen1 (P:=fun us=>P (a :: us)) (h a)
theorem byLen3 {P:List Value→Prop} (h:∀ a0 a1 a2:Value,P [a0,a1,a2]):∀ us:List Value,us.length=3→P us:=byLenS fun a=>byLen2 (P:=fun us=>P (a :: us)) (h a)
theorem byLen4 {P:List Value→Prop} (h:∀ a0 a1 a2 a3:Value,P [a0,a1,a2,a3]):∀ us:List Value,us.length=4→P us:=byLenS fun a=>byLen3 (P:=fun us=>P (a :: us)) (h a)
theorem byLen5 {P:List Value→Prop} (h:∀ a0 a1 a2 a3 a4:Value,P [a0,a1,a2,a3,a4]):∀ us:List Value,us.length=5→P us:=byLenS fun a=>byLen4 (P:=fun us=>P (a :: us)) (h a)
abbrev bmV:List Value:=[.type "ValueError",.type "Exception",.type "BaseException",.type "object"]
structure C_Row (K:PySem.W.Frag) (x:Str) (CN CC:Addr):Prop where
 ns:PySem.W.nsIn K mainGlobals x=some (some (.ref CN))
 nc:PySem.W.nsIn K mainGlobals "CarveError"=some (some (.ref CC))
 obj:∃ nm q N bs hd sn sub ab col dd k0 k1 k2 k3 k5,K.lookup CN=some (excClassObj nm q CN N bs (.ref CC :: bmV) hd sn sub ab col dd k0 k1 k2 k3 k5 "ValueError.__new__")∧PySem.W.nsOkIn K N=true∧PySem.W.nsIn K N "__init__"=some none
 up:∃ nm q N bs hd sn sub ab col dd k0 k1 k2 k3 k5,K.lookup CC=some (excClassObj nm q CC N bs bmV hd sn sub ab col dd k0 k1 k2 k3 k5 "ValueError.__new__")∧PySem.W.nsOkIn K N=true∧PySem.W.nsIn K N "__init__"=some none
 cobj:∃ dd cd sl,K.lookup CC=some ⟨.type "type",dd,.cls cd,sl⟩
 exc:PySem.W.mroIn K CC (.type "BaseException")=some true
 sub:PySem.W.mroIn K CN (.ref CC)=some true
 ek:ExcK K CN
 val:PySem.W.subIn K (.ref CN) (.type "ValueError")=some true
 self:PySem.W.mroIn K CN (.ref CN)=some true
theorem okIn_of {K:PySem.W.Frag} {N:Addr} {nc:Value} {ndd:Option Addr} {nes:Array DictEntry} {nep:Nat} {nsl:Array (Option Value)} (o2:K.lookup N=some ⟨nc,ndd,.dict nes nep,nsl⟩) (o3:(nes.toList.all fun e=>match e.key with | .str _ _=>true | _=>false)=true):PySem.W.nsOkIn K N=true:=by
 unfold PySem.W.nsOkIn
 rw [o2]
 dsimp only
 rw [← Array.all_toList]
 exact o3
theorem C_Row_mk {K:PySem.W.Frag} {CN CC N N':Addr} {x nm q nm' q':Str} {bs bs':List Value} {hd hd':Bool} {sn sn':List Str} {sub sub':List Value} {ab ab':Bool} {col col':Option Bool} {dd dd':Option Addr} {k0 k1 k2 k3 k5 j0 j1 j2 j3 j5:Option Value}
  {dd2:Option Addr} {cd2:ClassData} {sl2:Array (Option Value)} {nc nc':Value} {ndd ndd':Option Addr} {nes nes':Array DictEntry} {nep nep':Nat} {nsl nsl':Array (Option Value)}
  (a0:PySem.W.nsIn K mainGlobals x=some (some (.ref CN))) (a1:PySem.W.nsIn K mainGlobals "CarveError"=some (some (.ref CC)))
  (o1:K.lookup CN=some (excClassObj nm q CN N bs (.ref CC :: bmV) hd sn sub ab col dd k0 k1 k2 k3 k5 "ValueError.__new__")) (o2:K.lookup N=some ⟨nc,ndd,.dict nes nep,nsl⟩) (o3:(nes.toList.all fun e=>match e.key with | .str _ _=>true | _=>false)=true) (o4:PySem.W.nsIn K N "__init__"=some none)
  (u1:K.lookup CC=some (excClassObj nm' q' CC N' bs' bmV hd' sn' sub' ab' col' dd' j0 j1 j2 j3 j5 "ValueError.__new__")) (u2:K.lookup N'=some ⟨nc',ndd',.dict nes' nep',nsl'⟩) (u3:(nes'.toList.all fun e=>match e.key with | .str _ _=>true | _=>false)=true) (u4:PySem.W.nsIn K N' "__init__"=some none)
  (co:K.lookup CC=some ⟨.type "type",dd2,.cls cd2,sl2⟩) (ex:PySem.W.mroIn K CC (.type "BaseException")=some true) (su:PySem.W.mroIn K CN (.ref CC)=some true)
  (e1:PySem.W.hasDictIn K CN=true) (e2:PySem.W.findIn K (.ref CN) "__getattribute__"=some (some (.builtin "BaseException.__getattribute__"))) (e3:PySem.W.findIn K (.ref CN) "__getattr__"=some none) (e4:PySem.W.findIn K (.ref CN) "__class__"=some (some (.builtin "object.__class__")))
  (e5:PySem.W.specialIn K (.builtin "object.__class__") "__get__"=some (some (.builtin "getset_descriptor.__get__"))) (e6:PySem.W.takesIn K (.builtin "object.__class__")=some true) (e7:PySem.W.mroIn K CN (.type "object")=some true) (e8:PySem.W.mroIn K CN (.type "BaseException")=some true)
  (va:PySem.W.subIn K (.ref CN) (.type "ValueError")=some true) (se:PySem.W.mroIn K CN (.ref CN)=some true):∃ CN CC,C_Row K x CN CC :=
 ⟨CN,CC,a0,a1,⟨nm,q,N,bs,hd,sn,sub,ab,col,dd,k0,k1,k2,k3,k5,o1,okIn_of o2 o3,o4⟩,⟨nm',q',N',bs',hd',sn',sub',ab',col',dd',j0,j1,j2,j3,j5,u1,okIn_of u2 u3,u4⟩,⟨dd2,cd2,sl2,co⟩,ex,su,
  ⟨by
   obtain ⟨cd,hc,_⟩:=PySem.W.any_some e1
   rw [hc]
   rfl,e2,e3,e4,e5,e6,e7,e8⟩,va,se⟩
theorem C_Row.own {K:PySem.W.Frag} {mg:Str→Option Value} {h:Heap} {x:Str} {CN CC:Addr} (S:C_Row K x CN CC) (X:K.In h) (G:h.Ns mainGlobals mg):∃ bm,PyProof.Rows.OwnCls x CN bm "ValueError.__new__" mg h∧PySem.ExcBaseFacts "ValueError" "ValueError.__new__" "ValueError.__init__" bm:=by
 obtain ⟨nm,q,N,bs,hd,sn,sub,ab,col,dd,k0,k1,k2,k3,k5,o1,o2,o3⟩:=S.obj
 obtain ⟨nm',q',N',bs',hd',sn',sub',ab',col',dd',j0,j1,j2,j3,j5,u1,u2,u3⟩:=S.up
 refine ⟨bmV,⟨PySem.W.mg_of X G S.ns,_,N,nm,q,bs,hd,sn,sub,ab,col,dd,k0,k1,k2,k3,k5,_,X _ _ o1,.of_isNs (PySem.W.isNs_of_in X o2),PySem.W.nsMap_none_of_in X o2 o3,?_⟩,F.excBase_ValueError⟩
 exact .own (X _ _ u1) (.of_isNs (PySem.W.isNs_of_in X u2)) (PySem.W.nsMap_none_of_in X u2 u3) .base
theorem int_mk {K:PySem.W.Frag} {x:Str} {i:Int} {t:Tok} (a:PySem.W.nsIn K mainGlobals x=some (some (.int i t))):∃ t,PySem.W.nsIn K mainGlobals x=some (some (.int i t)):=⟨t,a⟩
theorem str_mk {K:PySem.W.Frag} {x z:Str} {t:Tok} (a:PySem.W.nsIn K mainGlobals x=some (some (.str z t))):∃ t,PySem.W.nsIn K mainGlobals x=some (some (.str z t)):=⟨t,a⟩
def TpT (K:PySem.W.Frag) (x:Str) (lo hi:Int):Prop:=∃ a,PySem.W.nsIn K mainGlobals x=some (some (.ref a))∧∀ H:Hp,SqT K H a [.int lo,.int hi]
theorem tp_mk {K:PySem.W.Frag} {x:Str} {lo hi:Int} {a:Addr} {dd:Option Addr} {n:Nat} {sl:Array (Option Value)} {t0 t1:Tok} (ns:PySem.W.nsIn K mainGlobals x=some (some (.ref a))) (l:K.lookup a=some ⟨.type "tuple",dd,.seq #[.int lo t0,.int hi t1] n,sl⟩):TpT K x lo hi :=
 ⟨a,ns,fun H=>.inr ⟨_,_,n,l,rfl,rfl,(by show 2≤sizeLine; decide),.cons ⟨t0,rfl⟩ (.cons ⟨t1,rfl⟩ .nil)⟩⟩
def NdT (P:Program) (w:World) (K:PySem.W.Frag):Prop:=∃ a,PySem.W.nsIn K mainGlobals "NUMBERS_DUE"=some (some (.ref a))∧DkK P w K a kvsN∧NoDict K a
theorem nd_mk {P:Program} {w:World} {K:PySem.W.Frag} {a:Addr} {u0 u1 u2 u3 u4 u5 u6:Tok} {h0 h1 h2 h3 h4 h5 h6:Int} {t0 t1 t2 t3 t4 t5 t6:Tok} {ep:Nat} (n:PySem.W.nsIn K mainGlobals "NUMBERS_DUE"=some (some (.ref a))) (l:K.lookup a=some ⟨.type "dict",none,.dict #[⟨h0,.str "bed" t0,.int 3 u0⟩,⟨h1,.str "cutter" t1,.int 2 u1⟩,⟨h2,.str "drop" t2,.int 0 u2⟩,⟨h3,.str "carve" t3,.int 0 u3⟩,⟨h4,.str "cell" t4,.int 2 u4⟩,⟨h5,.str "show" t5,.int 0 u5⟩,⟨h6,.str "low" t6,.int 2 u6⟩] ep,#[]⟩) (e0:h0=hashStr w "bed") (e1:h1=hashStr w "cutter") (e2:h2=hashStr w "drop") (e3:h3=hashStr w "carve") (e4:h4=hashStr w "cell") (e5:h5=hashStr w "show") (e6:h6=hashStr w "low") (hs:(a == sysModules)=false):NdT P w K:=by
 subst e0 e1 e2 e3 e4 e5 e6
 have dk:DkK P w K a (kvsN):=by
  refine ⟨hs,(show 7≤sizeLine by decide),[((Sum.inr "bed":Key),.int 3 u0),((Sum.inr "cutter":Key),.int 2 u1),((Sum.inr "drop":Key),.int 0 u2),((Sum.inr "carve":Key),.int 0 u3),((Sum.inr "cell":Key),.int 2 u4),((Sum.inr "show":Key),.int 0 u5),((Sum.inr "low":Key),.int 2 u6)],.cons ⟨rfl,_,rfl⟩ (.cons ⟨rfl,_,rfl⟩ (.cons ⟨rfl,_,rfl⟩ (.cons ⟨rfl,_,rfl⟩ (.cons ⟨rfl,_,rfl⟩ (.cons ⟨rfl,_,rfl⟩ (.cons ⟨rfl,_,rfl⟩ (.nil))))))),fun h X=>?_⟩
  refine ⟨_,#[⟨hashStr w "bed",.str "bed" t0,.int 3 u0⟩,⟨hashStr w "cutter",.str "cutter" t1,.int 2 u1⟩,⟨hashStr w "drop",.str "drop" t2,.int 0 u2⟩,⟨hashStr w "carve",.str "carve" t3,.int 0 u3⟩,⟨hashStr w "cell",.str "cell" t4,.int 2 u4⟩,⟨hashStr w "show",.str "show" t5,.int 0 u5⟩,⟨hashStr w "low",.str "low" t6,.int 2 u6⟩],ep,X _ _ l,⟨rfl,rfl,rfl⟩,rfl,fun e he=>?_,.cons (keyIs_str "bed" t0) rfl (.cons (keyIs_str "cutter" t1) rfl (.cons (keyIs_str "drop" t2) rfl (.cons (keyIs_str "carve" t3) rfl (.cons (keyIs_str "cell" t4) rfl (.cons (keyIs_str "show" t5) rfl (.cons (keyIs_str "low" t6) rfl (.nil))))))),(show List.Nodup [(Sum.inr "bed":Key),(Sum.inr "cutter":Key),(Sum.inr "drop":Key),(Sum.inr "carve":Key),(Sum.inr "cell":Key),(Sum.inr "show":Key),(Sum.inr "low":Key)] by decide +kernel)⟩
  have he':e∈[(⟨hashStr w "bed",.str "bed" t0,.int 3 u0⟩:DictEntry),⟨hashStr w "cutter",.str "cutter" t1,.int 2 u1⟩,⟨hashStr w "drop",.str "drop" t2,.int 0 u2⟩,⟨hashStr w "carve",.str "carve" t3,.int 0 u3⟩,⟨hashStr w "cell",.str "cell" t4,.int 2 u4⟩,⟨hashStr w "show",.str "show" t5,.int 0 u5⟩,⟨hashStr w "low",.str "low" t6,.int 2 u6⟩]:=by simpa using he
  simp only [List.mem_cons,List.mem_nil_iff,or_false] at he'
  rcases he' with rfl | rfl | rfl | rfl | rfl | rfl | rfl
  ·exact ⟨Sum.inr "bed",keyIs_str "bed" t0,rfl⟩
  ·exact ⟨Sum.inr "cutter",keyIs_str "cutter" t1,rfl⟩
  ·exact ⟨Sum.inr "drop",keyIs_str "drop" t2,rfl⟩
  ·exact ⟨Sum.inr "carve",keyIs_str "carve" t3,rfl⟩
  ·exact ⟨Sum.inr "cell",keyIs_str "cell" t4,rfl⟩
  ·exact ⟨Sum.inr "show",keyIs_str "show" t5,rfl⟩
  ·exact ⟨Sum.inr "low",keyIs_str "low" t6,rfl⟩
 exact ⟨a,n,dk,_,l,rfl⟩
structure DoD (P:Program) (w:World) (K:PySem.W.Frag) (a f1 f2 f3 f4 f5 f6 f7 f8:Addr):Prop where
 ns:PySem.W.nsIn K mainGlobals "DOINGS"=some (some (.ref a))
 dk:DkK P w K a (dosK f1 f2 f3 f4 f5 f6 f7 f8)
 g1:PySem.W.nsIn K mainGlobals "lay_bed"=some (some (.ref f1))
 g2:PySem.W.nsIn K mainGlobals "put_cutter"=some (some (.ref f2))
 g6:PySem.W.nsIn K mainGlobals "tell_cell"=some (some (.ref f6))
 g8:PySem.W.nsIn K mainGlobals "tell_low"=some (some (.ref f8))
theorem do_mk {P:Program} {w:World} {K:PySem.W.Frag} {a:Addr} {f1 f2 f3 f4 f5 f6 f7 f8:Addr} {h0 h1 h2 h3 h4 h5 h6 h7:Int} {t0 t1 t2 t3 t4 t5 t6 t7:Tok} {ep:Nat} (n:PySem.W.nsIn K mainGlobals "DOINGS"=some (some (.ref a))) (l:K.lookup a=some ⟨.type "dict",none,.dict #[⟨h0,.str "bed" t0,.ref f1⟩,⟨h1,.str "cutter" t1,.ref f2⟩,⟨h2,.str "row" t2,.ref f3⟩,⟨h3,.str "drop" t3,.ref f4⟩,⟨h4,.str "carve" t4,.ref f5⟩,⟨h5,.str "cell" t5,.ref f6⟩,⟨h6,.str "show" t6,.ref f7⟩,⟨h7,.str "low" t7,.ref f8⟩] ep,#[]⟩) (e0:h0=hashStr w "bed") (e1:h1=hashStr w "cutter") (e2:h2=hashStr w "row") (e3:h3=hashStr w "drop") (e4:h4=hashStr w "carve") (e5:h5=hashStr w "cell") (e6:h6=hashStr w "show") (e7:h7=hashStr w "low") (hs:(a == sysModules)=false) (g1:PySem.W.nsIn K mainGlobals "lay_bed"=some (some (.ref f1))) (g2:PySem.W.nsIn K mainGlobals "put_cutter"=some (some (.ref f2))) (g6:PySem.W.nsIn K mainGlobals "tell_cell"=some (some (.ref f6))) (g8:PySem.W.nsIn K mainGlobals "tell_low"=some (some (.ref f8))):∃ a f1 f2 f3 f4 f5 f6 f7 f8,DoD P w K a f1 f2 f3 f4 f5 f6 f7 f8:=by
 subst e0 e1 e2 e3 e4 e5 e6 e7
 have dk:DkK P w K a (dosK f1 f2 f3 f4 f5 f6 f7 f8):=by
  refine ⟨hs,(show 8≤sizeLine by decide),[((Sum.inr "bed":Key),.ref f1),((Sum.inr "cutter":Key),.ref f2),((Sum.inr "row":Key),.ref f3),((Sum.inr "drop":Key),.ref f4),((Sum.inr "carve":Key),.ref f5),((Sum.inr "cell":Key),.ref f6),((Sum.inr "show":Key),.ref f7),((Sum.inr "low":Key),.ref f8)],.cons ⟨rfl,rfl⟩ (.cons ⟨rfl,rfl⟩ (.cons ⟨rfl,rfl⟩ (.cons ⟨rfl,rfl⟩ (.cons ⟨rfl,rfl⟩ (.cons ⟨rfl,rfl⟩ (.cons ⟨rfl,rfl⟩ (.cons ⟨rfl,rfl⟩ (.nil)))))))),fun h X=>?_⟩
  refine ⟨_,#[⟨hashStr w "bed",.str "bed" t0,.ref f1⟩,⟨hashStr w "cutter",.str "cutter" t1,.ref f2⟩,⟨hashStr w "row",.str "row" t2,.ref f3⟩,⟨hashStr w "drop",.str "drop" t3,.ref f4⟩,⟨hashStr w "carve",.str "carve" t4,.ref f5⟩,⟨hashStr w "cell",.str "cell" t5,.ref f6⟩,⟨hashStr w "show",.str "show" t6,.ref f7⟩,⟨hashStr w "low",.str "low" t7,.ref f8⟩],ep,X _ _ l,⟨rfl,rfl,rfl⟩,rfl,fun e he=>?_,.cons (keyIs_str "bed" t0) rfl (.cons (keyIs_str "cutter" t1) rfl (.cons (keyIs_str "row" t2) rfl (.cons (keyIs_str "drop" t3) rfl (.cons (keyIs_str "carve" t4) rfl (.cons (keyIs_str "cell" t5) rfl (.cons (keyIs_str "show" t6) rfl (.cons (keyIs_str "low" t7) rfl (.nil)))))))),(show List.Nodup [(Sum.inr "bed":Key),(Sum.inr "cutter":Key),(Sum.inr "row":Key),(Sum.inr "drop":Key),(Sum.inr "carve":Key),(Sum.inr "cell":Key),(Sum.inr "show":Key),(Sum.inr "low":Key)] by decide +kernel)⟩
  have he':e∈[(⟨hashStr w "bed",.str "bed" t0,.ref f1⟩:DictEntry),⟨hashStr w "cutter",.str "cutter" t1,.ref f2⟩,⟨hashStr w "row",.str "row" t2,.ref f3⟩,⟨hashStr w "drop",.str "drop" t3,.ref f4⟩,⟨hashStr w "carve",.str "carve" t4,.ref f5⟩,⟨hashStr w "cell",.str "cell" t5,.ref f6⟩,⟨hashStr w "show",.str "show" t6,.ref f7⟩,⟨hashStr w "low",.str "low" t7,.ref f8⟩]:=by simpa using he
  simp only [List.mem_cons,List.mem_nil_iff,or_false] at he'
  rcases he' with rfl | rfl | rfl | rfl | rfl | rfl | rfl | rfl
  ·exact ⟨Sum.inr "bed",keyIs_str "bed" t0,rfl⟩
  ·exact ⟨Sum.inr "cutter",keyIs_str "cutter" t1,rfl⟩
  ·exact ⟨Sum.inr "row",keyIs_str "row" t2,rfl⟩
  ·exact ⟨Sum.inr "drop",keyIs_str "drop" t3,rfl⟩
  ·exact ⟨Sum.inr "carve",keyIs_str "carve" t4,rfl⟩
  ·exact ⟨Sum.inr "cell",keyIs_str "cell" t5,rfl⟩
  ·exact ⟨Sum.inr "show",keyIs_str "show" t6,rfl⟩
  ·exact ⟨Sum.inr "low",keyIs_str "low" t7,rfl⟩
 exact ⟨a,f1,f2,f3,f4,f5,f6,f7,f8,n,dk,g1,g2,g6,g8⟩
structure CaD (K:PySem.W.Frag) (f m l:Addr):Prop where
 nf:PySem.W.nsIn K mainGlobals "NoForm"=some (some (.ref f))
 nm:PySem.W.nsIn K mainGlobals "NoMeasure"=some (some (.ref m))
 nl:PySem.W.nsIn K mainGlobals "NoCell"=some (some (.ref l))
 xf:PySem.W.mroIn K f (.type "BaseException")=some true
 xm:PySem.W.mroIn K m (.type "BaseException")=some true
 xl:PySem.W.mroIn K l (.type "BaseException")=some true
 ff:PySem.W.mroIn K f (.ref f)=some true
 mf:PySem.W.mroIn K m (.ref f)=some false
 mm:PySem.W.mroIn K m (.ref m)=some true
 lf:PySem.W.mroIn K l (.ref f)=some false
 lm:PySem.W.mroIn K l (.ref m)=some false
 ll:PySem.W.mroIn K l (.ref l)=some true
 of:∃ dd cd sl,K.lookup f=some ⟨.type "type",dd,.cls cd,sl⟩
 om:∃ dd cd sl,K.lookup m=some ⟨.type "type",dd,.cls cd,sl⟩
 ol:∃ dd cd sl,K.lookup l=some ⟨.type "type",dd,.cls cd,sl⟩
theorem ca_mk {K:PySem.W.Frag} {f m l:Addr} {ddf ddm ddl:Option Addr} {cdf cdm cdl:ClassData} {slf slm sll:Array (Option Value)} (nf:PySem.W.nsIn K mainGlobals "NoForm"=some (some (.ref f))) (nm:PySem.W.nsIn K mainGlobals "NoMeasure"=some (some (.ref m))) (nl:PySem.W.nsIn K mainGlobals "NoCell"=some (some (.ref l))) (xf:PySem.W.mroIn K f (.type "BaseException")=some true) (xm:PySem.W.mroIn K m (.type "BaseException")=some true) (xl:PySem.W.mroIn K l (.type "BaseException")=some true) (ff:PySem.W.mroIn K f (.ref f)=some true) (mf:PySem.W.mroIn K m (.ref f)=some false) (mm:PySem.W.mroIn K m (.ref m)=some true) (lf:PySem.W.mroIn K l (.ref f)=some false) (lm:PySem.W.mroIn K l (.ref m)=some false) (ll:PySem.W.mroIn K l (.ref l)=some true) (of:K.lookup f=some ⟨.type "type",ddf,.cls cdf,slf⟩) (om:K.lookup m=some ⟨.type "type",ddm,.cls cdm,slm⟩) (ol:K.lookup l=some ⟨.type "type",ddl,.cls cdl,sll⟩):∃ f m l,CaD K f m l:=⟨f,m,l,nf,nm,nl,xf,xm,xl,ff,mf,mm,lf,lm,ll,⟨_,_,_,of⟩,⟨_,_,_,om⟩,⟨_,_,_,ol⟩⟩
structure NoneT (K:PySem.W.Frag):Prop where
 len:PySem.W.nsIn K mainGlobals "len"=some none
 max:PySem.W.nsIn K mainGlobals "max"=some none
 min:PySem.W.nsIn K mainGlobals "min"=some none
 range:PySem.W.nsIn K mainGlobals "range"=some none
 isin:PySem.W.nsIn K mainGlobals "isinstance"=some none
 abs:PySem.W.nsIn K mainGlobals "abs"=some none
 tuple:PySem.W.nsIn K mainGlobals "tuple"=some none
 list:PySem.W.nsIn K mainGlobals "list"=some none
 bool:PySem.W.nsIn K mainGlobals "bool"=some none
 int:PySem.W.nsIn K mainGlobals "int"=some none
 all:PySem.W.nsIn K mainGlobals "all"=some none
 str:PySem.W.nsIn K mainGlobals "str"=some none
 sorted:PySem.W.nsIn K mainGlobals "sorted"=some none
theorem FnT.fnB {P:Program} {w:World} {K:PySem.W.Frag} {mg:Str→Option Value} {base h:Heap} {x:Str} {st:Stmt} {f:Addr} {fd:FuncData} {k:Nat} {ps:List Str} {sp:Sp} (T:FnT K x st f fd) (X:K.In h) (G:h.Ns mainGlobals mg) (ok:FnOk P w K mg base (CX1 P w) k f fd ps sp) (bi:Binds K fd ps []):Fn P w K mg base x k ps sp :=
 ⟨f,fd,ok,PySem.W.mg_of X G T.ns,T.fn.kp,bi⟩
theorem all {P:Program} {w:World} {K:PySem.W.Frag} {mg:Str→Option Value} {h:Heap} {fa:Addr} (X:K.In h) (G:h.Ns mainGlobals mg) (hfa:mg "law"=some (.ref fa)) (N:NoneT K)
  (i_MF:∃ t,PySem.W.nsIn K mainGlobals "MOST_FIGURES"=some (some (.int 6 t))) (i_MC:∃ t,PySem.W.nsIn K mainGlobals "MOST_CUTTERS"=some (some (.int 6 t))) (i_FG:∃ t,PySem.W.nsIn K mainGlobals "FIGURES"=some (some (.str figT t))) (i_RA:∃ t,PySem.W.nsIn K mainGlobals "ROW_AHEAD"=some (some (.str "row " t)))
  (P_SIDES:TpT K "SIDES" 1 40) (P_HEIGHTS:TpT K "HEIGHTS" 0 1000) (P_BITES:TpT K "BITES" 1 1000) (P_REACHES:TpT K "REACHES" 0 2) (ND:NdT P w K) (DD:∃ a f1 f2 f3 f4 f5 f6 f7 f8,DoD P w K a f1 f2 f3 f4 f5 f6 f7 f8) (CA:∃ f m l,CaD K f m l)
  (S_NoForm:∃ CN CC,C_Row K "NoForm" CN CC) (S_NoBed:∃ CN CC,C_Row K "NoBed" CN CC) (S_NoMeasure:∃ CN CC,C_Row K "NoMeasure" CN CC) (S_NoCell:∃ CN CC,C_Row K "NoCell" CN CC) (S_NoCutter:∃ CN CC,C_Row K "NoCutter" CN CC)
  (T_is_written_in:∃ f fd,FnT K "is_written_in" (top 49) f fd) (T_is_number:∃ f fd,FnT K "is_number" (top 51) f fd) (T_within:∃ f fd,FnT K "within" (top 76) f fd) (T_cells_under:∃ f fd,FnT K "cells_under" (top 77) f fd) (T_places_over:∃ f fd,FnT K "places_over" (top 78) f fd) (T_greatest:∃ f fd,FnT K "greatest" (top 79) f fd) (T_lowest_at:∃ f fd,FnT K "lowest_at" (top 80) f fd) (T_lowest_over:∃ f fd,FnT K "lowest_over" (top 81) f fd) (T_told_in:∃ f fd,FnT K "told_in" (top 90) f fd) (T_look_at_measure:∃ f fd,FnT K "look_at_measure" (top 91) f fd) (T_look_at_cell:∃ f fd,FnT K "look_at_cell" (top 92) f fd) (T_look_at_shelf:∃ f fd,FnT K "look_at_shelf" (top 93) f fd) (T_lay_bed:∃ f fd,FnT K "lay_bed" (top 94) f fd) (T_square_foot:∃ f fd,FnT K "square_foot" (top 95) f fd) (T_put_cutter:∃ f fd,FnT K "put_cutter" (top 96) f fd) (T_tell_cell:∃ f fd,FnT K "tell_cell" (top 101) f fd) (T_tell_low:∃ f fd,FnT K "tell_low" (top 103) f fd) (T__law_writing:∃ f fd,FnT K "_law_writing" (top 107) f fd) (T__law_number:∃ f fd,FnT K "_law_number" (top 108) f fd) (T__law_said:∃ f fd,FnT K "_law_said" (top 109) f fd) (T__law_at:∃ f fd,FnT K "_law_at" (top 110) f fd) (T_law:∃ f fd,FnT K "law" (top 111) f fd)
  (T_Desk:∃ C f0 f1 d0 d1,C_Desk K C f0 f1 d0 d1) :
  ∃ fd:FuncData,(∀ (s:Shared) (v:Value),BindsTo s fd ⟨[v],[]⟩ [("script",v)])∧∀ base:Heap,K.In base→base.Ns mainGlobals mg→FnOk P w K mg base (CX1 P w) 8 fa fd ["script"] (spLaw K):=by
 obtain ⟨t_i_MF,i_MF⟩:=i_MF
 obtain ⟨t_i_MC,i_MC⟩:=i_MC
 obtain ⟨t_i_FG,i_FG⟩:=i_FG
 obtain ⟨t_i_RA,i_RA⟩:=i_RA
 obtain ⟨a_SIDES,n_SIDES,q_SIDES⟩:=P_SIDES
 obtain ⟨a_HEIGHTS,n_HEIGHTS,q_HEIGHTS⟩:=P_HEIGHTS
 obtain ⟨a_BITES,n_BITES,q_BITES⟩:=P_BITES
 obtain ⟨a_REACHES,n_REACHES,q_REACHES⟩:=P_REACHES
 obtain ⟨aN,nN,dN,zN⟩:=ND
 obtain ⟨aD,g1,g2,g3,g4,g5,g6,g7,g8,DD⟩:=DD
 obtain ⟨CF,CM,CL,CA⟩:=CA
 obtain ⟨x0,y0,S_NoForm⟩:=S_NoForm
 obtain ⟨x1,y1,S_NoBed⟩:=S_NoBed
 obtain ⟨x2,y2,S_NoMeasure⟩:=S_NoMeasure
 obtain ⟨x3,y3,S_NoCell⟩:=S_NoCell
 obtain ⟨x4,y4,S_NoCutter⟩:=S_NoCutter
 have e:=S_NoForm.ns.symm.trans CA.nf
 cases e
 have e:=S_NoMeasure.ns.symm.trans CA.nm
 cases e
 have e:=S_NoCell.ns.symm.trans CA.nl
 cases e
 obtain ⟨f_is_written_in,d_is_written_in,T_is_written_in⟩:=T_is_written_in
 obtain ⟨f_is_number,d_is_number,T_is_number⟩:=T_is_number
 obtain ⟨f_within,d_within,T_within⟩:=T_within
 obtain ⟨f_cells_under,d_cells_under,T_cells_under⟩:=T_cells_under
 obtain ⟨f_places_over,d_places_over,T_places_over⟩:=T_places_over
 obtain ⟨f_greatest,d_greatest,T_greatest⟩:=T_greatest
 obtain ⟨f_lowest_at,d_lowest_at,T_lowest_at⟩:=T_lowest_at
 obtain ⟨f_lowest_over,d_lowest_over,T_lowest_over⟩:=T_lowest_over
 obtain ⟨f_told_in,d_told_in,T_told_in⟩:=T_told_in
 obtain ⟨f_look_at_measure,d_look_at_measure,T_look_at_measure⟩:=T_look_at_measure
 obtain ⟨f_look_at_cell,d_look_at_cell,T_look_at_cell⟩:=T_look_at_cell
 obtain ⟨f_look_at_shelf,d_look_at_shelf,T_look_at_shelf⟩:=T_look_at_shelf
 obtain ⟨f_lay_bed,d_lay_bed,T_lay_bed⟩:=T_lay_bed
 obtain ⟨f_square_foot,d_square_foot,T_square_foot⟩:=T_square_foot
 obtain ⟨f_put_cutter,d_put_cutter,T_put_cutter⟩:=T_put_cutter
 obtain ⟨f_tell_cell,d_tell_cell,T_tell_cell⟩:=T_tell_cell
 obtain ⟨f_tell_low,d_tell_low,T_tell_low⟩:=T_tell_low
 obtain ⟨f__law_writing,d__law_writing,T__law_writing⟩:=T__law_writing
 obtain ⟨f__law_number,d__law_number,T__law_number⟩:=T__law_number
 obtain ⟨f__law_said,d__law_said,T__law_said⟩:=T__law_said
 obtain ⟨f__law_at,d__law_at,T__law_at⟩:=T__law_at
 obtain ⟨f_law,d_law,T_law⟩:=T_law
 obtain ⟨C,v0,v1,e0,e1,SC⟩:=T_Desk
 have e:=DD.g1.symm.trans T_lay_bed.ns
 cases e
 have e:=DD.g2.symm.trans T_put_cutter.ns
 cases e
 have e:=DD.g6.symm.trans T_tell_cell.ns
 cases e
 have e:=DD.g8.symm.trans T_tell_low.ns
 cases e
 have e:=hfa.symm.trans (PySem.W.mg_of X G T_law.ns)
 cases e
 refine ⟨d_law,?_,fun base XB GB=>?_⟩
 ·obtain ⟨oc,od,kV,doc,pm,an,cdv,ct,osl,rfl,lk,hcd⟩:=T_law.fn.ex
  exact fun s v=>.of_eq rfl
 have L:LawT mg:=⟨PySem.W.mg_none_of X G N.len,PySem.W.mg_none_of X G N.max,PySem.W.mg_none_of X G N.min,PySem.W.mg_none_of X G N.range,PySem.W.mg_none_of X G N.isin,PySem.W.mg_none_of X G N.abs,PySem.W.mg_none_of X G N.tuple,PySem.W.mg_none_of X G N.list,PySem.W.mg_none_of X G N.bool,PySem.W.mg_none_of X G N.int⟩
 have DT:DkT K mg:=⟨⟨a_SIDES,PySem.W.mg_of X G n_SIDES,q_SIDES⟩,⟨a_HEIGHTS,PySem.W.mg_of X G n_HEIGHTS,q_HEIGHTS⟩,⟨a_BITES,PySem.W.mg_of X G n_BITES,q_BITES⟩,⟨a_REACHES,PySem.W.mg_of X G n_REACHES,q_REACHES⟩,⟨t_i_MC,PySem.W.mg_of X G i_MC⟩,PySem.W.mg_none_of X G N.str⟩
 have TT:TdT P w K mg:=⟨⟨aN,PySem.W.mg_of X G nN,dN,zN⟩,⟨t_i_RA,PySem.W.mg_of X G i_RA⟩,PySem.W.mg_none_of X G N.all⟩
 have WD:WdN mg:=⟨PySem.W.mg_none_of X G N.all,⟨t_i_FG,PySem.W.mg_of X G i_FG⟩,⟨t_i_MF,PySem.W.mg_of X G i_MF⟩⟩
 have DC:DkC K C:=⟨SC.cl,SC.n_bed,SC.n_shelf,SC.n_rows⟩
 have R0:OwnX mg base "NoForm" _:=S_NoForm.own XB GB
 have R1:OwnX mg base "NoBed" _:=S_NoBed.own XB GB
 have R2:OwnX mg base "NoMeasure" _:=S_NoMeasure.own XB GB
 have R3:OwnX mg base "NoCell" _:=S_NoCell.own XB GB
 have R4:OwnX mg base "NoCutter" _:=S_NoCutter.own XB GB
 have KA:CaT K mg CF CM CL:=⟨⟨PySem.W.mg_of X G CA.nf,CA.of,CA.xf⟩,⟨PySem.W.mg_of X G CA.nm,CA.om,CA.xm⟩,⟨PySem.W.mg_of X G CA.nl,CA.ol,CA.xl⟩,CA.ff,CA.mf,CA.mm,CA.lf,CA.lm,CA.ll⟩
 have FWr:=T_is_written_in.fnB (P:=P) (w:=w) (base:=base) X G (ok_written WD T_is_written_in.fn) (T_is_written_in.fn.binds fun _ _ _ _ _ _=>byLen2 fun _ _=>rfl)
 have FNu:=T_is_number.fnB (P:=P) (w:=w) (base:=base) X G (ok_number L WD FWr T_is_number.fn) (T_is_number.fn.binds fun _ _ _ _ _ _=>byLen1 fun _=>rfl)
 have FWi:=T_within.fnB (P:=P) (w:=w) (base:=base) X G (ok_within L T_within.fn) (T_within.fn.binds fun _ _ _ _ _ _=>byLen2 fun _ _=>rfl)
 have FUn:=T_cells_under.fnB (P:=P) (w:=w) (base:=base) X G (ok_under FWi T_cells_under.fn) (T_cells_under.fn.binds fun _ _ _ _ _ _=>byLen4 fun _ _ _ _=>rfl)
 have FGr:=T_greatest.fnB (P:=P) (w:=w) (base:=base) X G (ok_great L T_greatest.fn) (T_greatest.fn.binds fun _ _ _ _ _ _=>byLen2 fun _ _=>rfl)
 have FPl:=T_places_over.fnB (P:=P) (w:=w) (base:=base) X G (ok_places (PySem.W.mg_none_of X G N.sorted) FWi T_places_over.fn) (T_places_over.fn.binds fun _ _ _ _ _ _=>byLen4 fun _ _ _ _=>rfl)
 have FLo:=T_lowest_at.fnB (P:=P) (w:=w) (base:=base) X G (ok_lowest FUn FGr T_lowest_at.fn) (T_lowest_at.fn.binds fun _ _ _ _ _ _=>byLen4 fun _ _ _ _=>rfl)
 have FOv:=T_lowest_over.fnB (P:=P) (w:=w) (base:=base) X G (ok_over L FPl FLo T_lowest_over.fn) (T_lowest_over.fn.binds fun _ _ _ _ _ _=>byLen5 fun _ _ _ _ _=>rfl)
 have FTd:=T_told_in.fnB (P:=P) (w:=w) (base:=base) X G (ok_told L TT R0 FNu T_told_in.fn) (T_told_in.fn.binds fun _ _ _ _ _ _=>byLen1 fun _=>rfl)
 have FMe:=T_look_at_measure.fnB (P:=P) (w:=w) (base:=base) X G (ok_meas R2 T_look_at_measure.fn) (T_look_at_measure.fn.binds fun _ _ _ _ _ _=>byLen2 fun _ _=>rfl)
 have FCe:=T_look_at_cell.fnB (P:=P) (w:=w) (base:=base) X G (ok_lcell L R3 T_look_at_cell.fn) (T_look_at_cell.fn.binds fun _ _ _ _ _ _=>byLen3 fun _ _ _=>rfl)
 have FSh:=T_look_at_shelf.fnB (P:=P) (w:=w) (base:=base) X G (ok_lshelf R4 T_look_at_shelf.fn) (T_look_at_shelf.fn.binds fun _ _ _ _ _ _=>byLen1 fun _=>rfl)
 have FSq:=T_square_foot.fnB (P:=P) (w:=w) (base:=base) X G (ok_sq L T_square_foot.fn) (T_square_foot.fn.binds fun _ _ _ _ _ _=>byLen1 fun _=>rfl)
 have V1:FnV P w K mg base 5 _ ["desk","numbers"] (spLay C CM):=⟨d_lay_bed,(ok_lay L DT DC FMe T_lay_bed.fn).mono (by decide),T_lay_bed.fn.kp,(T_lay_bed.fn.binds fun _ _ _ _ _ _=>byLen2 fun _ _=>rfl)⟩
 have V2:FnV P w K mg base 5 _ ["desk","numbers"] (spPut C CM):=⟨d_put_cutter,(ok_put L DT DC R2 FMe FSq T_put_cutter.fn).mono (by decide),T_put_cutter.fn.kp,(T_put_cutter.fn.binds fun _ _ _ _ _ _=>byLen2 fun _ _=>rfl)⟩
 have V6:FnV P w K mg base 5 _ ["desk","numbers"] (spTC C CL):=⟨d_tell_cell,(ok_tc DT DC FCe T_tell_cell.fn).mono (by decide),T_tell_cell.fn.kp,(T_tell_cell.fn.binds fun _ _ _ _ _ _=>byLen2 fun _ _=>rfl)⟩
 have V8:FnV P w K mg base 5 _ ["desk","numbers"] (spTL C CL):=⟨d_tell_low,(ok_tl L DT DC FCe FSh FOv T_tell_low.fn).mono (by decide),T_tell_low.fn.kp,(T_tell_low.fn.binds fun _ _ _ _ _ _=>byLen2 fun _ _=>rfl)⟩
 have MI:Mc P w K mg base "Desk" C 1 ["self"] (spDeskI C):=⟨v0,e0,ok_deskI DC SC.fn___init__,SC.mks,PySem.W.mg_of X G SC.ns,(SC.fn___init__.binds fun _ _ _ _ _ _=>byLen1 fun _=>rfl)⟩
 have MS:Mt P w K mg base C "say" 6 ["self","row"] (spSay C CM CL CF):=⟨v1,e1,ok_say DC ⟨PySem.W.mg_of X G DD.ns,DD.dk,V1,V2,V6,V8⟩ R1 FTd SC.fn_say,SC.mt_say,SC.cl,(SC.fn_say.binds fun _ _ _ _ _ _=>byLen2 fun _ _=>rfl)⟩
 have GW:=T__law_writing.fnB (P:=P) (w:=w) (base:=base) X G (ok_wri L DT T__law_writing.fn) (T__law_writing.fn.binds fun _ _ _ _ _ _=>byLen1 fun _=>rfl)
 have GN:=T__law_number.fnB (P:=P) (w:=w) (base:=base) X G (ok_numL L T__law_number.fn) (T__law_number.fn.binds fun _ _ _ _ _ _=>byLen1 fun _=>rfl)
 have GS:=T__law_said.fnB (P:=P) (w:=w) (base:=base) X G (ok_said KA MS T__law_said.fn) (T__law_said.fn.binds fun _ _ _ _ _ _=>byLen2 fun _ _=>rfl)
 have GA:=T__law_at.fnB (P:=P) (w:=w) (base:=base) X G (ok_atL T__law_at.fn) (T__law_at.fn.binds fun _ _ _ _ _ _=>byLen2 fun _ _=>rfl)
 exact ok_law GW GN MI MS GA GS T_law.fn
theorem walk {l:PySem.W.OpenLaw} {q:Program} {loose:List Str} {XP:(Str→Option Value)→Heap→Prop} {YP:World→Heap→Prop} {d:DefRec} {K:Params→PySem.W.Frag} (hn:l.most=some 63) (hdf:d.params.defaults=[])
  (hY:∀ (w:World) (h:Heap),YP w h→(K w.params).In h)
  (F:∀ (w:World) (mg:Str→Option Value) (fa:Addr) (h:Heap),(K w.params).In h→h.Ns mainGlobals mg→mg d.name=some (.ref fa) →
   ∃ fd:FuncData,(∀ (s:Shared) (u:Value),BindsTo s fd ⟨[u],[]⟩ [("script",u)])∧∀ base:Heap,(K w.params).In base→base.Ns mainGlobals mg→FnOk l.prog w (K w.params) mg base (CX1 l.prog w) 8 fa fd ["script"] (spLaw (K w.params))) :
  PySem.W.WalkO q loose XP YP l.row.toRowW d [] (fun f vs=>PySem.call f vs) :=
 L2.walk_of (n:=63) (k:=8) (x:="script") (CX:=fun w=>CX1 l.prog w) (sp:=fun w=>spLaw (K w.params)) hn (by decide) hdf ⟨rfl,by decide,by decide⟩ hY F (fun _ _ a ns hl _ hS=>⟨a,ns,rfl,hS,hl,fun _=>rfl⟩) fun _ _ _ _ _ z=>by
  obtain ⟨_,_,_,_,_,_,_,_,_,_,_,_,_,_,_,ff⟩:=z
  exact ff
end Car
open PySem PySem.W PyProof.Rows
set_option maxRecDepth 100000 in
set_option maxHeartbeats 0 in
theorem PySem.Challenge.cw_carvebed_k57_numbers_at_a_desk_holds : PySem.Challenge.rw_carvebed_k57_numbers_at_a_desk.Holds := by
 w_on; o_law
 refine @PySem.W.holds_open _ Car.hQ Car.hLoose (fun s=>PySem.W.xlAt Car.hQ [] s && PySem.W.recOk [] s) (PySem.W.XL Car.hQ []) _
  (PySem.W.Hook.obs Car.hH) (PySem.W.Hook.val Car.hH) (PySem.W.Hook.says Car.hH) _ _ 17392
  Car.hLeft (PySem.W.Hook.of Car.hH) (PySem.W.Hook.keeps Car.hH)
  (fun s e=>PySem.W.xl_of s (Bool.and_eq_true_iff.mp e).1) PySem.W.XL.keeps (by rfl) (by rfl) (by rfl)
  (fun s e=>PySem.W.recFacts_of (Bool.and_eq_true_iff.mp e).2) (by rfl) (by assumption)
  (by decide +kernel) ⟨rfl,rfl,rfl,rfl,rfl,by decide +kernel⟩ ?hw ?hc
 (case hw=>w_witness2)
 refine Car.walk (l:=PySem.Challenge.rw_carvebed_k57_numbers_at_a_desk) rfl rfl (K:=Car.KK) (fun w h Y=>PySem.W.kIn_of (K:=Car.KK) (as:=Car.KKas) (e:=fun _=>rfl) Y) ?F
 case F =>
  k_fill
  intro w mg fa h KX G hmg
  have T_is_written_in:∃ f fd,Car.FnT (L2.KOf KX) "is_written_in" (Car.top 49) f fd:=by
   dsimp only [L2.KOf]
   refine' Car.fnT_mk ?a ?l ?c ?k
   (case a | l | c | k=>k_is)
  have T_is_number:∃ f fd,Car.FnT (L2.KOf KX) "is_number" (Car.top 51) f fd:=by
   dsimp only [L2.KOf]
   refine' Car.fnT_mk ?a ?l ?c ?k
   (case a | l | c | k=>k_is)
  have T_within:∃ f fd,Car.FnT (L2.KOf KX) "within" (Car.top 76) f fd:=by
   dsimp only [L2.KOf]
   refine' Car.fnT_mk ?a ?l ?c ?k
   (case a | l | c | k=>k_is)
  have T_cells_under:∃ f fd,Car.FnT (L2.KOf KX) "cells_under" (Car.top 77) f fd:=by
   dsimp only [L2.KOf]
   refine' Car.fnT_mk ?a ?l ?c ?k
   (case a | l | c | k=>k_is)
  have T_places_over:∃ f fd,Car.FnT (L2.KOf KX) "places_over" (Car.top 78) f fd:=by
   dsimp only [L2.KOf]
   refine' Car.fnT_mk ?a ?l ?c ?k
   (case a | l | c | k=>k_is)
  have T_greatest:∃ f fd,Car.FnT (L2.KOf KX) "greatest" (Car.top 79) f fd:=by
   dsimp only [L2.KOf]
   refine' Car.fnT_mk ?a ?l ?c ?k
   (case a | l | c | k=>k_is)
  have T_lowest_at:∃ f fd,Car.FnT (L2.KOf KX) "lowest_at" (Car.top 80) f fd:=by
   dsimp only [L2.KOf]
   refine' Car.fnT_mk ?a ?l ?c ?k
   (case a | l | c | k=>k_is)
  have T_lowest_over:∃ f fd,Car.FnT (L2.KOf KX) "lowest_over" (Car.top 81) f fd:=by
   dsimp only [L2.KOf]
   refine' Car.fnT_mk ?a ?l ?c ?k
   (case a | l | c | k=>k_is)
  have T_told_in:∃ f fd,Car.FnT (L2.KOf KX) "told_in" (Car.top 90) f fd:=by
   dsimp only [L2.KOf]
   refine' Car.fnT_mk ?a ?l ?c ?k
   (case a | l | c | k=>k_is)
  have T_look_at_measure:∃ f fd,Car.FnT (L2.KOf KX) "look_at_measure" (Car.top 91) f fd:=by
   dsimp only [L2.KOf]
   refine' Car.fnT_mk ?a ?l ?c ?k
   (case a | l | c | k=>k_is)
  have T_look_at_cell:∃ f fd,Car.FnT (L2.KOf KX) "look_at_cell" (Car.top 92) f fd:=by
   dsimp only [L2.KOf]
   refine' Car.fnT_mk ?a ?l ?c ?k
   (case a | l | c | k=>k_is)
  have T_look_at_shelf:∃ f fd,Car.FnT (L2.KOf KX) "look_at_shelf" (Car.top 93) f fd:=by
   dsimp only [L2.KOf]
   refine' Car.fnT_mk ?a ?l ?c ?k
   (case a | l | c | k=>k_is)
  have T_lay_bed:∃ f fd,Car.FnT (L2.KOf KX) "lay_bed" (Car.top 94) f fd:=by
   dsimp only [L2.KOf]
   refine' Car.fnT_mk ?a ?l ?c ?k
   (case a | l | c | k=>k_is)
  have T_square_foot:∃ f fd,Car.FnT (L2.KOf KX) "square_foot" (Car.top 95) f fd:=by
   dsimp only [L2.KOf]
   refine' Car.fnT_mk ?a ?l ?c ?k
   (case a | l | c | k=>k_is)
  have T_put_cutter:∃ f fd,Car.FnT (L2.KOf KX) "put_cutter" (Car.top 96) f fd:=by
   dsimp only [L2.KOf]
   refine' Car.fnT_mk ?a ?l ?c ?k
   (case a | l | c | k=>k_is)
  have T_tell_cell:∃ f fd,Car.FnT (L2.KOf KX) "tell_cell" (Car.top 101) f fd:=by
   dsimp only [L2.KOf]
   refine' Car.fnT_mk ?a ?l ?c ?k
   (case a | l | c | k=>k_is)
  have T_tell_low:∃ f fd,Car.FnT (L2.KOf KX) "tell_low" (Car.top 103) f fd:=by
   dsimp only [L2.KOf]
   refine' Car.fnT_mk ?a ?l ?c ?k
   (case a | l | c | k=>k_is)
  have T_Desk:∃ C f0 f1 d0 d1,Car.C_Desk (L2.KOf KX) C f0 f1 d0 d1:=by
   dsimp only [L2.KOf]
   refine' Car.C_Desk_mk ?aC ?a0 ?i0 ?l0 ?c0 ?k0 ?a1 ?i1 ?l1 ?c1 ?k1 ?pg ?hd ?po ?sa ?mk ?kc ?n0 ?n1 ?n2
   (case aC | a0 | i0 | l0 | c0 | k0 | a1 | i1 | l1 | c1 | k1 | pg | hd | po | sa | mk | kc | n0 | n1 | n2=>k_is)
  have T__law_writing:∃ f fd,Car.FnT (L2.KOf KX) "_law_writing" (Car.top 107) f fd:=by
   dsimp only [L2.KOf]
   refine' Car.fnT_mk ?a ?l ?c ?k
   (case a | l | c | k=>k_is)
  have T__law_number:∃ f fd,Car.FnT (L2.KOf KX) "_law_number" (Car.top 108) f fd:=by
   dsimp only [L2.KOf]
   refine' Car.fnT_mk ?a ?l ?c ?k
   (case a | l | c | k=>k_is)
  have T__law_said:∃ f fd,Car.FnT (L2.KOf KX) "_law_said" (Car.top 109) f fd:=by
   dsimp only [L2.KOf]
   refine' Car.fnT_mk ?a ?l ?c ?k
   (case a | l | c | k=>k_is)
  have T__law_at:∃ f fd,Car.FnT (L2.KOf KX) "_law_at" (Car.top 110) f fd:=by
   dsimp only [L2.KOf]
   refine' Car.fnT_mk ?a ?l ?c ?k
   (case a | l | c | k=>k_is)
  have T_law:∃ f fd,Car.FnT (L2.KOf KX) "law" (Car.top 111) f fd:=by
   dsimp only [L2.KOf]
   refine' Car.fnT_mk ?a ?l ?c ?k
   (case a | l | c | k=>k_is)
  have N:Car.NoneT (L2.KOf KX):=by
   dsimp only [L2.KOf]
   refine' ⟨?n0,?n1,?n2,?n3,?n4,?n5,?n6,?n7,?n8,?n9,?n10,?n11,?n12⟩
   (case n0 | n1 | n2 | n3 | n4 | n5 | n6 | n7 | n8 | n9 | n10 | n11 | n12=>k_is)
  have i_MF:∃ t,PySem.W.nsIn (L2.KOf KX) mainGlobals "MOST_FIGURES"=some (some (.int 6 t)):=by
   dsimp only [L2.KOf]
   refine' Car.int_mk ?a
   (case a=>k_is)
  have i_MC:∃ t,PySem.W.nsIn (L2.KOf KX) mainGlobals "MOST_CUTTERS"=some (some (.int 6 t)):=by
   dsimp only [L2.KOf]
   refine' Car.int_mk ?a
   (case a=>k_is)
  have i_FG:∃ t,PySem.W.nsIn (L2.KOf KX) mainGlobals "FIGURES"=some (some (.str Car.figT t)):=by
   dsimp only [L2.KOf]
   refine' Car.str_mk ?a
   (case a=>k_is)
  have i_RA:∃ t,PySem.W.nsIn (L2.KOf KX) mainGlobals "ROW_AHEAD"=some (some (.str "row " t)):=by
   dsimp only [L2.KOf]
   refine' Car.str_mk ?a
   (case a=>k_is)
  have P_SIDES:Car.TpT (L2.KOf KX) "SIDES" 1 40:=by
   dsimp only [L2.KOf]
   refine' Car.tp_mk ?n ?l
   (case n | l=>k_is)
  have P_HEIGHTS:Car.TpT (L2.KOf KX) "HEIGHTS" 0 1000:=by
   dsimp only [L2.KOf]
   refine' Car.tp_mk ?n ?l
   (case n | l=>k_is)
  have P_BITES:Car.TpT (L2.KOf KX) "BITES" 1 1000:=by
   dsimp only [L2.KOf]
   refine' Car.tp_mk ?n ?l
   (case n | l=>k_is)
  have P_REACHES:Car.TpT (L2.KOf KX) "REACHES" 0 2:=by
   dsimp only [L2.KOf]
   refine' Car.tp_mk ?n ?l
   (case n | l=>k_is)
  have ND:Car.NdT PySem.Challenge.rw_carvebed_k57_numbers_at_a_desk.prog w (L2.KOf KX):=by
   dsimp only [L2.KOf]
   refine' Car.nd_mk ?n ?l ?e0 ?e1 ?e2 ?e3 ?e4 ?e5 ?e6 ?hs
   (case n | l=>k_is); (case e0=>rfl); (case e1=>rfl); (case e2=>rfl); (case e3=>rfl); (case e4=>rfl); (case e5=>rfl); (case e6=>rfl); (case hs=>decide)
  have DD:∃ a f1 f2 f3 f4 f5 f6 f7 f8,Car.DoD PySem.Challenge.rw_carvebed_k57_numbers_at_a_desk.prog w (L2.KOf KX) a f1 f2 f3 f4 f5 f6 f7 f8:=by
   dsimp only [L2.KOf]
   refine' Car.do_mk ?n ?l ?e0 ?e1 ?e2 ?e3 ?e4 ?e5 ?e6 ?e7 ?hs ?g1 ?g2 ?g6 ?g8
   (case n | l=>k_is); (case e0=>rfl); (case e1=>rfl); (case e2=>rfl); (case e3=>rfl); (case e4=>rfl); (case e5=>rfl); (case e6=>rfl); (case e7=>rfl); (case hs=>decide); (case g1 | g2 | g6 | g8=>k_is)
  have CA:∃ f m l,Car.CaD (L2.KOf KX) f m l:=by
   dsimp only [L2.KOf]
   refine' Car.ca_mk ?nf ?nm ?nl ?xf ?xm ?xl ?ff ?mf ?mm ?lf ?lm ?ll ?of ?om ?ol
   (case nf | nm | nl | xf | xm | xl | ff | mf | mm | lf | lm | ll | of | om | ol=>k_is)
  have S_NoForm:∃ CN CC,Car.C_Row (L2.KOf KX) "NoForm" CN CC:=by
   dsimp only [L2.KOf]
   refine' Car.C_Row_mk ?a0 ?a1 ?o1 ?o2 ?o3 ?o4 ?u1 ?u2 ?u3 ?u4 ?co ?ex ?su ?e1 ?e2 ?e3 ?e4 ?e5 ?e6 ?e7 ?e8 ?va ?se
   (case a0 | a1 | o1 | o2=>k_is); (case o3=>rfl); (case o4 | u1 | u2=>k_is); (case u3=>rfl); (case u4 | co | ex | su | e1 | e2 | e3 | e4 | e5 | e6 | e7 | e8 | va | se=>k_is)
  have S_NoBed:∃ CN CC,Car.C_Row (L2.KOf KX) "NoBed" CN CC:=by
   dsimp only [L2.KOf]
   refine' Car.C_Row_mk ?a0 ?a1 ?o1 ?o2 ?o3 ?o4 ?u1 ?u2 ?u3 ?u4 ?co ?ex ?su ?e1 ?e2 ?e3 ?e4 ?e5 ?e6 ?e7 ?e8 ?va ?se
   (case a0 | a1 | o1 | o2=>k_is); (case o3=>rfl); (case o4 | u1 | u2=>k_is); (case u3=>rfl); (case u4 | co | ex | su | e1 | e2 | e3 | e4 | e5 | e6 | e7 | e8 | va | se=>k_is)
  have S_NoMeasure:∃ CN CC,Car.C_Row (L2.KOf KX) "NoMeasure" CN CC:=by
   dsimp only [L2.KOf]
   refine' Car.C_Row_mk ?a0 ?a1 ?o1 ?o2 ?o3 ?o4 ?u1 ?u2 ?u3 ?u4 ?co ?ex ?su ?e1 ?e2 ?e3 ?e4 ?e5 ?e6 ?e7 ?e8 ?va ?se
   (case a0 | a1 | o1 | o2=>k_is); (case o3=>rfl); (case o4 | u1 | u2=>k_is); (case u3=>rfl); (case u4 | co | ex | su | e1 | e2 | e3 | e4 | e5 | e6 | e7 | e8 | va | se=>k_is)
  have S_NoCell:∃ CN CC,Car.C_Row (L2.KOf KX) "NoCell" CN CC:=by
   dsimp only [L2.KOf]
   refine' Car.C_Row_mk ?a0 ?a1 ?o1 ?o2 ?o3 ?o4 ?u1 ?u2 ?u3 ?u4 ?co ?ex ?su ?e1 ?e2 ?e3 ?e4 ?e5 ?e6 ?e7 ?e8 ?va ?se
   (case a0 | a1 | o1 | o2=>k_is); (case o3=>rfl); (case o4 | u1 | u2=>k_is); (case u3=>rfl); (case u4 | co | ex | su | e1 | e2 | e3 | e4 | e5 | e6 | e7 | e8 | va | se=>k_is)
  have S_NoCutter:∃ CN CC,Car.C_Row (L2.KOf KX) "NoCutter" CN CC:=by
   dsimp only [L2.KOf]
   refine' Car.C_Row_mk ?a0 ?a1 ?o1 ?o2 ?o3 ?o4 ?u1 ?u2 ?u3 ?u4 ?co ?ex ?su ?e1 ?e2 ?e3 ?e4 ?e5 ?e6 ?e7 ?e8 ?va ?se
   (case a0 | a1 | o1 | o2=>k_is); (case o3=>rfl); (case o4 | u1 | u2=>k_is); (case u3=>rfl); (case u4 | co | ex | su | e1 | e2 | e3 | e4 | e5 | e6 | e7 | e8 | va | se=>k_is)
  exact Car.all KX G hmg N i_MF i_MC i_FG i_RA P_SIDES P_HEIGHTS P_BITES P_REACHES ND DD CA S_NoForm S_NoBed S_NoMeasure S_NoCell S_NoCutter T_is_written_in T_is_number T_within T_cells_under T_places_over T_greatest T_lowest_at T_lowest_over T_told_in T_look_at_measure T_look_at_cell T_look_at_shelf T_lay_bed T_square_foot T_put_cutter T_tell_cell T_tell_low T__law_writing T__law_number T__law_said T__law_at T_law T_Desk
