import PyProof.Rows.All
import KE.KDictWalk
import HandS.TupSets
import HandS.SetBool
import HandS.AnyAll
import HandS.GenList
import HandS.Walk
import HandS.Nested
import PyProof.GenComp
import PyProof.GenArm
import HandS.EndTab
import HandS.ForMost
import KE.SortData
import KE.DataCmp
import PyProof.Transfer
import HandS.Style
import PyProof.SliceMore
import PyProof.SeqIndex
import Wide.All
import OpenK.AllK
import Wide.FinOn
import PySem.Challenge.RW_gapcalls_k54_forests
import HandS.ForMost
import HandS.Wide
import HandS.Codes
import HandS.Walk
import HandS.NoneIn
import HandS.Style
import HandS.IsInst
import HandS.SortOrd
import HandS.SortRule
import KE.LtData
import HandS.ForExc
import HandS.ExcInit
import HandS.ExcField
import HandS.More
import HandS.Deep
import HandS.TupAny
import HandS.TupLe
import HandS.Zip
import KE.GoesZip
import KE.GoesMore
import KE.GoesEnum
import Wide.All
import OpenK.AllK
import Wide.FinOn
import HandS.ForMost
import HandS.DictComp
import HandS.Conv
import HandS.SortKw
import HandS.Walk
import HandS.SortOrd
import KE.DataMinMax
import KE.KDictWalk
import KE.KStateDown
import HandS.Head0
import HandS.Head1
import HandS.Head2
import HandS.HeadEnd
import KE.KNestM
set_option Elab.async false
set_option linter.all false
set_option maxRecDepth 100000
set_option maxHeartbeats 4000000
noncomputable section
namespace Gp
open PySem PySem.Spec PyProof.Rows L2
def topS (i : Nat) : Stmt:=PySem.Challenge.pw_gapcalls_k54_forests.main.body.getD i (.Pass ⟨0,0,0,0⟩)
abbrev s_is_whole_from : Stmt:=topS 8
abbrev s_is_time : Stmt:=topS 9
abbrev s_is_number : Stmt:=topS 10
abbrev s_is_count : Stmt:=topS 11
abbrev s_is_span : Stmt:=topS 12
abbrev s_is_ask_row : Stmt:=topS 13
abbrev s_is_job_row : Stmt:=topS 14
abbrev s_is_all_row : Stmt:=topS 15
abbrev s_is_row : Stmt:=topS 16
abbrev s_is_out_of_order : Stmt:=topS 18
abbrev s_do_asks_clash : Stmt:=topS 19
abbrev s_do_jobs_clash : Stmt:=topS 20
abbrev s_do_job_and_ask_clash : Stmt:=topS 21
abbrev s_does_all_row_clash : Stmt:=topS 22
abbrev s_do_alike_sorts_clash : Stmt:=topS 23
abbrev s_do_clash : Stmt:=topS 24
abbrev s_need_rows : Stmt:=topS 25
abbrev s_need_book : Stmt:=topS 26
abbrev s_gaps_of : Stmt:=topS 29
abbrev s_rows_by_number : Stmt:=topS 30
abbrev s_numbers_below : Stmt:=topS 31
abbrev s_asks_of_house : Stmt:=topS 32
abbrev s_jobs_of_house : Stmt:=topS 33
abbrev s_count_asks : Stmt:=topS 34
abbrev s_count_jobs : Stmt:=topS 35
abbrev s_earliest : Stmt:=topS 36
abbrev s_latest : Stmt:=topS 37
abbrev s_span_of_ask : Stmt:=topS 38
abbrev s_span_of_job : Stmt:=topS 39
abbrev s_more_of : Stmt:=topS 40
abbrev s_made_in : Stmt:=topS 42
abbrev s_jobs_of_trees : Stmt:=topS 43
abbrev s_uppers_of : Stmt:=topS 44
abbrev s_all_uppers : Stmt:=topS 45
abbrev s_forest : Stmt:=topS 46
abbrev s_l_spread : Stmt:=topS 48
abbrev s_l_open : Stmt:=topS 49
abbrev s_l_anew : Stmt:=topS 50
abbrev s_l_take : Stmt:=topS 51
abbrev s_l_names : Stmt:=topS 52
abbrev s_l_town : Stmt:=topS 53
abbrev s_l_room : Stmt:=topS 54
abbrev s_l_job : Stmt:=topS 55
abbrev s_l_world : Stmt:=topS 56
abbrev s_l_called : Stmt:=topS 57
abbrev s_l_bases : Stmt:=topS 58
abbrev s_l_all_rows : Stmt:=topS 59
abbrev s_l_left : Stmt:=topS 60
abbrev s_l_true_pairs : Stmt:=topS 61
abbrev s_l_gated : Stmt:=topS 62
abbrev s_l_tree_book : Stmt:=topS 63
abbrev s_l_known : Stmt:=topS 64
abbrev s_l_above : Stmt:=topS 65
abbrev s_l_tree_jobs : Stmt:=topS 67
abbrev s_l_same : Stmt:=topS 68
abbrev s_l_grown : Stmt:=topS 69
abbrev s_l_chain : Stmt:=topS 70
abbrev s_law : Stmt:=topS 71
abbrev s_i_NoRow : Stmt:=inClass (topS 2) 0
abbrev s_i_Clash : Stmt:=inClass (topS 3) 0
abbrev s_i_Gaps : Stmt:=inClass (topS 28) 0
end Gp
end
noncomputable section
namespace Gp
open PySem PySem.Spec PyProof.Rows L2
/-! ### the head by one run: what of the heap the walk reads -/
abbrev Ob:=PySem.Obj
abbrev kT : Ob:=.mk (.type "tuple") none (.seq #[] 0) #[]
abbrev kE (P : PySem.Params) (x : PySem.Str) (n : Nat) (v : PySem.Value) : PySem.DictEntry:=.mk (PySem.PyData.keyHash P x) (.str x n) v
abbrev kF (x y : PySem.Str) (s : PySem.Stmt) (m : PySem.Str) (n c : Nat) : PySem.Obj:=.mk (.type "function") none (.func (.mk x y (defArgs s) (.stmts (defBody s)) (defScope s) 3 [] .none .none .none (.str m n) none (.ref c) .none 0)) #[]
abbrev kC (x : PySem.Str) (a : Nat) (y : PySem.Str) (b : Nat) (z : PySem.Str) (c : Nat) (d e : Int) (f : Nat) (u : Int) (g h i j : Nat) (k : Int) (l : Nat) : PySem.Obj:=.mk (.type "code") none (.fields #[(.str x a),(.str y b),(.str z c),(.int d 0),(.int e 0),(.int 0 0),(.int 0 0),(.int 3 0),(.ref f),(.bool .true),(.int u 0),(.ref g),.none,(.ref h),(.ref i),(.ref j),(.int k 0),(.int d 0),(.str z l)]) #[]
abbrev kN : Ob:=.mk .none none (.fields #[]) #[]
abbrev kU (v : Array PySem.Value) : Ob:=.mk (.type "tuple") none (.seq v 0) #[]
abbrev kG (x y : PySem.Str) (s : PySem.Stmt) : Ob:=.mk .none none (.func (.mk x y (defArgs s) (.stmts (defBody s)) (defScope s) 0 [] .none .none .none .none none .none .none 0)) #[]
abbrev kX (x : PySem.Str) (a : Nat) (y : PySem.Str) (b : Nat) (c : Nat) (d e d1 d2 d3 : Int) (f : Nat) (t : PySem.Value) (u : Int) (g : Nat) (v1 v2 v3 v4 : PySem.Value) (k : Int) (l : Nat) : Ob:=.mk (.type "code") none (.fields #[(.str x a),(.str y b),(.str "/claim/cut.py" c),(.int d 0),(.int e 0),(.int d1 0),(.int d2 0),(.int d3 0),(.ref f),t,(.int u 0),(.ref g),v1,v2,v3,v4,(.int k 0),(.int d 0),(.str "/claim/cut.py" l)]) #[]
def o0 (P : PySem.Params) : Ob:=(.mk (.type "dict") none (.dict #[(kE P "__name__" 1 (.str "builtins" 160)),(kE P "__doc__" 2 (.builtin "builtins.__doc__:str#opaque")),(kE P "__package__" 3 (.builtin "builtins.__package__:str#opaque")),(kE P "__loader__" 4 (.builtin "builtins.__loader__:shared#opaque")),(kE P "__spec__" 5 (.builtin "builtins.__spec__#opaque")),(kE P "__build_class__" 6 (.builtin "__build_class__")),(kE P "__import__" 7 (.builtin "__import__")),(kE P "abs" 8 (.builtin "abs")),(kE P "all" 9 (.builtin "all")),(kE P "any" 10 (.builtin "any")),(kE P "ascii" 11 (.builtin "ascii")),(kE P "bin" 12 (.builtin "bin")),(kE P "breakpoint" 13 (.builtin "breakpoint")),(kE P "callable" 14 (.builtin "callable")),(kE P "chr" 15 (.builtin "chr")),(kE P "compile" 16 (.builtin "compile")),(kE P "delattr" 17 (.builtin "delattr")),(kE P "dir" 18 (.builtin "dir")),(kE P "divmod" 19 (.builtin "divmod")),(kE P "eval" 20 (.builtin "eval")),(kE P "exec" 21 (.builtin "exec")),(kE P "format" 22 (.builtin "format")),(kE P "getattr" 23 (.builtin "getattr")),(kE P "globals" 24 (.builtin "globals")),(kE P "hasattr" 25 (.builtin "hasattr")),(kE P "hash" 26 (.builtin "hash")),(kE P "hex" 27 (.builtin "hex")),(kE P "id" 28 (.builtin "id")),(kE P "input" 29 (.builtin "input")),(kE P "isinstance" 30 (.builtin "isinstance")),(kE P "issubclass" 31 (.builtin "issubclass")),(kE P "iter" 32 (.builtin "iter")),(kE P "aiter" 33 (.builtin "aiter")),(kE P "len" 34 (.builtin "len")),(kE P "locals" 35 (.builtin "locals")),(kE P "max" 36 (.builtin "max")),(kE P "min" 37 (.builtin "min")),(kE P "next" 38 (.builtin "next")),(kE P "anext" 39 (.builtin "anext")),(kE P "oct" 40 (.builtin "oct")),(kE P "ord" 41 (.builtin "ord")),(kE P "pow" 42 (.builtin "pow")),(kE P "print" 43 (.builtin "print")),(kE P "repr" 44 (.builtin "repr")),(kE P "round" 45 (.builtin "round")),(kE P "setattr" 46 (.builtin "setattr")),(kE P "sorted" 47 (.builtin "sorted")),(kE P "sum" 48 (.builtin "sum")),(kE P "vars" 49 (.builtin "vars")),(kE P "None" 50 .none),(kE P "Ellipsis" 51 .ellipsis),(kE P "NotImplemented" 52 .notImplemented),(kE P "False" 53 (.bool .false)),(kE P "True" 54 (.bool .true)),(kE P "bool" 55 (.type "bool")),(kE P "memoryview" 56 (.type "memoryview")),(kE P "bytearray" 57 (.type "bytearray")),(kE P "bytes" 58 (.type "bytes")),(kE P "classmethod" 59 (.type "classmethod")),(kE P "complex" 60 (.type "complex")),(kE P "dict" 61 (.type "dict")),(kE P "enumerate" 62 (.type "enumerate")),(kE P "filter" 63 (.type "filter")),(kE P "float" 64 (.type "float")),(kE P "frozenset" 65 (.type "frozenset")),(kE P "property" 66 (.type "property")),(kE P "int" 67 (.type "int")),(kE P "list" 68 (.type "list")),(kE P "map" 69 (.type "map")),(kE P "object" 70 (.type "object")),(kE P "range" 71 (.type "range")),(kE P "reversed" 72 (.type "reversed")),(kE P "set" 73 (.type "set")),(kE P "slice" 74 (.type "slice")),(kE P "staticmethod" 75 (.type "staticmethod")),(kE P "str" 76 (.type "str")),(kE P "super" 77 (.type "super")),(kE P "tuple" 78 (.type "tuple")),(kE P "type" 79 (.type "type")),(kE P "zip" 80 (.type "zip")),(kE P "__debug__" 81 (.bool .true)),(kE P "BaseException" 82 (.type "BaseException")),(kE P "BaseExceptionGroup" 83 (.type "BaseExceptionGroup")),(kE P "Exception" 84 (.type "Exception")),(kE P "GeneratorExit" 85 (.type "GeneratorExit")),(kE P "KeyboardInterrupt" 86 (.type "KeyboardInterrupt")),(kE P "SystemExit" 87 (.type "SystemExit")),(kE P "ArithmeticError" 88 (.type "ArithmeticError")),(kE P "AssertionError" 89 (.type "AssertionError")),(kE P "AttributeError" 90 (.type "AttributeError")),(kE P "BufferError" 91 (.type "BufferError")),(kE P "EOFError" 92 (.type "EOFError")),(kE P "ImportError" 93 (.type "ImportError")),(kE P "LookupError" 94 (.type "LookupError")),(kE P "MemoryError" 95 (.type "MemoryError")),(kE P "NameError" 96 (.type "NameError")),(kE P "OSError" 97 (.type "OSError")),(kE P "ReferenceError" 98 (.type "ReferenceError")),(kE P "RuntimeError" 99 (.type "RuntimeError")),(kE P "StopAsyncIteration" 100 (.type "StopAsyncIteration")),(kE P "StopIteration" 101 (.type "StopIteration")),(kE P "SyntaxError" 102 (.type "SyntaxError")),(kE P "SystemError" 103 (.type "SystemError")),(kE P "TypeError" 104 (.type "TypeError")),(kE P "ValueError" 105 (.type "ValueError")),(kE P "Warning" 106 (.type "Warning")),(kE P "FloatingPointError" 107 (.type "FloatingPointError")),(kE P "OverflowError" 108 (.type "OverflowError")),(kE P "ZeroDivisionError" 109 (.type "ZeroDivisionError")),(kE P "BytesWarning" 110 (.type "BytesWarning")),(kE P "DeprecationWarning" 111 (.type "DeprecationWarning")),(kE P "EncodingWarning" 112 (.type "EncodingWarning")),(kE P "FutureWarning" 113 (.type "FutureWarning")),(kE P "ImportWarning" 114 (.type "ImportWarning")),(kE P "PendingDeprecationWarning" 115 (.type "PendingDeprecationWarning")),(kE P "ResourceWarning" 116 (.type "ResourceWarning")),(kE P "RuntimeWarning" 117 (.type "RuntimeWarning")),(kE P "SyntaxWarning" 118 (.type "SyntaxWarning")),(kE P "UnicodeWarning" 119 (.type "UnicodeWarning")),(kE P "UserWarning" 120 (.type "UserWarning")),(kE P "BlockingIOError" 121 (.type "BlockingIOError")),(kE P "ChildProcessError" 122 (.type "ChildProcessError")),(kE P "ConnectionError" 123 (.type "ConnectionError")),(kE P "FileExistsError" 124 (.type "FileExistsError")),(kE P "FileNotFoundError" 125 (.type "FileNotFoundError")),(kE P "InterruptedError" 126 (.type "InterruptedError")),(kE P "IsADirectoryError" 127 (.type "IsADirectoryError")),(kE P "NotADirectoryError" 128 (.type "NotADirectoryError")),(kE P "PermissionError" 129 (.type "PermissionError")),(kE P "ProcessLookupError" 130 (.type "ProcessLookupError")),(kE P "TimeoutError" 131 (.type "TimeoutError")),(kE P "IndentationError" 132 (.type "IndentationError")),(kE P "_IncompleteInputError" 133 (.type "_IncompleteInputError")),(kE P "IndexError" 134 (.type "IndexError")),(kE P "KeyError" 135 (.type "KeyError")),(kE P "ModuleNotFoundError" 136 (.type "ModuleNotFoundError")),(kE P "NotImplementedError" 137 (.type "NotImplementedError")),(kE P "PythonFinalizationError" 138 (.type "PythonFinalizationError")),(kE P "RecursionError" 139 (.type "RecursionError")),(kE P "UnboundLocalError" 140 (.type "UnboundLocalError")),(kE P "UnicodeError" 141 (.type "UnicodeError")),(kE P "BrokenPipeError" 142 (.type "BrokenPipeError")),(kE P "ConnectionAbortedError" 143 (.type "ConnectionAbortedError")),(kE P "ConnectionRefusedError" 144 (.type "ConnectionRefusedError")),(kE P "ConnectionResetError" 145 (.type "ConnectionResetError")),(kE P "TabError" 146 (.type "TabError")),(kE P "UnicodeDecodeError" 147 (.type "UnicodeDecodeError")),(kE P "UnicodeEncodeError" 148 (.type "UnicodeEncodeError")),(kE P "UnicodeTranslateError" 149 (.type "UnicodeTranslateError")),(kE P "ExceptionGroup" 150 (.type "ExceptionGroup")),(kE P "EnvironmentError" 151 (.type "OSError")),(kE P "IOError" 152 (.type "OSError")),(kE P "open" 153 (.builtin "open")),(kE P "quit" 154 (.builtin "builtins.quit#opaque")),(kE P "exit" 155 (.builtin "builtins.exit#opaque")),(kE P "copyright" 156 (.builtin "builtins.copyright#opaque")),(kE P "credits" 157 (.builtin "builtins.credits#opaque")),(kE P "license" 158 (.builtin "builtins.license#opaque")),(kE P "help" 159 (.builtin "builtins.help#opaque"))] 159) #[])
def o1 (P : PySem.Params) : Ob:=(.mk (.type "dict") none (.dict #[(kE P "builtins" 162 (.ref 4)),(kE P "__main__" 163 (.ref 5))] 2) #[])
def o2 : Ob:=(.mk .none none (.dict #[] 0) #[])
def o3 (P : PySem.Params) : Ob:=(.mk (.type "dict") none (.dict #[(kE P "__name__" 165 (.str "law_gapcalls_k54_forests" 604)),(kE P "__doc__" 166 .none),(kE P "__package__" 167 .none),(kE P "__loader__" 168 (.builtin "__main__.__loader__#opaque")),(kE P "__spec__" 169 .none),(kE P "__annotations__" 170 (.ref 6)),(kE P "__builtins__" 171 (.ref 4)),(kE P "__file__" 173 (.str "/claim/cut.py" 172)),(kE P "__cached__" 174 .none),(kE P "CallError" 206 (.ref 24)),(kE P "NoRow" 231 (.ref 44)),(kE P "Clash" 258 (.ref 63)),(kE P "MOST_TIME" 264 (.int 1000000000000 263)),(kE P "MOST_NUMBER" 266 (.int 14 265)),(kE P "MOST_COUNT" 268 (.int 15 267)),(kE P "is_whole_from" 277 (.ref 72)),(kE P "is_time" 284 (.ref 79)),(kE P "is_number" 291 (.ref 86)),(kE P "is_count" 298 (.ref 93)),(kE P "is_span" 306 (.ref 100)),(kE P "is_ask_row" 321 (.ref 107)),(kE P "is_job_row" 334 (.ref 114)),(kE P "is_all_row" 346 (.ref 121)),(kE P "is_row" 355 (.ref 128)),(kE P "is_out_of_order" 367 (.ref 135)),(kE P "do_asks_clash" 379 (.ref 142)),(kE P "do_jobs_clash" 391 (.ref 149)),(kE P "do_job_and_ask_clash" 405 (.ref 156)),(kE P "does_all_row_clash" 415 (.ref 163)),(kE P "do_alike_sorts_clash" 423 (.ref 170)),(kE P "do_clash" 431 (.ref 177)),(kE P "need_rows" 441 (.ref 184)),(kE P "need_book" 451 (.ref 191)),(kE P "Gaps" 488 (.ref 206)),(kE P "gaps_of" 496 (.ref 217)),(kE P "rows_by_number" 502 (.ref 222)),(kE P "numbers_below" 508 (.ref 227)),(kE P "asks_of_house" 514 (.ref 232)),(kE P "jobs_of_house" 520 (.ref 237)),(kE P "count_asks" 526 (.ref 242)),(kE P "count_jobs" 532 (.ref 247)),(kE P "earliest" 539 (.ref 254)),(kE P "latest" 546 (.ref 261)),(kE P "span_of_ask" 552 (.ref 266)),(kE P "span_of_job" 558 (.ref 271)),(kE P "more_of" 564 (.ref 276)),(kE P "made_in" 575 (.ref 283)),(kE P "jobs_of_trees" 581 (.ref 288)),(kE P "uppers_of" 587 (.ref 293)),(kE P "all_uppers" 597 (.ref 300)),(kE P "forest" 603 (.ref 305)),(kE P "_law_spread" 616 (.ref 312)),(kE P "_law_open" 626 (.ref 319)),(kE P "_law_anew" 633 (.ref 326)),(kE P "_law_take" 644 (.ref 333)),(kE P "_law_names" 650 (.ref 338)),(kE P "_law_town" 656 (.ref 343)),(kE P "_law_room" 662 (.ref 348)),(kE P "_law_job" 682 (.ref 355)),(kE P "_law_world" 698 (.ref 362)),(kE P "_law_called" 704 (.ref 367)),(kE P "_law_bases" 710 (.ref 372)),(kE P "_law_all_rows" 716 (.ref 377)),(kE P "_law_left" 729 (.ref 384)),(kE P "_law_true_pairs" 735 (.ref 389)),(kE P "_law_gated" 744 (.ref 396)),(kE P "_law_tree_book" 757 (.ref 403)),(kE P "_law_known" 768 (.ref 410)),(kE P "_law_above" 779 (.ref 417)),(kE P "_law_all_above" 790 (.ref 424)),(kE P "_law_tree_jobs" 796 (.ref 429)),(kE P "_law_same" 806 (.ref 436)),(kE P "_law_grown" 819 (.ref 443)),(kE P "_law_chain" 825 (.ref 448)),(kE P "law" 840 (.ref 455))] 75) #[])
def o4 : Ob:=(.mk (.type "module") (some 0) .plain #[])
def o5 : Ob:=(.mk (.type "module") (some 3) .plain #[])
def o6 : Ob:=(.mk (.type "dict") none (.dict #[] 0) #[])
def o9 : Ob:=(kX "<module>" 176 "<module>" 177 178 1 0 0 0 0 7 (.bool .false) 175 8 .none .none .none .none 179 180)
def o10 : Ob:=(.mk (.type "frame") none .plain #[(some (.ref 9)),(some (.ref 3)),(some (.ref 3)),none,(some (.str "__main__" 164)),none,(some (.ref 0))])
def o12 : Ob:=(.mk .none none (.fields #[(.int 2 0),(.int 0 0),(.ref 20),(.int 4 0),(.int 0 0),(.ref 33),(.int 8 0),(.int 0 0),(.ref 52),(.int 17 0),(.int 0 0),(.ref 71),(.int 21 0),(.int 0 0),(.ref 78),(.int 23 0),(.int 0 0),(.ref 85),(.int 25 0),(.int 0 0),(.ref 92),(.int 27 0),(.int 0 0),(.ref 99),(.int 29 0),(.int 0 0),(.ref 106),(.int 36 0),(.int 0 0),(.ref 113),(.int 43 0),(.int 0 0),(.ref 120),(.int 50 0),(.int 0 0),(.ref 127),(.int 56 0),(.int 0 0),(.ref 134),(.int 60 0),(.int 0 0),(.ref 141),(.int 64 0),(.int 0 0),(.ref 148),(.int 68 0),(.int 0 0),(.ref 155),(.int 74 0),(.int 0 0),(.ref 162),(.int 79 0),(.int 0 0),(.ref 169),(.int 85 0),(.int 0 0),(.ref 176),(.int 97 0),(.int 0 0),(.ref 183),(.int 101 0),(.int 0 0),(.ref 190),(.int 108 0),(.int 0 0),(.ref 197),(.int 120 0),(.int 0 0),(.ref 216),(.int 123 0),(.int 0 0),(.ref 221),(.int 125 0),(.int 0 0),(.ref 226),(.int 127 0),(.int 0 0),(.ref 231),(.int 129 0),(.int 0 0),(.ref 236),(.int 131 0),(.int 0 0),(.ref 241),(.int 135 0),(.int 0 0),(.ref 246),(.int 141 0),(.int 0 0),(.ref 253),(.int 143 0),(.int 0 0),(.ref 260),(.int 145 0),(.int 0 0),(.ref 265),(.int 151 0),(.int 0 0),(.ref 270),(.int 160 0),(.int 0 0),(.ref 275),(.int 165 0),(.int 0 0),(.ref 282),(.int 168 0),(.int 0 0),(.ref 287),(.int 170 0),(.int 0 0),(.ref 292),(.int 172 0),(.int 0 0),(.ref 299),(.int 179 0),(.int 0 0),(.ref 304),(.int 195 0),(.int 0 0),(.ref 311),(.int 202 0),(.int 0 0),(.ref 318),(.int 207 0),(.int 0 0),(.ref 325),(.int 210 0),(.int 0 0),(.ref 332),(.int 223 0),(.int 0 0),(.ref 337),(.int 236 0),(.int 0 0),(.ref 342),(.int 242 0),(.int 0 0),(.ref 347),(.int 246 0),(.int 0 0),(.ref 354),(.int 263 0),(.int 0 0),(.ref 361),(.int 273 0),(.int 0 0),(.ref 366),(.int 284 0),(.int 0 0),(.ref 371),(.int 287 0),(.int 0 0),(.ref 376),(.int 299 0),(.int 0 0),(.ref 383),(.int 308 0),(.int 0 0),(.ref 388),(.int 316 0),(.int 0 0),(.ref 395),(.int 321 0),(.int 0 0),(.ref 402),(.int 326 0),(.int 0 0),(.ref 409),(.int 332 0),(.int 0 0),(.ref 416),(.int 337 0),(.int 0 0),(.ref 423),(.int 344 0),(.int 0 0),(.ref 428),(.int 347 0),(.int 0 0),(.ref 435),(.int 366 0),(.int 0 0),(.ref 442),(.int 372 0),(.int 0 0),(.ref 447),(.int 382 0),(.int 0 0),(.ref 454)]) #[])
def o13 : Ob:=(kX "<module>" 182 "<module>" 183 184 1 0 0 0 0 11 (.bool .false) 181 12 .none .none .none .none 185 186)
def o14 : Ob:=(.mk (.type "frame") none .plain #[(some (.ref 13)),(some (.ref 3)),(some (.ref 3)),none,(some (.str "__main__" 164)),none,(some (.ref 0))])
def o15 : Ob:=(kU #[(.type "ValueError")])
def o16 : Ob:=(.mk (.type "builtin_function_or_method") none (.fields #[(.builtin "type.__prepare__"),(.type "type")]) #[])
def o17 (P : PySem.Params) : Ob:=(.mk (.type "dict") none (.dict #[(kE P "__module__" 196 (.str "gapcalls.errors" 187)),(kE P "__qualname__" 198 (.str "CallError" 197)),(kE P "__firstlineno__" 200 (.int 2 199)),(kE P "__static_attributes__" 201 (.ref 22))] 4) #[])
def o20 : Ob:=(kX "CallError" 191 "CallError" 192 193 2 0 0 0 0 18 (.bool .false) 181 19 .none .none .none .none 194 195)
def o21 : Ob:=(.mk (.type "frame") none .plain #[(some (.ref 20)),(some (.ref 3)),(some (.ref 17)),none,(some (.str "gapcalls.errors" 187)),none,(some (.ref 0))])
def o23 (P : PySem.Params) : Ob:=(.mk (.type "dict") none (.dict #[(kE P "__module__" 196 (.str "gapcalls.errors" 187)),(kE P "__firstlineno__" 200 (.int 2 199)),(kE P "__static_attributes__" 201 (.ref 22)),(kE P "__weakref__" 203 (.ref 25)),(kE P "__doc__" 204 .none)] 3) #[])
def o24 : Ob:=(.mk (.type "type") none (.cls (.mk "CallError" [(.type "ValueError")] [(.ref 24),(.type "ValueError"),(.type "Exception"),(.type "BaseException"),(.type "object")] 23 "CallError" .true [] [(.ref 44),(.ref 63)] .false none .false)) #[(some (.ref 15)),none,(some (.str "CallError" 189)),(some (.str "CallError" 197)),(some (.builtin "ValueError.__new__")),(some (.bool .true))])
def o25 : Ob:=(.mk (.type "getset_descriptor") none (.fields #[(.str "__weakref__" 202),(.ref 24),(.builtin "ExceptionGroup.__weakref__"),.none]) #[])
def o26 : Ob:=(.mk (.type "super") none (.fields #[(.ref 24),(.ref 24),(.ref 24)]) #[])
def o27 : Ob:=(.mk (.type "builtin_function_or_method") none (.fields #[(.builtin "object.__init_subclass__"),(.ref 24)]) #[])
def o28 : Ob:=(kU #[(.ref 24)])
def o29 : Ob:=(.mk (.type "builtin_function_or_method") none (.fields #[(.builtin "type.__prepare__"),(.type "type")]) #[])
def o30 (P : PySem.Params) : Ob:=(.mk (.type "dict") none (.dict #[(kE P "__module__" 214 (.str "gapcalls.errors" 187)),(kE P "__qualname__" 216 (.str "NoRow" 215)),(kE P "__firstlineno__" 218 (.int 4 217)),(kE P "__init__" 226 (.ref 41)),(kE P "__static_attributes__" 228 (.ref 42))] 5) #[])
def o32 : Ob:=(.mk .none none (.fields #[(.int 6 0),(.int 4 0),(.ref 40)]) #[])
def o33 : Ob:=(kX "NoRow" 209 "NoRow" 210 211 4 0 0 0 0 31 (.bool .false) 181 32 .none .none .none .none 212 213)
def o34 : Ob:=(.mk (.type "frame") none .plain #[(some (.ref 33)),(some (.ref 3)),(some (.ref 30)),none,(some (.str "gapcalls.errors" 187)),none,(some (.ref 0))])
def o37 : Ob:=(kU #[(.str "self" 222),(.str "number" 223)])
def o39 : Ob:=(kG "__init__" "NoRow.__init__" Gp.s_i_NoRow)
def o40 : Ob:=(kC "__init__" 219 "NoRow.__init__" 220 "/claim/cut.py" 221 6 2 35 181 36 37 38 39 224 225)
def o41 : Ob:=(kF "__init__" "NoRow.__init__" Gp.s_i_NoRow "gapcalls.errors" 187 40)
def o42 : Ob:=(kU #[(.str "number" 227)])
def o43 (P : PySem.Params) : Ob:=(.mk (.type "dict") none (.dict #[(kE P "__module__" 214 (.str "gapcalls.errors" 187)),(kE P "__firstlineno__" 218 (.int 4 217)),(kE P "__init__" 226 (.ref 41)),(kE P "__static_attributes__" 228 (.ref 42)),(kE P "__doc__" 229 .none)] 2) #[])
def o44 : Ob:=(.mk (.type "type") none (.cls (.mk "NoRow" [(.ref 24)] [(.ref 44),(.ref 24),(.type "ValueError"),(.type "Exception"),(.type "BaseException"),(.type "object")] 43 "NoRow" .true [] [] .false none .false)) #[(some (.ref 28)),none,(some (.str "NoRow" 207)),(some (.str "NoRow" 215)),(some (.builtin "ValueError.__new__")),(some (.bool .true))])
def o45 : Ob:=(.mk (.type "super") none (.fields #[(.ref 44),(.ref 44),(.ref 44)]) #[])
def o46 : Ob:=(.mk (.type "builtin_function_or_method") none (.fields #[(.builtin "object.__init_subclass__"),(.ref 44)]) #[])
def o47 : Ob:=(kU #[(.ref 24)])
def o48 : Ob:=(.mk (.type "builtin_function_or_method") none (.fields #[(.builtin "type.__prepare__"),(.type "type")]) #[])
def o49 (P : PySem.Params) : Ob:=(.mk (.type "dict") none (.dict #[(kE P "__module__" 239 (.str "gapcalls.errors" 187)),(kE P "__qualname__" 241 (.str "Clash" 240)),(kE P "__firstlineno__" 243 (.int 8 242)),(kE P "__init__" 252 (.ref 60)),(kE P "__static_attributes__" 255 (.ref 61))] 5) #[])
def o51 : Ob:=(.mk .none none (.fields #[(.int 10 0),(.int 4 0),(.ref 59)]) #[])
def o52 : Ob:=(kX "Clash" 234 "Clash" 235 236 8 0 0 0 0 50 (.bool .false) 181 51 .none .none .none .none 237 238)
def o53 : Ob:=(.mk (.type "frame") none .plain #[(some (.ref 52)),(some (.ref 3)),(some (.ref 49)),none,(some (.str "gapcalls.errors" 187)),none,(some (.ref 0))])
def o56 : Ob:=(kU #[(.str "self" 247),(.str "first" 248),(.str "second" 249)])
def o58 : Ob:=(kG "__init__" "Clash.__init__" Gp.s_i_Clash)
def o59 : Ob:=(kC "__init__" 244 "Clash.__init__" 245 "/claim/cut.py" 246 10 3 54 181 55 56 57 58 250 251)
def o60 : Ob:=(kF "__init__" "Clash.__init__" Gp.s_i_Clash "gapcalls.errors" 187 59)
def o61 : Ob:=(kU #[(.str "first" 253),(.str "second" 254)])
def o62 (P : PySem.Params) : Ob:=(.mk (.type "dict") none (.dict #[(kE P "__module__" 239 (.str "gapcalls.errors" 187)),(kE P "__firstlineno__" 243 (.int 8 242)),(kE P "__init__" 252 (.ref 60)),(kE P "__static_attributes__" 255 (.ref 61)),(kE P "__doc__" 256 .none)] 2) #[])
def o63 : Ob:=(.mk (.type "type") none (.cls (.mk "Clash" [(.ref 24)] [(.ref 63),(.ref 24),(.type "ValueError"),(.type "Exception"),(.type "BaseException"),(.type "object")] 62 "Clash" .true [] [] .false none .false)) #[(some (.ref 47)),none,(some (.str "Clash" 232)),(some (.str "Clash" 240)),(some (.builtin "ValueError.__new__")),(some (.bool .true))])
def o64 : Ob:=(.mk (.type "super") none (.fields #[(.ref 63),(.ref 63),(.ref 63)]) #[])
def o65 : Ob:=(.mk (.type "builtin_function_or_method") none (.fields #[(.builtin "object.__init_subclass__"),(.ref 63)]) #[])
def o68 : Ob:=(kU #[(.str "thing" 272),(.str "low" 273),(.str "high" 274)])
def o70 : Ob:=(kG "is_whole_from" "is_whole_from" Gp.s_is_whole_from)
def o71 : Ob:=(kC "is_whole_from" 269 "is_whole_from" 270 "/claim/cut.py" 271 17 3 66 181 67 68 69 70 275 276)
def o72 : Ob:=(kF "is_whole_from" "is_whole_from" Gp.s_is_whole_from "gapcalls.rows" 259 71)
def o75 : Ob:=(kU #[(.str "thing" 281)])
def o77 : Ob:=(kG "is_time" "is_time" Gp.s_is_time)
def o78 : Ob:=(kC "is_time" 278 "is_time" 279 "/claim/cut.py" 280 21 1 73 181 74 75 76 77 282 283)
def o79 : Ob:=(kF "is_time" "is_time" Gp.s_is_time "gapcalls.rows" 259 78)
def o82 : Ob:=(kU #[(.str "thing" 288)])
def o84 : Ob:=(kG "is_number" "is_number" Gp.s_is_number)
def o85 : Ob:=(kC "is_number" 285 "is_number" 286 "/claim/cut.py" 287 23 1 80 181 81 82 83 84 289 290)
def o86 : Ob:=(kF "is_number" "is_number" Gp.s_is_number "gapcalls.rows" 259 85)
def o89 : Ob:=(kU #[(.str "thing" 295)])
def o91 : Ob:=(kG "is_count" "is_count" Gp.s_is_count)
def o92 : Ob:=(kC "is_count" 292 "is_count" 293 "/claim/cut.py" 294 25 1 87 181 88 89 90 91 296 297)
def o93 : Ob:=(kF "is_count" "is_count" Gp.s_is_count "gapcalls.rows" 259 92)
def o96 : Ob:=(kU #[(.str "low" 302),(.str "high" 303)])
def o98 : Ob:=(kG "is_span" "is_span" Gp.s_is_span)
def o99 : Ob:=(kC "is_span" 299 "is_span" 300 "/claim/cut.py" 301 27 2 94 181 95 96 97 98 304 305)
def o100 : Ob:=(kF "is_span" "is_span" Gp.s_is_span "gapcalls.rows" 259 99)
def o103 : Ob:=(kU #[(.str "houses" 310),(.str "thing" 311),(.str "word" 312),(.str "house" 313),(.str "number" 314),(.str "job" 315),(.str "asked" 316),(.str "out" 317),(.str "back" 318)])
def o105 : Ob:=(kG "is_ask_row" "is_ask_row" Gp.s_is_ask_row)
def o106 : Ob:=(kC "is_ask_row" 307 "is_ask_row" 308 "/claim/cut.py" 309 29 2 101 181 102 103 104 105 319 320)
def o107 : Ob:=(kF "is_ask_row" "is_ask_row" Gp.s_is_ask_row "gapcalls.rows" 259 106)
def o110 : Ob:=(kU #[(.str "houses" 325),(.str "thing" 326),(.str "word" 327),(.str "house" 328),(.str "number" 329),(.str "begin" 330),(.str "end" 331)])
def o112 : Ob:=(kG "is_job_row" "is_job_row" Gp.s_is_job_row)
def o113 : Ob:=(kC "is_job_row" 322 "is_job_row" 323 "/claim/cut.py" 324 36 2 108 181 109 110 111 112 332 333)
def o114 : Ob:=(kF "is_job_row" "is_job_row" Gp.s_is_job_row "gapcalls.rows" 259 113)
def o117 : Ob:=(kU #[(.str "houses" 338),(.str "thing" 339),(.str "word" 340),(.str "house" 341),(.str "asks" 342),(.str "jobs" 343)])
def o119 : Ob:=(kG "is_all_row" "is_all_row" Gp.s_is_all_row)
def o120 : Ob:=(kC "is_all_row" 335 "is_all_row" 336 "/claim/cut.py" 337 43 2 115 181 116 117 118 119 344 345)
def o121 : Ob:=(kF "is_all_row" "is_all_row" Gp.s_is_all_row "gapcalls.rows" 259 120)
def o124 : Ob:=(kU #[(.str "town" 350),(.str "thing" 351),(.str "houses" 352)])
def o126 : Ob:=(kG "is_row" "is_row" Gp.s_is_row)
def o127 : Ob:=(kC "is_row" 347 "is_row" 348 "/claim/cut.py" 349 50 2 122 181 123 124 125 126 353 354)
def o128 : Ob:=(kF "is_row" "is_row" Gp.s_is_row "gapcalls.rows" 259 127)
def o131 : Ob:=(kU #[(.str "number" 361),(.str "time" 362),(.str "other_number" 363),(.str "other_time" 364)])
def o133 : Ob:=(kG "is_out_of_order" "is_out_of_order" Gp.s_is_out_of_order)
def o134 : Ob:=(kC "is_out_of_order" 358 "is_out_of_order" 359 "/claim/cut.py" 360 56 4 129 181 130 131 132 133 365 366)
def o135 : Ob:=(kF "is_out_of_order" "is_out_of_order" Gp.s_is_out_of_order "gapcalls.clash" 356 134)
def o138 : Ob:=(kU #[(.str "one" 371),(.str "other" 372),(.str "number" 373),(.str "out" 374),(.str "other_number" 375),(.str "other_out" 376)])
def o140 : Ob:=(kG "do_asks_clash" "do_asks_clash" Gp.s_do_asks_clash)
def o141 : Ob:=(kC "do_asks_clash" 368 "do_asks_clash" 369 "/claim/cut.py" 370 60 2 136 181 137 138 139 140 377 378)
def o142 : Ob:=(kF "do_asks_clash" "do_asks_clash" Gp.s_do_asks_clash "gapcalls.clash" 356 141)
def o145 : Ob:=(kU #[(.str "one" 383),(.str "other" 384),(.str "number" 385),(.str "begin" 386),(.str "other_number" 387),(.str "other_begin" 388)])
def o147 : Ob:=(kG "do_jobs_clash" "do_jobs_clash" Gp.s_do_jobs_clash)
def o148 : Ob:=(kC "do_jobs_clash" 380 "do_jobs_clash" 381 "/claim/cut.py" 382 64 2 143 181 144 145 146 147 389 390)
def o149 : Ob:=(kF "do_jobs_clash" "do_jobs_clash" Gp.s_do_jobs_clash "gapcalls.clash" 356 148)
def o152 : Ob:=(kU #[(.str "job" 395),(.str "ask" 396),(.str "number" 397),(.str "begin" 398),(.str "end" 399),(.str "made_in" 400),(.str "out" 401),(.str "back" 402)])
def o154 : Ob:=(kG "do_job_and_ask_clash" "do_job_and_ask_clash" Gp.s_do_job_and_ask_clash)
def o155 : Ob:=(kC "do_job_and_ask_clash" 392 "do_job_and_ask_clash" 393 "/claim/cut.py" 394 68 2 150 181 151 152 153 154 403 404)
def o156 : Ob:=(kF "do_job_and_ask_clash" "do_job_and_ask_clash" Gp.s_do_job_and_ask_clash "gapcalls.clash" 356 155)
def o159 : Ob:=(kU #[(.str "all_row" 409),(.str "other" 410),(.str "asks" 411),(.str "jobs" 412)])
def o161 : Ob:=(kG "does_all_row_clash" "does_all_row_clash" Gp.s_does_all_row_clash)
def o162 : Ob:=(kC "does_all_row_clash" 406 "does_all_row_clash" 407 "/claim/cut.py" 408 74 2 157 181 158 159 160 161 413 414)
def o163 : Ob:=(kF "does_all_row_clash" "does_all_row_clash" Gp.s_does_all_row_clash "gapcalls.clash" 356 162)
def o166 : Ob:=(kU #[(.str "one" 419),(.str "other" 420)])
def o168 : Ob:=(kG "do_alike_sorts_clash" "do_alike_sorts_clash" Gp.s_do_alike_sorts_clash)
def o169 : Ob:=(kC "do_alike_sorts_clash" 416 "do_alike_sorts_clash" 417 "/claim/cut.py" 418 79 2 164 181 165 166 167 168 421 422)
def o170 : Ob:=(kF "do_alike_sorts_clash" "do_alike_sorts_clash" Gp.s_do_alike_sorts_clash "gapcalls.clash" 356 169)
def o173 : Ob:=(kU #[(.str "one" 427),(.str "other" 428)])
def o175 : Ob:=(kG "do_clash" "do_clash" Gp.s_do_clash)
def o176 : Ob:=(kC "do_clash" 424 "do_clash" 425 "/claim/cut.py" 426 85 2 171 181 172 173 174 175 429 430)
def o177 : Ob:=(kF "do_clash" "do_clash" Gp.s_do_clash "gapcalls.clash" 356 176)
def o180 : Ob:=(kU #[(.str "town" 435),(.str "rows" 436),(.str "number" 437),(.str "thing" 438)])
def o182 : Ob:=(kG "need_rows" "need_rows" Gp.s_need_rows)
def o183 : Ob:=(kC "need_rows" 432 "need_rows" 433 "/claim/cut.py" 434 97 2 178 181 179 180 181 182 439 440)
def o184 : Ob:=(kF "need_rows" "need_rows" Gp.s_need_rows "gapcalls.clash" 356 183)
def o187 : Ob:=(kU #[(.str "town" 445),(.str "rows" 446),(.str "second" 447),(.str "first" 448)])
def o189 : Ob:=(kG "need_book" "need_book" Gp.s_need_book)
def o190 : Ob:=(kC "need_book" 442 "need_book" 443 "/claim/cut.py" 444 101 2 185 181 186 187 188 189 449 450)
def o191 : Ob:=(kF "need_book" "need_book" Gp.s_need_book "gapcalls.clash" 356 190)
def o193 : Ob:=(.mk (.type "builtin_function_or_method") none (.fields #[(.builtin "type.__prepare__"),(.type "type")]) #[])
def o194 (P : PySem.Params) : Ob:=(.mk (.type "dict") none (.dict #[(kE P "__module__" 461 (.str "gapcalls.gaps" 452)),(kE P "__qualname__" 463 (.str "Gaps" 462)),(kE P "__firstlineno__" 465 (.int 108 464)),(kE P "__init__" 471 (.ref 203)),(kE P "__static_attributes__" 481 (.ref 204))] 5) #[])
def o196 : Ob:=(.mk .none none (.fields #[(.int 110 0),(.int 4 0),(.ref 202)]) #[])
def o197 : Ob:=(kX "Gaps" 456 "Gaps" 457 458 108 0 0 0 0 195 (.bool .false) 181 196 .none .none .none .none 459 460)
def o198 : Ob:=(.mk (.type "frame") none .plain #[(some (.ref 197)),(some (.ref 3)),(some (.ref 194)),none,(some (.str "gapcalls.gaps" 452)),none,(some (.ref 0))])
def o201 : Ob:=(kG "__init__" "Gaps.__init__" Gp.s_i_Gaps)
def o202 : Ob:=(kX "__init__" 466 "Gaps.__init__" 467 468 110 3 0 0 3 199 (.bool .true) 181 200 .none .none .none (.ref 201) 469 470)
def o203 : Ob:=(kF "__init__" "Gaps.__init__" Gp.s_i_Gaps "gapcalls.gaps" 452 202)
def o204 : Ob:=(kU #[(.str "all_rows" 472),(.str "ask_rows" 473),(.str "ask_spans" 474),(.str "asks" 475),(.str "job_rows" 476),(.str "job_spans" 477),(.str "jobs" 478),(.str "more_times" 479),(.str "town" 480)])
def o205 (P : PySem.Params) : Ob:=(.mk (.type "dict") none (.dict #[(kE P "__module__" 461 (.str "gapcalls.gaps" 452)),(kE P "__firstlineno__" 465 (.int 108 464)),(kE P "__init__" 471 (.ref 203)),(kE P "__static_attributes__" 481 (.ref 204)),(kE P "__dict__" 483 (.ref 207)),(kE P "__weakref__" 485 (.ref 208)),(kE P "__doc__" 486 .none)] 4) #[])
def o206 : Ob:=(.mk (.type "type") none (.cls (.mk "Gaps" [(.type "object")] [(.ref 206),(.type "object")] 205 "Gaps" .true [] [] .false none .false)) #[none,none,(some (.str "Gaps" 454)),(some (.str "Gaps" 462)),(some (.builtin "object.__new__")),(some (.bool .true))])
def o207 : Ob:=(.mk (.type "getset_descriptor") none (.fields #[(.str "__dict__" 482),(.ref 206),(.builtin "function.__dict__"),(.builtin "function.__dict__#set")]) #[])
def o208 : Ob:=(.mk (.type "getset_descriptor") none (.fields #[(.str "__weakref__" 484),(.ref 206),(.builtin "ExceptionGroup.__weakref__"),.none]) #[])
def o209 : Ob:=(.mk (.type "super") none (.fields #[(.ref 206),(.ref 206),(.ref 206)]) #[])
def o210 : Ob:=(.mk (.type "builtin_function_or_method") none (.fields #[(.builtin "object.__init_subclass__"),(.ref 206)]) #[])
def o213 : Ob:=(kU #[(.str "town" 492),(.str "rows" 493)])
def o215 : Ob:=(kG "gaps_of" "gaps_of" Gp.s_gaps_of)
def o216 : Ob:=(kC "gaps_of" 489 "gaps_of" 490 "/claim/cut.py" 491 120 2 211 181 212 213 214 215 494 495)
def o217 : Ob:=(kF "gaps_of" "gaps_of" Gp.s_gaps_of "gapcalls.gaps" 452 216)
def o220 : Ob:=(kG "rows_by_number" "rows_by_number" Gp.s_rows_by_number)
def o221 : Ob:=(kX "rows_by_number" 497 "rows_by_number" 498 499 123 2 0 0 3 218 (.bool .true) 181 219 .none .none .none (.ref 220) 500 501)
def o222 : Ob:=(kF "rows_by_number" "rows_by_number" Gp.s_rows_by_number "gapcalls.gaps" 452 221)
def o225 : Ob:=(kG "numbers_below" "numbers_below" Gp.s_numbers_below)
def o226 : Ob:=(kX "numbers_below" 503 "numbers_below" 504 505 125 2 0 0 3 223 (.bool .true) 181 224 .none .none .none (.ref 225) 506 507)
def o227 : Ob:=(kF "numbers_below" "numbers_below" Gp.s_numbers_below "gapcalls.gaps" 452 226)
def o230 : Ob:=(kG "asks_of_house" "asks_of_house" Gp.s_asks_of_house)
def o231 : Ob:=(kX "asks_of_house" 509 "asks_of_house" 510 511 127 2 0 0 3 228 (.bool .true) 181 229 .none .none .none (.ref 230) 512 513)
def o232 : Ob:=(kF "asks_of_house" "asks_of_house" Gp.s_asks_of_house "gapcalls.gaps" 452 231)
def o235 : Ob:=(kG "jobs_of_house" "jobs_of_house" Gp.s_jobs_of_house)
def o236 : Ob:=(kX "jobs_of_house" 515 "jobs_of_house" 516 517 129 2 0 0 3 233 (.bool .true) 181 234 .none .none .none (.ref 235) 518 519)
def o237 : Ob:=(kF "jobs_of_house" "jobs_of_house" Gp.s_jobs_of_house "gapcalls.gaps" 452 236)
def o240 : Ob:=(kG "count_asks" "count_asks" Gp.s_count_asks)
def o241 : Ob:=(kX "count_asks" 521 "count_asks" 522 523 131 2 0 0 3 238 (.bool .true) 181 239 .none .none .none (.ref 240) 524 525)
def o242 : Ob:=(kF "count_asks" "count_asks" Gp.s_count_asks "gapcalls.gaps" 452 241)
def o245 : Ob:=(kG "count_jobs" "count_jobs" Gp.s_count_jobs)
def o246 : Ob:=(kX "count_jobs" 527 "count_jobs" 528 529 135 2 0 0 3 243 (.bool .true) 181 244 .none .none .none (.ref 245) 530 531)
def o247 : Ob:=(kF "count_jobs" "count_jobs" Gp.s_count_jobs "gapcalls.gaps" 452 246)
def o250 : Ob:=(kU #[(.str "times" 536)])
def o252 : Ob:=(kG "earliest" "earliest" Gp.s_earliest)
def o253 : Ob:=(kC "earliest" 533 "earliest" 534 "/claim/cut.py" 535 141 1 248 181 249 250 251 252 537 538)
def o254 : Ob:=(kF "earliest" "earliest" Gp.s_earliest "gapcalls.gaps" 452 253)
def o257 : Ob:=(kU #[(.str "times" 543)])
def o259 : Ob:=(kG "latest" "latest" Gp.s_latest)
def o260 : Ob:=(kC "latest" 540 "latest" 541 "/claim/cut.py" 542 143 1 255 181 256 257 258 259 544 545)
def o261 : Ob:=(kF "latest" "latest" Gp.s_latest "gapcalls.gaps" 452 260)
def o264 : Ob:=(kG "span_of_ask" "span_of_ask" Gp.s_span_of_ask)
def o265 : Ob:=(kX "span_of_ask" 547 "span_of_ask" 548 549 145 2 0 0 3 262 (.bool .true) 181 263 .none .none .none (.ref 264) 550 551)
def o266 : Ob:=(kF "span_of_ask" "span_of_ask" Gp.s_span_of_ask "gapcalls.gaps" 452 265)
def o269 : Ob:=(kG "span_of_job" "span_of_job" Gp.s_span_of_job)
def o270 : Ob:=(kX "span_of_job" 553 "span_of_job" 554 555 151 2 0 0 3 267 (.bool .true) 181 268 .none .none .none (.ref 269) 556 557)
def o271 : Ob:=(kF "span_of_job" "span_of_job" Gp.s_span_of_job "gapcalls.gaps" 452 270)
def o274 : Ob:=(kG "more_of" "more_of" Gp.s_more_of)
def o275 : Ob:=(kX "more_of" 559 "more_of" 560 561 160 2 0 0 3 272 (.bool .true) 181 273 .none .none .none (.ref 274) 562 563)
def o276 : Ob:=(kF "more_of" "more_of" Gp.s_more_of "gapcalls.gaps" 452 275)
def o279 : Ob:=(kU #[(.str "gaps" 570),(.str "ask" 571),(.str "row" 572)])
def o281 : Ob:=(kG "made_in" "made_in" Gp.s_made_in)
def o282 : Ob:=(kC "made_in" 567 "made_in" 568 "/claim/cut.py" 569 165 2 277 181 278 279 280 281 573 574)
def o283 : Ob:=(kF "made_in" "made_in" Gp.s_made_in "gapcalls.trees" 565 282)
def o286 : Ob:=(kG "jobs_of_trees" "jobs_of_trees" Gp.s_jobs_of_trees)
def o287 : Ob:=(kX "jobs_of_trees" 576 "jobs_of_trees" 577 578 168 1 0 0 3 284 (.bool .true) 181 285 .none .none .none (.ref 286) 579 580)
def o288 : Ob:=(kF "jobs_of_trees" "jobs_of_trees" Gp.s_jobs_of_trees "gapcalls.trees" 565 287)
def o291 : Ob:=(kG "uppers_of" "uppers_of" Gp.s_uppers_of)
def o292 : Ob:=(kX "uppers_of" 582 "uppers_of" 583 584 170 2 0 0 3 289 (.bool .true) 181 290 .none .none .none (.ref 291) 585 586)
def o293 : Ob:=(kF "uppers_of" "uppers_of" Gp.s_uppers_of "gapcalls.trees" 565 292)
def o296 : Ob:=(kU #[(.str "uppers" 591),(.str "job" 592),(.str "told" 593),(.str "upper" 594)])
def o298 : Ob:=(kG "all_uppers" "all_uppers" Gp.s_all_uppers)
def o299 : Ob:=(kC "all_uppers" 588 "all_uppers" 589 "/claim/cut.py" 590 172 2 294 181 295 296 297 298 595 596)
def o300 : Ob:=(kF "all_uppers" "all_uppers" Gp.s_all_uppers "gapcalls.trees" 565 299)
def o303 : Ob:=(kG "forest" "forest" Gp.s_forest)
def o304 : Ob:=(kX "forest" 598 "forest" 599 600 179 3 0 0 3 301 (.bool .true) 181 302 .none .none .none (.ref 303) 601 602)
def o305 : Ob:=(kF "forest" "forest" Gp.s_forest "gapcalls.trees" 565 304)
def o308 : Ob:=(kU #[(.str "cell" 609),(.str "at" 610),(.str "one" 611),(.str "two" 612),(.str "three" 613)])
def o310 : Ob:=(kG "_law_spread" "_law_spread" Gp.s_l_spread)
def o311 : Ob:=(kC "_law_spread" 606 "_law_spread" 607 "/claim/cut.py" 608 195 2 306 181 307 308 309 310 614 615)
def o312 : Ob:=(kF "_law_spread" "_law_spread" Gp.s_l_spread "law_gapcalls_k54_forests" 604 311)
def o315 : Ob:=(kU #[(.str "script" 620),(.str "cells" 621),(.str "k" 622),(.str "cell" 623)])
def o317 : Ob:=(kG "_law_open" "_law_open" Gp.s_l_open)
def o318 : Ob:=(kC "_law_open" 617 "_law_open" 618 "/claim/cut.py" 619 202 1 313 181 314 315 316 317 624 625)
def o319 : Ob:=(kF "_law_open" "_law_open" Gp.s_l_open "law_gapcalls_k54_forests" 604 318)
def o322 : Ob:=(kU #[(.str "pen" 630)])
def o324 : Ob:=(kG "_law_anew" "_law_anew" Gp.s_l_anew)
def o325 : Ob:=(kC "_law_anew" 627 "_law_anew" 628 "/claim/cut.py" 629 207 1 320 181 321 322 323 324 631 632)
def o326 : Ob:=(kF "_law_anew" "_law_anew" Gp.s_l_anew "law_gapcalls_k54_forests" 604 325)
def o329 : Ob:=(kU #[(.str "pen" 637),(.str "many" 638),(.str "at" 639),(.str "cell" 640),(.str "found" 641)])
def o331 : Ob:=(kG "_law_take" "_law_take" Gp.s_l_take)
def o332 : Ob:=(kC "_law_take" 634 "_law_take" 635 "/claim/cut.py" 636 210 2 327 181 328 329 330 331 642 643)
def o333 : Ob:=(kF "_law_take" "_law_take" Gp.s_l_take "law_gapcalls_k54_forests" 604 332)
def o336 : Ob:=(kG "_law_names" "_law_names" Gp.s_l_names)
def o337 : Ob:=(kX "_law_names" 645 "_law_names" 646 647 223 2 0 0 3 334 (.bool .true) 181 335 .none .none .none (.ref 336) 648 649)
def o338 : Ob:=(kF "_law_names" "_law_names" Gp.s_l_names "law_gapcalls_k54_forests" 604 337)
def o341 : Ob:=(kG "_law_town" "_law_town" Gp.s_l_town)
def o342 : Ob:=(kX "_law_town" 651 "_law_town" 652 653 236 2 0 0 3 339 (.bool .true) 181 340 .none .none .none (.ref 341) 654 655)
def o343 : Ob:=(kF "_law_town" "_law_town" Gp.s_l_town "law_gapcalls_k54_forests" 604 342)
def o346 : Ob:=(kG "_law_room" "_law_room" Gp.s_l_room)
def o347 : Ob:=(kX "_law_room" 657 "_law_room" 658 659 242 3 0 0 3 344 (.bool .true) 181 345 .none .none .none (.ref 346) 660 661)
def o348 : Ob:=(kF "_law_room" "_law_room" Gp.s_l_room "law_gapcalls_k54_forests" 604 347)
def o351 : Ob:=(kU #[(.str "pen" 666),(.str "world" 667),(.str "town" 668),(.str "house" 669),(.str "start" 670),(.str "deep" 671),(.str "place" 672),(.str "begin" 673),(.str "last" 674),(.str "now" 675),(.str "turn" 676),(.str "goal" 677),(.str "out" 678),(.str "ask" 679)])
def o353 : Ob:=(kG "_law_job" "_law_job" Gp.s_l_job)
def o354 : Ob:=(kC "_law_job" 663 "_law_job" 664 "/claim/cut.py" 665 246 6 349 181 350 351 352 353 680 681)
def o355 : Ob:=(kF "_law_job" "_law_job" Gp.s_l_job "law_gapcalls_k54_forests" 604 354)
def o358 : Ob:=(kU #[(.str "pen" 686),(.str "town" 687),(.str "tops" 688),(.str "deep" 689),(.str "most" 690),(.str "stray" 691),(.str "world" 692),(.str "turn" 693),(.str "doors" 694),(.str "house" 695)])
def o360 : Ob:=(kG "_law_world" "_law_world" Gp.s_l_world)
def o361 : Ob:=(kC "_law_world" 683 "_law_world" 684 "/claim/cut.py" 685 263 6 356 181 357 358 359 360 696 697)
def o362 : Ob:=(kF "_law_world" "_law_world" Gp.s_l_world "law_gapcalls_k54_forests" 604 361)
def o365 : Ob:=(kG "_law_called" "_law_called" Gp.s_l_called)
def o366 : Ob:=(kX "_law_called" 699 "_law_called" 700 701 273 2 0 0 3 363 (.bool .true) 181 364 .none .none .none (.ref 365) 702 703)
def o367 : Ob:=(kF "_law_called" "_law_called" Gp.s_l_called "law_gapcalls_k54_forests" 604 366)
def o370 : Ob:=(kG "_law_bases" "_law_bases" Gp.s_l_bases)
def o371 : Ob:=(kX "_law_bases" 705 "_law_bases" 706 707 284 3 0 0 3 368 (.bool .true) 181 369 .none .none .none (.ref 370) 708 709)
def o372 : Ob:=(kF "_law_bases" "_law_bases" Gp.s_l_bases "law_gapcalls_k54_forests" 604 371)
def o375 : Ob:=(kG "_law_all_rows" "_law_all_rows" Gp.s_l_all_rows)
def o376 : Ob:=(kX "_law_all_rows" 711 "_law_all_rows" 712 713 287 3 0 0 3 373 (.bool .true) 181 374 .none .none .none (.ref 375) 714 715)
def o377 : Ob:=(kF "_law_all_rows" "_law_all_rows" Gp.s_l_all_rows "law_gapcalls_k54_forests" 604 376)
def o380 : Ob:=(kU #[(.str "pen" 720),(.str "rows" 721),(.str "fewer" 722),(.str "some" 723),(.str "found" 724),(.str "row" 725),(.str "turn" 726)])
def o382 : Ob:=(kG "_law_left" "_law_left" Gp.s_l_left)
def o383 : Ob:=(kC "_law_left" 717 "_law_left" 718 "/claim/cut.py" 719 299 3 378 181 379 380 381 382 727 728)
def o384 : Ob:=(kF "_law_left" "_law_left" Gp.s_l_left "law_gapcalls_k54_forests" 604 383)
def o387 : Ob:=(kG "_law_true_pairs" "_law_true_pairs" Gp.s_l_true_pairs)
def o388 : Ob:=(kX "_law_true_pairs" 730 "_law_true_pairs" 731 732 308 3 0 0 3 385 (.bool .true) 181 386 .none .none .none (.ref 387) 733 734)
def o389 : Ob:=(kF "_law_true_pairs" "_law_true_pairs" Gp.s_l_true_pairs "law_gapcalls_k54_forests" 604 388)
def o392 : Ob:=(kU #[(.str "pen" 739),(.str "most" 740),(.str "town" 741)])
def o394 : Ob:=(kG "_law_gated" "_law_gated" Gp.s_l_gated)
def o395 : Ob:=(kC "_law_gated" 736 "_law_gated" 737 "/claim/cut.py" 738 316 2 390 181 391 392 393 394 742 743)
def o396 : Ob:=(kF "_law_gated" "_law_gated" Gp.s_l_gated "law_gapcalls_k54_forests" 604 395)
def o399 : Ob:=(kU #[(.str "pen" 748),(.str "houses" 749),(.str "most" 750),(.str "fewer" 751),(.str "town" 752),(.str "world" 753),(.str "rows" 754)])
def o401 : Ob:=(kG "_law_tree_book" "_law_tree_book" Gp.s_l_tree_book)
def o402 : Ob:=(kC "_law_tree_book" 745 "_law_tree_book" 746 "/claim/cut.py" 747 321 4 397 181 398 399 400 401 755 756)
def o403 : Ob:=(kF "_law_tree_book" "_law_tree_book" Gp.s_l_tree_book "law_gapcalls_k54_forests" 604 402)
def o406 : Ob:=(kU #[(.str "rows" 761),(.str "word" 762),(.str "house" 763),(.str "found" 764),(.str "row" 765)])
def o408 : Ob:=(kG "_law_known" "_law_known" Gp.s_l_known)
def o409 : Ob:=(kC "_law_known" 758 "_law_known" 759 "/claim/cut.py" 760 326 3 404 181 405 406 407 408 766 767)
def o410 : Ob:=(kF "_law_known" "_law_known" Gp.s_l_known "law_gapcalls_k54_forests" 604 409)
def o413 : Ob:=(kU #[(.str "rows" 772),(.str "telling" 773),(.str "job" 774),(.str "ask" 775),(.str "other" 776)])
def o415 : Ob:=(kG "_law_above" "_law_above" Gp.s_l_above)
def o416 : Ob:=(kC "_law_above" 769 "_law_above" 770 "/claim/cut.py" 771 332 3 411 181 412 413 414 415 777 778)
def o417 : Ob:=(kF "_law_above" "_law_above" Gp.s_l_above "law_gapcalls_k54_forests" 604 416)
def o420 : Ob:=(kU #[(.str "rows" 783),(.str "telling" 784),(.str "job" 785),(.str "found" 786),(.str "here" 787)])
def o422 : Ob:=(.mk .none none (.func (.mk "_law_all_above" "_law_all_above" (.mk [] [(.mk "rows" none (.mk 337 19 337 23)),(.mk "telling" none (.mk 337 25 337 32)),(.mk "job" none (.mk 337 34 337 37))] none [] [] none []) (.stmts [(.Assign [(.Name "found" (.mk 338 4 338 9))] (.List [] (.mk 338 12 338 14)) (.mk 338 4 338 14)),(.Assign [(.Name "here" (.mk 339 4 339 8))] (.Call (.Name "_law_above" (.mk 339 11 339 21)) [(.Name "rows" (.mk 339 22 339 26)),(.Name "telling" (.mk 339 28 339 35)),(.Name "job" (.mk 339 37 339 40))] [] (.mk 339 11 339 41)) (.mk 339 4 339 41)),(.While (.Compare (.Name "here" (.mk 340 10 340 14)) [.IsNot] [(.Constant .none 0 (.mk 340 22 340 26))] (.mk 340 10 340 26)) [(.Expr (.Call (.Attribute (.Name "found" (.mk 341 8 341 13)) "append" (.mk 341 8 341 20)) [(.Name "here" (.mk 341 21 341 25))] [] (.mk 341 8 341 26)) (.mk 341 8 341 26)),(.Assign [(.Name "here" (.mk 342 8 342 12))] (.Call (.Name "_law_above" (.mk 342 15 342 25)) [(.Name "rows" (.mk 342 26 342 30)),(.Name "telling" (.mk 342 32 342 39)),(.Name "here" (.mk 342 41 342 45))] [] (.mk 342 15 342 46)) (.mk 342 8 342 46))] [] (.mk 340 4 342 46)),(.Return (some (.Name "found" (.mk 343 11 343 16))) (.mk 343 4 343 16))]) (.mk .function [("rows", .local),("telling", .local),("job", .local),("found", .local),("here", .local),("_law_above", .globalImplicit)] .false .false []) 0 [] .none .none .none .none none .none .none 0)) #[])
def o423 : Ob:=(kC "_law_all_above" 780 "_law_all_above" 781 "/claim/cut.py" 782 337 3 418 181 419 420 421 422 788 789)
def o424 : Ob:=(.mk (.type "function") none (.func (.mk "_law_all_above" "_law_all_above" (.mk [] [(.mk "rows" none (.mk 337 19 337 23)),(.mk "telling" none (.mk 337 25 337 32)),(.mk "job" none (.mk 337 34 337 37))] none [] [] none []) (.stmts [(.Assign [(.Name "found" (.mk 338 4 338 9))] (.List [] (.mk 338 12 338 14)) (.mk 338 4 338 14)),(.Assign [(.Name "here" (.mk 339 4 339 8))] (.Call (.Name "_law_above" (.mk 339 11 339 21)) [(.Name "rows" (.mk 339 22 339 26)),(.Name "telling" (.mk 339 28 339 35)),(.Name "job" (.mk 339 37 339 40))] [] (.mk 339 11 339 41)) (.mk 339 4 339 41)),(.While (.Compare (.Name "here" (.mk 340 10 340 14)) [.IsNot] [(.Constant .none 0 (.mk 340 22 340 26))] (.mk 340 10 340 26)) [(.Expr (.Call (.Attribute (.Name "found" (.mk 341 8 341 13)) "append" (.mk 341 8 341 20)) [(.Name "here" (.mk 341 21 341 25))] [] (.mk 341 8 341 26)) (.mk 341 8 341 26)),(.Assign [(.Name "here" (.mk 342 8 342 12))] (.Call (.Name "_law_above" (.mk 342 15 342 25)) [(.Name "rows" (.mk 342 26 342 30)),(.Name "telling" (.mk 342 32 342 39)),(.Name "here" (.mk 342 41 342 45))] [] (.mk 342 15 342 46)) (.mk 342 8 342 46))] [] (.mk 340 4 342 46)),(.Return (some (.Name "found" (.mk 343 11 343 16))) (.mk 343 4 343 16))]) (.mk .function [("rows", .local),("telling", .local),("job", .local),("found", .local),("here", .local),("_law_above", .globalImplicit)] .false .false []) 3 [] .none .none .none (.str "law_gapcalls_k54_forests" 604) none (.ref 423) .none 0)) #[])
def o427 : Ob:=(kG "_law_tree_jobs" "_law_tree_jobs" Gp.s_l_tree_jobs)
def o428 : Ob:=(kX "_law_tree_jobs" 791 "_law_tree_jobs" 792 793 344 1 0 0 3 425 (.bool .true) 181 426 .none .none .none (.ref 427) 794 795)
def o429 : Ob:=(kF "_law_tree_jobs" "_law_tree_jobs" Gp.s_l_tree_jobs "law_gapcalls_k54_forests" 604 428)
def o432 : Ob:=(kU #[(.str "found" 800),(.str "due" 801),(.str "one" 802),(.str "other" 803)])
def o434 : Ob:=(kG "_law_same" "_law_same" Gp.s_l_same)
def o435 : Ob:=(kC "_law_same" 797 "_law_same" 798 "/claim/cut.py" 799 347 2 430 181 431 432 433 434 804 805)
def o436 : Ob:=(kF "_law_same" "_law_same" Gp.s_l_same "law_gapcalls_k54_forests" 604 435)
def o439 : Ob:=(kU #[(.str "rows" 810),(.str "telling" 811),(.str "jobs" 812),(.str "top" 813),(.str "deep" 814),(.str "found" 815),(.str "job" 816)])
def o441 : Ob:=(kG "_law_grown" "_law_grown" Gp.s_l_grown)
def o442 : Ob:=(kC "_law_grown" 807 "_law_grown" 808 "/claim/cut.py" 809 366 5 437 181 438 439 440 441 817 818)
def o443 : Ob:=(kF "_law_grown" "_law_grown" Gp.s_l_grown "law_gapcalls_k54_forests" 604 442)
def o446 : Ob:=(kG "_law_chain" "_law_chain" Gp.s_l_chain)
def o447 : Ob:=(kX "_law_chain" 820 "_law_chain" 821 822 372 1 0 0 3 444 (.bool .true) 181 445 .none .none .none (.ref 446) 823 824)
def o448 : Ob:=(kF "_law_chain" "_law_chain" Gp.s_l_chain "law_gapcalls_k54_forests" 604 447)
def o451 : Ob:=(kU #[(.str "script" 829),(.str "pen" 830),(.str "turn" 831),(.str "town" 832),(.str "rows" 833),(.str "telling" 834),(.str "due" 835),(.str "handed" 836),(.str "found" 837)])
def o453 : Ob:=(kG "law" "law" Gp.s_law)
def o454 : Ob:=(kC "law" 826 "law" 827 "/claim/cut.py" 828 382 1 449 181 450 451 452 453 838 839)
def o455 : Ob:=(kF "law" "law" Gp.s_law "law_gapcalls_k54_forests" 604 454)
def KK : PySem.Params→PySem.W.Frag:=fun P=>(nat_lit 2,o2) ::
 (nat_lit 3,o3 P) ::
 (nat_lit 15,o15) ::
 (nat_lit 22,kT) ::
 (nat_lit 23,o23 P) ::
 (nat_lit 24,o24) ::
 (nat_lit 25,o25) ::
 (nat_lit 28,o28) ::
 (nat_lit 35,kT) ::
 (nat_lit 37,o37) ::
 (nat_lit 38,kT) ::
 (nat_lit 40,o40) ::
 (nat_lit 41,o41) ::
 (nat_lit 42,o42) ::
 (nat_lit 43,o43 P) ::
 (nat_lit 44,o44) ::
 (nat_lit 47,o47) ::
 (nat_lit 54,kT) ::
 (nat_lit 56,o56) ::
 (nat_lit 57,kT) ::
 (nat_lit 59,o59) ::
 (nat_lit 60,o60) ::
 (nat_lit 61,o61) ::
 (nat_lit 62,o62 P) ::
 (nat_lit 63,o63) ::
 (nat_lit 66,kT) ::
 (nat_lit 68,o68) ::
 (nat_lit 69,kT) ::
 (nat_lit 71,o71) ::
 (nat_lit 72,o72) ::
 (nat_lit 73,kT) ::
 (nat_lit 75,o75) ::
 (nat_lit 76,kT) ::
 (nat_lit 78,o78) ::
 (nat_lit 79,o79) ::
 (nat_lit 80,kT) ::
 (nat_lit 82,o82) ::
 (nat_lit 83,kT) ::
 (nat_lit 85,o85) ::
 (nat_lit 86,o86) ::
 (nat_lit 87,kT) ::
 (nat_lit 89,o89) ::
 (nat_lit 90,kT) ::
 (nat_lit 92,o92) ::
 (nat_lit 93,o93) ::
 (nat_lit 94,kT) ::
 (nat_lit 96,o96) ::
 (nat_lit 97,kT) ::
 (nat_lit 99,o99) ::
 (nat_lit 100,o100) ::
 (nat_lit 101,kT) ::
 (nat_lit 103,o103) ::
 (nat_lit 104,kT) ::
 (nat_lit 106,o106) ::
 (nat_lit 107,o107) ::
 (nat_lit 108,kT) ::
 (nat_lit 110,o110) ::
 (nat_lit 111,kT) ::
 (nat_lit 113,o113) ::
 (nat_lit 114,o114) ::
 (nat_lit 115,kT) ::
 (nat_lit 117,o117) ::
 (nat_lit 118,kT) ::
 (nat_lit 120,o120) ::
 (nat_lit 121,o121) ::
 (nat_lit 122,kT) ::
 (nat_lit 124,o124) ::
 (nat_lit 125,kT) ::
 (nat_lit 127,o127) ::
 (nat_lit 128,o128) ::
 (nat_lit 129,kT) ::
 (nat_lit 131,o131) ::
 (nat_lit 132,kT) ::
 (nat_lit 134,o134) ::
 (nat_lit 135,o135) ::
 (nat_lit 136,kT) ::
 (nat_lit 138,o138) ::
 (nat_lit 139,kT) ::
 (nat_lit 141,o141) ::
 (nat_lit 142,o142) ::
 (nat_lit 143,kT) ::
 (nat_lit 145,o145) ::
 (nat_lit 146,kT) ::
 (nat_lit 148,o148) ::
 (nat_lit 149,o149) ::
 (nat_lit 150,kT) ::
 (nat_lit 152,o152) ::
 (nat_lit 153,kT) ::
 (nat_lit 155,o155) ::
 (nat_lit 156,o156) ::
 (nat_lit 157,kT) ::
 (nat_lit 159,o159) ::
 (nat_lit 160,kT) ::
 (nat_lit 162,o162) ::
 (nat_lit 163,o163) ::
 (nat_lit 164,kT) ::
 (nat_lit 166,o166) ::
 (nat_lit 167,kT) ::
 (nat_lit 169,o169) ::
 (nat_lit 170,o170) ::
 (nat_lit 171,kT) ::
 (nat_lit 173,o173) ::
 (nat_lit 174,kT) ::
 (nat_lit 176,o176) ::
 (nat_lit 177,o177) ::
 (nat_lit 178,kT) ::
 (nat_lit 180,o180) ::
 (nat_lit 181,kT) ::
 (nat_lit 183,o183) ::
 (nat_lit 184,o184) ::
 (nat_lit 185,kT) ::
 (nat_lit 187,o187) ::
 (nat_lit 188,kT) ::
 (nat_lit 190,o190) ::
 (nat_lit 191,o191) ::
 (nat_lit 199,kT) ::
 (nat_lit 202,o202) ::
 (nat_lit 203,o203) ::
 (nat_lit 204,o204) ::
 (nat_lit 205,o205 P) ::
 (nat_lit 206,o206) ::
 (nat_lit 207,o207) ::
 (nat_lit 208,o208) ::
 (nat_lit 211,kT) ::
 (nat_lit 213,o213) ::
 (nat_lit 214,kT) ::
 (nat_lit 216,o216) ::
 (nat_lit 217,o217) ::
 (nat_lit 218,kT) ::
 (nat_lit 221,o221) ::
 (nat_lit 222,o222) ::
 (nat_lit 223,kT) ::
 (nat_lit 226,o226) ::
 (nat_lit 227,o227) ::
 (nat_lit 228,kT) ::
 (nat_lit 231,o231) ::
 (nat_lit 232,o232) ::
 (nat_lit 233,kT) ::
 (nat_lit 236,o236) ::
 (nat_lit 237,o237) ::
 (nat_lit 238,kT) ::
 (nat_lit 241,o241) ::
 (nat_lit 242,o242) ::
 (nat_lit 243,kT) ::
 (nat_lit 246,o246) ::
 (nat_lit 247,o247) ::
 (nat_lit 248,kT) ::
 (nat_lit 250,o250) ::
 (nat_lit 251,kT) ::
 (nat_lit 253,o253) ::
 (nat_lit 254,o254) ::
 (nat_lit 255,kT) ::
 (nat_lit 257,o257) ::
 (nat_lit 258,kT) ::
 (nat_lit 260,o260) ::
 (nat_lit 261,o261) ::
 (nat_lit 262,kT) ::
 (nat_lit 265,o265) ::
 (nat_lit 266,o266) ::
 (nat_lit 267,kT) ::
 (nat_lit 270,o270) ::
 (nat_lit 271,o271) ::
 (nat_lit 272,kT) ::
 (nat_lit 275,o275) ::
 (nat_lit 276,o276) ::
 (nat_lit 277,kT) ::
 (nat_lit 279,o279) ::
 (nat_lit 280,kT) ::
 (nat_lit 282,o282) ::
 (nat_lit 283,o283) ::
 (nat_lit 284,kT) ::
 (nat_lit 287,o287) ::
 (nat_lit 288,o288) ::
 (nat_lit 289,kT) ::
 (nat_lit 292,o292) ::
 (nat_lit 293,o293) ::
 (nat_lit 294,kT) ::
 (nat_lit 296,o296) ::
 (nat_lit 297,kT) ::
 (nat_lit 299,o299) ::
 (nat_lit 300,o300) ::
 (nat_lit 301,kT) ::
 (nat_lit 304,o304) ::
 (nat_lit 305,o305) ::
 (nat_lit 306,kT) ::
 (nat_lit 308,o308) ::
 (nat_lit 309,kT) ::
 (nat_lit 311,o311) ::
 (nat_lit 312,o312) ::
 (nat_lit 313,kT) ::
 (nat_lit 315,o315) ::
 (nat_lit 316,kT) ::
 (nat_lit 318,o318) ::
 (nat_lit 319,o319) ::
 (nat_lit 320,kT) ::
 (nat_lit 322,o322) ::
 (nat_lit 323,kT) ::
 (nat_lit 325,o325) ::
 (nat_lit 326,o326) ::
 (nat_lit 327,kT) ::
 (nat_lit 329,o329) ::
 (nat_lit 330,kT) ::
 (nat_lit 332,o332) ::
 (nat_lit 333,o333) ::
 (nat_lit 334,kT) ::
 (nat_lit 337,o337) ::
 (nat_lit 338,o338) ::
 (nat_lit 339,kT) ::
 (nat_lit 342,o342) ::
 (nat_lit 343,o343) ::
 (nat_lit 344,kT) ::
 (nat_lit 347,o347) ::
 (nat_lit 348,o348) ::
 (nat_lit 349,kT) ::
 (nat_lit 351,o351) ::
 (nat_lit 352,kT) ::
 (nat_lit 354,o354) ::
 (nat_lit 355,o355) ::
 (nat_lit 356,kT) ::
 (nat_lit 358,o358) ::
 (nat_lit 359,kT) ::
 (nat_lit 361,o361) ::
 (nat_lit 362,o362) ::
 (nat_lit 363,kT) ::
 (nat_lit 366,o366) ::
 (nat_lit 367,o367) ::
 (nat_lit 368,kT) ::
 (nat_lit 371,o371) ::
 (nat_lit 372,o372) ::
 (nat_lit 373,kT) ::
 (nat_lit 376,o376) ::
 (nat_lit 377,o377) ::
 (nat_lit 378,kT) ::
 (nat_lit 380,o380) ::
 (nat_lit 381,kT) ::
 (nat_lit 383,o383) ::
 (nat_lit 384,o384) ::
 (nat_lit 385,kT) ::
 (nat_lit 388,o388) ::
 (nat_lit 389,o389) ::
 (nat_lit 390,kT) ::
 (nat_lit 392,o392) ::
 (nat_lit 393,kT) ::
 (nat_lit 395,o395) ::
 (nat_lit 396,o396) ::
 (nat_lit 397,kT) ::
 (nat_lit 399,o399) ::
 (nat_lit 400,kT) ::
 (nat_lit 402,o402) ::
 (nat_lit 403,o403) ::
 (nat_lit 404,kT) ::
 (nat_lit 406,o406) ::
 (nat_lit 407,kT) ::
 (nat_lit 409,o409) ::
 (nat_lit 410,o410) ::
 (nat_lit 411,kT) ::
 (nat_lit 413,o413) ::
 (nat_lit 414,kT) ::
 (nat_lit 416,o416) ::
 (nat_lit 417,o417) ::
 (nat_lit 425,kT) ::
 (nat_lit 428,o428) ::
 (nat_lit 429,o429) ::
 (nat_lit 430,kT) ::
 (nat_lit 432,o432) ::
 (nat_lit 433,kT) ::
 (nat_lit 435,o435) ::
 (nat_lit 436,o436) ::
 (nat_lit 437,kT) ::
 (nat_lit 439,o439) ::
 (nat_lit 440,kT) ::
 (nat_lit 442,o442) ::
 (nat_lit 443,o443) ::
 (nat_lit 444,kT) ::
 (nat_lit 447,o447) ::
 (nat_lit 448,o448) ::
 (nat_lit 449,kT) ::
 (nat_lit 451,o451) ::
 (nat_lit 452,kT) ::
 (nat_lit 454,o454) ::
 (nat_lit 455,o455) :: []
def objL (P : PySem.Params) : List Ob:=[o0 P,o1 P,o2,o3 P,o4,o5,o6,kT,kN,o9,o10,kT,o12,o13,o14,o15,o16,o17 P,kT,kN,o20,o21,kT,o23 P,o24,o25,o26,o27,o28,o29,o30 P,kT,o32,o33,o34,kT,kN,o37,kT,o39,o40,o41,o42,o43 P,o44,o45,o46,o47,o48,o49 P,kT,o51,o52,o53,kT,kN,o56,kT,o58,o59,o60,o61,o62 P,o63,o64,o65,kT,kN,o68,kT,o70,o71,o72,kT,kN,o75,kT,o77,o78,o79,kT,kN,o82,kT,o84,o85,o86,kT,kN,o89,kT,o91,o92,o93,kT,kN,o96,kT,o98,o99,o100,kT,kN,o103,kT,o105,o106,o107,kT,kN,o110,kT,o112,o113,o114,kT,kN,o117,kT,o119,o120,o121,kT,kN,o124,kT,o126,o127,o128,kT,kN,o131,kT,o133,o134,o135,kT,kN,o138,kT,o140,o141,o142,kT,kN,o145,kT,o147,o148,o149,kT,kN,o152,kT,o154,o155,o156,kT,kN,o159,kT,o161,o162,o163,kT,kN,o166,kT,o168,o169,o170,kT,kN,o173,kT,o175,o176,o177,kT,kN,o180,kT,o182,o183,o184,kT,kN,o187,kT,o189,o190,o191,kT,o193,o194 P,kT,o196,o197,o198,kT,kN,o201,o202,o203,o204,o205 P,o206,o207,o208,o209,o210,kT,kN,o213,kT,o215,o216,o217,kT,kN,o220,o221,o222,kT,kN,o225,o226,o227,kT,kN,o230,o231,o232,kT,kN,o235,o236,o237,kT,kN,o240,o241,o242,kT,kN,o245,o246,o247,kT,kN,o250,kT,o252,o253,o254,kT,kN,o257,kT,o259,o260,o261,kT,kN,o264,o265,o266,kT,kN,o269,o270,o271,kT,kN,o274,o275,o276,kT,kN,o279,kT,o281,o282,o283,kT,kN,o286,o287,o288,kT,kN,o291,o292,o293,kT,kN,o296,kT,o298,o299,o300,kT,kN,o303,o304,o305,kT,kN,o308,kT,o310,o311,o312,kT,kN,o315,kT,o317,o318,o319,kT,kN,o322,kT,o324,o325,o326,kT,kN,o329,kT,o331,o332,o333,kT,kN,o336,o337,o338,kT,kN,o341,o342,o343,kT,kN,o346,o347,o348,kT,kN,o351,kT,o353,o354,o355,kT,kN,o358,kT,o360,o361,o362,kT,kN,o365,o366,o367,kT,kN,o370,o371,o372,kT,kN,o375,o376,o377,kT,kN,o380,kT,o382,o383,o384,kT,kN,o387,o388,o389,kT,kN,o392,kT,o394,o395,o396,kT,kN,o399,kT,o401,o402,o403,kT,kN,o406,kT,o408,o409,o410,kT,kN,o413,kT,o415,o416,o417,kT,kN,o420,kT,o422,o423,o424,kT,kN,o427,o428,o429,kT,kN,o432,kT,o434,o435,o436,kT,kN,o439,kT,o441,o442,o443,kT,kN,o446,o447,o448,kT,kN,o451,kT,o453,o454,o455]
def treeL (P : PySem.Params) : PySem.W.BT:=match HandSHeadRun.putAll (objL P) .nil 0 with
 | some (t,_)=>t
 | none=>.nil
def SF (w : World) (os : OsState) : PySem.W.SharedT:=⟨treeL w.params,nat_lit 456,{},#[],{},nat_lit 841,os⟩
def SA (P : PySem.Params) (os : OsState) : PySem.Shared:=⟨⟨(objL P).toArray,{}⟩,#[],{},nat_lit 841,os⟩
def asL : List Addr:=[2,3,15,22,23,24,25,28,35,37,38,40,41,42,43,44,47,54,56,57,59,60,61,62,63,66,68,69,71,72,73,75,76,78,79,80,82,83,85,86,87,89,90,92,93,94,96,97,99,100,101,103,104,106,107,108,110,111,113,114,115,117,118,120,121,122,124,125,127,128,129,131,132,134,135,136,138,139,141,142,143,145,146,148,149,150,152,153,155,156,157,159,160,162,163,164,166,167,169,170,171,173,174,176,177,178,180,181,183,184,185,187,188,190,191,199,202,203,204,205,206,207,208,211,213,214,216,217,218,221,222,223,226,227,228,231,232,233,236,237,238,241,242,243,246,247,248,250,251,253,254,255,257,258,260,261,262,265,266,267,270,271,272,275,276,277,279,280,282,283,284,287,288,289,292,293,294,296,297,299,300,301,304,305,306,308,309,311,312,313,315,316,318,319,320,322,323,325,326,327,329,330,332,333,334,337,338,339,342,343,344,347,348,349,351,352,354,355,356,358,359,361,362,363,366,367,368,371,372,373,376,377,378,380,381,383,384,385,388,389,390,392,393,395,396,397,399,400,402,403,404,406,407,409,410,411,413,414,416,417,425,428,429,430,432,433,435,436,437,439,440,442,443,444,447,448,449,451,452,454,455]
def tsL : List Addr:=[]
def hkL : PySem.W.Hook:=PySem.W.kmHook KK asL (fun _=>by kernel_rfl) tsL
def obL (s : PySem.W.SharedT) : hkL.α:=(asL.map (HandSHeadRun.getT s),tsL.map (HandSHeadRun.getT s))
theorem obL_eq (s : PySem.W.SharedT) : obL s = hkL.obs s.abs:=by
 show (asL.map (HandSHeadRun.getT s),tsL.map (HandSHeadRun.getT s)) = (asL.map s.abs.heap.get?,tsL.map s.abs.heap.get?)
 rw [show HandSHeadRun.getT s = s.abs.heap.get? from funext (HandSHeadRun.getT_eq s)]
abbrev rL : PySem.W.OpenRow:=PySem.W.OpenLaw.row PySem.Challenge.rw_gapcalls_k54_forests
abbrev qL : Program:=PySem.W.view rL.prog [1,2,3,5,6,7,8,9,10,11,12,13,14,15,16,18,19,20,21,22,23,24,25,26,28,29,30,31,32,33,34,35,36,37,38,39,40,42,43,44,45,46,48,49,50,51,52,53,54,55,56,57,58,59,60,61,62,63,64,65,66,67,68,69,70,71]
def nmL : List Str:=["MOST_TIME"]
open PySem.W PySem.Calls HandSHeadRun
def P1 {α : Type _} {β : Type _} (x : α × β) : α:=match x with | (a,_)=>a
def P2 {α : Type _} {β : Type _} (x : α × β) : β:=match x with | (_,b)=>b
theorem pP {α : Type _} {β : Type _} {x : α × β} {a : α} {b : β} (h1 : P1 x = a) (h2 : P2 x = b) : x = (a,b):=by
 obtain ⟨y,z⟩:=x
 obtain rfl : y = a:=h1
 obtain rfl : z = b:=h2
 rfl
def EL (w : World) (os : OsState) : Option SharedT:=endF (stepQ (denQ tabQ) rL.prog w) 5678 rL.prog w os
def SLs (s : PySem.Shared):=seenQ qL nmL (importedModules rL.prog.main.body) (fun s=>xlAt qL [] s && recOk rL.toRowW.records s) s
set_option maxHeartbeats 0 in
theorem runS0 (w : World) : ∀ os : OsState,EL w os = some (SF w os):=by
 intro os
 kernel_rfl
set_option maxHeartbeats 0 in
theorem SF_abs (w : World) (os : OsState) : (SF w os).abs = SA w.params os:=by
 kernel_rfl
set_option maxHeartbeats 0 in
theorem runA (w : World) (os : OsState) : (looksF rL.prog (boot_heap w.params) (SF w os).abs,obL (SF w os)) = (true,hkL.val w):=by
 kernel_rfl
def wL : List PySem.Str:=["MOST_TIME"]
set_option maxHeartbeats 0 in
theorem wL_eq : looseW qL nmL = wL:=by
 kernel_rfl
set_option maxHeartbeats 0 in
theorem runB (w : World) (os : OsState) : P1 (SLs (SA w.params os)) = (expectedOf qL):=by
 kernel_rfl
set_option maxHeartbeats 0 in
theorem runC (w : World) (os : OsState) : P1 (P2 (SLs (SA w.params os))) = (bltViewBooted):=by
 kernel_rfl
set_option maxHeartbeats 0 in
theorem runD (w : World) (os : OsState) : P1 (P2 (P2 (SLs (SA w.params os)))) = (true):=by
 kernel_rfl
set_option maxHeartbeats 0 in
theorem runE (w : World) (os : OsState) : P1 (P2 (P2 (P2 (SLs (SA w.params os))))) = (true):=by
 kernel_rfl
set_option maxHeartbeats 0 in
theorem runF (w : World) (os : OsState) : P1 (P2 (P2 (P2 (P2 (SLs (SA w.params os)))))) = (pinGoodD (drecsOf qL)):=by
 kernel_rfl
set_option maxHeartbeats 0 in
theorem runG0 (w : World) (os : OsState) : P1 (P2 (P2 (P2 (P2 (P2 (SLs (SA w.params os))))))) = plainGoodE qL wL:=by
 kernel_rfl
theorem runG (w : World) (os : OsState) : P1 (P2 (P2 (P2 (P2 (P2 (SLs (SA w.params os))))))) = plainGoodE qL (looseW qL nmL):=by
 rw [wL_eq]
 exact runG0 w os
set_option maxHeartbeats 0 in
theorem runH (w : World) (os : OsState) : P1 (P2 (P2 (P2 (P2 (P2 (P2 (SLs (SA w.params os)))))))) = (plainGoodD qL nmL):=by
 kernel_rfl
set_option maxHeartbeats 0 in
theorem runI (w : World) (os : OsState) : P1 (P2 (P2 (P2 (P2 (P2 (P2 (P2 (SLs (SA w.params os))))))))) = (wideGood qL):=by
 kernel_rfl
set_option maxHeartbeats 0 in
theorem runJ (w : World) (os : OsState) : P2 (P2 (P2 (P2 (P2 (P2 (P2 (P2 (SLs (SA w.params os))))))))) = (clsGoodW qL nmL):=by
 kernel_rfl
theorem runZ (w : World) (os : OsState) : SLs (SA w.params os) = openGood qL nmL :=
 pP (runB w os) (pP (runC w os) (pP (runD w os) (pP (runE w os) (pP (runF w os) (pP (runG w os) (pP (runH w os) (pP (runI w os) (runJ w os))))))))
theorem runL (w : World) : HandSHeadRun.RunEq rL qL hkL obL 5678 nmL w:=fun os=>by
 show (EL w os).map (fun s=>(looksF rL.prog (boot_heap w.params) s.abs,SLs s.abs,obL s)) = some (true,openGood qL nmL,hkL.val w)
 rw [runS0 w os]
 show some (looksF rL.prog (boot_heap w.params) (SF w os).abs,SLs (SF w os).abs,obL (SF w os)) = _
 obtain ⟨e3,e4⟩:=Prod.mk.inj (runA w os)
 rw [e3,e4,SF_abs w os,runZ w os]
abbrev dL : DefRec:=HandSHeadRun.topDef rL.prog 71
theorem dL_name : dL.name = ("law" : Str):=by kernel_rfl
theorem dL_dflt : dL.params.defaults = []:=by kernel_rfl
end Gp
end
namespace Gr
open PySem PySem.Spec PyProof.Rows L2
theorem reads_ints {h : Heap} : ∀ {ns : List Int} {us : List Value},Vals (ns.map V.int) us→ReadsAll h us (ns.map PyData.int) []
 | [],_,.nil=>.nil
 | n :: ns,_ :: us,.cons r rs=>by
  obtain ⟨t,rfl⟩:=r
  exact ReadsAll.cons (as:=[]) (.int n t) (reads_ints rs)
theorem alike_ints (ns : List Int) : PySem.W.AlikeAll (ns.map PyData.int):=by
 refine ⟨fun x hx y hy=>?_,fun x hx=>?_⟩
 ·obtain ⟨a,_,rfl⟩:=List.mem_map.mp hx
  obtain ⟨b,_,rfl⟩:=List.mem_map.mp hy
  rfl
 ·obtain ⟨a,_,rfl⟩:=List.mem_map.mp hx
  exact fun z=>nomatch z
theorem depth_ints : ∀ ns : List Int,PyData.depthAll (ns.map PyData.int) = 0
 | []=>rfl
 | n :: ns=>by
  show max (PyData.int n).depth (PyData.depthAll (ns.map PyData.int)) = 0
  rw [depth_ints ns]
  rfl
theorem fold_max : ∀ (ns : List Int) (n : Int),(ns.foldl max n = n∨ns.foldl max n∈ns)∧n≤ns.foldl max n∧∀ y∈ns,y≤ns.foldl max n
 | [],n=>⟨.inl rfl,Int.le_refl _,fun _ m=>nomatch m⟩
 | k :: ns,n=>by
  obtain ⟨h1,h2,h3⟩:=fold_max ns (max n k)
  rw [List.foldl_cons]
  refine ⟨?_,by omega,fun y m=>?_⟩
  ·rcases h1 with h1 | h1
   ·rw [h1]
    by_cases e : n≤k
    ·exact .inr (by rw [Int.max_eq_right e]; exact List.mem_cons_self)
    ·exact .inl (Int.max_eq_left (by omega))
   ·exact .inr (List.mem_cons_of_mem _ h1)
  ·rcases List.mem_cons.mp m with rfl | m
   ·omega
   ·exact h3 y m
theorem fold_min : ∀ (ns : List Int) (n : Int),(ns.foldl min n = n∨ns.foldl min n∈ns)∧ns.foldl min n≤n∧∀ y∈ns,ns.foldl min n≤y
 | [],n=>⟨.inl rfl,Int.le_refl _,fun _ m=>nomatch m⟩
 | k :: ns,n=>by
  obtain ⟨h1,h2,h3⟩:=fold_min ns (min n k)
  rw [List.foldl_cons]
  refine ⟨?_,by omega,fun y m=>?_⟩
  ·rcases h1 with h1 | h1
   ·rw [h1]
    by_cases e : n≤k
    ·exact .inl (Int.min_eq_left e)
    ·exact .inr (by rw [Int.min_eq_right (by omega)]; exact List.mem_cons_self)
   ·exact .inr (List.mem_cons_of_mem _ h1)
  ·rcases List.mem_cons.mp m with rfl | m
   ·omega
   ·exact h3 y m
def Best (le : Int→Int→Prop) (ns : List Int) (d v : V) : Prop:=(ns = []∧v = d)∨∃ m,m∈ns∧(∀ y∈ns,le y m)∧v = .int m
def rBest (le : Int→Int→Prop) (K : PySem.W.Frag) : List V→List V→Hp→VK→Prop:=fun vs zs H Q=>∃ (a : Addr) (ns : List Int) (d : V),vs = [V.ref a]∧zs = [d]∧SqL K H a (ns.map V.int)∧∀ v,Best le ns d v→Q v H
section
variable {X : Cx}
theorem cr_maxDf (hc : X.calm = true) (hu : X.A.units + 1 < cLine) : CallRK X (.builtin "max") [Str.ofString "default"] (rBest (fun y m=>y≤m) X.K):=by
 intro pins s σ H xs zs us ws Q I r1 r2 h
 obtain ⟨a,ns,d,rfl,rfl,hs,q⟩:=h
 obtain ⟨its,rv,hl,_⟩:=I.list hs
 rw [Vals.ref1 r1]
 obtain ⟨u,rfl,ru⟩:=vals1 r2
 show wpAny _ _ (call (.builtin "max") [.ref a] [(Str.ofString "default", u)]) _ _ s
 refine PySem.W.max_list_default (xs:=ns.map PyData.int) (as:=[]) (I.ok.hd hc) hl.isList (by simpa using reads_ints rv) (alike_ints ns) (by rw [depth_ints]; exact hu) (fun e h' tk kp=>?_) (fun y ys i v h' tk bs e hv hr kp=>?_)
 ·exact ⟨d,H,I.kept kp,ru,q d (.inl ⟨List.map_eq_nil_iff.mp e,rfl⟩)⟩
 ·cases ns with
  | nil=>exact nomatch e
  | cons n ns =>
   rw [List.map_cons] at e
   injection e with e1 e2
   subst e1
   subst e2
   rw [PySem.W.maxD_ints] at hr
   cases hr with
   | int _ t =>
    obtain ⟨h1,h2,h3⟩:=fold_max ns n
    refine ⟨.int _,H,I.kept kp,⟨t,rfl⟩,q _ (.inr ⟨_,?_,fun y m=>?_,rfl⟩)⟩
    ·rcases h1 with h1 | h1
     ·rw [h1]
      exact List.mem_cons_self
     ·exact List.mem_cons_of_mem _ h1
    ·rcases List.mem_cons.mp m with rfl | m
     ·exact h2
     ·exact h3 y m
theorem cr_minDf (hc : X.calm = true) (hu : X.A.units + 1 < cLine) : CallRK X (.builtin "min") [Str.ofString "default"] (rBest (fun y m=>m≤y) X.K):=by
 intro pins s σ H xs zs us ws Q I r1 r2 h
 obtain ⟨a,ns,d,rfl,rfl,hs,q⟩:=h
 obtain ⟨its,rv,hl,_⟩:=I.list hs
 rw [Vals.ref1 r1]
 obtain ⟨u,rfl,ru⟩:=vals1 r2
 show wpAny _ _ (call (.builtin "min") [.ref a] [(Str.ofString "default", u)]) _ _ s
 refine PySem.W.min_list_default (xs:=ns.map PyData.int) (as:=[]) (I.ok.hd hc) hl.isList (by simpa using reads_ints rv) (alike_ints ns) (by rw [depth_ints]; exact hu) (fun e h' tk kp=>?_) (fun y ys i v h' tk bs e hv hr kp=>?_)
 ·exact ⟨d,H,I.kept kp,ru,q d (.inl ⟨List.map_eq_nil_iff.mp e,rfl⟩)⟩
 ·cases ns with
  | nil=>exact nomatch e
  | cons n ns =>
   rw [List.map_cons] at e
   injection e with e1 e2
   subst e1
   subst e2
   rw [PySem.W.minD_ints] at hr
   cases hr with
   | int _ t =>
    obtain ⟨h1,h2,h3⟩:=fold_min ns n
    refine ⟨.int _,H,I.kept kp,⟨t,rfl⟩,q _ (.inr ⟨_,?_,fun y m=>?_,rfl⟩)⟩
    ·rcases h1 with h1 | h1
     ·rw [h1]
      exact List.mem_cons_self
     ·exact List.mem_cons_of_mem _ h1
    ·rcases List.mem_cons.mp m with rfl | m
     ·exact h2
     ·exact h3 y m
end
section
variable {X : Cx} {pins : List (Addr × Obj)} {σ : L2.St} {H : Hp} {s : Shared}
theorem put_dict {H' : Hp} {E : Value→Shared→Prop} {D : Addr} {y v : V} {u r : Value} {A : Around} {Q : Unit→Shared→Prop} (hu : A.units + 1 < cLine) (I : Inv X pins σ H s) (g : DPut H D y v H') (ry : RelV y u) (rv : RelV v r) (h : ∀ s',Inv X pins σ H' s'→Q () s') :
  wpAny (model X.prog X.w) A (dictSet D u r) Q E s:=by
 rcases g with ⟨kvs,k,e,ey,lt,eH⟩ | ⟨kvs,k,b,e,ey,eb,lt,eH⟩
 ·subst ey eH
  obtain ⟨z,nd,vs,rel,dd⟩:=dk_of I.hok e
  have z1 : vs.length≤sizeLine:=by rw [← rel.length]; exact z
  have z2 : (putK kvs k v).length≤sizeLine:=by have:=length_putK kvs k v; omega
  refine wpAny_dictSet_pairs (hsz:=z1) (kV_is ry) dd fun g1 dd1 sb=>h _ ?_
  have there : ∃ q,g1.get? D = some q:=let ⟨q,_,_,hq,_⟩:=dd1; ⟨q,hq⟩
  exact d_write I (by rw [e]; exact True.intro) sb there (dk_new z2 nd (rel.put k rv) dd1)
 ·subst ey eH
  cases (show u = Value.ref b from ry)
  obtain ⟨z,nd,xs,rel,dd⟩:=dt_of I.hok e
  have z1 : xs.length≤sizeLine:=by rw [← Paired.length rel]; exact z
  have z2 : (putK kvs k v).length≤sizeLine:=by have:=length_putK kvs k v; omega
  refine wpAny_dictSet_heap (hsz:=z1) (show (tupleKind (mixKind X.prog X.w)).room A from Nat.lt_of_succ_lt hu) (key_of I.hok eb) dd fun g1 dd1 sb=>h _ ?_
  obtain ⟨q,es,ep,hq,k2,k3,k4,_,k5⟩:=dd1
  refine d_write I (by rw [e]; exact True.intro) sb ⟨q,hq⟩ ⟨z2,nd,_,(rel.put k eb rv).keeps fun c ys ec=>?_,q,es,ep,hq,k2,k3,k4,k5⟩
  rw [upd_ne (ne_of ec e (fun z=>nomatch z))]
  exact ec
end
def emptyD (t : Bool) : HO:=if t then .dT [] else .dK []
theorem emptyD_ok {P : Program} {w : World} {H : Hp} (t : Bool) (h : Heap) (hb : sysModules < h.objs.size) : ObjOk P w H (h.push { cls:=.type "dict", data:=.dict #[] }) h.objs.size (emptyD t):=by
 cases t
 ·exact dk_empty h hb
 ·exact dt_empty h hb
section
variable {X : Cx}
def tDcd (t : Bool) (wi : TI) (g : TG) (tt : TT) (tk tv : TE) (own : List Nat) : TE:=fun σ H Q=>wi σ H fun J H1=>∀ D,H1 D = none→∃ W : Nat→Nat→Hp→Prop,(∃ m,W 0 m (upd H1 D (emptyD t)))∧∀ i m H,W i m H →
 (J.stop i H∧Q (.ref D) H)∨(J.go i H∧∃ Nx : Hp→Prop,(∀ H',Nx H'→∃ m',m' < m∧W (i + 1) m' H')∧∀ x H',J.yld i H x H'→g x (wipe σ own) H' fun σ2 H2=>wipe σ2 own = wipe σ own∧tt σ2 H2 fun b H3 =>
  if b = true then tk σ2 H3 fun y H4=>tv σ2 H4 fun z H5=>∃ H6,DPut H5 D y z H6∧Nx H6 else Nx H3)
theorem dcd_core {pins : List (Addr × Obj)} {s : Shared} {σ : L2.St} {H : Hp} {Q : VK} {kx vx tg iter : Expr} {ifs : List Expr} {scope : Scope} {own : List (Str × Nat)} {pos pos' : Pos} {t : Bool} {wi : TI} {g : TG} {tt : TT} {tk tv : TE} {use : Option (Value→Sem Unit)} {Qf : Value→Shared→Prop}
  (hu : X.A.units + 1 < cLine) (hc : X.calm = true) (hN : X.N.Nodup) (I : Inv X pins σ H s) (hi : PI X tg iter wi) (ok : BlkOk X.N X.env.scope scope own)
  (hg : ∀ (s : Shared) (H : Hp) (C : Addr) (cl : List (Str × Addr)) (fp : List Addr),PG (X.blk s H scope (compEnvC scope cl C X.env) fp) tg g) (ht : ∀ (s : Shared) (H : Hp) (C : Addr) (cl : List (Str × Addr)) (fp : List Addr),PTs (X.blk s H scope (compEnvC scope cl C X.env) fp) ifs tt)
  (hky : ∀ (s : Shared) (H : Hp) (C : Addr) (cl : List (Str × Addr)) (fp : List Addr),PE (X.blk s H scope (compEnvC scope cl C X.env) fp) kx tk)
  (hvl : ∀ (s : Shared) (H : Hp) (C : Addr) (cl : List (Str × Addr)) (fp : List Addr),PE (X.blk s H scope (compEnvC scope cl C X.env) fp) vx tv) (hs : ∀ x,foldedSetIterable iter X.env x = pure x)
  (h : tDcd t wi g tt tk tv (own.map (·.2)) σ H Q)
  (fini : ∀ D C s' m H',Inv X pins σ H' s'→Q (.ref D) H'→s'.heap.Ns C m→FpOk X pins H' C→compPost (model X.prog X.w) X.A X.xe use Qf (.ref D) C (.ok .next) s') :
  wpAny (model X.prog X.w) X.A (comprehension (.DictComp kx vx [⟨tg,iter,ifs,0⟩] scope pos) scope X.env pos' newDict false (eval iter X.env) use) Qf X.xe s:=by
 have frees : ∀ y∈scope.names,y.2 = .free→∃ c,X.env.cells.lookup y.1 = some c:=fun y hy e=>by
  rcases ok.free y hy e with k | k
  ·exact I.ok.has _ (.inl k)
  ·exact I.ok.has _ (.inr k)
 refine wpAny_comprehension_free (use:=use) rfl hs (closure_ok frees) ok.kind (fun y hy e=>by rw [ok.uniq y hy,e])
  (thn (hi.run pins s σ H _ I h) fun xv t1 hx=>thn hx fun itv t2 h2=>?_)
 obtain ⟨it,fp,tn,J,H2,e,I2,T,st2,f2,q⟩:=h2
 subst e
 refine wpAny_newObj_type (newEnv_comp ?_)
 generalize hD : t2.heap.objs.size = D
 have nD : H2 D = none:=I2.hok.fresh (Nat.le_of_eq hD)
 obtain ⟨W,⟨m0,w0⟩,turn⟩:=q D nD
 generalize ht3 : ({ t2 with heap:=t2.heap.push { cls:=.type "dict", data:=.dict #[] } } : Shared) = t3
 have I3 : Inv X pins σ (upd H2 D (emptyD t)) t3:=by
  rw [← ht3]
  refine I2.laid (t':=t2.toks) (fun b o e=>Heap.get?_push_of_some _ e) (Nat.le_of_eq hD) ?_
  rw [← hD]
  exact emptyD_ok t t2.heap I2.big
 have h3 : t3.heap = t2.heap.push { cls:=.type "dict", data:=.dict #[] }:=by rw [← ht3]
 have lower : ∀ b∈fp,b < t2.heap.objs.size:=fun b hb=>by
  obtain ⟨o,e,_⟩:=T.obj _ _ st2 b hb
  exact Heap.lt_size e
 have f3 : ∀ b∈fp,FpOk X pins (upd H2 D (emptyD t)) b∧b < t3.heap.objs.size:=fun b hb=>by
  have hlt:=lower b hb
  refine ⟨⟨?_,(f2 b hb).2⟩,by rw [h3,Heap.size_push]; exact Nat.lt_succ_of_lt hlt⟩
  rw [upd_ne (by rw [← hD]; exact Nat.ne_of_lt hlt)]
  exact (f2 b hb).1
 have st3 : tn 0 t3.heap:=T.keep _ _ _ st2 fun b _ o e=>by rw [h3]; exact Heap.get?_push_of_some _ e
 have I4:=block_start I3 ok hN f3
 have pg:=hg t3 (upd H2 D (emptyD t)) t3.heap.objs.size (cellsFrom (t3.heap.objs.size + 1) scope.names (cloFrom X.env.cells scope.names [])) fp
 have pt:=ht t3 (upd H2 D (emptyD t)) t3.heap.objs.size (cellsFrom (t3.heap.objs.size + 1) scope.names (cloFrom X.env.cells scope.names [])) fp
 have pk:=hky t3 (upd H2 D (emptyD t)) t3.heap.objs.size (cellsFrom (t3.heap.objs.size + 1) scope.names (cloFrom X.env.cells scope.names [])) fp
 have pe:=hvl t3 (upd H2 D (emptyD t)) t3.heap.objs.size (cellsFrom (t3.heap.objs.size + 1) scope.names (cloFrom X.env.cells scope.names [])) fp
 show codeAny _ _ (.compStart (.DictComp kx vx [⟨tg,iter,ifs,0⟩] scope pos) 0 (.ref it) (.ref D) (compEnvC scope (cellsFrom (t3.heap.objs.size + 1) scope.names (cloFrom X.env.cells scope.names [])) t3.heap.objs.size X.env)) (compPost (model X.prog X.w) X.A X.xe use Qf (.ref D) t3.heap.objs.size) { t3 with heap:=pushCells (t3.heap.push { cls:=.type "dict", data:=.dict #[] }) scope.names }
 have nfp : ∀ b∈fp,(upd H2 D (emptyD t)) b = none:=fun b hb=>(f3 b hb).1.1
 generalize hce : compEnvC scope (cellsFrom (t3.heap.objs.size + 1) scope.names (cloFrom X.env.cells scope.names [])) t3.heap.objs.size X.env = ce at I4 pg pt pk pe ⊢
 have cL : ce.locals = t3.heap.objs.size:=by subst hce; rfl
 generalize hH3 : upd H2 D (emptyD t) = H3 at I3 I4 pg pt pk pe w0 nfp f3
 generalize ht4 : ({ t3 with heap:=pushCells (t3.heap.push { cls:=.type "dict", data:=.dict #[] }) scope.names } : Shared) = t4 at I4 ⊢
 have st4 : tn 0 t4.heap:=T.keep _ _ _ st3 fun b _ o e=>by rw [← ht4]; exact pushCells_keeps _ _ _ _ (Heap.get?_push_of_some _ e)
 have stat : ∀ {σ' : L2.St} {H' : Hp} {s' : Shared},Inv (X.blk t3 H3 scope ce fp) [] σ' H' s'→(∀ b∈fp,H' b = none)→∀ b∈fp,FpOk (X.blk t3 H3 scope ce fp) [] H' b:=fun {σ' H' s'} I' hn b hb =>
  ⟨hn b hb,(I'.ok.exf b hb).1,I'.ok.exfs b hb,.inl hb,fun x c e=>(I'.ok.exf b hb).2 x c e,fun p hp=>absurd (show p∈([] : List (Addr × Obj)) ++ [] from hp) (by simp)⟩
 have loop : codeAny (model X.prog X.w) X.A (.compLoop (.DictComp kx vx [⟨tg,iter,ifs,0⟩] scope pos) 0 (.ref it) (.ref D) ce) (compPost (model X.prog X.w) X.A X.xe use Qf (.ref D) t3.heap.objs.size) t4:=by
  refine compLoop_anyD (fun n s'=>∃ i H',Inv (X.blk t3 H3 scope ce fp) [] (wipe σ (own.map (·.2))) H' s'∧tn i s'.heap∧(∀ b∈fp,H' b = none)∧W i n H') ?_ m0 ⟨0,H3,I4,st4,nfp,w0⟩
  rintro n t5 ⟨i,H5,I5,st5,n5,w5⟩
  rcases turn i n H5 w5 with ⟨stop,qq⟩ | ⟨go,Nx,hNx,step⟩
  ·have td:=T.done (X.blk t3 H3 scope ce fp) rfl rfl rfl hc i [] t5 _ H5 (fun _ _=>False) I5 (stat I5 n5) st5 stop
   refine thnF td fun r t6 ⟨hr,I6⟩=>?_
   subst hr
   have I7 : Inv X pins σ H5 t6:=I3.call' (ch:=fp) I6.os I6.base I6.hok I6.bare fun b hb=>⟨(f3 b hb).1.2.2.2.1,(f3 b hb).1.2.1,(f3 b hb).1.2.2.2.2.1,(f3 b hb).1.2.2.2.2.2⟩
   have nC : H5 t3.heap.objs.size = none:=by
    have z : H5 ce.locals = none:=I6.free
    rw [cL] at z
    exact z
   obtain ⟨m,hn,_⟩:=I6.loc
   have hn : t6.heap.Ns ce.locals m:=hn
   rw [cL] at hn
   exact fini D t3.heap.objs.size t6 m H5 I7 qq hn (I3.fpOk (Nat.le_refl _) nC)
  ·have ti:=T.item (X.blk t3 H3 scope ce fp) rfl rfl rfl hc i [] t5 _ H5 (fun _ _=>False) I5 (stat I5 n5) st5 go
   refine thnF ti fun r t6 ⟨u,hr,h6⟩=>?_
   subst hr
   refine thnF h6 fun _ t7 ⟨x,H7,I7,r7,y7,st7,n7⟩=>?_
   have J7:=I7.pinned (stat I7 n7) (T.obj _ _ st7)
   refine thnF (pg.run _ t7 _ H7 x u _ J7 r7 (step x H7 y7)) fun _ t8 ⟨σ8,H8,I8,hw8,q8⟩=>?_
   refine thnF (pt.run _ t8 σ8 H8 _ I8 q8) fun b t9 ⟨H9,I9,q9⟩=>?_
   have last : ∀ {s' : Shared} {H' : Hp},Inv (X.blk t3 H3 scope ce fp) ([] ++ pinsAt fp t7.heap) σ8 H' s'→Nx H'→∃ m,m < n∧∃ i H',Inv (X.blk t3 H3 scope ce fp) [] (wipe σ (own.map (·.2))) H' s'∧tn i s'.heap∧(∀ b∈fp,H' b = none)∧W i m H':=fun {s' H'} I' nx=>by
    obtain ⟨m',hm,w'⟩:=hNx H' nx
    have pin' : ∀ b∈fp,∀ o,t7.heap.get? b = some o→s'.heap.get? b = some o∧H' b = none:=fun b hb o e =>
     let z:=I'.pin (b,o) (List.mem_append_right _ (List.mem_append_right _ (mem_pinsAt hb e)))
     ⟨z.1,z.2.1⟩
    have hl : (wipe σ (own.map (·.2))).length = σ8.length:=by rw [← hw8,wipe_length]
    refine ⟨m',hm,i + 1,H',(I'.unpinned (pins:=[])).weak hl (fun j v e=>?_),T.keep _ _ _ st7 fun b hb o e=>(pin' b hb o e).1,fun b hb=>?_,w'⟩
    ·rw [← hw8] at e
     exact (wipe_some e).1
    ·obtain ⟨o,e,_⟩:=T.obj _ _ st7 b hb
     exact (pin' b hb o e).2
   cases b with
   | false =>
    simp only [Bool.false_eq_true,if_false] at q9 ⊢
    exact last I9 q9
   | true =>
    simp only [if_true] at q9 ⊢
    refine thnF (pk.run _ t9 σ8 H9 _ I9 q9) fun z t10 ⟨yk,H10,I10,r10,q10⟩=>?_
    refine thnF (pe.run _ t10 σ8 H10 _ I10 q10) fun z2 t11 ⟨yv,H11,I11,r11,H12,put,nx⟩=>?_
    exact put_dict (X:=X.blk t3 H3 scope ce fp) hu I11 put r10 r11 fun t12 I12=>last I12 nx
 exact codeAny_compStart_dict loop (T.self X.A 0 _ _ _ st4 loop)
theorem pe_dcd {kx vx tg iter : Expr} {ifs : List Expr} {scope : Scope} {own : List (Str × Nat)} {pos : Pos} (t : Bool) {wi : TI} {g : TG} {tt : TT} {tk tv : TE} (hu : X.A.units + 1 < cLine) (hc : X.calm = true) (hN : X.N.Nodup) (hi : PI X tg iter wi) (ok : BlkOk X.N X.env.scope scope own)
  (hg : ∀ (s : Shared) (H : Hp) (C : Addr) (cl : List (Str × Addr)) (fp : List Addr),PG (X.blk s H scope (compEnvC scope cl C X.env) fp) tg g) (ht : ∀ (s : Shared) (H : Hp) (C : Addr) (cl : List (Str × Addr)) (fp : List Addr),PTs (X.blk s H scope (compEnvC scope cl C X.env) fp) ifs tt)
  (hky : ∀ (s : Shared) (H : Hp) (C : Addr) (cl : List (Str × Addr)) (fp : List Addr),PE (X.blk s H scope (compEnvC scope cl C X.env) fp) kx tk)
  (hvl : ∀ (s : Shared) (H : Hp) (C : Addr) (cl : List (Str × Addr)) (fp : List Addr),PE (X.blk s H scope (compEnvC scope cl C X.env) fp) vx tv) (hs : ∀ x,foldedSetIterable iter X.env x = pure x:=by intro _; rfl) :
  PE X (.DictComp kx vx [⟨tg,iter,ifs,0⟩] scope pos) (tDcd t wi g tt tk tv (own.map (·.2))):=by
 refine ⟨fun pins s σ H Q I h=>?_⟩
 rw [arm_eval_DictComp]
 refine dcd_core hu hc hN I hi ok hg ht hky hvl hs h fun D C s' m H' I' q hn f=>⟨m,hn,fun h'' sb=>?_⟩
 obtain ⟨f0,f1,f2,f3,f4,f5⟩:=f
 exact ⟨.ref D,H',I'.turned (t':=s'.toks) (fun b o hb e=>(sb.2 b hb).trans e) f0 f1 f3 f4 f5,rfl,q⟩
end
def Itdt (d : Addr) (o : Obj) (kvs : List (List Key × V)) : It :=
 ⟨fun i H=>H d = some (.frz o (.dT kvs))∧i < kvs.length,fun i H x H'=>H' = H∧∃ k,kvs[i]? = some (k,x),fun i H=>H d = some (.frz o (.dT kvs))∧kvs.length≤i⟩
theorem frz_vals {X : Cx} {pins : List (Addr × Obj)} {σ : L2.St} {H : Hp} {s : Shared} {d : Addr} {o : Obj} {kvs : List (List Key × V)} (I : Inv X pins σ H s) (h : H d = some (.frz o (.dT kvs))) :
  (d == sysModules) = false∧s.heap.get? d = some o∧o.ExactDict∧∃ (es : Array DictEntry) (ep : Nat),o.data = .dict es ep∧es.size = kvs.length ∧
   ∀ (i : Nat) (k : List Key) (v : V),kvs[i]? = some (k,v)→∃ en : DictEntry,es[i]? = some en∧RelV v en.val:=by
 obtain ⟨hd,z,hs,xs,pr,o',es,ep,ho,hx,hdt,he,_⟩:=I.hok d _ h
 rw [hd] at ho
 cases ho
 refine ⟨hs,hd,hx,es,ep,hdt,?_,fun i k v e=>?_⟩
 ·have l1 : es.size = xs.length:=size_of_entries he
  have l2 : kvs.length = xs.length:=Paired.length pr
  omega
 ·obtain ⟨b,hb,e1,e2,e3⟩:=paired_get pr e
  have q:=entry_at he i
  rw [hb] at q
  exact ⟨_,q,e3⟩
section
variable {P : Program} {w : World} {K : PySem.W.Frag} {tg : Expr} {d : Addr} {o : Obj} {es : Array DictEntry} {ep : Nat}
theorem turn_valsT {kvs : List (List Key × V)} (it : Addr) (hod : o.data = .dict es ep) (hz : es.size = kvs.length) : Turn P w K tg (Itdt d o kvs) [it] it (fun i h=>h.IsValIter it d i es.size ep) where
 mem:=by simp
 obj:=fun i h st b hb=>by
  have e : b = it:=by simpa using hb
  subst e
  obtain ⟨oi,e,cc,dd⟩:=st
  exact ⟨oi,e,fun v z=>by rw [dd] at z; cases z⟩
 keep:=fun i h h' st kk=>st.at fun oi e=>kk it (by simp) oi e
 item:=by
  intro X hP hw hK hc i pins s σ H E I hf st hg
  subst hP hw hK
  obtain ⟨hd,hi⟩:=hg
  obtain ⟨f0,f1,f2,f3,f4,f5⟩:=hf it (by simp)
  obtain ⟨hs,hgd,hx,es',ep',hdt,hsz,ent⟩:=frz_vals I hd
  obtain ⟨rfl,rfl⟩:=dict_ep hod hdt
  obtain ⟨⟨k,v⟩,hkv⟩ : ∃ p,kvs[i]? = some p:=⟨kvs[i],List.getElem?_eq_getElem hi⟩
  obtain ⟨en,hen,rv⟩:=ent i k v hkv
  have hlt : i < es'.size:=by omega
  have een : es'[i] = en:=by
   rw [Array.getElem?_eq_getElem hlt] at hen
   exact Option.some.inj hen
  refine wpAny_pyNext_values_item_raw st ⟨o,hgd,hx,hdt⟩ hlt fun g1 st1 sb=>?_
  have I1 : Inv X pins σ H { s with heap:=g1 }:=I.turned (t':=s.toks) (fun b ob hb e=>(sb.2 b hb).trans e) f0 f1 f3 f4 f5
  obtain ⟨oi,e,cc,dd⟩:=id st1
  refine ⟨es'[i].val,rfl,go_of (s:={ s with heap:=g1 }) e cc dd (by decide) ⟨v,H,I1,?_,⟨rfl,k,hkv⟩,st1,fun b hb=>(hf b hb).1⟩⟩
  rw [een]
  exact rv
 done:=by
  intro X hP hw hK hc i pins s σ H E I hf st hg
  subst hP hw hK
  obtain ⟨hd,hi⟩:=hg
  obtain ⟨f0,f1,f2,f3,f4,f5⟩:=hf it (by simp)
  obtain ⟨hs,hgd,hx,es',ep',hdt,hsz,ent⟩:=frz_vals I hd
  obtain ⟨rfl,rfl⟩:=dict_ep hod hdt
  exact wpAny_pyNext_values_end_raw (I.ok.hd hc) st ⟨o,hgd,hx,hdt⟩ (by omega) fun g1 eb=>⟨rfl,I.turned (t':=s.toks) (fun b ob hb e=>eb b ob hb e) f0 f1 f3 f4 f5⟩
 self:=fun A i s Q E st h=>wpAny_pyIter_valiter st h
theorem walk_valuesT {kvs : List (List Key × V)} : Walk (Itdt d o kvs) kvs.length (fun H=>H d = some (.frz o (.dT kvs))) (fun i H x H'=>H' = H∧∃ k,kvs[i]? = some (k,x)) :=
 ⟨fun i H hi g=>⟨g,hi⟩,fun H g=>⟨g,Nat.le_refl _⟩,fun i H x H' hi g y=>y⟩
end
theorem dcd_it {J : It} {n : Nat} {G : Hp→Prop} {Y : Nat→Hp→V→Hp→Prop} (w : Walk J n G Y) {t : Bool} {g : TG} {tt : TT} {tk tv : TE} {own : List Nat} {σ : L2.St} {H1 : Hp} {D : Addr} {Qd : Hp→Prop} (Pv : Nat→Hp→Prop) (h0 : Pv 0 (upd H1 D (emptyD t))) (hG : ∀ i H,i≤n→Pv i H→G H)
  (hs : ∀ i x H H',i < n→Pv i H→Y i H x H'→g x (wipe σ own) H' fun σ2 H2=>wipe σ2 own = wipe σ own∧tt σ2 H2 fun b H3 =>
   if b = true then tk σ2 H3 fun y H4=>tv σ2 H4 fun z H5=>∃ H6,DPut H5 D y z H6∧Pv (i + 1) H6 else Pv (i + 1) H3) (hd : ∀ H,Pv n H→Qd H) :
  ∃ W : Nat→Nat→Hp→Prop,(∃ m,W 0 m (upd H1 D (emptyD t)))∧∀ i m H,W i m H →
   (J.stop i H∧Qd H)∨(J.go i H∧∃ Nx : Hp→Prop,(∀ H',Nx H'→∃ m',m' < m∧W (i + 1) m' H')∧∀ x H',J.yld i H x H'→g x (wipe σ own) H' fun σ2 H2=>wipe σ2 own = wipe σ own∧tt σ2 H2 fun b H3 =>
    if b = true then tk σ2 H3 fun y H4=>tv σ2 H4 fun z H5=>∃ H6,DPut H5 D y z H6∧Nx H6 else Nx H3):=by
 refine ⟨fun i m H=>m = n - i∧i≤n∧Pv i H,⟨n,by simp,Nat.zero_le _,h0⟩,?_⟩
 rintro i m G1 ⟨rfl,hi,p⟩
 have gg:=hG i G1 hi p
 by_cases hlt : i < n
 ·exact .inr ⟨w.goes i G1 hlt gg,Pv (i + 1),fun G2 p2=>⟨n - (i + 1),by omega,rfl,hlt,p2⟩,fun x G2 y=>hs i x G1 G2 hlt p (w.yields i G1 x G2 hlt gg y)⟩
 ·have e : i = n:=by omega
  subst e
  exact .inl ⟨w.stops G1 gg,hd G1 p⟩
def iValsT (td : TE) : TI:=fun σ H R=>td σ H fun x H1=>∃ d o kvs,x = .ref d∧H1 d = some (.frz o (.dT kvs))∧R (Itdt d o kvs) H1
theorem pi_valuesT {X : Cx} {tg e : Expr} {td : TE} {apos cpos : Pos} (he : PE X e td) (hbase : attributeBase e "values" X.env (eval e X.env) = eval e X.env:=by rfl) (hline : (apos.endLine == cpos.line) = true:=by rfl) : PI X tg (.Call (.Attribute e "values" apos) [] [] cpos) (iValsT td):=by
 refine ⟨fun pins s σ H R I h=>?_⟩
 refine wpAny_Call_method (T := "dict") (id := "dict.values") hbase rfl hline F.plainAttrs_dict F.slot_dict_values F.type_dict_values (thn (he.run pins s σ H _ I h) fun u t1 ⟨x,H1,I1,rx,d,o,kvs,ex,hd,q⟩=>?_)
 subst ex
 obtain rfl : u = Value.ref d:=rx
 obtain ⟨hs,hgd,hx,es,ep,hdt,hsz,ent⟩:=frz_vals I1 hd
 have raw : t1.heap.DictRaw d es ep:=⟨o,hgd,hx,hdt⟩
 refine ⟨raw.typeIs,?_,?_⟩
 ·exact fun b eb=>by cases eb; exact ⟨o,hgd,hx.2.1⟩
 have I2 : Inv X pins σ H1 { t1 with heap:=t1.heap.push { cls:=.type "dict_values", data:=.fields #[.ref d] } }:=I1.kept (t':=t1.toks) fun b ob q=>Heap.get?_push_of_some _ q
 have fin : wpAny (model X.prog X.w) X.A (pyIter (.ref t1.heap.objs.size)) (PIE X pins σ tg R) X.xe { t1 with heap:=t1.heap.push { cls:=.type "dict_values", data:=.fields #[.ref d] } }:=by
  refine wpAny_pyIter_values_raw (d:=d) ⟨_,Heap.get?_push_size _ rfl,rfl,rfl⟩ (raw.at fun ob e=>Heap.get?_push_of_some _ e) (pi_one (tk:=t1.toks) I2 _ (turn_valsT _ hdt hsz) ⟨_,Heap.get?_push_size _ rfl,rfl,?_⟩ q)
  rfl
 show wpAny _ _ (callWith cpos (.builtin "dict.values") [.ref d] [] []) _ X.xe t1
 exact method_meetsIn F.slot_dict_values F.entry_dict_values rfl (PySem.evalArgs_none ⟨rfl,raw.typeIs,F.args_dict_values_1 _,_,meets_dict_values_raw d hs,⟨es,ep,raw⟩,fin⟩)
end Gr
namespace Gr
open PySem PySem.Spec PyProof.Rows L2
section
variable {X : Cx}
theorem ps_setDc {i : Nat} {y : Str} {py : Pos} {kx vx tg iter : Expr} {ifs : List Expr} {scope : Scope} {own : List (Str × Nat)} {pos spos : Pos} (t : Bool) {wi : TI} {g : TG} {tt : TT} {tk tv : TE} (hu : X.A.units + 1 < cLine) (hc : X.calm = true) (hN : X.N.Nodup) (hy : X.N[i]? = some y) (hyl : X.env.scope.names.lookup y = some .local)
  (hsw : swapsWith (.DictComp kx vx [⟨tg,iter,ifs,0⟩] scope pos) (some (.Name y py)) spos.line X.env = pure true) (hi : PI X tg iter wi) (ok : BlkOk X.N X.env.scope scope own)
  (hg : ∀ (s : Shared) (H : Hp) (C : Addr) (cl : List (Str × Addr)) (fp : List Addr),PG (X.blk s H scope (compEnvC scope cl C X.env) fp) tg g) (ht : ∀ (s : Shared) (H : Hp) (C : Addr) (cl : List (Str × Addr)) (fp : List Addr),PTs (X.blk s H scope (compEnvC scope cl C X.env) fp) ifs tt)
  (hky : ∀ (s : Shared) (H : Hp) (C : Addr) (cl : List (Str × Addr)) (fp : List Addr),PE (X.blk s H scope (compEnvC scope cl C X.env) fp) kx tk)
  (hvl : ∀ (s : Shared) (H : Hp) (C : Addr) (cl : List (Str × Addr)) (fp : List Addr),PE (X.blk s H scope (compEnvC scope cl C X.env) fp) vx tv) (hs : ∀ x,foldedSetIterable iter X.env x = pure x:=by intro _; rfl) :
  PS X (.Assign [.Name y py] (.DictComp kx vx [⟨tg,iter,ifs,0⟩] scope pos) spos) (tAsg (tDcd t wi g tt tk tv (own.map (·.2))) (gName i)):=by
 refine ⟨fun pins s σ H D I h=>?_⟩
 rw [exec_Assign_Name_used _ _ _ _ hsw]
 refine wpAny_bind (wpAny_standAt (wpAny_bind ?_))
 show wpAny _ X.A (do let _ ← comprehension (.DictComp kx vx [⟨tg,iter,ifs,0⟩] scope pos) scope X.env (firstIterPos [⟨tg,iter,ifs,0⟩] pos) newDict false (eval iter X.env) (some (assign (.Name y py) X.env))) _ _ s
 have h : tDcd t wi g tt tk tv (own.map (·.2)) σ H (fun x H1=>gName i x σ H1 D.nx):=h
 refine wpAny_bind (thn (dcd_core (Qf:=fun _ s'=>SP X pins D .next s') hu hc hN I hi ok hg ht hky hvl hs h fun L C s' m H' I' q hn f=>?_) fun _ s' hq=>wpAny_pure (wpAny_pure hq))
 show wpAny _ _ (assign (.Name y py) X.env (.ref L)) _ _ _
 refine wpAny_assign_Name (store_ok2 (v:=V.ref L) I' hN hy (.inl hyl) rfl (fun s2 I2 ⟨a,sb,ha⟩=>?_) (.inr hyl))
 obtain ⟨f0,f1,f2,f3,f4,f5⟩:=f
 have haC : C≠a:=by
  rcases ha with z | z
  ·rw [z]; exact f1
  ·exact fun e=>f4 y a z e.symm
 refine ⟨m,hn.sameBut sb haC,fun h3 sb3=>?_⟩
 exact ⟨_,H',I2.turned (t':=s2.toks) (fun b o hb e=>(sb3.2 b hb).trans e) f0 f1 f3 f4 f5,q⟩
theorem sw_trueD {kx vx : Expr} {gs : List Comprehension} {scope : Scope} {pos py : Pos} {y : Str} {l : Nat} {env : Env} (hk : env.scope.kind = .function) (hy : env.scope.names.lookup y = some .local) (hl : (py.line == pos.line) = true)
  (ha : (scope.names.any fun (n,k)=>n == y && (k == .local || k == .cell)) = false) : swapsWith (.DictComp kx vx gs scope pos) (some (.Name y py)) l env = pure true:=by
 have ky : env.kindOf y = some .local:=hy
 have hb : env.blockKind = .function:=by unfold Env.blockKind; rw [hk]; rfl
 unfold swapsWith
 simp only [hb,ky,ha,Expr.pos,hl]
 rfl
end
end Gr
namespace Tg
open PySem PySem.Spec PyProof.Rows L2
/-- the masks of tables of 8 to 256 slots -/
def Mk (m : Nat) : Prop:=m = 7∨m = 15∨m = 31∨m = 63∨m = 127∨m = 255
theorem Mk.all {p : Nat→Prop} (h7 : p 7) (h15 : p 15) (h31 : p 31) (h63 : p 63) (h127 : p 127) (h255 : p 255) {m : Nat} (k : Mk m) : p m:=by
 rcases k with rfl | rfl | rfl | rfl | rfl | rfl <;> assumption
theorem Mk.bd {m : Nat} (k : Mk m) : 7≤m∧m≤255∧m % 2 = 1:=by
 rcases k with rfl | rfl | rfl | rfl | rfl | rfl <;> decide
/-- so many places on the round,from one on -/
def ring (m : Nat) : Nat→Nat→List Nat
 | 0,_=>[]
 | f + 1,c=>c :: ring m f ((c * 5 + 1) % (m + 1))
theorem lcg_from (m i : Nat) : ∀ k,lcgI m ((i * 5 + 1) % (m + 1)) k = lcgI m i (k + 1)
 | 0=>rfl
 | k + 1=>congrArg (fun x=>(x * 5 + 1) % (m + 1)) (lcg_from m i k)
theorem lcg_then (m i a : Nat) : ∀ k,lcgI m (lcgI m i a) k = lcgI m i (a + k)
 | 0=>rfl
 | k + 1=>congrArg (fun x=>(x * 5 + 1) % (m + 1)) (lcg_then m i a k)
theorem of_ring {m j : Nat} : ∀ f c,j∈ring m f c→∃ k,k < f∧lcgI m c k = j
 | 0,_,z=>nomatch z
 | f + 1,c,z=>by
  rcases List.mem_cons.mp z with rfl | z
  ·exact ⟨0,Nat.succ_pos f,rfl⟩
  ·obtain ⟨k,lt,e⟩:=of_ring f _ z
   exact ⟨k + 1,Nat.succ_lt_succ lt,(lcg_from m c k).symm.trans e⟩
def whole (m : Nat) : Bool:=(ring m (m + 2) 0)[m + 1]? == some 0 && (List.range (m + 1)).all fun j=>(ring m (m + 1) 0).contains j
theorem whole_ok {m : Nat} (k : Mk m) : whole m = true :=
 k.all (p:=fun m=>whole m = true) (by decide +kernel) (by decide +kernel) (by decide +kernel) (by decide +kernel) (by decide +kernel) (by decide +kernel)
theorem ring_at (m : Nat) : ∀ f c k,k < f→(ring m f c)[k]? = some (lcgI m c k)
 | 0,_,_,z=>absurd z (Nat.not_lt_zero _)
 | _ + 1,_,0,_=>rfl
 | f + 1,c,k + 1,z=>by
  show (ring m f ((c * 5 + 1) % (m + 1)))[k]? = _
  rw [ring_at m f _ k (Nat.lt_of_succ_lt_succ z),lcg_from]
/-- from each place to each other one within a round -/
theorem around {m : Nat} (mk : Mk m) {i j : Nat} (hi : i≤m) (hj : j≤m) : ∃ k,k≤m∧lcgI m i k = j:=by
 have w:=whole_ok mk
 unfold whole at w
 rw [Bool.and_eq_true,beq_iff_eq,ring_at m _ _ _ (Nat.lt_succ_self _),List.all_eq_true] at w
 have back : lcgI m 0 (m + 1) = 0:=Option.some.inj w.1
 have get : ∀ x,x≤m→∃ k,k < m + 1∧lcgI m 0 k = x:=fun x hx=>of_ring (m + 1) 0 (List.contains_iff_mem.mp (w.2 x (List.mem_range.mpr (Nat.lt_succ_of_le hx))))
 obtain ⟨a,la,rfl⟩:=get i hi
 obtain ⟨b,lb,rfl⟩:=get j hj
 by_cases c : a≤b
 ·refine ⟨b - a,by omega,?_⟩
  rw [lcg_then,show a + (b - a) = b by omega]
 ·refine ⟨b + (m + 1) - a,by omega,?_⟩
  rw [lcg_then,show a + (b + (m + 1) - a) = (m + 1) + b by omega,← lcg_then,back]
theorem meets {m : Nat} (mk : Mk m) (h : Int) {j : Nat} (hj : j≤m) : ∃ n,n≤m + 12∧runI m (SetTable.bits h) n = j:=by
 obtain ⟨k,le,e⟩:=around mk (runI_le m (SetTable.bits h) 12) hj
 exact ⟨12 + k,by omega,(runI_tail (bits_lt h) k).trans e⟩
theorem way_in (m : Nat) (h : Int) (k : Nat) : way m h k≤m:=by
 have lt : SetTable.bits h % (m + 1) < m + 1:=Nat.mod_lt _ (Nat.succ_pos _)
 have bd:=runEnd_bd (Nat.le_of_lt_succ lt)
 have z : (nth m (runAt m (SetTable.bits h % (m + 1)) (SetTable.bits h)) k).j + _≤m:=nth_in k _ (by unfold runAt; dsimp only; omega)
 exact Nat.le_trans (Nat.le_add_right _ _) z
/-- a table in which each is found from its hash -/
structure Tab (t : SetTable) (hs : List Int) : Prop where
 ris : Ris t.place.toList
 dm : t.dummies = #[]
 sz : t.place.size = hs.length
 mok : Mk t.mask
 bd : ∀ x∈t.place.toList,x≤t.mask
 reach : ∀ (i : Nat) (h : Int) (j : Nat),hs[i]? = some h→t.place.toList[i]? = some j→∃ k,way t.mask h k = j∧∀ d,d < k→way t.mask h d∈t.place.toList
variable {t : SetTable} {hs : List Int}
theorem Tab.len (T : Tab t hs) : t.place.toList.length = hs.length:=by rw [Array.length_toList,T.sz]
theorem Tab.first (T : Tab t hs) (le : hs.length≤t.mask) (h : Int) : ∃ K,K < 10 * SetTable.turns t.mask∧way t.mask h K ∉ t.place.toList∧∀ k,k < K→way t.mask h k∈t.place.toList:=by
 obtain ⟨j,lt,no⟩:=st_missing t.place.toList (t.mask + 1) (by rw [T.len]; exact Nat.lt_succ_of_le le)
 obtain ⟨n,ln,rfl⟩:=meets T.mok h (Nat.le_of_lt_succ lt)
 obtain ⟨k,lk,e⟩:=run_nth t.mask (SetTable.bits h) n
 have no' : way t.mask h k ∉ t.place.toList:=by
  show (nth _ _ _).j ∉ _
  rw [e]
  exact no
 obtain ⟨K,h1,h2,h3⟩:=st_least (p:=fun k=>way t.mask h k ∉ t.place.toList) k no'
 exact ⟨K,by unfold SetTable.turns; omega,h2,fun d ld=>Classical.not_not.mp (h3 d ld)⟩
theorem Tab.before (T : Tab t hs) {h : Int} {K i j : Nat} (no : way t.mask h K ∉ t.place.toList) (hi : hs[i]? = some h) (hj : t.place.toList[i]? = some j) : ∃ k,k < K∧way t.mask h k = j:=by
 obtain ⟨k,e,all⟩:=T.reach i h j hi hj
 refine ⟨k,?_,e⟩
 rcases Nat.lt_trichotomy k K with c | rfl | c
 ·exact c
 ·exact absurd (e ▸ List.mem_of_getElem? hj) no
 ·exact absurd (all K c) no
/-- one more,at the first free place of its way -/
theorem Tab.put (T : Tab t hs) {h : Int} {K : Nat} (no : way t.mask h K ∉ t.place.toList) (all : ∀ k,k < K→way t.mask h k∈t.place.toList) :
  (t.put (way t.mask h K)).2 = SetTable.below t.place (way t.mask h K)∧SetTable.below t.place (way t.mask h K)≤hs.length ∧
  Tab (t.put (way t.mask h K)).1 (hs.take (SetTable.below t.place (way t.mask h K)) ++ h :: hs.drop (SetTable.below t.place (way t.mask h K))) ∧
  (t.put (way t.mask h K)).1.mask = t.mask∧(t.put (way t.mask h K)).1.led = t.led∧(t.put (way t.mask h K)).1.fill = hs.length + 1:=by
 have jm:=way_in t.mask h K
 obtain ⟨j,ej⟩ : ∃ j,way t.mask h K = j:=⟨_,rfl⟩
 rw [ej] at no jm ⊢
 obtain ⟨le,-,-⟩:=below_cut T.ris j
 obtain ⟨p,ep⟩ : ∃ p,SetTable.below t.place j = p:=⟨_,rfl⟩
 have pp : (t.put j).1.place.toList = t.place.toList.take p ++ j :: t.place.toList.drop p:=ep ▸ put_place t j
 have lp : p≤t.place.toList.length:=by rw [Array.length_toList,← ep]; exact le
 have lh : p≤hs.length:=T.len ▸ lp
 have ps : (t.put j).1.place.size = hs.length + 1:=by rw [← Array.length_toList,pp,len_ins _ lp,T.len]
 have mono : ∀ {x},x∈t.place.toList→x∈(t.put j).1.place.toList:=fun z=>by rw [pp]; exact mem_ins.mpr (.inr z)
 have mine : j∈(t.put j).1.place.toList:=by rw [pp]; exact mem_ins.mpr (.inl rfl)
 rw [ep]
 refine ⟨ep,lh,{ ris:=?_,dm:=put_dm T.dm j,sz:=ps.trans (len_ins hs lh h).symm,mok:=T.mok,bd:=fun x z=>?_,reach:=fun i h' j' a b=>?_ },rfl,rfl,?_⟩
 ·refine ris_insert T.ris fun e=>no ?_
  rw [← Array.getElem?_toList] at e
  exact List.mem_of_getElem? e
 ·rw [pp] at z
  exact (mem_ins.mp z).elim (fun e=>e ▸ jm) (T.bd x)
 ·rw [tins_get hs lh] at a
  rw [pp,tins_get _ lp] at b
  have old : ∀ i,hs[i]? = some h'→t.place.toList[i]? = some j'→∃ k,way t.mask h' k = j'∧∀ d,d < k→way t.mask h' d∈(t.put j).1.place.toList:=fun i a b=>by
   obtain ⟨k,e,z⟩:=T.reach i h' j' a b
   exact ⟨k,e,fun d ld=>mono (z d ld)⟩
  rcases Nat.lt_trichotomy i p with c | c | c
  ·rw [if_pos c] at a b
   exact old i a b
  ·rw [if_neg (by omega),if_pos c] at a b
   cases a
   cases b
   exact ⟨K,ej,fun d ld=>mono (all d ld)⟩
  ·rw [if_neg (by omega),if_neg (by omega)] at a b
   exact old _ a b
 ·unfold SetTable.fill
  rw [put_dm T.dm j,ps]
  rfl
/-- a place for a hash among owners,where one is free -/
theorem seat {m : Nat} (mk : Mk m) (o : Array (Option Nat)) (h : Int) {j : Nat} (hj : j≤m) (fr : oAt o j = none) :
  ∃ K,SetTable.layClean.free m o (SetTable.turns m) (SetTable.bits h % (m + 1)) (SetTable.bits h) = some (way m h K)∧oAt o (way m h K) = none∧∀ k,k < K→oAt o (way m h k)≠none:=by
 obtain ⟨n,le,e⟩:=meets mk h hj
 have at' : way m h (off m (SetTable.bits h % (m + 1)) (SetTable.bits h) n) = j:=by
  unfold way
  rw [nth_off,itL_run]
  exact e
 obtain ⟨K,lK,h2,h3⟩:=st_least (p:=fun k=>oAt o (way m h k) = none) _ (show oAt o (way m h _) = none by rw [at']; exact fr)
 refine ⟨K,free_spec m o _ n _ _ K (by unfold SetTable.turns; omega) lK (fun k lk=>?_) ?_,h2,h3⟩
 ·exact Option.isNone_eq_false_iff.mpr (Option.isSome_iff_ne_none.mpr (h3 k lk))
 ·exact Option.isNone_iff_eq_none.mpr h2
theorem more {m : Nat} (mk : Mk m) {ds : List Int} {o : Array (Option Nat)} (W : Own m ds o) (le : ds.length≤m) (h : Int) :
  ∃ j,SetTable.layClean.free m o (SetTable.turns m) (SetTable.bits h % (m + 1)) (SetTable.bits h) = some j∧Own m (ds ++ [h]) (o.setIfInBounds j (some ds.length)):=by
 obtain ⟨ps,lps,ips⟩:=W.ps
 obtain ⟨j0,l0,n0⟩:=st_missing ps (m + 1) (by omega)
 have f0 : oAt o j0 = none:=Classical.byContradiction fun c=>n0 (ips j0 (Nat.le_of_lt_succ l0) c)
 obtain ⟨K,e,fr,full⟩:=seat mk o h (Nat.le_of_lt_succ l0) f0
 obtain ⟨j,ej⟩ : ∃ j,way m h K = j:=⟨_,rfl⟩
 have jm : j≤m:=ej ▸ way_in m h K
 rw [ej] at e fr
 have self : oAt (o.setIfInBounds j (some ds.length)) j = some ds.length:=oAt_set_self _ (by rw [W.sz]; omega)
 have other : ∀ {i},i≠j→oAt (o.setIfInBounds j (some ds.length)) i = oAt o i:=fun n=>oAt_set_ne _ n
 have up : ∀ {i},oAt o i≠none→oAt (o.setIfInBounds j (some ds.length)) i≠none:=fun {i} n=>by
  rw [other fun z=>n (by rw [z]; exact fr)]
  exact n
 refine ⟨j,e,{ sz:=by rw [Array.size_setIfInBounds,W.sz],at_:=fun i k li z=>?_,all:=fun k lk=>?_,ps:=⟨j :: ps,by simp [lps],fun i li z=>?_⟩ }⟩
 ·by_cases c : i = j
  ·subst c
   cases self.symm.trans z
   exact ⟨h,K,by simp,ej,fun d ld=>up (full d ld)⟩
  ·rw [other c] at z
   obtain ⟨h',K',a,b,q⟩:=W.at_ i k li z
   exact ⟨h',K',by rw [List.getElem?_append_left (List.getElem?_eq_some_iff.mp a).1]; exact a,b,fun d ld=>up (q d ld)⟩
 ·by_cases c : k < ds.length
  ·obtain ⟨i,li,z⟩:=W.all k c
   exact ⟨i,li,by rw [other fun y=>by rw [y,fr] at z; cases z]; exact z⟩
  ·have : k = ds.length:=by simp at lk; omega
   exact ⟨j,jm,this ▸ self⟩
 ·by_cases c : i = j
  ·exact c ▸ List.mem_cons_self
  ·rw [other c] at z
   exact List.mem_cons_of_mem _ (ips i li z)
theorem seats {m : Nat} (mk : Mk m) : ∀ (rs ds : List Int) (o : Array (Option Nat)),Own m ds o→(ds ++ rs).length≤m →
  ∃ o',rs.foldl (stepF m) (some (o,ds.length)) = some (o',(ds ++ rs).length)∧Own m (ds ++ rs) o'
 | [],ds,o,W,_=>⟨o,by rw [List.append_nil]; rfl,by rwa [List.append_nil]⟩
 | h :: rs,ds,o,W,le=>by
  have el : ds ++ [h] ++ rs = ds ++ h :: rs:=by rw [List.append_assoc]; rfl
  obtain ⟨j,e,W1⟩:=more mk W (by simp at le; omega) h
  obtain ⟨o',f,W2⟩:=seats mk rs (ds ++ [h]) _ W1 (by rw [el]; exact le)
  rw [el] at f W2
  refine ⟨o',?_,W2⟩
  rw [List.foldl_cons,stepF_some e,show ds.length + 1 = (ds ++ [h]).length by simp]
  exact f
/-- all laid anew -/
theorem relaid (t : SetTable) {hs : Array Int} {want M : Nat} (ew : SetTable.sizeAbove want - 1 = M) (mk : Mk M) (le : hs.size≤M) :
  ∃ t' js,t.relaid hs want = some (t',js)∧js.toList.Perm (List.range hs.size)∧Tab t' (js.toList.map fun i=>hs.getD i 0)∧t'.mask = M∧t'.led = t.led:=by
 obtain ⟨o,f,W⟩:=seats mk hs.toList [] _ (Own.init M) (by simpa using le)
 rw [List.nil_append] at W
 have lc : SetTable.layClean M hs = some o:=by rw [layClean_eq]; exact congrArg (Option.map Prod.fst) f
 have er : t.relaid hs want = some (tabOf t M o,((liveOf M o).map Prod.snd).toArray):=by rw [relaid_eq,ew,lc]; rfl
 have rl : Ris ((liveOf M o).map Prod.fst)∧∀ x∈(liveOf M o).map Prod.fst,x∈List.range (M + 1):=ris_live (fun j=>o.getD j none) (List.range (M + 1)) List.pairwise_lt_range
 have inj : ∀ {x k},(x,k)∈liveOf M o↔x≤M∧oAt o x = some k:=mem_live W.sz
 have l1 : (liveOf M o).length≤hs.size:=by
  obtain ⟨ps,lps,ips⟩:=W.ps
  have z:=nat_nodup_len ((liveOf M o).map Prod.fst) ps (rl.1.imp Nat.ne_of_lt) fun x hx=>by
   obtain ⟨⟨y,k⟩,m,rfl⟩:=List.mem_map.mp hx
   obtain ⟨b1,b2⟩:=inj.mp m
   exact ips y b1 (by rw [b2]; exact Option.some_ne_none k)
  rw [List.length_map,lps,Array.length_toList] at z
  exact z
 have has : ∀ k,k < hs.size→k∈(liveOf M o).map Prod.snd:=fun k lk=>by
  obtain ⟨j,b1,b2⟩:=W.all k (by rw [Array.length_toList]; exact lk)
  exact List.mem_map.mpr ⟨(j,k),inj.mpr ⟨b1,b2⟩,rfl⟩
 have l2 : hs.size≤(liveOf M o).length:=by
  have z:=nat_nodup_len (List.range hs.size) _ List.nodup_range fun k hk=>has k (List.mem_range.mp hk)
  rwa [List.length_range,List.length_map] at z
 refine ⟨_,_,er,perm_range _ _ (by show ((liveOf M o).map Prod.snd).length = _; rw [List.length_map]; omega) has,⟨rl.1,rfl,?_,mk,fun x hx=>Nat.le_of_lt_succ (List.mem_range.mp (rl.2 x hx)),fun i h j a b=>?_⟩,rfl,rfl⟩
 ·show ((liveOf M o).map Prod.fst).toArray.size = (((liveOf M o).map Prod.snd).map _).length
  simp
 ·have a : (((liveOf M o).map Prod.snd).map fun i=>hs.getD i 0)[i]? = some h:=a
  have b : ((liveOf M o).map Prod.fst)[i]? = some j:=b
  obtain ⟨⟨y,k⟩,eq,rfl⟩ : ∃ q,(liveOf M o)[i]? = some q∧q.1 = j:=by
   rw [List.getElem?_map] at b
   exact Option.map_eq_some_iff.mp b
  rw [List.getElem?_map,List.getElem?_map,eq] at a
  obtain ⟨b1,b2⟩:=inj.mp (List.mem_of_getElem? eq)
  obtain ⟨h0,K,a1,a2,a3⟩:=W.at_ y k b1 b2
  have : h0 = h:=by
   have z : hs.getD k 0 = h:=Option.some.inj a
   rw [← z,Array.getD_eq_getD_getElem?,← Array.getElem?_toList,a1]
   rfl
  subst this
  refine ⟨K,a2,fun d ld=>?_⟩
  obtain ⟨k2,z⟩:=Option.ne_none_iff_exists'.mp (a3 d ld)
  exact List.mem_map.mpr ⟨(way M h0 d,k2),inj.mpr ⟨way_in M h0 d,z⟩,rfl⟩
end Tg
namespace Tg
open PySem PySem.Spec PyProof.Rows L2
theorem above_all : ((List.range 64).all fun k=>k < 5 || [15,31,63,127].any fun M=>SetTable.sizeAbove (k * 2) == M + 1 && decide (k * 5 < M * 3)) = true:=by decide +kernel
/-- what twice as many as there shall be leads to -/
theorem above {k : Nat} (h5 : 5≤k) (h : k < 64) : ∃ M,Mk M∧SetTable.sizeAbove (k * 2) = M + 1∧k * 5 < M * 3:=by
 have z:=List.all_eq_true.mp above_all k (List.mem_range.mpr h)
 rw [Bool.or_eq_true,decide_eq_true_eq] at z
 obtain ⟨M,m,e⟩:=List.any_eq_true.mp (z.resolve_left (by omega))
 rw [Bool.and_eq_true,beq_iff_eq,decide_eq_true_eq] at e
 refine ⟨M,?_,e⟩
 unfold Mk
 simp at m
 omega
theorem grown9 : SetTable.sizeAbove (SetTable.grown 9) = 64:=by decide +kernel
theorem grown38 : SetTable.sizeAbove (SetTable.grown 38) = 256:=by decide +kernel
theorem grows {m n : Nat} (mo : Mk m) (wide : n * 5 < m * 3) (full : (n + 1) * 5 ≥ m * 3) (few : n + 1 < 64) : ∃ M,Mk M∧SetTable.sizeAbove (SetTable.grown (n + 1)) = M + 1∧(n + 1) * 5 < M * 3∧n + 1≤m:=by
 have fin : ∀ k M : Nat,n = k→Mk M→SetTable.sizeAbove (SetTable.grown (k + 1)) = M + 1→(k + 1) * 5 < M * 3→k + 1≤m→∃ M,Mk M∧SetTable.sizeAbove (SetTable.grown (n + 1)) = M + 1∧(n + 1) * 5 < M * 3∧n + 1≤m :=
  fun k M e a b c d=>⟨M,a,by rw [e]; exact b,by rw [e]; exact c,by rw [e]; exact d⟩
 rcases mo with rfl | rfl | rfl | rfl | rfl | rfl
 ·exact fin 4 31 (by omega) (by unfold Mk; omega) size_20 (by decide) (by decide)
 ·exact fin 8 63 (by omega) (by unfold Mk; omega) grown9 (by decide) (by decide)
 ·exact fin 18 127 (by omega) (by unfold Mk; omega) size_76 (by decide) (by decide)
 ·exact fin 37 255 (by omega) (by unfold Mk; omega) grown38 (by decide) (by decide)
 ·omega
 ·omega
end Tg
namespace Ms
open PySem PySem.Spec PyProof.Rows L2
/-- where a search for h begins -/
abbrev way0 (t : SetTable) (h : Int) : SetTable.Probe:=runAt t.mask (SetTable.bits h % (t.mask + 1)) (SetTable.bits h)
theorem quietP (m : Nat) : ∀ (n : Nat) (p : SetTable.Probe),p.dummy = none→(nth m p n).dummy = none
 | 0,_,e=>e
 | n + 1,p,e=>quietP m n (adv m p) (by unfold adv; split <;> exact e)
/-- one look at the table,from the c-th step of h's way on -/
theorem look {t : SetTable} {hs : List Int} (T : Tg.Tab t hs) {es : Array (Int × Value)} (ee : ∀ i : Nat,es[i]?.map (·.1) = hs[i]?) {h : Int} {K c : Nat} (bound : K < 10 * SetTable.turns t.mask)
  (free : way t.mask h K ∉ t.place.toList) (full : ∀ d,d < K→way t.mask h d∈t.place.toList) (le : c≤K) :
  (∃ d i : Nat,c≤d∧d < K∧t.place.toList[i]? = some (way t.mask h d)∧hs[i]? = some h∧(∀ d' i' : Nat,c≤d'→d' < d→t.place.toList[i']? = some (way t.mask h d')→hs[i']?≠some h) ∧
   t.probe (fun i=>(es[i]?.map (·.1)).getD 0) h (nth t.mask (way0 t h) c) = some (.candidate (way t.mask h d) i (nth t.mask (way0 t h) (d + 1)))) ∨
  ((∀ d' i' : Nat,c≤d'→d' < K→t.place.toList[i']? = some (way t.mask h d')→hs[i']?≠some h) ∧
   t.probe (fun i=>(es[i]?.map (·.1)).getD 0) h (nth t.mask (way0 t h) c) = some (.empty (way t.mask h K) none)):=by
 have on : ∀ q,nth t.mask (nth t.mask (way0 t h) c) q = nth t.mask (way0 t h) (c + q):=fun q=>(nth_add t.mask c _ q).symm
 have hsome : ∀ {i' d' : Nat},t.place.toList[i']? = some (way t.mask h d')→((es[i']?.map (·.1)).getD 0 = h↔hs[i']? = some h):=by
  intro i' d' at'
  have lt : i' < hs.length:=by
   rw [← T.sz,← Array.length_toList]
   exact (List.getElem?_eq_some_iff.mp at').1
  rw [ee,List.getElem?_eq_getElem lt]
  exact ⟨fun e=>congrArg some e,fun e=>Option.some.inj e⟩
 have key:=go_spec t T.ris T.dm (fun i=>(es[i]?.map (·.1)).getD 0) h (10 * SetTable.turns t.mask) (K - c) (nth t.mask (way0 t h) c) (quietP _ _ _ rfl) (by omega)
  (fun q hq=>by rw [on]; exact full (c + q) (by omega)) (by rw [on,Nat.add_sub_cancel' le]; exact free)
 rcases key with ⟨q,i,lt,at',same,none',e⟩ | ⟨none',e⟩
 ·rw [on] at at' e
  rw [on] at e
  refine .inl ⟨c + q,i,Nat.le_add_right _ _,by omega,at',(hsome at').mp same,fun d' i' a1 a2 a3 a4=>?_,e⟩
  have ed : c + (d' - c) = d':=by omega
  exact none' (d' - c) i' (by omega) (by rw [on,ed]; exact a3) ((hsome a3).mpr a4)
 ·rw [on,Nat.add_sub_cancel' le] at e
  refine .inr ⟨fun d' i' a1 a2 a3 a4=>?_,e⟩
  have ed : c + (d' - c) = d':=by omega
  exact none' (d' - c) i' (by omega) (by rw [on,ed]; exact a3) ((hsome a3).mpr a4)
section
variable {P : Program} {w : World} {κ : Type} [DecidableEq κ] {knd : KeyKind P w κ} {A : Around} {E : Value→Shared→Prop} {s : Shared}
/-- the kind's values are of no class statement,and how they are hashed is known -/
def Plain (knd : KeyKind P w κ) : Prop:=∀ k v,knd.is k v = true→(∀ n,ofAClassStatement n v = pure false)∧∀ n,∃ b,hashByValue n v = pure b
theorem plain_items (pk : Plain knd) {k : List κ} {vs : List Value} (it : ItemsAre knd k vs) : ∀ v∈vs,(∀ n,ofAClassStatement n v = pure false)∧∀ n,∃ b,hashByValue n v = pure b:=by
 induction it with
 | nil=>exact fun v hv=>nomatch hv
 | cons h1 _ ih=>exact fun v hv=>(List.mem_cons.mp hv).elim (fun e=>e ▸ pk _ _ h1) (ih v)
/-- no item of the tuple is of a class statement -/
theorem noClass (pk : Plain knd) {k : List κ} {b : Addr} {Q : Bool→Shared→Prop} (tk : IsTupleKey knd s.heap k b) (q : Q false s) : wpAny (model P w) A (ofAClassStatement 8 (.ref b)) Q E s:=by
 obtain ⟨o,its,n,ho,hc,hd,it⟩:=tk
 have pl:=plain_items pk it
 unfold ofAClassStatement
 refine wpAny_bind (wpAny_typeOf ⟨o,ho,hc⟩ ?_)
 dsimp only
 rw [if_pos (show (("tuple" : String) == "tuple") = true by decide)]
 refine wpAny_bind (wpAny_pure ?_)
 rw [if_neg (show ¬ (!true) = true by decide)]
 refine wpAny_bind (wpAny_seqItems ho hd ?_)
 dsimp only
 rw [← Array.forIn_toList]
 refine wpAny_bind (wpAny_forIn_list _ (fun rest r s'=>r.1 = none∧s' = s∧∀ v∈rest,∀ n,ofAClassStatement n v = pure false) _ (fun v rest r s'=>?_) (fun r s'=>?_) _ _ ⟨rfl,rfl,fun v hv=>(pl v hv).1⟩)
 ·rintro ⟨er,rfl,ok⟩
  rw [ok v List.mem_cons_self]
  refine wpAny_bind (wpAny_pure ?_)
  exact wpAny_pure ⟨rfl,rfl,fun u hu=>ok u (List.mem_cons_of_mem _ hu)⟩
 ·rcases r with ⟨r1,r2⟩
  rintro ⟨er,rfl,_⟩
  cases (show r1 = none from er)
  exact wpAny_pure q
/-- whether the tuple is hashed by value is known -/
theorem byVal (pk : Plain knd) {k : List κ} {b : Addr} {Q : Bool→Shared→Prop} (tk : IsTupleKey knd s.heap k b) (q : ∀ c,Q c s) : wpAny (model P w) A (hashByValue 8 (.ref b)) Q E s:=by
 have ty:=tk.typeIs
 obtain ⟨o,its,n,ho,hc,hd,it⟩:=tk
 have pl:=plain_items pk it
 unfold hashByValue
 refine wpAny_bind (wpAny_specialOf ty F.slot_tuple_hash.lookup ?_)
 refine wpAny_bind (wpAny_seqItems ho hd ?_)
 show wpAny _ _ (forIn its _ _ >>= _) _ _ s
 rw [← Array.forIn_toList]
 refine wpAny_bind (wpAny_forIn_list _ (fun rest r s'=>r.1 = none∧s' = s∧∀ v∈rest,∀ n,∃ b,hashByValue n v = pure b) _ (fun v rest r s'=>?_) (fun r s'=>?_) _ _ ⟨rfl,rfl,fun v hv=>(pl v hv).2⟩)
 ·rintro ⟨er,rfl,ok⟩
  obtain ⟨c,ec⟩:=ok v List.mem_cons_self 7
  rw [ec]
  refine wpAny_bind (wpAny_pure ?_)
  cases c
  ·exact wpAny_pure (wpAny_pure (q false))
  ·exact wpAny_pure ⟨rfl,rfl,fun u hu=>ok u (List.mem_cons_of_mem _ hu)⟩
 ·rcases r with ⟨r1,r2⟩
  rintro ⟨er,rfl,_⟩
  cases (show r1 = none from er)
  exact wpAny_pure (q true)
/-- nobody sees the search -/
theorem unseen (pk : Plain knd) {k : List κ} {b : Addr} {ys : List Value} {Q : Bool→Shared→Prop} (tk : IsTupleKey knd s.heap k b) (all : ∀ y∈ys,∃ k' c,y = .ref c∧IsTupleKey knd s.heap k' c) (q : Q false s) :
  wpAny (model P w) A (searchCouldBeSeen (.ref b) ys) Q E s:=by
 unfold searchCouldBeSeen
 refine wpAny_bind (wpAny_forIn_list _ (fun rest r s'=>r.1 = none∧s' = s∧∀ y∈rest,∃ k' c,y = .ref c∧IsTupleKey knd s.heap k' c) _ (fun v rest r s'=>?_) (fun r s'=>?_) _ _ ⟨rfl,rfl,all⟩)
 ·rintro ⟨er,rfl,ok⟩
  obtain ⟨k',c,rfl,tc⟩:=ok v List.mem_cons_self
  have go : ∀ y∈rest,∃ k' c,y = .ref c∧IsTupleKey knd s'.heap k' c:=fun u hu=>ok u (List.mem_cons_of_mem _ hu)
  dsimp only
  split
  ·exact wpAny_pure ⟨rfl,rfl,go⟩
  ·refine wpAny_bind (wpAny_eqIsQuiet_tuple tk ?_)
   refine wpAny_bind (wpAny_eqIsQuiet_tuple tc ?_)
   refine wpAny_bind (noClass pk tk ?_)
   refine wpAny_bind (noClass pk tc ?_)
   exact wpAny_pure ⟨rfl,rfl,go⟩
 ·rcases r with ⟨r1,r2⟩
  rintro ⟨er,rfl,_⟩
  cases (show r1 = none from er)
  exact wpAny_pure q
/-- the set at a has these tuples,each once,in the table's order -/
abbrev kh (knd : KeyKind P w κ) (p : Addr × List κ) : Int:=tupleKeyHash knd p.2
abbrev ent (knd : KeyKind P w κ) (p : Addr × List κ) : Int × Value:=(tupleKeyHash knd p.2,.ref p.1)
structure Bag (knd : KeyKind P w κ) (h : Heap) (a : Addr) (L : List (Addr × List κ)) (ep : Nat) (t : SetTable) : Prop where
 obj : ∃ o,h.get? a = some o∧o.ExactSet∧o.data = .set (L.map (ent knd)).toArray ep t
 tab : Tg.Tab t (L.map (kh knd))
 dif : (L.map Prod.snd).Nodup
 led : w.params.followText "set-order" = true∨t.led = true
 wide : L.length * 5 < t.mask * 3
 few : L.length < 64
abbrev Tups (knd : KeyKind P w κ) (h : Heap) (L : List (Addr × List κ)) : Prop:=∀ p∈L,IsTupleKey knd h p.2 p.1
variable {a : Addr} {L : List (Addr × List κ)} {ep : Nat} {t : SetTable}
theorem fits_of {hs : List Int} (T : Tg.Tab t hs) {n : Nat} (en : n = hs.length) (le : n≤t.mask) : t.fits n = true:=by
 have sz:=T.sz
 unfold SetTable.fits SetTable.fill
 rw [T.dm,Bool.and_eq_true,beq_iff_eq,decide_eq_true_eq]
 exact ⟨by omega,by show t.place.size + 0≤t.mask; omega⟩
theorem Bag.fits (B : Bag knd s.heap a L ep t) : t.fits (L.map (ent knd)).toArray.size = true :=
 fits_of B.tab (by simp) (by have:=B.wide; simp; omega)
theorem ent_at (knd : KeyKind P w κ) (L : List (Addr × List κ)) (i : Nat) : (L.map (ent knd)).toArray[i]?.map (·.1) = (L.map (kh knd))[i]?:=by
 simp only [List.getElem?_toArray,List.getElem?_map,Option.map_map]
 rfl
theorem seek (pk : Plain knd) (B : Bag knd s.heap a L ep t) (tl : Tups knd s.heap L) {x : Addr} {k : List κ} (tx : IsTupleKey knd s.heap k x) (hu : A.units < cLine) {K : Nat} (bound : K < 10 * SetTable.turns t.mask)
  (free : way t.mask (tupleKeyHash knd k) K ∉ t.place.toList) (full : ∀ d,d < K→way t.mask (tupleKeyHash knd k) d∈t.place.toList) {Q : SetFound→Shared→Prop}
  (old : k∈L.map Prod.snd→Q (.there none) s) (new : k ∉ L.map Prod.snd→Q (.free (way t.mask (tupleKeyHash knd k) K) false) s) :
  ∀ (f c : Nat) (from' : Option SetTable.Probe),from'.getD (t.probeStart (tupleKeyHash knd k)) = nth t.mask (way0 t (tupleKeyHash knd k)) c→c≤K→K < c + f →
   (∀ (i : Nat) p,L[i]? = some p→p.2 = k→∃ d,c≤d∧d < K∧t.place.toList[i]? = some (way t.mask (tupleKeyHash knd k) d)) →
   wpAny (model P w) A (setSearchFrom a (.ref x) (tupleKeyHash knd k) true f from') Q E s:=by
 intro f
 obtain ⟨o,ho,ex,hd⟩:=B.obj
 have odd : ¬ t.gaveWay = true:=by
  unfold SetTable.gaveWay
  rw [B.tab.mok.bd.2.2]
  decide
 induction f with
 | zero=>exact fun c _ _ a1 a2 _=>absurd a2 (by omega)
 | succ f ih =>
  intro c from' st le lt ahead
  rw [setSearchFrom_succ]
  refine wpAny_bind (wpAny_setState_of ho hd B.fits ?_)
  dsimp only
  rw [if_neg odd]
  try refine wpAny_bind (wpAny_pure ?_)
  rw [st]
  rcases look B.tab (ent_at knd L) bound free full le with ⟨d,i,a1,a2,a3,a4,a5,e⟩ | ⟨a5,e⟩
  ·rw [e]
   dsimp only
   obtain ⟨p,hp,ep'⟩ : ∃ p,L[i]? = some p∧tupleKeyHash knd p.2 = tupleKeyHash knd k:=by
    rw [List.getElem?_map] at a4
    obtain ⟨p,hp,e2⟩:=Option.map_eq_some_iff.mp a4
    exact ⟨p,hp,e2⟩
   have mp : p∈L:=List.mem_of_getElem? hp
   have hes : (L.map (ent knd)).toArray[i]? = some (tupleKeyHash knd p.2,Value.ref p.1):=by
    rw [List.getElem?_toArray,List.getElem?_map,hp]
    rfl
   have live : t.slot (way t.mask (tupleKeyHash knd k) d) = .live i:=slot_live B.tab.ris a3
   have last : wpAny (model P w) A (searchRest a (.ref x) (tupleKeyHash knd k) true f (L.map (ent knd)).toArray t (way t.mask (tupleKeyHash knd k) d) i (nth t.mask (way0 t (tupleKeyHash knd k)) (d + 1))) Q E s:=by
    unfold searchRest
    rw [hes]
    refine wpAny_bind (wpAny_holding (wpAny_eqBool_tuple hu (tl p mp) tx ?_))
    refine wpAny_bind (wpAny_setState_of ho hd B.fits ?_)
    dsimp only
    by_cases same : p.2 = k
    ·rw [if_pos (by simp [same])]
     exact wpAny_pure (old (List.mem_map.mpr ⟨p,mp,same⟩))
    ·rw [if_neg (by simp [same])]
     try refine wpAny_bind (wpAny_pure ?_)
     rw [sameMem]
     dsimp only
     rw [if_pos rfl,live]
     dsimp only
     rw [hes]
     dsimp only
     refine wpAny_bind (wpAny_isSame_ref_self (wpAny_bind (wpAny_pure ?_)))
     rw [if_pos rfl]
     dsimp only
     rw [if_neg (by simp [same])]
     refine ih (d + 1) _ rfl (by omega) (by omega) fun i' p' h' e'=>?_
     obtain ⟨d',b1,b2,b3⟩:=ahead i' p' h' e'
     refine ⟨d',?_,b2,b3⟩
     rcases Nat.lt_trichotomy d' d with z | z | z
     ·refine absurd ?_ (a5 d' i' b1 z b3)
      rw [List.getElem?_map,h',← e']
      rfl
     ·rw [z] at b3
      have l2:=slot_live B.tab.ris b3
      rw [live] at l2
      injection l2 with ei
      rw [← ei,hp] at h'
      cases h'
      exact absurd e' same
     ·exact z
   split
   ·refine wpAny_bind (unseen pk tx (fun y hy=>?_) ?_)
    ·obtain ⟨z,hz,rfl⟩:=List.mem_map.mp hy
     have hz2 : z∈L.map (ent knd):=by
      have:=(Array.mem_filter.mp (Array.mem_toList_iff.mp hz)).1
      simpa using this
     obtain ⟨p',mp',rfl⟩:=List.mem_map.mp hz2
     exact ⟨p'.2,p'.1,rfl,tl p' mp'⟩
    ·rw [if_neg (by decide)]
     try refine wpAny_bind (wpAny_pure ?_)
     exact last
   ·try refine wpAny_bind (wpAny_pure ?_)
    exact last
  ·rw [e]
   refine wpAny_pure (new fun hm=>?_)
   obtain ⟨p,mp,ek⟩:=List.mem_map.mp hm
   obtain ⟨i,hi,e0⟩:=List.getElem_of_mem mp
   have hp : L[i]? = some p:=by rw [List.getElem?_eq_getElem hi,e0]
   obtain ⟨d',b1,b2,b3⟩:=ahead i p hp ek
   refine a5 d' i b1 b2 b3 ?_
   rw [List.getElem?_map,hp,← ek]
   rfl
/-- the search for a tuple that is to be added -/
theorem find (pk : Plain knd) (B : Bag knd s.heap a L ep t) (tl : Tups knd s.heap L) {x : Addr} {k : List κ} (tx : IsTupleKey knd s.heap k x) (hu : A.units < cLine) {Q : SetFound→Shared→Prop}
  (old : k∈L.map Prod.snd→Q (.there none) s)
  (new : ∀ K,k ∉ L.map Prod.snd→way t.mask (tupleKeyHash knd k) K ∉ t.place.toList→(∀ d,d < K→way t.mask (tupleKeyHash knd k) d∈t.place.toList)→Q (.free (way t.mask (tupleKeyHash knd k) K) false) s) :
  wpAny (model P w) A (setSearch a (.ref x) (tupleKeyHash knd k) true) Q E s:=by
 have wide:=B.wide
 obtain ⟨K,bound,free,full⟩:=B.tab.first (by rw [List.length_map]; omega) (tupleKeyHash knd k)
 have steps : 10 * SetTable.turns t.mask < 100000:=by
  unfold SetTable.turns
  have:=B.tab.mok.bd
  omega
 unfold setSearch
 refine seek pk B tl tx hu bound free full old (fun n=>new K n free full) 100000 0 none rfl (Nat.zero_le _) (by omega) fun i p hp ek=>?_
 have lt : i < t.place.toList.length:=by
  have sz:=B.tab.sz
  have li:=(List.getElem?_eq_some_iff.mp hp).1
  rw [List.length_map] at sz
  rw [Array.length_toList]
  omega
 obtain ⟨d,dK,e⟩:=B.tab.before free (i:=i) (h:=tupleKeyHash knd k) (by rw [List.getElem?_map,hp,← ek]; rfl) (List.getElem?_eq_getElem lt)
 exact ⟨d,Nat.zero_le _,dK,by rw [List.getElem?_eq_getElem lt,e]⟩
/-- a list read by its own places -/
theorem back {α : Type} : ∀ l : List α,(List.range l.length).filterMap (fun i=>l[i]?) = l
 | []=>rfl
 | x :: l=>by
  have ih:=back l
  rw [List.length_cons,List.range_succ_eq_map,List.filterMap_cons,List.filterMap_map]
  simp only [List.getElem?_cons_zero]
  congr 1
theorem picked {α β : Type} (f : α→β) (l : List α) (js : List Nat) : js.filterMap (fun i=>(l.map f)[i]?) = (js.filterMap fun i=>l[i]?).map f:=by
 rw [List.map_filterMap]
 simp only [List.getElem?_map]
theorem pickedD (hs : List Int) : ∀ js : List Nat,(∀ j∈js,j < hs.length)→js.map (fun i=>hs.toArray.getD i 0) = js.filterMap fun i=>hs[i]?
 | [],_=>rfl
 | j :: js,all=>by
  have lt:=all j List.mem_cons_self
  rw [List.map_cons,List.filterMap_cons_some (List.getElem?_eq_getElem lt),pickedD hs js fun i hi=>all i (List.mem_cons_of_mem _ hi)]
  congr 1
  simp [Array.getD,lt]
/-- laid anew in a wider table: the same tuples -/
theorem relay {o : Obj} (ho : s.heap.get? a = some o) (ex : o.ExactSet) (hd : o.data = .set (L.map (ent knd)).toArray ep t) (T : Tg.Tab t (L.map (kh knd))) (fit : L.length≤t.mask) (dif : (L.map Prod.snd).Nodup)
  (led : w.params.followText "set-order" = true∨t.led = true) (few : L.length < 64) {want M : Nat} (eM : SetTable.sizeAbove want = M + 1) (mM : Tg.Mk M) (wide : L.length * 5 < M * 3) {Q : Unit→Shared→Prop}
  (q : ∀ h' L' ep' t',Heap.SameBut a s.heap h'→Bag knd h' a L' ep' t'→L'.Perm L→Q () { s with heap:=h' }) : wpAny (model P w) A (setRelay a want) Q E s:=by
 have e1 : ((L.map (ent knd)).toArray.map (·.1)) = (L.map (kh knd)).toArray:=by
  rw [List.map_toArray,List.map_map]
  rfl
 have mb : M≤255:=mM.bd.2.1
 obtain ⟨t',js,er,pj,T',em,el⟩:=Tg.relaid t (hs:=(L.map (kh knd)).toArray) (want:=want) (M:=M) (by rw [eM]; rfl) mM (by simp; omega)
 have pj' : js.toList.Perm (List.range L.length):=by simpa using pj
 have es' : js.filterMap (fun i=>(L.map (ent knd)).toArray[i]?) = ((js.toList.filterMap fun i=>L[i]?).map (ent knd)).toArray:=by
  apply Array.toList_inj.mp
  rw [Array.toList_filterMap]
  simp only [List.getElem?_toArray]
  exact picked (ent knd) L js.toList
 have pm : (js.toList.filterMap fun i=>L[i]?).Perm L:=by
  have z:=pj'.filterMap (fun i=>L[i]?)
  rwa [back] at z
 rw [pickedD _ _ (fun j hj=>by rw [List.length_map]; exact List.mem_range.mp (pj'.mem_iff.mp hj)),picked (kh knd) L js.toList] at T'
 have sz : (js.filterMap fun i=>(L.map (ent knd)).toArray[i]?).size = (L.map (ent knd)).toArray.size:=by
  rw [es',List.size_toArray,List.size_toArray,List.length_map,List.length_map,pm.length_eq]
 rw [setRelay_eq]
 refine wpAny_bind (wpAny_setState_of ho hd (fits_of T (by simp) (by simpa using fit)) ?_)
 dsimp only
 rw [if_neg (by rw [eM,sizeLine_eq]; omega)]
 try refine wpAny_bind (wpAny_pure ?_)
 rw [e1,er]
 dsimp only
 rw [if_neg (by rw [sz]; simp)]
 try refine wpAny_bind (wpAny_pure ?_)
 try refine wpAny_bind (wpAny_pure ?_)
 dsimp only
 refine wpAny_storeSet_of ho hd ?_ (by rw [sz,sizeLine_eq]; simp; omega)
 rw [es']
 have sb : Heap.SameBut a s.heap (s.heap.update a (Obj.putSet ((js.toList.filterMap fun i=>L[i]?).map (ent knd)).toArray t')):=Heap.SameBut.update ..
 exact q _ _ (ep + 1) t' sb ⟨⟨_,store_at ho hd,⟨ex.1,ex.2.1,ex.2.2⟩,rfl⟩,T',(pm.map _).nodup_iff.mpr dif,by rw [el]; exact led,by rw [pm.length_eq,em]; exact wide,by rw [pm.length_eq]; exact few⟩ pm
/-- of unlike ones fewer than 64 -/
def Fewer (ks : List (Addr × List κ)) : Prop:=∀ L : List (List κ),L.Nodup→(∀ k∈L,k∈ks.map Prod.snd)→L.length < 64
/-- a tuple added: there already,or one more -/
theorem add (pk : Plain knd) (B : Bag knd s.heap a L ep t) (tl : Tups knd s.heap L) {x : Addr} {k : List κ} (tx : IsTupleKey knd s.heap k x) (hu : A.units < cLine) (few : k ∉ L.map Prod.snd→L.length + 1 < 64) {Q : Bool→Shared→Prop}
  (q : ∀ b h' L' ep' t',Heap.SameBut a s.heap h'→Bag knd h' a L' ep' t'→(k∈L.map Prod.snd∧L' = L∨k ∉ L.map Prod.snd∧L'.Perm ((x,k) :: L))→Q b { s with heap:=h' }) :
  wpAny (model P w) A (setAddHashed a (.ref x) (tupleKeyHash knd k)) Q E s:=by
 obtain ⟨o,ho,ex,hd⟩:=B.obj
 have wide:=B.wide
 unfold setAddHashed
 refine wpAny_holding ?_
 rw [show (100000 : Nat) = 99999 + 1 from rfl,setAddHashedIn_succ]
 refine wpAny_bind (wpAny_setState_of ho hd B.fits ?_)
 dsimp only
 rw [if_neg (by simp [byScan,Value.scannable])]
 try refine wpAny_bind (wpAny_pure ?_)
 refine wpAny_bind (find pk B tl tx hu (fun old=>wpAny_pure (q false s.heap L ep t (Heap.SameBut.refl a s.heap) B (.inl ⟨old,rfl⟩))) fun K new free full=>?_)
 have few:=few new
 dsimp only
 refine wpAny_bind (wpAny_setState_of ho hd B.fits ?_)
 dsimp only
 obtain ⟨r1,r2,T1,r4,r5,r9⟩:=B.tab.put free full
 generalize ept : t.put (way t.mask (tupleKeyHash knd k) K) = tp at r1 T1 r4 r5 r9 ⊢
 obtain ⟨t1,p⟩:=tp
 dsimp only at r1 T1 r4 r5 r9 ⊢
 rw [← r1] at T1
 have pm : (L.take p ++ (x,k) :: L.drop p).Perm ((x,k) :: L):=by
  have z:=List.perm_middle (a:=(x,k)) (l₁:=L.take p) (l₂:=L.drop p)
  rwa [List.take_append_drop] at z
 have ehs : (L.map (kh knd)).take p ++ tupleKeyHash knd k :: (L.map (kh knd)).drop p = (L.take p ++ (x,k) :: L.drop p).map (kh knd):=by
  rw [List.map_append,List.map_cons,List.map_take,List.map_drop]
 have ees : SetTable.insertAt (L.map (ent knd)).toArray p (tupleKeyHash knd k,Value.ref x) = ((L.take p ++ (x,k) :: L.drop p).map (ent knd)).toArray:=by
  apply Array.toList_inj.mp
  rw [SetTable.toList_insertAt,List.map_append,List.map_cons,List.map_take,List.map_drop]
 rw [ehs] at T1
 rw [ees]
 generalize L.take p ++ (x,k) :: L.drop p = L1 at pm T1 ⊢
 have len1 : L1.length = L.length + 1:=by rw [pm.length_eq,List.length_cons]
 have dif1 : (L1.map Prod.snd).Nodup:=(pm.map Prod.snd).nodup_iff.mpr (List.nodup_cons.mpr ⟨new,B.dif⟩)
 have go : ∀ t2 : SetTable,Tg.Tab t2 (L1.map (kh knd))→t2.mask = t.mask→t2.led = t.led→t2.fill = L.length + 1 →
   wpAny (model P w) A (do
    storeSet a (L1.map (ent knd)).toArray t2
    if !false && t2.tooFull then setRelay a (SetTable.grown ((L.map (ent knd)).toArray.size + 1))
    return true) Q E s:=by
  intro t2 T2 m2 l2 f2
  refine wpAny_bind (wpAny_storeSet_of ho hd ?_ (by rw [sizeLine_eq]; simp; omega))
  have sb : Heap.SameBut a s.heap (s.heap.update a (Obj.putSet (L1.map (ent knd)).toArray t2)):=Heap.SameBut.update ..
  have ho1:=store_at (es':=(L1.map (ent knd)).toArray) (t':=t2) ho hd
  have led2 : w.params.followText "set-order" = true∨t2.led = true:=by rw [l2]; exact B.led
  by_cases tf : t2.tooFull = true
  ·have tf2 : (L.length + 1) * 5 ≥ t.mask * 3:=by
    have z:=tf
    unfold SetTable.tooFull at z
    rw [decide_eq_true_eq,f2,m2] at z
    exact z
   obtain ⟨M,mM,eM,wM,nM⟩:=Tg.grows B.tab.mok wide tf2 few
   rw [if_pos (by simp [tf])]
   rw [show (L.map (ent knd)).toArray.size + 1 = L.length + 1 by simp]
   refine wpAny_bind (relay (s:={ s with heap:=s.heap.update a (Obj.putSet (L1.map (ent knd)).toArray t2) }) ho1 ⟨ex.1,ex.2.1,ex.2.2⟩ rfl T2 (by rw [len1,m2]; exact nM) dif1 led2 (by omega) eM mM (by rw [len1]; exact wM) fun h' L' ep' t' sb' B' pm'=>?_)
   exact wpAny_pure (q true h' L' ep' t' (sb.trans sb') B' (.inr ⟨new,pm'.trans pm⟩))
  ·rw [if_neg (by simp [tf])]
   try refine wpAny_bind (wpAny_pure ?_)
   refine wpAny_pure (q true _ L1 (ep + 1) t2 sb ⟨⟨_,ho1,⟨ex.1,ex.2.1,ex.2.2⟩,rfl⟩,T2,dif1,led2,?_,by omega⟩ (.inr ⟨new,pm⟩))
   have z:=tf
   unfold SetTable.tooFull at z
   rw [decide_eq_true_eq,f2] at z
   rw [len1]
   omega
 rw [List.length_map] at r9
 have fin : ∀ b : Bool,wpAny (model P w) A (do
    storeSet a (L1.map (ent knd)).toArray (if b = true then t1 else { t1 with plain:=false })
    if !false && (if b = true then t1 else { t1 with plain:=false }).tooFull then setRelay a (SetTable.grown ((L.map (ent knd)).toArray.size + 1))
    return true) Q E s:=by
  intro b
  cases b
  ·exact go { t1 with plain:=false } ⟨T1.ris,T1.dm,T1.sz,T1.mok,T1.bd,T1.reach⟩ r4 r5 r9
  ·exact go t1 T1 r4 r5 r9
 split
 ·exact wpAny_bind (byVal pk tx fin)
 ·exact wpAny_bind (wpAny_pure (fin true))
theorem Bag.go {h h' : Heap} (B : Bag knd h a L ep t) (at' : ∀ o,h.get? a = some o→h'.get? a = some o) : Bag knd h' a L ep t :=
 ⟨B.obj.elim fun o z=>⟨o,at' o z.1,z.2⟩,B.tab,B.dif,B.led,B.wide,B.few⟩
theorem tup_go {h h' : Heap} {k : List κ} {b : Addr} (tk : IsTupleKey knd h k b) (all : ∀ c o,h.get? c = some o→h'.get? c = some o) : IsTupleKey knd h' k b:=by
 obtain ⟨o,its,n,h1,z⟩:=tk
 exact ⟨o,its,n,all b o h1,z⟩
/-- what the first i of ks have brought -/
structure Fed (ks : List (Addr × List κ)) (i : Nat) (L : List (Addr × List κ)) : Prop where
 from' : ∀ p∈L,p∈ks.take i
 all : ∀ p∈ks.take i,p.2∈L.map Prod.snd
 le : L.length≤i
theorem Fed.next {ks L L' : List (Addr × List κ)} {i : Nat} {x : Addr × List κ} (F : Fed ks i L) (hx : ks[i]? = some x) (c : x.2∈L.map Prod.snd∧L' = L∨x.2 ∉ L.map Prod.snd∧L'.Perm (x :: L)) : Fed ks (i + 1) L':=by
 have et : ks.take (i + 1) = ks.take i ++ [x]:=by rw [List.take_succ,hx]; rfl
 rcases c with ⟨old,rfl⟩ | ⟨_,pm⟩
 ·refine ⟨fun p hp=>et ▸ List.mem_append_left _ (F.from' p hp),fun p hp=>?_,Nat.le_succ_of_le F.le⟩
  rw [et,List.mem_append,List.mem_singleton] at hp
  exact hp.elim (F.all p) fun e=>e ▸ old
 ·refine ⟨fun p hp=>?_,fun p hp=>?_,by rw [pm.length_eq]; exact Nat.succ_le_succ F.le⟩
  ·rw [et,List.mem_append,List.mem_singleton]
   exact (List.mem_cons.mp (pm.mem_iff.mp hp)).elim .inr fun z=>.inl (F.from' p z)
  ·rw [(pm.map Prod.snd).mem_iff,List.map_cons,List.mem_cons]
   rw [et,List.mem_append,List.mem_singleton] at hp
   exact hp.elim (fun z=>.inr (F.all p z)) fun e=>.inl (by rw [e])
/-- set.update's walk -/
theorem feed (pk : Plain knd) {I : Addr} {fp wr : List Addr} {G : Array GenState→Array GenState→Prop} {Pv : Nat→Value→Prop} {St : Nat→Shared→Prop} {R : Result→Shared→Prop} {ks : List (Addr × List κ)}
  (W : WalksS P w A.in1 I fp wr G ks.length Pv St) {S : Addr} (off : S ∉ fp) (few : Fewer ks) (val : ∀ i v,Pv i v→∃ p,ks[i]? = some p∧v = .ref p.1)
  {h0 : Heap} (tk : Tups knd h0 ks) (newS : h0.get? S = none) (newW : ∀ b∈wr,h0.get? b = none) (hu : A.in1.units < cLine) :
  ∀ (m i : Nat) (s : Shared),i + m = ks.length→St i s→(∀ b o,h0.get? b = some o→s.heap.get? b = some o)→(∃ L ep t,Bag knd s.heap S L ep t∧Fed ks i L) →
   (∀ s' L ep t,Moved (S :: wr) G s s'→Bag knd s'.heap S L ep t→Fed ks ks.length L→(∀ b o,h0.get? b = some o→s'.heap.get? b = some o)→R (.ok (.ret .none)) s') →
   codeAny (model P w) A (.builtin "set.update.loop" ⟨[.ref S,.ref I],[]⟩) R s:=by
 have offW : S ∉ wr:=fun z=>off (W.sub _ z)
 have up : ∀ b∈wr,b∈S :: wr:=fun _=>List.mem_cons_of_mem _
 have kept : ∀ {s s' : Shared},Moved wr G s s'→(∀ b o,h0.get? b = some o→s.heap.get? b = some o)→∀ b o,h0.get? b = some o→s'.heap.get? b = some o:=fun mv k b o e =>
  mv.heap b o (fun z=>nomatch (newW b z).symm.trans e) (k b o e)
 intro m
 induction m with
 | zero =>
  intro i s em st k ⟨L,ep,t,B,fd⟩ q
  obtain rfl : i = ks.length:=em
  refine codeAny_builtin F.entry_set_update_loop ?_
  rw [Around.under_plainId F.plain_set_update_loop _]
  refine wpAny_bind (W.done s _ _ st fun s' mv=>?_)
  exact wpAny_pure (q s' L ep t (mv.mono up) (B.go fun o e=>mv.heap S o offW e) fd (kept mv k))
 | succ m ih =>
  intro i s em st k ⟨L,ep,t,B,fd⟩ q
  refine codeAny_builtin F.entry_set_update_loop ?_
  rw [Around.under_plainId F.plain_set_update_loop _]
  refine wpAny_bind (W.item i s _ _ (by omega) st fun v s' pv st' mv=>?_)
  obtain ⟨p,hp,rfl⟩:=val i v pv
  have k':=kept mv k
  have B':=B.go (h':=s'.heap) fun o e=>mv.heap S o offW e
  have tp:=tup_go (tk p (List.mem_of_getElem? hp)) k'
  have tL : Tups knd s'.heap L:=fun z hz=>tup_go (tk z (List.mem_of_mem_take (fd.from' z hz))) k'
  refine wpAny_bind (wpAny_holding ?_)
  unfold setAdd
  refine wpAny_holding (wpAny_bind (wpAny_pyHash_tuple hu tp ?_))
  have fl : p.2 ∉ L.map Prod.snd→L.length + 1 < 64:=fun n=>by
   have:=few (p.2 :: L.map Prod.snd) (List.nodup_cons.mpr ⟨n,B'.dif⟩) fun k hk=>by
    rcases List.mem_cons.mp hk with e | m
    ·rw [e]
     exact List.mem_map.mpr ⟨p,List.mem_of_getElem? hp,rfl⟩
    ·obtain ⟨z,mz,e⟩:=List.mem_map.mp m
     exact List.mem_map.mpr ⟨z,List.mem_of_mem_take (fd.from' z mz),e⟩
   rw [List.length_cons,List.length_map] at this
   exact this
  refine add (s:={ s' with toks:=s'.toks + (p.2.length + 1) }) pk B' tL tp hu fl fun b h' L' ep' t' sb B2 c=>?_
  have k2 : ∀ b o,h0.get? b = some o→h'.get? b = some o:=fun b o e=>(sb.2 b fun z=>nomatch (z ▸ newS).symm.trans e).trans (k' b o e)
  refine wpAny_pure ⟨plainId_quiet F.plain_set_update_loop _,ih (i + 1) _ (by omega) (W.frame _ s' _ _ st' (Nat.le_add_right _ _) fun b hb o e=>?_) k2 ⟨L',ep',t',B2,fd.next hp c⟩ fun s2 L2 ep2 t2 mv2 B3 F3 k3=>?_⟩
  ·exact (sb.2 b fun z=>off (z ▸ hb)).trans e
  ·refine q s2 L2 ep2 t2 (Moved.trans W.gtrans ((mv.mono up).then_heap (Nat.le_add_right _ _) fun b o hb e=>?_) mv2) B3 F3 k3
   exact (sb.2 b fun z=>hb (z ▸ List.mem_cons_self)).trans e
theorem Fed.none (ks : List (Addr × List κ)) : Fed ks 0 []:=⟨fun _ z=>(nomatch z),fun p z=>(by rw [List.take_zero] at z; cases z),Nat.le_refl _⟩
/-- a set just laid -/
abbrev bare (w : World) : Obj:={ cls:=.type "set", dict:=none,data:=.set #[] 0 (.fresh 0 0 (!w.params.followText "set-order")) }
theorem Bag.bare {h : Heap} (ho : h.get? a = some (bare w)) : Bag knd h a [] 0 (.fresh 0 0 (!w.params.followText "set-order")):=by
 refine ⟨⟨_,ho,⟨rfl,rfl,rfl⟩,rfl⟩,⟨List.Pairwise.nil,rfl,rfl,.inl rfl,fun _ z=>(nomatch z),fun i h j z=>?_⟩,List.nodup_nil,?_,by show 0 * 5 < 7 * 3; decide,by show 0 < 64; decide⟩
 ·simp at z
 ·by_cases c : w.params.followText "set-order" = true
  ·exact .inl c
  ·exact .inr (by show (!w.params.followText "set-order") = true; simp [c])
set_option maxHeartbeats 3200000 in
/-- set(xs),xs a list of tuples -/
theorem mkSet (pk : Plain knd) {l : Addr} {xs : Array Value} {ks : List (Addr × List κ)} {Q : Value→Shared→Prop} (quiet : A.handled = none) (hl : s.heap.IsList l xs) (ex : xs.toList = ks.map fun p=>Value.ref p.1)
  (tk : Tups knd s.heap ks) (few : Fewer ks) (hu : A.units + 3 < cLine)
  (q : ∀ (h' : Heap) (n : Nat) L ep t,Bag knd h' s.heap.objs.size L ep t→Fed ks ks.length L→(∀ b o,s.heap.get? b = some o→h'.get? b = some o)→Q (.ref s.heap.objs.size) { s with heap:=h',toks:=n }) :
  wpAny (model P w) A (call (.type "set") [.ref l]) Q E s:=by
 have xsz : xs.size = ks.length:=by
  rw [← Array.length_toList,ex,List.length_map]
 obtain ⟨c0,tl0,mro0⟩:=F.called_set.mro
 have f1:=F.called_set.made
 have f2:=F.called_set.sub
 have f3:=F.called_set.notType
 have f4:=F.called_set.canCreate
 have f5:=F.typeCall_set_1 (.ref l)
 refine wpAny_call (codeAny_of_tree (wpAny_pure ⟨Code.quiet_builtin _ (by decide +kernel),codeAny_builtin F.entry_type_call ?_⟩))
 rw [Around.under_plain (weight_type_call_type "set" [.ref l] []) rfl]
 repeat (any_goals (first | assumption | wp_step))
 refine codeAny_mono (code_set_led1 (.ref l) (E:=E) (Q₁:=fun v s1=>v = .ref s.heap.objs.size∧s1 = { s with heap:=s.heap.push (bare w) }) ⟨rfl,rfl⟩) fun r s1 z=>?_
 rcases r with e | fl
 ·exact z
 cases fl with
 | ret v =>
  obtain ⟨rfl,rfl⟩:=z
  have at0 : (s.heap.push (bare w)).get? s.heap.objs.size = some (bare w):=Heap.get?_push_size _ rfl
  have ty0 : Shared.TypeIs { s with heap:=s.heap.push (bare w) } (.ref s.heap.objs.size) "set" := ⟨_,at0,rfl⟩
  have f6:=F.called_set.init.lookup
  have f7:=F.called_set.init.bind (.ref s.heap.objs.size)
  repeat (any_goals (first | assumption | wp_step))
  refine codeAny_mono (codeAny_call_builtin (R:=wants (fun v s2=>v = .none∧∃ h' n L ep t,s2 = { s with heap:=h',toks:=n }∧Bag knd h' s.heap.objs.size L ep t∧Fed ks ks.length L∧∀ b o,s.heap.get? b = some o→h'.get? b = some o) E)
   F.called_set.init.plain F.entry_set_init (check_set_init_1 ty0 ?_)) fun r s2 z=>?_
  ·have lt : l < s.heap.objs.size:=hl.elim fun o z=>Heap.lt_size z.1
   have hl1 : (s.heap.push (bare w)).IsList l xs:=hl.push _
   obtain ⟨⟨oc,od,odt,os⟩,ol,rfl,nl,rfl⟩:=hl
   have ol1 : (s.heap.push (bare w)).get? l = some { cls:=.type "list", dict:=od,data:=.seq xs nl,slots:=os }:=Heap.get?_push_of_some _ ol
   have g1:=F.sub_list_set
   have g2:=F.sub_list_frozenset
   have g3 : (Value.type "list" == Value.type "dict") = false:=by decide
   unfold Builtin.«set.__init__» noKeywords Builtin.Frozenset.updateFrom
   generalize epi : pyIter = pi
   wp_walk
   subst epi
   refine wpAny_pyIter_list hl1 (wpAny_bind (wpAny_runValue ?_))
   have sz1 : (s.heap.push (bare w)).objs.size = s.heap.objs.size + 1:=Heap.size_push ..
   have no : ∀ b,s.heap.objs.size≤b→s.heap.get? b = none:=fun b le=>by
    rcases e : s.heap.get? b with _ | o
    ·rfl
    ·exact absurd (Heap.lt_size e) (Nat.not_lt.mpr le)
   have ne : l≠(s.heap.push (bare w)).objs.size:=by rw [sz1]; exact Nat.ne_of_lt (Nat.lt_succ_of_lt lt)
   have W:=(Walks.list (prog:=P) (w:=w) (A:=A.in1.in1.in1) (by simp [quiet]) _ l ne xs).toS
   rw [xsz] at W
   refine feed pk (ks:=ks) W (S:=s.heap.objs.size) (fun z=>by rw [sz1] at z; rcases List.mem_cons.mp z with z | z; exact absurd z (Nat.ne_of_lt (Nat.lt_succ_self _)); exact absurd (List.mem_singleton.mp z) (Nat.ne_of_gt lt)) few (fun i v hv=>?_) (h0:=s.heap) tk (no _ (Nat.le_refl _)) (fun b hb=>no b ?_) hu ks.length 0 _ (Nat.zero_add _) ⟨⟨_,Heap.get?_push_size _ rfl,rfl,rfl⟩,hl1.push _⟩
    (fun b o e=>Heap.get?_push_of_some _ (Heap.get?_push_of_some _ e)) ⟨[],0,_,Bag.bare (Heap.get?_push_of_some _ at0),Fed.none ks⟩ fun s' L ep t mv B fd k=>?_
   ·have z : xs.toList[i]? = some v:=by rw [Array.getElem?_toList]; exact hv
    rw [ex,List.getElem?_map] at z
    obtain ⟨p,h1,h2⟩:=Option.map_eq_some_iff.mp z
    exact ⟨p,h1,h2.symm⟩
   ·rw [List.mem_singleton.mp hb,sz1]
    exact Nat.le_succ _
   ·rcases s' with ⟨h',gs,dr,n,so⟩
    cases (show gs = s.gens from mv.gens)
    cases (show dr = s.drawn from mv.drawn)
    cases (show so = s.os from mv.os)
    exact wpAny_pure (wpAny_pure ⟨rfl,h',n,L,ep,t,rfl,B,fd,k⟩)
  ·rcases r with e | fl
   ·exact z
   cases fl with
   | ret v =>
    obtain ⟨rfl,h',n,L,ep,t,rfl,B,fd,k⟩:=z
    repeat (any_goals (first | assumption | wp_step))
    exact q h' n L ep t B fd k
   | _=>exact z.elim
 | _=>exact z.elim
end
end Ms
namespace Ms
open PySem PySem.Spec PyProof.Rows L2
theorem plain_mix (P : Program) (w : World) : Plain (mixKind P w):=by
 intro k v hv
 rcases keyIs_shape (show keyIs k v = true from hv) with ⟨i,t,rfl,rfl⟩ | ⟨x,t,rfl,rfl⟩
 ·exact ⟨fun n=>by cases n <;> rfl,fun n=>⟨true,by cases n <;> rfl⟩⟩
 ·exact ⟨fun n=>by cases n <;> rfl,fun n=>⟨false,by cases n <;> rfl⟩⟩
/-- the unlike ones among ks,each once -/
def Unlike {α : Type} (ks L : List α) : Prop:=L.Nodup∧∀ k,k∈L↔k∈ks
theorem nodup_sub {α : Type} [DecidableEq α] : ∀ {L ks : List α},L.Nodup→(∀ k∈L,k∈ks)→L.length≤ks.length
 | [],_,_,_=>Nat.zero_le _
 | x :: L,ks,nd,sub=>by
  obtain ⟨n1,n2⟩:=List.nodup_cons.mp nd
  have hx:=sub x List.mem_cons_self
  have ih:=nodup_sub (L:=L) (ks:=ks.erase x) n2 fun y hy=>(List.mem_erase_of_ne (show y≠x from fun e=>n1 (e ▸ hy))).mpr (sub y (List.mem_cons_of_mem _ hy))
  rw [List.length_erase_of_mem hx] at ih
  have:=List.length_pos_of_mem hx
  rw [List.length_cons]
  omega
theorem Unlike.le {α : Type} [DecidableEq α] {ks L : List α} (U : Unlike ks L) : L.length≤ks.length:=nodup_sub U.1 fun k hk=>(U.2 k).mp hk
/-- as many as there are: none stands twice -/
theorem Unlike.nd {α : Type} [DecidableEq α] {ks L : List α} (U : Unlike ks L) : L.length = ks.length↔ks.Nodup:=by
 constructor
 ·intro e
  induction ks generalizing L with
  | nil=>exact List.nodup_nil
  | cons x ks ih =>
   have hx : x ∉ ks:=fun z=>by
    have:=nodup_sub (ks:=ks) U.1 fun k hk=>((List.mem_cons.mp ((U.2 k).mp hk)).elim (fun e=>e ▸ z) id)
    rw [List.length_cons] at e
    omega
   have xL : x∈L:=(U.2 x).mpr List.mem_cons_self
   refine List.nodup_cons.mpr ⟨hx,ih (L:=L.erase x) ⟨U.1.erase x,fun k=>?_⟩ (by rw [List.length_erase_of_mem xL,e]; rfl)⟩
   rw [U.1.mem_erase_iff,U.2 k,List.mem_cons]
   exact ⟨fun z=>z.2.elim (fun e=>absurd e z.1) id,fun z=>⟨fun e=>hx (e ▸ z),.inr z⟩⟩
 ·exact fun nd=>Nat.le_antisymm U.le (nodup_sub nd fun k hk=>(U.2 k).mpr hk)
/-- the set at a,by its tuples -/
def SetM (P : Program) (w : World) (a : Addr) (L : List (Addr × List Key)) : HO:=.ext fun h=>∃ ep t,Bag (mixKind P w) h a L ep t
theorem setM_new {P : Program} {w : World} {H : Hp} {h : Heap} {a : Addr} {L : List (Addr × List Key)} {ep : Nat} {t : SetTable} (B : Bag (mixKind P w) h a L ep t) : ObjOk P w H h a (SetM P w a L):=by
 refine ⟨⟨ep,t,B⟩,B.obj.elim fun o z=>⟨o,z.1⟩,fun h1 h2 p k=>?_⟩
 obtain ⟨ep,t,B⟩:=p
 exact ⟨ep,t,B.go k⟩
section
variable {X : Cx}
theorem tup_at {pins : List (Addr × Obj)} {σ : L2.St} {H : Hp} {s : Shared} {b : Addr} {k : List Key} (I : Inv X pins σ H s) (e : SqT X.K H b (k.map kV)) : IsTupleKey (mixKind X.prog X.w) s.heap k b:=by
 obtain ⟨its,r,⟨o,h1,h2,n,h3⟩,_⟩:=I.tuple e
 exact ⟨o,its.toArray,n,h1,h2,h3,by simpa using items_are (P:=X.prog) (w:=X.w) r⟩
theorem refs {ks : List (Addr × List Key)} {us : List Value} (r : Vals (ks.map fun p=>V.ref p.1) us) : us = ks.map fun p=>Value.ref p.1:=by
 induction ks generalizing us with
 | nil=>cases r; rfl
 | cons p ks ih =>
  cases r with
  | cons h1 h2 =>
   rw [ih h2,show _ = Value.ref p.1 from h1]
   rfl
/-- set(xs) -/
def rSetM (K : PySem.W.Frag) (P : Program) (w : World) : List V→Hp→VK→Prop:=fun vs H Q=>∃ (l : Addr) (ks : List (Addr × List Key)),vs = [.ref l]∧SqL K H l (ks.map fun p=>.ref p.1)∧(∀ p∈ks,SqT K H p.1 (p.2.map kV))∧Fewer ks ∧
 ∀ a L,H a = none→(∀ p∈L,p∈ks)→Unlike (ks.map Prod.snd) (L.map Prod.snd)→Q (.ref a) (upd H a (SetM P w a L))
theorem cr_setM (hc : X.calm = true) (hu : X.A.units + 3 < cLine) : CallR X (.type "set") (rSetM X.K X.prog X.w):=by
 rintro pins s σ H vs us Q I r ⟨l,ks,rfl,hl,hk,few,q⟩
 rw [Vals.ref1 r]
 obtain ⟨its,rv,pl,_⟩:=I.list hl
 refine mkSet (plain_mix X.prog X.w) (ks:=ks) (I.ok.hd hc) pl.isList (by simpa using refs rv) (fun p hp=>tup_at I (hk p hp)) few hu fun h' n L ep t B fd k=>?_
 have sub : ∀ p∈L,p∈ks:=fun p hp=>List.mem_of_mem_take (fd.from' p hp)
 refine ⟨.ref s.heap.objs.size,upd H s.heap.objs.size (SetM X.prog X.w s.heap.objs.size L),I.laid (t':=n) k (Nat.le_refl _) (setM_new B),rfl,q _ L (I.hok.fresh (Nat.le_refl _)) sub ⟨B.dif,fun k=>⟨fun z=>?_,fun z=>?_⟩⟩⟩
 ·obtain ⟨p,hp,rfl⟩:=List.mem_map.mp z
  exact List.mem_map.mpr ⟨p,sub p hp,rfl⟩
 ·obtain ⟨p,hp,rfl⟩:=List.mem_map.mp z
  exact fd.all p (by rw [List.take_length]; exact hp)
end
end Ms
namespace Ms
open PySem PySem.Spec PyProof.Rows L2
section
variable {P : Program} {w : World} {A : Around} {E : Value→Shared→Prop} {s : Shared}
theorem addCall {a x : Addr} {k : List Key} {L : List (Addr × List Key)} {ep : Nat} {t : SetTable} {Q : Value→Shared→Prop} (B : Bag (mixKind P w) s.heap a L ep t) (tl : Tups (mixKind P w) s.heap L) (tx : IsTupleKey (mixKind P w) s.heap k x)
  (hu : A.units + 3 < cLine) (few : k ∉ L.map Prod.snd→L.length + 1 < 64)
  (q : ∀ h' n L' ep' t',Heap.SameBut a s.heap h'→Bag (mixKind P w) h' a L' ep' t'→(k∈L.map Prod.snd∧L' = L∨k ∉ L.map Prod.snd∧L'.Perm ((x,k) :: L))→Q .none { s with heap:=h',toks:=n }) :
  wpAny (model P w) A (call (.builtin "set.add") [.ref a,.ref x]) Q E s:=by
 obtain ⟨ob,hob,exs,dat⟩:=B.obj
 refine wpAny_call_entry F.slot_set_add (show Shared.TypeIs s (.ref a) "set" from ⟨ob,hob,exs.1⟩) F.entry_set_add ?_ (F.args_set_add_2 _ _)
 unfold Builtin.«set.add» Builtin.Frozenset.oneOther
 simp only [List.isEmpty_nil,bind_assoc]
 unfold Builtin.Frozenset.addrOf setAdd
 refine wpAny_bind (wpAny_pure ?_); try dsimp only
 refine wpAny_bind (wpAny_pure ?_); try dsimp only
 refine wpAny_bind (wpAny_holding (wpAny_bind (wpAny_pyHash_tuple ?_ tx ?_)))
 ·show A.units + 1 < cLine
  omega
 refine add (s:={ s with toks:=s.toks + (k.length + 1) }) (plain_mix P w) B tl tx ?_ few fun b h' L' ep' t' sb B' c=>?_
 ·show A.units + 1 < cLine
  omega
 show wpAny _ _ (ret Value.none) _ _ _
 exact wpAny_pure ⟨_,rfl,q h' _ L' ep' t' sb B' c⟩
/-- a clause's loop,whatever is done where its tests let a thing pass -/
theorem clause {el tg : Expr} {gens : List Comprehension} {scope : Scope} {pos : Pos} {lv : Nat} {it acc : Value} {env : Env} {R : Result→Shared→Prop} {p : Pos} {cs : List Expr} {act : Sem Unit}
  (sh : compTurn (.SetComp el gens scope pos) lv it acc env = (do
   standAt p
   match ← pyNext it with
   | none=>pure (.done .next)
   | some v =>
    letOwnedTupleGo tg it v
    assign tg env v
    let mut pass:=true
    for c in cs do
     if pass then pass ← isTrue c env (eval c env)
    if pass then act
    again (.compLoop (.SetComp el gens scope pos) lv it acc env)))
  (St : Nat→Shared→Prop)
  (turn : ∀ n t,St n t→wpAny (model P w) A (pyNext it) (fun r t1=>match r with
   | none=>R (.ok .next) t1
   | some v=>wpAny (model P w) A (letOwnedTupleGo tg it v) (fun _ t2=>wpAny (model P w) A (assign tg env v) (fun _ t3 =>
     wpAny (model P w) A (forIn cs true fun c r=>if r = true then do let k ← isTrue c env (eval c env); pure (ForInStep.yield k) else pure (ForInStep.yield r)) (fun k t4 =>
      if k = true then wpAny (model P w) A act (fun _ t5=>∃ m,m < n∧St m t5) (fun _ _=>False) t4 else ∃ m,m < n∧St m t4) (fun _ _=>False) t3) (fun _ _=>False) t2) (fun _ _=>False) t1) (fun _ _=>False) t)
  (n : Nat) (h : St n s) : codeAny (model P w) A (.compLoop (.SetComp el gens scope pos) lv it acc env) R s:=by
 refine codeAny_loop rfl St (fun n t ht=>?_) n h
 show wpAny _ A ((compTurn (.SetComp el gens scope pos) lv it acc env).onRaise (fun x=>do noteFrame x env; theTreesLotGoes x)) _ _ t
 refine wpAny_noted ?_
 rw [sh]
 refine wpAny_bind (wpAny_standAt (wpAny_bind (thnF (turn n t ht) fun r t1 h1=>?_)))
 match r,h1 with
 | none,h1=>exact wpAny_pure h1
 | some v,h1 =>
  refine wpAny_bind (thnF h1 fun _ t2 h2=>wpAny_bind (thnF h2 fun _ t3 h3=>wpAny_bind (thnF h3 fun k t4 h4=>?_)))
  match k,h4 with
  | false,h4=>exact wpAny_pure ⟨rfl,h4⟩
  | true,h4=>exact wpAny_bind (thnF h4 fun _ t5 h5=>wpAny_pure ⟨rfl,h5⟩)
end
section
variable {X : Cx}
/-- what a turn that passed does with the set at D,and what it is to reach -/
abbrev TAd:=Addr→L2.St→Hp→(Hp→Prop)→Prop
def adM (K : PySem.W.Frag) (P : Program) (w : World) (te : TE) : TAd:=fun D σ H Nx=>te σ H fun y H1=>∃ (b : Addr) (k : List Key) (L : List (Addr × List Key)),y = .ref b∧SqT K H1 b (k.map kV)∧H1 D = some (SetM P w D L)∧(∀ p∈L,SqT K H1 p.1 (p.2.map kV)) ∧
 (k ∉ L.map Prod.snd→L.length + 1 < 64)∧∀ L',(k∈L.map Prod.snd∧L' = L∨k ∉ L.map Prod.snd∧L'.Perm ((b,k) :: L))→Nx (upd H1 D (SetM P w D L'))
def tStM (P : Program) (w : World) (wi : TI) (g : TG) (tt : TT) (ad : TAd) (vs : List Nat) : TE:=fun σ H Q=>wi σ H fun J H1=>∀ D,H1 D = none→∃ W : Nat→Nat→Hp→Prop,(∃ m,W 0 m (upd H1 D (SetM P w D [])))∧∀ i m H,W i m H →
 (J.stop i H∧Q (.ref D) H)∨(J.go i H∧∃ Nx : Hp→Prop,(∀ H',Nx H'→∃ m',m' < m∧W (i + 1) m' H')∧∀ x H',J.yld i H x H'→g x (wipe σ vs) H' fun σ2 H2=>wipe σ2 vs = wipe σ vs∧tt σ2 H2 fun b H3=>if b = true then ad D σ2 H3 Nx else Nx H3)
/-- in a block: the turn's work by its reading -/
def Works (Y : Cx) (vs : List Nat) (act : Env→Addr→Sem Unit) (ad : TAd) : Prop:=∀ (pins : List (Addr × Obj)) (s : Shared) (σ : L2.St) (H : Hp) (D : Addr) (Nx : Hp→Prop),Inv Y pins σ H s→ad D σ H Nx →
 wpAny (model Y.prog Y.w) Y.A (act Y.env D) (fun _ s'=>∃ σ' H',Inv Y pins σ' H' s'∧(wipe σ vs).length = σ'.length∧(∀ (j : Nat) (v : V),(wipe σ vs)[j]? = some (some v)→σ'[j]? = some (some v))∧Nx H') (fun _ _=>False) s
theorem works_one {Y : Cx} {vs : List Nat} {el : Expr} {te : TE} (hx : Y.xe = fun _ _=>False) (hu : Y.A.units + 3 < cLine) (he : PE Y el te) :
  Works Y vs (fun env D=>do let v ← eval el env; standAt el.pos; let _ ← call (.builtin "set.add") [.ref D,v]) (adM Y.K Y.prog Y.w te):=by
 intro pins s σ H D Nx I h
 have run:=he.run pins s σ H _ I h
 rw [hx] at run
 refine wpAny_bind (thnF run fun v s1 h1=>wpAny_bind (wpAny_standAt ?_))
 obtain ⟨y,H1,I1,rv,b,k,L,rfl,hb,hD,tl,few,nx⟩:=h1
 cases (show v = Value.ref b from rv)
 obtain ⟨ep,t,B⟩:=(I1.hok D _ hD).1
 refine wpAny_bind (addCall B (fun p m=>tup_at I1 (tl p m)) (tup_at I1 hb) hu few fun h' n L' ep' t' sb B' c=>wpAny_pure ?_)
 obtain ⟨o',ho',_⟩:=B'.obj
 exact ⟨σ,_,I1.write (e:=D) (t':=n) (by rw [hD]; trivial) (.inl rfl) (fun c u nc e=>(sb.2 c nc).trans e) ⟨o',ho'⟩ (setM_new B'),wipe_length σ vs,fun j v e=>(wipe_some e).1,nx L' c⟩
/-- the block of a set comprehension,its first clause's turns done by act -/
theorem block_sets {pins : List (Addr × Obj)} {s : Shared} {σ : L2.St} {H : Hp} {Q : VK} {el tg iter : Expr} {cs : List Expr} {rest : List Comprehension} {scope : Scope} {own : List (Str × Nat)} {pos pos' : Pos} {wi : TI} {g : TG} {tt : TT} {ad : TAd} {act : Env→Addr→Sem Unit}
  (calm : X.calm = true) (uniq : X.N.Nodup) (I : Inv X pins σ H s) (src : PI X tg iter wi) (ok : BlkOk X.N X.env.scope scope own)
  (sh : ∀ (env : Env) (it D : Addr),compTurn (.SetComp el (⟨tg,iter,cs,0⟩ :: rest) scope pos) 0 (.ref it) (.ref D) env = (do
   standAt iter.pos
   match ← pyNext (.ref it) with
   | none=>pure (.done .next)
   | some v =>
    letOwnedTupleGo tg (.ref it) v
    assign tg env v
    let mut pass:=true
    for c in cs do
     if pass then pass ← isTrue c env (eval c env)
    if pass then act env D
    again (.compLoop (.SetComp el (⟨tg,iter,cs,0⟩ :: rest) scope pos) 0 (.ref it) (.ref D) env)))
  (hg : ∀ (t : Shared) (G : Hp) (C : Addr) (cl : List (Str × Addr)) (fr : List Addr),PG (X.blk t G scope (compEnvC scope cl C X.env) fr) tg g)
  (ht : ∀ (t : Shared) (G : Hp) (C : Addr) (cl : List (Str × Addr)) (fr : List Addr),PTs (X.blk t G scope (compEnvC scope cl C X.env) fr) cs tt)
  (hw : ∀ (t : Shared) (G : Hp) (C : Addr) (cl : List (Str × Addr)) (fr : List Addr),Works (X.blk t G scope (compEnvC scope cl C X.env) fr) (own.map (·.2)) act ad)
  (fold : ∀ x,foldedSetIterable iter X.env x = pure x) (h : tStM X.prog X.w wi g tt ad (own.map (·.2)) σ H Q) :
  wpAny (model X.prog X.w) X.A (comprehension (.SetComp el (⟨tg,iter,cs,0⟩ :: rest) scope pos) scope X.env pos' (newSet (.type "set")) false (eval iter X.env) none) (EP X pins σ Q) X.xe s:=by
 have cap : ∀ y∈scope.names,y.2 = .free→∃ c,X.env.cells.lookup y.1 = some c:=fun y my e=>(ok.free y my e).elim (fun z=>I.ok.has _ (.inl z)) (fun z=>I.ok.has _ (.inr z))
 refine wpAny_comprehension_free (use:=none) rfl fold (closure_ok cap) ok.kind (fun y my e=>by rw [ok.uniq y my,e]) (thn (src.run pins s σ H _ I h) fun xv t1 k1=>thn k1 fun iv t2 k2=>?_)
 obtain ⟨it,fr,tn,J,G2,rfl,I2,T,at2,fr2,q⟩:=k2
 refine PpSet.newSet_ok (newEnv_comp ?_)
 have lo : ∀ b∈fr,b < t2.heap.objs.size:=fun b mb=>(T.obj _ _ at2 b mb).elim fun o z=>Heap.lt_size z.1
 have fresh : G2 t2.heap.objs.size = none:=I2.hok.fresh (Nat.le_refl _)
 obtain ⟨W,⟨m0,w0⟩,step⟩:=q _ fresh
 generalize eD : t2.heap.objs.size = D at fresh w0 step lo ⊢
 generalize e3 : ({ t2 with heap:=t2.heap.push (bare X.w) } : Shared) = t3
 have heap3 : t3.heap = t2.heap.push (bare X.w):=by rw [← e3]
 have I3 : Inv X pins σ (upd G2 D (SetM X.prog X.w D [])) t3:=by
  rw [← e3]
  refine I2.laid (t':=t2.toks) (fun c o z=>Heap.get?_push_of_some _ z) (Nat.le_of_eq eD) (setM_new (Bag.bare ?_))
  rw [← eD]
  exact Heap.get?_push_size _ rfl
 have fr3 : ∀ b∈fr,FpOk X pins (upd G2 D (SetM X.prog X.w D [])) b∧b < t3.heap.objs.size:=fun b mb =>
  ⟨⟨by rw [upd_ne (Nat.ne_of_lt (lo b mb))]; exact (fr2 b mb).1,(fr2 b mb).2⟩,by rw [heap3,Heap.size_push,eD]; exact Nat.lt_succ_of_lt (lo b mb)⟩
 have at3 : tn 0 t3.heap:=T.keep _ _ _ at2 fun b _ o z=>by rw [heap3]; exact Heap.get?_push_of_some _ z
 have I4:=block_start I3 ok uniq fr3
 have none3 : ∀ b∈fr,(upd G2 D (SetM X.prog X.w D [])) b = none:=fun b mb=>(fr3 b mb).1.1
 generalize upd G2 D (SetM X.prog X.w D []) = G3 at I3 I4 w0 none3 fr3
 have pg:=hg t3 G3 t3.heap.objs.size (cellsFrom (t3.heap.objs.size + 1) scope.names (cloFrom X.env.cells scope.names [])) fr
 have pt:=ht t3 G3 t3.heap.objs.size (cellsFrom (t3.heap.objs.size + 1) scope.names (cloFrom X.env.cells scope.names [])) fr
 have pw:=hw t3 G3 t3.heap.objs.size (cellsFrom (t3.heap.objs.size + 1) scope.names (cloFrom X.env.cells scope.names [])) fr
 show codeAny _ _ (.compStart (.SetComp el (⟨tg,iter,cs,0⟩ :: rest) scope pos) 0 (.ref it) (.ref D) (compEnvC scope (cellsFrom (t3.heap.objs.size + 1) scope.names (cloFrom X.env.cells scope.names [])) t3.heap.objs.size X.env)) (compPost (model X.prog X.w) X.A X.xe none (EP X pins σ Q) (.ref D) t3.heap.objs.size)
  { t3 with heap:=pushCells (t3.heap.push { cls:=.type "dict", data:=.dict #[] }) scope.names }
 generalize ece : compEnvC scope (cellsFrom (t3.heap.objs.size + 1) scope.names (cloFrom X.env.cells scope.names [])) t3.heap.objs.size X.env = ce at I4 pg pt pw ⊢
 have place : ce.locals = t3.heap.objs.size:=by rw [← ece]; rfl
 generalize e4 : ({ t3 with heap:=pushCells (t3.heap.push { cls:=.type "dict", data:=.dict #[] }) scope.names } : Shared) = t4 at I4 ⊢
 have at4 : tn 0 t4.heap:=T.keep _ _ _ at3 fun b _ o z=>by rw [← e4]; exact pushCells_keeps _ _ _ _ (Heap.get?_push_of_some _ z)
 have rest_ : ∀ {σ' : L2.St} {G' : Hp} {t' : Shared},Inv (X.blk t3 G3 scope ce fr) [] σ' G' t'→(∀ b∈fr,G' b = none)→∀ b∈fr,FpOk (X.blk t3 G3 scope ce fr) [] G' b:=fun {σ' G' t'} I' no b mb =>
  ⟨no b mb,(I'.ok.exf b mb).1,I'.ok.exfs b mb,.inl mb,fun x c z=>(I'.ok.exf b mb).2 x c z,fun p mp=>nomatch (show p∈([] : List (Addr × Obj)) from by simpa using mp)⟩
 have turns : codeAny (model X.prog X.w) X.A (.compLoop (.SetComp el (⟨tg,iter,cs,0⟩ :: rest) scope pos) 0 (.ref it) (.ref D) ce) (compPost (model X.prog X.w) X.A X.xe none (EP X pins σ Q) (.ref D) t3.heap.objs.size) t4:=by
  refine clause (sh ce it D) (fun n t=>∃ i G,Inv (X.blk t3 G3 scope ce fr) [] (wipe σ (own.map (·.2))) G t∧tn i t.heap∧(∀ b∈fr,G b = none)∧W i n G) ?_ m0 ⟨0,G3,I4,at4,none3,w0⟩
  rintro n t5 ⟨i,G5,I5,at5,no5,w5⟩
  rcases step i n G5 w5 with ⟨over,fin⟩ | ⟨on,Nx,less,go⟩
  ·refine thnF (T.done (X.blk t3 G3 scope ce fr) rfl rfl rfl calm i [] t5 _ G5 (fun _ _=>False) I5 (rest_ I5 no5) at5 over) fun r t6 ⟨er,I6⟩=>?_
   subst er
   have I7 : Inv X pins σ G5 t6:=I3.call' (ch:=fr) I6.os I6.base I6.hok I6.bare fun b mb=>let z:=(fr3 b mb).1; ⟨z.2.2.2.1,z.2.1,z.2.2.2.2.1,z.2.2.2.2.2⟩
   have noC : G5 t3.heap.objs.size = none:=by rw [← place]; exact I6.free
   obtain ⟨mm,ns,_⟩:=I6.loc
   have ns : t6.heap.Ns ce.locals mm:=ns
   rw [place] at ns
   refine ⟨mm,ns,fun h'' sb=>?_⟩
   obtain ⟨z0,z1,z2,z3,z4,z5⟩:=I3.fpOk (Nat.le_refl _) noC
   exact ⟨.ref D,G5,I7.turned (t':=t6.toks) (fun c o nc z=>(sb.2 c nc).trans z) z0 z1 z3 z4 z5,rfl,fin⟩
  ·refine thnF (T.item (X.blk t3 G3 scope ce fr) rfl rfl rfl calm i [] t5 _ G5 (fun _ _=>False) I5 (rest_ I5 no5) at5 on) fun r t6 ⟨u,er,k6⟩=>?_
   subst er
   refine thnF k6 fun _ t7 ⟨x,G7,I7,rx,yx,at7,no7⟩=>?_
   have J7:=I7.pinned (rest_ I7 no7) (T.obj _ _ at7)
   refine thnF (pg.run _ t7 _ G7 x u _ J7 rx (go x G7 yx)) fun _ t8 ⟨σ8,G8,I8,same8,k8⟩=>?_
   refine thnF (pt.run _ t8 σ8 G8 _ I8 k8) fun b t9 ⟨G9,I9,k9⟩=>?_
   have again_ : ∀ {σ' : L2.St} {t' : Shared} {G' : Hp},Inv (X.blk t3 G3 scope ce fr) ([] ++ pinsAt fr t7.heap) σ' G' t'→(wipe σ (own.map (·.2))).length = σ'.length→(∀ (j : Nat) (v : V),(wipe σ (own.map (·.2)))[j]? = some (some v)→σ'[j]? = some (some v))→Nx G' →
     ∃ m,m < n∧∃ i G,Inv (X.blk t3 G3 scope ce fr) [] (wipe σ (own.map (·.2))) G t'∧tn i t'.heap∧(∀ b∈fr,G b = none)∧W i m G:=fun {σ' t' G'} I' len keep nx=>by
    obtain ⟨m',lt,w'⟩:=less G' nx
    have stays : ∀ b∈fr,∀ o,t7.heap.get? b = some o→t'.heap.get? b = some o∧G' b = none:=fun b mb o z =>
     let y:=I'.pin (b,o) (List.mem_append_right _ (List.mem_append_right _ (mem_pinsAt mb z))); ⟨y.1,y.2.1⟩
    exact ⟨m',lt,i + 1,G',(I'.unpinned (pins:=[])).weak len keep,T.keep _ _ _ at7 fun b mb o z=>(stays b mb o z).1,fun b mb=>(T.obj _ _ at7 b mb).elim fun o z=>(stays b mb o z.1).2,w'⟩
   cases b with
   | false =>
    rw [if_neg (by decide)] at k9
    rw [if_neg (by decide)]
    exact again_ I9 (by rw [← same8,wipe_length]) (fun j v z=>by rw [← same8] at z; exact (wipe_some z).1) k9
   | true =>
    rw [if_pos rfl] at k9
    rw [if_pos rfl]
    refine thnF (pw _ t9 σ8 G9 D Nx I9 k9) fun _ t10 ⟨σ',G',I',len,keep,nx⟩=>?_
    rw [same8] at len keep
    exact again_ I' len keep nx
 exact PpSet.codeAny_compStart_set turns (T.self X.A 0 _ _ _ at4 turns)
/-- {el for tg in iter if ..} -/
theorem pe_setM {el tg iter : Expr} {cs : List Expr} {scope : Scope} {own : List (Str × Nat)} {pos : Pos} {wi : TI} {g : TG} {tt : TT} {te : TE} (calm : X.calm = true) (hu : X.A.units + 3 < cLine) (uniq : X.N.Nodup) (src : PI X tg iter wi) (ok : BlkOk X.N X.env.scope scope own)
  (hg : ∀ (t : Shared) (G : Hp) (C : Addr) (cl : List (Str × Addr)) (fr : List Addr),PG (X.blk t G scope (compEnvC scope cl C X.env) fr) tg g)
  (ht : ∀ (t : Shared) (G : Hp) (C : Addr) (cl : List (Str × Addr)) (fr : List Addr),PTs (X.blk t G scope (compEnvC scope cl C X.env) fr) cs tt)
  (he : ∀ (t : Shared) (G : Hp) (C : Addr) (cl : List (Str × Addr)) (fr : List Addr),PE (X.blk t G scope (compEnvC scope cl C X.env) fr) el te)
  (fold : ∀ x,foldedSetIterable iter X.env x = pure x:=by intro _; rfl) : PE X (.SetComp el [⟨tg,iter,cs,0⟩] scope pos) (tStM X.prog X.w wi g tt (adM X.K X.prog X.w te) (own.map (·.2))):=by
 refine ⟨fun pins s σ H Q I h=>?_⟩
 rw [PpSet.eval_SetComp]
 exact block_sets calm uniq I src ok (fun env it D=>rfl) hg ht (fun t G C cl fr=>works_one (Y:=X.blk t G scope (compEnvC scope cl C X.env) fr) rfl hu (he t G C cl fr)) fold h
end
end Ms
namespace Srd
open PySem PySem.W PyProof.Rows L2
abbrev VD:=V × PyData
def srt (xs : List V) (ds : List PyData) : List VD:=(xs.zip ds).mergeSort (dataLe false Prod.snd)
end Srd
namespace Ms
open PySem PySem.W PyProof.Rows L2 Srd
theorem perm_lift {α β : Type} {f : α→β} {vs ws : List β} (h : vs.Perm ws) : ∀ {L : List α},ws = L.map f→∃ bs : List α,bs.Perm L∧vs = bs.map f:=by
 induction h with
 | nil =>
  intro L e
  exact ⟨[],by rw [List.map_eq_nil_iff.mp e.symm],rfl⟩
 | cons x _ ih =>
  intro L e
  match L,e with
  | b :: L',e =>
   rw [List.map_cons] at e
   obtain ⟨e1,e2⟩:=List.cons.inj e
   obtain ⟨bs,p,e3⟩:=ih e2
   exact ⟨b :: bs,p.cons b,by rw [List.map_cons,e1,e3]⟩
 | swap x y l =>
  intro L e
  match L,e with
  | b :: c :: L',e =>
   rw [List.map_cons,List.map_cons] at e
   obtain ⟨e1,e2⟩:=List.cons.inj e
   obtain ⟨e3,e4⟩:=List.cons.inj e2
   exact ⟨c :: b :: L',.swap b c L',by rw [List.map_cons,List.map_cons,e1,e3,e4]⟩
 | trans _ _ ih1 ih2 =>
  intro L e
  obtain ⟨bs,p,e1⟩:=ih2 e
  obtain ⟨cs,p2,e2⟩:=ih1 e1
  exact ⟨cs,p2.trans p,e2⟩
section
variable {P : Program} {w : World} {A : Around} {E : Value→Shared→Prop} {s : Shared} {κ : Type} [DecidableEq κ] {knd : PySem.KeyKind P w κ} {a : Addr} {L : List (Addr × List κ)} {ep : Nat} {t : SetTable}
theorem each_refs {R : Value→(Addr × List κ)→Prop} : ∀ bs : List (Addr × List κ),(∀ b∈bs,R (.ref b.1) b)→EachIs R (bs.map fun p=>Value.ref p.1) bs
 | [],_=>.nil
 | b :: bs,h=>.cons (h b List.mem_cons_self) (each_refs bs fun c m=>h c (List.mem_cons_of_mem _ m))
theorem refs_of : ∀ {out : List Value} {bs : List (Addr × List κ)},EachIs (fun v (b : Addr × List κ)=>v = Value.ref b.1) out bs→out = bs.map fun p=>Value.ref p.1
 | _,_,.nil=>rfl
 | _,_,.cons h t=>by rw [List.map_cons,← refs_of t,h]
theorem sortBag {enc : Addr × List κ→PyData} {Q : Value→Shared→Prop} (B : Bag knd s.heap a L ep t) (quiet : A.handled = none) (er : ∀ p∈L,∃ as,Reads s.heap (.ref p.1) (enc p) as) (al : AllAlike (L.map enc)) (so : Sortable (L.map enc)) (hu : ∀ p∈L,A.units + 4 + (enc p).depth < cLine)
  (q : ∀ s' p (out : Array Value) (c : Nat) (bs : List (Addr × List κ)),(∀ b o,s.heap.get? b = some o→s'.heap.get? b = some o)→s'.gens = s.gens→s'.os = s.os→s.heap.objs.size≤p →
   s'.heap.get? p = some (seqObj "list" out c)→out.toList = bs.map (fun b=>Value.ref b.1)→bs.Perm L→(bs.Pairwise fun a b=>dataLt (enc b) (enc a) = false)→Q (.ref p) s') :
  wpAny (model P w) A (call (.builtin "sorted") [.ref a]) Q E s:=by
 refine Calls.call_function_entry kind_sorted plain_sorted entry_sorted (args_sorted1 _) ?_
 delta Builtin.«sorted»
 obtain ⟨o,ho,ex,hd⟩:=B.obj
 have few:=B.few
 refine wpAny_bind (m:=checkCount "sorted" 1 1 _) (wpAny_pure (wpAny_bind (collect_set (A:=A.in1) quiet ⟨o,ho,ex.1,hd⟩ B.fits (by rw [List.size_toArray,List.length_map]; exact Nat.lt_trans few (by decide)) B.tab.ris B.led fun s1 vs k1 sz1 gn1 os1 pm=>?_)))
 have pm1 : vs.Perm (L.map fun p=>Value.ref p.1):=by
  have e : ((L.map (ent knd)).toArray.toList.map (·.2)) = L.map fun p=>Value.ref p.1:=by
   rw [List.map_map]
   rfl
  rw [e] at pm
  exact pm
 obtain ⟨bs,pb,rfl⟩:=perm_lift pm1 rfl
 have lb : bs.length = L.length:=pb.length_eq
 refine wpAny_bind (wpAny_newList ?_ (by rw [List.length_map,lb,sizeLine_eq]; omega))
 have oL : (s1.heap.push (seqObj "list" (bs.map fun p=>Value.ref p.1).toArray 0)).get? s1.heap.objs.size = some (seqObj "list" (bs.map fun p=>Value.ref p.1).toArray 0):=Heap.get?_push_size _ rfl
 have kp : ∀ b o,s.heap.get? b = some o→(s1.heap.push (seqObj "list" (bs.map fun p=>Value.ref p.1).toArray 0)).get? b = some o:=fun b o e=>Heap.get?_push_of_some _ (k1 b o e)
 have ms : ∀ {d},d∈bs.map enc→d∈L.map enc:=fun m=>(pb.map enc).mem_iff.mp m
 have er2 : ∀ b∈bs,∃ as,Reads (s1.heap.push (seqObj "list" (bs.map fun p=>Value.ref p.1).toArray 0)) (.ref b.1) (enc b) as∧s1.heap.objs.size ∉ as:=fun b m=>by
  obtain ⟨as,r⟩:=er b (pb.mem_iff.mp m)
  refine ⟨as,PyProof.Rows.Reads.keeps kp r,fun z=>?_⟩
  obtain ⟨o2,e2⟩:=PyProof.On.reads_mem_get r _ z
  exact absurd (Heap.lt_size e2) (Nat.not_lt.mpr sz1)
 refine wpAny_bind (wpAny_holding (list_sort_data (R:=fun v (b : Addr × List κ)=>v = Value.ref b.1) (enc:=enc) (bs:=bs) oL (each_refs bs fun _ _=>rfl) (each_refs (R:=fun v b=>∃ as,Reads (s1.heap.push (seqObj "list" (bs.map fun p=>Value.ref p.1).toArray 0)) v (enc b) as∧s1.heap.objs.size ∉ as) bs er2) (fun d m d' m'=>al d (ms m) d' (ms m')) (so.imp (fun h d m=>h d (ms m)) (fun h d m=>h d (ms m))) (by rw [lb,sizeLine_eq]; omega) (fun b m=>?_) fun out lo eo=>?_))
 ·have:=hu b (pb.mem_iff.mp m)
  have e1 : A.in1.units = A.units + 1:=rfl
  omega
 obtain ⟨c,hc⟩:=sortedHeap_at (vs:=bs.map fun p=>Value.ref p.1) (out:=List.toArray out) oL
 refine wpAny_pure ⟨_,rfl,q _ s1.heap.objs.size _ c (bs.mergeSort (dataLe false enc)) (fun b u e=>?_) gn1 os1 sz1 hc (refs_of eo) ((List.mergeSort_perm _ _).trans pb) ?_⟩
 ·have old:=k1 b u e
  have lt:=Heap.lt_size old
  refine (sortedHeap_old (Nat.ne_of_lt lt) (by rw [size_push']; exact Nat.lt_succ_of_lt lt)).trans ?_
  exact Heap.get?_push_of_some _ old
 ·refine (sort_pairwise (sortLe_total (listOrd itemOrd) false fun b : Addr × List κ=>keyToks (enc b)) bs).imp fun {a b} h=>?_
  have h' : (!dataLt (enc b) (enc a)) = true:=h
  rw [Bool.not_eq_true'] at h'
  exact h'
end
section
variable {X : Cx}
def rSortM (K : PySem.W.Frag) (P : Program) (w : World) : List V→Hp→VK→Prop:=fun vs H Q=>∃ (a : Addr) (L : List (Addr × List Key)) (enc : Addr × List Key→PyData),vs = [.ref a]∧H a = some (SetM P w a L)∧(∀ p∈L,Dp K H (.ref p.1) (enc p))∧AllAlike (L.map enc)∧Sortable (L.map enc)∧(∀ p∈L,(enc p).depth≤50) ∧
 ∀ (bs : List (Addr × List Key)) p,bs.Perm L→(bs.Pairwise fun a b=>dataLt (enc b) (enc a) = false)→H p = none→Q (.ref p) (upd H p (.lst (bs.map fun b=>V.ref b.1)))
theorem vals_refs : ∀ bs : List (Addr × List Key),Vals (bs.map fun b=>V.ref b.1) (bs.map fun b=>Value.ref b.1)
 | []=>.nil
 | b :: bs=>.cons rfl (vals_refs bs)
theorem cr_sortM (hc : X.calm = true) (hu : X.A.units + 64 < cLine) : CallR X (.builtin "sorted") (rSortM X.K X.prog X.w):=by
 rintro pins s σ H vs us Q I r ⟨a,L,enc,rfl,ha,hd,al,so,dep,q⟩
 rw [Vals.ref1 r]
 obtain ⟨ep,t,B⟩:=(I.hok a _ ha).1
 have few:=B.few
 refine sortBag B (I.ok.hd hc) (fun p m=>Dp.reads I (enc p) _ _ (hd p m) (show RelV (.ref p.1) (Value.ref p.1) from rfl)) al so (fun p m=>by have:=dep p m; omega) fun s' p out c bs k gn os hp hg ho pm up=>?_
 have hlen : (bs.map fun b=>V.ref b.1).length≤sizeLine:=by rw [List.length_map,pm.length_eq,sizeLine_eq]; omega
 have np : H p = none:=I.hok.fresh hp
 have J : Inv X pins σ (upd H p (.lst (bs.map fun b=>V.ref b.1))) { s with heap:=s'.heap,gens:=s'.gens,drawn:=s'.drawn,toks:=s'.toks } :=
  I.call (ch:=[]) (Un.laid k hp np) (I.hok.laid k hp ⟨hlen,out.toList,c,by rw [ho]; exact vals_refs bs,hg⟩) (gn ▸ I.bare) (fun _ z=>nomatch z)
 rcases s' with ⟨h',gs,dr,n,so'⟩
 cases os
 exact ⟨.ref p,_,J,rfl,q bs p pm up np⟩
end
end Ms
namespace L2
open PySem PySem.Spec PyProof.Rows
def tStepL (K : PySem.W.Frag) (te ts : TE) : TE:=fun σ H Q=>te σ H fun x H1=>tPart ts σ H1 fun o H2=>∃ (a : Addr) (xs : List V) (i : Int),x = .ref a∧SqL K H2 a xs∧o = some i ∧
 ((i = 1∧∀ p,H2 p = none→Q (.ref p) (upd H2 p (.lst xs)))∨(i = -1∧∀ p,H2 p = none→Q (.ref p) (upd H2 p (.lst xs.reverse))))
theorem pick_one (items : Array Value) : slicePick items none none (some 1) = items:=by
 have : slicePick items none none (some 1) = slicePick items none none none:=rfl
 rw [this,slicePick_all]
section
variable {X : Cx}
theorem pe_stepL {e es : Expr} {te ts : TE} {p3 pos : Pos} (he : PE X e te) (hs : PE X es ts) : PE X (.Subscript e (.Slice none none (some es) p3) pos) (tStepL X.K te ts):=by
 refine ⟨fun pins s σ H Q I h=>?_⟩
 refine Subscript_ (thn (he.run pins s σ H _ I h) fun v s1 ⟨x,H1,I1,r1,q1⟩=>?_)
 have hst : PO X (some es) (tPart ts):=po_some hs
 refine wpAny_Slice (thn (po_none.run pins s1 σ H1 (fun o H2=>o = none∧H2 = H1) I1 ⟨rfl,rfl⟩) fun vl s2 ⟨l,H2,I2,pl,el,e2⟩=>?_)
 subst el e2
 refine thn (po_none.run pins s2 σ H2 (fun o H3=>o = none∧H3 = H2) I2 ⟨rfl,rfl⟩) fun vu s3 ⟨u,H3,I3,pu,eu,e3⟩=>?_
 subst eu e3
 refine thn (hst.run pins s3 σ H3 (fun o H4=>∃ (a : Addr) (xs : List V) (i : Int),x = .ref a∧SqL X.K H4 a xs∧o = some i∧((i = 1∧∀ p,H4 p = none→Q (.ref p) (upd H4 p (.lst xs)))∨(i = -1∧∀ p,H4 p = none→Q (.ref p) (upd H4 p (.lst xs.reverse))))) I3 q1) fun vs s4 ⟨o,H4,I4,ps,a,xs,i,ex,hx,eo,q⟩=>?_
 subst ex eo
 cases r1
 have I5 : Inv X pins σ H4 { s4 with heap:=s4.heap.push { cls:=.type "slice", data:=.fields #[vl,vu,vs] } }:=I4.kept (t':=s4.toks) fun b ob q=>Heap.get?_push_of_some _ q
 obtain ⟨its,r,ht,hz⟩:=I5.list hx
 have hlen:=r.length
 show wpAny (model X.prog X.w) X.A (subscriptTail e (.Slice none none (some es) p3) (.ref a) (.ref s4.heap.objs.size)) (EP X pins σ Q) X.xe { s4 with heap:=s4.heap.push { cls:=.type "slice", data:=.fields #[vl,vu,vs] } }
 refine tail_any (ops:=[.ref a,.ref s4.heap.objs.size]) ht.isList.typeIs (PySem.slot_list_getitem.lookup) ?_ (by with_unfolding_all rfl)
 rcases q with ⟨rfl,q⟩ | ⟨rfl,q⟩
 ·refine wpAny_getItem_list_slice ht.isList (Heap.IsSliceOf.new _ vl vu vs) pl pu ps (by decide) ?_ (by rw [List.size_toArray]; omega)
  rw [pick_one]
  refine ⟨.ref _,_,I5.laid (t':=s4.toks) (o:=.lst xs) (fun b ob q=>Heap.get?_push_of_some _ q) (Nat.le_refl _) ?_,rfl,q _ (I5.hok.fresh (Nat.le_refl _))⟩
  exact ⟨hz,_,0,r,Heap.get?_push_size _ rfl⟩
 ·refine wpAny_getItem_list_slice ht.isList (Heap.IsSliceOf.new _ vl vu vs) pl pu ps (by decide) ?_ (by rw [List.size_toArray]; omega)
  rw [PySem.W.krv_pick]
  refine ⟨.ref _,_,I5.laid (t':=s4.toks) (o:=.lst xs.reverse) (fun b ob q=>Heap.get?_push_of_some _ q) (Nat.le_refl _) ?_,rfl,q _ (I5.hok.fresh (Nat.le_refl _))⟩
  exact ⟨by rw [List.length_reverse]; exact hz,_,0,r.reverse,Heap.get?_push_size _ rfl⟩
end
end L2
namespace Ms
open PySem PySem.Spec PyProof.Rows L2
/-- a table that has room for so many more,or is laid anew in one that is known -/
def Roomy (t : SetTable) (n more : Nat) : Prop:=(n + more) * 5 < t.mask * 3∨∃ M,Tg.Mk M∧SetTable.sizeAbove ((n + more) * 2) = M + 1∧(n + more) * 5 < M * 3
section
variable {P : Program} {w : World} {κ : Type} [DecidableEq κ] {knd : KeyKind P w κ} {A : Around} {E : Value→Shared→Prop} {s : Shared} {a : Addr} {L : List (Addr × List κ)} {ep : Nat} {t : SetTable}
theorem room (B : Bag knd s.heap a L ep t) {more : Nat} (c : Roomy t L.length more) {Q : Unit→Shared→Prop}
  (q : ∀ h' L' ep' t',Heap.SameBut a s.heap h'→Bag knd h' a L' ep' t'→L'.Perm L→Q () { s with heap:=h' }) : wpAny (model P w) A (setRoomFor a more) Q E s:=by
 obtain ⟨o,ho,ex,hd⟩:=B.obj
 have sz : t.place.size = L.length:=by rw [B.tab.sz,List.length_map]
 have fl : t.fill = L.length:=by unfold SetTable.fill; rw [B.tab.dm,sz]; rfl
 have wide:=B.wide
 unfold setRoomFor
 refine wpAny_bind (wpAny_setState_of ho hd B.fits ?_)
 dsimp only
 by_cases h : (L.length + more) * 5 < t.mask * 3
 ·have e : t.roomFor more = none:=by
   unfold SetTable.roomFor
   rw [fl,if_neg (by omega)]
  rw [e]
  exact wpAny_pure (q s.heap L ep t (Heap.SameBut.refl a s.heap) B (List.Perm.refl L))
 ·have e : t.roomFor more = some ((L.length + more) * 2):=by
   unfold SetTable.roomFor
   rw [fl,sz,if_pos (by omega)]
  rw [e]
  rcases c with c | ⟨M,mM,eM,wM⟩
  ·exact absurd c h
  ·exact relay ho ex hd B.tab (by omega) B.dif B.led B.few eM mM (by omega) q
/-- the keys of a dict's entries,one by one -/
theorem feedD (pk : Plain knd) (id : String) {d S : Addr} {od : Obj} {es : Array DictEntry} {epd : Nat} {xs : List (List κ × Addr × Value)} (hd : s.heap.get? d = some od) (hdt : od.data = .dict es epd) (he : es.toList = xs.map (entryOfKey (tupleKind knd)))
  (ne : d≠S) (tk : Tups knd s.heap (xs.map fun x=>(x.2.1,x.1))) (few : Fewer (xs.map fun x=>(x.2.1,x.1))) (hu : A.units + 1 < cLine) (B : Bag knd s.heap S [] ep t) (nS : ∀ x∈xs,x.2.1≠S) (c : Roomy t 0 xs.length) {Q : Unit→Shared→Prop}
  (q : ∀ (h' : Heap) L ep t,Bag knd h' S L ep t→Fed (xs.map fun x=>(x.2.1,x.1)) xs.length L→Heap.SameBut S s.heap h'→Q () { s with heap:=h' }) :
  wpAny (model P w) A (do
   setRoomFor S (← dictEntries d).size
   for i in [0:(← dictEntries d).size] do
    let some e:=(← dictEntries d)[i]? | unsupported "internal:set-from-dict"
    let _ ← holding [e.key] (setAddHashed S e.key e.hash)
    if (← dictEpoch d) != epd then unsupported s!"{id}:changed-during-callback") Q E s:=by
 have esz : es.size = xs.length:=by rw [← Array.length_toList,he,List.length_map]
 refine wpAny_bind (wpAny_dictEntries hd hdt ?_)
 refine wpAny_bind (room B (by rw [esz]; exact c) fun h1 L1 ep1 t1 sb B1 pm=>?_)
 obtain rfl : L1 = []:=List.Perm.eq_nil pm
 have hd1 : h1.get? d = some od:=(sb.2 d ne).trans hd
 refine wpAny_bind (wpAny_dictEntries (s:={ s with heap:=h1 }) hd1 hdt ?_)
 refine wpAny_bind (SeqAt.wpAny_forIn_span 0 es.size _ (fun i _ s'=>∃ h' L ep t,s' = { s with heap:=h' }∧Bag knd h' S L ep t∧Fed (xs.map fun x=>(x.2.1,x.1)) i L∧Heap.SameBut S s.heap h') _ ?_ ?_ _ ⟨h1,[],ep1,t1,rfl,B1,Fed.none _,sb⟩)
 ·rintro i ⟨⟩ s' _ hi ⟨h2,L2,ep2,t2,rfl,B2,fd,sb2⟩
  have hd2 : h2.get? d = some od:=(sb2.2 d ne).trans hd
  have hix : i < xs.length:=by omega
  have ex : xs[i]? = some xs[i]:=List.getElem?_eq_getElem hix
  generalize xs[i] = x at ex
  have ee : es[i]? = some (entryOfKey (tupleKind knd) x):=by
   rw [← Array.getElem?_toList,he,List.getElem?_map,ex]
   rfl
  have ek : (xs.map fun x=>(x.2.1,x.1))[i]? = some (x.2.1,x.1):=by rw [List.getElem?_map,ex]; rfl
  refine wpAny_bind (wpAny_dictEntries (s:={ s with heap:=h2 }) hd2 hdt ?_)
  rw [ee]
  dsimp only
  have go : ∀ {b : Addr} {k : List κ},IsTupleKey knd s.heap k b→b≠S→IsTupleKey knd h2 k b:=fun {b k} tk n=>by
   obtain ⟨o,its,m,h1',z⟩:=tk
   exact ⟨o,its,m,(sb2.2 b n).trans h1',z⟩
  have mem : ∀ p∈xs.map (fun x=>(x.2.1,x.1)),p.1≠S:=fun p m=>by
   obtain ⟨y,my,rfl⟩:=List.mem_map.mp m
   exact nS y my
  have tx:=go (tk _ (List.mem_of_getElem? ek)) (mem _ (List.mem_of_getElem? ek))
  have tL : Tups knd h2 L2:=fun z hz=>go (tk z (List.mem_of_mem_take (fd.from' z hz))) (mem z (List.mem_of_mem_take (fd.from' z hz)))
  have fl : x.1 ∉ L2.map Prod.snd→L2.length + 1 < 64:=fun n=>by
   have:=few (x.1 :: L2.map Prod.snd) (List.nodup_cons.mpr ⟨n,B2.dif⟩) fun k hk=>by
    rcases List.mem_cons.mp hk with e | m
    ·rw [e]
     exact List.mem_map.mpr ⟨_,List.mem_of_getElem? ek,rfl⟩
    ·obtain ⟨z,mz,e⟩:=List.mem_map.mp m
     exact List.mem_map.mpr ⟨z,List.mem_of_mem_take (fd.from' z mz),e⟩
   rw [List.length_cons,List.length_map] at this
   exact this
  refine wpAny_bind (wpAny_holding ?_)
  refine add (s:={ s with heap:=h2 }) pk B2 tL tx (Nat.lt_of_succ_lt hu) fl fun b h' L' ep' t' sb3 B3 c3=>?_
  have sb4:=sb2.trans sb3
  refine wpAny_bind (wpAny_dictEpoch (s:={ s with heap:=h' }) ((sb4.2 d ne).trans hd) hdt ?_)
  rw [if_neg (by simp)]
  try refine wpAny_bind (wpAny_pure ?_)
  exact wpAny_pure ⟨h',L',ep',t',rfl,B3,fd.next ek c3,sb4⟩
 ·rintro ⟨⟩ s' ⟨h2,L2,ep2,t2,rfl,B2,fd,sb2⟩
  rw [Nat.zero_max,esz] at fd
  exact wpAny_pure (q h2 L2 ep2 t2 B2 fd sb2)
set_option maxHeartbeats 3200000 in
/-- set(d) -/
theorem mkSetD (pk : Plain knd) {d : Addr} {od : Obj} {es : Array DictEntry} {epd : Nat} {xs : List (List κ × Addr × Value)} {Q : Value→Shared→Prop} (quiet : A.handled = none) (hd : s.heap.get? d = some od) (exd : od.ExactDict) (hdt : od.data = .dict es epd)
  (he : es.toList = xs.map (entryOfKey (tupleKind knd))) (nosys : (d == sysModules) = false) (tk : Tups knd s.heap (xs.map fun x=>(x.2.1,x.1))) (few : Fewer (xs.map fun x=>(x.2.1,x.1))) (hu : A.units + 3 < cLine)
  (c : Roomy (.fresh 0 0 (!w.params.followText "set-order")) 0 xs.length)
  (q : ∀ (h' : Heap) (n : Nat) L ep t,Bag knd h' s.heap.objs.size L ep t→Fed (xs.map fun x=>(x.2.1,x.1)) xs.length L→(∀ b o,s.heap.get? b = some o→h'.get? b = some o)→Q (.ref s.heap.objs.size) { s with heap:=h',toks:=n }) :
  wpAny (model P w) A (call (.type "set") [.ref d]) Q E s:=by
 obtain ⟨c0,tl0,mro0⟩:=F.called_set.mro
 have f1:=F.called_set.made
 have f2:=F.called_set.sub
 have f3:=F.called_set.notType
 have f4:=F.called_set.canCreate
 have f5:=F.typeCall_set_1 (.ref d)
 refine wpAny_call (codeAny_of_tree (wpAny_pure ⟨Code.quiet_builtin _ (by decide +kernel),codeAny_builtin F.entry_type_call ?_⟩))
 rw [Around.under_plain (weight_type_call_type "set" [.ref d] []) rfl]
 repeat (any_goals (first | assumption | wp_step))
 refine codeAny_mono (code_set_led1 (.ref d) (E:=E) (Q₁:=fun v s1=>v = .ref s.heap.objs.size∧s1 = { s with heap:=s.heap.push (bare w) }) ⟨rfl,rfl⟩) fun r s1 z=>?_
 rcases r with e | fl
 ·exact z
 cases fl with
 | ret v =>
  obtain ⟨rfl,rfl⟩:=z
  have at0 : (s.heap.push (bare w)).get? s.heap.objs.size = some (bare w):=Heap.get?_push_size _ rfl
  have ty0 : Shared.TypeIs { s with heap:=s.heap.push (bare w) } (.ref s.heap.objs.size) "set" := ⟨_,at0,rfl⟩
  have f6:=F.called_set.init.lookup
  have f7:=F.called_set.init.bind (.ref s.heap.objs.size)
  repeat (any_goals (first | assumption | wp_step))
  refine codeAny_mono (codeAny_call_builtin (R:=wants (fun v s2=>v = .none∧∃ h' n L ep t,s2 = { s with heap:=h',toks:=n }∧Bag knd h' s.heap.objs.size L ep t∧Fed (xs.map fun x=>(x.2.1,x.1)) xs.length L∧∀ b o,s.heap.get? b = some o→h'.get? b = some o) E)
   F.called_set.init.plain F.entry_set_init (check_set_init_1 ty0 ?_)) fun r s2 z=>?_
  ·have lt : d < s.heap.objs.size:=Heap.lt_size hd
   have hd1 : (s.heap.push (bare w)).get? d = some od:=Heap.get?_push_of_some _ hd
   have ty1 : Shared.TypeIs { s with heap:=s.heap.push (bare w) } (.ref d) "dict" := ⟨od,hd1,exd.1⟩
   have g1:=F.sub_dict_set
   have g2:=F.sub_dict_frozenset
   have g3 : (Value.type "dict" == Value.type "dict") = true:=by decide
   unfold Builtin.«set.__init__» noKeywords Builtin.Frozenset.updateFrom
   generalize epi : pyIter = pi
   wp_walk
   rw [hdt]
   refine wpAny_pure ?_
   have nd : d≠s.heap.objs.size:=Nat.ne_of_lt lt
   have tk1 : Tups knd (s.heap.push (bare w)) (xs.map fun x=>(x.2.1,x.1)):=fun p m=>tup_go (tk p m) fun b o e=>Heap.get?_push_of_some _ e
   refine feedD (s:={ s with heap:=s.heap.push (bare w) }) pk "set.__init__" (S:=s.heap.objs.size) hd1 hdt he nd tk1 few ?_ (Bag.bare at0) (fun x m z=>?_) c fun h' L ep t B fd sb=>?_
   ·exact hu
   ·obtain ⟨o,its,n,ho,_⟩:=tk (x.2.1,x.1) (List.mem_map.mpr ⟨x,m,rfl⟩)
    have:=Heap.lt_size ho
    have z : x.2.1 = s.heap.objs.size:=z
    have this : x.2.1 < s.heap.objs.size:=this
    rw [z] at this
    exact Nat.lt_irrefl _ this
   ·refine wpAny_pure ?_
    exact ⟨rfl,h',s.toks,L,ep,t,rfl,B,fd,fun b o e=>(sb.2 b (Nat.ne_of_lt (Heap.lt_size e))).trans (Heap.get?_push_of_some _ e)⟩
  ·rcases r with e | fl
   ·exact z
   cases fl with
   | ret v =>
    obtain ⟨rfl,h',n,L,ep,t,rfl,B,fd,k⟩:=z
    repeat (any_goals (first | assumption | wp_step))
    exact q h' n L ep t B fd k
   | _=>exact z.elim
 | _=>exact z.elim
end
end Ms
namespace Ms
open PySem PySem.Spec PyProof.Rows L2
theorem roomy {t : SetTable} {n m : Nat} (mo : Tg.Mk t.mask) (h : n + m < 64) : Roomy t n m:=by
 by_cases c : (n + m) * 5 < t.mask * 3
 ·exact .inl c
 ·have:=mo.bd
  exact .inr (Tg.above (by omega) h)
theorem roomy_fresh {b : Bool} {n : Nat} (h : n < 64) : Roomy (.fresh 0 0 b) 0 n:=roomy (t:=.fresh 0 0 b) (.inl rfl) (by omega)
section
variable {X : Cx}
/-- set(d) of a dict of (text,int) -/
def rSetD (K : PySem.W.Frag) (P : Program) (w : World) : List V→Hp→VK→Prop:=fun vs H Q=>∃ (d : Addr) (kvs : List (List Key × V)),vs = [.ref d]∧H d = some (.dT kvs)∧kvs.length < 64 ∧
 ∀ a L,H a = none→(∀ p∈L,H p.1 = some (.tup (p.2.map kV)))→Unlike (kvs.map Prod.fst) (L.map Prod.snd)→Q (.ref a) (upd H a (SetM P w a L))
theorem cr_setD (hc : X.calm = true) (hu : X.A.units + 3 < cLine) : CallR X (.type "set") (rSetD X.K X.prog X.w):=by
 rintro pins s σ H vs us Q I r ⟨d,kvs,rfl,hd,hn,q⟩
 rw [Vals.ref1 r]
 obtain ⟨_,nosys,xs,pr,o,es,ep,ho,hx,hdt,he,nd⟩:=I.hok d _ hd
 have key : ∀ (kvs : List (List Key × V)) (xs : List (List Key × Addr × Value)),Paired (fun (p : List Key × V) (q : List Key × Addr × Value)=>p.1 = q.1∧H q.2.1 = some (.tup (p.1.map kV))∧RelV p.2 q.2.2) kvs xs →
   kvs.length = xs.length∧kvs.map Prod.fst = xs.map (·.1)∧∀ x∈xs,H x.2.1 = some (.tup (x.1.map kV)):=by
  intro kvs xs h
  induction h with
  | nil=>exact ⟨rfl,rfl,fun x m=>nomatch m⟩
  | @cons p x ps xs hp _ ih =>
   refine ⟨by rw [List.length_cons,List.length_cons,ih.1],by rw [List.map_cons,List.map_cons,ih.2.1,hp.1],fun y m=>?_⟩
   rcases List.mem_cons.mp m with rfl | m
   ·rw [← hp.1]
    exact hp.2.1
   ·exact ih.2.2 y m
 obtain ⟨lk,ek,ak⟩:=key kvs xs pr
 have sn : (xs.map fun x=>(x.2.1,x.1)).map Prod.snd = kvs.map Prod.fst:=by rw [ek,List.map_map]; rfl
 have atp : ∀ p∈xs.map (fun x=>(x.2.1,x.1)),H p.1 = some (.tup (p.2.map kV)):=fun p m=>by
  obtain ⟨x,mx,rfl⟩:=List.mem_map.mp m
  exact ak x mx
 refine mkSetD (plain_mix X.prog X.w) (I.ok.hd hc) ho hx hdt he nosys (fun p m=>tup_at I (SqT.of (atp p m))) (fun L nd h=>?_) hu (by rw [← lk]; exact roomy_fresh hn) fun h' n L ep t B fd k=>?_
 ·have:=nodup_sub nd h
  rw [List.length_map,List.length_map,← lk] at this
  omega
 have fd : Fed (xs.map fun x=>(x.2.1,x.1)) (xs.map fun x=>(x.2.1,x.1)).length L:=by rw [List.length_map]; exact fd
 have sub : ∀ p∈L,p∈xs.map fun x=>(x.2.1,x.1):=fun p hp=>List.mem_of_mem_take (fd.from' p hp)
 refine ⟨.ref s.heap.objs.size,upd H s.heap.objs.size (SetM X.prog X.w s.heap.objs.size L),I.laid (t':=n) k (Nat.le_refl _) (setM_new B),rfl,q _ L (I.hok.fresh (Nat.le_refl _)) (fun p m=>atp p (sub p m)) ⟨B.dif,fun k=>⟨fun z=>?_,fun z=>?_⟩⟩⟩
 ·obtain ⟨p,hp,rfl⟩:=List.mem_map.mp z
  rw [← sn]
  exact List.mem_map.mpr ⟨p,sub p hp,rfl⟩
 ·rw [← sn] at z
  obtain ⟨p,hp,rfl⟩:=List.mem_map.mp z
  exact fd.all p (by rw [List.take_length]; exact hp)
end
end Ms
namespace Ms
open PySem PySem.Spec PyProof.Rows L2
section
variable {P : Program} {w : World} {κ : Type} [DecidableEq κ] {knd : KeyKind P w κ} {A : Around} {E : Value→Shared→Prop} {s : Shared} {a : Addr} {L : List (Addr × List κ)} {ep : Nat} {t : SetTable}
theorem lift_perm {α β : Type} {f : α→β} {vs ws : List β} (h : vs.Perm ws) : ∀ {L : List α},ws = L.map f→∃ bs : List α,bs.Perm L∧vs = bs.map f:=by
 induction h with
 | nil =>
  intro L e
  exact ⟨[],by rw [List.map_eq_nil_iff.mp e.symm],rfl⟩
 | cons x _ ih =>
  intro L e
  match L,e with
  | b :: L',e =>
   rw [List.map_cons] at e
   obtain ⟨e1,e2⟩:=List.cons.inj e
   obtain ⟨bs,p,e3⟩:=ih e2
   exact ⟨b :: bs,p.cons b,by rw [List.map_cons,e1,e3]⟩
 | swap x y l =>
  intro L e
  match L,e with
  | b :: c :: L',e =>
   rw [List.map_cons,List.map_cons] at e
   obtain ⟨e1,e2⟩:=List.cons.inj e
   obtain ⟨e3,e4⟩:=List.cons.inj e2
   exact ⟨c :: b :: L',.swap b c L',by rw [List.map_cons,List.map_cons,e1,e3,e4]⟩
 | trans _ _ ih1 ih2 =>
  intro L e
  obtain ⟨bs,p,e1⟩:=ih2 e
  obtain ⟨cs,p2,e2⟩:=ih1 e1
  exact ⟨cs,p2.trans p,e2⟩
theorem walkB (B : Bag knd s.heap a L ep t) {Q : Array (Int × Value)→Shared→Prop} (q : ∀ (bs : List (Addr × List κ)) d,bs.Perm L→Q ((bs.map (ent knd)).toArray) { s with drawn:=d }) : wpAny (model P w) A (setWalk a) Q E s:=by
 obtain ⟨o,ho,ex,hd⟩:=B.obj
 have fin : ∀ (out : Array (Int × Value)) d,out.toList.Perm (L.map (ent knd))→Q out { s with drawn:=d }:=fun out d pm=>by
  obtain ⟨bs,pb,e⟩:=lift_perm pm rfl
  have : out = (bs.map (ent knd)).toArray:=Array.toList_inj.mp (by rw [e])
  rw [this]
  exact q bs d pb
 unfold setWalk
 refine wpAny_bind (wpAny_setState_of ho hd B.fits ?_)
 dsimp only
 refine wpAny_bind (wpAny_byText ?_)
 by_cases bt : w.params.followText "set-order" = true
 ·rw [if_pos bt]
  refine wpAny_bind (wpAny_askSetting ?_)
  exact wpAny_pure (fin _ s.drawn (pick_perm _ _))
 ·rw [if_neg bt]
  have led : t.led = true:=B.led.resolve_left bt
  try refine wpAny_bind (wpAny_pure ?_)
  by_cases dr : (!t.plain && decide ((L.map (ent knd)).toArray.size > 1)) = true
  ·refine wp_if_pos dr ?_
   refine wpAny_bind (drawOrder_at _ _ _ _ (by rw [Array.length_toList]; exact Nat.le_refl _) fun ys d pm=>?_)
   exact wpAny_pure (fin ys.toArray d (by rw [List.toList_toArray]; exact pm))
  ·refine wp_if_neg dr ?_
   try refine wpAny_bind (wpAny_pure ?_)
   refine wpAny_bind (wpAny_of_eq (a:=()) ?_ ?_)
   ·show (if (!t.led && decide ((L.map (ent knd)).toArray.size > 1)) = true then unsupported "set:maker-not-led" else pure ()) = pure ()
    rw [led] <;> rfl
   ·exact wpAny_pure (fin _ s.drawn (List.Perm.refl _))
/-- no tuple's __eq__ is quiet -/
theorem notQuiet {k : List κ} {b : Addr} (tk : IsTupleKey knd s.heap k b) {v : Value} (hv : v = .ref b) {Q : Option Value→Shared→Prop} (q : ∀ r,(r != some (.builtin "object.__eq__")) = true→Q r s) : wpAny (model P w) A (specialOf v "__eq__") Q E s:=by
 subst hv
 exact wpAny_specialOf tk.typeIs F.slot_tuple_eq.lookup (q _ (by decide))
theorem walkU (B : Bag knd s.heap a L ep t) (tl : Tups knd s.heap L) {others : List Addr} {filled : Option Addr} {Q : Array (Int × Value)→Shared→Prop} (q : ∀ (bs : List (Addr × List κ)) d,bs.Perm L→Q ((bs.map (ent knd)).toArray) { s with drawn:=d }) : wpAny (model P w) A (setWalkUnseen a others filled) Q E s:=by
 obtain ⟨o,ho,ex,hd⟩:=id B.obj
 unfold setWalkUnseen
 refine wpAny_bind (wpAny_setState_of ho hd B.fits ?_)
 dsimp only
 refine wpAny_bind (wpAny_byText ?_)
 by_cases c : (w.params.followText "set-order" || (t.led && t.plain) || decide ((L.map (ent knd)).toArray.size≤1)) = true
 ·refine wp_if_pos c ?_
  exact walkB B q
 ·refine wp_if_neg c ?_
  try refine wpAny_bind (wpAny_pure ?_)
  match L,B,tl,c,hd with
  | [],B,tl,c,hd=>exact absurd (by simp) c
  | p :: L',B,tl,c,hd =>
   refine wpAny_bind (m:=setsQuiet (a :: others)) ?_
   unfold setsQuiet setEntries
   rw [List.forIn_cons]
   refine wpAny_bind (wpAny_bind (wpAny_bind (wpAny_bind (wpAny_setState_of ho hd B.fits (wpAny_pure ?_)))))
   dsimp only
   rw [← Array.forIn_toList]
   show wpAny _ _ (forIn (ent knd p :: L'.map (ent knd)) _ _ >>= _) _ _ _
   rw [List.forIn_cons]
   refine wpAny_bind (wpAny_bind ?_)
   show wpAny _ _ (specialOf (.ref p.1) "__eq__" >>= _) _ _ _
   refine wpAny_bind (notQuiet (tl p List.mem_cons_self) rfl fun r hr=>?_)
   refine wp_if_pos hr ?_
   refine wpAny_pure (wpAny_pure ?_)
   dsimp only
   refine wpAny_pure (wpAny_pure ?_)
   dsimp only
   refine wpAny_pure ?_
   refine wp_if_pos rfl ?_
   exact walkB B q
/-- what a union has got -/
structure Joined (Ls bs : List (Addr × List κ)) (L' : List (Addr × List κ)) : Prop where
 sub : ∀ p∈L',p∈Ls∨p∈bs
 left : ∀ p∈Ls,p.2∈L'.map Prod.snd
 right : ∀ p∈bs,p.2∈L'.map Prod.snd
theorem Joined.next {Ls bs L L' : List (Addr × List κ)} {x : Addr × List κ} (J : Joined Ls bs L) (c : x.2∈L.map Prod.snd∧L' = L∨x.2 ∉ L.map Prod.snd∧L'.Perm (x :: L)) : Joined Ls (bs ++ [x]) L':=by
 rcases c with ⟨old,rfl⟩ | ⟨_,pm⟩
 ·refine ⟨fun p m=>(J.sub p m).imp id fun z=>List.mem_append_left _ z,J.left,fun p m=>?_⟩
  rcases List.mem_append.mp m with m | m
  ·exact J.right p m
  ·rw [List.mem_singleton.mp m]
   exact old
 ·have mem : ∀ k,k∈L'.map Prod.snd↔k = x.2∨k∈L.map Prod.snd:=fun k=>by rw [(pm.map Prod.snd).mem_iff,List.map_cons,List.mem_cons]
  refine ⟨fun p m=>?_,fun p m=>(mem _).mpr (.inr (J.left p m)),fun p m=>?_⟩
  ·rcases List.mem_cons.mp (pm.mem_iff.mp m) with rfl | m
   ·exact .inr (List.mem_append_right _ (List.mem_singleton.mpr rfl))
   ·exact (J.sub p m).imp id fun z=>List.mem_append_left _ z
  ·rcases List.mem_append.mp m with m | m
   ·exact (mem _).mpr (.inr (J.right p m))
   ·rw [List.mem_singleton.mp m]
    exact (mem _).mpr (.inl rfl)
theorem mergeB (pk : Plain knd) (nm : String) {S O : Addr} {Ls Lo : List (Addr × List κ)} {eS eO : Nat} {tS tO : SetTable} (BS : Bag knd s.heap S Ls eS tS) (BO : Bag knd s.heap O Lo eO tO) (ne : S≠O) (tS' : Tups knd s.heap Ls) (tO' : Tups knd s.heap Lo)
  (nS : ∀ p∈Ls ++ Lo,p.1≠S) (neL : Ls≠[]) (few : Ls.length + Lo.length < 64) (hu : A.units < cLine) (c : Roomy tS Ls.length Lo.length) {Q : Unit→Shared→Prop}
  (q : ∀ (h' : Heap) d L ep t,Bag knd h' S L ep t→Joined Ls Lo L→Heap.SameBut S s.heap h'→Q () { s with heap:=h',drawn:=d }) :
  wpAny (model P w) A (setMerge S O (Builtin.Frozenset.unchanged nm O eO)) Q E s:=by
 obtain ⟨oO,hoO,exO,hdO⟩:=id BO.obj
 unfold setMerge
 refine wp_if_neg (by simp [ne]) ?_
 try refine wpAny_bind (wpAny_pure ?_)
 refine wpAny_bind (wpAny_setState_of hoO hdO BO.fits ?_)
 dsimp only
 by_cases z : Lo = []
 ·subst z
  refine wp_if_pos (by simp) ?_
  exact wpAny_pure (q s.heap s.drawn Ls eS tS BS ⟨fun p m=>.inl m,fun p m=>List.mem_map_of_mem m,fun p m=>nomatch m⟩ (Heap.SameBut.refl S s.heap))
 refine wp_if_neg (by simpa using z) ?_
 try refine wpAny_bind (wpAny_pure ?_)
 refine wpAny_bind (room BS (by simpa using c) fun h1 L1 ep1 t1 sb1 B1 pm1=>?_)
 obtain ⟨o1,ho1,ex1,hd1⟩:=id B1.obj
 refine wpAny_bind (wpAny_setState_of (s:={ s with heap:=h1 }) ho1 hd1 (Bag.fits (s:={ s with heap:=h1 }) B1) ?_)
 dsimp only
 have l1 : L1.length≠0:=by rw [pm1.length_eq]; exact fun e=>neL (List.length_eq_zero_iff.mp e)
 have er : t1.road tO = .oneByOne:=by
  unfold SetTable.road SetTable.fill
  rw [if_pos]
  rw [B1.tab.sz,B1.tab.dm,List.length_map]
  simpa using l1
 rw [er]
 dsimp only
 have BO1 : Bag knd h1 O Lo eO tO:=BO.go fun o e=>(sb1.2 O (Ne.symm ne)).trans e
 have nO : ∀ p∈Lo,p.1≠S:=fun p m=>nS p (List.mem_append_right _ m)
 have go : ∀ {h : Heap} {b : Addr} {k : List κ},Heap.SameBut S s.heap h→IsTupleKey knd s.heap k b→b≠S→IsTupleKey knd h k b:=fun {h b k} sb tk n=>by
  obtain ⟨o,its,m,h1',z⟩:=tk
  exact ⟨o,its,m,(sb.2 b n).trans h1',z⟩
 refine wpAny_bind (walkU (s:={ s with heap:=h1 }) BO1 (fun p m=>go sb1 (tO' p m) (nO p m)) fun bs d pmb=>?_)
 have lbs : bs.length = Lo.length:=pmb.length_eq
 have J1 : Joined Ls [] L1:=⟨fun p m=>.inl (pm1.mem_iff.mp m),fun p m=>List.mem_map_of_mem (pm1.mem_iff.mpr m),fun p m=>nomatch m⟩
 refine wpAny_bind (MeetsSeq2.wpAny_forIn_array _ (fun rest _ s'=>∃ ds xs h' L ep t,bs = ds ++ xs∧rest = xs.map (ent knd)∧s' = { s with heap:=h',drawn:=d }∧Bag knd h' S L ep t∧Joined Ls ds L∧L.length≤Ls.length + ds.length∧Heap.SameBut S s.heap h') _ ?_ ?_ _ _ ⟨[],bs,h1,L1,ep1,t1,rfl,by rw [List.toList_toArray],rfl,B1,J1,by rw [pm1.length_eq]; exact Nat.le_refl _,sb1⟩)
 ·rintro x rest ⟨⟩ s' ⟨ds,xs,h2,L2,ep2,t2,eb,er2,rfl,B2,J2,le2,sb2⟩
  cases xs with
  | nil=>cases er2
  | cons p xs =>
   rw [List.map_cons] at er2
   obtain ⟨rfl,rfl⟩:=List.cons.inj er2
   have mp : p∈Lo:=pmb.mem_iff.mp (by rw [eb]; exact List.mem_append_right _ List.mem_cons_self)
   have mall : ∀ z∈L2,z∈Ls ++ Lo:=fun z m=>(J2.sub z m).elim (fun k=>List.mem_append_left _ k) fun k=>List.mem_append_right _ (pmb.mem_iff.mp (by rw [eb]; exact List.mem_append_left _ k))
   have tall : ∀ z∈Ls ++ Lo,IsTupleKey knd s.heap z.2 z.1:=fun z m=>(List.mem_append.mp m).elim (tS' z) (tO' z)
   have lds : ds.length + 1≤Lo.length:=by
    rw [← lbs,eb,List.length_append,List.length_cons]
    omega
   dsimp only
   refine wpAny_bind (wpAny_holding ?_)
   refine add (s:={ s with heap:=h2,drawn:=d }) pk B2 (fun z m=>go sb2 (tall z (mall z m)) (nS z (mall z m))) (go sb2 (tO' p mp) (nO p mp)) hu (fun _=>by omega) fun b h' L' ep' t' sb3 B3 c3=>?_
   have sb4:=sb2.trans sb3
   have hO4 : h'.get? O = some oO:=(sb4.2 O (Ne.symm ne)).trans hoO
   unfold Builtin.Frozenset.unchanged setEpoch
   refine wpAny_bind (wpAny_bind (wpAny_bind (wpAny_setState_of (s:={ s with heap:=h',drawn:=d }) hO4 hdO BO.fits (wpAny_pure ?_))))
   refine wp_if_neg (by simp) (wpAny_pure ?_)
   refine wpAny_bind (wpAny_setState_of (s:={ s with heap:=h',drawn:=d }) hO4 hdO BO.fits ?_)
   refine wp_if_neg (by simp) ?_
   try refine wpAny_bind (wpAny_pure ?_)
   have le3 : L'.length≤Ls.length + (ds ++ [p]).length:=by
    rw [List.length_append]
    show L'.length≤Ls.length + (ds.length + 1)
    rcases c3 with ⟨_,rfl⟩ | ⟨_,pm⟩
    ·omega
    ·rw [pm.length_eq,List.length_cons]
     omega
   exact wpAny_pure ⟨ds ++ [p],xs,h',L',ep',t',by rw [eb,List.append_assoc]; rfl,rfl,rfl,B3,J2.next c3,le3,sb4⟩
 ·rintro ⟨⟩ s' ⟨ds,xs,h2,L2,ep2,t2,eb,er2,rfl,B2,J2,le2,sb2⟩
  have ex0 : xs = []:=List.map_eq_nil_iff.mp er2.symm
  subst ex0
  rw [List.append_nil] at eb
  subst eb
  refine wpAny_pure (q h2 d L2 ep2 t2 B2 ⟨fun p m=>(J2.sub p m).imp id fun z=>pmb.mem_iff.mp z,J2.left,fun p m=>J2.right p (pmb.mem_iff.mpr m)⟩ sb2)
/-- laid anew in a wider table: the same tuples -/
theorem relayM {o : Obj} (ho : s.heap.get? a = some o) (ex : o.ExactSet) (hd : o.data = .set (L.map (ent knd)).toArray ep t) (T : Tg.Tab t (L.map (kh knd))) (fit : L.length≤t.mask) (dif : (L.map Prod.snd).Nodup)
  (led : w.params.followText "set-order" = true∨t.led = true) (few : L.length < 64) {want M : Nat} (eM : SetTable.sizeAbove want = M + 1) (mM : Tg.Mk M) (wide : L.length * 5 < M * 3) {Q : Unit→Shared→Prop}
  (q : ∀ h' L' ep' t',Heap.SameBut a s.heap h'→Bag knd h' a L' ep' t'→L'.Perm L→t'.mask = M→Q () { s with heap:=h' }) : wpAny (model P w) A (setRelay a want) Q E s:=by
 have e1 : ((L.map (ent knd)).toArray.map (·.1)) = (L.map (kh knd)).toArray:=by
  rw [List.map_toArray,List.map_map]
  rfl
 have mb : M≤255:=mM.bd.2.1
 obtain ⟨t',js,er,pj,T',em,el⟩:=Tg.relaid t (hs:=(L.map (kh knd)).toArray) (want:=want) (M:=M) (by rw [eM]; rfl) mM (by simp; omega)
 have pj' : js.toList.Perm (List.range L.length):=by simpa using pj
 have es' : js.filterMap (fun i=>(L.map (ent knd)).toArray[i]?) = ((js.toList.filterMap fun i=>L[i]?).map (ent knd)).toArray:=by
  apply Array.toList_inj.mp
  rw [Array.toList_filterMap]
  simp only [List.getElem?_toArray]
  exact picked (ent knd) L js.toList
 have pm : (js.toList.filterMap fun i=>L[i]?).Perm L:=by
  have z:=pj'.filterMap (fun i=>L[i]?)
  rwa [back] at z
 rw [pickedD _ _ (fun j hj=>by rw [List.length_map]; exact List.mem_range.mp (pj'.mem_iff.mp hj)),picked (kh knd) L js.toList] at T'
 have sz : (js.filterMap fun i=>(L.map (ent knd)).toArray[i]?).size = (L.map (ent knd)).toArray.size:=by
  rw [es',List.size_toArray,List.size_toArray,List.length_map,List.length_map,pm.length_eq]
 rw [setRelay_eq]
 refine wpAny_bind (wpAny_setState_of ho hd (fits_of T (by simp) (by simpa using fit)) ?_)
 dsimp only
 rw [if_neg (by rw [eM,sizeLine_eq]; omega)]
 try refine wpAny_bind (wpAny_pure ?_)
 rw [e1,er]
 dsimp only
 rw [if_neg (by rw [sz]; simp)]
 try refine wpAny_bind (wpAny_pure ?_)
 try refine wpAny_bind (wpAny_pure ?_)
 dsimp only
 refine wpAny_storeSet_of ho hd ?_ (by rw [sz,sizeLine_eq]; simp; omega)
 rw [es']
 have sb : Heap.SameBut a s.heap (s.heap.update a (Obj.putSet ((js.toList.filterMap fun i=>L[i]?).map (ent knd)).toArray t')):=Heap.SameBut.update ..
 exact q _ _ (ep + 1) t' sb ⟨⟨_,store_at ho hd,⟨ex.1,ex.2.1,ex.2.2⟩,rfl⟩,T',(pm.map _).nodup_iff.mpr dif,by rw [el]; exact led,by rw [pm.length_eq,em]; exact wide,by rw [pm.length_eq]; exact few⟩ pm em
theorem roomM (B : Bag knd s.heap a L ep t) {more : Nat} (c : Roomy t L.length more) {Q : Unit→Shared→Prop}
  (q : ∀ h' L' ep' t',Heap.SameBut a s.heap h'→Bag knd h' a L' ep' t'→L'.Perm L→(L.length + more) * 5 < t'.mask * 3→Q () { s with heap:=h' }) : wpAny (model P w) A (setRoomFor a more) Q E s:=by
 obtain ⟨o,ho,ex,hd⟩:=B.obj
 have sz : t.place.size = L.length:=by rw [B.tab.sz,List.length_map]
 have fl : t.fill = L.length:=by unfold SetTable.fill; rw [B.tab.dm,sz]; rfl
 have wide:=B.wide
 unfold setRoomFor
 refine wpAny_bind (wpAny_setState_of ho hd B.fits ?_)
 dsimp only
 by_cases h : (L.length + more) * 5 < t.mask * 3
 ·have e : t.roomFor more = none:=by
   unfold SetTable.roomFor
   rw [fl,if_neg (by omega)]
  rw [e]
  exact wpAny_pure (q s.heap L ep t (Heap.SameBut.refl a s.heap) B (List.Perm.refl L) h)
 ·have e : t.roomFor more = some ((L.length + more) * 2):=by
   unfold SetTable.roomFor
   rw [fl,sz,if_pos (by omega)]
  rw [e]
  rcases c with c | ⟨M,mM,eM,wM⟩
  ·exact absurd c h
  ·exact relayM ho ex hd B.tab (by omega) B.dif B.led B.few eM mM (by omega) fun h' L' ep' t' sb B' pm em=>q h' L' ep' t' sb B' pm (by rw [em]; exact wM)
theorem laid_moves (m f mv mv' : Nat) (l p : Bool) (hs : Array Int) : SetTable.laid m f mv l p hs = (SetTable.laid m f mv' l p hs).map fun x=>({ x.1 with moves:=mv },x.2):=by
 unfold SetTable.laid
 cases SetTable.layClean m hs <;> rfl
/-- joined into a set that is empty: a copy -/
theorem copyB {S O : Addr} {Lo : List (Addr × List κ)} {eS eO : Nat} {tS tO : SetTable} (BS : Bag knd s.heap S [] eS tS) (BO : Bag knd s.heap O Lo eO tO) (ne : S≠O) (c : Roomy tS 0 Lo.length) {each : Sem Unit} {Q : Unit→Shared→Prop}
  (q : ∀ (h' : Heap) L ep t,Bag knd h' S L ep t→L.Perm Lo→Heap.SameBut S s.heap h'→Q () { s with heap:=h' }) :
  wpAny (model P w) A (setMerge S O each) Q E s:=by
 obtain ⟨oO,hoO,exO,hdO⟩:=id BO.obj
 unfold setMerge
 refine wp_if_neg (by simp [ne]) ?_
 try refine wpAny_bind (wpAny_pure ?_)
 refine wpAny_bind (wpAny_setState_of hoO hdO BO.fits ?_)
 dsimp only
 by_cases z : Lo = []
 ·subst z
  refine wp_if_pos (by simp) ?_
  exact wpAny_pure (q s.heap [] eS tS BS (List.Perm.refl _) (Heap.SameBut.refl S s.heap))
 refine wp_if_neg (by simpa using z) ?_
 try refine wpAny_bind (wpAny_pure ?_)
 refine wpAny_bind (roomM BS (by simpa using c) fun h1 L1 ep1 t1 sb1 B1 pm1 wide1=>?_)
 obtain rfl : L1 = []:=List.Perm.eq_nil pm1
 obtain ⟨o1,ho1,ex1,hd1⟩:=id B1.obj
 refine wpAny_bind (wpAny_setState_of (s:={ s with heap:=h1 }) ho1 hd1 (Bag.fits (s:={ s with heap:=h1 }) B1) ?_)
 dsimp only
 have wide2 : Lo.length * 5 < t1.mask * 3:=by simpa using wide1
 have fl1 : t1.fill = 0:=by unfold SetTable.fill; rw [B1.tab.sz,B1.tab.dm]; rfl
 have led2 : w.params.followText "set-order" = true∨(t1.led && tO.led) = true:=by
  rcases B1.led with h | h
  ·exact .inl h
  ·rcases BO.led with h2 | h2
   ·exact .inl h2
   ·exact .inr (by rw [h,h2]; rfl)
 by_cases cm : t1.mask = tO.mask
 ·have er : t1.road tO = .slotForSlot:=by
   unfold SetTable.road
   rw [fl1,BO.tab.dm,cm]
   simp
  rw [er]
  dsimp only
  refine wpAny_storeSet_of (s:={ s with heap:=h1 }) ho1 hd1 ?_ (by rw [sizeLine_eq]; have:=BO.few; simp; omega)
  have sb : Heap.SameBut S h1 (h1.update S (Obj.putSet (Lo.map (ent knd)).toArray { tO with finger:=t1.finger,led:=t1.led && tO.led,moves:=t1.moves,plain:=t1.plain && tO.plain })):=Heap.SameBut.update ..
  refine q _ Lo (ep1 + 1) _ ⟨⟨_,store_at ho1 hd1,⟨ex1.1,ex1.2.1,ex1.2.2⟩,rfl⟩,⟨BO.tab.ris,BO.tab.dm,BO.tab.sz,BO.tab.mok,BO.tab.bd,BO.tab.reach⟩,BO.dif,led2,by rw [← cm]; exact wide2,BO.few⟩ (List.Perm.refl _) (sb1.trans sb)
 ·have er : t1.road tO = .clean:=by
   unfold SetTable.road
   rw [fl1]
   simp [cm]
  rw [er]
  dsimp only
  have hn : Lo.length≤t1.mask:=by omega
  have hw : SetTable.sizeAbove t1.mask - 1 = t1.mask:=by rcases B1.tab.mok with e | e | e | e | e | e <;> rw [e] <;> rfl
  have e1 : ((Lo.map (ent knd)).toArray.map (·.1)) = (Lo.map (kh knd)).toArray:=by
   rw [List.map_toArray,List.map_map]
   rfl
  obtain ⟨t2,js,er2,pj,T2,em,el⟩:=Tg.relaid { t1 with led:=t1.led && tO.led,plain:=t1.plain && tO.plain } (hs:=(Lo.map (kh knd)).toArray) (want:=t1.mask) (M:=t1.mask) hw B1.tab.mok (by simpa using hn)
  have e2 : SetTable.laid t1.mask t1.finger t1.moves (t1.led && tO.led) (t1.plain && tO.plain) (Lo.map (kh knd)).toArray = some ({ t2 with moves:=t1.moves },js):=by
   unfold SetTable.relaid at er2
   rw [hw] at er2
   exact (laid_moves _ _ _ _ _ _ _).trans (congrArg (Option.map _) er2)
  have pj' : js.toList.Perm (List.range Lo.length):=by simpa using pj
  have es' : js.filterMap (fun i=>(Lo.map (ent knd)).toArray[i]?) = ((js.toList.filterMap fun i=>Lo[i]?).map (ent knd)).toArray:=by
   apply Array.toList_inj.mp
   rw [Array.toList_filterMap]
   simp only [List.getElem?_toArray]
   exact picked (ent knd) Lo js.toList
  have pm : (js.toList.filterMap fun i=>Lo[i]?).Perm Lo:=by
   have z:=pj'.filterMap (fun i=>Lo[i]?)
   rwa [back] at z
  rw [pickedD _ _ (fun j hj=>by rw [List.length_map]; exact List.mem_range.mp (pj'.mem_iff.mp hj)),picked (kh knd) Lo js.toList] at T2
  have sz : (js.filterMap fun i=>(Lo.map (ent knd)).toArray[i]?).size = (Lo.map (ent knd)).toArray.size:=by
   rw [es',List.size_toArray,List.size_toArray,List.length_map,List.length_map,pm.length_eq]
  rw [e1,e2]
  refine wpAny_bind (wp_if_neg (by rw [sz]; simp) ?_)
  try refine wpAny_bind (wpAny_pure ?_)
  refine wpAny_pure ?_
  dsimp only
  refine wpAny_storeSet_of (s:={ s with heap:=h1 }) ho1 hd1 ?_ (by rw [sz,sizeLine_eq]; have:=BO.few; simp; omega)
  rw [es']
  have sb : Heap.SameBut S h1 (h1.update S (Obj.putSet ((js.toList.filterMap fun i=>Lo[i]?).map (ent knd)).toArray { t2 with moves:=t1.moves })):=Heap.SameBut.update ..
  exact q _ _ (ep1 + 1) _ ⟨⟨_,store_at ho1 hd1,⟨ex1.1,ex1.2.1,ex1.2.2⟩,rfl⟩,⟨T2.ris,T2.dm,T2.sz,T2.mok,T2.bd,T2.reach⟩,(pm.map _).nodup_iff.mpr BO.dif,by rcases led2 with h | h; exact .inl h; exact .inr (el.trans h),by rw [pm.length_eq]; show Lo.length * 5 < t2.mask * 3; rw [em]; exact wide2,by rw [pm.length_eq]; exact BO.few⟩ pm (sb1.trans sb)
/-- x | y,two sets of tuples -/
theorem orB (pk : Plain knd) {x y : Addr} {Lx Ly : List (Addr × List κ)} {ex ey : Nat} {tx ty : SetTable} (Bx : Bag knd s.heap x Lx ex tx) (By : Bag knd s.heap y Ly ey ty) (ne : x≠y) (kx : Tups knd s.heap Lx) (ky : Tups knd s.heap Ly) (few : Lx.length + Ly.length < 64) (hu : A.units + 3 < cLine) {Q : Value→Shared→Prop}
  (q : ∀ (h' : Heap) d n L ep t,Bag knd h' s.heap.objs.size L ep t→Joined Lx Ly L→(∀ b o,s.heap.get? b = some o→h'.get? b = some o)→Q (.ref s.heap.objs.size) { s with heap:=h',drawn:=d,toks:=n }) :
  wpAny (model P w) A (binaryOp .BitOr (.ref x) (.ref y)) Q E s:=by
 obtain ⟨ox,hox,exx,hdx⟩:=id Bx.obj
 obtain ⟨oy,hoy,exy,hdy⟩:=id By.obj
 obtain ⟨c1',d1',dt1,sl1⟩:=ox
 obtain rfl : c1' = .type "set" := exx.1
 obtain ⟨c2',d2',dt2,sl2⟩:=oy
 obtain rfl : c2' = .type "set" := exy.1
 have t1 : s.TypeIs (.ref x) "set" := ⟨_,hox,exx.1⟩
 have t2 : s.TypeIs (.ref y) "set" := ⟨_,hoy,exy.1⟩
 have g1:=F.sub_set_set
 refine wpAny_binaryOp_same (op:=.BitOr) (T := "set") t1 t2 F.fills_set_or F.slot_set_or (wpAny_call_entry F.slot_set_or t1 (entryFor_alias (id' := "frozenset.__or__") (by kernel_rfl) rfl (by decide +kernel) (by kernel_rfl) : entryFor table "set.__or__" = some Builtin.«frozenset.__or__») ?_ (F.args_set_or_2 _ _))
 unfold Builtin.«frozenset.__or__»
 wp_walk
 refine wpAny_askSetting (wpAny_pure ?_)
 dsimp only
 simp only [newObj,↓reduceIte]
 refine wpAny_bind (wpAny_alloc (wpAny_pure ?_))
 have at0 : (s.heap.push (bare w)).get? s.heap.objs.size = some (bare w):=Heap.get?_push_size _ rfl
 have old : ∀ b o,s.heap.get? b = some o→(s.heap.push (bare w)).get? b = some o:=fun b o e=>Heap.get?_push_of_some _ e
 have lt : ∀ {b o},s.heap.get? b = some o→b≠s.heap.objs.size:=fun e=>Nat.ne_of_lt (Heap.lt_size e)
 refine wpAny_bind (wpAny_pure ?_)
 refine wpAny_bind (copyB (s:={ s with heap:=s.heap.push (bare w) }) (Bag.bare at0) (Bx.go fun o e=>old x o e) (Ne.symm (lt hox)) (roomy_fresh (by omega)) fun h1 L1 ep1 tt1 B1 pm1 sb1=>wpAny_pure ?_)
 have keep1 : ∀ b o,s.heap.get? b = some o→h1.get? b = some o:=fun b o e=>(sb1.2 b (lt e)).trans (old b o e)
 have hoy1:=keep1 _ _ hoy
 have t3 : Shared.TypeIs { s with heap:=h1 } (.ref y) "set" := ⟨_,hoy1,rfl⟩
 refine wp_if_pos (by simp [Ne.symm ne]) ?_
 refine wpAny_bind (wpAny_pure ?_)
 refine wpAny_bind (wpAny_holding ?_)
 have By1:=By.go (h':=h1) fun o e=>keep1 y o e
 have me : ∀ {R : Unit→Shared→Prop},(∀ (h' : Heap) d L ep t,Bag knd h' s.heap.objs.size L ep t→Joined L1 Ly L→Heap.SameBut s.heap.objs.size h1 h'→R () { s with heap:=h',drawn:=d }) →
   wpAny (model P w) A.in1 (setMerge s.heap.objs.size y (Builtin.Frozenset.unchanged "frozenset.__or__" y ey)) R E { s with heap:=h1 }:=fun {R} k=>by
  have l1:=pm1.length_eq
  by_cases e0 : L1 = []
  ·subst e0
   exact copyB (s:={ s with heap:=h1 }) (A:=A.in1) (E:=E) B1 By1 (Ne.symm (lt hoy)) (roomy B1.tab.mok (by omega)) fun h2 L ep t B2 pm2 sb2=>k h2 s.drawn L ep t B2 ⟨fun p m=>.inr (pm2.mem_iff.mp m),fun p m=>(nomatch m),fun p m=>List.mem_map_of_mem (pm2.mem_iff.mpr m)⟩ sb2
  ·exact mergeB (s:={ s with heap:=h1 }) (A:=A.in1) (E:=E) pk "frozenset.__or__" B1 By1 (Ne.symm (lt hoy)) (fun p m=>tup_go (kx p (pm1.mem_iff.mp m)) keep1) (fun p m=>tup_go (ky p m) keep1)
    (fun p m z=>by
     have : IsTupleKey knd s.heap p.2 p.1:=(List.mem_append.mp m).elim (fun k=>kx p (pm1.mem_iff.mp k)) (ky p)
     obtain ⟨o,_,_,e,_⟩:=this
     exact lt e z) e0 (by omega) (by have : A.in1.units = A.units + 1:=rfl; omega) (roomy B1.tab.mok (by omega)) k
 unfold Builtin.Frozenset.updateFrom Builtin.Frozenset.merge setEpoch
 generalize esm : @setMerge = sm at me ⊢
 wp_walk
 rw [hdy]
 dsimp only
 have fz:=By.fits
 unfold SetTable.fits at fz
 rw [Bool.and_eq_true,beq_iff_eq,decide_eq_true_eq] at fz
 refine wp_if_neg (by rw [Bool.or_eq_true,bne_iff_ne,decide_eq_true_eq]; omega) (wpAny_pure ?_)
 refine wpAny_pure ?_
 refine me fun h2 d L ep t B2 J sb2=>?_
 refine wpAny_pure ?_
 exact wpAny_pure ⟨_,rfl,(fun z=>nomatch z),q h2 d s.toks L ep t B2 ⟨fun p m=>(J.sub p m).imp pm1.mem_iff.mp id,fun p m=>J.left p (pm1.mem_iff.mpr m),J.right⟩ fun b o e=>(sb2.2 b (lt e)).trans (keep1 b o e)⟩
end
end Ms
namespace Ms
open PySem PySem.Spec PyProof.Rows L2
section
variable {X : Cx}
def rOrM (P : Program) (w : World) : R2:=fun u v H Q=>∃ (x y : Addr) (Lx Ly : List (Addr × List Key)),u = .ref x∧v = .ref y∧H x = some (SetM P w x Lx)∧H y = some (SetM P w y Ly)∧x≠y∧(∀ p∈Lx,H p.1 = some (.tup (p.2.map kV)))∧(∀ p∈Ly,H p.1 = some (.tup (p.2.map kV)))∧Lx.length + Ly.length < 64 ∧
 ∀ a L,H a = none→(∀ p∈L,p∈Lx∨p∈Ly)→(L.map Prod.snd).Nodup→(∀ k,k∈L.map Prod.snd↔k∈Lx.map Prod.snd∨k∈Ly.map Prod.snd)→Q (.ref a) (upd H a (SetM P w a L))
theorem op_orM (hu : X.A.units + 3 < cLine) : OpR X (binaryOp .BitOr) (rOrM X.prog X.w):=by
 intro pins s σ H u v a b Q I ru rv h
 obtain ⟨x,y,Lx,Ly,rfl,rfl,hx,hy,ne,kx,ky,few,q⟩:=h
 cases ru
 cases rv
 obtain ⟨ex,tx,Bx⟩:=(I.hok x _ hx).1
 obtain ⟨ey,ty,By⟩:=(I.hok y _ hy).1
 refine orB (plain_mix X.prog X.w) Bx By ne (fun p m=>tup_at I (SqT.of (kx p m))) (fun p m=>tup_at I (SqT.of (ky p m))) few hu fun h' d n L ep t B J k=>?_
 have np : H s.heap.objs.size = none:=I.hok.fresh (Nat.le_refl _)
 have J2 : Inv X pins σ (upd H s.heap.objs.size (SetM X.prog X.w s.heap.objs.size L)) { s with heap:=h',drawn:=d,toks:=n } :=
  I.call (ch:=[]) (Un.laid k (Nat.le_refl _) np) (I.hok.laid k (Nat.le_refl _) (setM_new B)) I.bare (fun _ z=>nomatch z)
 refine ⟨.ref s.heap.objs.size,_,J2,rfl,q _ L np J.sub B.dif fun k=>⟨fun z=>?_,fun z=>?_⟩⟩
 ·obtain ⟨p,hp,rfl⟩:=List.mem_map.mp z
  exact (J.sub p hp).imp (fun m=>List.mem_map_of_mem m) fun m=>List.mem_map_of_mem m
 ·rcases z with z | z
  ·obtain ⟨p,hp,rfl⟩:=List.mem_map.mp z
   exact J.left p hp
  ·obtain ⟨p,hp,rfl⟩:=List.mem_map.mp z
   exact J.right p hp
end
end Ms
namespace Gp
open PySem PySem.Spec PyProof.Rows L2
theorem sc_is_whole_from : FnScope ["thing", "low", "high"] ["thing", "low", "high"] (defScope s_is_whole_from):=⟨rfl,rfl,rfl,by decide +kernel,rfl,by decide +kernel,by decide +kernel⟩
theorem sc_is_time : FnScope ["thing"] ["thing"] (defScope s_is_time):=⟨rfl,rfl,rfl,by decide +kernel,rfl,by decide +kernel,by decide +kernel⟩
theorem sc_is_number : FnScope ["thing"] ["thing"] (defScope s_is_number):=⟨rfl,rfl,rfl,by decide +kernel,rfl,by decide +kernel,by decide +kernel⟩
theorem sc_is_count : FnScope ["thing"] ["thing"] (defScope s_is_count):=⟨rfl,rfl,rfl,by decide +kernel,rfl,by decide +kernel,by decide +kernel⟩
theorem sc_is_span : FnScope ["low", "high"] ["low", "high"] (defScope s_is_span):=⟨rfl,rfl,rfl,by decide +kernel,rfl,by decide +kernel,by decide +kernel⟩
theorem sc_is_ask_row : FnScope ["houses", "thing", "word", "house", "number", "job", "asked", "out", "back"] ["houses", "thing"] (defScope s_is_ask_row):=⟨rfl,rfl,rfl,by decide +kernel,rfl,by decide +kernel,by decide +kernel⟩
theorem sc_is_job_row : FnScope ["houses", "thing", "word", "house", "number", "begin", "end"] ["houses", "thing"] (defScope s_is_job_row):=⟨rfl,rfl,rfl,by decide +kernel,rfl,by decide +kernel,by decide +kernel⟩
theorem sc_is_all_row : FnScope ["houses", "thing", "word", "house", "asks", "jobs"] ["houses", "thing"] (defScope s_is_all_row):=⟨rfl,rfl,rfl,by decide +kernel,rfl,by decide +kernel,by decide +kernel⟩
theorem sc_is_row : FnScope ["town", "thing", "houses"] ["town", "thing"] (defScope s_is_row):=⟨rfl,rfl,rfl,by decide +kernel,rfl,by decide +kernel,by decide +kernel⟩
theorem sc_is_out_of_order : FnScope ["number", "time", "other_number", "other_time"] ["number", "time", "other_number", "other_time"] (defScope s_is_out_of_order):=⟨rfl,rfl,rfl,by decide +kernel,rfl,by decide +kernel,by decide +kernel⟩
theorem sc_do_asks_clash : FnScope ["one", "other", "number", "out", "other_number", "other_out"] ["one", "other"] (defScope s_do_asks_clash):=⟨rfl,rfl,rfl,by decide +kernel,rfl,by decide +kernel,by decide +kernel⟩
theorem sc_do_jobs_clash : FnScope ["one", "other", "number", "begin", "other_number", "other_begin"] ["one", "other"] (defScope s_do_jobs_clash):=⟨rfl,rfl,rfl,by decide +kernel,rfl,by decide +kernel,by decide +kernel⟩
theorem sc_do_job_and_ask_clash : FnScope ["job", "ask", "number", "begin", "end", "made_in", "out", "back"] ["job", "ask"] (defScope s_do_job_and_ask_clash):=⟨rfl,rfl,rfl,by decide +kernel,rfl,by decide +kernel,by decide +kernel⟩
theorem sc_does_all_row_clash : FnScope ["all_row", "other", "asks", "jobs"] ["all_row", "other"] (defScope s_does_all_row_clash):=⟨rfl,rfl,rfl,by decide +kernel,rfl,by decide +kernel,by decide +kernel⟩
theorem sc_do_alike_sorts_clash : FnScope ["one", "other"] ["one", "other"] (defScope s_do_alike_sorts_clash):=⟨rfl,rfl,rfl,by decide +kernel,rfl,by decide +kernel,by decide +kernel⟩
theorem sc_do_clash : FnScope ["one", "other"] ["one", "other"] (defScope s_do_clash):=⟨rfl,rfl,rfl,by decide +kernel,rfl,by decide +kernel,by decide +kernel⟩
theorem sc_need_rows : FnScope ["town", "rows", "number", "thing"] ["town", "rows"] (defScope s_need_rows):=⟨rfl,rfl,rfl,by decide +kernel,rfl,by decide +kernel,by decide +kernel⟩
theorem sc_need_book : FnScope ["town", "rows", "second", "first"] ["town", "rows"] (defScope s_need_book):=⟨rfl,rfl,rfl,by decide +kernel,rfl,by decide +kernel,by decide +kernel⟩
theorem sc_gaps_of : FnScope ["town", "rows"] ["town", "rows"] (defScope s_gaps_of):=⟨rfl,rfl,rfl,by decide +kernel,rfl,by decide +kernel,by decide +kernel⟩
theorem sc_rows_by_number : FnScope ["rows", "word", "row"] ["rows", "word"] (defScope s_rows_by_number):=⟨rfl,rfl,rfl,by decide +kernel,rfl,by decide +kernel,by decide +kernel⟩
theorem sc_numbers_below : FnScope ["town", "counts", "house", "number"] ["town", "counts"] (defScope s_numbers_below):=⟨rfl,rfl,rfl,by decide +kernel,rfl,by decide +kernel,by decide +kernel⟩
theorem sc_asks_of_house : FnScope ["gaps", "house", "row"] ["gaps", "house"] (defScope s_asks_of_house):=⟨rfl,rfl,rfl,by decide +kernel,rfl,by decide +kernel,by decide +kernel⟩
theorem sc_jobs_of_house : FnScope ["gaps", "house", "row"] ["gaps", "house"] (defScope s_jobs_of_house):=⟨rfl,rfl,rfl,by decide +kernel,rfl,by decide +kernel,by decide +kernel⟩
theorem sc_count_asks : FnScope ["gaps", "house", "row"] ["gaps", "house"] (defScope s_count_asks):=⟨rfl,rfl,rfl,by decide +kernel,rfl,by decide +kernel,by decide +kernel⟩
theorem sc_count_jobs : FnScope ["gaps", "house", "done", "row", "asked_in"] ["gaps", "house"] (defScope s_count_jobs):=⟨rfl,rfl,rfl,by decide +kernel,rfl,by decide +kernel,by decide +kernel⟩
theorem sc_earliest : FnScope ["times"] ["times"] (defScope s_earliest):=⟨rfl,rfl,rfl,by decide +kernel,rfl,by decide +kernel,by decide +kernel⟩
theorem sc_latest : FnScope ["times"] ["times"] (defScope s_latest):=⟨rfl,rfl,rfl,by decide +kernel,rfl,by decide +kernel,by decide +kernel⟩
theorem sc_span_of_ask : FnScope ["gaps", "ask", "house", "number", "asks", "low", "row", "high"] ["gaps", "ask"] (defScope s_span_of_ask):=⟨rfl,rfl,rfl,by decide +kernel,rfl,by decide +kernel,by decide +kernel⟩
theorem sc_span_of_job : FnScope ["gaps", "job", "house", "number", "asks", "jobs", "low", "row", "begins", "ahead_of_asks", "last"] ["gaps", "job"] (defScope s_span_of_job):=⟨rfl,rfl,rfl,by decide +kernel,rfl,by decide +kernel,by decide +kernel⟩
theorem sc_more_of : FnScope ["gaps", "house", "outs", "row", "begins"] ["gaps", "house"] (defScope s_more_of):=⟨rfl,rfl,rfl,by decide +kernel,rfl,by decide +kernel,by decide +kernel⟩
theorem sc_made_in : FnScope ["gaps", "ask", "row"] ["gaps", "ask"] (defScope s_made_in):=⟨rfl,rfl,rfl,by decide +kernel,rfl,by decide +kernel,by decide +kernel⟩
theorem sc_jobs_of_trees : FnScope ["gaps", "ask"] ["gaps"] (defScope s_jobs_of_trees):=⟨rfl,rfl,rfl,by decide +kernel,rfl,by decide +kernel,by decide +kernel⟩
theorem sc_uppers_of : FnScope ["gaps", "telling", "ask", "job"] ["gaps", "telling"] (defScope s_uppers_of):=⟨rfl,rfl,rfl,by decide +kernel,rfl,by decide +kernel,by decide +kernel⟩
theorem sc_all_uppers : FnScope ["uppers", "job", "told", "upper"] ["uppers", "job"] (defScope s_all_uppers):=⟨rfl,rfl,rfl,by decide +kernel,rfl,by decide +kernel,by decide +kernel⟩
theorem sc_forest : FnScope ["town", "rows", "telling", "gaps", "uppers", "jobs", "lowers", "job", "told", "left", "deep"] ["town", "rows", "telling"] (defScope s_forest):=⟨rfl,rfl,rfl,by decide +kernel,rfl,by decide +kernel,by decide +kernel⟩
theorem sc_l_spread : FnScope ["cell", "at", "one", "two", "three"] ["cell", "at"] (defScope s_l_spread):=⟨rfl,rfl,rfl,by decide +kernel,rfl,by decide +kernel,by decide +kernel⟩
theorem sc_l_open : FnScope ["script", "cells", "k", "cell"] ["script"] (defScope s_l_open):=⟨rfl,rfl,rfl,by decide +kernel,rfl,by decide +kernel,by decide +kernel⟩
theorem sc_l_anew : FnScope ["pen"] ["pen"] (defScope s_l_anew):=⟨rfl,rfl,rfl,by decide +kernel,rfl,by decide +kernel,by decide +kernel⟩
theorem sc_l_take : FnScope ["pen", "many", "at", "cell", "found"] ["pen", "many"] (defScope s_l_take):=⟨rfl,rfl,rfl,by decide +kernel,rfl,by decide +kernel,by decide +kernel⟩
theorem sc_l_names : FnScope ["pen", "many", "letters", "base", "k", "way", "turn", "size", "found", "sign", "part", "at"] ["pen", "many"] (defScope s_l_names):=⟨rfl,rfl,rfl,by decide +kernel,rfl,by decide +kernel,by decide +kernel⟩
theorem sc_l_town : FnScope ["pen", "most", "houses", "gates", "house"] ["pen", "most"] (defScope s_l_town):=⟨rfl,rfl,rfl,by decide +kernel,rfl,by decide +kernel,by decide +kernel⟩
theorem sc_l_room : FnScope ["world", "house", "goal", "asks", "ask", "jobs", "job"] ["world", "house", "goal"] (defScope s_l_room):=⟨rfl,rfl,rfl,by decide +kernel,rfl,by decide +kernel,by decide +kernel⟩
theorem sc_l_job : FnScope ["pen", "world", "town", "house", "start", "deep", "place", "begin", "last", "now", "turn", "goal", "out", "ask"] ["pen", "world", "town", "house", "start", "deep"] (defScope s_l_job):=⟨rfl,rfl,rfl,by decide +kernel,rfl,by decide +kernel,by decide +kernel⟩
theorem sc_l_world : FnScope ["pen", "town", "tops", "deep", "most", "stray", "world", "turn", "doors", "house"] ["pen", "town", "tops", "deep", "most", "stray"] (defScope s_l_world):=⟨rfl,rfl,rfl,by decide +kernel,rfl,by decide +kernel,by decide +kernel⟩
theorem sc_l_called : FnScope ["town", "world", "asks", "jobs", "house", "outs", "at", "ask", "begins", "place", "job", "number"] ["town", "world"] (defScope s_l_called):=⟨rfl,rfl,rfl,by decide +kernel,rfl,by decide +kernel,by decide +kernel⟩
theorem sc_l_bases : FnScope ["pen", "town", "many", "base", "house"] ["pen", "town", "many"] (defScope s_l_bases):=⟨rfl,rfl,rfl,by decide +kernel,rfl,by decide +kernel,by decide +kernel⟩
theorem sc_l_all_rows : FnScope ["town", "world", "bases", "asks", "jobs", "rows", "place", "house", "begin", "end", "at", "goal", "out", "back", "child", "number", "many"] ["town", "world", "bases"] (defScope s_l_all_rows):=⟨rfl,rfl,rfl,by decide +kernel,rfl,by decide +kernel,by decide +kernel⟩
theorem sc_l_left : FnScope ["pen", "rows", "fewer", "some", "found", "row", "turn"] ["pen", "rows", "fewer"] (defScope s_l_left):=⟨rfl,rfl,rfl,by decide +kernel,rfl,by decide +kernel,by decide +kernel⟩
theorem sc_l_true_pairs : FnScope ["town", "world", "rows", "asks", "jobs", "known", "row", "pairs", "at", "ask"] ["town", "world", "rows"] (defScope s_l_true_pairs):=⟨rfl,rfl,rfl,by decide +kernel,rfl,by decide +kernel,by decide +kernel⟩
theorem sc_l_gated : FnScope ["pen", "most", "town"] ["pen", "most"] (defScope s_l_gated):=⟨rfl,rfl,rfl,by decide +kernel,rfl,by decide +kernel,by decide +kernel⟩
theorem sc_l_tree_book : FnScope ["pen", "houses", "most", "fewer", "town", "world", "rows"] ["pen", "houses", "most", "fewer"] (defScope s_l_tree_book):=⟨rfl,rfl,rfl,by decide +kernel,rfl,by decide +kernel,by decide +kernel⟩
theorem sc_l_known : FnScope ["rows", "word", "house", "found", "row"] ["rows", "word", "house"] (defScope s_l_known):=⟨rfl,rfl,rfl,by decide +kernel,rfl,by decide +kernel,by decide +kernel⟩
theorem sc_l_above : FnScope ["rows", "telling", "job", "ask", "other"] ["rows", "telling", "job"] (defScope s_l_above):=⟨rfl,rfl,rfl,by decide +kernel,rfl,by decide +kernel,by decide +kernel⟩
theorem sc_l_tree_jobs : FnScope ["rows", "found", "row"] ["rows"] (defScope s_l_tree_jobs):=⟨rfl,rfl,rfl,by decide +kernel,rfl,by decide +kernel,by decide +kernel⟩
theorem sc_l_same : FnScope ["found", "due", "one", "other"] ["found", "due"] (defScope s_l_same):=⟨rfl,rfl,rfl,by decide +kernel,rfl,by decide +kernel,by decide +kernel⟩
theorem sc_l_grown : FnScope ["rows", "telling", "jobs", "top", "deep", "found", "job"] ["rows", "telling", "jobs", "top", "deep"] (defScope s_l_grown):=⟨rfl,rfl,rfl,by decide +kernel,rfl,by decide +kernel,by decide +kernel⟩
theorem sc_l_chain : FnScope ["pen", "house", "many", "rows", "k", "telling"] ["pen"] (defScope s_l_chain):=⟨rfl,rfl,rfl,by decide +kernel,rfl,by decide +kernel,by decide +kernel⟩
theorem sc_law : FnScope ["script", "pen", "turn", "town", "rows", "telling", "due", "handed", "found"] ["script"] (defScope s_law):=⟨rfl,rfl,rfl,by decide +kernel,rfl,by decide +kernel,by decide +kernel⟩
theorem sc_init_NoRow : FnScope ["self", "number"] ["self", "number"] (defScope s_i_NoRow):=⟨rfl,rfl,rfl,by decide +kernel,rfl,by decide +kernel,by decide +kernel⟩
theorem sc_init_Clash : FnScope ["self", "first", "second"] ["self", "first", "second"] (defScope s_i_Clash):=⟨rfl,rfl,rfl,by decide +kernel,rfl,by decide +kernel,by decide +kernel⟩
structure ExcT (K : PySem.W.Frag) (mg : Str→Option Value) (name : Str) (C fI : Addr) (fdI : FuncData) (st : Stmt) (qual : Str) (ps fs : List Str) : Prop where
 g : mg name = some (.ref C)
 T : OexC K C
 iC : PySem.W.findIn K (.ref C) "__init__" = some (some (.ref fI))
 tI : PySem.W.typeIn K (.ref fI) = some (.type "function")
 F : Fun K "__init__" qual st fI fdI
 b : Binds K fdI ps []
 no : ∀ f∈fs,PySem.W.findIn K (.ref C) f = some none
 xf : XfC K C
theorem sc_init_Gaps : FnScope ["self", "town", "rows", "row", "house", "ask", "job"] ["self", "town", "rows"] (defScope s_i_Gaps):=⟨rfl,rfl,rfl,by decide +kernel,rfl,by decide +kernel,by decide +kernel⟩
structure ClsT (K : PySem.W.Frag) (mg : Str→Option Value) (name : Str) (C fI : Addr) (fdI : FuncData) (st : Stmt) (qual : Str) (ps fs : List Str) : Prop where
 g : mg name = some (.ref C)
 M : Mk K C fI
 c : Cls K C
 F : Fun K "__init__" qual st fI fdI
 b : Binds K fdI ps []
 no : ∀ f∈fs,NoAttr K C f
structure Txt (K : PySem.W.Frag) (mg : Str→Option Value) (af : Nat→Addr) (fd : Nat→FuncData) : Prop where
 g_is_whole_from : mg "is_whole_from" = some (.ref (af 0))
 F_is_whole_from : Fun K "is_whole_from" "is_whole_from" s_is_whole_from (af 0) (fd 0)
 b_is_whole_from : Binds K (fd 0) ["thing", "low", "high"] []
 g_is_time : mg "is_time" = some (.ref (af 1))
 F_is_time : Fun K "is_time" "is_time" s_is_time (af 1) (fd 1)
 b_is_time : Binds K (fd 1) ["thing"] []
 g_is_number : mg "is_number" = some (.ref (af 2))
 F_is_number : Fun K "is_number" "is_number" s_is_number (af 2) (fd 2)
 b_is_number : Binds K (fd 2) ["thing"] []
 g_is_count : mg "is_count" = some (.ref (af 3))
 F_is_count : Fun K "is_count" "is_count" s_is_count (af 3) (fd 3)
 b_is_count : Binds K (fd 3) ["thing"] []
 g_is_span : mg "is_span" = some (.ref (af 4))
 F_is_span : Fun K "is_span" "is_span" s_is_span (af 4) (fd 4)
 b_is_span : Binds K (fd 4) ["low", "high"] []
 g_is_ask_row : mg "is_ask_row" = some (.ref (af 5))
 F_is_ask_row : Fun K "is_ask_row" "is_ask_row" s_is_ask_row (af 5) (fd 5)
 b_is_ask_row : Binds K (fd 5) ["houses", "thing"] []
 g_is_job_row : mg "is_job_row" = some (.ref (af 6))
 F_is_job_row : Fun K "is_job_row" "is_job_row" s_is_job_row (af 6) (fd 6)
 b_is_job_row : Binds K (fd 6) ["houses", "thing"] []
 g_is_all_row : mg "is_all_row" = some (.ref (af 7))
 F_is_all_row : Fun K "is_all_row" "is_all_row" s_is_all_row (af 7) (fd 7)
 b_is_all_row : Binds K (fd 7) ["houses", "thing"] []
 g_is_row : mg "is_row" = some (.ref (af 8))
 F_is_row : Fun K "is_row" "is_row" s_is_row (af 8) (fd 8)
 b_is_row : Binds K (fd 8) ["town", "thing"] []
 g_is_out_of_order : mg "is_out_of_order" = some (.ref (af 9))
 F_is_out_of_order : Fun K "is_out_of_order" "is_out_of_order" s_is_out_of_order (af 9) (fd 9)
 b_is_out_of_order : Binds K (fd 9) ["number", "time", "other_number", "other_time"] []
 g_do_asks_clash : mg "do_asks_clash" = some (.ref (af 10))
 F_do_asks_clash : Fun K "do_asks_clash" "do_asks_clash" s_do_asks_clash (af 10) (fd 10)
 b_do_asks_clash : Binds K (fd 10) ["one", "other"] []
 g_do_jobs_clash : mg "do_jobs_clash" = some (.ref (af 11))
 F_do_jobs_clash : Fun K "do_jobs_clash" "do_jobs_clash" s_do_jobs_clash (af 11) (fd 11)
 b_do_jobs_clash : Binds K (fd 11) ["one", "other"] []
 g_do_job_and_ask_clash : mg "do_job_and_ask_clash" = some (.ref (af 12))
 F_do_job_and_ask_clash : Fun K "do_job_and_ask_clash" "do_job_and_ask_clash" s_do_job_and_ask_clash (af 12) (fd 12)
 b_do_job_and_ask_clash : Binds K (fd 12) ["job", "ask"] []
 g_does_all_row_clash : mg "does_all_row_clash" = some (.ref (af 13))
 F_does_all_row_clash : Fun K "does_all_row_clash" "does_all_row_clash" s_does_all_row_clash (af 13) (fd 13)
 b_does_all_row_clash : Binds K (fd 13) ["all_row", "other"] []
 g_do_alike_sorts_clash : mg "do_alike_sorts_clash" = some (.ref (af 14))
 F_do_alike_sorts_clash : Fun K "do_alike_sorts_clash" "do_alike_sorts_clash" s_do_alike_sorts_clash (af 14) (fd 14)
 b_do_alike_sorts_clash : Binds K (fd 14) ["one", "other"] []
 g_do_clash : mg "do_clash" = some (.ref (af 15))
 F_do_clash : Fun K "do_clash" "do_clash" s_do_clash (af 15) (fd 15)
 b_do_clash : Binds K (fd 15) ["one", "other"] []
 g_need_rows : mg "need_rows" = some (.ref (af 16))
 F_need_rows : Fun K "need_rows" "need_rows" s_need_rows (af 16) (fd 16)
 b_need_rows : Binds K (fd 16) ["town", "rows"] []
 g_need_book : mg "need_book" = some (.ref (af 17))
 F_need_book : Fun K "need_book" "need_book" s_need_book (af 17) (fd 17)
 b_need_book : Binds K (fd 17) ["town", "rows"] []
 g_gaps_of : mg "gaps_of" = some (.ref (af 18))
 F_gaps_of : Fun K "gaps_of" "gaps_of" s_gaps_of (af 18) (fd 18)
 b_gaps_of : Binds K (fd 18) ["town", "rows"] []
 g_rows_by_number : mg "rows_by_number" = some (.ref (af 19))
 F_rows_by_number : Fun K "rows_by_number" "rows_by_number" s_rows_by_number (af 19) (fd 19)
 b_rows_by_number : Binds K (fd 19) ["rows", "word"] []
 g_numbers_below : mg "numbers_below" = some (.ref (af 20))
 F_numbers_below : Fun K "numbers_below" "numbers_below" s_numbers_below (af 20) (fd 20)
 b_numbers_below : Binds K (fd 20) ["town", "counts"] []
 g_asks_of_house : mg "asks_of_house" = some (.ref (af 21))
 F_asks_of_house : Fun K "asks_of_house" "asks_of_house" s_asks_of_house (af 21) (fd 21)
 b_asks_of_house : Binds K (fd 21) ["gaps", "house"] []
 g_jobs_of_house : mg "jobs_of_house" = some (.ref (af 22))
 F_jobs_of_house : Fun K "jobs_of_house" "jobs_of_house" s_jobs_of_house (af 22) (fd 22)
 b_jobs_of_house : Binds K (fd 22) ["gaps", "house"] []
 g_count_asks : mg "count_asks" = some (.ref (af 23))
 F_count_asks : Fun K "count_asks" "count_asks" s_count_asks (af 23) (fd 23)
 b_count_asks : Binds K (fd 23) ["gaps", "house"] []
 g_count_jobs : mg "count_jobs" = some (.ref (af 24))
 F_count_jobs : Fun K "count_jobs" "count_jobs" s_count_jobs (af 24) (fd 24)
 b_count_jobs : Binds K (fd 24) ["gaps", "house"] []
 g_earliest : mg "earliest" = some (.ref (af 25))
 F_earliest : Fun K "earliest" "earliest" s_earliest (af 25) (fd 25)
 b_earliest : Binds K (fd 25) ["times"] []
 g_latest : mg "latest" = some (.ref (af 26))
 F_latest : Fun K "latest" "latest" s_latest (af 26) (fd 26)
 b_latest : Binds K (fd 26) ["times"] []
 g_span_of_ask : mg "span_of_ask" = some (.ref (af 27))
 F_span_of_ask : Fun K "span_of_ask" "span_of_ask" s_span_of_ask (af 27) (fd 27)
 b_span_of_ask : Binds K (fd 27) ["gaps", "ask"] []
 g_span_of_job : mg "span_of_job" = some (.ref (af 28))
 F_span_of_job : Fun K "span_of_job" "span_of_job" s_span_of_job (af 28) (fd 28)
 b_span_of_job : Binds K (fd 28) ["gaps", "job"] []
 g_more_of : mg "more_of" = some (.ref (af 29))
 F_more_of : Fun K "more_of" "more_of" s_more_of (af 29) (fd 29)
 b_more_of : Binds K (fd 29) ["gaps", "house"] []
 g_made_in : mg "made_in" = some (.ref (af 30))
 F_made_in : Fun K "made_in" "made_in" s_made_in (af 30) (fd 30)
 b_made_in : Binds K (fd 30) ["gaps", "ask"] []
 g_jobs_of_trees : mg "jobs_of_trees" = some (.ref (af 31))
 F_jobs_of_trees : Fun K "jobs_of_trees" "jobs_of_trees" s_jobs_of_trees (af 31) (fd 31)
 b_jobs_of_trees : Binds K (fd 31) ["gaps"] []
 g_uppers_of : mg "uppers_of" = some (.ref (af 32))
 F_uppers_of : Fun K "uppers_of" "uppers_of" s_uppers_of (af 32) (fd 32)
 b_uppers_of : Binds K (fd 32) ["gaps", "telling"] []
 g_all_uppers : mg "all_uppers" = some (.ref (af 33))
 F_all_uppers : Fun K "all_uppers" "all_uppers" s_all_uppers (af 33) (fd 33)
 b_all_uppers : Binds K (fd 33) ["uppers", "job"] []
 g_forest : mg "forest" = some (.ref (af 34))
 F_forest : Fun K "forest" "forest" s_forest (af 34) (fd 34)
 b_forest : Binds K (fd 34) ["town", "rows", "telling"] []
 g_l_spread : mg "_law_spread" = some (.ref (af 35))
 F_l_spread : Fun K "_law_spread" "_law_spread" s_l_spread (af 35) (fd 35)
 b_l_spread : Binds K (fd 35) ["cell", "at"] []
 g_l_open : mg "_law_open" = some (.ref (af 36))
 F_l_open : Fun K "_law_open" "_law_open" s_l_open (af 36) (fd 36)
 b_l_open : Binds K (fd 36) ["script"] []
 g_l_anew : mg "_law_anew" = some (.ref (af 37))
 F_l_anew : Fun K "_law_anew" "_law_anew" s_l_anew (af 37) (fd 37)
 b_l_anew : Binds K (fd 37) ["pen"] []
 g_l_take : mg "_law_take" = some (.ref (af 38))
 F_l_take : Fun K "_law_take" "_law_take" s_l_take (af 38) (fd 38)
 b_l_take : Binds K (fd 38) ["pen", "many"] []
 g_l_names : mg "_law_names" = some (.ref (af 39))
 F_l_names : Fun K "_law_names" "_law_names" s_l_names (af 39) (fd 39)
 b_l_names : Binds K (fd 39) ["pen", "many"] []
 g_l_town : mg "_law_town" = some (.ref (af 40))
 F_l_town : Fun K "_law_town" "_law_town" s_l_town (af 40) (fd 40)
 b_l_town : Binds K (fd 40) ["pen", "most"] []
 g_l_room : mg "_law_room" = some (.ref (af 41))
 F_l_room : Fun K "_law_room" "_law_room" s_l_room (af 41) (fd 41)
 b_l_room : Binds K (fd 41) ["world", "house", "goal"] []
 g_l_job : mg "_law_job" = some (.ref (af 42))
 F_l_job : Fun K "_law_job" "_law_job" s_l_job (af 42) (fd 42)
 b_l_job : Binds K (fd 42) ["pen", "world", "town", "house", "start", "deep"] []
 g_l_world : mg "_law_world" = some (.ref (af 43))
 F_l_world : Fun K "_law_world" "_law_world" s_l_world (af 43) (fd 43)
 b_l_world : Binds K (fd 43) ["pen", "town", "tops", "deep", "most", "stray"] []
 g_l_called : mg "_law_called" = some (.ref (af 44))
 F_l_called : Fun K "_law_called" "_law_called" s_l_called (af 44) (fd 44)
 b_l_called : Binds K (fd 44) ["town", "world"] []
 g_l_bases : mg "_law_bases" = some (.ref (af 45))
 F_l_bases : Fun K "_law_bases" "_law_bases" s_l_bases (af 45) (fd 45)
 b_l_bases : Binds K (fd 45) ["pen", "town", "many"] []
 g_l_all_rows : mg "_law_all_rows" = some (.ref (af 46))
 F_l_all_rows : Fun K "_law_all_rows" "_law_all_rows" s_l_all_rows (af 46) (fd 46)
 b_l_all_rows : Binds K (fd 46) ["town", "world", "bases"] []
 g_l_left : mg "_law_left" = some (.ref (af 47))
 F_l_left : Fun K "_law_left" "_law_left" s_l_left (af 47) (fd 47)
 b_l_left : Binds K (fd 47) ["pen", "rows", "fewer"] []
 g_l_true_pairs : mg "_law_true_pairs" = some (.ref (af 48))
 F_l_true_pairs : Fun K "_law_true_pairs" "_law_true_pairs" s_l_true_pairs (af 48) (fd 48)
 b_l_true_pairs : Binds K (fd 48) ["town", "world", "rows"] []
 g_l_gated : mg "_law_gated" = some (.ref (af 49))
 F_l_gated : Fun K "_law_gated" "_law_gated" s_l_gated (af 49) (fd 49)
 b_l_gated : Binds K (fd 49) ["pen", "most"] []
 g_l_tree_book : mg "_law_tree_book" = some (.ref (af 50))
 F_l_tree_book : Fun K "_law_tree_book" "_law_tree_book" s_l_tree_book (af 50) (fd 50)
 b_l_tree_book : Binds K (fd 50) ["pen", "houses", "most", "fewer"] []
 g_l_known : mg "_law_known" = some (.ref (af 51))
 F_l_known : Fun K "_law_known" "_law_known" s_l_known (af 51) (fd 51)
 b_l_known : Binds K (fd 51) ["rows", "word", "house"] []
 g_l_above : mg "_law_above" = some (.ref (af 52))
 F_l_above : Fun K "_law_above" "_law_above" s_l_above (af 52) (fd 52)
 b_l_above : Binds K (fd 52) ["rows", "telling", "job"] []
 g_l_tree_jobs : mg "_law_tree_jobs" = some (.ref (af 53))
 F_l_tree_jobs : Fun K "_law_tree_jobs" "_law_tree_jobs" s_l_tree_jobs (af 53) (fd 53)
 b_l_tree_jobs : Binds K (fd 53) ["rows"] []
 g_l_same : mg "_law_same" = some (.ref (af 54))
 F_l_same : Fun K "_law_same" "_law_same" s_l_same (af 54) (fd 54)
 b_l_same : Binds K (fd 54) ["found", "due"] []
 g_l_grown : mg "_law_grown" = some (.ref (af 55))
 F_l_grown : Fun K "_law_grown" "_law_grown" s_l_grown (af 55) (fd 55)
 b_l_grown : Binds K (fd 55) ["rows", "telling", "jobs", "top", "deep"] []
 g_l_chain : mg "_law_chain" = some (.ref (af 56))
 F_l_chain : Fun K "_law_chain" "_law_chain" s_l_chain (af 56) (fd 56)
 b_l_chain : Binds K (fd 56) ["pen"] []
 g_law : mg "law" = some (.ref (af 57))
 F_law : Fun K "law" "law" s_law (af 57) (fd 57)
 b_law : Binds K (fd 57) ["script"] []
 e_NoRow : ExcT K mg "NoRow" (af 58) (af 59) (fd 59) s_i_NoRow "NoRow.__init__" ["self", "number"] ["number"]
 e_Clash : ExcT K mg "Clash" (af 60) (af 61) (fd 61) s_i_Clash "Clash.__init__" ["self", "first", "second"] ["first", "second"]
 o_Gaps : ClsT K mg "Gaps" (af 62) (af 63) (fd 63) s_i_Gaps "Gaps.__init__" ["self", "town", "rows"] ["town", "ask_rows", "job_rows", "all_rows", "asks", "jobs", "ask_spans", "job_spans", "more_times"]
 x_NoRow_NoRow : PySem.W.exmOne K (.ref (af 58)) (.ref (af 58)) = some true
 x_NoRow_Clash : PySem.W.exmOne K (.ref (af 58)) (.ref (af 60)) = some false
 x_Clash_NoRow : PySem.W.exmOne K (.ref (af 60)) (.ref (af 58)) = some false
 x_Clash_Clash : PySem.W.exmOne K (.ref (af 60)) (.ref (af 60)) = some true
 m_bool : mg "bool" = none
 m_dict : mg "dict" = none
 m_enumerate : mg "enumerate" = none
 m_int : mg "int" = none
 m_isinstance : mg "isinstance" = none
 m_len : mg "len" = none
 m_list : mg "list" = none
 m_max : mg "max" = none
 m_min : mg "min" = none
 m_range : mg "range" = none
 m_set : mg "set" = none
 m_sorted : mg "sorted" = none
 m_str : mg "str" = none
 m_tuple : mg "tuple" = none
 m_zip : mg "zip" = none
 c_MOST_COUNT : ∃ t,mg "MOST_COUNT" = some (.int (15) t)
 c_MOST_NUMBER : ∃ t,mg "MOST_NUMBER" = some (.int (14) t)
 c_MOST_TIME : ∃ t,mg "MOST_TIME" = some (.int (1000000000000) t)
def Pen (H : Hp) (p c : Addr) : Prop:=∃ (cs : List Int) (n st : Int),H p = some (.lst [.ref c,.int n,.int st])∧H c = some (.lst (cs.map V.int))∧0≤n∧0≤st
def Stp (p c : Addr) (H H' : Hp) : Prop:=Pen H' p c∧∀ b o,b≠p→H b = some o→H' b = some o
theorem Stp.refl {p c : Addr} {H : Hp} (h : Pen H p c) : Stp p c H H:=⟨h,fun _ _ _ e=>e⟩
theorem Stp.trans {p c : Addr} {H H1 H2 : Hp} (a : Stp p c H H1) (b : Stp p c H1 H2) : Stp p c H H2:=⟨b.1,fun x o n e=>b.2 x o n (a.2 x o n e)⟩
theorem cells_ne {c : Addr} {cs : List Int} {n st : Int} : cs.map V.int≠[.ref c,.int n,.int st]:=by
 cases cs with
 | nil=>exact fun h=>nomatch h
 | cons x r=>exact fun h=>nomatch (List.cons.inj h).1
theorem Pen.ne {p c : Addr} {H : Hp} (h : Pen H p c) : c≠p:=by
 obtain ⟨cs,n,st,h1,h2,h3,h4⟩:=h
 intro e
 subst e
 rw [h2] at h1
 exact cells_ne (HO.lst.inj (Option.some.inj h1))
theorem Pen.neP {p c a : Addr} {H : Hp} (h : Pen H p c) (ha : H a = none) : p≠a:=let ⟨_,_,_,h1,_⟩:=h; ne_of_none h1 ha
theorem Pen.neC {p c a : Addr} {H : Hp} (h : Pen H p c) (ha : H a = none) : c≠a:=let ⟨_,_,_,_,h2,_⟩:=h; ne_of_none h2 ha
theorem Pen.tup {p c a : Addr} {H : Hp} {xs : List V} (h : Pen H p c) (ha : H a = some (.tup xs)) : a≠p:=let ⟨_,_,_,h1,_⟩:=h; ne_of ha h1 (fun e=>nomatch e)
theorem Stp.tup {p c a : Addr} {H H' : Hp} {xs : List V} (s : Stp p c H H') (h : Pen H p c) (ha : H a = some (.tup xs)) : H' a = some (.tup xs):=s.2 a _ (h.tup ha) ha
theorem Stp.mut {p c a : Addr} {H H1 : Hp} {o : HO} (s : Stp p c H H1) (hp : Pen H p c) (ha : H a = none) : Stp p c H (upd H1 a o):=by
 obtain ⟨cs,n,st,h1,h2,h3,h4⟩:=s.1
 exact ⟨⟨cs,n,st,by rw [upd_ne (hp.neP ha)]; exact h1,by rw [upd_ne (hp.neC ha)]; exact h2,h3,h4⟩,fun b u nb e=>by rw [upd_ne (ne_of_none e ha)]; exact s.2 b u nb e⟩
theorem Stp.back {p c a : Addr} {H H1 : Hp} (s : Stp p c H H1) (hp : Pen H p c) (ha : H1 a = none) : H a = none:=by
 cases e : H a with
 | none=>rfl
 | some o =>
  by_cases hb : a = p
  ·subst hb
   obtain ⟨cs,n,st,h1,_⟩:=s.1
   rw [h1] at ha
   cases ha
  ·rw [s.2 a o hb e] at ha
   cases ha
theorem Stp.new {p c a : Addr} {H H1 : Hp} {o : HO} (s : Stp p c H H1) (hp : Pen H p c) (ha : H1 a = none) : Stp p c H (upd H1 a o):=s.mut hp (s.back hp ha)
theorem yes_if {A B : Hp→Prop} {σ : L2.St} {H : Hp} (h : A H) : tYes σ H (fun b H3=>if b = true then A H3 else B H3):=by
 show (if true = true then A H else B H)
 exact iteT h
theorem at_any {A : Type} {xs : List A} {z : Int} {j : Nat} {v : A} (e : z = (j : Int)) (h : xs[j]? = some v) : atI xs z = some v:=by
 rw [e]
 exact atI_nat h
theorem same_upd {H : Hp} {p : Addr} {o : HO} (h : H p = none) : Same H (upd H p o):=fun b x e=>by
 rw [upd_ne (ne_of_none e h)]
 exact e
theorem same_mut {H H1 : Hp} {p : Addr} {o : HO} (s : Same H H1) (h : H p = none) : Same H (upd H1 p o):=fun b x e=>by
 rw [upd_ne (ne_of_none e h)]
 exact s b x e
theorem cut_to (xs : List V) (n : Nat) : cutV xs none (some (n : Int)) = xs.take n:=by
 unfold cutV
 rw [HT.sIx_none,HT.sIx_nat,List.drop_zero,Nat.sub_zero]
 by_cases h : n≤xs.length
 ·rw [Nat.min_eq_left h]
 ·rw [Nat.min_eq_right (by omega),List.take_length,List.take_of_length_le (by omega)]
theorem cut_mid (xs : List V) (m n : Nat) : cutV xs (some (m : Int)) (some (n : Int)) = (xs.drop (min m xs.length)).take (min n xs.length - min m xs.length):=by
 unfold cutV
 rw [HT.sIx_nat,HT.sIx_nat]
namespace Fl
open PySem PySem.W PyProof.Rows
inductive FV : PyData→Value→Prop
 | int (i : Int) (t : Tok) : FV (.int i) (.int i t)
 | str (x : Str) (t : Tok) : FV (.str x) (.str x t)
inductive FVs : List PyData→List Value→Prop
 | nil : FVs [] []
 | cons {d : PyData} {u : Value} {ds : List PyData} {us : List Value} : FV d u→FVs ds us→FVs (d :: ds) (u :: us)
theorem FVs.len : ∀ {ds : List PyData} {us : List Value},FVs ds us→ds.length = us.length
 | _,_,.nil=>rfl
 | _,_,.cons _ r=>by rw [List.length_cons,List.length_cons,r.len]
section
variable {prog : Program} {w : World} {A : Around} {E : Value→Shared→Prop} {s : Shared}
def ltD (x y : List PyData) : Bool:=lexLt itemOrd (keyToksAll x) (keyToksAll y)
theorem swo_ltD {A : Type} (k : A→List PyData) : SrtO.Swo fun v u=>ltD (k v) (k u):=by
 refine ⟨fun x y h=>?_,fun x y z h1 h2=>?_⟩
 ·cases e : ltD (k y) (k x) with
  | false=>rfl
  | true =>
   have:=lex_trans _ _ _ h e
   rw [lex_irrefl] at this
   cases this
 ·cases e : ltD (k z) (k x) with
  | false=>rfl
  | true =>
   rcases lex_negTrans _ (keyToksAll (k y)) _ e with q | q
   ·exact absurd (h2.symm.trans q) (by decide)
   ·exact absurd (h1.symm.trans q) (by decide)
def IsFl (h : Heap) (v : Value) (ds : List PyData) : Prop:=∃ a o its n,v = .ref a∧h.get? a = some o∧o.cls = .type "tuple" ∧ o.data = .seq its n∧FVs ds its.toList
theorem IsFl.keeps {h h' : Heap} {v : Value} {ds : List PyData} (p : IsFl h v ds) (k : ∀ b o,h.get? b = some o→o.cls = .type "tuple" → h'.get? b = some o) : IsFl h' v ds:=by
 obtain ⟨a,o,its,n,e,ho,hc,r⟩:=p
 exact ⟨a,o,its,n,e,k a o ho hc,hc,r⟩
end
def dV : PyData→V
 | .int i=>.int i
 | .str x=>.str x
 | _=>.non
def flatD : PyData→Bool
 | .int _=>true
 | .str _=>true
 | _=>false
theorem fvs_of : ∀ {ds : List PyData} {us : List Value},ds.all flatD = true→Vals (ds.map dV) us→FVs ds us
 | [],_,_,.nil=>.nil
 | d :: ds,_ :: us,h,.cons r rs=>by
  rw [List.all_cons,Bool.and_eq_true] at h
  refine .cons ?_ (fvs_of h.2 rs)
  cases d with
  | int i =>
   obtain ⟨t,rfl⟩:=r
   exact .int i t
  | str x =>
   obtain ⟨t,rfl⟩:=r
   exact .str x t
  | _=>exact absurd h.1 (by simp [flatD])
end Fl
namespace Xc
open PySem PySem.Spec PyProof.Rows L2
theorem exm_two {K : PySem.W.Frag} {S C : Addr} {b : Bool} (h1 : PySem.W.subIn K (.ref S) (.type "BaseException") = some true) (h2 : PySem.W.isClsIn K S = true) (h3 : PySem.W.typeIn K (.ref S) = some (.type "type")) (h4 : PySem.W.subIn K (.ref C) (.ref S) = some b) : PySem.W.exmOne K (.ref C) (.ref S) = some b:=by
 have a1 : (PySem.W.subIn K (.ref S) (.type "BaseException") == some true) = true:=by rw [h1] <;> rfl
 have a2 : ((PySem.W.clsIn K S).isSome && PySem.W.typeIn K (.ref S) == some (.type "type")) = true:=by
  have h2' : (PySem.W.clsIn K S).isSome = true:=h2
  rw [h2',h3] <;> rfl
 show (if (PySem.W.subIn K (.ref S) (.type "BaseException") == some true) = true then (if ((PySem.W.clsIn K S).isSome && PySem.W.typeIn K (.ref S) == some (.type "type")) = true then PySem.W.subIn K (.ref C) (.ref S) else none) else none) = some b
 rw [if_pos a1,if_pos a2,h4]
end Xc
section
variable {P : Program} {w : World} {K : PySem.W.Frag} {mg : Str→Option Value} {base : Heap} {af : Nat→Addr} {fd : Nat→FuncData}
def sp_l_spread : Sp:=fun vs H Q _=>∃ (c a : Int),vs = [.int c,.int a]∧0≤a∧∀ r : Int,0≤r→Q (.int r) H
theorem ok_l_spread (T : Txt K mg af fd) : FnOk P w K mg base CX0 1 (af 35) (fd 35) ["cell", "at"] sp_l_spread:=by
 refine T.F_l_spread.ok sc_l_spread (fun vs H Q E h=>?_) (fun cdv A outer s H vs Q E hr h=>?_)
 ·obtain ⟨c,a,rfl,_⟩:=h
  rfl
 ·obtain ⟨c,a,rfl,ha,q⟩:=h
  refine ⟨_,(pss_cons (ps_if (pt_cmpR op_ge (pv 0) (pe_op op_pow pe_int pe_int) (nomark _)) (pss_one (ps_ret (pv 0))) pss_nil)
    (pss_cons (ps_set (i:=2) sc_l_spread.nd rfl (by first | exact Or.inl rfl | exact Or.inr rfl) (pe_op op_mod (pe_op op_add (pe_op op_add (pe_op op_mul (pe_op op_mod (pv 0) pe_int) pe_int) (pe_op op_mul (pv 1) pe_int)) pe_int) pe_int))
    (pss_cons (ps_set (i:=3) sc_l_spread.nd rfl (by first | exact Or.inl rfl | exact Or.inr rfl) (pe_op op_mod (pe_op op_add (pe_op op_add (pe_op op_mul (pv 2) (pv 2)) (pe_op op_mul (pv 1) pe_int)) (pe_op op_mod (pv 0) pe_int)) pe_int))
    (pss_cons (ps_set (i:=4) sc_l_spread.nd rfl (by first | exact Or.inl rfl | exact Or.inr rfl) (pe_op op_mod (pe_op op_add (pe_op op_add (pe_op op_mul (pv 3) (pv 3)) (pe_op op_mul (pv 2) pe_int)) pe_int) pe_int))
    (pss_one (ps_ret (pe_op op_add (pe_op op_mul (pe_op op_add (pe_op op_mul (pv 2) pe_int) (pv 3)) pe_int) (pv 4)))))))),?_⟩
  refine ⟨_,rfl,10,18,rfl,rfl,⟨by decide,by decide,by decide⟩,_,_,rfl,rfl,_,rfl,ite2 (fun e=>?_) (fun e=>?_)⟩
  ·refine ⟨_,rfl,q c ?_⟩
   have e1:=of_decide_eq_true e
   exact Int.le_trans (by decide) e1
  ·refine ⟨_,rfl,_,_,rfl,rfl,(by show (0 : Int) < 1000000007; decide),_,_,rfl,rfl,.inr ⟨by decide,by decide⟩,_,rfl,_,_,rfl,rfl,.inr ⟨by decide,by decide⟩,_,_,rfl,rfl,_,_,rfl,rfl,_,_,rfl,rfl,(by show (0 : Int) < 2147483629; decide),?_⟩
   have b1 : ∀ x : Int,0≤x % 2147483629∧x % 2147483629 < 2147483629:=fun x=>⟨Int.emod_nonneg _ (by decide),Int.emod_lt_of_pos _ (by decide)⟩
   generalize hx : (c % 1000000007 * 69069 + a * 40503 + 977) % 2147483629 = one
   have o1 : 0≤one∧one < 2147483629:=by rw [← hx]; exact b1 _
   refine ⟨_,rfl,_,rfl,_,_,rfl,rfl,.inl ⟨by omega,by omega⟩,_,rfl,_,_,rfl,rfl,.inr ⟨by decide,by decide⟩,_,_,rfl,rfl,_,rfl,_,_,rfl,rfl,(by show (0 : Int) < 65537; decide),_,_,rfl,rfl,_,_,rfl,rfl,(by show (0 : Int) < 2147483587; decide),?_⟩
   have b2 : ∀ x : Int,0≤x % 2147483587∧x % 2147483587 < 2147483587:=fun x=>⟨Int.emod_nonneg _ (by decide),Int.emod_lt_of_pos _ (by decide)⟩
   generalize hy : (one * one + a * 7919 + c % 65537) % 2147483587 = two
   have o2 : 0≤two∧two < 2147483587:=by rw [← hy]; exact b2 _
   refine ⟨_,rfl,_,rfl,_,_,rfl,rfl,.inl ⟨by omega,by omega⟩,_,rfl,_,_,rfl,rfl,.inr ⟨by decide,by decide⟩,_,_,rfl,rfl,_,_,rfl,rfl,_,_,rfl,rfl,(by show (0 : Int) < 2147483563; decide),?_⟩
   have b3 : ∀ x : Int,0≤x % 2147483563:=fun x=>Int.emod_nonneg _ (by decide)
   generalize hz : (two * two + one * 31 + 5) % 2147483563 = three
   have o3 : 0≤three:=by rw [← hz]; exact b3 _
   refine ⟨_,rfl,_,_,rfl,rfl,.inr ⟨by decide,by decide⟩,_,rfl,_,_,rfl,rfl,_,_,rfl,rfl,.inr ⟨by decide,by decide⟩,_,rfl,_,_,rfl,rfl,q _ ?_⟩
   omega
def sp_l_take : Sp:=fun vs H Q _=>∃ (p c : Addr) (many : Int),vs = [.ref p,.int many]∧Pen H p c∧0 < many∧many.natAbs < 2 ^ 100∧∀ (r : Int) (H' : Hp),0≤r→r < many→Stp p c H H'→Q (.int r) H'
theorem ok_l_take (T : Txt K mg af fd) : FnOk P w K mg base CX0 2 (af 38) (fd 38) ["pen", "many"] sp_l_take:=by
 refine T.F_l_take.ok sc_l_take (fun vs H Q E h=>?_) (fun cdv A outer s H vs Q E hr h=>?_)
 ·obtain ⟨p,c,many,rfl,_⟩:=h
  rfl
 ·obtain ⟨p,c,many,rfl,hP,m0,m1,q⟩:=h
  have hpc:=hP.ne
  obtain ⟨cs,n,st,h1,h2,h3,h4⟩:=hP
  refine ⟨_,(C8.pss_cut (ps_if (pt_cmpR op_lt (pe_ix ix_list (pv 0) pe_int (fun _ _=>rfl)) (pv 1) (nomark _)) (pss_cons (ps_set (i:=2) sc_l_take.nd rfl (by first | exact Or.inl rfl | exact Or.inr rfl) (pe_ix ix_list (pv 0) pe_int (fun _ _=>rfl)))
    (pss_cons (ps_set (i:=3) sc_l_take.nd rfl (by first | exact Or.inl rfl | exact Or.inr rfl) pe_int)
    (C8.pss_cut (ps_if (pt_cmpR op_lt (pv 2) (pe_callB call_len_seq (by rfl) T.m_len (by decide +kernel) (pa_cons (pe_ix ix_list (pv 0) pe_int (fun _ _=>rfl)) pa_nil)) (nomark _)) (pss_one (ps_set (i:=3) sc_l_take.nd rfl (by first | exact Or.inl rfl | exact Or.inr rfl) (pe_ix ix_list (pe_ix ix_list (pv 0) pe_int (fun _ _=>rfl)) (pv 2) (fun _ _=>rfl)))) (pss_one (ps_if (pt_cmpR op_gt (pe_callB call_len_seq (by rfl) T.m_len (by decide +kernel) (pa_cons (pe_ix ix_list (pv 0) pe_int (fun _ _=>rfl)) pa_nil)) pe_int (nomark _)) (pss_one (ps_set (i:=3) sc_l_take.nd rfl (by first | exact Or.inl rfl | exact Or.inr rfl) (pe_op op_mod (pe_ix ix_list (pe_ix ix_list (pv 0) pe_int (fun _ _=>rfl)) (pe_op op_mod (pe_op op_add (pe_op op_mul (pv 2) pe_int) pe_int) (pe_callB call_len_seq (by rfl) T.m_len (by decide +kernel) (pa_cons (pe_ix ix_list (pv 0) pe_int (fun _ _=>rfl)) pa_nil))) (fun _ _=>rfl)) (pe_op op_add (pe_op op_pow pe_int pe_int) (pv 2))))) pss_nil)))
    (pss_cons (ps_asg (pe_op op_add (pv 2) pe_int) (pg_sub (pv 0) pe_int set_list))
    (pss_one (ps_asg (pe_call (ok_l_spread T) (hr.mono (by first | decide | omega)) (by rfl) T.g_l_spread T.F_l_spread.kp T.b_l_spread .nil pass0 (pa_cons (pv 3) (pa_cons (pv 2) pa_nil))) (pg_sub (pv 0) pe_int set_list))))))) pss_nil)
    (pss_cons (ps_set (i:=4) sc_l_take.nd rfl (by first | exact Or.inl rfl | exact Or.inr rfl) (pe_op op_mod (pe_ix ix_list (pv 0) pe_int (fun _ _=>rfl)) (pv 1)))
    (pss_cons (ps_asg (pe_op op_fdivW (pe_ix ix_list (pv 0) pe_int (fun _ _=>rfl)) (pv 1)) (pg_sub (pv 0) pe_int set_list))
    (pss_one (ps_ret (pv 4)))))),?_⟩
  refine ⟨fun σ' H'=>∃ (n' st' : Int) (v1 v2 : Option V),0≤n'∧0≤st'∧σ' = [some (.ref p),some (.int many),v1,v2,none]∧H' = upd H p (.lst [.ref c,.int n',.int st']),?_,?_⟩
  ·refine ⟨_,rfl,p,_,2,_,rfl,rfl,SqL.of h1,rfl,_,rfl,_,_,rfl,rfl,_,rfl,ite2 (fun e=>?_) (fun e=>?_)⟩
   ·refine ⟨_,rfl,p,_,1,_,rfl,rfl,SqL.of h1,rfl,?_⟩
    refine ⟨fun σ' H'=>∃ (x : Int),σ' = [some (.ref p),some (.int many),some (.int n),some (.int x),none]∧H' = H,?_,?_⟩
    ·refine ⟨_,rfl,_,rfl,p,_,0,_,rfl,rfl,SqL.of h1,rfl,c,_,rfl,.inl (SqL.of h2),_,_,rfl,rfl,_,rfl,ite2 (fun e2=>?_) (fun e2=>?_)⟩
     ·have e3:=of_decide_eq_true e2
      rw [List.length_map] at e3
      have hlt : n.toNat < cs.length:=by omega
      refine ⟨_,rfl,p,_,0,_,rfl,rfl,SqL.of h1,rfl,_,rfl,c,_,n,.int cs[n.toNat],rfl,rfl,SqL.of h2,at_of (j:=n.toNat) (by omega) ?_,⟨_,rfl,rfl⟩⟩
      rw [List.getElem?_map,List.getElem?_eq_getElem hlt]
      rfl
     ·refine ⟨_,rfl,p,_,0,_,rfl,rfl,SqL.of h1,rfl,c,_,rfl,.inl (SqL.of h2),_,_,rfl,rfl,_,rfl,ite2 (fun e3=>?_) (fun e3=>?_)⟩
      ·have e4:=of_decide_eq_true e3
       have hl : (0 : Int) < (cs.map V.int).length:=e4
       have hr0:=Int.emod_nonneg (n * 5 + 3) (show ((cs.map V.int).length : Int)≠0 by omega)
       have hr1:=Int.emod_lt_of_pos (n * 5 + 3) hl
       have hlt : ((n * 5 + 3) % ((cs.map V.int).length : Int)).toNat < cs.length:=by
        rw [List.length_map] at hr1 hr0 ⊢
        omega
       refine ⟨_,rfl,p,_,0,_,rfl,rfl,SqL.of h1,rfl,_,rfl,_,_,rfl,rfl,.inr ⟨by decide,by decide⟩,_,_,rfl,rfl,_,rfl,p,_,0,_,rfl,rfl,SqL.of h1,rfl,c,_,rfl,.inl (SqL.of h2),_,_,rfl,rfl,hl,c,_,_,.int cs[((n * 5 + 3) % ((cs.map V.int).length : Int)).toNat],rfl,rfl,SqL.of h2,at_of (j:=((n * 5 + 3) % ((cs.map V.int).length : Int)).toNat) (by omega) ?_,10,17,rfl,rfl,⟨by decide,by decide,by decide⟩,_,rfl,_,_,rfl,rfl,_,_,rfl,rfl,?_,⟨_,rfl,rfl⟩⟩
       ·rw [List.getElem?_map,List.getElem?_eq_getElem hlt]
        rfl
       ·show (0 : Int) < 10 ^ (17 : Int).toNat + n
        have : (0 : Int) < 10 ^ (17 : Int).toNat:=by decide
        omega
      ·exact ⟨_,rfl,rfl⟩
    ·rintro σ' H' ⟨x,rfl,rfl⟩
     refine ⟨_,rfl,_,_,rfl,rfl,_,rfl,p,_,1,1,rfl,rfl,h1,rfl,?_⟩
     refine ⟨_,rfl,_,rfl,x,n,rfl,h3,fun r hr=>?_⟩
     refine ⟨_,rfl,p,_,2,2,rfl,rfl,upd_same,rfl,?_⟩
     refine ⟨n + 1,r,_,_,by omega,hr,rfl,?_⟩
     rw [upd_upd]
     rfl
   ·refine ⟨n,st,none,none,h3,h4,rfl,?_⟩
    funext b
    by_cases hb : b = p
    ·subst hb
     rw [upd_same]
     exact h1
    ·rw [upd_ne hb]
  ·rintro σ' H' ⟨n',st',v1,v2,hn,hs,rfl,rfl⟩
   refine ⟨_,rfl,p,_,2,_,rfl,rfl,SqL.of upd_same,rfl,_,rfl,_,_,rfl,rfl,m0,?_⟩
   refine ⟨_,rfl,p,_,2,_,rfl,rfl,SqL.of upd_same,rfl,_,rfl,_,_,rfl,rfl,wide_div m0 m1 (by decide) (by decide),_,rfl,p,_,2,2,rfl,rfl,upd_same,rfl,?_⟩
   refine ⟨_,rfl,q _ _ (Int.emod_nonneg _ (by omega)) (Int.emod_lt_of_pos _ m0) ⟨⟨cs,n',st' / many,?_,?_,hn,Int.ediv_nonneg hs (by omega)⟩,fun b o hb e=>?_⟩⟩
   ·rw [upd_same]
    rfl
   ·rw [upd_ne hpc,upd_ne hpc]
    exact h2
   ·rw [upd_ne hb,upd_ne hb]
    exact e
def sp_l_open (K : PySem.W.Frag) : Sp:=fun vs H Q _=>∃ (a : Addr) (ns : List Int),vs = [.ref a]∧SqL K H a (ns.map V.int)∧ns.length≤63∧∀ (p c : Addr) (H' : Hp),Same H H'→H p = none→H c = none→Pen H' p c→Q (.ref p) H'
theorem ok_l_open (T : Txt K mg af fd) : FnOk P w K mg base CX0 1 (af 36) (fd 36) ["script"] (sp_l_open K):=by
 refine T.F_l_open.ok sc_l_open (fun vs H Q E h=>?_) (fun cdv A outer s H vs Q E hr h=>?_)
 ·obtain ⟨a,ns,rfl,_⟩:=h
  rfl
 ·obtain ⟨a,ns,rfl,hS,hlen,q⟩:=h
  refine ⟨_,(pss_cons (ps_set (i:=1) sc_l_open.nd rfl (by first | exact Or.inl rfl | exact Or.inr rfl) (pe_callTy call_list_of (by rfl) T.m_list (by decide +kernel) (pa_cons (pe_slice sl_list (pv 0) po_none (po_some pe_int)) pa_nil)))
    (pss_cons (ps_for PassesOwn.never rfl (pi_enum (by rfl) T.m_enumerate (pa_cons (pe_slice sl_list (pv 0) (po_some pe_int) (po_some pe_int)) pa_nil)) (pg_tup rfl (pgs_cons (pg_name (i:=2) sc_l_open.nd rfl (by first | exact Or.inl rfl | exact Or.inr rfl)) (pgs_cons (pg_name (i:=3) sc_l_open.nd rfl (by first | exact Or.inl rfl | exact Or.inr rfl)) pgs_nil))) (pss_one (ps_asg (pe_op op_add (pe_ix ix_list (pv 1) (pe_op op_mod (pv 2) pe_int) (fun _ _=>rfl)) (pv 3)) (pg_sub (pv 1) (pe_op op_mod (pv 2) pe_int) set_list))))
    (pss_one (ps_ret (pe_lst (pa_cons (pv 1) (pa_cons pe_int (pa_cons pe_int pa_nil)))))))),?_⟩
  refine ⟨_,rfl,12,rfl,a,_,rfl,hS,fun x nx=>⟨x,_,rfl,.inl (SqL.of upd_same),fun l nl=>?_⟩⟩
  have s1 : Same H (upd H x (.lst (cutV (ns.map V.int) none (some 12)))):=same_upd nx
  have nl0 : H l = none:=s1.free nl
  have s2 : Same H (upd (upd H x (.lst (cutV (ns.map V.int) none (some 12)))) l (.lst (cutV (ns.map V.int) none (some 12)))):=same_mut s1 nl0
  refine ⟨_,rfl,12,rfl,63,rfl,a,_,rfl,s2.seq hS,fun d nd=>⟨d,_,rfl,SqL.of upd_same,?_⟩⟩
  have nd0 : H d = none:=s2.free nd
  have hld : l≠d:=fun e=>by
   rw [← e,upd_same] at nd
   cases nd
  have it : cutV (ns.map V.int) (some 12) (some 63) = ((ns.drop 12)).map V.int:=by
   have e:=cut_mid (ns.map V.int) 12 63
   rw [show ((12 : Nat) : Int) = 12 from rfl,show ((63 : Nat) : Int) = 63 from rfl] at e
   rw [e,List.length_map]
   by_cases h12 : 12≤ns.length
   ·rw [Nat.min_eq_left h12,Nat.min_eq_right (by omega),List.take_of_length_le,List.map_drop]
    rw [List.length_drop,List.length_map]
    omega
   ·rw [Nat.min_eq_right (by omega),List.drop_of_length_le (l:=ns) (by omega),List.drop_of_length_le (by rw [List.length_map]; omega)]
    exact List.take_nil
  have ic : cutV (ns.map V.int) none (some 12) = (ns.take 12).map V.int:=by
   have e:=cut_to (ns.map V.int) 12
   rw [show ((12 : Nat) : Int) = 12 from rfl] at e
   rw [e,List.map_take]
  rw [it,ic]
  refine for_it (walk_enum (K:=K) (a:=d) (xs:=(ns.drop 12).map V.int)) (fun i σ H'=>∃ (cs : List Int) (v2 v3 : Option V),σ = [some (.ref a),some (.ref l),v2,v3]∧H' l = some (.lst (cs.map V.int))∧cs.length = min 12 ns.length∧H' d = some (.lst ((ns.drop 12).map V.int))∧Same H H')
   ⟨ns.take 12,none,none,rfl,?_,?_,upd_same,same_mut ?_ nd0⟩ (fun i σ H' _ ⟨_,_,_,_,_,_,hd,_⟩=>SqL.of hd) ?_ ?_
  ·rw [upd_ne hld,upd_same]
  ·rw [List.length_take]
  ·rw [← ic]
   exact s2
  ·rintro i v σ H' H'' hi ⟨cs,v2,v3,rfl,hl,hc,hd,sm⟩ ⟨t,x1,x2,rfl,nt,rfl,e1,e2⟩
   obtain rfl : V.int (i : Nat) = x1:=Option.some.inj e1
   have e3 : ((ns.drop 12).map V.int)[i]? = some x2:=e2
   rw [List.getElem?_map] at e3
   obtain ⟨z,hz,rfl⟩:=Option.map_eq_some_iff.mp e3
   have h12 : 12≤ns.length:=by
    rw [List.length_map,List.length_drop] at hi
    omega
   have hm0 : 0≤(i : Int) % 12:=Int.emod_nonneg _ (by decide)
   have hm1 : (i : Int) % 12 < 12:=Int.emod_lt_of_pos _ (by decide)
   have hj : ((i : Int) % 12).toNat < cs.length:=by omega
   have hl' : (upd H' t (.tup [.int (i : Nat),.int z])) l = some (.lst (cs.map V.int)):=by
    rw [upd_ne (ne_of_none hl nt)]
    exact hl
   refine ⟨t,[.int (i : Nat),.int z],rfl,SqT.of upd_same,rfl,_,_,rfl,_,_,rfl,rfl,?_⟩
   refine ⟨_,rfl,_,rfl,_,_,rfl,rfl,(by show (0 : Int) < 12; decide),l,_,_,.int cs[((i : Int) % 12).toNat],rfl,rfl,SqL.of hl',at_of (j:=((i : Int) % 12).toNat) (by omega) ?_,_,rfl,_,_,rfl,rfl,_,rfl,_,rfl,_,_,rfl,rfl,(by show (0 : Int) < 12; decide),l,_,_,((i : Int) % 12).toNat,rfl,rfl,hl',?_,?_⟩
   ·rw [List.getElem?_map,List.getElem?_eq_getElem hj]
    rfl
   ·unfold ixN
    rw [if_pos hm0,if_pos (by rw [List.length_map]; omega)]
   ·refine ⟨cs.set ((i : Int) % 12).toNat (cs[((i : Int) % 12).toNat] + z),_,_,rfl,?_,?_,?_,?_⟩
    ·rw [upd_same,← List.map_set]
    ·rw [List.length_set]
     exact hc
    ·rw [upd_ne (Ne.symm hld),upd_ne (ne_of_none hd nt)]
     exact hd
    ·exact same_mut (same_mut sm (sm.free nt)) nl0
  ·rintro σ H' ⟨cs,v2,v3,rfl,hl,hc,hd,sm⟩
   refine ⟨_,rfl,(by show 3≤sizeLine; decide),fun p np=>q p l _ (same_mut sm (sm.free np)) (sm.free np) nl0 ⟨cs,0,0,upd_same,?_,by decide,by decide⟩⟩
   rw [upd_ne (ne_of_none hl np)]
   exact hl
theorem iteFd {c A B : Prop} [Decidable c] (hc : ¬ c) (h : B) : if decide c = true then A else B:=by
 rw [decide_eq_false hc]
 exact iteF h
theorem iteTd {c A B : Prop} [Decidable c] (hc : c) (h : A) : if decide c = true then A else B:=by
 rw [decide_eq_true hc]
 exact iteT h
def sp_anew : Sp:=fun vs H Q _=>∃ (p c : Addr),vs = [.ref p]∧Pen H p c∧∀ H',Stp p c H H'→Q (.ref p) H'
theorem ok_l_anew (T : Txt K mg af fd) : FnOk P w K mg base CX0 1 (af 37) (fd 37) ["pen"] sp_anew:=by
 refine T.F_l_anew.ok sc_l_anew (fun vs H Q E h=>?_) (fun cdv A outer s H vs Q E hr h=>?_)
 ·obtain ⟨p,c,rfl,_⟩:=h
  rfl
 ·obtain ⟨p,c,rfl,hP,q⟩:=h
  have hpc:=hP.ne
  obtain ⟨cs,n,st,h1,h2,h3,h4⟩:=hP
  refine ⟨_,(pss_cons (ps_asg pe_int (pg_sub (pv 0) pe_int set_list))
    (pss_one (ps_ret (pv 0)))),?_⟩
  refine ⟨_,rfl,p,_,2,2,rfl,rfl,h1,rfl,_,rfl,q _ ⟨⟨cs,n,0,upd_same,?_,h3,Int.le_refl _⟩,fun b o nb e=>by rw [upd_ne nb]; exact e⟩⟩
  rw [upd_ne hpc]
  exact h2
def House (z : List Nat) : Prop:=1≤z.length∧z.length≤8∧∀ c∈z,97≤c∧c≤122
def nameL (base : List Nat) (way turn size k : Nat) : List Nat :=
 (base.take ((size + k * (way % 2)) % 8)).take (if way = 0 then 0 else if way = 1 then (base.take ((size + k * (way % 2)) % 8)).length else (base.take ((size + k * (way % 2)) % 8)).length / 2) ++ [97 + (turn + 3 * k) % 26] ++
 (base.take ((size + k * (way % 2)) % 8)).drop (if way = 0 then 0 else if way = 1 then (base.take ((size + k * (way % 2)) % 8)).length else (base.take ((size + k * (way % 2)) % 8)).length / 2)
theorem nameL_len {base : List Nat} {way turn size k : Nat} (hb : base.length = 7) : (nameL base way turn size k).length = (size + k * (way % 2)) % 8 + 1:=by
 unfold nameL
 rw [List.length_append,List.length_append,List.length_take,List.length_drop,List.length_take]
 have : (size + k * (way % 2)) % 8 < 8:=Nat.mod_lt _ (by decide)
 simp only [List.length_cons,List.length_nil]
 omega
theorem nameL_house {base : List Nat} {way turn size k : Nat} (hb : base.length = 7) (hl : ∀ c∈base,97≤c∧c≤122) : House (nameL base way turn size k):=by
 have e:=nameL_len (way:=way) (turn:=turn) (size:=size) (k:=k) hb
 have : (size + k * (way % 2)) % 8 < 8:=Nat.mod_lt _ (by decide)
 refine ⟨by omega,by omega,fun c hc=>?_⟩
 unfold nameL at hc
 rcases List.mem_append.mp hc with h | h
 ·rcases List.mem_append.mp h with h | h
  ·exact hl c (List.mem_of_mem_take (List.mem_of_mem_take h))
  ·have h:=List.mem_singleton.mp h
   omega
 ·exact hl c (List.mem_of_mem_take (List.mem_of_mem_drop h))
theorem nameL_inj {base : List Nat} {way turn size i j : Nat} (hb : base.length = 7) (hw : way < 3) (hi : i < 8) (hj : j < 8) (e : nameL base way turn size i = nameL base way turn size j) : i = j:=by
 by_cases h1 : way = 1
 ·subst h1
  have e1:=congrArg List.length e
  rw [nameL_len hb,nameL_len hb] at e1
  omega
 ·have h2 : way % 2 = 0:=by omega
  unfold nameL at e
  rw [h2,Nat.mul_zero,Nat.mul_zero] at e
  have e1:=List.append_cancel_right e
  have e2:=List.append_cancel_left e1
  have e3:=(List.cons.inj e2).1
  omega
theorem joinL_ones : ∀ cs : List Nat,TL.joinL [] (cs.map fun c=>[c]) = cs
 | []=>rfl
 | [_]=>rfl
 | a :: b :: r=>by
  show [a] ++ ([] ++ TL.joinL [] ((b :: r).map fun c=>[c])) = a :: b :: r
  rw [joinL_ones (b :: r)]
  rfl
theorem abc_at : ∀ i : Nat,i < 26→(Str.ofString "abcdefghijklmnopqrstuvwxyz").cps.toList[i]? = some (97 + i):=by
 have h : ∀ i : Fin 26,(Str.ofString "abcdefghijklmnopqrstuvwxyz").cps.toList[i.1]? = some (97 + i.1):=by decide +kernel
 exact fun i hi=>h ⟨i,hi⟩
theorem abc_len : (Str.ofString "abcdefghijklmnopqrstuvwxyz").length≤sizeLine:=by decide +kernel
def sp_l_names : Sp:=fun vs H Q _=>∃ (p c : Addr) (many : Int),vs = [.ref p,.int many]∧Pen H p c∧0≤many∧many≤7 ∧
 ∀ (f : Addr) (zs : List (List Nat)) (H' : Hp),Stp p c H H'→H f = none→H' f = some (.lst (zs.map fun z=>V.str (SX.S z)))→(zs.length : Int) = many→zs.Nodup→(∀ z∈zs,House z)→Q (.ref f) H'
theorem ok_l_names (T : Txt K mg af fd) : FnOk P w K mg base CX0 3 (af 39) (fd 39) ["pen", "many"] sp_l_names:=by
 refine T.F_l_names.ok sc_l_names (fun vs H Q E h=>?_) (fun cdv A outer s H vs Q E hr h=>?_)
 ·obtain ⟨p,c,many,rfl,_⟩:=h
  rfl
 ·obtain ⟨p,c,many,rfl,hP,m0,m1,q⟩:=h
  refine ⟨_,(pss_cons (ps_set (i:=2) sc_l_names.nd rfl (by first | exact Or.inl rfl | exact Or.inr rfl) pe_str)
    (pss_cons (ps_set (i:=3) sc_l_names.nd rfl (by first | exact Or.inl rfl | exact Or.inr rfl) (pe_join pe_str (pe_lc (own:=[("k", 4)]) (g:=gName 4) (by rfl) sc_l_names.nd (pi_range1 (by rfl) T.m_range (pa_cons pe_int pa_nil)) (blkOk_by (own:=[("k", 4)]) (N:=["pen", "many", "letters", "base", "k", "way", "turn", "size", "found", "sign", "part", "at"]) (sc:=defScope s_l_names) (by decide +kernel)) (fun _ _ _ _ _=>pg_name (i:=4) sc_l_names.nd rfl (Or.inl rfl)) (fun _ _ _ _ _=>pts_nil) (fun _ _ _ _ _=>(pe_ix ix_str (pv 2) (pe_call (ok_l_take T) (hr.mono (by first | decide | omega)) (by rfl) T.g_l_take T.F_l_take.kp T.b_l_take .nil pass0 (pa_cons (pv 0) (pa_cons pe_int pa_nil))) (fun _ _=>rfl))))))
    (pss_cons (ps_set (i:=5) sc_l_names.nd rfl (by first | exact Or.inl rfl | exact Or.inr rfl) (pe_call (ok_l_take T) (hr.mono (by first | decide | omega)) (by rfl) T.g_l_take T.F_l_take.kp T.b_l_take .nil pass0 (pa_cons (pv 0) (pa_cons pe_int pa_nil))))
    (pss_cons (ps_set (i:=6) sc_l_names.nd rfl (by first | exact Or.inl rfl | exact Or.inr rfl) (pe_call (ok_l_take T) (hr.mono (by first | decide | omega)) (by rfl) T.g_l_take T.F_l_take.kp T.b_l_take .nil pass0 (pa_cons (pv 0) (pa_cons pe_int pa_nil))))
    (pss_cons (ps_set (i:=7) sc_l_names.nd rfl (by first | exact Or.inl rfl | exact Or.inr rfl) (pe_call (ok_l_take T) (hr.mono (by first | decide | omega)) (by rfl) T.g_l_take T.F_l_take.kp T.b_l_take .nil pass0 (pa_cons (pv 0) (pa_cons pe_int pa_nil))))
    (pss_cons (ps_set (i:=8) sc_l_names.nd rfl (by first | exact Or.inl rfl | exact Or.inr rfl) (pe_lst pa_nil))
    (pss_cons (ps_for PassesOwn.never rfl (pi_range1 (by rfl) T.m_range (pa_cons (pv 1) pa_nil)) (pg_name (i:=4) sc_l_names.nd rfl (by first | exact Or.inl rfl | exact Or.inr rfl)) (pss_cons (ps_set (i:=9) sc_l_names.nd rfl (by first | exact Or.inl rfl | exact Or.inr rfl) (pe_ix ix_str (pv 2) (pe_op op_mod (pe_op op_add (pv 6) (pe_op op_mul pe_int (pv 4))) pe_int) (fun _ _=>rfl)))
    (pss_cons (ps_set (i:=10) sc_l_names.nd rfl (by first | exact Or.inl rfl | exact Or.inr rfl) (pe_slice sl_str (pv 3) po_none (po_some (pe_op op_mod (pe_op op_add (pv 7) (pe_op op_mul (pv 4) (pe_op op_mod (pv 5) pe_int))) pe_int))))
    (pss_cons (ps_set (i:=11) sc_l_names.nd rfl (by first | exact Or.inl rfl | exact Or.inr rfl) (pe_ix ix_list (pe_lst (pa_cons pe_int (pa_cons (pe_callB call_len_str (by rfl) T.m_len (by decide +kernel) (pa_cons (pv 10) pa_nil)) (pa_cons (pe_op op_fdiv (pe_callB call_len_str (by rfl) T.m_len (by decide +kernel) (pa_cons (pv 10) pa_nil)) pe_int) pa_nil)))) (pv 5) (fun _ _=>rfl)))
    (pss_one (ps_expr (pe_bm PySem.F.plainAttrs_list PySem.F.slot_list_append PySem.F.type_list_append mt_append (pv 8) (pa_cons (pe_op op_add_str (pe_op op_add_str (pe_slice sl_str (pv 10) po_none (po_some (pv 11))) (pv 9)) (pe_slice sl_str (pv 10) (po_some (pv 11)) po_none)) pa_nil))))))))
    (pss_one (ps_ret (pv 8)))))))))),?_⟩
  -- base = ''.join([..])
  refine ⟨⟨_,rfl⟩,7,rfl,by decide,by decide,fun D nD=>lc_range (lo:=0) (n:=7) (fun i H'=>Stp p c H H'∧∃ cs : List Nat,H' D = some (.lst (cs.map fun c=>V.str (SX.S [c])))∧cs.length = i∧∀ c∈cs,97≤c∧c≤122)
   ⟨(Stp.refl hP).new hP nD,[],upd_same,rfl,fun _ h=>nomatch h⟩ ?_ ?_⟩
  ·rintro i H1 hi ⟨s1,cs,hD,hl,hc⟩
   refine ⟨rfl,yes_if ?_⟩
   refine ⟨_,rfl,_,rfl,p,c,26,rfl,s1.1,by decide,by decide,fun r H2 r0 r1 s2=>?_⟩
   have hD2 : H2 D = some (.lst (cs.map fun c=>V.str (SX.S [c]))):=s2.2 D _ (fun e=>hP.neP nD e.symm) hD
   refine ⟨_,r,97 + r.toNat,rfl,rfl,abc_len,at_any (z:=r) (j:=r.toNat) (by omega) (abc_at r.toNat (by omega)),_,hD2,?_,(s1.trans s2).mut hP nD,cs ++ [97 + r.toNat],?_,?_,?_⟩
   ·rw [List.length_map]
    exact small1000 (by omega)
   ·rw [upd_same,List.map_append]
    rfl
   ·rw [List.length_append,hl]
    rfl
   ·intro x hx
    rcases List.mem_append.mp hx with h | h
    ·exact hc x h
    ·have h:=List.mem_singleton.mp h
     omega
  ·rintro H1 ⟨s1,bs,hD,hl,hc⟩
   have hD' : H1 D = some (.lst ((bs.map fun c=>SX.S [c]).map V.str)):=by rw [hD,List.map_map]; rfl
   refine ⟨_,D,(bs.map fun c=>SX.S [c]),rfl,rfl,.inl (SqL.of hD'),?_,?_⟩
   ·have e1 : ((bs.map fun c=>SX.S [c]).map (·.length)).sum = bs.length:=by
     rw [List.map_map]
     have : ((fun z : Str=>z.length) ∘ fun c=>SX.S [c]) = fun _=>1:=funext fun c=>SX.S_len [c]
     rw [this,List.map_const',List.sum_replicate_nat]
     omega
    rw [e1,List.length_map,hl]
    decide
   have ej : Txt.join (Str.ofString "") (bs.map fun c=>SX.S [c]) = SX.S bs:=by
    have e2:=SX.join_S [] (bs.map fun c=>[c])
    rw [List.map_map,joinL_ones] at e2
    exact e2
   rw [ej]
   refine ⟨_,rfl,p,c,3,rfl,s1.1,by decide,by decide,fun way H2 w0 w1 s2=>?_⟩
   refine ⟨_,rfl,p,c,26,rfl,s2.1,by decide,by decide,fun turn H3 t0 t1 s3=>?_⟩
   refine ⟨_,rfl,p,c,8,rfl,s3.1,by decide,by decide,fun size H4 z0 z1 s4=>?_⟩
   have sA : Stp p c H H4:=((s1.trans s2).trans s3).trans s4
   refine ⟨Nat.zero_le _,fun f nf=>?_⟩
   have nf0 : H f = none:=sA.back hP nf
   refine ⟨_,rfl,many,rfl,by omega,by omega,for_range (lo:=0) (n:=many.toNat) (fun i σ H'=>∃ v9 v10 v11 v12 : Option V,σ = [some (.ref p),some (.int many),some (.str (Str.ofString "abcdefghijklmnopqrstuvwxyz")),some (.str (SX.S bs)),v12,some (.int way),some (.int turn),some (.int size),some (.ref f),v9,v10,v11]∧Stp p c H H'∧H' f = some (.lst (((List.range i).map (nameL bs way.toNat turn.toNat size.toNat)).map fun z=>V.str (SX.S z))))
    ⟨none,none,none,none,rfl,sA.mut hP nf0,upd_same⟩ ?_ ?_⟩
   ·rintro i σ H5 hi ⟨v9,v10,v11,v12,rfl,s5,hf⟩
    have hi7 : i < 7:=by omega
    have wt : (way.toNat : Int) = way:=by omega
    have tt : (turn.toNat : Int) = turn:=by omega
    have zt : (size.toNat : Int) = size:=by omega
    have ew : way % 2 = ((way.toNat % 2 : Nat) : Int):=by omega
    have w20 : 0≤way % 2:=by omega
    have w21 : way % 2 < 2:=by omega
    have es : (turn + 3 * (0 + (i : Int))) % 26 = (((turn.toNat + 3 * i) % 26 : Nat) : Int):=by omega
    refine ⟨_,rfl,_,rfl,_,rfl,_,_,rfl,rfl,.inl ⟨by decide,by decide⟩,_,_,rfl,rfl,_,_,rfl,rfl,(by show (0 : Int) < 26; decide),_,_,97 + (turn.toNat + 3 * i) % 26,rfl,rfl,abc_len,at_any es (abc_at _ (Nat.mod_lt _ (by decide))),?_⟩
    refine ⟨_,rfl,_,rfl,_,rfl,_,rfl,_,_,rfl,rfl,(by show (0 : Int) < 2; decide),_,_,rfl,rfl,.inr ⟨by omega,by omega⟩,_,_,rfl,rfl,_,_,rfl,rfl,(by show (0 : Int) < 8; decide),_,rfl,SX.S bs,rfl,?_,?_⟩
    ·rw [SX.S_len,hl]
     decide
    have ep : (size + (0 + (i : Int)) * (way % 2)) % 8 = (((size.toNat + i * (way.toNat % 2)) % 8 : Nat) : Int):=by
     rw [ew,Int.zero_add,← zt,← Int.natCast_mul,← Int.natCast_add]
     rfl
    have ecut : cutS (SX.S bs) none (some ((size + (0 + (i : Int)) * (way % 2)) % 8)) = SX.S (bs.take ((size.toNat + i * (way.toNat % 2)) % 8)):=by
     rw [C8.cutS_slice,SX.slice_to (by rw [ep]; exact Int.natCast_nonneg _),ep,Int.toNat_natCast]
    rw [ecut]
    have hpl : (SX.S (bs.take ((size.toNat + i * (way.toNat % 2)) % 8))).length≤7:=by
     rw [SX.S_len,List.length_take,hl]
     omega
    generalize hpart : bs.take ((size.toNat + i * (way.toNat % 2)) % 8) = part at hpl ⊢
    have hps : (SX.S part).length≤sizeLine:=Nat.le_trans hpl (by decide)
    refine ⟨_,rfl,_,rfl,hps,_,rfl,_,rfl,hps,_,_,rfl,rfl,⟨by decide,by decide⟩,(by show 3≤sizeLine; decide),fun l nl=>?_⟩
    have hlf : f≠l:=ne_of_none hf nl
    obtain ⟨a,ha,ea⟩ : ∃ a : Nat,atI [V.int 0,V.int ((SX.S part).length : Int),V.int (((SX.S part).length : Int) / 2)] way = some (.int (a : Int))∧a = (if way.toNat = 0 then 0 else if way.toNat = 1 then part.length else part.length / 2):=by
     rw [SX.S_len]
     have hw3 : way = 0∨way = 1∨way = 2:=by omega
     rcases hw3 with e | e | e
     ·subst e
      exact ⟨0,rfl,rfl⟩
     ·subst e
      exact ⟨part.length,rfl,rfl⟩
     ·subst e
      exact ⟨part.length / 2,rfl,rfl⟩
    refine ⟨_,rfl,l,_,way,_,rfl,rfl,SqL.of upd_same,ha,?_⟩
    have hf5 : (upd H5 l (.lst [V.int 0,V.int ((SX.S part).length : Int),V.int (((SX.S part).length : Int) / 2)])) f = some (.lst (((List.range i).map (nameL bs way.toNat turn.toNat size.toNat)).map fun z=>V.str (SX.S z))):=by
     rw [upd_ne hlf]
     exact hf
    have hp7 : part.length≤7:=by
     rw [SX.S_len] at hpl
     exact hpl
    have e1 : cutS (SX.S part) none (some (a : Int)) = SX.S (part.take a):=by
     rw [C8.cutS_slice,SX.slice_to (Int.natCast_nonneg _),Int.toNat_natCast]
    have e2 : cutS (SX.S part) (some (a : Int)) none = SX.S (part.drop a):=by
     rw [C8.cutS_slice,SX.slice_from (Int.natCast_nonneg _),Int.toNat_natCast]
    refine ⟨_,rfl,.inl ⟨rfl,_,SqL.of hf5⟩,_,rfl,_,rfl,_,rfl,_,rfl,hps,_,rfl,_,_,rfl,rfl,?_,_,rfl,_,rfl,_,rfl,_,rfl,hps,_,_,rfl,rfl,?_,f,_,_,rfl,rfl,hf5,?_,?_⟩
    ·rw [e1]
     show (SX.S (part.take a)).length + (SX.S [97 + (turn.toNat + 3 * i) % 26]).length≤sizeLine
     rw [SX.S_len,SX.S_len,List.length_take]
     exact Nat.le_trans (show _≤8 by simp only [List.length_cons,List.length_nil]; omega) (by decide)
    ·rw [e1,e2]
     show (SX.S (part.take a) ++ SX.S [97 + (turn.toNat + 3 * i) % 26]).length + (SX.S (part.drop a)).length≤sizeLine
     rw [SX.S_cat,SX.S_len,SX.S_len,List.length_append,List.length_take,List.length_drop]
     exact Nat.le_trans (show _≤8 by simp only [List.length_cons,List.length_nil]; omega) (by decide)
    ·rw [List.length_map,List.length_map,List.length_range]
     exact small1000 (by omega)
    ·refine ⟨_,_,_,_,rfl,(s5.new hP nl).mut hP nf0,?_⟩
     rw [upd_same,e1,e2,List.range_succ,List.map_append,List.map_append]
     have e3 : SX.S (part.take a) ++ SX.S [97 + (turn.toNat + 3 * i) % 26] ++ SX.S (part.drop a) = SX.S (nameL bs way.toNat turn.toNat size.toNat i):=by
      rw [SX.S_cat,SX.S_cat]
      unfold nameL
      rw [hpart,← ea]
     show some (HO.lst (_ ++ [V.str (SX.S (part.take a) ++ SX.S [97 + (turn.toNat + 3 * i) % 26] ++ SX.S (part.drop a))])) = _
     rw [e3]
     rfl
   ·rintro σ H5 ⟨v9,v10,v11,v12,rfl,s5,hf⟩
    refine ⟨_,rfl,q f ((List.range many.toNat).map (nameL bs way.toNat turn.toNat size.toNat)) H5 s5 nf0 hf ?_ ?_ ?_⟩
    ·rw [List.length_map,List.length_range]
     omega
    ·refine List.pairwise_map.mpr (List.Pairwise.imp_of_mem ?_ (List.nodup_range (n:=many.toNat)))
     intro a b ha hb ne e
     have ha:=List.mem_range.mp ha
     have hb:=List.mem_range.mp hb
     exact ne (nameL_inj hl (by omega) (by omega) (by omega) e)
    ·intro z hz
     obtain ⟨k,_,rfl⟩:=List.mem_map.mp hz
     exact nameL_house hl hc
def HouseS (h : Str) : Prop:=House h.cps.toList
theorem HouseS.ok {z : Str} (h : HouseS z) : PyData.strOk z = true:=by
 obtain ⟨h1,h2,h3⟩:=h
 unfold PyData.strOk
 rw [← Array.all_toList,List.all_eq_true]
 intro c hc
 have:=h3 c hc
 exact decide_eq_true (by omega)
theorem canLay_strs : ∀ {hs : List Str},(∀ h∈hs,PyData.strOk h = true)→PyData.canLayAll0 (hs.map PyData.str) = true
 | [],_=>rfl
 | h :: r,a=>by
  show (PyData.strOk h && PyData.canLayAll0 (r.map PyData.str)) = true
  rw [a h List.mem_cons_self,canLay_strs fun x hx=>a x (List.mem_cons_of_mem _ hx)]
  rfl
theorem depth_strs : ∀ {hs : List Str},PyData.depthAll (hs.map PyData.str) = 0
 | []=>rfl
 | h :: r=>by
  show max 0 (PyData.depthAll (r.map PyData.str)) = 0
  rw [depth_strs]
  rfl
theorem shaped_strs {hs : List Str} (a : ∀ h∈hs,PyData.strOk h = true) : SeqAt.shaped (.list (hs.map PyData.str)) = true:=by
 unfold SeqAt.shaped
 rw [Bool.and_eq_true,decide_eq_true_eq]
 refine ⟨canLay_strs a,?_⟩
 show PyData.depthAll (hs.map PyData.str) + 1≤64
 rw [depth_strs]
 decide
theorem dp_strs {H : Hp} : ∀ hs : List Str,DpAll K H (hs.map V.str) (hs.map PyData.str)
 | []=>.nil
 | h :: r=>.cons (.str h) (dp_strs r)
def TownAt (H : Hp) (t : Addr) (hs gs : List Str) : Prop:=∃ a b : Addr,H t = some (.tup [.ref a,.ref b])∧H a = some (.tup (hs.map V.str))∧H b = some (.tup (gs.map V.str))
theorem Stp.town {p c t : Addr} {H H' : Hp} {hs gs : List Str} (s : Stp p c H H') (h : Pen H p c) (ht : TownAt H t hs gs) : TownAt H' t hs gs:=by
 obtain ⟨a,b,h1,h2,h3⟩:=ht
 exact ⟨a,b,s.tup h h1,s.tup h h2,s.tup h h3⟩
structure Good (hs gs : List Str) (most : Nat) : Prop where
 one : 1≤hs.length
 few : hs.length≤most
 nd : hs.Nodup
 up : sortedS hs = true
 hou : ∀ h∈hs,HouseS h
 sub : gs.Sublist hs
def sp_l_town : Sp:=fun vs H Q _=>∃ (p c : Addr) (most : Nat),vs = [.ref p,.int most]∧Pen H p c∧1≤most∧most≤6 ∧
 ∀ (t : Addr) (hs gs : List Str) (H' : Hp),Stp p c H H'→TownAt H' t hs gs→Good hs gs most→Q (.ref t) H'
theorem ok_l_town (T : Txt K mg af fd) : FnOk P w K mg base CX0 4 (af 40) (fd 40) ["pen", "most"] sp_l_town:=by
 refine T.F_l_town.ok sc_l_town (fun vs H Q E h=>?_) (fun cdv A outer s H vs Q E hr h=>?_)
 ·obtain ⟨p,c,most,rfl,_⟩:=h
  rfl
 ·obtain ⟨p,c,most,rfl,hP,m1,m6,q⟩:=h
  refine ⟨_,(pss_cons (ps_set (i:=2) sc_l_town.nd rfl (by first | exact Or.inl rfl | exact Or.inr rfl) (pe_callB cr_sortedS (by rfl) T.m_sorted (by decide +kernel) (pa_cons (pe_call (ok_l_names T) (hr.mono (by first | decide | omega)) (by rfl) T.g_l_names T.F_l_names.kp T.b_l_names .nil pass0 (pa_cons (pv 0) (pa_cons (pe_op op_add pe_int (pe_call (ok_l_take T) (hr.mono (by first | decide | omega)) (by rfl) T.g_l_take T.F_l_take.kp T.b_l_take .nil pass0 (pa_cons (pv 0) (pa_cons (pv 1) pa_nil)))) pa_nil))) pa_nil)))
    (pss_cons (ps_setLc (i:=3) (own:=[("house", 4)]) (g:=gName 4) (by rfl) sc_l_town.nd rfl rfl (sw_true rfl rfl rfl (by decide +kernel)) (pi_list (pv 2)) (blkOk_by (own:=[("house", 4)]) (N:=["pen", "most", "houses", "gates", "house"]) (sc:=defScope s_l_town) (by decide +kernel)) (fun _ _ _ _ _=>pg_name (i:=4) sc_l_town.nd rfl (Or.inl rfl)) (fun _ _ _ _ _=>(pts_one (pt_cmpR op_gt (pe_call (ok_l_take T) (hr.mono (by first | decide | omega)) (by rfl) T.g_l_take T.F_l_take.kp T.b_l_take .nil pass0 (pa_cons (pv 0) (pa_cons pe_int pa_nil))) pe_int (nomark _)))) (fun _ _ _ _ _=>(pv 4)))
    (C8.pss_cut (ps_if (PW.pt (pw_and (pt_cmpR (op_eqD hr.units) (pv 3) (pe_lst pa_nil) (nomark _)) (pw_and1 (pt_cmpR op_gt (pe_call (ok_l_take T) (hr.mono (by first | decide | omega)) (by rfl) T.g_l_take T.F_l_take.kp T.b_l_take .nil pass0 (pa_cons (pv 0) (pa_cons pe_int pa_nil))) pe_int (nomark _))))) (pss_one (ps_set (i:=3) sc_l_town.nd rfl (by first | exact Or.inl rfl | exact Or.inr rfl) (pe_slice sl_list (pv 2) po_none (po_some pe_int)))) pss_nil)
    (pss_one (ps_ret (pe_tup (pa_cons (pe_callTy call_tuple_of (by rfl) T.m_tuple (by decide +kernel) (pa_cons (pv 2) pa_nil)) (pa_cons (pe_callTy call_tuple_of (by rfl) T.m_tuple (by decide +kernel) (pa_cons (pv 3) pa_nil)) pa_nil)))))))),?_⟩
  refine ⟨_,rfl,_,rfl,_,rfl,p,c,most,rfl,hP,by omega,Nat.lt_of_le_of_lt (show _≤6 by omega) (by decide),fun r H1 r0 r1 s1=>?_⟩
  refine ⟨_,_,rfl,rfl,p,c,_,rfl,s1.1,by omega,by omega,fun f zs H2 s2 nf hf hl nd hh=>?_⟩
  have s12:=s1.trans s2
  have hf' : H2 f = some (.lst ((zs.map SX.S).map V.str)):=by rw [hf,List.map_map]; rfl
  refine ⟨f,zs.map SX.S,rfl,SqL.of hf',by rw [List.length_map]; omega,fun hs d pm up nd1=>?_⟩
  have hlen : hs.length = zs.length:=by rw [pm.length_eq,List.length_map]
  have hnd : hs.Nodup:=pm.nodup_iff.mpr (List.pairwise_map.mpr (nd.imp fun ne e=>ne (SX.S_inj e)))
  have hho : ∀ h∈hs,HouseS h:=fun h m=>by
   obtain ⟨z,mz,rfl⟩:=List.mem_map.mp (pm.mem_iff.mp m)
   exact hh z mz
  have nd0 : H d = none:=s12.back hP nd1
  have s3 : Stp p c H (upd H2 d (.lst (hs.map V.str))):=s12.mut hP nd0
  -- gates
  refine ⟨_,rfl,d,rfl,⟨_,SqL.of upd_same⟩,fun D nD=>?_⟩
  have nD0 : H D = none:=s3.back hP nD
  have hdD : d≠D:=fun e=>by
   rw [← e,upd_same] at nD
   cases nD
  refine lc_list (K:=K) (a:=d) (xs:=hs.map V.str) (fun i H'=>Stp p c H H'∧H' d = some (.lst (hs.map V.str))∧∃ gs : List Str,H' D = some (.lst (gs.map V.str))∧gs.Sublist (hs.take i))
   ⟨s3.mut hP nD0,by rw [upd_ne hdD,upd_same],[],upd_same,List.nil_sublist _⟩ (fun i H' _ h=>SqL.of h.2.1) ?_ ?_
  ·rintro i x H3 hx ⟨s4,hd,gs,hD,hg⟩
   rw [List.getElem?_map] at hx
   obtain ⟨h,hh,rfl⟩:=Option.map_eq_some_iff.mp hx
   have etake : hs.take (i + 1) = hs.take i ++ [h]:=by rw [List.take_add_one,hh]; rfl
   refine ⟨rfl,_,rfl,p,c,3,rfl,s4.1,by decide,by decide,fun r H4 r0 r1 s5=>?_⟩
   have hd4 : H4 d = some (.lst (hs.map V.str)):=s5.2 d _ (fun e=>hP.neP nd0 e.symm) hd
   have hD4 : H4 D = some (.lst (gs.map V.str)):=s5.2 D _ (fun e=>hP.neP nD0 e.symm) hD
   refine ⟨_,_,rfl,rfl,_,rfl,ite2 (fun e=>?_) (fun e=>?_)⟩
   ·refine ⟨_,rfl,_,hD4,?_,(s4.trans s5).mut hP nD0,by rw [upd_ne hdD]; exact hd4,gs ++ [h],?_,?_⟩
    ·rw [List.length_map]
     exact small1000 (Nat.le_trans (hg.length_le) (by rw [List.length_take]; omega))
    ·rw [upd_same,List.map_append]
     rfl
    ·rw [etake]
     exact hg.append (List.Sublist.refl _)
   ·refine ⟨s4.trans s5,hd4,gs,hD4,?_⟩
    rw [etake]
    exact hg.trans (List.sublist_append_left _ _)
  ·rintro H3 ⟨s4,hd,gs,hD,hg⟩
   rw [List.length_map,List.take_length] at hg
   have hgo : ∀ h∈gs,PyData.strOk h = true:=fun h m=>(hho h (hg.subset m)).ok
   refine ⟨fun σ' H'=>∃ (g : Addr) (gs : List Str),σ' = [some (.ref p),some (.int most),some (.ref d),some (.ref g),none]∧Stp p c H H'∧H' d = some (.lst (hs.map V.str))∧H' g = some (.lst (gs.map V.str))∧gs.Sublist hs,?_,?_⟩
   ·refine ⟨_,rfl,Nat.zero_le _,fun e ne=>?_⟩
    have s5 : Stp p c H (upd H3 e (.lst [])):=s4.new hP ne
    have hd5 : (upd H3 e (.lst [])) d = some (.lst (hs.map V.str)):=by rw [upd_ne (ne_of_none hd ne)]; exact hd
    have hD5 : (upd H3 e (.lst [])) D = some (.lst (gs.map V.str)):=by rw [upd_ne (ne_of_none hD ne)]; exact hD
    refine ⟨.list (gs.map PyData.str),.list [],Dp.lst (SqL.of hD5) (dp_strs gs),Dp.lst (SqL.of upd_same) .nil,shaped_strs hgo,rfl,_,rfl,ite2 (fun e=>?_) (fun e=>?_)⟩
    ·refine ⟨_,rfl,p,c,4,rfl,s5.1,by decide,by decide,fun r H4 r0 r1 s6=>?_⟩
     have hd6 : H4 d = some (.lst (hs.map V.str)):=s6.2 d _ (fun e=>hP.neP nd0 e.symm) hd5
     have hD6 : H4 D = some (.lst (gs.map V.str)):=s6.2 D _ (fun e=>hP.neP nD0 e.symm) hD5
     refine ⟨_,_,rfl,rfl,_,rfl,ite2 (fun e=>?_) (fun e=>?_)⟩
     ·refine ⟨_,rfl,1,rfl,d,_,rfl,SqL.of hd6,fun g ng=>⟨g,hs.take 1,rfl,(s5.trans s6).new hP ng,?_,?_,List.take_sublist _ _⟩⟩
      ·rw [upd_ne (ne_of_none hd6 ng)]
       exact hd6
      ·rw [upd_same]
       have e:=cut_to (hs.map V.str) 1
       rw [show ((1 : Nat) : Int) = 1 from rfl] at e
       rw [e,List.map_take]
     ·exact ⟨D,gs,rfl,s5.trans s6,hd6,hD6,hg⟩
    ·exact ⟨D,gs,rfl,s5,hd5,hD5,hg⟩
   ·rintro σ' H' ⟨g,gs,rfl,s5,hd,hg,hsub⟩
    refine ⟨_,rfl,d,_,rfl,.inl ⟨SqL.of hd,fun a na=>?_⟩⟩
    have hg1 : (upd H' a (.tup (hs.map V.str))) g = some (.lst (gs.map V.str)):=by rw [upd_ne (ne_of_none hg na)]; exact hg
    refine ⟨_,rfl,g,_,rfl,.inl ⟨SqL.of hg1,fun b nb=>?_⟩⟩
    have s6 : Stp p c H (upd H' a (.tup (hs.map V.str))):=s5.new hP na
    have s7:=s6.new (o:=.tup (gs.map V.str)) hP nb
    have hab : a≠b:=fun e=>by
     rw [← e,upd_same] at nb
     cases nb
    refine ⟨(by show 2≤sizeLine; decide),fun t nt=>?_⟩
    have hta : a≠t:=fun e=>by
     rw [← e,upd_ne hab,upd_same] at nt
     cases nt
    have htb : b≠t:=fun e=>by
     rw [← e,upd_same] at nt
     cases nt
    refine q t hs gs _ (s7.new hP nt) ⟨a,b,upd_same,?_,?_⟩ ⟨?_,?_,hnd,up,hho,hsub⟩
    ·rw [upd_ne hta,upd_ne hab,upd_same]
    ·rw [upd_ne htb,upd_same]
    ·omega
    ·omega
theorem pick_house {hs : List Str} {r : Int} (h0 : 0≤r) (h1 : r < (hs.map V.str).length) : ∃ h,h∈hs∧atI (hs.map V.str) r = some (.str h):=by
 rw [List.length_map] at h1
 have hlt : r.toNat < hs.length:=by omega
 refine ⟨hs[r.toNat],List.getElem_mem hlt,at_any (j:=r.toNat) (by omega) ?_⟩
 rw [List.getElem?_map,List.getElem?_eq_getElem hlt]
 rfl
theorem TownAt.same' {t : Addr} {H H' : Hp} {hs gs : List Str} (h : TownAt H t hs gs) (s : Same H H') : TownAt H' t hs gs:=by
 obtain ⟨a,b,h1,h2,h3⟩:=h
 exact ⟨a,b,s _ _ h1,s _ _ h2,s _ _ h3⟩
def TimeI (a : Int) : Prop:=-1000000000000≤a∧a≤1000000000000
inductive RowV (hs : List Str) : List V→Prop
 | ask (h g : Str) (k n o b : Int) : h∈hs→g∈hs→0≤k→k≤14→0≤n→n≤14→TimeI o→TimeI b→o≤b→RowV hs [.str "ask", .str h,.int k,.int n,.str g,.int o,.int b]
 | job (h : Str) (k o b : Int) : h∈hs→0≤k→k≤14→TimeI o→TimeI b→o≤b→RowV hs [.str "job", .str h,.int k,.int o,.int b]
 | all (h : Str) (a j : Int) : h∈hs→0≤a→a≤15→0≤j→j≤15→RowV hs [.str "all", .str h,.int a,.int j]
mutual
inductive Dq (Ex : Addr→Prop) (H : Hp) : V→PyData→Prop
 | non : Dq Ex H .non .none
 | bl (b : Bool) : Dq Ex H (.bl b) (.bool b)
 | int (i : Int) : Dq Ex H (.int i) (.int i)
 | str (x : Str) : Dq Ex H (.str x) (.str x)
 | lst {a : Addr} {xs : List V} {ds : List PyData} : ¬ Ex a→H a = some (.lst xs)→Dqs Ex H xs ds→Dq Ex H (.ref a) (.list ds)
 | tup {a : Addr} {xs : List V} {ds : List PyData} : H a = some (.tup xs)→Dqs Ex H xs ds→Dq Ex H (.ref a) (.tuple ds)
inductive Dqs (Ex : Addr→Prop) (H : Hp) : List V→List PyData→Prop
 | nil : Dqs Ex H [] []
 | cons {v : V} {vs : List V} {d : PyData} {ds : List PyData} : Dq Ex H v d→Dqs Ex H vs ds→Dqs Ex H (v :: vs) (d :: ds)
end
mutual
theorem Dq.go {Ex Ey : Addr→Prop} {H H' : Hp} (he : ∀ a,Ey a→¬ Ex a→H a = none) (hl : ∀ a xs,¬ Ex a→H a = some (.lst xs)→H' a = some (.lst xs)) (ht : ∀ a xs,H a = some (.tup xs)→H' a = some (.tup xs)) : ∀ {v : V} {d : PyData},Dq Ex H v d→Dq Ey H' v d
 | _,_,.non=>.non
 | _,_,.bl b=>.bl b
 | _,_,.int i=>.int i
 | _,_,.str x=>.str x
 | _,_,.lst n h r=>.lst (fun z=>by rw [he _ z n] at h; cases h) (hl _ _ n h) (Dqs.go he hl ht r)
 | _,_,.tup h r=>.tup (ht _ _ h) (Dqs.go he hl ht r)
theorem Dqs.go {Ex Ey : Addr→Prop} {H H' : Hp} (he : ∀ a,Ey a→¬ Ex a→H a = none) (hl : ∀ a xs,¬ Ex a→H a = some (.lst xs)→H' a = some (.lst xs)) (ht : ∀ a xs,H a = some (.tup xs)→H' a = some (.tup xs)) : ∀ {vs : List V} {ds : List PyData},Dqs Ex H vs ds→Dqs Ey H' vs ds
 | _,_,.nil=>.nil
 | _,_,.cons h r=>.cons (Dq.go he hl ht h) (Dqs.go he hl ht r)
end
mutual
theorem Dq.dp {K : PySem.W.Frag} {Ex : Addr→Prop} {H : Hp} : ∀ {v : V} {d : PyData},Dq Ex H v d→Dp K H v d
 | _,_,.non=>.non
 | _,_,.bl b=>.bl b
 | _,_,.int i=>.int i
 | _,_,.str x=>.str x
 | _,_,.lst _ h r=>.lst (SqL.of h) (Dqs.dp r)
 | _,_,.tup h r=>.tup (SqT.of h) (Dqs.dp r)
theorem Dqs.dp {K : PySem.W.Frag} {Ex : Addr→Prop} {H : Hp} : ∀ {vs : List V} {ds : List PyData},Dqs Ex H vs ds→DpAll K H vs ds
 | _,_,.nil=>.nil
 | _,_,.cons h r=>.cons (Dq.dp h) (Dqs.dp r)
end
theorem Dqs.len {Ex : Addr→Prop} {H : Hp} : ∀ {vs : List V} {ds : List PyData},Dqs Ex H vs ds→vs.length = ds.length
 | _,_,.nil=>rfl
 | _,_,.cons _ r=>by rw [List.length_cons,List.length_cons,r.len]
theorem Dqs.get {Ex : Addr→Prop} {H : Hp} : ∀ {vs : List V} {ds : List PyData} {i : Nat} {d : PyData},Dqs Ex H vs ds→ds[i]? = some d→∃ v,vs[i]? = some v∧Dq Ex H v d
 | _,_,0,_,.cons h _,e=>⟨_,rfl,by obtain rfl:=Option.some.inj e; exact h⟩
 | _,_,_ + 1,_,.cons _ r,e=>r.get e
theorem Dqs.take {Ex : Addr→Prop} {H : Hp} : ∀ {vs : List V} {ds : List PyData} (n : Nat),Dqs Ex H vs ds→Dqs Ex H (vs.take n) (ds.take n)
 | _,_,0,_=>.nil
 | _,_,_ + 1,.nil=>.nil
 | _,_,n + 1,.cons h r=>.cons h (r.take n)
theorem Dqs.drop {Ex : Addr→Prop} {H : Hp} : ∀ {vs : List V} {ds : List PyData} (n : Nat),Dqs Ex H vs ds→Dqs Ex H (vs.drop n) (ds.drop n)
 | _,_,0,r=>r
 | _,_,_ + 1,.nil=>.nil
 | _,_,n + 1,.cons _ r=>r.drop n
theorem Dqs.app {Ex : Addr→Prop} {H : Hp} : ∀ {vs us : List V} {ds es : List PyData},Dqs Ex H vs ds→Dqs Ex H us es→Dqs Ex H (vs ++ us) (ds ++ es)
 | _,_,_,_,.nil,r=>r
 | _,_,_,_,.cons h r,q=>.cons h (r.app q)
def tyN : PyData→String
 | .none => "NoneType"
 | .bool _ => "bool"
 | .int _ => "int"
 | .str _ => "str"
 | .list _ => "list"
 | .tuple _ => "tuple"
 | .dict _ => "dict"
theorem Dq.ty {K : PySem.W.Frag} {Ex : Addr→Prop} {H : Hp} {v : V} {d : PyData} (h : Dq Ex H v d) : TyX K H v (.type (tyN d)):=by
 cases h with
 | non=>exact .base .non
 | bl b=>exact .base (.bl b)
 | int i=>exact .base (.int i)
 | str x=>exact .base (.str x)
 | lst _ h _=>exact .base (.lst h)
 | tup h _=>exact .base (.tup h)
def isB (d : PyData) (n : String) : Bool:=match d,n with
 | .bool _, "bool" => true
 | .bool _, "int" => true
 | .int _, "int" => true
 | .str _, "str" => true
 | .list _, "list" => true
 | .tuple _, "tuple" => true
 | _,_=>false
theorem isi_kit {K : PySem.W.Frag} {Ex : Addr→Prop} {H : Hp} {v : V} {d : PyData} {n : String} (h : Dq Ex H v d) (hn : n = "bool" ∨ n = "int" ∨ n = "str" ∨ n = "list" ∨ n = "tuple") : PySem.W.kitOne K (.type (tyN d)) (.type n) = some (isB d n):=by
 refine kit_ty ?_
 have key : ∀ e : PyData,(∀ kvs,e≠.dict kvs)→kitB (tyN e) n = some (isB e n):=by
  intro e he
  rcases hn with rfl | rfl | rfl | rfl | rfl <;> cases e <;> first | exact absurd rfl (he _) | rfl
 refine key d fun kvs e=>?_
 subst e
 cases h
theorem n_bool : "bool" = "bool" ∨ "bool" = "int" ∨ "bool" = "str" ∨ "bool" = "list" ∨ "bool" = "tuple" := .inl rfl
theorem n_int : "int" = "bool" ∨ "int" = "int" ∨ "int" = "str" ∨ "int" = "list" ∨ "int" = "tuple" := .inr (.inl rfl)
theorem n_str : "str" = "bool" ∨ "str" = "int" ∨ "str" = "str" ∨ "str" = "list" ∨ "str" = "tuple" := .inr (.inr (.inl rfl))
theorem n_list : "list" = "bool" ∨ "list" = "int" ∨ "list" = "str" ∨ "list" = "list" ∨ "list" = "tuple" := .inr (.inr (.inr (.inl rfl)))
theorem n_tuple : "tuple" = "bool" ∨ "tuple" = "int" ∨ "tuple" = "str" ∨ "tuple" = "list" ∨ "tuple" = "tuple" := .inr (.inr (.inr (.inr rfl)))
def rNotInTD (K : PySem.W.Frag) : R2:=fun x y H Q=>∃ d ds,Dp K H x d∧Dp K H y (.tuple ds)∧SeqAt.shaped d = true∧SeqAt.shaped (.tuple ds) = true∧Q (.bl (!ds.any fun z=>PyData.eqv z d)) H
theorem op_notInTD {X : Cx} (hu : X.A.units + 65 < cLine) : OpR X (compareOp .NotIn) (rNotInTD X.K):=by
 intro pins s σ H x y v u Q I rx ry h
 obtain ⟨d,ds,hd,he,sd,se,q⟩:=h
 obtain ⟨as,r1⟩:=Dp.reads I d x v hd rx
 obtain ⟨bs,r2⟩:=Dp.reads I (.tuple ds) y u he ry
 exact SeqAt.notIn_tuple_reads r2 r1 (SeqAt.canLay_of_shaped se) (SeqAt.canLay_of_shaped sd) (room_in_shaped sd hu) ⟨.bl _,H,I,rfl,q⟩
theorem eqv_str {d : PyData} {x : Str} : PyData.eqv d (.str x) = true↔d = .str x:=by
 cases d <;> simp [PyData.eqv]
theorem eqv_str' {d : PyData} {x : Str} : PyData.eqv (.str x) d = true↔d = .str x:=by
 cases d <;> simp [PyData.eqv]
 exact ⟨fun e=>e.symm,fun e=>e.symm⟩
theorem any_strs {hs : List Str} {d : PyData} : ((hs.map PyData.str).any fun z=>PyData.eqv z d) = true↔∃ h∈hs,d = .str h:=by
 rw [List.any_map,List.any_eq_true]
 constructor
 ·rintro ⟨h,m,e⟩
  exact ⟨h,m,eqv_str'.mp e⟩
 ·rintro ⟨h,m,e⟩
  exact ⟨h,m,eqv_str'.mpr e⟩
def Sh (d : PyData) : Prop:=d.canLay0 = true∧d.depth≤60
theorem Sh.shaped {d : PyData} (h : Sh d) : SeqAt.shaped d = true:=by
 unfold SeqAt.shaped
 rw [h.1,Bool.true_and]
 exact decide_eq_true (Nat.le_trans h.2 (by decide))
theorem sh_all : ∀ {ds : List PyData},PyData.canLayAll0 ds = true→PyData.depthAll ds≤59→∀ d∈ds,Sh d
 | x :: xs,h1,h2,d,hd=>by
  have h1' : (x.canLay0 && PyData.canLayAll0 xs) = true:=h1
  rw [Bool.and_eq_true] at h1'
  have h2' : max x.depth (PyData.depthAll xs)≤59:=h2
  rcases List.mem_cons.mp hd with e | m
  ·subst e
   exact ⟨h1'.1,by omega⟩
  ·exact sh_all h1'.2 (by omega) d m
theorem Sh.items {ds : List PyData} (h : Sh (.tuple ds)) : ∀ d∈ds,Sh d:=sh_all h.1 (Nat.le_of_succ_le_succ h.2)
theorem Dq.same {Ex : Addr→Prop} {H H' : Hp} {v : V} {d : PyData} (h : Dq Ex H v d) (s : Same H H') : Dq Ex H' v d:=h.go (fun _ a b=>absurd a b) (fun _ _ _ e=>s _ _ e) (fun _ _ e=>s _ _ e)
theorem Dqs.same {Ex : Addr→Prop} {H H' : Hp} {v : List V} {d : List PyData} (h : Dqs Ex H v d) (s : Same H H') : Dqs Ex H' v d:=h.go (fun _ a b=>absurd a b) (fun _ _ _ e=>s _ _ e) (fun _ _ e=>s _ _ e)
inductive Row where
 | ask (h g : Str) (k n o b : Int)
 | job (h : Str) (k o b : Int)
 | all (h : Str) (a j : Int)
 deriving DecidableEq
def Row.data : Row→List PyData
 | .ask h g k n o b=>[.str "ask", .str h,.int k,.int n,.str g,.int o,.int b]
 | .job h k o b=>[.str "job", .str h,.int k,.int o,.int b]
 | .all h a j=>[.str "all", .str h,.int a,.int j]
def Row.vals (r : Row) : List V:=r.data.map Fl.dV
def Row.h : Row→Str
 | .ask h _ _ _ _ _=>h
 | .job h _ _ _=>h
 | .all h _ _=>h
def Row.word : Row→Str
 | .ask _ _ _ _ _ _ => "ask"
 | .job _ _ _ _ => "job"
 | .all _ _ _ => "all"
def NumI (k : Int) : Prop:=0≤k∧k≤14
def CntI (k : Int) : Prop:=0≤k∧k≤15
def Row.Wf : Row→Prop
 | .ask h g k n o b=>PyData.strOk h = true∧PyData.strOk g = true∧NumI k∧NumI n∧TimeI o∧TimeI b∧o≤b
 | .job h k o b=>PyData.strOk h = true∧NumI k∧TimeI o∧TimeI b∧o≤b
 | .all h a j=>PyData.strOk h = true∧CntI a∧CntI j
def Row.In (hs : List Str) : Row→Prop
 | .ask h g _ _ _ _=>h∈hs∧g∈hs
 | .job h _ _ _=>h∈hs
 | .all h _ _=>h∈hs
theorem RowV.row {hs : List Str} {xs : List V} (hh : ∀ h∈hs,HouseS h) (x : RowV hs xs) : ∃ r : Row,xs = r.vals∧r.Wf∧r.In hs:=by
 cases x with
 | ask h g k n o b mh mg k0 k1 n0 n1 to tb ob=>exact ⟨.ask h g k n o b,rfl,⟨(hh h mh).ok,(hh g mg).ok,⟨k0,k1⟩,⟨n0,n1⟩,to,tb,ob⟩,mh,mg⟩
 | job h k o b mh k0 k1 to tb ob=>exact ⟨.job h k o b,rfl,⟨(hh h mh).ok,⟨k0,k1⟩,to,tb,ob⟩,mh⟩
 | all h a j mh a0 a1 j0 j1=>exact ⟨.all h a j,rfl,⟨(hh h mh).ok,⟨a0,a1⟩,⟨j0,j1⟩⟩,mh⟩
def RowAt (H : Hp) (a : Addr) (r : Row) : Prop:=H a = some (.tup r.vals)
theorem RowAt.t {H : Hp} {a : Addr} {r : Row} (h : RowAt H a r) : SqT K H a r.vals:=SqT.of h
theorem at0 (r : Row) : atI r.vals 0 = some (.str r.word):=by cases r <;> rfl
theorem at1 (r : Row) : atI r.vals 1 = some (.str r.h):=by cases r <;> rfl
theorem dp_row {H : Hp} (r : Row) : DpAll K H r.vals r.data:=by
 cases r with
 | ask h g k n o b=>exact .cons (.str _) (.cons (.str _) (.cons (.int _) (.cons (.int _) (.cons (.str _) (.cons (.int _) (.cons (.int _) .nil))))))
 | job h k o b=>exact .cons (.str _) (.cons (.str _) (.cons (.int _) (.cons (.int _) (.cons (.int _) .nil))))
 | all h a j=>exact .cons (.str _) (.cons (.str _) (.cons (.int _) (.cons (.int _) .nil)))
theorem RowAt.dp {H : Hp} {a : Addr} {r : Row} (h : RowAt H a r) : Dp K H (.ref a) (.tuple r.data):=Dp.tup h.t (dp_row r)
theorem Row.Wf.sh {r : Row} (h : r.Wf) : SeqAt.shaped (.tuple r.data) = true:=by
 unfold SeqAt.shaped
 rw [Bool.and_eq_true]
 cases r with
 | ask h' g k n o b =>
  refine ⟨?_,rfl⟩
  show (PyData.strOk "ask" && (PyData.strOk h' && (true && (true && (PyData.strOk g && (true && (true && true))))))) = true
  rw [h.1,h.2.1]
  decide +kernel
 | job h' k o b =>
  refine ⟨?_,rfl⟩
  show (PyData.strOk "job" && (PyData.strOk h' && (true && (true && (true && true))))) = true
  rw [h.1]
  decide +kernel
 | all h' a j =>
  refine ⟨?_,rfl⟩
  show (PyData.strOk "all" && (PyData.strOk h' && (true && (true && true)))) = true
  rw [h.1]
  decide +kernel
theorem row_eqv (x y : Row) : PyData.eqv (.tuple x.data) (.tuple y.data) = decide (x = y):=by
 have n1 : ((("ask" : Str)) == ("job" : Str)) = false:=by decide +kernel
 have n2 : ((("ask" : Str)) == ("all" : Str)) = false:=by decide +kernel
 have n3 : ((("job" : Str)) == ("ask" : Str)) = false:=by decide +kernel
 have n4 : ((("job" : Str)) == ("all" : Str)) = false:=by decide +kernel
 have n5 : ((("all" : Str)) == ("ask" : Str)) = false:=by decide +kernel
 have n6 : ((("all" : Str)) == ("job" : Str)) = false:=by decide +kernel
 have bdS : ∀ a b : Str,(a == b) = decide (a = b):=fun a b=>by by_cases h : a = b <;> simp [h]
 have bdI : ∀ a b : Int,(a == b) = decide (a = b):=fun a b=>by by_cases h : a = b <;> simp [h]
 cases x <;> cases y <;> simp [Row.data,PyData.eqv,PyData.eqvAll,n1,n2,n3,n4,n5,n6,bdS,bdI]
 rename_i h g k n o b h' g' k' n' o' b'
 generalize decide (h = h') = c1
 generalize decide (g = g') = c2
 generalize decide (k = k') = c3
 generalize decide (n = n') = c4
 cases c1 <;> cases c2 <;> cases c3 <;> cases c4 <;> rfl
theorem ff {p : Prop} (h : ¬ p) : (false = true↔p):=⟨fun z=>Bool.noConfusion z,fun z=>absurd z h⟩
theorem tt {p : Prop} (h : p) : (true = true↔p):=⟨fun _=>h,fun _=>rfl⟩
theorem w_aj : ("ask" : Str)≠("job" : Str):=by decide +kernel
theorem w_aa : ("ask" : Str)≠("all" : Str):=by decide +kernel
theorem w_ja : ("job" : Str)≠("all" : Str):=by decide +kernel
theorem dstr {a b : Str} (h : a≠b) : decide (V.str a = V.str b) = false:=decide_eq_false fun e=>h (V.str.inj e)
theorem dstrT (a : Str) : decide (V.str a = V.str a) = true:=decide_eq_true rfl
theorem row_flat (r : Row) : r.data.all Fl.flatD = true:=by cases r <;> rfl
def ClashP : Row→Row→Prop
 | .ask h g k n o b,.ask h' g' k' n' o' b'=>h = h'∧¬ (Row.ask h g k n o b = .ask h' g' k' n' o' b')∧(k = k'∨(k < k'∧o' < o)∨(k' < k∧o < o'))
 | .job h k o b,.job h' k' o' b'=>h = h'∧¬ (Row.job h k o b = .job h' k' o' b')∧(k = k'∨(k < k'∧o' < o)∨(k' < k∧o < o'))
 | .all h a j,.all h' a' j'=>h = h'∧¬ (Row.all h a j = .all h' a' j')
 | .job h k o b,.ask h' _ _ n o' b'=>h = h'∧((k≤n∧o'≤o)∨(k = n∧b≤b'))
 | .ask h' _ _ n o' b',.job h k o b=>h = h'∧((k≤n∧o'≤o)∨(k = n∧b≤b'))
 | .all h a j,.ask h' _ k n _ _=>h = h'∧(a≤k∨j≤n)
 | .ask h' _ k n _ _,.all h a j=>h = h'∧(a≤k∨j≤n)
 | .all h _ j,.job h' k _ _=>h = h'∧j≤k
 | .job h' k _ _,.all h _ j=>h = h'∧j≤k
def sp_is_out_of_order : Sp:=fun vs H Q _=>∃ (a t b u : Int),vs = [.int a,.int t,.int b,.int u]∧∀ r : Bool,(r = true↔((a < b∧u < t)∨(¬ a < b∧t < u)))→Q (.bl r) H
theorem ok_is_out_of_order (T : Txt K mg af fd) : FnOk P w K mg base CX0 1 (af 9) (fd 9) ["number", "time", "other_number", "other_time"] sp_is_out_of_order:=by
 refine T.F_is_out_of_order.ok sc_is_out_of_order (fun vs H Q E h=>?_) (fun cdv A outer s H vs Q E hr h=>?_)
 ·obtain ⟨a,t,b,u,rfl,_⟩:=h
  rfl
 ·obtain ⟨a,t,b,u,rfl,q⟩:=h
  refine ⟨_,(pss_cons (ps_if (pt_cmpR op_lt (pv 0) (pv 2) (nomark _)) (pss_one (ps_ret (pe_cmpR op_gt (pv 1) (pv 3) (nomark _)))) pss_nil)
    (pss_one (ps_ret (pe_cmpR op_lt (pv 1) (pv 3) (nomark _))))),?_⟩
  refine ⟨_,rfl,_,rfl,_,_,rfl,rfl,_,rfl,ite2 (fun e=>?_) (fun e=>?_)⟩
  ·refine ⟨_,rfl,_,rfl,_,_,rfl,rfl,q _ ?_⟩
   have e1:=of_decide_eq_true e
   rw [decide_eq_true_eq]
   omega
  ·refine ⟨_,rfl,_,rfl,_,_,rfl,rfl,q _ ?_⟩
   have e1 : ¬ a < b:=fun h=>e (decide_eq_true h)
   rw [decide_eq_true_eq]
   omega
def sp_do_asks_clash : Sp:=fun vs H Q _=>∃ (x y : Addr) (h g : Str) (k n o b : Int) (h' g' : Str) (k' n' o' b' : Int),vs = [.ref x,.ref y]∧RowAt H x (.ask h g k n o b)∧RowAt H y (.ask h' g' k' n' o' b')∧∀ r : Bool,(r = true↔(k = k'∨(k < k'∧o' < o)∨(k' < k∧o < o')))→Q (.bl r) H
theorem ok_do_asks_clash (T : Txt K mg af fd) : FnOk P w K mg base CX0 2 (af 10) (fd 10) ["one", "other"] sp_do_asks_clash:=by
 refine T.F_do_asks_clash.ok sc_do_asks_clash (fun vs H Q E h=>?_) (fun cdv A outer s H vs Q E hr h=>?_)
 ·obtain ⟨x,y,h,g,k,n,o,b,h',g',k',n',o',b',rfl,_⟩:=h
  rfl
 ·obtain ⟨x,y,h,g,k,n,o,b,h',g',k',n',o',b',rfl,hx,hy,q⟩:=h
  refine ⟨_,(pss_cons (ps_par (i:=2) (j:=3) (by rfl) sc_do_asks_clash.nd rfl rfl (by decide) rfl rfl (pa_cons (pe_ix ix_tup (pv 0) pe_int (fun _ _=>rfl)) (pa_cons (pe_ix ix_tup (pv 0) pe_int (fun _ _=>rfl)) pa_nil)) (by rfl))
    (pss_cons (ps_par (i:=4) (j:=5) (by rfl) sc_do_asks_clash.nd rfl rfl (by decide) rfl rfl (pa_cons (pe_ix ix_tup (pv 1) pe_int (fun _ _=>rfl)) (pa_cons (pe_ix ix_tup (pv 1) pe_int (fun _ _=>rfl)) pa_nil)) (by rfl))
    (pss_one (ps_ret (pe_or (pe_cmpR op_eq (pv 2) (pv 4) (nomark _)) (pe_one (pe_call (ok_is_out_of_order T) (hr.mono (by first | decide | omega)) (by rfl) T.g_is_out_of_order T.F_is_out_of_order.kp T.b_is_out_of_order .nil pass0 (pa_cons (pv 2) (pa_cons (pv 3) (pa_cons (pv 4) (pa_cons (pv 5) pa_nil))))))))))),?_⟩
  refine ⟨_,rfl,x,_,2,_,rfl,rfl,hx.t,rfl,_,rfl,x,_,5,_,rfl,rfl,hx.t,rfl,_,_,rfl,?_⟩
  refine ⟨_,rfl,y,_,2,_,rfl,rfl,hy.t,rfl,_,rfl,y,_,5,_,rfl,rfl,hy.t,rfl,_,_,rfl,?_⟩
  refine ⟨_,rfl,_,rfl,rfl,_,rfl,ite2 (fun e=>?_) (fun e=>?_)⟩
  ·have e1:=V.int.inj (of_decide_eq_true e)
   exact q true ⟨fun _=>.inl e1,fun _=>rfl⟩
  ·have e1 : ¬ k = k':=fun z=>e (decide_eq_true (congrArg V.int z))
   refine ⟨_,rfl,_,rfl,_,rfl,_,rfl,k,o,k',o',rfl,fun r hr=>q r ?_⟩
   rw [hr]
   omega
def sp_do_jobs_clash : Sp:=fun vs H Q _=>∃ (x y : Addr) (h : Str) (k o b : Int) (h' : Str) (k' o' b' : Int),vs = [.ref x,.ref y]∧RowAt H x (.job h k o b)∧RowAt H y (.job h' k' o' b')∧∀ r : Bool,(r = true↔(k = k'∨(k < k'∧o' < o)∨(k' < k∧o < o')))→Q (.bl r) H
theorem ok_do_jobs_clash (T : Txt K mg af fd) : FnOk P w K mg base CX0 2 (af 11) (fd 11) ["one", "other"] sp_do_jobs_clash:=by
 refine T.F_do_jobs_clash.ok sc_do_jobs_clash (fun vs H Q E h=>?_) (fun cdv A outer s H vs Q E hr h=>?_)
 ·obtain ⟨x,y,h,k,o,b,h',k',o',b',rfl,_⟩:=h
  rfl
 ·obtain ⟨x,y,h,k,o,b,h',k',o',b',rfl,hx,hy,q⟩:=h
  refine ⟨_,(pss_cons (ps_par (i:=2) (j:=3) (by rfl) sc_do_jobs_clash.nd rfl rfl (by decide) rfl rfl (pa_cons (pe_ix ix_tup (pv 0) pe_int (fun _ _=>rfl)) (pa_cons (pe_ix ix_tup (pv 0) pe_int (fun _ _=>rfl)) pa_nil)) (by rfl))
    (pss_cons (ps_par (i:=4) (j:=5) (by rfl) sc_do_jobs_clash.nd rfl rfl (by decide) rfl rfl (pa_cons (pe_ix ix_tup (pv 1) pe_int (fun _ _=>rfl)) (pa_cons (pe_ix ix_tup (pv 1) pe_int (fun _ _=>rfl)) pa_nil)) (by rfl))
    (pss_one (ps_ret (pe_or (pe_cmpR op_eq (pv 2) (pv 4) (nomark _)) (pe_one (pe_call (ok_is_out_of_order T) (hr.mono (by first | decide | omega)) (by rfl) T.g_is_out_of_order T.F_is_out_of_order.kp T.b_is_out_of_order .nil pass0 (pa_cons (pv 2) (pa_cons (pv 3) (pa_cons (pv 4) (pa_cons (pv 5) pa_nil))))))))))),?_⟩
  refine ⟨_,rfl,x,_,2,_,rfl,rfl,hx.t,rfl,_,rfl,x,_,3,_,rfl,rfl,hx.t,rfl,_,_,rfl,?_⟩
  refine ⟨_,rfl,y,_,2,_,rfl,rfl,hy.t,rfl,_,rfl,y,_,3,_,rfl,rfl,hy.t,rfl,_,_,rfl,?_⟩
  refine ⟨_,rfl,_,rfl,rfl,_,rfl,ite2 (fun e=>?_) (fun e=>?_)⟩
  ·have e1:=V.int.inj (of_decide_eq_true e)
   exact q true ⟨fun _=>.inl e1,fun _=>rfl⟩
  ·have e1 : ¬ k = k':=fun z=>e (decide_eq_true (congrArg V.int z))
   refine ⟨_,rfl,_,rfl,_,rfl,_,rfl,k,o,k',o',rfl,fun r hr=>q r ?_⟩
   rw [hr]
   omega
def sp_do_job_and_ask_clash : Sp:=fun vs H Q _=>∃ (x y : Addr) (h : Str) (k o b : Int) (h' g' : Str) (k' n' o' b' : Int),vs = [.ref x,.ref y]∧RowAt H x (.job h k o b)∧RowAt H y (.ask h' g' k' n' o' b')∧∀ r : Bool,(r = true↔((k≤n'∧o'≤o)∨(k = n'∧b≤b')))→Q (.bl r) H
theorem ok_do_job_and_ask_clash (T : Txt K mg af fd) : FnOk P w K mg base CX0 1 (af 12) (fd 12) ["job", "ask"] sp_do_job_and_ask_clash:=by
 refine T.F_do_job_and_ask_clash.ok sc_do_job_and_ask_clash (fun vs H Q E h=>?_) (fun cdv A outer s H vs Q E hr h=>?_)
 ·obtain ⟨x,y,h,k,o,b,h',g',k',n',o',b',rfl,_⟩:=h
  rfl
 ·obtain ⟨x,y,h,k,o,b,h',g',k',n',o',b',rfl,hx,hy,q⟩:=h
  refine ⟨_,(pss_cons (ps_par3 (i:=2) (j:=3) (l:=4) (by rfl) sc_do_job_and_ask_clash.nd rfl rfl rfl (by decide) (by decide) (by decide) rfl rfl rfl (pa_cons (pe_ix ix_tup (pv 0) pe_int (fun _ _=>rfl)) (pa_cons (pe_ix ix_tup (pv 0) pe_int (fun _ _=>rfl)) (pa_cons (pe_ix ix_tup (pv 0) pe_int (fun _ _=>rfl)) pa_nil))) (by rfl))
    (pss_cons (ps_par3 (i:=5) (j:=6) (l:=7) (by rfl) sc_do_job_and_ask_clash.nd rfl rfl rfl (by decide) (by decide) (by decide) rfl rfl rfl (pa_cons (pe_ix ix_tup (pv 1) pe_int (fun _ _=>rfl)) (pa_cons (pe_ix ix_tup (pv 1) pe_int (fun _ _=>rfl)) (pa_cons (pe_ix ix_tup (pv 1) pe_int (fun _ _=>rfl)) pa_nil))) (by rfl))
    (pss_cons (ps_if (PW.pt (pw_and (pt_cmpR op_le (pv 2) (pv 5) (nomark _)) (pw_and1 (pt_cmpR op_ge (pv 3) (pv 6) (nomark _))))) (pss_one (ps_ret pe_bl)) pss_nil)
    (pss_one (ps_ret (pe_and (pe_cmpR op_eq (pv 2) (pv 5) (nomark _)) (pe_one (pe_cmpR op_le (pv 4) (pv 7) (nomark _))))))))),?_⟩
  refine ⟨_,rfl,x,_,2,_,rfl,rfl,hx.t,rfl,_,rfl,x,_,3,_,rfl,rfl,hx.t,rfl,_,rfl,x,_,4,_,rfl,rfl,hx.t,rfl,_,_,_,rfl,?_⟩
  refine ⟨_,rfl,y,_,3,_,rfl,rfl,hy.t,rfl,_,rfl,y,_,5,_,rfl,rfl,hy.t,rfl,_,rfl,y,_,6,_,rfl,rfl,hy.t,rfl,_,_,_,rfl,?_⟩
  refine ⟨_,rfl,_,rfl,_,_,rfl,rfl,_,rfl,ite2 (fun e=>?_) (fun e=>?_)⟩
  ·have e1:=of_decide_eq_true e
   refine ⟨_,rfl,_,rfl,_,_,rfl,rfl,_,rfl,ite2 (fun e2=>?_) (fun e2=>?_)⟩
   ·have e3:=of_decide_eq_true e2
    exact q true ⟨fun _=>.inl ⟨e1,e3⟩,fun _=>rfl⟩
   ·have e3 : ¬ o'≤o:=fun z=>e2 (decide_eq_true z)
    refine ⟨_,rfl,_,rfl,rfl,_,rfl,ite2 (fun e4=>?_) (fun e4=>?_)⟩
    ·have e5:=V.int.inj (of_decide_eq_true e4)
     refine ⟨_,rfl,_,rfl,_,_,rfl,rfl,q _ ?_⟩
     rw [decide_eq_true_eq]
     omega
    ·have e5 : ¬ k = n':=fun z=>e4 (decide_eq_true (congrArg V.int z))
     exact q false (ff (by omega))
  ·have e1 : ¬ k≤n':=fun z=>e (decide_eq_true z)
   refine iteF ?_
   refine ⟨_,rfl,_,rfl,rfl,_,rfl,ite2 (fun e4=>?_) (fun e4=>?_)⟩
   ·have e5:=V.int.inj (of_decide_eq_true e4)
    omega
   ·have e5 : ¬ k = n':=fun z=>e4 (decide_eq_true (congrArg V.int z))
    exact q false (ff (by omega))
def AllP (a j : Int) : Row→Prop
 | .ask _ _ k n _ _=>a≤k∨j≤n
 | .job _ k _ _=>j≤k
 | .all _ _ _=>False
def sp_does_all_row_clash : Sp:=fun vs H Q _=>∃ (x y : Addr) (h : Str) (a j : Int) (r : Row),vs = [.ref x,.ref y]∧RowAt H x (.all h a j)∧RowAt H y r∧r.word ≠ "all" ∧ ∀ b : Bool,(b = true↔AllP a j r)→Q (.bl b) H
theorem ok_does_all_row_clash (T : Txt K mg af fd) : FnOk P w K mg base CX0 1 (af 13) (fd 13) ["all_row", "other"] sp_does_all_row_clash:=by
 refine T.F_does_all_row_clash.ok sc_does_all_row_clash (fun vs H Q E h=>?_) (fun cdv A outer s H vs Q E hr h=>?_)
 ·obtain ⟨x,y,h,a,j,r,rfl,_⟩:=h
  rfl
 ·obtain ⟨x,y,h,a,j,r,rfl,hx,hy,hw,q⟩:=h
  refine ⟨_,(pss_cons (ps_par (i:=2) (j:=3) (by rfl) sc_does_all_row_clash.nd rfl rfl (by decide) rfl rfl (pa_cons (pe_ix ix_tup (pv 0) pe_int (fun _ _=>rfl)) (pa_cons (pe_ix ix_tup (pv 0) pe_int (fun _ _=>rfl)) pa_nil)) (by rfl))
    (pss_cons (ps_if (pt_cmpR op_eq (pe_ix ix_tup (pv 1) pe_int (fun _ _=>rfl)) pe_str (nomark _)) (pss_one (ps_ret (pe_or (pe_cmpR op_ge (pe_ix ix_tup (pv 1) pe_int (fun _ _=>rfl)) (pv 2) (nomark _)) (pe_one (pe_cmpR op_ge (pe_ix ix_tup (pv 1) pe_int (fun _ _=>rfl)) (pv 3) (nomark _)))))) pss_nil)
    (pss_one (ps_ret (pe_cmpR op_ge (pe_ix ix_tup (pv 1) pe_int (fun _ _=>rfl)) (pv 3) (nomark _)))))),?_⟩
  refine ⟨_,rfl,x,_,2,_,rfl,rfl,hx.t,rfl,_,rfl,x,_,3,_,rfl,rfl,hx.t,rfl,_,_,rfl,?_⟩
  refine ⟨_,rfl,y,_,0,_,rfl,rfl,hy.t,at0 r,rfl,_,rfl,?_⟩
  cases r with
  | ask h' g k n o b =>
   refine ite2 (fun e=>?_) (fun e=>absurd (dstrT "ask") e)
   refine ⟨_,rfl,y,_,2,_,rfl,rfl,hy.t,rfl,_,rfl,_,_,rfl,rfl,_,rfl,ite2 (fun e1=>?_) (fun e1=>?_)⟩
   ·have e2:=of_decide_eq_true e1
    exact q true (tt (.inl e2))
   ·have e2 : ¬ a≤k:=fun z=>e1 (decide_eq_true z)
    refine ⟨_,rfl,y,_,3,_,rfl,rfl,hy.t,rfl,_,rfl,_,_,rfl,rfl,q _ ?_⟩
    rw [decide_eq_true_eq]
    exact ⟨fun z=>.inr z,fun z=>z.resolve_left e2⟩
  | job h' k o b =>
   refine ite2 (fun e=>?_) (fun e=>?_)
   ·exact absurd (e.symm.trans (dstr (fun z=>w_aj z.symm))) (by decide)
   ·refine ⟨_,rfl,y,_,2,_,rfl,rfl,hy.t,rfl,_,rfl,_,_,rfl,rfl,q _ ?_⟩
    rw [decide_eq_true_eq]
    exact Iff.rfl
  | all h' a' j'=>exact absurd rfl hw
def sp_clash (P2 : Row→Row→Prop) (ok : Row→Row→Prop) : Sp:=fun vs H Q _=>∃ (x y : Addr) (r t : Row),vs = [.ref x,.ref y]∧RowAt H x r∧RowAt H y t∧r.Wf∧t.Wf∧ok r t∧∀ b : Bool,(b = true↔P2 r t)→Q (.bl b) H
def AlikeOk (r t : Row) : Prop:=r.word = t.word∧r.h = t.h∧r≠t
theorem ok_do_alike_sorts_clash (T : Txt K mg af fd) : FnOk P w K mg base CX0 3 (af 14) (fd 14) ["one", "other"] (sp_clash ClashP AlikeOk):=by
 refine T.F_do_alike_sorts_clash.ok sc_do_alike_sorts_clash (fun vs H Q E h=>?_) (fun cdv A outer s H vs Q E hr h=>?_)
 ·obtain ⟨x,y,r,t,rfl,_⟩:=h
  rfl
 ·obtain ⟨x,y,r,t,rfl,hx,hy,_,_,⟨hw,hh,hne⟩,q⟩:=h
  refine ⟨_,(pss_cons (ps_if (pt_cmpR op_eq (pe_ix ix_tup (pv 0) pe_int (fun _ _=>rfl)) pe_str (nomark _)) (pss_one (ps_ret (pe_call (ok_do_asks_clash T) (hr.mono (by first | decide | omega)) (by rfl) T.g_do_asks_clash T.F_do_asks_clash.kp T.b_do_asks_clash .nil pass0 (pa_cons (pv 0) (pa_cons (pv 1) pa_nil))))) pss_nil)
    (pss_cons (ps_if (pt_cmpR op_eq (pe_ix ix_tup (pv 0) pe_int (fun _ _=>rfl)) pe_str (nomark _)) (pss_one (ps_ret (pe_call (ok_do_jobs_clash T) (hr.mono (by first | decide | omega)) (by rfl) T.g_do_jobs_clash T.F_do_jobs_clash.kp T.b_do_jobs_clash .nil pass0 (pa_cons (pv 0) (pa_cons (pv 1) pa_nil))))) pss_nil)
    (pss_one (ps_ret pe_bl)))),?_⟩
  refine ⟨_,rfl,x,_,0,_,rfl,rfl,hx.t,at0 r,rfl,_,rfl,?_⟩
  cases r with
  | ask h g k n o b =>
   refine ite2 (fun e=>?_) (fun e=>absurd (dstrT "ask") e)
   cases t with
   | ask h' g' k' n' o' b' =>
    refine ⟨_,rfl,_,rfl,x,y,h,g,k,n,o,b,h',g',k',n',o',b',rfl,hx,hy,fun r hr=>q r ?_⟩
    rw [hr]
    exact ⟨fun z=>⟨hh,hne,z⟩,fun z=>z.2.2⟩
   | job h' k' o' b'=>exact absurd hw w_aj
   | all h' a' j'=>exact absurd hw w_aa
  | job h k o b =>
   refine ite2 (fun e=>absurd (e.symm.trans (dstr (fun z=>w_aj z.symm))) (by decide)) (fun e=>?_)
   refine ⟨_,rfl,x,_,0,_,rfl,rfl,hx.t,at0 _,rfl,_,rfl,ite2 (fun e=>?_) (fun e=>absurd (dstrT "job") e)⟩
   cases t with
   | ask h' g' k' n' o' b'=>exact absurd hw.symm w_aj
   | job h' k' o' b' =>
    refine ⟨_,rfl,_,rfl,x,y,h,k,o,b,h',k',o',b',rfl,hx,hy,fun r hr=>q r ?_⟩
    rw [hr]
    exact ⟨fun z=>⟨hh,hne,z⟩,fun z=>z.2.2⟩
   | all h' a' j'=>exact absurd hw w_ja
  | all h a j =>
   refine ite2 (fun e=>absurd (e.symm.trans (dstr (fun z=>w_aa z.symm))) (by decide)) (fun e=>?_)
   refine ⟨_,rfl,x,_,0,_,rfl,rfl,hx.t,at0 _,rfl,_,rfl,ite2 (fun e=>absurd (e.symm.trans (dstr (fun z=>w_ja z.symm))) (by decide)) (fun e=>?_)⟩
   cases t with
   | ask h' g' k' n' o' b'=>exact absurd hw.symm w_aa
   | job h' k' o' b'=>exact absurd hw.symm w_ja
   | all h' a' j'=>exact q true (tt ⟨hh,hne⟩)
theorem ok_do_clash (T : Txt K mg af fd) : FnOk P w K mg base CX0 4 (af 15) (fd 15) ["one", "other"] (sp_clash ClashP (fun _ _=>True)):=by
 refine T.F_do_clash.ok sc_do_clash (fun vs H Q E h=>?_) (fun cdv A outer s H vs Q E hr h=>?_)
 ·obtain ⟨x,y,r,t,rfl,_⟩:=h
  rfl
 ·obtain ⟨x,y,r,t,rfl,hx,hy,wr,wt,_,q⟩:=h
  refine ⟨_,(pss_cons (ps_if (PW.pt (pw_or (pt_cmpR op_ne (pe_ix ix_tup (pv 0) pe_int (fun _ _=>rfl)) (pe_ix ix_tup (pv 1) pe_int (fun _ _=>rfl)) (nomark _)) (pw_or1 (pt_cmpR (op_eqD hr.units) (pv 0) (pv 1) (nomark _))))) (pss_one (ps_ret pe_bl)) pss_nil)
    (pss_cons (ps_if (pt_cmpR op_eq (pe_ix ix_tup (pv 0) pe_int (fun _ _=>rfl)) (pe_ix ix_tup (pv 1) pe_int (fun _ _=>rfl)) (nomark _)) (pss_one (ps_ret (pe_call (ok_do_alike_sorts_clash T) (hr.mono (by first | decide | omega)) (by rfl) T.g_do_alike_sorts_clash T.F_do_alike_sorts_clash.kp T.b_do_alike_sorts_clash .nil pass0 (pa_cons (pv 0) (pa_cons (pv 1) pa_nil))))) pss_nil)
    (pss_cons (ps_if (pt_cmpR op_eq (pe_ix ix_tup (pv 0) pe_int (fun _ _=>rfl)) pe_str (nomark _)) (pss_one (ps_ret (pe_call (ok_does_all_row_clash T) (hr.mono (by first | decide | omega)) (by rfl) T.g_does_all_row_clash T.F_does_all_row_clash.kp T.b_does_all_row_clash .nil pass0 (pa_cons (pv 0) (pa_cons (pv 1) pa_nil))))) pss_nil)
    (pss_cons (ps_if (pt_cmpR op_eq (pe_ix ix_tup (pv 1) pe_int (fun _ _=>rfl)) pe_str (nomark _)) (pss_one (ps_ret (pe_call (ok_does_all_row_clash T) (hr.mono (by first | decide | omega)) (by rfl) T.g_does_all_row_clash T.F_does_all_row_clash.kp T.b_does_all_row_clash .nil pass0 (pa_cons (pv 1) (pa_cons (pv 0) pa_nil))))) pss_nil)
    (pss_cons (ps_if (pt_cmpR op_eq (pe_ix ix_tup (pv 0) pe_int (fun _ _=>rfl)) pe_str (nomark _)) (pss_one (ps_ret (pe_call (ok_do_job_and_ask_clash T) (hr.mono (by first | decide | omega)) (by rfl) T.g_do_job_and_ask_clash T.F_do_job_and_ask_clash.kp T.b_do_job_and_ask_clash .nil pass0 (pa_cons (pv 0) (pa_cons (pv 1) pa_nil))))) pss_nil)
    (pss_one (ps_ret (pe_call (ok_do_job_and_ask_clash T) (hr.mono (by first | decide | omega)) (by rfl) T.g_do_job_and_ask_clash T.F_do_job_and_ask_clash.kp T.b_do_job_and_ask_clash .nil pass0 (pa_cons (pv 1) (pa_cons (pv 0) pa_nil)))))))))),?_⟩
  refine ⟨_,rfl,x,_,1,_,rfl,rfl,hx.t,at1 r,_,rfl,y,_,1,_,rfl,rfl,hy.t,at1 t,rfl,_,rfl,ite2 (fun e=>iteT ?_) (fun e=>?_)⟩
  ·have hh : r.h≠t.h:=fun z=>by
    rw [z,dstrT] at e
    cases e
   refine q false (ff fun z=>hh ?_)
   cases r <;> cases t <;> first | exact z.1 | exact z.1.symm
  have hh : r.h = t.h:=by
   refine Decidable.byContradiction fun z=>e ?_
   rw [dstr z]
   rfl
  refine ⟨_,rfl,_,rfl,_,_,hx.dp,hy.dp,wr.sh,wt.sh,_,rfl,?_⟩
  rw [row_eqv]
  refine ite2 (fun e2=>?_) (fun e2=>?_)
  ·have e3:=of_decide_eq_true e2
   subst e3
   refine q false (ff fun z=>?_)
   cases r <;> first | exact z.2.1 rfl | exact z.2 rfl
  have hne : r≠t:=fun z=>e2 (decide_eq_true z)
  -- if one[0] == other[0]
  refine ⟨_,rfl,x,_,0,_,rfl,rfl,hx.t,at0 r,_,rfl,y,_,0,_,rfl,rfl,hy.t,at0 t,rfl,_,rfl,ite2 (fun e3=>?_) (fun e3=>?_)⟩
  ·have e4:=V.str.inj (of_decide_eq_true e3)
   exact ⟨_,rfl,_,rfl,x,y,r,t,rfl,hx,hy,wr,wt,⟨e4,hh,hne⟩,q⟩
  have hw : r.word≠t.word:=fun z=>e3 (decide_eq_true (congrArg V.str z))
  -- if one[0] == "all"
  refine ⟨_,rfl,x,_,0,_,rfl,rfl,hx.t,at0 r,rfl,_,rfl,ite2 (fun e5=>?_) (fun e5=>?_)⟩
  ·have e6:=V.str.inj (of_decide_eq_true e5)
   cases r with
   | ask h g k n o b=>exact absurd e6 w_aa
   | job h k o b=>exact absurd e6 w_ja
   | all h a j =>
    refine ⟨_,rfl,_,rfl,x,y,h,a,j,t,rfl,hx,hy,fun z=>hw z.symm,fun b hb=>q b ?_⟩
    rw [hb]
    cases t with
    | ask h' g' k' n' o' b'=>exact ⟨fun z=>⟨hh,z⟩,fun z=>z.2⟩
    | job h' k' o' b'=>exact ⟨fun z=>⟨hh,z⟩,fun z=>z.2⟩
    | all h' a' j'=>exact absurd rfl hw
  refine ⟨_,rfl,y,_,0,_,rfl,rfl,hy.t,at0 t,rfl,_,rfl,ite2 (fun e7=>?_) (fun e7=>?_)⟩
  ·have e6:=V.str.inj (of_decide_eq_true e7)
   cases t with
   | ask h g k n o b=>exact absurd e6 w_aa
   | job h k o b=>exact absurd e6 w_ja
   | all h a j =>
    refine ⟨_,rfl,_,rfl,y,x,h,a,j,r,rfl,hy,hx,fun z=>hw z,fun b hb=>q b ?_⟩
    rw [hb]
    cases r with
    | ask h' g' k' n' o' b'=>exact ⟨fun z=>⟨hh.symm,z⟩,fun z=>z.2⟩
    | job h' k' o' b'=>exact ⟨fun z=>⟨hh.symm,z⟩,fun z=>z.2⟩
    | all h' a' j'=>exact absurd rfl hw
  refine ⟨_,rfl,x,_,0,_,rfl,rfl,hx.t,at0 r,rfl,_,rfl,ite2 (fun e8=>?_) (fun e8=>?_)⟩
  ·have e6:=V.str.inj (of_decide_eq_true e8)
   cases r with
   | ask h g k n o b=>exact absurd e6 w_aj
   | all h a j=>exact absurd e6.symm w_ja
   | job h k o b =>
    cases t with
    | job h' k' o' b'=>exact absurd rfl hw
    | all h' a' j'=>exact absurd (dstrT "all") e7
    | ask h' g' k' n' o' b' =>
     refine ⟨_,rfl,_,rfl,x,y,h,k,o,b,h',g',k',n',o',b',rfl,hx,hy,fun r hr=>q r ?_⟩
     rw [hr]
     exact ⟨fun z=>⟨hh,z⟩,fun z=>z.2⟩
  ·cases r with
   | job h k o b=>exact absurd (dstrT "job") e8
   | all h a j=>exact absurd (dstrT "all") e5
   | ask h' g' k' n' o' b' =>
    cases t with
    | ask h2 g2 k2 n2 o2 b2=>exact absurd rfl hw
    | all h2 a2 j2=>exact absurd (dstrT "all") e7
    | job h k o b =>
     refine ⟨_,rfl,_,rfl,y,x,h,k,o,b,h',g',k',n',o',b',rfl,hy,hx,fun r hr=>q r ?_⟩
     rw [hr]
     exact ⟨fun z=>⟨hh.symm,z⟩,fun z=>z.2⟩
theorem clash_comm (r t : Row) : ClashP r t↔ClashP t r:=by
 cases r <;> cases t <;> simp only [ClashP] <;> constructor <;> intro z
 all_goals first
  | exact z
  | exact ⟨z.1.symm,fun e=>z.2.1 e.symm,by omega⟩
  | exact ⟨z.1.symm,fun e=>z.2 e.symm⟩
theorem shaped_tup_strs {hs : List Str} (a : ∀ h∈hs,PyData.strOk h = true) : SeqAt.shaped (.tuple (hs.map PyData.str)) = true:=by
 unfold SeqAt.shaped
 rw [Bool.and_eq_true,decide_eq_true_eq]
 refine ⟨canLay_strs a,?_⟩
 show PyData.depthAll (hs.map PyData.str) + 1≤64
 rw [depth_strs]
 decide
theorem hu65 {A : Around} {k : Nat} (hr : Room k A) : A.units + 65 < cLine:=by have:=hr.un; omega
theorem sh_word {w : Str} (h : PyData.strOk w = true) : SeqAt.shaped (.str w) = true:=by
 unfold SeqAt.shaped
 rw [Bool.and_eq_true]
 exact ⟨h,rfl⟩
theorem dp_tup_strs {H : Hp} {th : Addr} {hs : List Str} (h : H th = some (.tup (hs.map V.str))) : Dp K H (.ref th) (.tuple (hs.map PyData.str)):=.tup (SqT.of h) (dp_strs hs)
theorem len_ne {n m : Nat} (h : ¬ (!decide (V.int (n : Int) = V.int (m : Int))) = true) : n = m:=by
 have h2 : decide (V.int (n : Int) = V.int (m : Int)) = true:=by
  cases e : decide (V.int (n : Int) = V.int (m : Int)) with
  | true=>rfl
  | false=>exact absurd (by rw [e]; rfl) h
 have h3:=V.int.inj (of_decide_eq_true h2)
 omega
theorem len_ne' {n m : Nat} (h : (!decide (V.int (n : Int) = V.int (m : Int))) = true) : n≠m:=fun e=>by
 rw [e,decide_eq_true rfl] at h
 cases h
theorem some_int {d : PyData} (h1 : isB d "bool" = false) (h2 : isB d "int" = true) : ∃ i,d = .int i:=by
 cases d with
 | int i=>exact ⟨i,rfl⟩
 | bool b=>exact absurd h1 (by simp [isB])
 | _=>exact absurd h2 (by simp [isB])
def InI (lo hi : Int) (d : PyData) : Prop:=∃ i,d = .int i∧lo≤i∧i≤hi
def sp_is_whole_from : Sp:=fun vs H Q _=>∃ (Ex : Addr→Prop) (v : V) (d : PyData) (lo hi : Int),vs = [v,.int lo,.int hi]∧Dq Ex H v d∧∀ r : Bool,(r = true↔InI lo hi d)→Q (.bl r) H
theorem ok_is_whole_from (T : Txt K mg af fd) : FnOk P w K mg base CX0 1 (af 0) (fd 0) ["thing", "low", "high"] sp_is_whole_from:=by
 refine T.F_is_whole_from.ok sc_is_whole_from (fun vs H Q E h=>?_) (fun cdv A outer s H vs Q E hr h=>?_)
 ·obtain ⟨Ex,v,d,lo,hi,rfl,_⟩:=h
  rfl
 ·obtain ⟨Ex,v,d,lo,hi,rfl,hd,q⟩:=h
  refine ⟨_,(pss_cons (ps_if (PW.pt (pw_or (pt_val (pe_callB call_isi (by rfl) T.m_isinstance (by decide +kernel) (pa_cons (pv 0) (pa_cons (pe_bltn (v:=.ty "bool") (by rfl) T.m_bool (by decide +kernel) rfl) pa_nil)))) (pw_or1 (pt_not (pt_val (pe_callB call_isi (by rfl) T.m_isinstance (by decide +kernel) (pa_cons (pv 0) (pa_cons (pe_bltn (v:=.ty "int") (by rfl) T.m_int (by decide +kernel) rfl) pa_nil)))))))) (pss_one (ps_ret pe_bl)) pss_nil)
    (pss_one (ps_ret (pe_chain op_le op_le (pv 1) (pv 0) (pv 2))))),?_⟩
  refine ⟨_,rfl,_,_,_,_,_,rfl,.ty "bool", hd.ty,isi_kit hd n_bool,_,rfl,?_⟩
  cases e1 : isB d "bool" with
  | true =>
   refine iteT (iteT ?_)
   refine q false (ff fun ⟨i,e,_⟩=>?_)
   subst e
   exact absurd e1 (by simp [isB])
  | false =>
   refine iteF ⟨_,rfl,_,_,_,_,_,rfl,.ty "int", hd.ty,isi_kit hd n_int,_,rfl,?_⟩
   cases e2 : isB d "int" with
   | false =>
    refine iteT ?_
    refine q false (ff fun ⟨i,e,_⟩=>?_)
    subst e
    exact absurd e2 (by simp [isB])
   | true =>
    refine iteF ?_
    obtain ⟨i,rfl⟩:=some_int e1 e2
    cases hd
    refine ⟨_,rfl,_,rfl,_,_,rfl,rfl,_,rfl,ite2 (fun z=>?_) (fun z=>?_)⟩
    ·have z1:=of_decide_eq_true z
     refine ⟨_,rfl,_,_,rfl,rfl,q _ ?_⟩
     rw [decide_eq_true_eq]
     exact ⟨fun h=>⟨i,rfl,z1,h⟩,fun ⟨j,e,_,h⟩=>by obtain rfl:=PyData.int.inj e; exact h⟩
    ·exact q false (ff fun ⟨j,e,h,_⟩=>z (decide_eq_true (by obtain rfl:=PyData.int.inj e; exact h)))
def sp_in (lo hi : Int) : Sp:=fun vs H Q _=>∃ (Ex : Addr→Prop) (v : V) (d : PyData),vs = [v]∧Dq Ex H v d∧∀ r : Bool,(r = true↔InI lo hi d)→Q (.bl r) H
theorem ok_is_time (T : Txt K mg af fd) : FnOk P w K mg base CX0 2 (af 1) (fd 1) ["thing"] (sp_in (-1000000000000) 1000000000000):=by
 refine T.F_is_time.ok sc_is_time (fun vs H Q E h=>?_) (fun cdv A outer s H vs Q E hr h=>?_)
 ·obtain ⟨Ex,v,d,rfl,_⟩:=h
  rfl
 ·obtain ⟨Ex,v,d,rfl,hd,q⟩:=h
  refine ⟨_,(pss_one (ps_ret (pe_call (ok_is_whole_from T) (hr.mono (by first | decide | omega)) (by rfl) T.g_is_whole_from T.F_is_whole_from.kp T.b_is_whole_from .nil pass0 (pa_cons (pv 0) (pa_cons (pe_un un_neg (pe_glob (v:=.int (1000000000000)) rfl T.c_MOST_TIME.choose_spec ⟨_,rfl⟩)) (pa_cons (pe_glob (v:=.int (1000000000000)) rfl T.c_MOST_TIME.choose_spec ⟨_,rfl⟩) pa_nil)))))),?_⟩
  exact ⟨_,rfl,_,rfl,Ex,v,d,_,_,rfl,hd,q⟩
theorem ok_is_number (T : Txt K mg af fd) : FnOk P w K mg base CX0 2 (af 2) (fd 2) ["thing"] (sp_in 0 14):=by
 refine T.F_is_number.ok sc_is_number (fun vs H Q E h=>?_) (fun cdv A outer s H vs Q E hr h=>?_)
 ·obtain ⟨Ex,v,d,rfl,_⟩:=h
  rfl
 ·obtain ⟨Ex,v,d,rfl,hd,q⟩:=h
  refine ⟨_,(pss_one (ps_ret (pe_call (ok_is_whole_from T) (hr.mono (by first | decide | omega)) (by rfl) T.g_is_whole_from T.F_is_whole_from.kp T.b_is_whole_from .nil pass0 (pa_cons (pv 0) (pa_cons pe_int (pa_cons (pe_glob (v:=.int (14)) rfl T.c_MOST_NUMBER.choose_spec ⟨_,rfl⟩) pa_nil)))))),?_⟩
  exact ⟨_,rfl,Ex,v,d,_,_,rfl,hd,q⟩
theorem ok_is_count (T : Txt K mg af fd) : FnOk P w K mg base CX0 2 (af 3) (fd 3) ["thing"] (sp_in 0 15):=by
 refine T.F_is_count.ok sc_is_count (fun vs H Q E h=>?_) (fun cdv A outer s H vs Q E hr h=>?_)
 ·obtain ⟨Ex,v,d,rfl,_⟩:=h
  rfl
 ·obtain ⟨Ex,v,d,rfl,hd,q⟩:=h
  refine ⟨_,(pss_one (ps_ret (pe_call (ok_is_whole_from T) (hr.mono (by first | decide | omega)) (by rfl) T.g_is_whole_from T.F_is_whole_from.kp T.b_is_whole_from .nil pass0 (pa_cons (pv 0) (pa_cons pe_int (pa_cons (pe_glob (v:=.int (15)) rfl T.c_MOST_COUNT.choose_spec ⟨_,rfl⟩) pa_nil)))))),?_⟩
  exact ⟨_,rfl,Ex,v,d,_,_,rfl,hd,q⟩
def SpanD (d e : PyData) : Prop:=∃ i j,d = .int i∧e = .int j∧TimeI i∧TimeI j∧i≤j
def sp_is_span : Sp:=fun vs H Q _=>∃ (Ex : Addr→Prop) (v u : V) (d e : PyData),vs = [v,u]∧Dq Ex H v d∧Dq Ex H u e∧∀ r : Bool,(r = true↔SpanD d e)→Q (.bl r) H
theorem ok_is_span (T : Txt K mg af fd) : FnOk P w K mg base CX0 3 (af 4) (fd 4) ["low", "high"] sp_is_span:=by
 refine T.F_is_span.ok sc_is_span (fun vs H Q E h=>?_) (fun cdv A outer s H vs Q E hr h=>?_)
 ·obtain ⟨Ex,v,u,d,e,rfl,_⟩:=h
  rfl
 ·obtain ⟨Ex,v,u,d,e,rfl,hd,he,q⟩:=h
  refine ⟨_,(pss_one (ps_ret (pe_and (pe_call (ok_is_time T) (hr.mono (by first | decide | omega)) (by rfl) T.g_is_time T.F_is_time.kp T.b_is_time .nil pass0 (pa_cons (pv 0) pa_nil)) (pe_and (pe_call (ok_is_time T) (hr.mono (by first | decide | omega)) (by rfl) T.g_is_time T.F_is_time.kp T.b_is_time .nil pass0 (pa_cons (pv 1) pa_nil)) (pe_one (pe_cmpR op_le (pv 0) (pv 1) (nomark _))))))),?_⟩
  refine ⟨_,rfl,Ex,v,d,rfl,hd,fun r hr1=>⟨r,rfl,ite2 (fun z=>?_) (fun z=>?_)⟩⟩
  ·obtain ⟨i,rfl,i0,i1⟩:=hr1.mp z
   refine ⟨_,rfl,Ex,u,e,rfl,he,fun r2 hr2=>⟨r2,rfl,ite2 (fun z2=>?_) (fun z2=>?_)⟩⟩
   ·obtain ⟨j,rfl,j0,j1⟩:=hr2.mp z2
    cases hd
    cases he
    refine ⟨_,rfl,_,rfl,_,_,rfl,rfl,q _ ?_⟩
    rw [decide_eq_true_eq]
    exact ⟨fun h=>⟨i,j,rfl,rfl,⟨i0,i1⟩,⟨j0,j1⟩,h⟩,fun ⟨a,b,e1,e2,_,_,h⟩=>by obtain rfl:=PyData.int.inj e1; obtain rfl:=PyData.int.inj e2; exact h⟩
   ·exact q false (ff fun ⟨a,b,e1,e2,_,h,_⟩=>z2 (hr2.mpr ⟨b,e2,h.1,h.2⟩))
  ·exact q false (ff fun ⟨a,b,e1,e2,h,_,_⟩=>z (hr1.mpr ⟨a,e1,h.1,h.2⟩))
def Row.Bd : Row→Prop
 | .ask _ _ k n o b=>NumI k∧NumI n∧TimeI o∧TimeI b∧o≤b
 | .job _ k o b=>NumI k∧TimeI o∧TimeI b∧o≤b
 | .all _ a j=>CntI a∧CntI j
def IsRowD (hs : List Str) (d : PyData) : Prop:=∃ r : Row,d = .tuple r.data∧r.In hs∧r.Bd
def sp_kind (w : Str) : Sp:=fun vs H Q _=>∃ (Ex : Addr→Prop) (th a : Addr) (hs : List Str) (xs : List V) (ds : List PyData),vs = [.ref th,.ref a]∧H th = some (.tup (hs.map V.str))∧(∀ h∈hs,PyData.strOk h = true)∧H a = some (.tup xs)∧Dqs Ex H xs ds∧(∀ d∈ds,Sh d) ∧
 ∀ r : Bool,(r = true↔∃ x : Row,x.word = w∧ds = x.data∧x.In hs∧x.Bd)→Q (.bl r) H
theorem ok_is_ask_row (T : Txt K mg af fd) : FnOk P w K mg base CX0 4 (af 5) (fd 5) ["houses", "thing"] (sp_kind "ask"):=by
 refine T.F_is_ask_row.ok sc_is_ask_row (fun vs H Q E h=>?_) (fun cdv A outer s H vs Q E hr h=>?_)
 ·obtain ⟨Ex,th,a,hs,xs,ds,rfl,_⟩:=h
  rfl
 ·obtain ⟨Ex,th,a,hs,xs,ds,rfl,hth,hok,ha,hds,hsh,q⟩:=h
  refine ⟨_,(pss_cons (ps_if (pt_cmpR op_ne (pe_callB call_len_seq (by rfl) T.m_len (by decide +kernel) (pa_cons (pv 1) pa_nil)) pe_int (nomark _)) (pss_one (ps_ret pe_bl)) pss_nil)
    (pss_cons (ps_asg (pv 1) (pg_tup rfl (pgs_cons (pg_name (i:=2) sc_is_ask_row.nd rfl (by first | exact Or.inl rfl | exact Or.inr rfl)) (pgs_cons (pg_name (i:=3) sc_is_ask_row.nd rfl (by first | exact Or.inl rfl | exact Or.inr rfl)) (pgs_cons (pg_name (i:=4) sc_is_ask_row.nd rfl (by first | exact Or.inl rfl | exact Or.inr rfl)) (pgs_cons (pg_name (i:=5) sc_is_ask_row.nd rfl (by first | exact Or.inl rfl | exact Or.inr rfl)) (pgs_cons (pg_name (i:=6) sc_is_ask_row.nd rfl (by first | exact Or.inl rfl | exact Or.inr rfl)) (pgs_cons (pg_name (i:=7) sc_is_ask_row.nd rfl (by first | exact Or.inl rfl | exact Or.inr rfl)) (pgs_cons (pg_name (i:=8) sc_is_ask_row.nd rfl (by first | exact Or.inl rfl | exact Or.inr rfl)) pgs_nil)))))))))
    (pss_cons (ps_if (PW.pt (pw_or (pt_cmpR (op_neD hr.units) (pv 2) pe_str (nomark _)) (pw_or (pt_cmpR (op_notInTD (hu65 hr)) (pv 3) (pv 0) (by rfl)) (pw_or1 (pt_cmpR (op_notInTD (hu65 hr)) (pv 6) (pv 0) (by rfl)))))) (pss_one (ps_ret pe_bl)) pss_nil)
    (pss_one (ps_ret (pe_and (pe_call (ok_is_number T) (hr.mono (by first | decide | omega)) (by rfl) T.g_is_number T.F_is_number.kp T.b_is_number .nil pass0 (pa_cons (pv 4) pa_nil)) (pe_and (pe_call (ok_is_number T) (hr.mono (by first | decide | omega)) (by rfl) T.g_is_number T.F_is_number.kp T.b_is_number .nil pass0 (pa_cons (pv 5) pa_nil)) (pe_one (pe_call (ok_is_span T) (hr.mono (by first | decide | omega)) (by rfl) T.g_is_span T.F_is_span.kp T.b_is_span .nil pass0 (pa_cons (pv 7) (pa_cons (pv 8) pa_nil))))))))))),?_⟩
  refine ⟨_,rfl,a,_,rfl,.inr (SqT.of ha),rfl,_,rfl,ite2 (fun z=>?_) (fun z=>?_)⟩
  ·refine q false (ff fun ⟨x,e,e2,_⟩=>len_ne' (m:=7) z ?_)
   rw [hds.len,e2]
   cases x with
   | ask=>rfl
   | job=>exact absurd e.symm w_aj
   | all=>exact absurd e.symm w_aa
  have hl:=len_ne (m:=7) z
  have hl2:=hds.len.symm.trans hl
  match xs,ds,hds,hl with
  | [v0,v1,v2,v3,v4,v5,v6],[d0,d1,d2,d3,d4,d5,d6],.cons q0 (.cons q1 (.cons q2 (.cons q3 (.cons q4 (.cons q5 (.cons q6 .nil)))))),_ =>
   refine ⟨_,rfl,a,_,rfl,SqT.of ha,rfl,_,_,rfl,_,_,rfl,_,_,rfl,_,_,rfl,_,_,rfl,_,_,rfl,_,_,rfl,rfl,?_⟩
   refine ⟨_,rfl,d0,.str "ask", q0.dp,.str _,(hsh d0 (by simp)).shaped,sh_word (by decide +kernel),_,rfl,ite2 (fun z0=>iteT ?_) (fun z0=>?_)⟩
   ·refine q false (ff fun ⟨x,e,e2,_⟩=>?_)
    have e3 : d0 = .str "ask" := by
     cases x with
     | ask=>exact (List.cons.inj e2).1
     | job=>exact absurd e.symm w_aj
     | all=>exact absurd e.symm w_aa
    rw [eqv_str.mpr e3] at z0
    cases z0
   have e0 : d0 = .str "ask" := eqv_str.mp (by
    cases e : PyData.eqv d0 (.str "ask") with
    | true=>rfl
    | false=>exact absurd (by rw [e]; rfl) z0)
   subst e0
   refine ⟨_,rfl,_,rfl,d1,_,q1.dp,dp_tup_strs hth,(hsh d1 (by simp)).shaped,shaped_tup_strs hok,_,rfl,ite2 (fun z1=>iteT ?_) (fun z1=>?_)⟩
   ·refine q false (ff fun ⟨x,e,e2,hin,_⟩=>?_)
    cases x with
    | ask h g k n o b =>
     have e3:=(List.cons.inj (List.cons.inj e2).2).1
     rw [any_strs.mpr ⟨h,hin.1,e3⟩] at z1
     cases z1
    | job=>exact absurd e.symm w_aj
    | all=>exact absurd e.symm w_aa
   obtain ⟨h,mh,rfl⟩ : ∃ h∈hs,d1 = .str h:=any_strs.mp (by
    cases e : ((hs.map PyData.str).any fun z=>PyData.eqv z d1) with
    | true=>rfl
    | false=>exact absurd (by rw [e]; rfl) z1)
   refine ⟨_,rfl,_,rfl,d4,_,q4.dp,dp_tup_strs hth,(hsh d4 (by simp)).shaped,shaped_tup_strs hok,_,rfl,ite2 (fun z4=>?_) (fun z4=>?_)⟩
   ·refine q false (ff fun ⟨x,e,e2,hin,_⟩=>?_)
    cases x with
    | ask h g k n o b =>
     simp only [Row.data,List.cons.injEq] at e2
     rw [any_strs.mpr ⟨g,hin.2,e2.2.2.2.2.1⟩] at z4
     cases z4
    | job=>exact absurd e.symm w_aj
    | all=>exact absurd e.symm w_aa
   obtain ⟨g,mg4,rfl⟩ : ∃ h∈hs,d4 = .str h:=any_strs.mp (by
    cases e : ((hs.map PyData.str).any fun z=>PyData.eqv z d4) with
    | true=>rfl
    | false=>exact absurd (by rw [e]; rfl) z4)
   refine ⟨_,rfl,Ex,v2,d2,rfl,q2,fun r2 h2=>⟨r2,rfl,ite2 (fun z2=>?_) (fun z2=>?_)⟩⟩
   ·obtain ⟨k,rfl,k0,k1⟩:=h2.mp z2
    refine ⟨_,rfl,Ex,v3,d3,rfl,q3,fun r3 h3=>⟨r3,rfl,ite2 (fun z3=>?_) (fun z3=>?_)⟩⟩
    ·obtain ⟨n,rfl,n0,n1⟩:=h3.mp z3
     refine ⟨_,rfl,_,rfl,Ex,v5,v6,d5,d6,rfl,q5,q6,fun r hr6=>q r ?_⟩
     rw [hr6]
     constructor
     ·rintro ⟨i,j,rfl,rfl,ti,tj,ij⟩
      exact ⟨.ask h g k n i j,rfl,rfl,⟨mh,mg4⟩,⟨k0,k1⟩,⟨n0,n1⟩,ti,tj,ij⟩
     ·rintro ⟨x,e,e2,hin,hb⟩
      cases x with
      | ask h' g' k' n' o' b' =>
       simp only [Row.data,List.cons.injEq] at e2
       exact ⟨o',b',e2.2.2.2.2.2.1,e2.2.2.2.2.2.2.1,hb.2.2.1,hb.2.2.2.1,hb.2.2.2.2⟩
      | job=>exact absurd e.symm w_aj
      | all=>exact absurd e.symm w_aa
    ·refine q false (ff fun ⟨x,e,e2,hin,hb⟩=>z3 (h3.mpr ?_))
     cases x with
     | ask h' g' k' n' o' b' =>
      simp only [Row.data,List.cons.injEq] at e2
      exact ⟨n',e2.2.2.2.1,hb.2.1.1,hb.2.1.2⟩
     | job=>exact absurd e.symm w_aj
     | all=>exact absurd e.symm w_aa
   ·refine q false (ff fun ⟨x,e,e2,hin,hb⟩=>z2 (h2.mpr ?_))
    cases x with
    | ask h' g' k' n' o' b' =>
     simp only [Row.data,List.cons.injEq] at e2
     exact ⟨k',e2.2.2.1,hb.1.1,hb.1.2⟩
    | job=>exact absurd e.symm w_aj
    | all=>exact absurd e.symm w_aa
theorem ok_is_job_row (T : Txt K mg af fd) : FnOk P w K mg base CX0 4 (af 6) (fd 6) ["houses", "thing"] (sp_kind "job"):=by
 refine T.F_is_job_row.ok sc_is_job_row (fun vs H Q E h=>?_) (fun cdv A outer s H vs Q E hr h=>?_)
 ·obtain ⟨Ex,th,a,hs,xs,ds,rfl,_⟩:=h
  rfl
 ·obtain ⟨Ex,th,a,hs,xs,ds,rfl,hth,hok,ha,hds,hsh,q⟩:=h
  refine ⟨_,(pss_cons (ps_if (pt_cmpR op_ne (pe_callB call_len_seq (by rfl) T.m_len (by decide +kernel) (pa_cons (pv 1) pa_nil)) pe_int (nomark _)) (pss_one (ps_ret pe_bl)) pss_nil)
    (pss_cons (ps_asg (pv 1) (pg_tup rfl (pgs_cons (pg_name (i:=2) sc_is_job_row.nd rfl (by first | exact Or.inl rfl | exact Or.inr rfl)) (pgs_cons (pg_name (i:=3) sc_is_job_row.nd rfl (by first | exact Or.inl rfl | exact Or.inr rfl)) (pgs_cons (pg_name (i:=4) sc_is_job_row.nd rfl (by first | exact Or.inl rfl | exact Or.inr rfl)) (pgs_cons (pg_name (i:=5) sc_is_job_row.nd rfl (by first | exact Or.inl rfl | exact Or.inr rfl)) (pgs_cons (pg_name (i:=6) sc_is_job_row.nd rfl (by first | exact Or.inl rfl | exact Or.inr rfl)) pgs_nil)))))))
    (pss_cons (ps_if (PW.pt (pw_or (pt_cmpR (op_neD hr.units) (pv 2) pe_str (nomark _)) (pw_or1 (pt_cmpR (op_notInTD (hu65 hr)) (pv 3) (pv 0) (by rfl))))) (pss_one (ps_ret pe_bl)) pss_nil)
    (pss_one (ps_ret (pe_and (pe_call (ok_is_number T) (hr.mono (by first | decide | omega)) (by rfl) T.g_is_number T.F_is_number.kp T.b_is_number .nil pass0 (pa_cons (pv 4) pa_nil)) (pe_one (pe_call (ok_is_span T) (hr.mono (by first | decide | omega)) (by rfl) T.g_is_span T.F_is_span.kp T.b_is_span .nil pass0 (pa_cons (pv 5) (pa_cons (pv 6) pa_nil)))))))))),?_⟩
  refine ⟨_,rfl,a,_,rfl,.inr (SqT.of ha),rfl,_,rfl,ite2 (fun z=>?_) (fun z=>?_)⟩
  ·refine q false (ff fun ⟨x,e,e2,_⟩=>len_ne' (m:=5) z ?_)
   rw [hds.len,e2]
   cases x with
   | job=>rfl
   | ask=>exact absurd e w_aj
   | all=>exact absurd e.symm w_ja
  have hl:=len_ne (m:=5) z
  match xs,ds,hds,hl with
  | [v0,v1,v2,v3,v4],[d0,d1,d2,d3,d4],.cons q0 (.cons q1 (.cons q2 (.cons q3 (.cons q4 .nil)))),_ =>
   refine ⟨_,rfl,a,_,rfl,SqT.of ha,rfl,_,_,rfl,_,_,rfl,_,_,rfl,_,_,rfl,_,_,rfl,rfl,?_⟩
   refine ⟨_,rfl,d0,.str "job", q0.dp,.str _,(hsh d0 (by simp)).shaped,sh_word (by decide +kernel),_,rfl,ite2 (fun z0=>iteT ?_) (fun z0=>?_)⟩
   ·refine q false (ff fun ⟨x,e,e2,_⟩=>?_)
    have e3 : d0 = .str "job" := by
     cases x with
     | job=>exact (List.cons.inj e2).1
     | ask=>exact absurd e w_aj
     | all=>exact absurd e.symm w_ja
    rw [eqv_str.mpr e3] at z0
    cases z0
   have e0 : d0 = .str "job" := eqv_str.mp (by
    cases e : PyData.eqv d0 (.str "job") with
    | true=>rfl
    | false=>exact absurd (by rw [e]; rfl) z0)
   subst e0
   refine ⟨_,rfl,_,rfl,d1,_,q1.dp,dp_tup_strs hth,(hsh d1 (by simp)).shaped,shaped_tup_strs hok,_,rfl,ite2 (fun z1=>?_) (fun z1=>?_)⟩
   ·refine q false (ff fun ⟨x,e,e2,hin,_⟩=>?_)
    cases x with
    | job h k o b =>
     have e3:=(List.cons.inj (List.cons.inj e2).2).1
     rw [any_strs.mpr ⟨h,hin,e3⟩] at z1
     cases z1
    | ask=>exact absurd e w_aj
    | all=>exact absurd e.symm w_ja
   obtain ⟨h,mh,rfl⟩ : ∃ h∈hs,d1 = .str h:=any_strs.mp (by
    cases e : ((hs.map PyData.str).any fun z=>PyData.eqv z d1) with
    | true=>rfl
    | false=>exact absurd (by rw [e]; rfl) z1)
   refine ⟨_,rfl,Ex,v2,d2,rfl,q2,fun r2 h2=>⟨r2,rfl,ite2 (fun z2=>?_) (fun z2=>?_)⟩⟩
   ·obtain ⟨k,rfl,k0,k1⟩:=h2.mp z2
    refine ⟨_,rfl,_,rfl,Ex,v3,v4,d3,d4,rfl,q3,q4,fun r hr6=>q r ?_⟩
    rw [hr6]
    constructor
    ·rintro ⟨i,j,rfl,rfl,ti,tj,ij⟩
     exact ⟨.job h k i j,rfl,rfl,mh,⟨k0,k1⟩,ti,tj,ij⟩
    ·rintro ⟨x,e,e2,hin,hb⟩
     cases x with
     | job h' k' o' b' =>
      simp only [Row.data,List.cons.injEq] at e2
      exact ⟨o',b',e2.2.2.2.1,e2.2.2.2.2.1,hb.2.1,hb.2.2.1,hb.2.2.2⟩
     | ask=>exact absurd e w_aj
     | all=>exact absurd e.symm w_ja
   ·refine q false (ff fun ⟨x,e,e2,hin,hb⟩=>z2 (h2.mpr ?_))
    cases x with
    | job h' k' o' b' =>
     simp only [Row.data,List.cons.injEq] at e2
     exact ⟨k',e2.2.2.1,hb.1.1,hb.1.2⟩
    | ask=>exact absurd e w_aj
    | all=>exact absurd e.symm w_ja
theorem ok_is_all_row (T : Txt K mg af fd) : FnOk P w K mg base CX0 3 (af 7) (fd 7) ["houses", "thing"] (sp_kind "all"):=by
 refine T.F_is_all_row.ok sc_is_all_row (fun vs H Q E h=>?_) (fun cdv A outer s H vs Q E hr h=>?_)
 ·obtain ⟨Ex,th,a,hs,xs,ds,rfl,_⟩:=h
  rfl
 ·obtain ⟨Ex,th,a,hs,xs,ds,rfl,hth,hok,ha,hds,hsh,q⟩:=h
  refine ⟨_,(pss_cons (ps_if (pt_cmpR op_ne (pe_callB call_len_seq (by rfl) T.m_len (by decide +kernel) (pa_cons (pv 1) pa_nil)) pe_int (nomark _)) (pss_one (ps_ret pe_bl)) pss_nil)
    (pss_cons (ps_asg (pv 1) (pg_tup rfl (pgs_cons (pg_name (i:=2) sc_is_all_row.nd rfl (by first | exact Or.inl rfl | exact Or.inr rfl)) (pgs_cons (pg_name (i:=3) sc_is_all_row.nd rfl (by first | exact Or.inl rfl | exact Or.inr rfl)) (pgs_cons (pg_name (i:=4) sc_is_all_row.nd rfl (by first | exact Or.inl rfl | exact Or.inr rfl)) (pgs_cons (pg_name (i:=5) sc_is_all_row.nd rfl (by first | exact Or.inl rfl | exact Or.inr rfl)) pgs_nil))))))
    (pss_cons (ps_if (PW.pt (pw_or (pt_cmpR (op_neD hr.units) (pv 2) pe_str (nomark _)) (pw_or1 (pt_cmpR (op_notInTD (hu65 hr)) (pv 3) (pv 0) (by rfl))))) (pss_one (ps_ret pe_bl)) pss_nil)
    (pss_one (ps_ret (pe_and (pe_call (ok_is_count T) (hr.mono (by first | decide | omega)) (by rfl) T.g_is_count T.F_is_count.kp T.b_is_count .nil pass0 (pa_cons (pv 4) pa_nil)) (pe_one (pe_call (ok_is_count T) (hr.mono (by first | decide | omega)) (by rfl) T.g_is_count T.F_is_count.kp T.b_is_count .nil pass0 (pa_cons (pv 5) pa_nil))))))))),?_⟩
  refine ⟨_,rfl,a,_,rfl,.inr (SqT.of ha),rfl,_,rfl,ite2 (fun z=>?_) (fun z=>?_)⟩
  ·refine q false (ff fun ⟨x,e,e2,_⟩=>len_ne' (m:=4) z ?_)
   rw [hds.len,e2]
   cases x with
   | all=>rfl
   | ask=>exact absurd e w_aa
   | job=>exact absurd e w_ja
  have hl:=len_ne (m:=4) z
  match xs,ds,hds,hl with
  | [v0,v1,v2,v3],[d0,d1,d2,d3],.cons q0 (.cons q1 (.cons q2 (.cons q3 .nil))),_ =>
   refine ⟨_,rfl,a,_,rfl,SqT.of ha,rfl,_,_,rfl,_,_,rfl,_,_,rfl,_,_,rfl,rfl,?_⟩
   refine ⟨_,rfl,d0,.str "all", q0.dp,.str _,(hsh d0 (by simp)).shaped,sh_word (by decide +kernel),_,rfl,ite2 (fun z0=>iteT ?_) (fun z0=>?_)⟩
   ·refine q false (ff fun ⟨x,e,e2,_⟩=>?_)
    have e3 : d0 = .str "all" := by
     cases x with
     | all=>exact (List.cons.inj e2).1
     | ask=>exact absurd e w_aa
     | job=>exact absurd e w_ja
    rw [eqv_str.mpr e3] at z0
    cases z0
   have e0 : d0 = .str "all" := eqv_str.mp (by
    cases e : PyData.eqv d0 (.str "all") with
    | true=>rfl
    | false=>exact absurd (by rw [e]; rfl) z0)
   subst e0
   refine ⟨_,rfl,_,rfl,d1,_,q1.dp,dp_tup_strs hth,(hsh d1 (by simp)).shaped,shaped_tup_strs hok,_,rfl,ite2 (fun z1=>?_) (fun z1=>?_)⟩
   ·refine q false (ff fun ⟨x,e,e2,hin,_⟩=>?_)
    cases x with
    | all h a j =>
     have e3:=(List.cons.inj (List.cons.inj e2).2).1
     rw [any_strs.mpr ⟨h,hin,e3⟩] at z1
     cases z1
    | ask=>exact absurd e w_aa
    | job=>exact absurd e w_ja
   obtain ⟨h,mh,rfl⟩ : ∃ h∈hs,d1 = .str h:=any_strs.mp (by
    cases e : ((hs.map PyData.str).any fun z=>PyData.eqv z d1) with
    | true=>rfl
    | false=>exact absurd (by rw [e]; rfl) z1)
   refine ⟨_,rfl,Ex,v2,d2,rfl,q2,fun r2 h2=>⟨r2,rfl,ite2 (fun z2=>?_) (fun z2=>?_)⟩⟩
   ·obtain ⟨k,rfl,k0,k1⟩:=h2.mp z2
    refine ⟨_,rfl,Ex,v3,d3,rfl,q3,fun r hr6=>q r ?_⟩
    rw [hr6]
    constructor
    ·rintro ⟨i,rfl,i0,i1⟩
     exact ⟨.all h k i,rfl,rfl,mh,⟨k0,k1⟩,⟨i0,i1⟩⟩
    ·rintro ⟨x,e,e2,hin,hb⟩
     cases x with
     | all h' a' j' =>
      simp only [Row.data,List.cons.injEq] at e2
      exact ⟨j',e2.2.2.2.1,hb.2.1,hb.2.2⟩
     | ask=>exact absurd e w_aa
     | job=>exact absurd e w_ja
   ·refine q false (ff fun ⟨x,e,e2,hin,hb⟩=>z2 (h2.mpr ?_))
    cases x with
    | all h' a' j' =>
     simp only [Row.data,List.cons.injEq] at e2
     exact ⟨a',e2.2.2.1,hb.1.1,hb.1.2⟩
    | ask=>exact absurd e w_aa
    | job=>exact absurd e w_ja
def sp_is_row : Sp:=fun vs H Q _=>∃ (Ex : Addr→Prop) (t : Addr) (v : V) (d : PyData) (hs gs : List Str),vs = [.ref t,v]∧TownAt H t hs gs∧(∀ h∈hs,PyData.strOk h = true)∧Dq Ex H v d∧Sh d∧∀ r : Bool,(r = true↔IsRowD hs d)→Q (.bl r) H
theorem ok_is_row (T : Txt K mg af fd) : FnOk P w K mg base CX0 5 (af 8) (fd 8) ["town", "thing"] sp_is_row:=by
 refine T.F_is_row.ok sc_is_row (fun vs H Q E h=>?_) (fun cdv A outer s H vs Q E hr h=>?_)
 ·obtain ⟨Ex,t,v,d,hs,gs,rfl,_⟩:=h
  rfl
 ·obtain ⟨Ex,t,v,d,hs,gs,rfl,⟨th,tg,t1,t2,t3⟩,hok,hd,hsh,q⟩:=h
  refine ⟨_,(pss_cons (ps_if (pt_not (pt_val (pe_callB call_isi (by rfl) T.m_isinstance (by decide +kernel) (pa_cons (pv 1) (pa_cons (pe_bltn (v:=.ty "tuple") (by rfl) T.m_tuple (by decide +kernel) rfl) pa_nil))))) (pss_one (ps_ret pe_bl)) pss_nil)
    (pss_cons (ps_set (i:=2) sc_is_row.nd rfl (by first | exact Or.inl rfl | exact Or.inr rfl) (pe_ix ix_tup (pv 0) pe_int (fun _ _=>rfl)))
    (pss_one (ps_ret (pe_or (pe_call (ok_is_ask_row T) (hr.mono (by first | decide | omega)) (by rfl) T.g_is_ask_row T.F_is_ask_row.kp T.b_is_ask_row .nil pass0 (pa_cons (pv 2) (pa_cons (pv 1) pa_nil))) (pe_or (pe_call (ok_is_job_row T) (hr.mono (by first | decide | omega)) (by rfl) T.g_is_job_row T.F_is_job_row.kp T.b_is_job_row .nil pass0 (pa_cons (pv 2) (pa_cons (pv 1) pa_nil))) (pe_one (pe_call (ok_is_all_row T) (hr.mono (by first | decide | omega)) (by rfl) T.g_is_all_row T.F_is_all_row.kp T.b_is_all_row .nil pass0 (pa_cons (pv 2) (pa_cons (pv 1) pa_nil)))))))))),?_⟩
  refine ⟨_,rfl,_,_,_,_,_,rfl,.ty "tuple", hd.ty,isi_kit hd n_tuple,_,rfl,?_⟩
  cases hd with
  | @tup a xs ds ha hds =>
   refine iteF ?_
   refine ⟨_,rfl,t,_,0,_,rfl,rfl,SqT.of t1,rfl,?_⟩
   have sub:=hsh.items
   refine ⟨_,rfl,_,rfl,Ex,th,a,hs,xs,ds,rfl,t2,hok,ha,hds,sub,fun r1 h1=>⟨r1,rfl,ite2 (fun z=>?_) (fun z=>?_)⟩⟩
   ·refine q true (tt ?_)
    obtain ⟨x,_,e,hin,hb⟩:=h1.mp z
    exact ⟨x,by rw [e],hin,hb⟩
   refine ⟨_,rfl,_,rfl,Ex,th,a,hs,xs,ds,rfl,t2,hok,ha,hds,sub,fun r2 h2=>⟨r2,rfl,ite2 (fun z2=>?_) (fun z2=>?_)⟩⟩
   ·refine q true (tt ?_)
    obtain ⟨x,_,e,hin,hb⟩:=h2.mp z2
    exact ⟨x,by rw [e],hin,hb⟩
   refine ⟨_,rfl,_,rfl,Ex,th,a,hs,xs,ds,rfl,t2,hok,ha,hds,sub,fun r3 h3=>q r3 ?_⟩
   rw [h3]
   constructor
   ·rintro ⟨x,_,e,hin,hb⟩
    exact ⟨x,by rw [e],hin,hb⟩
   ·rintro ⟨x,e,hin,hb⟩
    have e1 : ds = x.data:=PyData.tuple.inj e
    cases x with
    | ask h g k n o b=>exact absurd (h1.mpr ⟨_,rfl,e1,hin,hb⟩) z
    | job h k o b=>exact absurd (h2.mpr ⟨_,rfl,e1,hin,hb⟩) z2
    | all h a j=>exact ⟨_,rfl,e1,hin,hb⟩
  | _ =>
   refine iteT (q false (ff fun ⟨x,e,_⟩=>nomatch e))
mutual
def szD : PyData→Nat
 | .none=>4
 | .bool _=>5
 | .int i=>(Str.ofString (toString i)).length
 | .str x=>(reprText x).length
 | .list xs=>4 + szDs xs
 | .tuple xs=>4 + szDs xs
 | .dict _=>0
def szDs : List PyData→Nat
 | []=>0
 | x :: xs=>szD x + 2 + szDs xs
end
structure Th (k n : Nat) (d : PyData) : Prop where
 lay : d.canLay0 = true
 dep : d.depth≤k
 shw : d.showable = true
 sz : szD d≤n
theorem Th.sh {k n : Nat} {d : PyData} (h : Th k n d) (hk : k≤60) : Sh d:=⟨h.lay,Nat.le_trans h.dep hk⟩
theorem Th.mono {k n k' n' : Nat} {d : PyData} (h : Th k n d) (hk : k≤k') (hn : n≤n') : Th k' n' d:=⟨h.lay,Nat.le_trans h.dep hk,h.shw,Nat.le_trans h.sz hn⟩
theorem th_all {k n : Nat} : ∀ {ds : List PyData},(∀ d∈ds,Th k n d)→PyData.canLayAll0 ds = true∧PyData.depthAll ds≤k∧PyData.showableAll ds = true∧szDs ds≤ds.length * (n + 2)
 | [],_=>⟨rfl,Nat.zero_le _,rfl,Nat.zero_le _⟩
 | x :: xs,h=>by
  obtain ⟨h1,h2,h3,h4⟩:=th_all (ds:=xs) fun d m=>h d (List.mem_cons_of_mem _ m)
  have hx:=h x List.mem_cons_self
  refine ⟨?_,?_,?_,?_⟩
  ·show (x.canLay0 && PyData.canLayAll0 xs) = true
   rw [hx.lay,h1]; rfl
  ·show max x.depth (PyData.depthAll xs)≤k
   exact Nat.max_le.mpr ⟨hx.dep,h2⟩
  ·show (x.showable && PyData.showableAll xs) = true
   rw [hx.shw,h3]; rfl
  ·show szD x + 2 + szDs xs≤(xs.length + 1) * (n + 2)
   have:=hx.sz
   rw [Nat.add_mul,Nat.one_mul]
   omega
theorem th_tup {k n m : Nat} {ds : List PyData} (h : ∀ d∈ds,Th k n d) (hm : ds.length≤m) : Th (k + 1) (4 + m * (n + 2)) (.tuple ds):=by
 obtain ⟨h1,h2,h3,h4⟩:=th_all h
 refine ⟨h1,Nat.succ_le_succ h2,h3,?_⟩
 show 4 + szDs ds≤_
 exact Nat.add_le_add_left (Nat.le_trans h4 (Nat.mul_le_mul_right _ hm)) _
theorem th_lst {k n m : Nat} {ds : List PyData} (h : ∀ d∈ds,Th k n d) (hm : ds.length≤m) : Th (k + 1) (4 + m * (n + 2)) (.list ds):=by
 obtain ⟨h1,h2,h3,h4⟩:=th_all h
 refine ⟨h1,Nat.succ_le_succ h2,h3,?_⟩
 show 4 + szDs ds≤_
 exact Nat.add_le_add_left (Nat.le_trans h4 (Nat.mul_le_mul_right _ hm)) _
theorem th_int {i : Int} (h : i.natAbs < 10 ^ 20) : Th 0 100 (.int i):=by
 refine ⟨rfl,Nat.le_refl _,?_,?_⟩
 ·refine decide_eq_true ?_
  have h2 : i.natAbs < 2 ^ 1900:=Nat.lt_trans h (by decide +kernel)
  exact Nat.lt_of_lt_of_le (PySem.Flt.log2_lt_of (by decide) h2) (by decide)
 ·have e:=int_text_length_le10 (a:=i) (k:=20) (by decide) h
  show (Str.ofString (toString i)).length≤100
  rw [PySem.ofString_length]
  omega
theorem th_str {x : Str} (h : PyData.strOk x = true) (hl : x.length≤9) : Th 0 100 (.str x):=by
 refine ⟨h,Nat.le_refl _,rfl,?_⟩
 have e:=StrLaws.reprText_len x fun c hc=>by
  unfold PyData.strOk at h
  rw [← Array.all_toList,List.all_eq_true] at h
  have:=of_decide_eq_true (h c hc)
  exact Nat.lt_trans this (by decide)
 show (reprText x).length≤100
 omega
theorem HouseS.len {h : Str} (x : HouseS h) : h.length≤8:=by
 have e : h.length = h.cps.toList.length:=by simp [Str.length]
 rw [e]
 exact x.2.1
theorem Dq.stp {Ex : Addr→Prop} {p c : Addr} {H H' : Hp} {v : V} {d : PyData} (h : Dq Ex H v d) (hp : Ex p) (hP : Pen H p c) (s : Stp p c H H') : Dq Ex H' v d :=
 h.go (fun _ a b=>absurd a b) (fun a xs n e=>s.2 a _ (fun z=>n (z ▸ hp)) e) (fun a xs e=>s.tup hP e)
theorem Dqs.stp {Ex : Addr→Prop} {p c : Addr} {H H' : Hp} {v : List V} {d : List PyData} (h : Dqs Ex H v d) (hp : Ex p) (hP : Pen H p c) (s : Stp p c H H') : Dqs Ex H' v d :=
 h.go (fun _ a b=>absurd a b) (fun a xs n e=>s.2 a _ (fun z=>n (z ▸ hp)) e) (fun a xs e=>s.tup hP e)
theorem row_th {hs : List Str} (hh : ∀ h∈hs,HouseS h) {r : Row} (w : r.Wf) (i : r.In hs) : ∀ d∈r.data,Th 0 100 d:=by
 have num : ∀ k : Int,NumI k→Th 0 100 (.int k):=fun k h=>th_int (Nat.lt_of_le_of_lt (show k.natAbs≤14 by have:=h.1; have:=h.2; omega) (by decide))
 have cnt : ∀ k : Int,CntI k→Th 0 100 (.int k):=fun k h=>th_int (Nat.lt_of_le_of_lt (show k.natAbs≤15 by have:=h.1; have:=h.2; omega) (by decide))
 have tim : ∀ k : Int,TimeI k→Th 0 100 (.int k):=fun k h=>th_int (Nat.lt_of_le_of_lt (show k.natAbs≤1000000000000 by have:=h.1; have:=h.2; omega) (by decide))
 have hou : ∀ h : Str,h∈hs→Th 0 100 (.str h):=fun h m=>th_str (hh h m).ok (Nat.le_succ_of_le (hh h m).len)
 intro d hd
 cases r with
 | ask h g k n o b =>
  simp only [Row.data,List.mem_cons,List.not_mem_nil,or_false] at hd
  rcases hd with rfl | rfl | rfl | rfl | rfl | rfl | rfl
  ·exact th_str (by decide +kernel) (by decide +kernel)
  ·exact hou h i.1
  ·exact num k w.2.2.1
  ·exact num n w.2.2.2.1
  ·exact hou g i.2
  ·exact tim o w.2.2.2.2.1
  ·exact tim b w.2.2.2.2.2.1
 | job h k o b =>
  simp only [Row.data,List.mem_cons,List.not_mem_nil,or_false] at hd
  rcases hd with rfl | rfl | rfl | rfl | rfl
  ·exact th_str (by decide +kernel) (by decide +kernel)
  ·exact hou h i
  ·exact num k w.2.1
  ·exact tim o w.2.2.1
  ·exact tim b w.2.2.2.1
 | all h a j =>
  simp only [Row.data,List.mem_cons,List.not_mem_nil,or_false] at hd
  rcases hd with rfl | rfl | rfl | rfl
  ·exact th_str (by decide +kernel) (by decide +kernel)
  ·exact hou h i
  ·exact cnt a w.2.1
  ·exact cnt j w.2.2
theorem dqs_row {Ex : Addr→Prop} {H : Hp} (r : Row) : Dqs Ex H r.vals r.data:=by
 cases r with
 | ask h g k n o b=>exact .cons (.str _) (.cons (.str _) (.cons (.int _) (.cons (.int _) (.cons (.str _) (.cons (.int _) (.cons (.int _) .nil))))))
 | job h k o b=>exact .cons (.str _) (.cons (.str _) (.cons (.int _) (.cons (.int _) (.cons (.int _) .nil))))
 | all h a j=>exact .cons (.str _) (.cons (.str _) (.cons (.int _) (.cons (.int _) .nil)))
theorem row_len7 (r : Row) : 4≤r.data.length∧r.data.length≤7:=by
 cases r
 ·exact ⟨(by decide : 4≤7),(by decide : 7≤7)⟩
 ·exact ⟨(by decide : 4≤5),(by decide : 5≤7)⟩
 ·exact ⟨(by decide : 4≤4),(by decide : 4≤7)⟩
theorem Dqs.put {Ex : Addr→Prop} {H : Hp} {l : Addr} {o : HO} {xs vs : List V} {ds : List PyData} (h : Dqs Ex H vs ds) (hl : Ex l) (hH : H l = some (.lst xs)) : Dqs Ex (upd H l o) vs ds :=
 h.go (fun _ a b=>absurd a b) (fun a ys n e=>by rw [upd_ne (fun (z : a = l)=>n (by rw [z]; exact hl))]; exact e) (fun a ys e=>by rw [upd_ne (ne_of e hH (fun z=>nomatch z))]; exact e)
theorem Dqs.ins {Ex : Addr→Prop} {H : Hp} {xs : List V} {ds : List PyData} {v : V} {d : PyData} (h : Dqs Ex H xs ds) (hv : Dq Ex H v d) (n : Nat) : Dqs Ex H (xs.take n ++ [v] ++ xs.drop n) (ds.take n ++ [d] ++ ds.drop n) :=
 ((h.take n).app (.cons hv .nil)).app (h.drop n)
theorem ins_mem {ds : List PyData} {d x : PyData} {n : Nat} (h : x∈ds.take n ++ [d] ++ ds.drop n) : x∈ds∨x = d:=by
 rcases List.mem_append.mp h with m | m
 ·rcases List.mem_append.mp m with m | m
  ·exact .inl (List.mem_of_mem_take m)
  ·exact .inr (List.mem_singleton.mp m)
 ·exact .inl (List.mem_of_mem_drop m)
theorem ins_len {ds : List PyData} {d : PyData} {n : Nat} : (ds.take n ++ [d] ++ ds.drop n).length = ds.length + 1:=by
 rw [List.length_append,List.length_append,List.length_take,List.length_drop,List.length_singleton]
 omega
def Ths (ds : List PyData) : Prop:=∀ d∈ds,Th 3 3000 d
def AtL (p l : Addr) : Addr→Prop:=fun a=>a = p∨a = l
def Lst (p c l : Addr) (H : Hp) (R : PyData→Prop) (n : Nat) (H' : Hp) : Prop:=Stp p c H H'∧∃ xs ds,H' l = some (.lst xs)∧Dqs (AtL p l) H' xs ds∧Ths ds∧(∀ d∈ds,R d)∧ds.length≤n
theorem lst_ins {p c l : Addr} {H G : Hp} {R : PyData→Prop} {n : Nat} {xs : List V} {ds : List PyData} {v : V} {d : PyData} (hP : Pen H p c) (nl : H l = none) (s : Stp p c H G) (hl : G l = some (.lst xs)) (hd : Dqs (AtL p l) G xs ds) (th : Ths ds) (hR : ∀ d∈ds,R d) (hn : ds.length≤n)
  (dv : Dq (AtL p l) G v d) (thd : Th 3 3000 d) (Rd : R d) (k : Nat) : Lst p c l H R (n + 1) (upd G l (.lst (xs.take k ++ [v] ++ xs.drop k))):=by
 refine ⟨s.mut hP nl,_,_,upd_same,(hd.ins dv k).put (.inr rfl) hl,fun x m=>?_,fun x m=>?_,?_⟩
 ·rcases ins_mem m with m | e
  ·exact th x m
  ·rw [e]
   exact thd
 ·rcases ins_mem m with m | e
  ·exact hR x m
  ·rw [e]
   exact Rd
 ·rw [ins_len]
  omega
theorem Stp.sm {p c : Addr} {H H1 H2 : Hp} (s : Stp p c H H1) (g : Same H1 H2) : Stp p c H H2:=by
 obtain ⟨cs,n,st,h1,h2,h3,h4⟩:=s.1
 exact ⟨⟨cs,n,st,g _ _ h1,g _ _ h2,h3,h4⟩,fun b o nb e=>g _ _ (s.2 b o nb e)⟩
theorem ths_lst {ds : List PyData} (h : Ths ds) (hn : ds.length≤1000) : SeqAt.shaped (.list ds) = true:=((th_lst h hn).sh (by decide)).shaped
def RowW (d : PyData) : Prop:=∃ r : Row,d = .tuple r.data∧r.Wf
def sp_init1 (C : Addr) (f : Str) : Sp:=fun vs H Q _=>∃ (a : Addr) (v : V),vs = [.ref a,v]∧H a = some (exo a C none)∧∀ dx,H dx = none→dx≠a→Q .non (upd (upd H dx (exd dx [(f,v)])) a (exo a C (some dx)))
def sp_init2 (C : Addr) (f g : Str) : Sp:=fun vs H Q _=>∃ (a : Addr) (v u : V),vs = [.ref a,v,u]∧H a = some (exo a C none)∧∀ dx,H dx = none→dx≠a→Q .non (upd (upd (upd H dx (exd dx [(f,v)])) a (exo a C (some dx))) dx (exd dx [(g,u),(f,v)]))
theorem ok_init_NoRow (T : Txt K mg af fd) : FnOk P w K mg base CX0 1 (af 59) (fd 59) ["self", "number"] (sp_init1 (af 58) "number"):=by
 refine T.e_NoRow.F.ok sc_init_NoRow (fun vs H Q E h=>?_) (fun cdv A outer s H vs Q E hr h=>?_)
 ·obtain ⟨a,v,rfl,_⟩:=h
  rfl
 ·obtain ⟨a,v,rfl,ha,q⟩:=h
  refine ⟨_,(pss_one (ps_ost (pv 0) (pv 1))),?_⟩
  exact ⟨_,rfl,_,rfl,a,_,rfl,T.e_NoRow.T,T.e_NoRow.no _ List.mem_cons_self,.inl ⟨ha,q⟩⟩
theorem ok_init_Clash (T : Txt K mg af fd) : FnOk P w K mg base CX0 1 (af 61) (fd 61) ["self", "first", "second"] (sp_init2 (af 60) "first" "second"):=by
 refine T.e_Clash.F.ok sc_init_Clash (fun vs H Q E h=>?_) (fun cdv A outer s H vs Q E hr h=>?_)
 ·obtain ⟨a,v,u,rfl,_⟩:=h
  rfl
 ·obtain ⟨a,v,u,rfl,ha,q⟩:=h
  refine ⟨_,(pss_cons (ps_ost (pv 0) (pv 1))
    (pss_one (ps_ost (pv 0) (pv 2)))),?_⟩
  refine ⟨_,rfl,_,rfl,a,_,rfl,T.e_Clash.T,T.e_Clash.no _ List.mem_cons_self,.inl ⟨ha,fun dx nd ne=>?_⟩⟩
  refine ⟨_,rfl,_,rfl,a,_,rfl,T.e_Clash.T,T.e_Clash.no _ (List.mem_cons_of_mem _ List.mem_cons_self),.inr ⟨dx,_,upd_same,?_,(by show 1≤900; decide),q dx nd ne⟩⟩
  rw [upd_ne ne,upd_same]
theorem raised1 {H : Hp} {a d : Addr} {o1 o2 o3 : HO} {fs : List (Str × V)} (na : H a = none) (nd : (upd H a o1) d = none) : Same H (upd (del (upd (upd (upd H a o1) d o2) a o3) a) d (.xd fs)):=fun b o e=>by
 have nd0 : H d = none:=(same_upd na).free nd
 rw [upd_ne (ne_of_none e nd0),del_ne (ne_of_none e na),upd_ne (ne_of_none e na),upd_ne (ne_of_none e nd0),upd_ne (ne_of_none e na)]
 exact e
theorem raised2 {H : Hp} {a d : Addr} {o1 o2 o3 o4 : HO} {fs : List (Str × V)} (na : H a = none) (nd : (upd H a o1) d = none) : Same H (upd (del (upd (upd (upd (upd H a o1) d o2) a o3) d o4) a) d (.xd fs)):=fun b o e=>by
 have nd0 : H d = none:=(same_upd na).free nd
 rw [upd_ne (ne_of_none e nd0),del_ne (ne_of_none e na),upd_ne (ne_of_none e nd0),upd_ne (ne_of_none e na),upd_ne (ne_of_none e nd0),upd_ne (ne_of_none e na)]
 exact e
def RowsD (hs : List Str) (ds : List PyData) (n : Nat) : Prop:=∀ (j : Nat) (d : PyData),j < n→ds[j]? = some d→IsRowD hs d
def Thing (Ex : Addr→Prop) (H : Hp) (vs : List V) (ds : List PyData) : Prop:=Dqs Ex H vs ds∧∀ d∈ds,Sh d
def sp_need_rows (C : Addr) : Sp:=fun vs H Q E=>∃ (Ex : Addr→Prop) (t l : Addr) (hs gs : List Str) (xs : List V) (ds : List PyData),vs = [.ref t,.ref l]∧TownAt H t hs gs∧(∀ h∈hs,PyData.strOk h = true)∧H l = some (.lst xs)∧Thing Ex H xs ds ∧
 (∀ H',Same H H'→RowsD hs ds ds.length→Q .non H') ∧
 ∀ (i : Nat) (dv : PyData) (d : Addr) (H' : Hp),RowsD hs ds i→ds[i]? = some dv→¬ IsRowD hs dv→Same H H'→H' d = some (.xd [("number", .int (i : Nat))])→E (.ref C) (some d) H'
theorem ok_need_rows (T : Txt K mg af fd) : FnOk P w K mg base (L2.CX P w) 6 (af 16) (fd 16) ["town", "rows"] (sp_need_rows (af 58)):=by
 refine T.F_need_rows.okX sc_need_rows (fun vs H Q E h=>?_) (fun cdv A outer s H vs Q E hr h=>?_)
 ·obtain ⟨Ex,t,l,hs,gs,xs,ds,rfl,_⟩:=h
  rfl
 ·obtain ⟨Ex,t,l,hs,gs,xs,ds,rfl,ht,hok,hl,⟨hds,hsh⟩,qQ,qE⟩:=h
  refine ⟨_,(pss_one (ps_for (passes_of rfl) rfl (pi_enum (by rfl) T.m_enumerate (pa_cons (pv 1) pa_nil)) (pg_tup rfl (pgs_cons (pg_name (i:=2) sc_need_rows.nd rfl (by first | exact Or.inl rfl | exact Or.inr rfl)) (pgs_cons (pg_name (i:=3) sc_need_rows.nd rfl (by first | exact Or.inl rfl | exact Or.inr rfl)) pgs_nil))) (pss_one (ps_if (pt_not (pt_val (pe_call (ok_is_row T) (hr.mono (by first | decide | omega)) (by rfl) T.g_is_row T.F_is_row.kp T.b_is_row .nil pass0 (pa_cons (pv 0) (pa_cons (pv 3) pa_nil))))) (pss_one (ps_raise rfl (takes_of rfl rfl rfl rfl) (pmk_oex T.e_NoRow.T T.e_NoRow.iC T.e_NoRow.tI (ok_init_NoRow T) (hr.mono (by decide)) T.e_NoRow.b .nil pass0 (by rfl) T.e_NoRow.g (pa_cons (pv 2) pa_nil)))) pss_nil)))),?_⟩
  refine ⟨_,rfl,l,_,rfl,SqL.of hl,for_it (walk_enum (K:=K) (a:=l) (xs:=xs)) (fun i σ H'=>(∃ v2 v3 : Option V,σ = [some (.ref t),some (.ref l),v2,v3])∧Same H H'∧RowsD hs ds i)
   ⟨⟨none,none,rfl⟩,Same.refl _,fun j d hj=>absurd hj (Nat.not_lt_zero j)⟩ (fun i σ H' _ h=>SqL.of (h.2.1 _ _ hl)) ?_ ?_⟩
  ·rintro i pv σ H1 H2 hi ⟨⟨v2,v3,rfl⟩,s1,hrows⟩ ⟨Tp,x1,x2,rfl,nT,rfl,e1,e2⟩
   obtain rfl : V.int (i : Nat) = x1:=Option.some.inj e1
   have e2 : xs[i]? = some x2:=e2
   have hid : i < ds.length:=by rw [← hds.len]; exact hi
   obtain ⟨x2',hx2,dq⟩:=hds.get (List.getElem?_eq_getElem hid)
   obtain rfl : x2' = x2:=Option.some.inj (hx2.symm.trans e2)
   have hdi : ds[i]? = some ds[i]:=List.getElem?_eq_getElem hid
   generalize ds[i] = dv at dq hdi
   have s2 : Same H (upd H1 Tp (.tup [.int (i : Nat),x2'])):=same_mut s1 (s1.free nT)
   refine ⟨Tp,_,rfl,SqT.of upd_same,rfl,_,_,rfl,_,_,rfl,rfl,?_⟩
   generalize upd H1 Tp (.tup [.int (i : Nat),x2']) = H2 at s2 ⊢
   refine ⟨_,rfl,_,rfl,Ex,t,x2',dv,hs,gs,rfl,ht.same' s2,hok,dq.same s2,hsh dv (List.mem_of_getElem? hdi),fun r hr1=>⟨r,rfl,?_⟩⟩
   cases r with
   | true =>
    refine iteF ⟨⟨_,_,rfl⟩,s2,fun j d hj hd=>?_⟩
    by_cases e : j = i
    ·subst e
     obtain rfl : dv = d:=Option.some.inj (hdi.symm.trans hd)
     exact hr1.mp rfl
    ·exact hrows j d (by omega) hd
   | false =>
    refine iteT ⟨_,rfl,(by show 1≤1000; decide),fun a na=>⟨a,_,rfl,upd_same,fun dx nd ne=>⟨rfl,dx,[("number", .int (i : Nat))],upd_same,?_,?_,?_⟩⟩⟩
    ·rw [upd_ne ne,upd_same]
    ·exact (same_upd na).free nd
    ·refine qE i dv dx _ hrows hdi (fun z=>Bool.noConfusion (hr1.mpr z)) (s2.trans ?_) upd_same
     exact raised1 na nd
  ·rintro σ H1 ⟨⟨v2,v3,rfl⟩,s1,hrows⟩
   exact qQ H1 s1 (by rw [hds.len] at hrows; exact hrows)
theorem dqs_flat {Ex : Addr→Prop} {H : Hp} {xs : List V} {r : Row} (h : Dqs Ex H xs r.data) : xs = r.vals:=by
 have key : ∀ {xs : List V} {ds : List PyData},ds.all Fl.flatD = true→Dqs Ex H xs ds→xs = ds.map Fl.dV:=by
  intro xs ds
  induction ds generalizing xs with
  | nil =>
   intro _ h
   cases h
   rfl
  | cons d ds ih =>
   intro hf h
   rw [List.all_cons,Bool.and_eq_true] at hf
   cases h with
   | cons h1 h2 =>
    rw [ih hf.2 h2]
    cases h1 with
    | int i=>rfl
    | str x=>rfl
    | _=>exact absurd hf.1 (by simp [Fl.flatD])
 exact key (row_flat r) h
theorem row_at {Ex : Addr→Prop} {H : Hp} {v : V} {r : Row} (h : Dq Ex H v (.tuple r.data)) : ∃ a,v = .ref a∧RowAt H a r:=by
 cases h with
 | @tup a xs _ h1 h2=>exact ⟨a,rfl,by rw [dqs_flat h2] at h1; exact h1⟩
theorem isRow_wf {hs : List Str} (hok : ∀ h∈hs,PyData.strOk h = true) {d : PyData} (h : IsRowD hs d) : ∃ r : Row,d = .tuple r.data∧r.Wf∧r.In hs:=by
 obtain ⟨r,e,hin,hb⟩:=h
 refine ⟨r,e,?_,hin⟩
 cases r with
 | ask h g k n o b=>exact ⟨hok h hin.1,hok g hin.2,hb.1,hb.2.1,hb.2.2.1,hb.2.2.2.1,hb.2.2.2.2⟩
 | job h k o b=>exact ⟨hok h hin,hb.1,hb.2.1,hb.2.2.1,hb.2.2.2⟩
 | all h a j=>exact ⟨hok h hin,hb.1,hb.2⟩
def ClashAt (ds : List PyData) (i j : Nat) : Prop:=∃ r t : Row,ds[i]? = some (.tuple r.data)∧ds[j]? = some (.tuple t.data)∧ClashP r t
def NoClash (ds : List PyData) (n : Nat) : Prop:=∀ s,s < n→∀ f,f < s→¬ ClashAt ds f s
structure FirstClash (ds : List PyData) (f s : Nat) : Prop where
 lt : f < s
 len : s < ds.length
 at_ : ClashAt ds f s
 no : NoClash ds s
 low : ∀ g,g < f→¬ ClashAt ds g s
theorem data_inj {r t : Row} (h : r.data = t.data) : r = t:=by
 have e:=row_eqv r t
 have e1 : PyData.eqv (.tuple r.data) (.tuple t.data) = true:=by
  rw [h,row_eqv]
  exact decide_eq_true rfl
 rw [e1] at e
 exact of_decide_eq_true e.symm
theorem clashAt_iff {ds : List PyData} {i j : Nat} {r t : Row} (hi : ds[i]? = some (.tuple r.data)) (hj : ds[j]? = some (.tuple t.data)) : ClashAt ds i j↔ClashP r t:=by
 constructor
 ·rintro ⟨r2,t2,e1,e2,h⟩
  obtain rfl:=data_inj (PyData.tuple.inj (Option.some.inj (hi.symm.trans e1)))
  obtain rfl:=data_inj (PyData.tuple.inj (Option.some.inj (hj.symm.trans e2)))
  exact h
 ·exact fun h=>⟨r,t,hi,hj,h⟩
def sp_need_book (CN CC : Addr) : Sp:=fun vs H Q E=>∃ (Ex : Addr→Prop) (t l : Addr) (hs gs : List Str) (xs : List V) (ds : List PyData),vs = [.ref t,.ref l]∧TownAt H t hs gs∧(∀ h∈hs,PyData.strOk h = true)∧H l = some (.lst xs)∧Thing Ex H xs ds∧ds.length≤1000 ∧
 (∀ H',Same H H'→RowsD hs ds ds.length→NoClash ds ds.length→Q .non H') ∧
 (∀ (i : Nat) (dv : PyData) (d : Addr) (H' : Hp),RowsD hs ds i→ds[i]? = some dv→¬ IsRowD hs dv→Same H H'→H' d = some (.xd [("number", .int (i : Nat))])→E (.ref CN) (some d) H') ∧
 ∀ (f s : Nat) (d : Addr) (H' : Hp),RowsD hs ds ds.length→FirstClash ds f s→Same H H'→H' d = some (.xd [("second", .int (s : Nat)),("first", .int (f : Nat))])→E (.ref CC) (some d) H'
theorem ok_need_book (T : Txt K mg af fd) : FnOk P w K mg base (L2.CX P w) 7 (af 17) (fd 17) ["town", "rows"] (sp_need_book (af 58) (af 60)):=by
 refine T.F_need_book.okX sc_need_book (fun vs H Q E h=>?_) (fun cdv A outer s H vs Q E hr h=>?_)
 ·obtain ⟨Ex,t,l,hs,gs,xs,ds,rfl,_⟩:=h
  rfl
 ·obtain ⟨Ex,t,l,hs,gs,xs,ds,rfl,ht,hok,hl,hth,hlen,qQ,qN,qC⟩:=h
  refine ⟨_,(pss_cons (ps_expr (pe_call (ok_need_rows T) (hr.mono (by first | decide | omega)) (by rfl) T.g_need_rows T.F_need_rows.kp T.b_need_rows .nil (passes_call (takes_of rfl rfl rfl rfl) (fun _ _ _ _ h=>h)) (pa_cons (pv 0) (pa_cons (pv 1) pa_nil))))
    (pss_one (ps_for (passes_of rfl) rfl (pi_range1 (by rfl) T.m_range (pa_cons (pe_callB call_len_seq (by rfl) T.m_len (by decide +kernel) (pa_cons (pv 1) pa_nil)) pa_nil)) (pg_name (i:=2) sc_need_book.nd rfl (by first | exact Or.inl rfl | exact Or.inr rfl)) (pss_one (ps_for (passes_of rfl) rfl (pi_range1 (by rfl) T.m_range (pa_cons (pv 2) pa_nil)) (pg_name (i:=3) sc_need_book.nd rfl (by first | exact Or.inl rfl | exact Or.inr rfl)) (pss_one (ps_if (pt_val (pe_call (ok_do_clash T) (hr.mono (by first | decide | omega)) (by rfl) T.g_do_clash T.F_do_clash.kp T.b_do_clash .nil pass0 (pa_cons (pe_ix ix_list (pv 1) (pv 3) (fun _ _=>rfl)) (pa_cons (pe_ix ix_list (pv 1) (pv 2) (fun _ _=>rfl)) pa_nil)))) (pss_one (ps_raise rfl (takes_of rfl rfl rfl rfl) (pmk_oex T.e_Clash.T T.e_Clash.iC T.e_Clash.tI (ok_init_Clash T) (hr.mono (by decide)) T.e_Clash.b .nil pass0 (by rfl) T.e_Clash.g (pa_cons (pv 3) (pa_cons (pv 2) pa_nil))))) pss_nil))))))),?_⟩
  refine ⟨_,rfl,_,rfl,Ex,t,l,hs,gs,xs,ds,rfl,ht,hok,hl,hth,fun H1 s1 hrows=>?_,qN⟩
  obtain ⟨hds,hsh⟩:=hth
  have hl1:=s1 _ _ hl
  have hxl:=hds.len
  refine ⟨_,rfl,l,_,rfl,.inl (SqL.of hl1),_,rfl,by omega,by omega,for_range (lo:=0) (n:=((xs.length : Int)).toNat) (fun i σ H'=>(∃ v2 v3 : Option V,σ = [some (.ref t),some (.ref l),v2,v3])∧H' = H1∧NoClash ds i)
   ⟨⟨none,none,rfl⟩,rfl,fun s hs=>absurd hs (Nat.not_lt_zero s)⟩ ?_ ?_⟩
  ·rintro s2 σ H2 hs2 ⟨⟨v2,v3,rfl⟩,rfl,hno⟩
   rw [Int.toNat_natCast] at hs2
   have hs2d : s2 < ds.length:=by omega
   obtain ⟨t2,et2,wt2,_⟩:=isRow_wf hok (hrows s2 _ hs2d (List.getElem?_eq_getElem hs2d))
   have hd2 : ds[s2]? = some (.tuple t2.data):=by rw [List.getElem?_eq_getElem hs2d,et2]
   obtain ⟨y,hy,dy⟩:=hds.get hd2
   obtain ⟨b,rfl,hb⟩:=row_at (dy.same s1)
   refine ⟨_,rfl,_,rfl,by omega,by omega,for_range (lo:=0) (n:=((0 : Int) + (s2 : Nat)).toNat) (fun i σ H'=>(∃ v3 : Option V,σ = [some (.ref t),some (.ref l),some (.int (0 + (s2 : Nat))),v3])∧H' = H2∧∀ g,g < i→¬ ClashAt ds g s2)
    ⟨⟨_,rfl⟩,rfl,fun g hg=>absurd hg (Nat.not_lt_zero g)⟩ ?_ ?_⟩
   ·rintro f2 σ H3 hf2 ⟨⟨v3,rfl⟩,rfl,hlow⟩
    have hf2s : f2 < s2:=by omega
    have hf2d : f2 < ds.length:=by omega
    obtain ⟨r2,er2,wr2,_⟩:=isRow_wf hok (hrows f2 _ hf2d (List.getElem?_eq_getElem hf2d))
    have hd1 : ds[f2]? = some (.tuple r2.data):=by rw [List.getElem?_eq_getElem hf2d,er2]
    obtain ⟨x,hx,dx⟩:=hds.get hd1
    obtain ⟨a,rfl,ha⟩:=row_at (dx.same s1)
    have hiff:=clashAt_iff hd1 hd2
    refine ⟨_,rfl,_,rfl,l,_,_,.ref a,rfl,rfl,SqL.of hl1,at_any (j:=f2) (by omega) hx,_,rfl,_,rfl,l,_,_,.ref b,rfl,rfl,SqL.of hl1,at_any (j:=s2) (by omega) hy,a,b,r2,t2,rfl,ha,hb,wr2,wt2,trivial,fun bb hbb=>⟨bb,rfl,?_⟩⟩
    cases bb with
    | false =>
     refine iteF ⟨⟨_,rfl⟩,rfl,fun g hg=>?_⟩
     by_cases e : g = f2
     ·subst e
      exact fun z=>Bool.noConfusion (hbb.mpr (hiff.mp z))
     ·exact hlow g (by omega)
    | true =>
     refine iteT ⟨_,rfl,_,rfl,(by show 2≤1000; decide),fun a3 na=>⟨a3,_,_,rfl,upd_same,fun dx3 nd ne=>⟨rfl,dx3,[("second", .int (0 + (s2 : Nat))),("first", .int (0 + (f2 : Nat)))],?_,upd_same,?_,?_⟩⟩⟩
     ·rw [upd_ne (Ne.symm ne),upd_same]
     ·exact (same_upd na).free nd
     ·rw [Int.zero_add,Int.zero_add]
      refine qC f2 s2 dx3 _ hrows ⟨hf2s,hs2d,hiff.mpr (hbb.mp rfl),hno,hlow⟩ (s1.trans ?_) upd_same
      exact raised2 na nd
   ·rintro σ H3 ⟨⟨v3,rfl⟩,rfl,hlow⟩
    refine ⟨⟨_,_,rfl⟩,rfl,fun s3 hs3 g hg=>?_⟩
    by_cases e : s3 = s2
    ·subst e
     exact hlow g (by omega)
    ·exact hno s3 (by omega) g hg
  ·rintro σ H2 ⟨⟨v2,v3,rfl⟩,rfl,hno⟩
   refine qQ H2 s1 hrows ?_
   rw [Int.toNat_natCast,hxl] at hno
   exact hno
namespace Gr
open PySem.W
abbrev HK:=Str × Int
def keyOf (p : HK) : List Key:=[.inr p.1,.inl p.2]
def datOf (p : HK) : List PyData:=[.str p.1,.int p.2]
def vD : V→PyData
 | .int i=>.int i
 | .str x=>.str x
 | _=>.none
def hkOf : List PyData→HK
 | [.str h,.int n]=>(h,n)
 | _=>("", 0)
end Gr
def Row.k : Row→Int
 | .ask _ _ k _ _ _=>k
 | .job _ k _ _=>k
 | .all _ a _=>a
theorem at2 (r : Row) : atI r.vals 2 = some (.int r.k):=by cases r <;> rfl
def Row.key (r : Row) : Gr.HK:=(r.h,r.k)
def Rws (H : Hp) (xs : List V) (rs : List Row) : Prop:=xs.length = rs.length∧∀ (i : Nat) (r : Row),rs[i]? = some r→∃ a,xs[i]? = some (.ref a)∧RowAt H a r
theorem Rws.same {H H' : Hp} {xs : List V} {rs : List Row} (h : Rws H xs rs) (s : Same H H') : Rws H' xs rs:=⟨h.1,fun i r e=>let ⟨a,e1,e2⟩:=h.2 i r e; ⟨a,e1,s _ _ e2⟩⟩
structure DRow {κ : Type} (key : Row→κ) (H : Hp) (P : Row→Prop) (kvs : List (κ × V)) : Prop where
 own : ∀ kv∈kvs,∃ a r,kv.2 = .ref a∧RowAt H a r∧P r∧kv.1 = key r
 all : ∀ r,P r→∃ v,(key r,v)∈kvs
 nd : (kvs.map (·.1)).Nodup
theorem DRow.same {κ : Type} {key : Row→κ} {H H' : Hp} {P : Row→Prop} {kvs : List (κ × V)} (h : DRow key H P kvs) (s : ∀ a r,RowAt H a r→RowAt H' a r) : DRow key H' P kvs :=
 ⟨fun kv m=>let ⟨a,r,e1,e2,e3,e4⟩:=h.own kv m; ⟨a,r,e1,s _ _ e2,e3,e4⟩,h.all,h.nd⟩
section
variable {κ : Type} [DecidableEq κ]
theorem put_mem {kvs : List (κ × V)} {k : κ} {v : V} {x : κ × V} (h : x∈putK kvs k v) : (x∈kvs∧x.1≠k)∨x = (k,v):=by
 unfold putK at h
 split at h
 ·obtain ⟨y,my,rfl⟩:=List.mem_map.mp h
  by_cases e : y.1 = k
  ·rw [if_pos e]
   exact .inr (by rw [← e])
  ·rw [if_neg e]
   exact .inl ⟨my,e⟩
 ·rename_i hn
  rcases List.mem_append.mp h with m | m
  ·refine .inl ⟨m,fun e=>hn ?_⟩
   exact List.any_eq_true.mpr ⟨x,m,decide_eq_true e⟩
  ·exact .inr (List.mem_singleton.mp m)
theorem put_keys (kvs : List (κ × V)) (k : κ) (v : V) : (putK kvs k v).map (·.1) = kvs.map (·.1) ++ (if k∈kvs.map (·.1) then [] else [k]):=by
 unfold putK
 by_cases h : (kvs.any fun kv=>decide (kv.1 = k)) = true
 ·rw [if_pos h]
  obtain ⟨y,my,ey⟩:=List.any_eq_true.mp h
  have ey:=of_decide_eq_true ey
  rw [if_pos (List.mem_map.mpr ⟨y,my,ey⟩),List.append_nil,List.map_map]
  refine List.map_congr_left fun z _=>?_
  show (if z.1 = k then (z.1,v) else z).1 = z.1
  split <;> rfl
 ·rw [if_neg h,if_neg,List.map_append]
  ·rfl
  ·intro m
   obtain ⟨y,my,ey⟩:=List.mem_map.mp m
   exact h (List.any_eq_true.mpr ⟨y,my,decide_eq_true ey⟩)
theorem put_nd {kvs : List (κ × V)} {k : κ} {v : V} (h : (kvs.map (·.1)).Nodup) : ((putK kvs k v).map (·.1)).Nodup:=by
 rw [put_keys]
 split
 ·rw [List.append_nil]
  exact h
 ·rename_i hn
  rw [List.nodup_append]
  refine ⟨h,(by simp),fun a ma b mb e=>hn ?_⟩
  rw [← List.mem_singleton.mp mb,← e]
  exact ma
theorem put_self (kvs : List (κ × V)) (k : κ) (v : V) : (k,v)∈putK kvs k v:=by
 have h : k∈(putK kvs k v).map (·.1):=by
  rw [put_keys]
  split
  ·rename_i h
   rw [List.append_nil]
   exact h
  ·exact List.mem_append_right _ (List.mem_singleton.mpr rfl)
 obtain ⟨x,mx,ex⟩:=List.mem_map.mp h
 rcases put_mem mx with ⟨_,n⟩ | e
 ·exact absurd ex n
 ·rw [← e]
  exact mx
theorem put_keep {kvs : List (κ × V)} {k j : κ} {v u : V} (h : (j,u)∈kvs) : ∃ z,(j,z)∈putK kvs k v:=by
 have h2 : j∈(putK kvs k v).map (·.1):=by
  rw [put_keys]
  exact List.mem_append_left _ (List.mem_map.mpr ⟨_,h,rfl⟩)
 obtain ⟨x,mx,ex⟩:=List.mem_map.mp h2
 exact ⟨x.2,by rw [← ex]; exact mx⟩
theorem DRow.put {key : Row→κ} {H : Hp} {P : Row→Prop} {kvs : List (κ × V)} {a : Addr} {r : Row} (h : DRow key H P kvs) (ha : RowAt H a r) : DRow key H (fun x=>P x∨x = r) (putK kvs (key r) (.ref a)) where
 own:=fun kv m=>by
  rcases put_mem m with ⟨m,_⟩ | e
  ·obtain ⟨b,t,e1,e2,e3,e4⟩:=h.own kv m
   exact ⟨b,t,e1,e2,.inl e3,e4⟩
  ·exact ⟨a,r,by rw [e],ha,.inr rfl,by rw [e]⟩
 all:=fun x hx=>by
  rcases hx with hx | rfl
  ·obtain ⟨v,m⟩:=h.all x hx
   exact put_keep m
  ·exact ⟨_,put_self _ _ _⟩
 nd:=put_nd h.nd
theorem val_mem {kvs : List (κ × V)} {k : κ} {v : V} (h : valV kvs k = some v) : (k,v)∈kvs:=by
 induction kvs with
 | nil=>exact nomatch h
 | cons p r ih =>
  by_cases e : p.1 = k
  ·rw [valV_pos e] at h
   obtain rfl:=Option.some.inj h
   rw [← e]
   exact List.mem_cons_self
  ·rw [valV_neg e] at h
   exact List.mem_cons_of_mem _ (ih h)
theorem val_none {kvs : List (κ × V)} {k : κ} (h : valV kvs k = none) : ∀ v,(k,v) ∉ kvs:=by
 induction kvs with
 | nil=>exact fun _ m=>nomatch m
 | cons p r ih =>
  by_cases e : p.1 = k
  ·rw [valV_pos e] at h
   cases h
  ·rw [valV_neg e] at h
   intro v m
   rcases List.mem_cons.mp m with z | m
   ·exact e (by rw [← z])
   ·exact ih h v m
end
theorem DRow.iff {κ : Type} {key : Row→κ} {H : Hp} {P P' : Row→Prop} {kvs : List (κ × V)} (h : DRow key H P kvs) (e : ∀ r,P r↔P' r) : DRow key H P' kvs:=by
 have : P = P':=funext fun r=>propext (e r)
 subst this
 exact h
theorem DRow.nil {κ : Type} {key : Row→κ} {H : Hp} {P : Row→Prop} (h : ∀ r,¬ P r) : DRow key H P []:=⟨fun _ m=>(nomatch m),fun r p=>absurd p (h r),List.nodup_nil⟩
def key2 (r : Row) : List Key:=Gr.keyOf r.key
theorem put_len {κ : Type} [DecidableEq κ] {kvs : List (κ × V)} {k : κ} {v : V} {n : Nat} (h : kvs.length≤n) : (putK kvs k v).length≤n + 1:=Nat.le_trans (length_putK kvs k v) (Nat.succ_le_succ h)
theorem small_line {n : Nat} (h : n≤5000) : n < sizeLine:=Nat.lt_of_le_of_lt h (by decide)
theorem of_take {rs : List Row} {i : Nat} {r : Row} (e : rs[i]? = some r) (x : Row) : x∈rs.take (i + 1)↔x∈rs.take i∨x = r:=by
 rw [List.take_add_one,e,Option.toList_some,List.mem_append,List.mem_singleton]
def sp_by_number : Sp:=fun vs H Q _=>∃ (l : Addr) (wd : Str) (xs : List V) (rs : List Row),vs = [.ref l,.str wd]∧H l = some (.lst xs)∧Rws H xs rs∧rs.length≤1000 ∧
 ∀ (D : Addr) (kvs : List (List Key × V)) (H' : Hp),Same H H'→H D = none→H' D = some (.dT kvs)→DRow key2 H' (fun r=>r∈rs∧r.word = wd) kvs→kvs.length≤1000→Q (.ref D) H'
theorem ok_rows_by_number (T : Txt K mg af fd) : FnOk P w K mg base CX0 1 (af 19) (fd 19) ["rows", "word"] sp_by_number:=by
 refine T.F_rows_by_number.ok sc_rows_by_number (fun vs H Q E h=>?_) (fun cdv A outer s H vs Q E hr h=>?_)
 ·obtain ⟨l,wd,xs,rs,rfl,_⟩:=h
  rfl
 ·obtain ⟨l,wd,xs,rs,rfl,hl,hrs,hlen,q⟩:=h
  refine ⟨_,(pss_one (ps_ret (Gr.pe_dcd true (own:=[("row", 2)]) (g:=gName 2) (hu_of hr) (by rfl) sc_rows_by_number.nd (pi_list (pv 0)) (blkOk_by (own:=[("row", 2)]) (N:=["rows", "word", "row"]) (sc:=defScope s_rows_by_number) (by decide +kernel)) (fun _ _ _ _ _=>pg_name (i:=2) sc_rows_by_number.nd rfl (by first | exact Or.inl rfl | exact Or.inr rfl)) (fun _ _ _ _ _=>(pts_one (pt_cmpR op_eq (pe_ix (show IxR _ (rIxT K) from ix_tup) (pv 2) pe_int (fun _ _=>rfl)) (pv 1) (nomark _)))) (fun _ _ _ _ _=>(pe_tup (pa_cons (pe_ix (show IxR _ (rIxT K) from ix_tup) (pv 2) pe_int (fun _ _=>rfl)) (pa_cons (pe_ix (show IxR _ (rIxT K) from ix_tup) (pv 2) pe_int (fun _ _=>rfl)) pa_nil)))) (fun _ _ _ _ _=>(pv 2))))),?_⟩
  refine ⟨_,rfl,l,rfl,⟨_,SqL.of hl⟩,fun D nD=>?_⟩
  refine Gr.dcd_it (walk_list (K:=K) (a:=l) (xs:=xs)) (fun i H'=>Same H H'∧∃ kvs : List (List Key × V),H' D = some (.dT kvs)∧DRow key2 H' (fun r=>r∈rs.take i∧r.word = wd) kvs∧kvs.length≤i)
   ⟨same_upd nD,[],upd_same,.nil (fun r h=>by rw [List.take_zero] at h; exact nomatch h.1),Nat.le_refl _⟩ (fun i H' _ h=>SqL.of (h.1 _ _ hl)) ?_ ?_
  ·rintro i v H1 H2 hi ⟨g1,kvs,hD,dr,hk⟩ ⟨rfl,hv⟩
   have hir : i < rs.length:=by rw [← hrs.1]; exact hi
   have er : rs[i]? = some rs[i]:=List.getElem?_eq_getElem hir
   generalize rs[i] = r at er
   obtain ⟨a,ea,ha⟩:=hrs.2 i r er
   obtain rfl : V.ref a = v:=Option.some.inj (ea.symm.trans hv)
   have ha1:=g1 _ _ ha
   refine ⟨rfl,_,rfl,a,_,0,_,rfl,rfl,SqT.of ha1,at0 r,_,rfl,rfl,_,rfl,?_⟩
   refine ite2 (fun ew=>?_) (fun ew=>?_)
   ·have ew : r.word = wd:=by simpa using ew
    refine ⟨_,rfl,a,_,1,_,rfl,rfl,SqT.of ha1,at1 r,_,rfl,a,_,2,_,rfl,rfl,SqT.of ha1,at2 r,(by show 2≤sizeLine; decide),fun b nb=>⟨_,rfl,?_⟩⟩
    have hDb : (upd H2 b (.tup [.str r.h,.int r.k])) D = some (.dT kvs):=by rw [upd_ne (ne_of_none hD nb)]; exact hD
    refine ⟨_,DPut.t (k:=key2 r) hDb (by rw [upd_same]; rfl) (small_line (by omega)),?_⟩
    have g3 : Same H2 (upd (upd H2 b (.tup [.str r.h,.int r.k])) D (.dT (putK kvs (key2 r) (.ref a))))→True:=fun _=>trivial
    have rows : ∀ c x,RowAt H2 c x→RowAt (upd (upd H2 b (.tup [.str r.h,.int r.k])) D (.dT (putK kvs (key2 r) (.ref a)))) c x:=fun c x hc=>by
     show (upd (upd H2 b _) D _) c = _
     rw [upd_ne (ne_of hc hD (fun z=>nomatch z)),upd_ne (ne_of_none hc nb)]
     exact hc
    refine ⟨same_mut (same_mut g1 (g1.free nb)) nD,_,upd_same,?_,put_len hk⟩
    refine ((dr.put (a:=a) (r:=r) ha1).same rows).iff fun x=>?_
    rw [of_take er]
    constructor
    ·rintro (⟨h1,h2⟩ | rfl)
     ·exact ⟨.inl h1,h2⟩
     ·exact ⟨.inr rfl,ew⟩
    ·rintro ⟨h1 | rfl,h2⟩
     ·exact .inl ⟨h1,h2⟩
     ·exact .inr rfl
   ·have ew : r.word≠wd:=by simpa using ew
    refine ⟨g1,kvs,hD,dr.iff fun x=>?_,Nat.le_succ_of_le hk⟩
    rw [of_take er]
    constructor
    ·exact fun h=>⟨.inl h.1,h.2⟩
    ·rintro ⟨h1 | rfl,h2⟩
     ·exact ⟨h1,h2⟩
     ·exact absurd h2 ew
  ·rintro H1 ⟨g1,kvs,hD,dr,hk⟩
   rw [hrs.1,List.take_length] at dr
   exact q D kvs H1 g1 nD hD dr (by rw [hrs.1] at hk; omega)
def Uniq (P : Row→Prop) : Prop:=∀ r t,P r→P t→r.key = t.key→r = t
structure FldT (C : Addr) (H : Hp) (g : Addr) (f : Str) (P : Row→Prop) : Prop where
 ex : ∃ (dx d : Addr) (fs : List (Str × V)) (kvs : List (List Key × V)),H g = some (.ins C dx fs)∧fs.lookup f = some (.ref d)∧H d = some (.dT kvs)∧DRow key2 H P kvs∧kvs.length≤1000
 un : Uniq P
theorem Same.rows {H H' : Hp} (s : Same H H') : ∀ a r,RowAt H a r→RowAt H' a r:=fun _ _ h=>s _ _ h
theorem FldT.same {C : Addr} {H H' : Hp} {g : Addr} {f : Str} {P : Row→Prop} (h : FldT C H g f P) (s : Same H H') : FldT C H' g f P:=by
 obtain ⟨dx,d,fs,kvs,h1,h2,h3,h4,h5⟩:=h.ex
 exact ⟨⟨dx,d,fs,kvs,s _ _ h1,h2,s _ _ h3,h4.same (Same.rows s),h5⟩,h.un⟩
structure Sel (H : Hp) (vs : List V) (S : Row→Prop) : Prop where
 own : ∀ v∈vs,∃ a r,v = .ref a∧RowAt H a r∧S r
 all : ∀ r,S r→∃ a,V.ref a∈vs∧RowAt H a r
 len : vs.length≤1000
theorem Sel.same {H H' : Hp} {vs : List V} {S : Row→Prop} (h : Sel H vs S) (s : Same H H') : Sel H' vs S :=
 ⟨fun v m=>let ⟨a,r,e1,e2,e3⟩:=h.own v m; ⟨a,r,e1,s _ _ e2,e3⟩,fun r x=>let ⟨a,e1,e2⟩:=h.all r x; ⟨a,e1,s _ _ e2⟩,h.len⟩
theorem key2_inj {r t : Row} (h : key2 r = key2 t) : r.key = t.key:=by
 unfold key2 Gr.keyOf at h
 injection h with h1 h2
 injection h2 with h3 h4
 injection h1 with h1
 injection h3 with h3
 exact Prod.ext h1 h3
theorem row_inj {H : Hp} {a : Addr} {r t : Row} (h : RowAt H a r) (h2 : RowAt H a t) : r = t:=by
 have e : r.vals = t.vals:=HO.tup.inj (Option.some.inj (h.symm.trans h2))
 cases r <;> cases t <;> simp [Row.vals,Row.data,Fl.dV] at e <;> first | (obtain ⟨_,_⟩:=e; simp_all) | simp_all | exact absurd e (by decide +kernel)
def sp_of_house (C : Addr) (f : Str) : Sp:=fun vs H Q _=>∃ (g : Addr) (h : Str) (P : Row→Prop),vs = [.ref g,.str h]∧FldT C H g f P ∧
 ∀ (D : Addr) (us : List V) (H' : Hp),Same H H'→H D = none→H' D = some (.lst us)→Sel H' us (fun r=>P r∧r.h = h)→Q (.ref D) H'
theorem ok_asks_of_house (T : Txt K mg af fd) : FnOk P w K mg base CX0 1 (af 21) (fd 21) ["gaps", "house"] (sp_of_house (af 62) "ask_rows"):=by
 refine T.F_asks_of_house.ok sc_asks_of_house (fun vs H Q E h=>?_) (fun cdv A outer s H vs Q E hr h=>?_)
 ·obtain ⟨g,h,P,rfl,_⟩:=h
  rfl
 ·obtain ⟨g,hh,P,rfl,⟨⟨dx,d,fs,kvs,h1,h2,h3,h4,h5⟩,un⟩,q⟩:=h
  refine ⟨_,(pss_one (ps_ret (pe_lock (pe_lc (own:=[("row", 2)]) (g:=gName 2) (by rfl) sc_asks_of_house.nd (Gr.pi_valuesT (pe_fld (pv 0) rfl)) (blkOk_by (own:=[("row", 2)]) (N:=["gaps", "house", "row"]) (sc:=defScope s_asks_of_house) (by decide +kernel)) (fun _ _ _ _ _=>pg_name (i:=2) sc_asks_of_house.nd rfl (Or.inl rfl)) (fun _ _ _ _ _=>(pts_one (pt_cmpR op_eq (pe_ix (show IxR _ (rIxT K) from ix_tup) (pv 2) pe_int (fun _ _=>rfl)) (pv 1) (nomark _)))) (fun _ _ _ _ _=>(pv 2)))))),?_⟩
  have ngd : g≠d:=ne_of h1 h3 (fun z=>nomatch z)
  refine ⟨d,_,h3,trivial,fun od=>?_⟩
  refine ⟨_,rfl,g,_,dx,fs,_,rfl,(by rw [upd_ne ngd]; exact h1),T.o_Gaps.c,T.o_Gaps.no _ (by simp),h2,d,od,kvs,rfl,upd_same,fun D nD=>?_⟩
  have nDd : D≠d:=fun e=>by rw [e,upd_same] at nD; cases nD
  have nD0 : H D = none:=by rw [upd_ne nDd] at nD; exact nD
  refine lc_it (Gr.walk_valuesT (d:=d) (o:=od) (kvs:=kvs)) (fun i H'=>(∀ b o,b≠d→H b = some o→H' b = some o)∧H' d = some (.frz od (.dT kvs))∧∃ us : List V,H' D = some (.lst us)∧(∀ v∈us,∃ a r,v = .ref a∧RowAt H a r∧P r∧r.h = hh)∧(∀ j kv,j < i→kvs[j]? = some kv→∀ a r,kv.2 = .ref a→RowAt H a r→r.h = hh→kv.2∈us)∧us.length≤i)
   ⟨fun b o nb e=>?_,?_,[],upd_same,fun _ m=>(nomatch m),fun j _ hj=>absurd hj (Nat.not_lt_zero j),Nat.le_refl _⟩ (fun i H' _ h=>h.2.1) ?_ ?_
  ·rw [upd_ne (ne_of_none e nD0),upd_ne nb]
   exact e
  ·rw [upd_ne (Ne.symm nDd),upd_same]
  ·rintro i v H1 H2 hi ⟨fr,hd,us,hD,own,all,len⟩ ⟨rfl,k,hk⟩
   obtain ⟨a,r,ev,ha,hP,ek⟩:=h4.own _ (List.mem_of_getElem? hk)
   have ev : v = .ref a:=ev
   subst ev
   have ha1 : RowAt H2 a r:=fr _ _ (ne_of ha h3 (fun z=>nomatch z)) ha
   refine ⟨rfl,_,rfl,a,_,1,_,rfl,rfl,SqT.of ha1,at1 r,_,rfl,rfl,_,rfl,ite2 (fun ew=>?_) (fun ew=>?_)⟩
   ·have ew : r.h = hh:=by simpa using ew
    refine ⟨_,rfl,us,hD,small_line (by omega),fun b o nb e=>?_,?_,_,upd_same,fun v m=>?_,fun j kv hj ej c t e1 e2 e3=>?_,?_⟩
    ·rw [upd_ne (ne_of_none e nD0)]
     exact fr b o nb e
    ·rw [upd_ne (Ne.symm nDd)]
     exact hd
    ·rcases List.mem_append.mp m with m | m
     ·exact own v m
     ·rw [List.mem_singleton.mp m]
      exact ⟨a,r,rfl,ha,hP,ew⟩
    ·by_cases e : j = i
     ·subst e
      obtain rfl:=Option.some.inj (hk.symm.trans ej)
      exact List.mem_append_right _ (List.mem_singleton.mpr rfl)
     ·exact List.mem_append_left _ (all j kv (by omega) ej c t e1 e2 e3)
    ·rw [List.length_append,List.length_singleton]
     omega
   ·have ew : r.h≠hh:=by simpa using ew
    refine ⟨fr,hd,us,hD,own,fun j kv hj ej c t e1 e2 e3=>?_,Nat.le_succ_of_le len⟩
    by_cases e : j = i
    ·subst e
     obtain rfl:=Option.some.inj (hk.symm.trans ej)
     obtain rfl : a = c:=V.ref.inj e1
     exact absurd e3 (by rw [← row_inj ha e2]; exact ew)
    ·exact all j kv (by omega) ej c t e1 e2 e3
  ·rintro H1 ⟨fr,hd,us,hD,own,all,len⟩
   refine ⟨hd,?_⟩
   have sm : Same H (upd H1 d (.dT kvs)):=fun b o e=>by
    by_cases nb : b = d
    ·subst nb
     rw [upd_same,← h3]
     exact e
    ·rw [upd_ne nb]
     exact fr b o nb e
   refine q D us _ sm nD0 (by rw [upd_ne nDd]; exact hD) ⟨fun v m=>?_,fun r hr=>?_,by omega⟩
   ·obtain ⟨a,r,e1,e2,e3,e4⟩:=own v m
    exact ⟨a,r,e1,sm _ _ e2,e3,e4⟩
   ·obtain ⟨v,m⟩:=h4.all r hr.1
    obtain ⟨a,t,e1,e2,e3,e4⟩:=h4.own _ m
    have e1 : v = .ref a:=e1
    obtain rfl:=un r t hr.1 e3 (key2_inj e4)
    obtain ⟨j,hj⟩:=List.getElem?_of_mem m
    have:=all j _ (List.getElem?_eq_some_iff.mp hj).1 hj a r e1 e2 hr.2
    exact ⟨a,by rw [← e1]; exact this,sm _ _ e2⟩
theorem ok_jobs_of_house (T : Txt K mg af fd) : FnOk P w K mg base CX0 1 (af 22) (fd 22) ["gaps", "house"] (sp_of_house (af 62) "job_rows"):=by
 refine T.F_jobs_of_house.ok sc_jobs_of_house (fun vs H Q E h=>?_) (fun cdv A outer s H vs Q E hr h=>?_)
 ·obtain ⟨g,h,P,rfl,_⟩:=h
  rfl
 ·obtain ⟨g,hh,P,rfl,⟨⟨dx,d,fs,kvs,h1,h2,h3,h4,h5⟩,un⟩,q⟩:=h
  refine ⟨_,(pss_one (ps_ret (pe_lock (pe_lc (own:=[("row", 2)]) (g:=gName 2) (by rfl) sc_jobs_of_house.nd (Gr.pi_valuesT (pe_fld (pv 0) rfl)) (blkOk_by (own:=[("row", 2)]) (N:=["gaps", "house", "row"]) (sc:=defScope s_jobs_of_house) (by decide +kernel)) (fun _ _ _ _ _=>pg_name (i:=2) sc_jobs_of_house.nd rfl (Or.inl rfl)) (fun _ _ _ _ _=>(pts_one (pt_cmpR op_eq (pe_ix (show IxR _ (rIxT K) from ix_tup) (pv 2) pe_int (fun _ _=>rfl)) (pv 1) (nomark _)))) (fun _ _ _ _ _=>(pv 2)))))),?_⟩
  have ngd : g≠d:=ne_of h1 h3 (fun z=>nomatch z)
  refine ⟨d,_,h3,trivial,fun od=>?_⟩
  refine ⟨_,rfl,g,_,dx,fs,_,rfl,(by rw [upd_ne ngd]; exact h1),T.o_Gaps.c,T.o_Gaps.no _ (by simp),h2,d,od,kvs,rfl,upd_same,fun D nD=>?_⟩
  have nDd : D≠d:=fun e=>by rw [e,upd_same] at nD; cases nD
  have nD0 : H D = none:=by rw [upd_ne nDd] at nD; exact nD
  refine lc_it (Gr.walk_valuesT (d:=d) (o:=od) (kvs:=kvs)) (fun i H'=>(∀ b o,b≠d→H b = some o→H' b = some o)∧H' d = some (.frz od (.dT kvs))∧∃ us : List V,H' D = some (.lst us)∧(∀ v∈us,∃ a r,v = .ref a∧RowAt H a r∧P r∧r.h = hh)∧(∀ j kv,j < i→kvs[j]? = some kv→∀ a r,kv.2 = .ref a→RowAt H a r→r.h = hh→kv.2∈us)∧us.length≤i)
   ⟨fun b o nb e=>?_,?_,[],upd_same,fun _ m=>(nomatch m),fun j _ hj=>absurd hj (Nat.not_lt_zero j),Nat.le_refl _⟩ (fun i H' _ h=>h.2.1) ?_ ?_
  ·rw [upd_ne (ne_of_none e nD0),upd_ne nb]
   exact e
  ·rw [upd_ne (Ne.symm nDd),upd_same]
  ·rintro i v H1 H2 hi ⟨fr,hd,us,hD,own,all,len⟩ ⟨rfl,k,hk⟩
   obtain ⟨a,r,ev,ha,hP,ek⟩:=h4.own _ (List.mem_of_getElem? hk)
   have ev : v = .ref a:=ev
   subst ev
   have ha1 : RowAt H2 a r:=fr _ _ (ne_of ha h3 (fun z=>nomatch z)) ha
   refine ⟨rfl,_,rfl,a,_,1,_,rfl,rfl,SqT.of ha1,at1 r,_,rfl,rfl,_,rfl,ite2 (fun ew=>?_) (fun ew=>?_)⟩
   ·have ew : r.h = hh:=by simpa using ew
    refine ⟨_,rfl,us,hD,small_line (by omega),fun b o nb e=>?_,?_,_,upd_same,fun v m=>?_,fun j kv hj ej c t e1 e2 e3=>?_,?_⟩
    ·rw [upd_ne (ne_of_none e nD0)]
     exact fr b o nb e
    ·rw [upd_ne (Ne.symm nDd)]
     exact hd
    ·rcases List.mem_append.mp m with m | m
     ·exact own v m
     ·rw [List.mem_singleton.mp m]
      exact ⟨a,r,rfl,ha,hP,ew⟩
    ·by_cases e : j = i
     ·subst e
      obtain rfl:=Option.some.inj (hk.symm.trans ej)
      exact List.mem_append_right _ (List.mem_singleton.mpr rfl)
     ·exact List.mem_append_left _ (all j kv (by omega) ej c t e1 e2 e3)
    ·rw [List.length_append,List.length_singleton]
     omega
   ·have ew : r.h≠hh:=by simpa using ew
    refine ⟨fr,hd,us,hD,own,fun j kv hj ej c t e1 e2 e3=>?_,Nat.le_succ_of_le len⟩
    by_cases e : j = i
    ·subst e
     obtain rfl:=Option.some.inj (hk.symm.trans ej)
     obtain rfl : a = c:=V.ref.inj e1
     exact absurd e3 (by rw [← row_inj ha e2]; exact ew)
    ·exact all j kv (by omega) ej c t e1 e2 e3
  ·rintro H1 ⟨fr,hd,us,hD,own,all,len⟩
   refine ⟨hd,?_⟩
   have sm : Same H (upd H1 d (.dT kvs)):=fun b o e=>by
    by_cases nb : b = d
    ·subst nb
     rw [upd_same,← h3]
     exact e
    ·rw [upd_ne nb]
     exact fr b o nb e
   refine q D us _ sm nD0 (by rw [upd_ne nDd]; exact hD) ⟨fun v m=>?_,fun r hr=>?_,by omega⟩
   ·obtain ⟨a,r,e1,e2,e3,e4⟩:=own v m
    exact ⟨a,r,e1,sm _ _ e2,e3,e4⟩
   ·obtain ⟨v,m⟩:=h4.all r hr.1
    obtain ⟨a,t,e1,e2,e3,e4⟩:=h4.own _ m
    have e1 : v = .ref a:=e1
    obtain rfl:=un r t hr.1 e3 (key2_inj e4)
    obtain ⟨j,hj⟩:=List.getElem?_of_mem m
    have:=all j _ (List.getElem?_eq_some_iff.mp hj).1 hj a r e1 e2 hr.2
    exact ⟨a,by rw [← e1]; exact this,sm _ _ e2⟩
namespace Gr
theorem lc2_it {J : It} {n : Nat} {G : Hp→Prop} {Y : Nat→Hp→V→Hp→Prop} (w : Walk J n G Y) {g g1 : TG} {tt tt1 : TT} {wi1 : TI} {te : TE} {own vs1 : List Nat} {σ : L2.St} {H1 : Hp} {D : Addr} {Qd : Hp→Prop} (Pv : Nat→Hp→Prop) (h0 : Pv 0 (upd H1 D (.lst []))) (hG : ∀ i H,i≤n→Pv i H→G H)
  (hs : ∀ i x H H',i < n→Pv i H→Y i H x H'→g x (wipe σ own) H' fun σ2 H2=>wipe σ2 own = wipe σ own∧tt σ2 H2 fun b H3 =>
   if b = true then wi1 σ2 H3 fun J1 H4=>∃ W1 : Nat→Nat→Hp→Prop,(∃ m,W1 0 m H4)∧∀ j k H,W1 j k H →
    (J1.stop j H∧Pv (i + 1) H)∨(J1.go j H∧∃ Nx1 : Hp→Prop,(∀ H',Nx1 H'→∃ k',k' < k∧W1 (j + 1) k' H')∧∀ x H',J1.yld j H x H'→g1 x (wipe σ2 vs1) H' fun σ3 H5=>wipe σ3 vs1 = wipe σ2 vs1∧tt1 σ3 H5 fun b H6 =>
     if b = true then te σ3 H6 fun y H7=>∃ acc,H7 D = some (.lst acc)∧acc.length < sizeLine∧Nx1 (upd H7 D (.lst (acc ++ [y]))) else Nx1 H6)
   else Pv (i + 1) H3) (hd : ∀ H,Pv n H→Qd H) :
  ∃ W : Nat→Nat→Hp→Prop,(∃ m,W 0 m (upd H1 D (.lst [])))∧∀ i m H,W i m H →
   (J.stop i H∧Qd H)∨(J.go i H∧∃ Nx : Hp→Prop,(∀ H',Nx H'→∃ m',m' < m∧W (i + 1) m' H')∧∀ x H',J.yld i H x H'→g x (wipe σ own) H' fun σ2 H2=>wipe σ2 own = wipe σ own∧tt σ2 H2 fun b H3 =>
    if b = true then wi1 σ2 H3 fun J1 H4=>∃ W1 : Nat→Nat→Hp→Prop,(∃ m,W1 0 m H4)∧∀ j k H,W1 j k H →
     (J1.stop j H∧Nx H)∨(J1.go j H∧∃ Nx1 : Hp→Prop,(∀ H',Nx1 H'→∃ k',k' < k∧W1 (j + 1) k' H')∧∀ x H',J1.yld j H x H'→g1 x (wipe σ2 vs1) H' fun σ3 H5=>wipe σ3 vs1 = wipe σ2 vs1∧tt1 σ3 H5 fun b H6 =>
      if b = true then te σ3 H6 fun y H7=>∃ acc,H7 D = some (.lst acc)∧acc.length < sizeLine∧Nx1 (upd H7 D (.lst (acc ++ [y]))) else Nx1 H6)
    else Nx H3):=by
 refine ⟨fun i m H=>m = n - i∧i≤n∧Pv i H,⟨n,by simp,Nat.zero_le _,h0⟩,?_⟩
 rintro i m G1 ⟨rfl,hi,p⟩
 have gg:=hG i G1 hi p
 by_cases hlt : i < n
 ·exact .inr ⟨w.goes i G1 hlt gg,Pv (i + 1),fun G2 p2=>⟨n - (i + 1),by omega,rfl,hlt,p2⟩,fun x G2 y=>hs i x G1 G2 hlt p (w.yields i G1 x G2 hlt gg y)⟩
 ·have e : i = n:=by omega
  subst e
  exact .inl ⟨w.stops G1 gg,hd G1 p⟩
theorem in_it {J : It} {n : Nat} {G : Hp→Prop} {Y : Nat→Hp→V→Hp→Prop} (w : Walk J n G Y) {g : TG} {tt : TT} {te : TE} {own : List Nat} {σ : L2.St} {H0 : Hp} {D : Addr} {Qd : Hp→Prop} (Pv : Nat→Hp→Prop) (h0 : Pv 0 H0) (hG : ∀ i H,i≤n→Pv i H→G H)
  (hs : ∀ i x H H',i < n→Pv i H→Y i H x H'→g x (wipe σ own) H' fun σ3 H5=>wipe σ3 own = wipe σ own∧tt σ3 H5 fun b H6 =>
   if b = true then te σ3 H6 fun y H7=>∃ acc,H7 D = some (.lst acc)∧acc.length < sizeLine∧Pv (i + 1) (upd H7 D (.lst (acc ++ [y]))) else Pv (i + 1) H6) (hd : ∀ H,Pv n H→Qd H) :
  ∃ W1 : Nat→Nat→Hp→Prop,(∃ m,W1 0 m H0)∧∀ j k H,W1 j k H →
   (J.stop j H∧Qd H)∨(J.go j H∧∃ Nx1 : Hp→Prop,(∀ H',Nx1 H'→∃ k',k' < k∧W1 (j + 1) k' H')∧∀ x H',J.yld j H x H'→g x (wipe σ own) H' fun σ3 H5=>wipe σ3 own = wipe σ own∧tt σ3 H5 fun b H6 =>
    if b = true then te σ3 H6 fun y H7=>∃ acc,H7 D = some (.lst acc)∧acc.length < sizeLine∧Nx1 (upd H7 D (.lst (acc ++ [y]))) else Nx1 H6):=by
 refine ⟨fun i m H=>m = n - i∧i≤n∧Pv i H,⟨n,by simp,Nat.zero_le _,h0⟩,?_⟩
 rintro i m G1 ⟨rfl,hi,p⟩
 have gg:=hG i G1 hi p
 by_cases hlt : i < n
 ·exact .inr ⟨w.goes i G1 hlt gg,Pv (i + 1),fun G2 p2=>⟨n - (i + 1),by omega,rfl,hlt,p2⟩,fun x G2 y=>hs i x G1 G2 hlt p (w.yields i G1 x G2 hlt gg y)⟩
 ·have e : i = n:=by omega
  subst e
  exact .inl ⟨w.stops G1 gg,hd G1 p⟩
end Gr
inductive HKs (H : Hp) : List V→List Gr.HK→Prop
 | nil : HKs H [] []
 | cons {b : Addr} {k : Gr.HK} {us : List V} {ks : List Gr.HK} : H b = some (.tup ((Gr.keyOf k).map kV))→HKs H us ks→HKs H (.ref b :: us) (k :: ks)
theorem HKs.len {H : Hp} : ∀ {us : List V} {ks : List Gr.HK},HKs H us ks→us.length = ks.length
 | _,_,.nil=>rfl
 | _,_,.cons _ r=>by rw [List.length_cons,List.length_cons,r.len]
theorem HKs.go {H H' : Hp} (s : ∀ b xs,H b = some (.tup xs)→H' b = some (.tup xs)) : ∀ {us : List V} {ks : List Gr.HK},HKs H us ks→HKs H' us ks
 | _,_,.nil=>.nil
 | _,_,.cons h r=>.cons (s _ _ h) (r.go s)
theorem HKs.snoc {H : Hp} {b : Addr} {k : Gr.HK} (hb : H b = some (.tup ((Gr.keyOf k).map kV))) : ∀ {us : List V} {ks : List Gr.HK},HKs H us ks→HKs H (us ++ [.ref b]) (ks ++ [k])
 | _,_,.nil=>.cons hb .nil
 | _,_,.cons h r=>.cons h (r.snoc hb)
theorem HKs.at {H : Hp} : ∀ {us : List V} {ks : List Gr.HK} {i : Nat} {k : Gr.HK},HKs H us ks→ks[i]? = some k→∃ b,us[i]? = some (.ref b)∧H b = some (.tup ((Gr.keyOf k).map kV))
 | _,_,0,_,.cons h _,e=>⟨_,rfl,by obtain rfl:=Option.some.inj e; exact h⟩
 | _,_,_ + 1,_,.cons _ r,e=>r.at e
def below (hs : List Str) (cnt : Str→Nat) : List Gr.HK:=hs.flatMap fun h=>(List.range (cnt h)).map fun n : Nat=>((h,(n : Int)) : Gr.HK)
theorem mem_below {hs : List Str} {cnt : Str→Nat} {k : Gr.HK} : k∈below hs cnt↔k.1∈hs∧0≤k.2∧k.2 < (cnt k.1 : Int):=by
 unfold below
 rw [List.mem_flatMap]
 constructor
 ·rintro ⟨h,mh,m⟩
  obtain ⟨n,mn,rfl⟩:=List.mem_map.mp m
  have:=List.mem_range.mp mn
  exact ⟨mh,Int.natCast_nonneg n,Int.ofNat_lt.mpr this⟩
 ·rintro ⟨h1,h2,h3⟩
  refine ⟨k.1,h1,List.mem_map.mpr ⟨k.2.toNat,List.mem_range.mpr (by omega),Prod.ext rfl ?_⟩⟩
  show (k.2.toNat : Int) = k.2
  omega
theorem below_snoc (hs : List Str) (h : Str) (cnt : Str→Nat) : below (hs ++ [h]) cnt = below hs cnt ++ (List.range (cnt h)).map fun n : Nat=>((h,(n : Int)) : Gr.HK):=by
 unfold below
 rw [List.flatMap_append]
 simp
theorem below_len (cnt : Str→Nat) : ∀ hs : List Str,(∀ h∈hs,cnt h≤100)→(below hs cnt).length≤hs.length * 100
 | [],_=>Nat.le_refl _
 | h :: hs,b=>by
  have ih:=below_len cnt hs fun x m=>b x (List.mem_cons_of_mem _ m)
  have b1:=b h List.mem_cons_self
  have e : (below (h :: hs) cnt).length = cnt h + (below hs cnt).length:=by
   unfold below
   rw [List.flatMap_cons,List.length_append,List.length_map,List.length_range]
  rw [e,List.length_cons]
  omega
def sp_below : Sp:=fun vs H Q _=>∃ (t d : Addr) (hs gs : List Str) (kvs : List (Key × V)) (cnt : Str→Nat),vs = [.ref t,.ref d]∧TownAt H t hs gs∧H d = some (.dK kvs)∧hs.length≤6∧(∀ h∈hs,valV kvs (.inr h) = some (.int (cnt h : Nat))∧cnt h≤100) ∧
 ∀ (D : Addr) (us : List V) (H' : Hp),Same H H'→H D = none→H' D = some (.lst us)→HKs H' us (below hs cnt)→Q (.ref D) H'
theorem ok_numbers_below (T : Txt K mg af fd) : FnOk P w K mg base CX0 1 (af 20) (fd 20) ["town", "counts"] sp_below:=by
 refine T.F_numbers_below.ok sc_numbers_below (fun vs H Q E h=>?_) (fun cdv A outer s H vs Q E hr h=>?_)
 ·obtain ⟨t,d,hs,gs,kvs,cnt,rfl,_⟩:=h
  rfl
 ·obtain ⟨t,d,hs,gs,kvs,cnt,rfl,⟨ta,tb,t1,t2,t3⟩,hd,h6,hv,q⟩:=h
  refine ⟨_,(pss_one (ps_ret (pe_lc2 (own:=[("house", 2),("number", 3)]) (vs1:=[3]) (g:=gName 2) (g1:=gName 3) (by rfl) sc_numbers_below.nd (pi_tup (pe_ix ix_tup (pv 0) pe_int (fun _ _=>rfl))) (blkOk_by (own:=[("house", 2),("number", 3)]) (N:=["town", "counts", "house", "number"]) (sc:=defScope s_numbers_below) (by decide +kernel)) (by decide) (fun _ _ _ _ _=>pg_name (i:=2) sc_numbers_below.nd rfl (Or.inl rfl)) (fun _ _ _ _ _=>pts_nil) (fun _ _ _ _ _=>(pi_range1 (by rfl) T.m_range (pa_cons (pe_dget (hu_of hr) (pv 1) (pv 2) (fun _ _=>rfl)) pa_nil))) (fun _ _ _ _ _=>pg_name (i:=3) sc_numbers_below.nd rfl (Or.inl rfl)) (fun _ _ _ _ _=>pts_nil) (fun _ _ _ _ _=>(pe_tup (pa_cons (pv 2) (pa_cons (pv 3) pa_nil))))))),?_⟩
  refine ⟨_,rfl,t,_,0,_,rfl,rfl,SqT.of t1,rfl,ta,rfl,⟨_,SqT.of t2⟩,fun D nD=>?_⟩
  refine Gr.lc2_it (walk_tup (K:=K) (a:=ta) (xs:=hs.map V.str)) (fun i H'=>Same H H'∧∃ us,H' D = some (.lst us)∧HKs H' us (below (hs.take i) cnt))
   ⟨same_upd nD,[],upd_same,by rw [List.take_zero]; exact .nil⟩ (fun i H' _ h=>SqT.of (h.1 _ _ t2)) ?_ ?_
  ·rintro i v H1 H2 hi ⟨g1,us,hD,hk⟩ ⟨rfl,ev⟩
   rw [List.length_map] at hi
   have eh : hs[i]? = some hs[i]:=List.getElem?_eq_getElem hi
   have mh : hs[i]∈hs:=List.getElem_mem hi
   generalize hs[i] = h at eh mh
   rw [List.getElem?_map,eh] at ev
   obtain rfl : V.str h = v:=Option.some.inj ev
   obtain ⟨hv1,hv2⟩:=hv h mh
   have hd2:=g1 _ _ hd
   have blen : (below (hs.take i) cnt).length≤600:=by
    have:=below_len cnt (hs.take i) fun x m=>(hv x (List.mem_of_mem_take m)).2
    have l2 : (hs.take i).length≤6:=Nat.le_trans (List.length_take_le ..) (by omega)
    omega
   refine ⟨rfl,yes_if ?_⟩
   refine ⟨_,rfl,_,rfl,d,_,rfl,(by rw [← hv1]; exact DGet.k (k:=Sum.inr h) hd2),_,rfl,by omega,by omega,?_⟩
   refine Gr.in_it (walk_range (lo:=0) (n:=((cnt h : Nat) : Int).toNat)) (fun j H'=>Same H H'∧∃ us,H' D = some (.lst us)∧HKs H' us (below (hs.take i) cnt ++ (List.range j).map fun n : Nat=>((h,(n : Int)) : Gr.HK)))
    ⟨g1,us,hD,by rw [List.range_zero,List.map_nil,List.append_nil]; exact hk⟩ (fun _ _ _ _=>trivial) ?_ ?_
   ·rintro j w H3 H4 hj ⟨g3,us3,hD3,hk3⟩ ⟨rfl,rfl⟩
    rw [Int.toNat_natCast] at hj
    refine ⟨rfl,yes_if ⟨_,rfl,_,rfl,(by show 2≤sizeLine; decide),fun b nb=>?_⟩⟩
    have hDb : (upd H4 b (.tup [.str h,.int (0 + (j : Nat))])) D = some (.lst us3):=by rw [upd_ne (ne_of_none hD3 nb)]; exact hD3
    have l3:=hk3.len
    rw [List.length_append,List.length_map,List.length_range] at l3
    refine ⟨us3,hDb,small_line (by omega),same_mut (same_mut g3 (g3.free nb)) nD,_,upd_same,?_⟩
    rw [List.range_succ,List.map_append,← List.append_assoc]
    have tup : ∀ c xs,H4 c = some (.tup xs)→(upd (upd H4 b (.tup [.str h,.int (0 + (j : Nat))])) D (.lst (us3 ++ [.ref b]))) c = some (.tup xs):=fun c xs e=>by
     rw [upd_ne (ne_of e hD3 (fun z=>nomatch z)),upd_ne (ne_of_none e nb)]
     exact e
    refine (hk3.go tup).snoc (k:=(h,(j : Int))) ?_
    rw [upd_ne (fun z=>by rw [z] at nb; rw [nb] at hD3; cases hD3),upd_same,Int.zero_add]
    rfl
   ·rintro H3 ⟨g3,us3,hD3,hk3⟩
    rw [Int.toNat_natCast] at hk3
    refine ⟨g3,us3,hD3,?_⟩
    rw [List.take_add_one,eh,Option.toList_some,below_snoc]
    exact hk3
  ·rintro H1 ⟨g1,us,hD,hk⟩
   rw [List.length_map,List.take_length] at hk
   exact q D us H1 g1 nD hD hk
def sp_best (le : Int→Int→Prop) : Sp:=fun vs H Q _=>∃ (l : Addr) (ns : List Int),vs = [.ref l]∧H l = some (.lst (ns.map V.int))∧∀ v,Gr.Best le ns .non v→Q v H
theorem ok_earliest (T : Txt K mg af fd) : FnOk P w K mg base CX0 1 (af 25) (fd 25) ["times"] (sp_best fun y m=>m≤y):=by
 refine T.F_earliest.ok sc_earliest (fun vs H Q E h=>?_) (fun cdv A outer s H vs Q E hr h=>?_)
 ·obtain ⟨l,ns,rfl,_⟩:=h
  rfl
 ·obtain ⟨l,ns,rfl,hl,q⟩:=h
  refine ⟨_,(pss_one (ps_ret (pe_callBK (Gr.cr_minDf rfl (hu_of hr)) (by rfl) T.m_min (by decide +kernel) (pa_cons (pv 0) pa_nil) (pk_cons pe_non pk_nil)))),?_⟩
  exact ⟨_,rfl,l,ns,_,rfl,rfl,SqL.of hl,q⟩
theorem ok_latest (T : Txt K mg af fd) : FnOk P w K mg base CX0 1 (af 26) (fd 26) ["times"] (sp_best fun y m=>y≤m):=by
 refine T.F_latest.ok sc_latest (fun vs H Q E h=>?_) (fun cdv A outer s H vs Q E hr h=>?_)
 ·obtain ⟨l,ns,rfl,_⟩:=h
  rfl
 ·obtain ⟨l,ns,rfl,hl,q⟩:=h
  refine ⟨_,(pss_one (ps_ret (pe_callBK (Gr.cr_maxDf rfl (hu_of hr)) (by rfl) T.m_max (by decide +kernel) (pa_cons (pv 0) pa_nil) (pk_cons pe_non pk_nil)))),?_⟩
  exact ⟨_,rfl,l,ns,_,rfl,rfl,SqL.of hl,q⟩
def Row.x3 : Row→Int
 | .ask _ _ _ n _ _=>n
 | .job _ _ o _=>o
 | .all _ _ j=>j
def Row.x5 : Row→Int
 | .ask _ _ _ _ o _=>o
 | _=>0
def Row.x6 : Row→Int
 | .ask _ _ _ _ _ b=>b
 | _=>0
theorem at3 (r : Row) : atI r.vals 3 = some (.int r.x3):=by cases r <;> rfl
theorem w_ja' : ("job" : Str)≠("ask" : Str):=fun e=>w_aj e.symm
theorem w_la : ("all" : Str)≠("ask" : Str):=fun e=>w_aa e.symm
theorem at5 {r : Row} (h : r.word = "ask") : atI r.vals 5 = some (.int r.x5):=by
 cases r with
 | ask _ _ _ _ _ _=>rfl
 | job _ _ _ _=>exact absurd h w_ja'
 | all _ _ _=>exact absurd h w_la
theorem at6 {r : Row} (h : r.word = "ask") : atI r.vals 6 = some (.int r.x6):=by
 cases r with
 | ask _ _ _ _ _ _=>rfl
 | job _ _ _ _=>exact absurd h w_ja'
 | all _ _ _=>exact absurd h w_la
theorem wipe_one (σ : L2.St) (i : Nat) (v : V) : wipe ((wipe σ [i]).set i (some v)) [i] = wipe σ [i]:=by
 show ((σ.set i none).set i (some v)).set i none = σ.set i none
 rw [List.set_set,List.set_set]
theorem sel_map {l D : Addr} {us : List V} {S : Row→Prop} {σ : L2.St} {i : Nat} {tt : TT} {te : TE} {H1 : Hp} {Qd : Hp→Prop} (c : Row→Bool) (f : Row→Int) (hl : H1 l = some (.lst us)) (hS : Sel H1 us S) (nD : H1 D = none)
  (htt : ∀ a r H2 (Kt : Bool→Hp→Prop),S r→RowAt H2 a r→Kt (c r) H2→tt ((wipe σ [i]).set i (some (.ref a))) H2 Kt)
  (hte : ∀ a r H2 (Ke : V→Hp→Prop),S r→c r = true→RowAt H2 a r→Ke (.int (f r)) H2→te ((wipe σ [i]).set i (some (.ref a))) H2 Ke)
  (hd : ∀ (ns : List Int) (H' : Hp),Same H1 H'→H' D = some (.lst (ns.map V.int))→(∀ n,n∈ns↔∃ r,S r∧c r = true∧f r = n)→ns.length≤1000→Qd H') :
  ∃ W : Nat→Nat→Hp→Prop,(∃ m,W 0 m (upd H1 D (.lst [])))∧∀ k m H,W k m H →
   ((Itl K l).stop k H∧Qd H)∨((Itl K l).go k H∧∃ Nx : Hp→Prop,(∀ H',Nx H'→∃ m',m' < m∧W (k + 1) m' H')∧∀ x H',(Itl K l).yld k H x H'→gName i x (wipe σ [i]) H' fun σ2 H2=>wipe σ2 [i] = wipe σ [i]∧tt σ2 H2 fun b H3 =>
    if b = true then te σ2 H3 fun y H4=>∃ acc,H4 D = some (.lst acc)∧acc.length < sizeLine∧Nx (upd H4 D (.lst (acc ++ [y]))) else Nx H3):=by
 refine lc_it (walk_list (K:=K) (a:=l) (xs:=us)) (g:=gName i) (fun k H'=>Same H1 H'∧∃ ns : List Int,H' D = some (.lst (ns.map V.int))∧(∀ n∈ns,∃ r,S r∧c r = true∧f r = n)∧(∀ j a r,j < k→us[j]? = some (.ref a)→RowAt H1 a r→c r = true→f r∈ns)∧ns.length≤k)
  ⟨same_upd nD,[],upd_same,fun _ m=>(nomatch m),fun j _ _ hj=>absurd hj (Nat.not_lt_zero j),Nat.le_refl _⟩ (fun k H' _ h=>SqL.of (h.1 _ _ hl)) ?_ ?_
 ·rintro k v G1 G2 hk ⟨g1,ns,hD,own,all,len⟩ ⟨rfl,ev⟩
  obtain ⟨a,r,rfl,ha,hs⟩:=hS.own v (List.mem_of_getElem? ev)
  refine ⟨wipe_one σ i _,htt a r G2 _ hs (g1 _ _ ha) ?_⟩
  have hlen:=hS.len
  cases hc : c r with
  | true =>
   refine iteT (hte a r G2 _ hs hc (g1 _ _ ha) ⟨_,hD,small_line (by rw [List.length_map]; omega),same_mut g1 nD,ns ++ [f r],?_,fun n m=>?_,fun j b t hj eb hb ht=>?_,?_⟩)
   ·rw [upd_same,List.map_append]
    rfl
   ·rcases List.mem_append.mp m with m | m
    ·exact own n m
    ·exact ⟨r,hs,hc,(List.mem_singleton.mp m).symm⟩
   ·by_cases e : j = k
    ·subst e
     obtain rfl : a = b:=V.ref.inj (Option.some.inj (ev.symm.trans eb))
     obtain rfl:=row_inj ha hb
     exact List.mem_append_right _ (List.mem_singleton.mpr rfl)
    ·exact List.mem_append_left _ (all j b t (by omega) eb hb ht)
   ·rw [List.length_append,List.length_singleton]
    omega
  | false =>
   refine iteF ⟨g1,ns,hD,own,fun j b t hj eb hb ht=>?_,Nat.le_succ_of_le len⟩
   by_cases e : j = k
   ·subst e
    obtain rfl : a = b:=V.ref.inj (Option.some.inj (ev.symm.trans eb))
    obtain rfl:=row_inj ha hb
    rw [hc] at ht
    cases ht
   ·exact all j b t (by omega) eb hb ht
 ·rintro G1 ⟨g1,ns,hD,own,all,len⟩
  refine hd ns G1 g1 hD (fun n=>⟨own n,?_⟩) (Nat.le_trans len hS.len)
  rintro ⟨r,hs,hc,rfl⟩
  obtain ⟨a,m,ha⟩:=hS.all r hs
  obtain ⟨j,hj⟩:=List.getElem?_of_mem m
  exact all j a r (List.getElem?_eq_some_iff.mp hj).1 hj ha hc
def BestS (le : Int→Int→Prop) (S : Int→Prop) (d v : V) : Prop:=((∀ n,¬ S n)∧v = d)∨∃ m,S m∧(∀ y,S y→le y m)∧v = .int m
theorem best_of {le : Int→Int→Prop} {S : Int→Prop} {ns : List Int} {d v : V} (h : Gr.Best le ns d v) (e : ∀ n,n∈ns↔S n) : BestS le S d v:=by
 rcases h with ⟨rfl,rfl⟩ | ⟨m,h1,h2,rfl⟩
 ·exact .inl ⟨fun n s=>(nomatch (e n).mpr s),rfl⟩
 ·exact .inr ⟨m,(e m).mp h1,fun y s=>h2 y ((e y).mpr s),rfl⟩
abbrev geS:=BestS fun y m=>y≤m
abbrev leS:=BestS fun y m=>m≤y
def Bk (rs : List Row) (wd : Str) (r : Row) : Prop:=r∈rs∧r.word = wd
def keyH (r : Row) : Key:=.inr r.h
structure FldK (C : Addr) (H : Hp) (g : Addr) (f : Str) (P : Row→Prop) : Prop where
 ex : ∃ (dx d : Addr) (fs : List (Str × V)) (kvs : List (Key × V)),H g = some (.ins C dx fs)∧fs.lookup f = some (.ref d)∧H d = some (.dK kvs)∧DRow keyH H P kvs∧kvs.length≤1000
 un : ∀ r t,P r→P t→r.h = t.h→r = t
theorem FldK.same {C : Addr} {H H' : Hp} {g : Addr} {f : Str} {P : Row→Prop} (h : FldK C H g f P) (s : Same H H') : FldK C H' g f P:=by
 obtain ⟨dx,d,fs,kvs,h1,h2,h3,h4,h5⟩:=h.ex
 exact ⟨⟨dx,d,fs,kvs,s _ _ h1,h2,s _ _ h3,h4.same (Same.rows s),h5⟩,h.un⟩
structure Low (C : Addr) (H : Hp) (g : Addr) (rs : List Row) : Prop where
 a : FldT C H g "ask_rows" (Bk rs "ask")
 j : FldT C H g "job_rows" (Bk rs "job")
 l : FldK C H g "all_rows" (Bk rs "all")
 wf : ∀ r∈rs,r.Wf
theorem Low.same {C : Addr} {H H' : Hp} {g : Addr} {rs : List Row} (h : Low C H g rs) (s : Same H H') : Low C H' g rs:=⟨h.a.same s,h.j.same s,h.l.same s,h.wf⟩
def AskOf (rs : List Row) (h : Str) (r : Row) : Prop:=Bk rs "ask" r∧r.h = h
def JobOf (rs : List Row) (h : Str) (r : Row) : Prop:=Bk rs "job" r∧r.h = h
def AllOf (rs : List Row) (h : Str) (r : Row) : Prop:=Bk rs "all" r∧r.h = h
def CntA (rs : List Row) (h : Str) (n : Int) : Prop:=(∃ r,AllOf rs h r∧n = r.k)∨((∀ r,¬ AllOf rs h r)∧∃ m,geS (fun x=>∃ r,AskOf rs h r∧r.k = x) (.int (-1)) (.int m)∧n = 1 + m)
def CntJ (rs : List Row) (h : Str) (n : Int) : Prop:=(∃ r,AllOf rs h r∧n = r.x3)∨((∀ r,¬ AllOf rs h r)∧∃ m,geS (fun x=>(∃ r,JobOf rs h r∧r.k = x)∨∃ r,AskOf rs h r∧r.x3 = x) (.int (-1)) (.int m)∧n = 1 + m)
theorem best_int {le : Int→Int→Prop} {ns : List Int} {d : Int} {v : V} (h : Gr.Best le ns (.int d) v) : ∃ m,v = .int m∧(m = d∨m∈ns):=by
 rcases h with ⟨_,rfl⟩ | ⟨m,h1,_,rfl⟩
 ·exact ⟨d,rfl,.inl rfl⟩
 ·exact ⟨m,rfl,.inr h1⟩
theorem wf_k {r : Row} (h : r.Wf) : 0≤r.k∧r.k≤15:=by
 cases r with
 | ask h g k n o b =>
  have:=h.2.2.1
  exact ⟨this.1,by have:=this.2; show k≤15; omega⟩
 | job h k o b =>
  have:=h.2.1
  exact ⟨this.1,by have:=this.2; show k≤15; omega⟩
 | all h a j=>exact h.2.1
theorem wf_x3 {r : Row} (h : r.Wf) (hw : r.word ≠ "job") : 0≤r.x3∧r.x3≤15:=by
 cases r with
 | ask h g k n o b =>
  have:=h.2.2.2.1
  exact ⟨this.1,by have:=this.2; show n≤15; omega⟩
 | job h k o b=>exact absurd rfl hw
 | all h a j=>exact h.2.2
def sp_count (C : Addr) (R : List Row→Str→Int→Prop) : Sp:=fun vs H Q _=>∃ (g : Addr) (h : Str) (rs : List Row),vs = [.ref g,.str h]∧Low C H g rs∧∀ (n : Nat) (H' : Hp),Same H H'→n≤16→R rs h (n : Nat)→Q (.int (n : Nat)) H'
theorem val_row {κ : Type} [DecidableEq κ] {key : Row→κ} {H : Hp} {P : Row→Prop} {kvs : List (κ × V)} (d : DRow key H P kvs) (k : κ) : (∃ a r,valV kvs k = some (.ref a)∧RowAt H a r∧P r∧k = key r)∨(valV kvs k = none∧∀ r,P r→key r≠k):=by
 cases e : valV kvs k with
 | some v =>
  obtain ⟨a,r,e1,e2,e3,e4⟩:=d.own _ (val_mem e)
  exact .inl ⟨a,r,by rw [← e1],e2,e3,e4⟩
 | none =>
  refine .inr ⟨rfl,fun r hr ek=>?_⟩
  obtain ⟨v,m⟩:=d.all r hr
  rw [ek] at m
  exact val_none e v m
theorem ok_count_asks (T : Txt K mg af fd) : FnOk P w K mg base CX0 2 (af 23) (fd 23) ["gaps", "house"] (sp_count (af 62) CntA):=by
 refine T.F_count_asks.ok sc_count_asks (fun vs H Q E h=>?_) (fun cdv A outer s H vs Q E hr h=>?_)
 ·obtain ⟨g,h,rs,rfl,_⟩:=h
  rfl
 ·obtain ⟨g,hh,rs,rfl,L,q⟩:=h
  refine ⟨_,(pss_cons (ps_if (pt_cmp (pc_din (hu_of hr) (pv 1) (pe_fld (pv 0) rfl))) (pss_one (ps_ret (pe_ix ix_tup (pe_dget (hu_of hr) (pe_fld (pv 0) rfl) (pv 1) (fun _ _=>rfl)) pe_int (fun _ _=>rfl)))) pss_nil)
    (pss_one (ps_ret (pe_op op_add pe_int (pe_callBK (Gr.cr_maxDf rfl (hu_of hr)) (by rfl) T.m_max (by decide +kernel) (pa_cons (pe_lc (own:=[("row", 2)]) (g:=gName 2) (by rfl) sc_count_asks.nd (pi_list (pe_call (ok_asks_of_house T) (hr.mono (by first | decide | omega)) (by rfl) T.g_asks_of_house T.F_asks_of_house.kp T.b_asks_of_house .nil pass0 (pa_cons (pv 0) (pa_cons (pv 1) pa_nil)))) (blkOk_by (own:=[("row", 2)]) (N:=["gaps", "house", "row"]) (sc:=defScope s_count_asks) (by decide +kernel)) (fun _ _ _ _ _=>pg_name (i:=2) sc_count_asks.nd rfl (Or.inl rfl)) (fun _ _ _ _ _=>pts_nil) (fun _ _ _ _ _=>(pe_ix (show IxR _ (rIxT K) from ix_tup) (pv 2) pe_int (fun _ _=>rfl)))) pa_nil) (pk_cons (pe_un un_neg pe_int) pk_nil)))))),?_⟩
  obtain ⟨dx,d,fs,kvs,l1,l2,l3,l4,l5⟩:=L.l.ex
  refine ⟨_,rfl,_,rfl,g,_,dx,fs,_,rfl,l1,T.o_Gaps.c,T.o_Gaps.no _ (by simp),l2,d,_,rfl,DGet.k (k:=Sum.inr hh) l3,_,rfl,?_⟩
  rcases val_row l4 (Sum.inr hh : Key) with ⟨a,r,e1,e2,e3,e4⟩ | ⟨e1,e2⟩
  ·have eh : r.h = hh:=(Sum.inr.inj e4).symm
   rw [e1]
   refine iteT ⟨_,rfl,g,_,dx,fs,_,rfl,l1,T.o_Gaps.c,T.o_Gaps.no _ (by simp),l2,_,rfl,d,_,rfl,(by rw [← e1]; exact DGet.k (k:=Sum.inr hh) l3),a,_,2,_,rfl,rfl,SqT.of e2,at2 r,?_⟩
   obtain ⟨b1,b2⟩:=wf_k (L.wf r e3.1)
   have:=q r.k.toNat H (Same.refl _) (by omega) (.inl ⟨r,⟨e3,eh⟩,by omega⟩)
   rw [show ((r.k.toNat : Nat) : Int) = r.k by omega] at this
   exact this
  ·rw [e1]
   refine iteF ?_
   refine ⟨_,rfl,_,rfl,g,hh,_,rfl,L.a,fun D us H1 s1 nD hD hS=>?_⟩
   refine ⟨D,rfl,⟨_,SqL.of hD⟩,fun D2 nD2=>?_⟩
   refine sel_map (fun _=>true) Row.k hD hS nD2 (fun a r H2 Kt hs ha hk=>hk) (fun a r H2 Ke hs hc ha hk=>⟨_,rfl,a,_,2,_,rfl,rfl,SqT.of ha,at2 r,hk⟩) (fun ns H2 s2 hD2 hns hlen=>?_)
   refine ⟨_,rfl,D2,ns,_,rfl,rfl,SqL.of hD2,fun v hv=>?_⟩
   obtain ⟨m,rfl,hm⟩:=best_int hv
   refine ⟨_,_,rfl,rfl,?_⟩
   have hb : -1≤m∧m≤15:=by
    rcases hm with rfl | hm
    ·exact ⟨by decide,by decide⟩
    ·obtain ⟨r,hs,_,rfl⟩:=(hns m).mp hm
     have:=wf_k (L.wf r hs.1.1)
     omega
   have:=q (1 + m).toNat H2 (s1.trans s2) (by omega) (.inr ⟨fun r hr=>e2 r hr.1 (congrArg Sum.inr hr.2),m,best_of hv fun n=>?_,by omega⟩)
   ·rw [show (((1 + m).toNat : Nat) : Int) = 1 + m by omega] at this
    exact this
   ·rw [hns]
    constructor
    ·rintro ⟨r,h1,_,h2⟩
     exact ⟨r,h1,h2⟩
    ·rintro ⟨r,h1,h2⟩
     exact ⟨r,h1,rfl,h2⟩
theorem and_ex {S c : Row→Prop} [DecidablePred c] {f : Row→Int} {ns : List Int} (h : ∀ n,n∈ns↔∃ r,S r∧(decide (c r)) = true∧f r = n) (n : Int) : n∈ns↔∃ r,S r∧c r∧f r = n:=by
 rw [h]
 constructor
 ·rintro ⟨r,h1,h2,h3⟩
  exact ⟨r,h1,of_decide_eq_true h2,h3⟩
 ·rintro ⟨r,h1,h2,h3⟩
  exact ⟨r,h1,decide_eq_true h2,h3⟩
theorem all_ex {S : Row→Prop} {f : Row→Int} {ns : List Int} (h : ∀ n,n∈ns↔∃ r,S r∧(fun _ : Row=>true) r = true∧f r = n) (n : Int) : n∈ns↔∃ r,S r∧f r = n:=by
 rw [h]
 constructor
 ·rintro ⟨r,h1,_,h3⟩
  exact ⟨r,h1,h3⟩
 ·rintro ⟨r,h1,h3⟩
  exact ⟨r,h1,rfl,h3⟩
theorem ok_count_jobs (T : Txt K mg af fd) : FnOk P w K mg base CX0 2 (af 24) (fd 24) ["gaps", "house"] (sp_count (af 62) CntJ):=by
 refine T.F_count_jobs.ok sc_count_jobs (fun vs H Q E h=>?_) (fun cdv A outer s H vs Q E hr h=>?_)
 ·obtain ⟨g,h,rs,rfl,_⟩:=h
  rfl
 ·obtain ⟨g,hh,rs,rfl,L,q⟩:=h
  refine ⟨_,(pss_cons (ps_if (pt_cmp (pc_din (hu_of hr) (pv 1) (pe_fld (pv 0) rfl))) (pss_one (ps_ret (pe_ix ix_tup (pe_dget (hu_of hr) (pe_fld (pv 0) rfl) (pv 1) (fun _ _=>rfl)) pe_int (fun _ _=>rfl)))) pss_nil)
    (pss_cons (ps_setLc (i:=2) (own:=[("row", 3)]) (g:=gName 3) (by rfl) sc_count_jobs.nd rfl rfl (sw_true rfl rfl rfl (by decide +kernel)) (pi_list (pe_call (ok_jobs_of_house T) (hr.mono (by first | decide | omega)) (by rfl) T.g_jobs_of_house T.F_jobs_of_house.kp T.b_jobs_of_house .nil pass0 (pa_cons (pv 0) (pa_cons (pv 1) pa_nil)))) (blkOk_by (own:=[("row", 3)]) (N:=["gaps", "house", "done", "row", "asked_in"]) (sc:=defScope s_count_jobs) (by decide +kernel)) (fun _ _ _ _ _=>pg_name (i:=3) sc_count_jobs.nd rfl (Or.inl rfl)) (fun _ _ _ _ _=>pts_nil) (fun _ _ _ _ _=>(pe_ix (show IxR _ (rIxT K) from ix_tup) (pv 3) pe_int (fun _ _=>rfl))))
    (pss_cons (ps_setLc (i:=4) (own:=[("row", 3)]) (g:=gName 3) (by rfl) sc_count_jobs.nd rfl rfl (sw_true rfl rfl rfl (by decide +kernel)) (pi_list (pe_call (ok_asks_of_house T) (hr.mono (by first | decide | omega)) (by rfl) T.g_asks_of_house T.F_asks_of_house.kp T.b_asks_of_house .nil pass0 (pa_cons (pv 0) (pa_cons (pv 1) pa_nil)))) (blkOk_by (own:=[("row", 3)]) (N:=["gaps", "house", "done", "row", "asked_in"]) (sc:=defScope s_count_jobs) (by decide +kernel)) (fun _ _ _ _ _=>pg_name (i:=3) sc_count_jobs.nd rfl (Or.inl rfl)) (fun _ _ _ _ _=>pts_nil) (fun _ _ _ _ _=>(pe_ix (show IxR _ (rIxT K) from ix_tup) (pv 3) pe_int (fun _ _=>rfl))))
    (pss_one (ps_ret (pe_op op_add pe_int (pe_callBK (Gr.cr_maxDf rfl (hu_of hr)) (by rfl) T.m_max (by decide +kernel) (pa_cons (pe_op op_cat (pv 2) (pv 4)) pa_nil) (pk_cons (pe_un un_neg pe_int) pk_nil)))))))),?_⟩
  obtain ⟨dx,d,fs,kvs,l1,l2,l3,l4,l5⟩:=L.l.ex
  refine ⟨_,rfl,_,rfl,g,_,dx,fs,_,rfl,l1,T.o_Gaps.c,T.o_Gaps.no _ (by simp),l2,d,_,rfl,DGet.k (k:=Sum.inr hh) l3,_,rfl,?_⟩
  rcases val_row l4 (Sum.inr hh : Key) with ⟨a,r,e1,e2,e3,e4⟩ | ⟨e1,e2⟩
  ·have eh : r.h = hh:=(Sum.inr.inj e4).symm
   rw [e1]
   refine iteT ⟨_,rfl,g,_,dx,fs,_,rfl,l1,T.o_Gaps.c,T.o_Gaps.no _ (by simp),l2,_,rfl,d,_,rfl,(by rw [← e1]; exact DGet.k (k:=Sum.inr hh) l3),a,_,3,_,rfl,rfl,SqT.of e2,at3 r,?_⟩
   obtain ⟨b1,b2⟩:=wf_x3 (L.wf r e3.1) (by rw [e3.2]; exact fun z=>w_ja z.symm)
   have:=q r.x3.toNat H (Same.refl _) (by omega) (.inl ⟨r,⟨e3,eh⟩,by omega⟩)
   rw [show ((r.x3.toNat : Nat) : Int) = r.x3 by omega] at this
   exact this
  ·rw [e1]
   refine iteF ?_
   refine ⟨_,rfl,_,rfl,g,hh,_,rfl,L.j,fun D us H1 s1 nD hD hS=>?_⟩
   refine ⟨D,rfl,⟨_,SqL.of hD⟩,fun D2 nD2=>?_⟩
   refine sel_map (fun _=>true) Row.k hD hS nD2 (fun a r H2 Kt hs ha hk=>hk) (fun a r H2 Ke hs hc ha hk=>⟨_,rfl,a,_,2,_,rfl,rfl,SqT.of ha,at2 r,hk⟩) (fun ns H2 s2 hD2 hns hlen=>?_)
   have s12:=s1.trans s2
   refine ⟨_,rfl,_,rfl,g,hh,_,rfl,L.a.same s12,fun D3 us3 H3 s3 nD3 hD3 hS3=>?_⟩
   refine ⟨D3,rfl,⟨_,SqL.of hD3⟩,fun D4 nD4=>?_⟩
   refine sel_map (fun _=>true) Row.x3 hD3 hS3 nD4 (fun a r H2 Kt hs ha hk=>hk) (fun a r H2 Ke hs hc ha hk=>⟨_,rfl,a,_,3,_,rfl,rfl,SqT.of ha,at3 r,hk⟩) (fun ns4 H4 s4 hD4 hns4 hlen4=>?_)
   have s34:=s3.trans s4
   refine ⟨_,rfl,_,rfl,D2,D4,_,_,rfl,rfl,s34 _ _ hD2,hD4,(by rw [List.length_map,List.length_map]; exact Nat.le_of_lt (small_line (by omega))),fun D5 nD5=>?_⟩
   refine ⟨_,rfl,D5,ns ++ ns4,_,rfl,rfl,SqL.of (by rw [upd_same,List.map_append]),fun v hv=>?_⟩
   obtain ⟨m,rfl,hm⟩:=best_int hv
   refine ⟨_,_,rfl,rfl,?_⟩
   have hb : -1≤m∧m≤15:=by
    rcases hm with rfl | hm
    ·exact ⟨by decide,by decide⟩
    ·rcases List.mem_append.mp hm with hm | hm
     ·obtain ⟨r,hs,_,rfl⟩:=(hns m).mp hm
      have:=wf_k (L.wf r hs.1.1)
      omega
     ·obtain ⟨r,hs,_,rfl⟩:=(hns4 m).mp hm
      have:=wf_x3 (L.wf r hs.1.1) (by rw [hs.1.2]; exact w_aj)
      omega
   have:=q (1 + m).toNat _ ((s12.trans s34).trans (same_upd (o:=.lst (ns.map V.int ++ ns4.map V.int)) nD5)) (by omega) (.inr ⟨fun r hr=>e2 r hr.1 (congrArg Sum.inr hr.2),m,best_of hv fun n=>?_,by omega⟩)
   ·rw [show (((1 + m).toNat : Nat) : Int) = 1 + m by omega] at this
    exact this
   ·rw [List.mem_append,all_ex hns,all_ex hns4]
    exact Iff.rfl
def SpA (rs : List Row) (k : Gr.HK) (low high : V) : Prop:=geS (fun x=>∃ r,AskOf rs k.1 r∧r.k < k.2∧r.x5 = x) .non low∧leS (fun x=>∃ r,AskOf rs k.1 r∧k.2 < r.k∧r.x5 = x) .non high
def SpJ (rs : List Row) (k : Gr.HK) (low high last : V) : Prop:=geS (fun x=>∃ r,JobOf rs k.1 r∧r.k < k.2∧r.x3 = x) .non low ∧
 leS (fun x=>(∃ r,JobOf rs k.1 r∧k.2 < r.k∧r.x3 = x)∨∃ r,AskOf rs k.1 r∧k.2≤r.x3∧r.x5 - 1 = x) .non high∧geS (fun x=>∃ r,AskOf rs k.1 r∧r.x3 = k.2∧r.x6 = x) .non last
def Mr (rs : List Row) (h : Str) (ta tj : V) : Prop:=geS (fun x=>∃ r,AskOf rs h r∧r.x5 = x) .non ta∧geS (fun x=>∃ r,JobOf rs h r∧r.x3 = x) .non tj
def sp_span_of_ask (C : Addr) : Sp:=fun vs H Q _=>∃ (g b : Addr) (k : Gr.HK) (rs : List Row),vs = [.ref g,.ref b]∧H b = some (.tup ((Gr.keyOf k).map kV))∧Low C H g rs∧∀ (p : Addr) (low high : V) (H' : Hp),Same H H'→H p = none→H' p = some (.tup [low,high])→SpA rs k low high→Q (.ref p) H'
theorem ok_span_of_ask (T : Txt K mg af fd) : FnOk P w K mg base CX0 2 (af 27) (fd 27) ["gaps", "ask"] (sp_span_of_ask (af 62)):=by
 refine T.F_span_of_ask.ok sc_span_of_ask (fun vs H Q E h=>?_) (fun cdv A outer s H vs Q E hr h=>?_)
 ·obtain ⟨g,b,k,rs,rfl,_⟩:=h
  rfl
 ·obtain ⟨g,b,k,rs,rfl,hb,L,q⟩:=h
  refine ⟨_,(pss_cons (ps_asg (pv 1) (pg_tup rfl (pgs_cons (pg_name (i:=2) sc_span_of_ask.nd rfl (by first | exact Or.inl rfl | exact Or.inr rfl)) (pgs_cons (pg_name (i:=3) sc_span_of_ask.nd rfl (by first | exact Or.inl rfl | exact Or.inr rfl)) pgs_nil))))
    (pss_cons (ps_set (i:=4) sc_span_of_ask.nd rfl (by first | exact Or.inl rfl | exact Or.inr rfl) (pe_call (ok_asks_of_house T) (hr.mono (by first | decide | omega)) (by rfl) T.g_asks_of_house T.F_asks_of_house.kp T.b_asks_of_house .nil pass0 (pa_cons (pv 0) (pa_cons (pv 2) pa_nil))))
    (pss_cons (ps_set (i:=5) sc_span_of_ask.nd rfl (by first | exact Or.inl rfl | exact Or.inr rfl) (pe_call (ok_latest T) (hr.mono (by first | decide | omega)) (by rfl) T.g_latest T.F_latest.kp T.b_latest .nil pass0 (pa_cons (pe_lc (own:=[("row", 6)]) (g:=gName 6) (by rfl) sc_span_of_ask.nd (pi_list (pv 4)) (blkOk_by (own:=[("row", 6)]) (N:=["gaps", "ask", "house", "number", "asks", "low", "row", "high"]) (sc:=defScope s_span_of_ask) (by decide +kernel)) (fun _ _ _ _ _=>pg_name (i:=6) sc_span_of_ask.nd rfl (Or.inl rfl)) (fun _ _ _ _ _=>(pts_one (pt_cmpR op_lt (pe_ix (show IxR _ (rIxT K) from ix_tup) (pv 6) pe_int (fun _ _=>rfl)) (pv 3) (nomark _)))) (fun _ _ _ _ _=>(pe_ix (show IxR _ (rIxT K) from ix_tup) (pv 6) pe_int (fun _ _=>rfl)))) pa_nil)))
    (pss_cons (ps_set (i:=7) sc_span_of_ask.nd rfl (by first | exact Or.inl rfl | exact Or.inr rfl) (pe_call (ok_earliest T) (hr.mono (by first | decide | omega)) (by rfl) T.g_earliest T.F_earliest.kp T.b_earliest .nil pass0 (pa_cons (pe_lc (own:=[("row", 6)]) (g:=gName 6) (by rfl) sc_span_of_ask.nd (pi_list (pv 4)) (blkOk_by (own:=[("row", 6)]) (N:=["gaps", "ask", "house", "number", "asks", "low", "row", "high"]) (sc:=defScope s_span_of_ask) (by decide +kernel)) (fun _ _ _ _ _=>pg_name (i:=6) sc_span_of_ask.nd rfl (Or.inl rfl)) (fun _ _ _ _ _=>(pts_one (pt_cmpR op_gt (pe_ix (show IxR _ (rIxT K) from ix_tup) (pv 6) pe_int (fun _ _=>rfl)) (pv 3) (nomark _)))) (fun _ _ _ _ _=>(pe_ix (show IxR _ (rIxT K) from ix_tup) (pv 6) pe_int (fun _ _=>rfl)))) pa_nil)))
    (pss_one (ps_ret (pe_tup (pa_cons (pv 5) (pa_cons (pv 7) pa_nil))))))))),?_⟩
  refine ⟨_,rfl,b,_,rfl,SqT.of hb,rfl,_,_,rfl,_,_,rfl,rfl,?_⟩
  refine ⟨_,rfl,_,rfl,g,k.1,_,rfl,L.a,fun D us H1 s1 nD hD hS=>?_⟩
  refine ⟨_,rfl,D,rfl,⟨_,SqL.of hD⟩,fun D2 nD2=>?_⟩
  refine sel_map (fun r=>decide (r.k < k.2)) Row.x5 hD hS nD2 (fun a r H2 Kt hs ha hk=>⟨_,rfl,a,_,2,_,rfl,rfl,SqT.of ha,at2 r,_,rfl,_,_,rfl,rfl,_,rfl,hk⟩) (fun a r H2 Ke hs hc ha hk=>⟨_,rfl,a,_,5,_,rfl,rfl,SqT.of ha,at5 hs.1.2,hk⟩) (fun ns H2 s2 hD2 hns hlen=>?_)
  refine ⟨D2,ns,rfl,hD2,fun low hlow=>?_⟩
  have hD':=s2 _ _ hD
  refine ⟨_,rfl,D,rfl,⟨_,SqL.of hD'⟩,fun D3 nD3=>?_⟩
  refine sel_map (fun r=>decide (r.k > k.2)) Row.x5 hD' (hS.same s2) nD3 (fun a r H2 Kt hs ha hk=>⟨_,rfl,a,_,2,_,rfl,rfl,SqT.of ha,at2 r,_,rfl,_,_,rfl,rfl,_,rfl,hk⟩) (fun a r H2 Ke hs hc ha hk=>⟨_,rfl,a,_,5,_,rfl,rfl,SqT.of ha,at5 hs.1.2,hk⟩) (fun ns3 H3 s3 hD3 hns3 hlen3=>?_)
  refine ⟨D3,ns3,rfl,hD3,fun high hhigh=>?_⟩
  refine ⟨_,rfl,_,rfl,(by show 2≤sizeLine; decide),fun p np=>?_⟩
  have g3:=(s1.trans s2).trans s3
  exact q p low high _ (same_mut g3 (g3.free np)) (g3.free np) upd_same ⟨best_of hlow (and_ex hns),best_of hhigh (and_ex hns3)⟩
def sp_span_of_job (C : Addr) : Sp:=fun vs H Q _=>∃ (g b : Addr) (k : Gr.HK) (rs : List Row),vs = [.ref g,.ref b]∧H b = some (.tup ((Gr.keyOf k).map kV))∧Low C H g rs∧∀ (p : Addr) (low high last : V) (H' : Hp),Same H H'→H p = none→H' p = some (.tup [low,high,last])→SpJ rs k low high last→Q (.ref p) H'
theorem ok_span_of_job (T : Txt K mg af fd) : FnOk P w K mg base CX0 2 (af 28) (fd 28) ["gaps", "job"] (sp_span_of_job (af 62)):=by
 refine T.F_span_of_job.ok sc_span_of_job (fun vs H Q E h=>?_) (fun cdv A outer s H vs Q E hr h=>?_)
 ·obtain ⟨g,b,k,rs,rfl,_⟩:=h
  rfl
 ·obtain ⟨g,b,k,rs,rfl,hb,L,q⟩:=h
  refine ⟨_,(pss_cons (ps_asg (pv 1) (pg_tup rfl (pgs_cons (pg_name (i:=2) sc_span_of_job.nd rfl (by first | exact Or.inl rfl | exact Or.inr rfl)) (pgs_cons (pg_name (i:=3) sc_span_of_job.nd rfl (by first | exact Or.inl rfl | exact Or.inr rfl)) pgs_nil))))
    (pss_cons (ps_set (i:=4) sc_span_of_job.nd rfl (by first | exact Or.inl rfl | exact Or.inr rfl) (pe_call (ok_asks_of_house T) (hr.mono (by first | decide | omega)) (by rfl) T.g_asks_of_house T.F_asks_of_house.kp T.b_asks_of_house .nil pass0 (pa_cons (pv 0) (pa_cons (pv 2) pa_nil))))
    (pss_cons (ps_set (i:=5) sc_span_of_job.nd rfl (by first | exact Or.inl rfl | exact Or.inr rfl) (pe_call (ok_jobs_of_house T) (hr.mono (by first | decide | omega)) (by rfl) T.g_jobs_of_house T.F_jobs_of_house.kp T.b_jobs_of_house .nil pass0 (pa_cons (pv 0) (pa_cons (pv 2) pa_nil))))
    (pss_cons (ps_set (i:=6) sc_span_of_job.nd rfl (by first | exact Or.inl rfl | exact Or.inr rfl) (pe_call (ok_latest T) (hr.mono (by first | decide | omega)) (by rfl) T.g_latest T.F_latest.kp T.b_latest .nil pass0 (pa_cons (pe_lc (own:=[("row", 7)]) (g:=gName 7) (by rfl) sc_span_of_job.nd (pi_list (pv 5)) (blkOk_by (own:=[("row", 7)]) (N:=["gaps", "job", "house", "number", "asks", "jobs", "low", "row", "begins", "ahead_of_asks", "last"]) (sc:=defScope s_span_of_job) (by decide +kernel)) (fun _ _ _ _ _=>pg_name (i:=7) sc_span_of_job.nd rfl (Or.inl rfl)) (fun _ _ _ _ _=>(pts_one (pt_cmpR op_lt (pe_ix (show IxR _ (rIxT K) from ix_tup) (pv 7) pe_int (fun _ _=>rfl)) (pv 3) (nomark _)))) (fun _ _ _ _ _=>(pe_ix (show IxR _ (rIxT K) from ix_tup) (pv 7) pe_int (fun _ _=>rfl)))) pa_nil)))
    (pss_cons (ps_setLc (i:=8) (own:=[("row", 7)]) (g:=gName 7) (by rfl) sc_span_of_job.nd rfl rfl (sw_true rfl rfl rfl (by decide +kernel)) (pi_list (pv 5)) (blkOk_by (own:=[("row", 7)]) (N:=["gaps", "job", "house", "number", "asks", "jobs", "low", "row", "begins", "ahead_of_asks", "last"]) (sc:=defScope s_span_of_job) (by decide +kernel)) (fun _ _ _ _ _=>pg_name (i:=7) sc_span_of_job.nd rfl (Or.inl rfl)) (fun _ _ _ _ _=>(pts_one (pt_cmpR op_gt (pe_ix (show IxR _ (rIxT K) from ix_tup) (pv 7) pe_int (fun _ _=>rfl)) (pv 3) (nomark _)))) (fun _ _ _ _ _=>(pe_ix (show IxR _ (rIxT K) from ix_tup) (pv 7) pe_int (fun _ _=>rfl))))
    (pss_cons (ps_setLc (i:=9) (own:=[("row", 7)]) (g:=gName 7) (by rfl) sc_span_of_job.nd rfl rfl (sw_true rfl rfl rfl (by decide +kernel)) (pi_list (pv 4)) (blkOk_by (own:=[("row", 7)]) (N:=["gaps", "job", "house", "number", "asks", "jobs", "low", "row", "begins", "ahead_of_asks", "last"]) (sc:=defScope s_span_of_job) (by decide +kernel)) (fun _ _ _ _ _=>pg_name (i:=7) sc_span_of_job.nd rfl (Or.inl rfl)) (fun _ _ _ _ _=>(pts_one (pt_cmpR op_ge (pe_ix (show IxR _ (rIxT K) from ix_tup) (pv 7) pe_int (fun _ _=>rfl)) (pv 3) (nomark _)))) (fun _ _ _ _ _=>(pe_op op_sub (pe_ix (show IxR _ (rIxT K) from ix_tup) (pv 7) pe_int (fun _ _=>rfl)) pe_int)))
    (pss_cons (ps_set (i:=10) sc_span_of_job.nd rfl (by first | exact Or.inl rfl | exact Or.inr rfl) (pe_call (ok_latest T) (hr.mono (by first | decide | omega)) (by rfl) T.g_latest T.F_latest.kp T.b_latest .nil pass0 (pa_cons (pe_lc (own:=[("row", 7)]) (g:=gName 7) (by rfl) sc_span_of_job.nd (pi_list (pv 4)) (blkOk_by (own:=[("row", 7)]) (N:=["gaps", "job", "house", "number", "asks", "jobs", "low", "row", "begins", "ahead_of_asks", "last"]) (sc:=defScope s_span_of_job) (by decide +kernel)) (fun _ _ _ _ _=>pg_name (i:=7) sc_span_of_job.nd rfl (Or.inl rfl)) (fun _ _ _ _ _=>(pts_one (pt_cmpR op_eq (pe_ix (show IxR _ (rIxT K) from ix_tup) (pv 7) pe_int (fun _ _=>rfl)) (pv 3) (nomark _)))) (fun _ _ _ _ _=>(pe_ix (show IxR _ (rIxT K) from ix_tup) (pv 7) pe_int (fun _ _=>rfl)))) pa_nil)))
    (pss_one (ps_ret (pe_tup (pa_cons (pv 6) (pa_cons (pe_call (ok_earliest T) (hr.mono (by first | decide | omega)) (by rfl) T.g_earliest T.F_earliest.kp T.b_earliest .nil pass0 (pa_cons (pe_op op_cat (pv 8) (pv 9)) pa_nil)) (pa_cons (pv 10) pa_nil))))))))))))),?_⟩
  refine ⟨_,rfl,b,_,rfl,SqT.of hb,rfl,_,_,rfl,_,_,rfl,rfl,?_⟩
  refine ⟨_,rfl,_,rfl,g,k.1,_,rfl,L.a,fun DA us H1 s1 nDA hDA hSA=>?_⟩
  refine ⟨_,rfl,_,rfl,g,k.1,_,rfl,L.j.same s1,fun DJ uj H2 s2 nDJ hDJ hSJ=>?_⟩
  have hDA2:=s2 _ _ hDA
  have hSA2:=hSA.same s2
  refine ⟨_,rfl,DJ,rfl,⟨_,SqL.of hDJ⟩,fun D3 nD3=>?_⟩
  refine sel_map (fun r=>decide (r.k < k.2)) Row.x3 hDJ hSJ nD3 (fun a r H2 Kt hs ha hk=>⟨_,rfl,a,_,2,_,rfl,rfl,SqT.of ha,at2 r,_,rfl,_,_,rfl,rfl,_,rfl,hk⟩) (fun a r H2 Ke hs hc ha hk=>⟨_,rfl,a,_,3,_,rfl,rfl,SqT.of ha,at3 r,hk⟩) (fun n3 H3 s3 hD3 hn3 hl3=>?_)
  refine ⟨D3,n3,rfl,hD3,fun low hlow=>?_⟩
  have hDJ3:=s3 _ _ hDJ
  refine ⟨_,rfl,DJ,rfl,⟨_,SqL.of hDJ3⟩,fun D4 nD4=>?_⟩
  refine sel_map (fun r=>decide (r.k > k.2)) Row.x3 hDJ3 (hSJ.same s3) nD4 (fun a r H2 Kt hs ha hk=>⟨_,rfl,a,_,2,_,rfl,rfl,SqT.of ha,at2 r,_,rfl,_,_,rfl,rfl,_,rfl,hk⟩) (fun a r H2 Ke hs hc ha hk=>⟨_,rfl,a,_,3,_,rfl,rfl,SqT.of ha,at3 r,hk⟩) (fun n4 H4 s4 hD4 hn4 hl4=>?_)
  have s34:=s3.trans s4
  have hDA4:=s34 _ _ hDA2
  refine ⟨_,rfl,DA,rfl,⟨_,SqL.of hDA4⟩,fun D5 nD5=>?_⟩
  refine sel_map (fun r=>decide (r.x3 ≥ k.2)) (fun r=>r.x5 - 1) hDA4 (hSA2.same s34) nD5 (fun a r H2 Kt hs ha hk=>⟨_,rfl,a,_,3,_,rfl,rfl,SqT.of ha,at3 r,_,rfl,_,_,rfl,rfl,_,rfl,hk⟩) (fun a r H2 Ke hs hc ha hk=>⟨_,rfl,a,_,5,_,rfl,rfl,SqT.of ha,at5 hs.1.2,_,_,rfl,rfl,hk⟩) (fun n5 H5 s5 hD5 hn5 hl5=>?_)
  have s35:=s34.trans s5
  have hDA5:=s35 _ _ hDA2
  refine ⟨_,rfl,DA,rfl,⟨_,SqL.of hDA5⟩,fun D6 nD6=>?_⟩
  refine sel_map (fun r=>decide (r.x3 = k.2)) Row.x6 hDA5 (hSA2.same s35) nD6 (fun a r H2 Kt hs ha hk=>⟨_,rfl,a,_,3,_,rfl,rfl,SqT.of ha,at3 r,_,rfl,rfl,_,rfl,(by rw [show decide (V.int r.x3 = kV (Sum.inl k.2)) = decide (r.x3 = k.2) from decide_eq_decide.mpr ⟨fun e=>V.int.inj e,fun e=>congrArg V.int e⟩]; exact hk)⟩) (fun a r H2 Ke hs hc ha hk=>⟨_,rfl,a,_,6,_,rfl,rfl,SqT.of ha,at6 hs.1.2,hk⟩) (fun n6 H6 s6 hD6 hn6 hl6=>?_)
  refine ⟨D6,n6,rfl,hD6,fun last hlast=>?_⟩
  have s56:=s5.trans s6
  refine ⟨_,rfl,_,rfl,_,rfl,D4,D5,_,_,rfl,rfl,s56 _ _ hD4,s6 _ _ hD5,(by rw [List.length_map,List.length_map]; exact Nat.le_of_lt (small_line (by omega))),fun D7 nD7=>?_⟩
  refine ⟨D7,n4 ++ n5,rfl,(by rw [upd_same,List.map_append]),fun high hhigh=>?_⟩
  refine ⟨_,rfl,(by show 3≤sizeLine; decide),fun p np=>?_⟩
  have g7:=((((s1.trans s2).trans s34).trans s56)).trans (same_upd (o:=.lst (n4.map V.int ++ n5.map V.int)) nD7)
  refine q p low high last _ (same_mut g7 (g7.free np)) (g7.free np) upd_same ⟨best_of hlow (and_ex hn3),best_of hhigh fun n=>?_,best_of hlast (and_ex hn6)⟩
  rw [List.mem_append,and_ex hn4,and_ex hn5]
  exact Iff.rfl
def sp_more_of (C : Addr) : Sp:=fun vs H Q _=>∃ (g : Addr) (h : Str) (rs : List Row),vs = [.ref g,.str h]∧Low C H g rs∧∀ (p : Addr) (ta tj : V) (H' : Hp),Same H H'→H p = none→H' p = some (.tup [ta,tj])→Mr rs h ta tj→Q (.ref p) H'
theorem ok_more_of (T : Txt K mg af fd) : FnOk P w K mg base CX0 2 (af 29) (fd 29) ["gaps", "house"] (sp_more_of (af 62)):=by
 refine T.F_more_of.ok sc_more_of (fun vs H Q E h=>?_) (fun cdv A outer s H vs Q E hr h=>?_)
 ·obtain ⟨g,h,rs,rfl,_⟩:=h
  rfl
 ·obtain ⟨g,hh,rs,rfl,L,q⟩:=h
  refine ⟨_,(pss_cons (ps_setLc (i:=2) (own:=[("row", 3)]) (g:=gName 3) (by rfl) sc_more_of.nd rfl rfl (sw_true rfl rfl rfl (by decide +kernel)) (pi_list (pe_call (ok_asks_of_house T) (hr.mono (by first | decide | omega)) (by rfl) T.g_asks_of_house T.F_asks_of_house.kp T.b_asks_of_house .nil pass0 (pa_cons (pv 0) (pa_cons (pv 1) pa_nil)))) (blkOk_by (own:=[("row", 3)]) (N:=["gaps", "house", "outs", "row", "begins"]) (sc:=defScope s_more_of) (by decide +kernel)) (fun _ _ _ _ _=>pg_name (i:=3) sc_more_of.nd rfl (Or.inl rfl)) (fun _ _ _ _ _=>pts_nil) (fun _ _ _ _ _=>(pe_ix (show IxR _ (rIxT K) from ix_tup) (pv 3) pe_int (fun _ _=>rfl))))
    (pss_cons (ps_setLc (i:=4) (own:=[("row", 3)]) (g:=gName 3) (by rfl) sc_more_of.nd rfl rfl (sw_true rfl rfl rfl (by decide +kernel)) (pi_list (pe_call (ok_jobs_of_house T) (hr.mono (by first | decide | omega)) (by rfl) T.g_jobs_of_house T.F_jobs_of_house.kp T.b_jobs_of_house .nil pass0 (pa_cons (pv 0) (pa_cons (pv 1) pa_nil)))) (blkOk_by (own:=[("row", 3)]) (N:=["gaps", "house", "outs", "row", "begins"]) (sc:=defScope s_more_of) (by decide +kernel)) (fun _ _ _ _ _=>pg_name (i:=3) sc_more_of.nd rfl (Or.inl rfl)) (fun _ _ _ _ _=>pts_nil) (fun _ _ _ _ _=>(pe_ix (show IxR _ (rIxT K) from ix_tup) (pv 3) pe_int (fun _ _=>rfl))))
    (pss_one (ps_ret (pe_tup (pa_cons (pe_call (ok_latest T) (hr.mono (by first | decide | omega)) (by rfl) T.g_latest T.F_latest.kp T.b_latest .nil pass0 (pa_cons (pv 2) pa_nil)) (pa_cons (pe_call (ok_latest T) (hr.mono (by first | decide | omega)) (by rfl) T.g_latest T.F_latest.kp T.b_latest .nil pass0 (pa_cons (pv 4) pa_nil)) pa_nil))))))),?_⟩
  refine ⟨_,rfl,_,rfl,g,hh,_,rfl,L.a,fun D us H1 s1 nD hD hS=>?_⟩
  refine ⟨D,rfl,⟨_,SqL.of hD⟩,fun D2 nD2=>?_⟩
  refine sel_map (fun _=>true) Row.x5 hD hS nD2 (fun a r H2 Kt hs ha hk=>hk) (fun a r H2 Ke hs hc ha hk=>⟨_,rfl,a,_,5,_,rfl,rfl,SqT.of ha,at5 hs.1.2,hk⟩) (fun ns H2 s2 hD2 hns hlen=>?_)
  have s12:=s1.trans s2
  refine ⟨_,rfl,_,rfl,g,hh,_,rfl,L.j.same s12,fun D3 us3 H3 s3 nD3 hD3 hS3=>?_⟩
  refine ⟨D3,rfl,⟨_,SqL.of hD3⟩,fun D4 nD4=>?_⟩
  refine sel_map (fun _=>true) Row.x3 hD3 hS3 nD4 (fun a r H2 Kt hs ha hk=>hk) (fun a r H2 Ke hs hc ha hk=>⟨_,rfl,a,_,3,_,rfl,rfl,SqT.of ha,at3 r,hk⟩) (fun ns4 H4 s4 hD4 hns4 hlen4=>?_)
  have s34:=s3.trans s4
  refine ⟨_,rfl,D2,ns,rfl,s34 _ _ hD2,fun ta hta=>?_⟩
  refine ⟨_,rfl,D4,ns4,rfl,hD4,fun tj htj=>?_⟩
  refine ⟨(by show 2≤sizeLine; decide),fun p np=>?_⟩
  have g4:=s12.trans s34
  exact q p ta tj _ (same_mut g4 (g4.free np)) (g4.free np) upd_same ⟨best_of hta (all_ex hns),best_of htj (all_ex hns4)⟩
structure Book (hs : List Str) (rs : List Row) : Prop where
 wf : ∀ r∈rs,r.Wf
 inn : ∀ r∈rs,r.In hs
 nc : ∀ r∈rs,∀ t∈rs,¬ ClashP r t
def rowD (r : Row) : PyData:=.tuple r.data
theorem rows_of {P : Row→Prop} : ∀ {ds : List PyData},(∀ d∈ds,∃ r,d = rowD r∧P r)→∃ rs : List Row,ds = rs.map rowD∧∀ r∈rs,P r
 | [],_=>⟨[],rfl,fun _ m=>(nomatch m)⟩
 | d :: ds,h=>by
  obtain ⟨rs,e,hp⟩:=rows_of (P:=P) (ds:=ds) fun x m=>h x (List.mem_cons_of_mem _ m)
  obtain ⟨r,rfl,hr⟩:=h d List.mem_cons_self
  refine ⟨r :: rs,by rw [List.map_cons,← e],fun x m=>?_⟩
  rcases List.mem_cons.mp m with rfl | m
  ·exact hr
  ·exact hp x m
theorem book_of {Ex : Addr→Prop} {H : Hp} {hs : List Str} {xs : List V} {ds : List PyData} (hok : ∀ h∈hs,PyData.strOk h = true) (hd : Dqs Ex H xs ds) (hr : RowsD hs ds ds.length) (hn : NoClash ds ds.length) : ∃ rs : List Row,ds = rs.map rowD∧Rws H xs rs∧Book hs rs:=by
 obtain ⟨rs,rfl,hp⟩:=rows_of (P:=fun r=>r.Wf∧r.In hs) (ds:=ds) fun d m=>by
  obtain ⟨j,hj⟩:=List.getElem?_of_mem m
  obtain ⟨r,e,w,i⟩:=isRow_wf hok (hr j d (List.getElem?_eq_some_iff.mp hj).1 hj)
  exact ⟨r,e,w,i⟩
 have hat : ∀ {i : Nat} {r : Row},rs[i]? = some r→(rs.map rowD)[i]? = some (.tuple r.data):=fun e=>by rw [List.getElem?_map,e]; rfl
 refine ⟨rs,rfl,⟨by rw [hd.len,List.length_map],fun i r e=>?_⟩,fun r m=>(hp r m).1,fun r m=>(hp r m).2,fun r mr t mt hc=>?_⟩
 ·obtain ⟨v,hv,dv⟩:=hd.get (hat e)
  obtain ⟨a,rfl,ha⟩:=row_at dv
  exact ⟨a,hv,ha⟩
 ·obtain ⟨i,hi⟩:=List.getElem?_of_mem mr
  obtain ⟨j,hj⟩:=List.getElem?_of_mem mt
  have li : i < (rs.map rowD).length:=by rw [List.length_map]; exact (List.getElem?_eq_some_iff.mp hi).1
  have lj : j < (rs.map rowD).length:=by rw [List.length_map]; exact (List.getElem?_eq_some_iff.mp hj).1
  rcases Nat.lt_trichotomy i j with h | h | h
  ·exact hn j lj i h ⟨r,t,hat hi,hat hj,hc⟩
  ·subst h
   obtain rfl:=Option.some.inj (hi.symm.trans hj)
   cases r <;> simp [ClashP] at hc
  ·exact hn i li j h ⟨t,r,hat hj,hat hi,(clash_comm r t).mp hc⟩
theorem Book.uniq {hs : List Str} {rs : List Row} (B : Book hs rs) {wd : Str} (hw : wd = "ask" ∨ wd = "job") : Uniq (Bk rs wd):=fun r t hr ht e=>by
 refine Decidable.byContradiction fun ne=>B.nc r hr.1 t ht.1 ?_
 have e1 : r.h = t.h:=congrArg Prod.fst e
 have e2 : r.k = t.k:=congrArg Prod.snd e
 have ew : r.word = t.word:=hr.2.trans ht.2.symm
 cases r with
 | ask h g k n o b =>
  cases t with
  | ask h' g' k' n' o' b'=>exact ⟨e1,ne,.inl e2⟩
  | job h' k' o' b'=>exact absurd ew w_aj
  | all h' a' j'=>exact absurd ew w_aa
 | job h k o b =>
  cases t with
  | ask h' g' k' n' o' b'=>exact absurd ew.symm w_aj
  | job h' k' o' b'=>exact ⟨e1,ne,.inl e2⟩
  | all h' a' j'=>exact absurd ew w_ja
 | all h a j =>
  rcases hw with rfl | rfl
  ·exact absurd hr.2 w_la
  ·exact absurd hr.2 (fun z=>w_ja z.symm)
theorem Book.uniqH {hs : List Str} {rs : List Row} (B : Book hs rs) (r t : Row) (hr : Bk rs "all" r) (ht : Bk rs "all" t) (e1 : r.h = t.h) : r = t:=by
 refine Decidable.byContradiction fun ne=>B.nc r hr.1 t ht.1 ?_
 cases r with
 | ask h g k n o b=>exact absurd hr.2 w_aa
 | job h k o b=>exact absurd hr.2 w_ja
 | all h a j =>
  cases t with
  | ask h' g' k' n' o' b'=>exact absurd ht.2 w_aa
  | job h' k' o' b'=>exact absurd ht.2 w_ja
  | all h' a' j'=>exact ⟨e1,ne⟩
def Frm (g : Addr) (H H' : Hp) : Prop:=∀ b o,b≠g→H b = some o→H' b = some o
theorem Frm.trans {g : Addr} {H H1 H2 : Hp} (a : Frm g H H1) (b : Frm g H1 H2) : Frm g H H2:=fun x o n e=>b x o n (a x o n e)
theorem Same.frm {g : Addr} {H H' : Hp} (s : Same H H') : Frm g H H':=fun b o _ e=>s b o e
theorem frm_upd {g : Addr} {H : Hp} {o : HO} : Frm g H (upd H g o):=fun b u n e=>by rw [upd_ne n]; exact e
theorem Frm.row {g : Addr} {H H' : Hp} {C dx : Addr} {fs : List (Str × V)} (f : Frm g H H') (hg : H g = some (.ins C dx fs)) : ∀ a r,RowAt H a r→RowAt H' a r:=fun a r h=>f _ _ (ne_of h hg (fun z=>nomatch z)) h
theorem put_other {f f' : Str} {v : V} {fs : List (Str × V)} (h : f≠f') : (putF f' v fs).lookup f = fs.lookup f:=by rw [lookup_putF,if_neg h]
theorem put_own {f : Str} {v : V} {fs : List (Str × V)} : (putF f v fs).lookup f = some v:=by rw [lookup_putF,if_pos rfl]
theorem FldT.go {C g dx dx' : Addr} {H H' : Hp} {f : Str} {P : Row→Prop} {fs fs' : List (Str × V)} (h : FldT C H g f P) (fr : Frm g H H') (hg : H g = some (.ins C dx fs)) (hg' : H' g = some (.ins C dx' fs')) (e : fs'.lookup f = fs.lookup f) : FldT C H' g f P:=by
 obtain ⟨dy,d,fy,kvs,h1,h2,h3,h4,h5⟩:=h.ex
 cases hg.symm.trans h1
 exact ⟨⟨dx',d,fs',kvs,hg',by rw [e]; exact h2,fr _ _ (ne_of h3 hg (fun z=>nomatch z)) h3,h4.same (fr.row hg),h5⟩,h.un⟩
theorem FldK.go {C g dx dx' : Addr} {H H' : Hp} {f : Str} {P : Row→Prop} {fs fs' : List (Str × V)} (h : FldK C H g f P) (fr : Frm g H H') (hg : H g = some (.ins C dx fs)) (hg' : H' g = some (.ins C dx' fs')) (e : fs'.lookup f = fs.lookup f) : FldK C H' g f P:=by
 obtain ⟨dy,d,fy,kvs,h1,h2,h3,h4,h5⟩:=h.ex
 cases hg.symm.trans h1
 exact ⟨⟨dx',d,fs',kvs,hg',by rw [e]; exact h2,fr _ _ (ne_of h3 hg (fun z=>nomatch z)) h3,h4.same (fr.row hg),h5⟩,h.un⟩
theorem Low.go {C g dx : Addr} {H : Hp} {rs : List Row} {fs : List (Str × V)} {f : Str} {v : V} (h : Low C H g rs) (hg : H g = some (.ins C dx fs)) (n1 : "ask_rows" ≠ f) (n2 : "job_rows" ≠ f) (n3 : "all_rows" ≠ f) : Low C (upd H g (.ins C dx (putF f v fs))) g rs :=
 ⟨h.a.go frm_upd hg upd_same (put_other n1),h.j.go frm_upd hg upd_same (put_other n2),h.l.go frm_upd hg upd_same (put_other n3),h.wf⟩
structure SpD (H : Hp) (R : Gr.HK→List V→Prop) (ks : List Gr.HK) (kvs : List (List Key × V)) : Prop where
 keys : kvs.map (·.1) = ks.map Gr.keyOf
 val : ∀ kv∈kvs,∃ k p us,kv.1 = Gr.keyOf k∧kv.2 = .ref p∧H p = some (.tup us)∧R k us
structure MoD (H : Hp) (R : Str→List V→Prop) (os : List Str) (kvs : List (Key × V)) : Prop where
 keys : kvs.map (·.1) = os.map Sum.inr
 val : ∀ kv∈kvs,∃ h p us,kv.1 = Sum.inr h∧kv.2 = .ref p∧H p = some (.tup us)∧R h us
theorem SpD.go {H H' : Hp} {R : Gr.HK→List V→Prop} {ks : List Gr.HK} {kvs : List (List Key × V)} (h : SpD H R ks kvs) (t : ∀ b us,H b = some (.tup us)→H' b = some (.tup us)) : SpD H' R ks kvs :=
 ⟨h.keys,fun kv m=>let ⟨k,p,us,e1,e2,e3,e4⟩:=h.val kv m; ⟨k,p,us,e1,e2,t _ _ e3,e4⟩⟩
theorem MoD.go {H H' : Hp} {R : Str→List V→Prop} {ks : List Str} {kvs : List (Key × V)} (h : MoD H R ks kvs) (t : ∀ b us,H b = some (.tup us)→H' b = some (.tup us)) : MoD H' R ks kvs :=
 ⟨h.keys,fun kv m=>let ⟨k,p,us,e1,e2,e3,e4⟩:=h.val kv m; ⟨k,p,us,e1,e2,t _ _ e3,e4⟩⟩
theorem keyOf_inj {a b : Gr.HK} (h : Gr.keyOf a = Gr.keyOf b) : a = b:=by
 unfold Gr.keyOf at h
 injection h with h1 h2
 injection h2 with h3 h4
 injection h1 with h1
 injection h3 with h3
 exact Prod.ext h1 h3
theorem SpD.put {H : Hp} {R : Gr.HK→List V→Prop} {ks : List Gr.HK} {kvs : List (List Key × V)} {k : Gr.HK} {p : Addr} {us : List V} (h : SpD H R ks kvs) (n : k ∉ ks) (hp : H p = some (.tup us)) (hR : R k us) : SpD H R (ks ++ [k]) (putK kvs (Gr.keyOf k) (.ref p)):=by
 refine ⟨?_,fun kv m=>?_⟩
 ·rw [put_keys,h.keys,if_neg,List.map_append]
  ·rfl
  ·intro m
   obtain ⟨x,mx,ex⟩:=List.mem_map.mp m
   exact n (by rw [← keyOf_inj ex]; exact mx)
 ·rcases put_mem m with ⟨m,_⟩ | rfl
  ·exact h.val kv m
  ·exact ⟨k,p,us,rfl,rfl,hp,hR⟩
theorem MoD.put {H : Hp} {R : Str→List V→Prop} {ks : List Str} {kvs : List (Key × V)} {k : Str} {p : Addr} {us : List V} (h : MoD H R ks kvs) (n : k ∉ ks) (hp : H p = some (.tup us)) (hR : R k us) : MoD H R (ks ++ [k]) (putK kvs (Sum.inr k) (.ref p)):=by
 refine ⟨?_,fun kv m=>?_⟩
 ·rw [put_keys,h.keys,if_neg,List.map_append]
  ·rfl
  ·intro m
   obtain ⟨x,mx,ex⟩:=List.mem_map.mp m
   exact n (by rw [← Sum.inr.inj ex]; exact mx)
 ·rcases put_mem m with ⟨m,_⟩ | rfl
  ·exact h.val kv m
  ·exact ⟨k,p,us,rfl,rfl,hp,hR⟩
noncomputable def lostOf (rs : List Row) (wd : Str) (ks : List Gr.HK) : List Gr.HK:=open Classical in ks.filter fun k=>decide (¬ ∃ r,Bk rs wd r∧r.key = k)
noncomputable def openOf (rs : List Row) (hs : List Str) : List Str:=open Classical in hs.filter fun h=>decide (¬ ∃ r,AllOf rs h r)
structure GapsAt (C : Addr) (H : Hp) (g : Addr) (hs : List Str) (rs : List Row) : Prop where
 low : Low C H g rs
 more : ∃ (dx d1 d2 d3 : Addr) (fs : List (Str × V)) (k1 k2 : List (List Key × V)) (k3 : List (Key × V)) (cA cJ : Str→Nat),H g = some (.ins C dx fs) ∧
  (∀ h∈hs,CntA rs h (cA h : Nat)∧cA h≤16)∧(∀ h∈hs,CntJ rs h (cJ h : Nat)∧cJ h≤16) ∧
  fs.lookup ("ask_spans" : Str) = some (.ref d1)∧H d1 = some (.dT k1)∧SpD H (fun k us=>∃ a b,us = [a,b]∧SpA rs k a b) (lostOf rs "ask" (below hs cA)) k1 ∧
  fs.lookup ("job_spans" : Str) = some (.ref d2)∧H d2 = some (.dT k2)∧SpD H (fun k us=>∃ a b c,us = [a,b,c]∧SpJ rs k a b c) (lostOf rs "job" (below hs cJ)) k2 ∧
  fs.lookup ("more_times" : Str) = some (.ref d3)∧H d3 = some (.dK k3)∧MoD H (fun h us=>∃ a b,us = [a,b]∧Mr rs h a b) (openOf rs hs) k3
structure GapsFull (C : Addr) (H : Hp) (g t : Addr) (hs gs : List Str) (rs : List Row) : Prop where
 ex : ∃ (dx dA dJ : Addr) (fs : List (Str × V)) (uA uJ : List V) (cA cJ : Str→Nat),H g = some (.ins C dx fs)∧(∀ h∈hs,CntA rs h (cA h : Nat)∧cA h≤16)∧(∀ h∈hs,CntJ rs h (cJ h : Nat)∧cJ h≤16) ∧
  fs.lookup ("town" : Str) = some (.ref t)∧TownAt H t hs gs∧fs.lookup ("asks" : Str) = some (.ref dA)∧H dA = some (.lst uA)∧HKs H uA (below hs cA)∧fs.lookup ("jobs" : Str) = some (.ref dJ)∧H dJ = some (.lst uJ)∧HKs H uJ (below hs cJ)
def sp_init_Gaps (C : Addr) : Sp:=fun vs H Q _=>∃ (g dx t l : Addr) (hs gs : List Str) (xs : List V) (rs : List Row),vs = [.ref g,.ref t,.ref l]∧H g = some (.ins C dx [])∧TownAt H t hs gs∧H l = some (.lst xs)∧Rws H xs rs∧rs.length≤1000∧Book hs rs∧hs.length≤6∧hs.Nodup ∧
 ∀ (H' : Hp),Frm g H H'→GapsAt C H' g hs rs→GapsFull C H' g t hs gs rs→Q .non H'
theorem TownAt.frm {g t C dx : Addr} {H H' : Hp} {hs gs : List Str} {fs : List (Str × V)} (h : TownAt H t hs gs) (f : Frm g H H') (hg : H g = some (.ins C dx fs)) : TownAt H' t hs gs:=by
 obtain ⟨a,b,h1,h2,h3⟩:=h
 exact ⟨a,b,f _ _ (ne_of h1 hg (fun z=>nomatch z)) h1,f _ _ (ne_of h2 hg (fun z=>nomatch z)) h2,f _ _ (ne_of h3 hg (fun z=>nomatch z)) h3⟩
theorem Rws.frm {g C dx : Addr} {H H' : Hp} {xs : List V} {rs : List Row} {fs : List (Str × V)} (h : Rws H xs rs) (f : Frm g H H') (hg : H g = some (.ins C dx fs)) : Rws H' xs rs :=
 ⟨h.1,fun i r e=>let ⟨a,e1,e2⟩:=h.2 i r e; ⟨a,e1,f.row hg a r e2⟩⟩
theorem take_snoc {A : Type} {xs : List A} {i : Nat} {x : A} (e : xs[i]? = some x) : xs.take (i + 1) = xs.take i ++ [x]:=by
 rw [List.take_add_one,e]
 rfl
theorem filter_snoc {A : Type} (p : A→Bool) (xs : List A) (x : A) : (xs ++ [x]).filter p = xs.filter p ++ (if p x = true then [x] else []):=by
 rw [List.filter_append]
 congr 1
 rw [List.filter_cons]
 rfl
def CntD (R : Str→Int→Prop) (hs : List Str) (kvs : List (Key × V)) : Prop:=∀ h∈hs,∃ n : Nat,n≤16∧R h (n : Nat)∧valV kvs (.inr h) = some (.int (n : Nat))
def cntOf (kvs : List (Key × V)) (h : Str) : Nat:=match valV kvs (.inr h) with
 | some (.int n)=>n.toNat
 | _=>0
theorem CntD.of {R : Str→Int→Prop} {hs : List Str} {kvs : List (Key × V)} (h : CntD R hs kvs) {x : Str} (m : x∈hs) : valV kvs (.inr x) = some (.int (cntOf kvs x : Nat))∧R x (cntOf kvs x : Nat)∧cntOf kvs x≤16:=by
 obtain ⟨n,h1,h2,h3⟩:=h x m
 have e : cntOf kvs x = n:=by
  unfold cntOf
  rw [h3]
  rfl
 rw [e]
 exact ⟨h3,h2,h1⟩
theorem CntD.put {R : Str→Int→Prop} {hs : List Str} {kvs : List (Key × V)} {x : Str} {n : Nat} (h : CntD R hs kvs) (h1 : n≤16) (h2 : R x (n : Nat)) : CntD R (hs ++ [x]) (putK kvs (.inr x) (.int (n : Nat))):=fun y m=>by
 by_cases e : y = x
 ·subst e
  exact ⟨n,h1,h2,by rw [valV_put,if_pos rfl]⟩
 ·rcases List.mem_append.mp m with m | m
  ·obtain ⟨k,k1,k2,k3⟩:=h y m
   exact ⟨k,k1,k2,by rw [valV_put,if_neg (fun z=>e (Sum.inr.inj z))]; exact k3⟩
  ·exact absurd (List.mem_singleton.mp m) e
theorem nd_below {hs : List Str} {cnt : Str→Nat} (h : hs.Nodup) : (below hs cnt).Nodup:=by
 unfold below
 rw [List.nodup_iff_pairwise_ne,List.pairwise_flatMap]
 refine ⟨fun x _=>?_,h.imp fun {x y} ne a ha b hb e=>?_⟩
 ·rw [List.pairwise_map]
  exact List.nodup_range.imp fun ne e=>ne (Int.ofNat.inj (congrArg Prod.snd e))
 ·obtain ⟨n,_,rfl⟩:=List.mem_map.mp ha
  obtain ⟨k,_,rfl⟩:=List.mem_map.mp hb
  exact ne (congrArg Prod.fst e)
theorem not_mem_take {A : Type} {xs : List A} {i : Nat} {x : A} (h : xs.Nodup) (e : xs[i]? = some x) : x ∉ xs.take i:=by
 intro m
 have h2 : (xs.take (i + 1)).Nodup:=h.sublist (List.take_sublist _ _)
 rw [take_snoc e,List.nodup_append] at h2
 exact h2.2.2 x m x (List.mem_singleton.mpr rfl) rfl
theorem key_mem {rs : List Row} {wd : Str} {H : Hp} {kvs : List (List Key × V)} (d : DRow key2 H (Bk rs wd) kvs) (k : Gr.HK) : (∃ v,valV kvs (Gr.keyOf k) = some v∧∃ r,Bk rs wd r∧r.key = k)∨(valV kvs (Gr.keyOf k) = none∧¬ ∃ r,Bk rs wd r∧r.key = k):=by
 rcases val_row d (Gr.keyOf k) with ⟨a,r,e1,e2,e3,e4⟩ | ⟨e1,e2⟩
 ·exact .inl ⟨_,e1,r,e3,(keyOf_inj e4).symm⟩
 ·exact .inr ⟨e1,fun ⟨r,hr,e⟩=>e2 r hr (by show Gr.keyOf r.key = _; rw [e])⟩
set_option maxHeartbeats 16000000 in
theorem ok_init_Gaps (T : Txt K mg af fd) : FnOk P w K mg base CX0 3 (af 63) (fd 63) ["self", "town", "rows"] (sp_init_Gaps (af 62)):=by
 refine T.o_Gaps.F.ok sc_init_Gaps (fun vs H Q E h=>?_) (fun cdv A outer s H vs Q E hr h=>?_)
 ·obtain ⟨g,dx,t,l,hs,gs,xs,rs,rfl,_⟩:=h
  rfl
 ·obtain ⟨g,dx,t,l,hs,gs,xs,rs,rfl,hg,ht,hl,hrw,hrl,B,h6,hnd,qQ⟩:=h
  refine ⟨_,(pss_cons (ps_fld (pv 0) (pv 1) rfl)
    (pss_cons (ps_fld (pv 0) (pe_call (ok_rows_by_number T) (hr.mono (by first | decide | omega)) (by rfl) T.g_rows_by_number T.F_rows_by_number.kp T.b_rows_by_number .nil pass0 (pa_cons (pv 2) (pa_cons pe_str pa_nil))) rfl)
    (pss_cons (ps_fld (pv 0) (pe_call (ok_rows_by_number T) (hr.mono (by first | decide | omega)) (by rfl) T.g_rows_by_number T.F_rows_by_number.kp T.b_rows_by_number .nil pass0 (pa_cons (pv 2) (pa_cons pe_str pa_nil))) rfl)
    (pss_cons (ps_fld (pv 0) (Gr.pe_dcd false (own:=[("row", 3)]) (g:=gName 3) (hu_of hr) (by rfl) sc_init_Gaps.nd (pi_list (pv 2)) (blkOk_by (own:=[("row", 3)]) (N:=["self", "town", "rows", "row", "house", "ask", "job"]) (sc:=defScope s_i_Gaps) (by decide +kernel)) (fun _ _ _ _ _=>pg_name (i:=3) sc_init_Gaps.nd rfl (by first | exact Or.inl rfl | exact Or.inr rfl)) (fun _ _ _ _ _=>(pts_one (pt_cmpR op_eq (pe_ix (show IxR _ (rIxT K) from ix_tup) (pv 3) pe_int (fun _ _=>rfl)) pe_str (nomark _)))) (fun _ _ _ _ _=>(pe_ix (show IxR _ (rIxT K) from ix_tup) (pv 3) pe_int (fun _ _=>rfl))) (fun _ _ _ _ _=>(pv 3))) rfl)
    (pss_cons (ps_fld (pv 0) (pe_call (ok_numbers_below T) (hr.mono (by first | decide | omega)) (by rfl) T.g_numbers_below T.F_numbers_below.kp T.b_numbers_below .nil pass0 (pa_cons (pv 1) (pa_cons (Gr.pe_dcd false (own:=[("house", 4)]) (g:=gName 4) (hu_of hr) (by rfl) sc_init_Gaps.nd (pi_tup (pe_ix ix_tup (pv 1) pe_int (fun _ _=>rfl))) (blkOk_by (own:=[("house", 4)]) (N:=["self", "town", "rows", "row", "house", "ask", "job"]) (sc:=defScope s_i_Gaps) (by decide +kernel)) (fun _ _ _ _ _=>pg_name (i:=4) sc_init_Gaps.nd rfl (by first | exact Or.inl rfl | exact Or.inr rfl)) (fun _ _ _ _ _=>pts_nil) (fun _ _ _ _ _=>(pv 4)) (fun _ _ _ _ _=>(pe_call (ok_count_asks T) (hr.mono (by first | decide | omega)) (by rfl) T.g_count_asks T.F_count_asks.kp T.b_count_asks .nil pass0 (pa_cons (pv 0) (pa_cons (pv 4) pa_nil))))) pa_nil))) rfl)
    (pss_cons (ps_fld (pv 0) (pe_call (ok_numbers_below T) (hr.mono (by first | decide | omega)) (by rfl) T.g_numbers_below T.F_numbers_below.kp T.b_numbers_below .nil pass0 (pa_cons (pv 1) (pa_cons (Gr.pe_dcd false (own:=[("house", 4)]) (g:=gName 4) (hu_of hr) (by rfl) sc_init_Gaps.nd (pi_tup (pe_ix ix_tup (pv 1) pe_int (fun _ _=>rfl))) (blkOk_by (own:=[("house", 4)]) (N:=["self", "town", "rows", "row", "house", "ask", "job"]) (sc:=defScope s_i_Gaps) (by decide +kernel)) (fun _ _ _ _ _=>pg_name (i:=4) sc_init_Gaps.nd rfl (by first | exact Or.inl rfl | exact Or.inr rfl)) (fun _ _ _ _ _=>pts_nil) (fun _ _ _ _ _=>(pv 4)) (fun _ _ _ _ _=>(pe_call (ok_count_jobs T) (hr.mono (by first | decide | omega)) (by rfl) T.g_count_jobs T.F_count_jobs.kp T.b_count_jobs .nil pass0 (pa_cons (pv 0) (pa_cons (pv 4) pa_nil))))) pa_nil))) rfl)
    (pss_cons (ps_fld (pv 0) (Gr.pe_dcd true (own:=[("ask", 5)]) (g:=gName 5) (hu_of hr) (by rfl) sc_init_Gaps.nd (pi_list (pe_fld (pv 0) rfl)) (blkOk_by (own:=[("ask", 5)]) (N:=["self", "town", "rows", "row", "house", "ask", "job"]) (sc:=defScope s_i_Gaps) (by decide +kernel)) (fun _ _ _ _ _=>pg_name (i:=5) sc_init_Gaps.nd rfl (by first | exact Or.inl rfl | exact Or.inr rfl)) (fun _ _ _ _ _=>(pts_one (pt_cmp (pc_dnotin (hu_of hr) (pv 5) (show PE _ _ (tFld K (tVar 0) "ask_rows") from pe_fld (pv 0) rfl))))) (fun _ _ _ _ _=>(pv 5)) (fun _ _ _ _ _=>(pe_call (ok_span_of_ask T) (hr.mono (by first | decide | omega)) (by rfl) T.g_span_of_ask T.F_span_of_ask.kp T.b_span_of_ask .nil pass0 (pa_cons (pv 0) (pa_cons (pv 5) pa_nil))))) rfl)
    (pss_cons (ps_fld (pv 0) (Gr.pe_dcd true (own:=[("job", 6)]) (g:=gName 6) (hu_of hr) (by rfl) sc_init_Gaps.nd (pi_list (pe_fld (pv 0) rfl)) (blkOk_by (own:=[("job", 6)]) (N:=["self", "town", "rows", "row", "house", "ask", "job"]) (sc:=defScope s_i_Gaps) (by decide +kernel)) (fun _ _ _ _ _=>pg_name (i:=6) sc_init_Gaps.nd rfl (by first | exact Or.inl rfl | exact Or.inr rfl)) (fun _ _ _ _ _=>(pts_one (pt_cmp (pc_dnotin (hu_of hr) (pv 6) (show PE _ _ (tFld K (tVar 0) "job_rows") from pe_fld (pv 0) rfl))))) (fun _ _ _ _ _=>(pv 6)) (fun _ _ _ _ _=>(pe_call (ok_span_of_job T) (hr.mono (by first | decide | omega)) (by rfl) T.g_span_of_job T.F_span_of_job.kp T.b_span_of_job .nil pass0 (pa_cons (pv 0) (pa_cons (pv 6) pa_nil))))) rfl)
    (pss_one (ps_fld (pv 0) (Gr.pe_dcd false (own:=[("house", 4)]) (g:=gName 4) (hu_of hr) (by rfl) sc_init_Gaps.nd (pi_tup (pe_ix ix_tup (pv 1) pe_int (fun _ _=>rfl))) (blkOk_by (own:=[("house", 4)]) (N:=["self", "town", "rows", "row", "house", "ask", "job"]) (sc:=defScope s_i_Gaps) (by decide +kernel)) (fun _ _ _ _ _=>pg_name (i:=4) sc_init_Gaps.nd rfl (by first | exact Or.inl rfl | exact Or.inr rfl)) (fun _ _ _ _ _=>(pts_one (pt_cmp (pc_dnotin (hu_of hr) (pv 4) (show PE _ _ (tFld K (tVar 0) "all_rows") from pe_fld (pv 0) rfl))))) (fun _ _ _ _ _=>(pv 4)) (fun _ _ _ _ _=>(pe_call (ok_more_of T) (hr.mono (by first | decide | omega)) (by rfl) T.g_more_of T.F_more_of.kp T.b_more_of .nil pass0 (pa_cons (pv 0) (pa_cons (pv 4) pa_nil))))) rfl)))))))))),?_⟩
  have cls:=T.o_Gaps.c
  have no : ∀ f∈(["town", "ask_rows", "job_rows", "all_rows", "asks", "jobs", "ask_spans", "job_spans", "more_times"] : List Str),NoAttr K (af 62) f:=T.o_Gaps.no
  -- self.town
  refine ⟨_,rfl,_,rfl,g,_,dx,[],rfl,hg,cls,no _ (by simp),(by show 0 < 1000; decide),?_⟩
  have f2 : Frm g H (upd H g (.ins (af 62) dx (putF "town" (.ref t) []))):=frm_upd
  have hg2 : (upd H g (.ins (af 62) dx (putF "town" (.ref t) []))) g = _:=upd_same
  generalize upd H g (.ins (af 62) dx (putF "town" (.ref t) [])) = H2 at f2 hg2 ⊢
  have len2 : (putF ("town" : Str) (.ref t) []).length≤1:=Nat.le_refl _
  have w2 : (putF ("town" : Str) (.ref t) []).lookup ("town" : Str) = some (.ref t):=put_own
  generalize putF ("town" : Str) (.ref t) [] = fs2 at hg2 len2 w2 ⊢
  have hl2 : H2 l = some (.lst xs):=f2 _ _ (ne_of hl hg (fun z=>nomatch z)) hl
  have ht2:=ht.frm f2 hg
  have hrw2 : Rws H2 xs rs:=hrw.frm f2 hg
  -- self.ask_rows
  refine ⟨_,rfl,l, "ask", xs,rs,rfl,hl2,hrw2,hrl,fun D3 kA H3 s3 nD3 hD3 dr3 kl3=>?_⟩
  have hg3:=s3 _ _ hg2
  refine ⟨_,rfl,g,_,dx,fs2,rfl,hg3,cls,no _ (by simp),(by omega),?_⟩
  have u4 : Frm g H3 (upd H3 g (.ins (af 62) dx (putF "ask_rows" (.ref D3) fs2))):=frm_upd
  have hg4 : (upd H3 g (.ins (af 62) dx (putF "ask_rows" (.ref D3) fs2))) g = _:=upd_same
  generalize upd H3 g (.ins (af 62) dx (putF "ask_rows" (.ref D3) fs2)) = H4 at u4 hg4 ⊢
  have e4 : (putF ("ask_rows" : Str) (.ref D3) fs2).lookup ("ask_rows" : Str) = some (.ref D3):=put_own
  have len4 : (putF ("ask_rows" : Str) (.ref D3) fs2).length≤2:=Nat.le_trans (length_putF _ _ _) (by omega)
  have w4 : (putF ("ask_rows" : Str) (.ref D3) fs2).lookup ("town" : Str) = some (.ref t):=(put_other (by decide +kernel)).trans w2
  generalize putF ("ask_rows" : Str) (.ref D3) fs2 = fs4 at hg4 e4 len4 w4 ⊢
  have A4 : FldT (af 62) H4 g "ask_rows" (Bk rs "ask"):=⟨⟨dx,D3,fs4,kA,hg4,e4,u4 _ _ (ne_of hD3 hg3 (fun z=>nomatch z)) hD3,dr3.same (u4.row hg3),kl3⟩,B.uniq (.inl rfl)⟩
  have v4 : Frm g H2 H4:=Frm.trans (fun b o _ e=>s3 b o e) u4
  have hl4 : H4 l = some (.lst xs):=v4 _ _ (ne_of hl2 hg2 (fun z=>nomatch z)) hl2
  have ht4:=ht2.frm v4 hg2
  have hrw4:=hrw2.frm v4 hg2
  have f4:=f2.trans v4
  -- self.job_rows
  refine ⟨_,rfl,l, "job", xs,rs,rfl,hl4,hrw4,hrl,fun D5 kJ H5 s5 nD5 hD5 dr5 kl5=>?_⟩
  have hg5:=s5 _ _ hg4
  refine ⟨_,rfl,g,_,dx,fs4,rfl,hg5,cls,no _ (by simp),(by omega),?_⟩
  have u6 : Frm g H5 (upd H5 g (.ins (af 62) dx (putF "job_rows" (.ref D5) fs4))):=frm_upd
  have hg6 : (upd H5 g (.ins (af 62) dx (putF "job_rows" (.ref D5) fs4))) g = _:=upd_same
  generalize upd H5 g (.ins (af 62) dx (putF "job_rows" (.ref D5) fs4)) = H6 at u6 hg6 ⊢
  have e6 : (putF ("job_rows" : Str) (.ref D5) fs4).lookup ("job_rows" : Str) = some (.ref D5):=put_own
  have o6 : (putF ("job_rows" : Str) (.ref D5) fs4).lookup ("ask_rows" : Str) = fs4.lookup ("ask_rows" : Str):=put_other (by decide +kernel)
  have len6 : (putF ("job_rows" : Str) (.ref D5) fs4).length≤3:=Nat.le_trans (length_putF _ _ _) (by omega)
  have w6 : (putF ("job_rows" : Str) (.ref D5) fs4).lookup ("town" : Str) = some (.ref t):=(put_other (by decide +kernel)).trans w4
  generalize putF ("job_rows" : Str) (.ref D5) fs4 = fs6 at hg6 e6 o6 len6 w6 ⊢
  have J6 : FldT (af 62) H6 g "job_rows" (Bk rs "job"):=⟨⟨dx,D5,fs6,kJ,hg6,e6,u6 _ _ (ne_of hD5 hg5 (fun z=>nomatch z)) hD5,dr5.same (u6.row hg5),kl5⟩,B.uniq (.inr rfl)⟩
  have v6 : Frm g H4 H6:=Frm.trans (fun b o _ e=>s5 b o e) u6
  have A6:=A4.go v6 hg4 hg6 o6
  have hl6 : H6 l = some (.lst xs):=v6 _ _ (ne_of hl4 hg4 (fun z=>nomatch z)) hl4
  have ht6:=ht4.frm v6 hg4
  have hrw6:=hrw4.frm v6 hg4
  have f6:=f4.trans v6
  -- self.all_rows
  refine ⟨_,rfl,l,rfl,⟨_,SqL.of hl6⟩,fun D7 nD7=>?_⟩
  refine Gr.dcd_it (walk_list (K:=K) (a:=l) (xs:=xs)) (fun i H'=>Same H6 H'∧∃ kvs : List (Key × V),H' D7 = some (.dK kvs)∧DRow keyH H' (fun r=>r∈rs.take i∧r.word = "all") kvs∧kvs.length≤i)
   ⟨same_upd nD7,[],upd_same,.nil (fun r h=>by rw [List.take_zero] at h; exact nomatch h.1),Nat.le_refl _⟩ (fun i H' _ h=>SqL.of (h.1 _ _ hl6)) ?_ ?_
  ·rintro i v G1 G2 hi ⟨g1,kvs,hD,dr,hk⟩ ⟨rfl,hv⟩
   have hir : i < rs.length:=by rw [← hrw6.1]; exact hi
   have er : rs[i]? = some rs[i]:=List.getElem?_eq_getElem hir
   generalize rs[i] = r at er
   obtain ⟨a,ea,ha⟩:=hrw6.2 i r er
   obtain rfl : V.ref a = v:=Option.some.inj (ea.symm.trans hv)
   have ha1:=g1 _ _ ha
   refine ⟨rfl,_,rfl,a,_,0,_,rfl,rfl,SqT.of ha1,at0 r,rfl,_,rfl,?_⟩
   refine ite2 (fun ew=>?_) (fun ew=>?_)
   ·have ew : r.word = "all" := by simpa using ew
    refine ⟨_,rfl,a,_,1,_,rfl,rfl,SqT.of ha1,at1 r,_,rfl,?_⟩
    refine ⟨_,DPut.k (k:=keyH r) hD (small_line (by omega)),same_mut g1 nD7,_,upd_same,?_,put_len hk⟩
    have rows : ∀ c x,RowAt G2 c x→RowAt (upd G2 D7 (.dK (putK kvs (keyH r) (.ref a)))) c x:=fun c x hc=>by
     show (upd G2 D7 _) c = _
     rw [upd_ne (ne_of hc hD (fun z=>nomatch z))]
     exact hc
    refine ((dr.put (a:=a) (r:=r) ha1).same rows).iff fun x=>?_
    rw [of_take er]
    constructor
    ·rintro (⟨h1,h2⟩ | rfl)
     ·exact ⟨.inl h1,h2⟩
     ·exact ⟨.inr rfl,ew⟩
    ·rintro ⟨h1 | rfl,h2⟩
     ·exact .inl ⟨h1,h2⟩
     ·exact .inr rfl
   ·have ew : r.word ≠ "all" := by simpa using ew
    refine ⟨g1,kvs,hD,dr.iff fun x=>?_,Nat.le_succ_of_le hk⟩
    rw [of_take er]
    constructor
    ·exact fun h=>⟨.inl h.1,h.2⟩
    ·rintro ⟨h1 | rfl,h2⟩
     ·exact ⟨h1,h2⟩
     ·exact absurd h2 ew
  rintro H7 ⟨s7,kL,hD7,dr7,kl7⟩
  rw [hrw6.1,List.take_length] at dr7
  rw [hrw6.1] at kl7
  have hg7:=s7 _ _ hg6
  refine ⟨_,rfl,g,_,dx,fs6,rfl,hg7,cls,no _ (by simp),(by omega),?_⟩
  have u8 : Frm g H7 (upd H7 g (.ins (af 62) dx (putF "all_rows" (.ref D7) fs6))):=frm_upd
  have hg8 : (upd H7 g (.ins (af 62) dx (putF "all_rows" (.ref D7) fs6))) g = _:=upd_same
  generalize upd H7 g (.ins (af 62) dx (putF "all_rows" (.ref D7) fs6)) = H8 at u8 hg8 ⊢
  have e8 : (putF ("all_rows" : Str) (.ref D7) fs6).lookup ("all_rows" : Str) = some (.ref D7):=put_own
  have o8 : (putF ("all_rows" : Str) (.ref D7) fs6).lookup ("ask_rows" : Str) = fs6.lookup ("ask_rows" : Str):=put_other (by decide +kernel)
  have p8 : (putF ("all_rows" : Str) (.ref D7) fs6).lookup ("job_rows" : Str) = fs6.lookup ("job_rows" : Str):=put_other (by decide +kernel)
  have len8 : (putF ("all_rows" : Str) (.ref D7) fs6).length≤4:=Nat.le_trans (length_putF _ _ _) (by omega)
  have w8 : (putF ("all_rows" : Str) (.ref D7) fs6).lookup ("town" : Str) = some (.ref t):=(put_other (by decide +kernel)).trans w6
  generalize putF ("all_rows" : Str) (.ref D7) fs6 = fs8 at hg8 e8 o8 p8 len8 w8 ⊢
  have v8 : Frm g H6 H8:=Frm.trans (fun b o _ e=>s7 b o e) u8
  have L8 : Low (af 62) H8 g rs:=⟨A6.go v8 hg6 hg8 o8,J6.go v8 hg6 hg8 p8,⟨⟨dx,D7,fs8,kL,hg8,e8,u8 _ _ (ne_of hD7 hg7 (fun z=>nomatch z)) hD7,dr7.same (u8.row hg7),by omega⟩,B.uniqH⟩,B.wf⟩
  have ht8:=ht6.frm v8 hg6
  have f8:=f6.trans v8
  -- self.asks
  obtain ⟨ta9,tb9,t19,t29,t39⟩:=id ht8
  refine ⟨_,rfl,_,rfl,t,_,0,_,rfl,rfl,SqT.of t19,rfl,ta9,rfl,⟨_,SqT.of t29⟩,fun C9 nC9=>?_⟩
  refine Gr.dcd_it (walk_tup (K:=K) (a:=ta9) (xs:=hs.map V.str)) (fun j H'=>Same H8 H'∧∃ kvs : List (Key × V),H' C9 = some (.dK kvs)∧CntD (CntA rs) (hs.take j) kvs∧kvs.length≤j)
   ⟨same_upd nC9,[],upd_same,(fun h m=>by rw [List.take_zero] at m; exact nomatch m),Nat.le_refl _⟩ (fun j H' _ h=>SqT.of (h.1 _ _ t29)) ?_ ?_
  ·rintro j v G1 G2 hj ⟨g1,kvs,hD,cd,hk⟩ ⟨rfl,ev⟩
   rw [List.length_map] at hj
   have eh : hs[j]? = some hs[j]:=List.getElem?_eq_getElem hj
   generalize hs[j] = h at eh
   rw [List.getElem?_map,eh] at ev
   obtain rfl : V.str h = v:=Option.some.inj ev
   refine ⟨rfl,yes_if ⟨_,rfl,_,rfl,_,rfl,g,h,rs,rfl,L8.same g1,fun n G3 g3 hn hR=>?_⟩⟩
   have g13:=g1.trans g3
   refine ⟨_,DPut.k (k:=Sum.inr h) (g3 _ _ hD) (small_line (by omega)),same_mut g13 nC9,_,upd_same,?_,put_len hk⟩
   rw [take_snoc eh]
   exact cd.put hn hR
  rintro G9 ⟨sg9,kc9,hC9,cd9,kcl9⟩
  rw [List.length_map,List.take_length] at cd9
  refine ⟨t,C9,hs,gs,kc9,cntOf kc9,rfl,ht8.same' sg9,hC9,h6,fun h m=>⟨(cd9.of m).1,Nat.le_trans (cd9.of m).2.2 (by decide)⟩,fun D9 us9 M9 sm9 nD9 hD9 hk9=>?_⟩
  have ss9:=sg9.trans sm9
  have hgm9:=ss9 _ _ hg8
  refine ⟨_,rfl,g,_,dx,fs8,rfl,hgm9,cls,no _ (by simp),(by omega),?_⟩
  have L9 : Low (af 62) (upd M9 g (.ins (af 62) dx (putF "asks" (.ref D9) fs8))) g rs:=(L8.same ss9).go hgm9 (by decide +kernel) (by decide +kernel) (by decide +kernel)
  have u9 : Frm g M9 (upd M9 g (.ins (af 62) dx (putF "asks" (.ref D9) fs8))):=frm_upd
  have hg9 : (upd M9 g (.ins (af 62) dx (putF "asks" (.ref D9) fs8))) g = _:=upd_same
  generalize upd M9 g (.ins (af 62) dx (putF "asks" (.ref D9) fs8)) = H9 at L9 u9 hg9 ⊢
  have e9 : (putF ("asks" : Str) (.ref D9) fs8).lookup ("asks" : Str) = some (.ref D9):=put_own
  
  have len9 : (putF ("asks" : Str) (.ref D9) fs8).length≤4+1:=Nat.le_trans (length_putF _ _ _) (by omega)
  have w9 : (putF ("asks" : Str) (.ref D9) fs8).lookup ("town" : Str) = some (.ref t):=(put_other (by decide +kernel)).trans w8
  generalize putF ("asks" : Str) (.ref D9) fs8 = fs9 at hg9 e9 len9  w9 ⊢
  have v9 : Frm g H8 H9:=Frm.trans (fun b o _ e=>ss9 b o e) u9
  have ht9:=ht8.frm v9 hg8
  have f9:=f8.trans v9
  have hDd9 : H9 D9 = some (.lst us9):=u9 _ _ (ne_of hD9 hgm9 (fun z=>nomatch z)) hD9
  have hks9 : HKs H9 us9 (below hs (cntOf kc9)):=hk9.go fun b ys e=>u9 _ _ (ne_of e hgm9 (fun z=>nomatch z)) e
  -- self.jobs
  obtain ⟨ta10,tb10,t110,t210,t310⟩:=id ht9
  refine ⟨_,rfl,_,rfl,t,_,0,_,rfl,rfl,SqT.of t110,rfl,ta10,rfl,⟨_,SqT.of t210⟩,fun C10 nC10=>?_⟩
  refine Gr.dcd_it (walk_tup (K:=K) (a:=ta10) (xs:=hs.map V.str)) (fun j H'=>Same H9 H'∧∃ kvs : List (Key × V),H' C10 = some (.dK kvs)∧CntD (CntJ rs) (hs.take j) kvs∧kvs.length≤j)
   ⟨same_upd nC10,[],upd_same,(fun h m=>by rw [List.take_zero] at m; exact nomatch m),Nat.le_refl _⟩ (fun j H' _ h=>SqT.of (h.1 _ _ t210)) ?_ ?_
  ·rintro j v G1 G2 hj ⟨g1,kvs,hD,cd,hk⟩ ⟨rfl,ev⟩
   rw [List.length_map] at hj
   have eh : hs[j]? = some hs[j]:=List.getElem?_eq_getElem hj
   generalize hs[j] = h at eh
   rw [List.getElem?_map,eh] at ev
   obtain rfl : V.str h = v:=Option.some.inj ev
   refine ⟨rfl,yes_if ⟨_,rfl,_,rfl,_,rfl,g,h,rs,rfl,L9.same g1,fun n G3 g3 hn hR=>?_⟩⟩
   have g13:=g1.trans g3
   refine ⟨_,DPut.k (k:=Sum.inr h) (g3 _ _ hD) (small_line (by omega)),same_mut g13 nC10,_,upd_same,?_,put_len hk⟩
   rw [take_snoc eh]
   exact cd.put hn hR
  rintro G10 ⟨sg10,kc10,hC10,cd10,kcl10⟩
  rw [List.length_map,List.take_length] at cd10
  refine ⟨t,C10,hs,gs,kc10,cntOf kc10,rfl,ht9.same' sg10,hC10,h6,fun h m=>⟨(cd10.of m).1,Nat.le_trans (cd10.of m).2.2 (by decide)⟩,fun D10 us10 M10 sm10 nD10 hD10 hk10=>?_⟩
  have ss10:=sg10.trans sm10
  have hgm10:=ss10 _ _ hg9
  refine ⟨_,rfl,g,_,dx,fs9,rfl,hgm10,cls,no _ (by simp),(by omega),?_⟩
  have L10 : Low (af 62) (upd M10 g (.ins (af 62) dx (putF "jobs" (.ref D10) fs9))) g rs:=(L9.same ss10).go hgm10 (by decide +kernel) (by decide +kernel) (by decide +kernel)
  have u10 : Frm g M10 (upd M10 g (.ins (af 62) dx (putF "jobs" (.ref D10) fs9))):=frm_upd
  have hg10 : (upd M10 g (.ins (af 62) dx (putF "jobs" (.ref D10) fs9))) g = _:=upd_same
  generalize upd M10 g (.ins (af 62) dx (putF "jobs" (.ref D10) fs9)) = H10 at L10 u10 hg10 ⊢
  have e10 : (putF ("jobs" : Str) (.ref D10) fs9).lookup ("jobs" : Str) = some (.ref D10):=put_own
  have x10 : (putF ("jobs" : Str) (.ref D10) fs9).lookup ("asks" : Str) = some (.ref D9):=(put_other (by decide +kernel)).trans e9
  have len10 : (putF ("jobs" : Str) (.ref D10) fs9).length≤5+1:=Nat.le_trans (length_putF _ _ _) (by omega)
  have w10 : (putF ("jobs" : Str) (.ref D10) fs9).lookup ("town" : Str) = some (.ref t):=(put_other (by decide +kernel)).trans w9
  generalize putF ("jobs" : Str) (.ref D10) fs9 = fs10 at hg10 e10 len10 x10 w10 ⊢
  have v10 : Frm g H9 H10:=Frm.trans (fun b o _ e=>ss10 b o e) u10
  have ht10:=ht9.frm v10 hg9
  have f10:=f9.trans v10
  have hDd10 : H10 D10 = some (.lst us10):=u10 _ _ (ne_of hD10 hgm10 (fun z=>nomatch z)) hD10
  have hks10 : HKs H10 us10 (below hs (cntOf kc10)):=hk10.go fun b ys e=>u10 _ _ (ne_of e hgm10 (fun z=>nomatch z)) e
  have hDa10 : H10 D9 = some (.lst us9):=v10 _ _ (ne_of hDd9 hg9 (fun z=>nomatch z)) hDd9
  have hka10 : HKs H10 us9 (below hs (cntOf kc9)):=hks9.go fun b ys e=>v10 _ _ (ne_of e hg9 (fun z=>nomatch z)) e
  have cd11x : ∀ h∈hs,cntOf kc9 h≤16:=fun h m=>(cd9.of m).2.2
  have cd12x : ∀ h∈hs,cntOf kc10 h≤16:=fun h m=>(cd10.of m).2.2
  -- self.ask_spans
  refine ⟨_,rfl,g,_,dx,fs10,_,rfl,hg10,cls,no _ (by simp),x10,D9,rfl,⟨_,SqL.of hDa10⟩,fun E11 nE11=>?_⟩
  have nb11:=nd_below (cnt:=cntOf kc9) hnd
  refine Gr.dcd_it (walk_list (K:=K) (a:=D9) (xs:=us9)) (fun j H'=>Same H10 H'∧∃ kvs : List (List Key × V),H' E11 = some (.dT kvs)∧SpD H' (fun k us=>∃ a b,us = [a,b]∧SpA rs k a b) (lostOf rs "ask" ((below hs (cntOf kc9)).take j)) kvs∧kvs.length≤j)
   ⟨same_upd nE11,[],upd_same,⟨by rw [List.take_zero]; rfl,fun _ m=>(nomatch m)⟩,Nat.le_refl _⟩ (fun j H' _ h=>SqL.of (h.1 _ _ hDa10)) ?_ ?_
  ·rintro j v G1 G2 hj ⟨g1,kvs,hDk,sd,hk⟩ ⟨rfl,ev⟩
   have hjb : j < (below hs (cntOf kc9)).length:=by rw [← hka10.len]; exact hj
   have eb : (below hs (cntOf kc9))[j]? = some (below hs (cntOf kc9))[j]:=List.getElem?_eq_getElem hjb
   generalize (below hs (cntOf kc9))[j] = k at eb
   obtain ⟨b,ebv,hb⟩:=hka10.at eb
   obtain rfl : V.ref b = v:=Option.some.inj (ebv.symm.trans ev)
   have hb1:=g1 _ _ hb
   obtain ⟨dy,d,fy,kv,h1,h2,h3,h4,h5⟩:=(L10.same g1).a.ex
   refine ⟨rfl,_,rfl,_,rfl,g,_,dy,fy,_,rfl,h1,cls,no _ (by simp),h2,d,_,rfl,DGet.t (k:=Gr.keyOf k) h3 hb1,_,rfl,?_⟩
   have bl : (below hs (cntOf kc9)).length≤600:=Nat.le_trans (below_len _ hs fun h m=>Nat.le_trans (cd11x h m) (by decide)) (by omega)
   rcases key_mem h4 k with ⟨v0,e1,e2⟩ | ⟨e1,e2⟩
   ·rw [e1]
    refine iteF ⟨g1,kvs,hDk,?_,Nat.le_succ_of_le hk⟩
    rw [take_snoc eb]
    unfold lostOf at sd ⊢
    rw [filter_snoc,if_neg (by simpa using e2),List.append_nil]
    exact sd
   ·rw [e1]
    refine iteT ⟨_,rfl,_,rfl,_,rfl,g,b,k,rs,rfl,hb1,L10.same g1,fun p low high G3 g3 np hp hsp=>?_⟩
    have g13:=g1.trans g3
    have hDk3:=g3 _ _ hDk
    refine ⟨_,DPut.t (k:=Gr.keyOf k) hDk3 (g3 _ _ hb1) (small_line (by omega)),same_mut g13 nE11,_,upd_same,?_,put_len hk⟩
    rw [take_snoc eb]
    unfold lostOf at sd ⊢
    rw [filter_snoc,if_pos (by simpa using e2)]
    refine ((sd.go fun c ys e=>g3 _ _ e).put (us:=[low,high]) (fun m=>not_mem_take nb11 eb (List.mem_filter.mp m).1) hp ⟨low,high,rfl,hsp⟩).go fun c ys e=>?_
    rw [upd_ne (ne_of e hDk3 (fun z=>nomatch z))]
    exact e
  rintro M11 ⟨sm11,ks11,hE11,sd11,kl11⟩
  rw [hka10.len,List.take_length] at sd11
  have hgm11:=sm11 _ _ hg10
  refine ⟨_,rfl,g,_,dx,fs10,rfl,hgm11,cls,no _ (by simp),(by omega),?_⟩
  have L11 : Low (af 62) (upd M11 g (.ins (af 62) dx (putF "ask_spans" (.ref E11) fs10))) g rs:=(L10.same sm11).go hgm11 (by decide +kernel) (by decide +kernel) (by decide +kernel)
  have u11 : Frm g M11 (upd M11 g (.ins (af 62) dx (putF "ask_spans" (.ref E11) fs10))):=frm_upd
  have hg11 : (upd M11 g (.ins (af 62) dx (putF "ask_spans" (.ref E11) fs10))) g = _:=upd_same
  generalize upd M11 g (.ins (af 62) dx (putF "ask_spans" (.ref E11) fs10)) = H11 at L11 u11 hg11 ⊢
  have e11 : (putF ("ask_spans" : Str) (.ref E11) fs10).lookup ("ask_spans" : Str) = some (.ref E11):=put_own
  have x11 : (putF ("ask_spans" : Str) (.ref E11) fs10).lookup ("jobs" : Str) = some (.ref D10):=(put_other (by decide +kernel)).trans e10
  have len11 : (putF ("ask_spans" : Str) (.ref E11) fs10).length≤6+1:=Nat.le_trans (length_putF _ _ _) (by omega)
  have w11 : (putF ("ask_spans" : Str) (.ref E11) fs10).lookup ("town" : Str) = some (.ref t):=(put_other (by decide +kernel)).trans w10
  have y11 : (putF ("ask_spans" : Str) (.ref E11) fs10).lookup ("asks" : Str) = some (.ref D9):=(put_other (by decide +kernel)).trans x10
  generalize putF ("ask_spans" : Str) (.ref E11) fs10 = fs11 at hg11 e11 len11 x11 w11 y11 ⊢
  have v11 : Frm g H10 H11:=Frm.trans (fun b o _ e=>sm11 b o e) u11
  have f11:=f10.trans v11
  have hEd11 : H11 E11 = some (.dT ks11):=u11 _ _ (ne_of hE11 hgm11 (fun z=>nomatch z)) hE11
  have sdd11:=sd11.go fun b ys (e : M11 b = some (.tup ys))=>u11 _ _ (ne_of e hgm11 (fun z=>nomatch z)) e
  have hDj11 : H11 D10 = some (.lst us10):=v11 _ _ (ne_of hDd10 hg10 (fun z=>nomatch z)) hDd10
  have hkj11 : HKs H11 us10 (below hs (cntOf kc10)):=hks10.go fun b ys e=>v11 _ _ (ne_of e hg10 (fun z=>nomatch z)) e
  have ht11:=ht10.frm v11 hg10
  have hAl11 : H11 D9 = some (.lst us9):=v11 _ _ (ne_of hDa10 hg10 (fun z=>nomatch z)) hDa10
  have hAk11 : HKs H11 us9 (below hs (cntOf kc9)):=hka10.go fun b ys e=>v11 _ _ (ne_of e hg10 (fun z=>nomatch z)) e
  -- self.job_spans
  refine ⟨_,rfl,g,_,dx,fs11,_,rfl,hg11,cls,no _ (by simp),x11,D10,rfl,⟨_,SqL.of hDj11⟩,fun E12 nE12=>?_⟩
  have nb12:=nd_below (cnt:=cntOf kc10) hnd
  refine Gr.dcd_it (walk_list (K:=K) (a:=D10) (xs:=us10)) (fun j H'=>Same H11 H'∧∃ kvs : List (List Key × V),H' E12 = some (.dT kvs)∧SpD H' (fun k us=>∃ a b c,us = [a,b,c]∧SpJ rs k a b c) (lostOf rs "job" ((below hs (cntOf kc10)).take j)) kvs∧kvs.length≤j)
   ⟨same_upd nE12,[],upd_same,⟨by rw [List.take_zero]; rfl,fun _ m=>(nomatch m)⟩,Nat.le_refl _⟩ (fun j H' _ h=>SqL.of (h.1 _ _ hDj11)) ?_ ?_
  ·rintro j v G1 G2 hj ⟨g1,kvs,hDk,sd,hk⟩ ⟨rfl,ev⟩
   have hjb : j < (below hs (cntOf kc10)).length:=by rw [← hkj11.len]; exact hj
   have eb : (below hs (cntOf kc10))[j]? = some (below hs (cntOf kc10))[j]:=List.getElem?_eq_getElem hjb
   generalize (below hs (cntOf kc10))[j] = k at eb
   obtain ⟨b,ebv,hb⟩:=hkj11.at eb
   obtain rfl : V.ref b = v:=Option.some.inj (ebv.symm.trans ev)
   have hb1:=g1 _ _ hb
   obtain ⟨dy,d,fy,kv,h1,h2,h3,h4,h5⟩:=(L11.same g1).j.ex
   refine ⟨rfl,_,rfl,_,rfl,g,_,dy,fy,_,rfl,h1,cls,no _ (by simp),h2,d,_,rfl,DGet.t (k:=Gr.keyOf k) h3 hb1,_,rfl,?_⟩
   have bl : (below hs (cntOf kc10)).length≤600:=Nat.le_trans (below_len _ hs fun h m=>Nat.le_trans (cd12x h m) (by decide)) (by omega)
   rcases key_mem h4 k with ⟨v0,e1,e2⟩ | ⟨e1,e2⟩
   ·rw [e1]
    refine iteF ⟨g1,kvs,hDk,?_,Nat.le_succ_of_le hk⟩
    rw [take_snoc eb]
    unfold lostOf at sd ⊢
    rw [filter_snoc,if_neg (by simpa using e2),List.append_nil]
    exact sd
   ·rw [e1]
    refine iteT ⟨_,rfl,_,rfl,_,rfl,g,b,k,rs,rfl,hb1,L11.same g1,fun p low high last G3 g3 np hp hsp=>?_⟩
    have g13:=g1.trans g3
    have hDk3:=g3 _ _ hDk
    refine ⟨_,DPut.t (k:=Gr.keyOf k) hDk3 (g3 _ _ hb1) (small_line (by omega)),same_mut g13 nE12,_,upd_same,?_,put_len hk⟩
    rw [take_snoc eb]
    unfold lostOf at sd ⊢
    rw [filter_snoc,if_pos (by simpa using e2)]
    refine ((sd.go fun c ys e=>g3 _ _ e).put (us:=[low,high,last]) (fun m=>not_mem_take nb12 eb (List.mem_filter.mp m).1) hp ⟨low,high,last,rfl,hsp⟩).go fun c ys e=>?_
    rw [upd_ne (ne_of e hDk3 (fun z=>nomatch z))]
    exact e
  rintro M12 ⟨sm12,ks12,hE12,sd12,kl12⟩
  rw [hkj11.len,List.take_length] at sd12
  have hgm12:=sm12 _ _ hg11
  refine ⟨_,rfl,g,_,dx,fs11,rfl,hgm12,cls,no _ (by simp),(by omega),?_⟩
  have L12 : Low (af 62) (upd M12 g (.ins (af 62) dx (putF "job_spans" (.ref E12) fs11))) g rs:=(L11.same sm12).go hgm12 (by decide +kernel) (by decide +kernel) (by decide +kernel)
  have u12 : Frm g M12 (upd M12 g (.ins (af 62) dx (putF "job_spans" (.ref E12) fs11))):=frm_upd
  have hg12 : (upd M12 g (.ins (af 62) dx (putF "job_spans" (.ref E12) fs11))) g = _:=upd_same
  generalize upd M12 g (.ins (af 62) dx (putF "job_spans" (.ref E12) fs11)) = H12 at L12 u12 hg12 ⊢
  have e12 : (putF ("job_spans" : Str) (.ref E12) fs11).lookup ("job_spans" : Str) = some (.ref E12):=put_own
  have x12 : (putF ("job_spans" : Str) (.ref E12) fs11).lookup ("ask_spans" : Str) = some (.ref E11):=(put_other (by decide +kernel)).trans e11
  have len12 : (putF ("job_spans" : Str) (.ref E12) fs11).length≤7+1:=Nat.le_trans (length_putF _ _ _) (by omega)
  have w12 : (putF ("job_spans" : Str) (.ref E12) fs11).lookup ("town" : Str) = some (.ref t):=(put_other (by decide +kernel)).trans w11
  have y12 : (putF ("job_spans" : Str) (.ref E12) fs11).lookup ("asks" : Str) = some (.ref D9):=(put_other (by decide +kernel)).trans y11
  have z12 : (putF ("job_spans" : Str) (.ref E12) fs11).lookup ("jobs" : Str) = some (.ref D10):=(put_other (by decide +kernel)).trans x11
  generalize putF ("job_spans" : Str) (.ref E12) fs11 = fs12 at hg12 e12 len12 x12 w12 y12 z12 ⊢
  have v12 : Frm g H11 H12:=Frm.trans (fun b o _ e=>sm12 b o e) u12
  have f12:=f11.trans v12
  have hEd12 : H12 E12 = some (.dT ks12):=u12 _ _ (ne_of hE12 hgm12 (fun z=>nomatch z)) hE12
  have sdd12:=sd12.go fun b ys (e : M12 b = some (.tup ys))=>u12 _ _ (ne_of e hgm12 (fun z=>nomatch z)) e
  have hEd12a : H12 E11 = some (.dT ks11):=v12 _ _ (ne_of hEd11 hg11 (fun z=>nomatch z)) hEd11
  have sdd12a:=sdd11.go fun b ys (e : H11 b = some (.tup ys))=>v12 _ _ (ne_of e hg11 (fun z=>nomatch z)) e
  have ht12:=ht11.frm v12 hg11
  have hAl12 : H12 D9 = some (.lst us9):=v12 _ _ (ne_of hAl11 hg11 (fun z=>nomatch z)) hAl11
  have hAk12 : HKs H12 us9 (below hs (cntOf kc9)):=hAk11.go fun b ys e=>v12 _ _ (ne_of e hg11 (fun z=>nomatch z)) e
  have hJl12 : H12 D10 = some (.lst us10):=v12 _ _ (ne_of hDj11 hg11 (fun z=>nomatch z)) hDj11
  have hJk12 : HKs H12 us10 (below hs (cntOf kc10)):=hkj11.go fun b ys e=>v12 _ _ (ne_of e hg11 (fun z=>nomatch z)) e
  -- self.more_times
  obtain ⟨ta,tb,t1,t2,t3⟩:=id ht12
  refine ⟨_,rfl,t,_,0,_,rfl,rfl,SqT.of t1,rfl,ta,rfl,⟨_,SqT.of t2⟩,fun E13 nE13=>?_⟩
  refine Gr.dcd_it (walk_tup (K:=K) (a:=ta) (xs:=hs.map V.str)) (fun j H'=>Same H12 H'∧∃ kvs : List (Key × V),H' E13 = some (.dK kvs)∧MoD H' (fun h us=>∃ a b,us = [a,b]∧Mr rs h a b) (openOf rs (hs.take j)) kvs∧kvs.length≤j)
   ⟨same_upd nE13,[],upd_same,⟨by rw [List.take_zero]; rfl,fun _ m=>(nomatch m)⟩,Nat.le_refl _⟩ (fun j H' _ h=>SqT.of (h.1 _ _ t2)) ?_ ?_
  ·rintro j v G1 G2 hj ⟨g1,kvs,hDk,sd,hk⟩ ⟨rfl,ev⟩
   rw [List.length_map] at hj
   have eh : hs[j]? = some hs[j]:=List.getElem?_eq_getElem hj
   generalize hs[j] = h at eh
   rw [List.getElem?_map,eh] at ev
   obtain rfl : V.str h = v:=Option.some.inj ev
   obtain ⟨dy,d,fy,kv,h1,h2,h3,h4,h5⟩:=(L12.same g1).l.ex
   refine ⟨rfl,_,rfl,_,rfl,g,_,dy,fy,_,rfl,h1,cls,no _ (by simp),h2,d,_,rfl,DGet.k (k:=Sum.inr h) h3,_,rfl,?_⟩
   rcases val_row h4 (Sum.inr h : Key) with ⟨a,r,e1,e2,e3,e4⟩ | ⟨e1,e2⟩
   ·have ex : ∃ r,AllOf rs h r:=⟨r,e3,(Sum.inr.inj e4).symm⟩
    rw [e1]
    refine iteF ⟨g1,kvs,hDk,?_,Nat.le_succ_of_le hk⟩
    rw [take_snoc eh]
    unfold openOf at sd ⊢
    rw [filter_snoc,if_neg (by simpa using ex),List.append_nil]
    exact sd
   ·have ex : ¬ ∃ r,AllOf rs h r:=fun ⟨r,hr,eh⟩=>e2 r hr (congrArg Sum.inr eh)
    rw [e1]
    refine iteT ⟨_,rfl,_,rfl,_,rfl,g,h,rs,rfl,L12.same g1,fun p ta' tj G3 g3 np hp hsp=>?_⟩
    have g13:=g1.trans g3
    have hDk3:=g3 _ _ hDk
    refine ⟨_,DPut.k (k:=Sum.inr h) hDk3 (small_line (by omega)),same_mut g13 nE13,_,upd_same,?_,put_len hk⟩
    rw [take_snoc eh]
    unfold openOf at sd ⊢
    rw [filter_snoc,if_pos (by simpa using ex)]
    refine ((sd.go fun c ys e=>g3 _ _ e).put (us:=[ta',tj]) (fun m=>not_mem_take hnd eh (List.mem_filter.mp m).1) hp ⟨ta',tj,rfl,hsp⟩).go fun c ys e=>?_
    rw [upd_ne (ne_of e hDk3 (fun z=>nomatch z))]
    exact e
  rintro M13 ⟨sm13,ks13,hE13,sd13,kl13⟩
  rw [List.length_map,List.take_length] at sd13
  have hgm13:=sm13 _ _ hg12
  refine ⟨_,rfl,g,_,dx,fs12,rfl,hgm13,cls,no _ (by simp),(by omega),?_⟩
  have L13 : Low (af 62) (upd M13 g (.ins (af 62) dx (putF "more_times" (.ref E13) fs12))) g rs:=(L12.same sm13).go hgm13 (by decide +kernel) (by decide +kernel) (by decide +kernel)
  have u13 : Frm g M13 (upd M13 g (.ins (af 62) dx (putF "more_times" (.ref E13) fs12))):=frm_upd
  have hg13 : (upd M13 g (.ins (af 62) dx (putF "more_times" (.ref E13) fs12))) g = _:=upd_same
  generalize upd M13 g (.ins (af 62) dx (putF "more_times" (.ref E13) fs12)) = H13 at L13 u13 hg13 ⊢
  have v13 : Frm g H12 H13:=Frm.trans (fun b o _ e=>sm13 b o e) u13
  have tup13 : ∀ b ys,H12 b = some (.tup ys)→H13 b = some (.tup ys):=fun b ys e=>v13 _ _ (ne_of e hg12 (fun z=>nomatch z)) e
  refine qQ H13 (f12.trans v13) ⟨L13,dx,E11,E12,E13,_,ks11,ks12,ks13,cntOf kc9,cntOf kc10,hg13,fun h m=>(cd9.of m).2,fun h m=>(cd10.of m).2,?_,?_,?_,?_,?_,?_,put_own,?_,?_⟩ ⟨dx,D9,D10,_,us9,us10,cntOf kc9,cntOf kc10,hg13,fun h m=>(cd9.of m).2,fun h m=>(cd10.of m).2,(put_other (by decide +kernel)).trans w12,ht12.frm v13 hg12,(put_other (by decide +kernel)).trans y12,v13 _ _ (ne_of hAl12 hg12 (fun z=>nomatch z)) hAl12,hAk12.go tup13,(put_other (by decide +kernel)).trans z12,v13 _ _ (ne_of hJl12 hg12 (fun z=>nomatch z)) hJl12,hJk12.go tup13⟩
  ·exact (put_other (by decide +kernel)).trans x12
  ·exact v13 _ _ (ne_of hEd12a hg12 (fun z=>nomatch z)) hEd12a
  ·exact sdd12a.go tup13
  ·exact (put_other (by decide +kernel)).trans e12
  ·exact v13 _ _ (ne_of hEd12 hg12 (fun z=>nomatch z)) hEd12
  ·exact sdd12.go tup13
  ·exact u13 _ _ (ne_of hE13 hgm13 (fun z=>nomatch z)) hE13
  ·exact sd13.go fun b ys e=>u13 _ _ (ne_of e hgm13 (fun z=>nomatch z)) e
def hkInv : List Key→Gr.HK
 | [.inr h,.inl n]=>(h,n)
 | _=>("", 0)
theorem hkInv_keyOf (k : Gr.HK) : hkInv (Gr.keyOf k) = k:=rfl
def SrtK (ks : List Gr.HK) : Prop:=ks.Pairwise fun x y=>Fl.ltD (Gr.datOf y) (Gr.datOf x) = false
structure Ask (Ex : Addr→Prop) (H : Hp) (t l : Addr) (hs gs : List Str) (xs : List V) (ds : List PyData) : Prop where
 town : TownAt H t hs gs
 ok : ∀ h∈hs,PyData.strOk h = true
 lst : H l = some (.lst xs)
 thing : Thing Ex H xs ds
 len : ds.length≤1000
 h6 : hs.length≤6
 nd : hs.Nodup
def Refuse (CN CC : Addr) (H : Hp) (hs : List Str) (ds : List PyData) (E : XK) : Prop :=
 (∀ (i : Nat) (dv : PyData) (d : Addr) (H' : Hp),RowsD hs ds i→ds[i]? = some dv→¬ IsRowD hs dv→Same H H'→H' d = some (.xd [("number", .int (i : Nat))])→E (.ref CN) (some d) H') ∧
 ∀ (f s : Nat) (d : Addr) (H' : Hp),RowsD hs ds ds.length→FirstClash ds f s→Same H H'→H' d = some (.xd [("second", .int (s : Nat)),("first", .int (f : Nat))])→E (.ref CC) (some d) H'
theorem same_two {H : Hp} {x dx : Addr} {o1 o2 : HO} (nx : H x = none) (nd : H dx = none) : Same H (upd (upd H dx o1) x o2):=fun b o e=>by
 rw [upd_ne (ne_of_none e nx),upd_ne (ne_of_none e nd)]
 exact e
def sp_gaps_of (C CN CC : Addr) : Sp:=fun vs H Q E=>∃ (Ex : Addr→Prop) (t l : Addr) (hs gs : List Str) (xs : List V) (ds : List PyData),vs = [.ref t,.ref l]∧Ask Ex H t l hs gs xs ds ∧
 (∀ (rs : List Row) (x : Addr) (H' : Hp),Same H H'→RowsD hs ds ds.length→NoClash ds ds.length→Book hs rs→ds = rs.map rowD→GapsAt C H' x hs rs→GapsFull C H' x t hs gs rs→Q (.ref x) H')∧Refuse CN CC H hs ds E
theorem ok_gaps_of (T : Txt K mg af fd) : FnOk P w K mg base (L2.CX P w) 8 (af 18) (fd 18) ["town", "rows"] (sp_gaps_of (af 62) (af 58) (af 60)):=by
 refine T.F_gaps_of.okX sc_gaps_of (fun vs H Q E h=>?_) (fun cdv A outer s H vs Q E hr h=>?_)
 ·obtain ⟨Ex,t,l,hs,gs,xs,ds,rfl,_⟩:=h
  rfl
 ·obtain ⟨Ex,t,l,hs,gs,xs,ds,rfl,a,q,r⟩:=h
  refine ⟨_,(pss_cons (ps_expr (pe_call (ok_need_book T) (hr.mono (by first | decide | omega)) (by rfl) T.g_need_book T.F_need_book.kp T.b_need_book .nil (passes_call (takes_of rfl rfl rfl rfl) (fun _ _ _ _ h=>h)) (pa_cons (pv 0) (pa_cons (pv 1) pa_nil))))
    (pss_one (ps_ret (pe_make T.o_Gaps.M (ok_init_Gaps T) (hr.mono (by first | decide | omega)) (by rfl) T.o_Gaps.g T.o_Gaps.b .nil pass0 (pa_cons (pv 0) (pa_cons (pv 1) pa_nil)))))),?_⟩
  refine ⟨_,rfl,_,rfl,Ex,t,l,hs,gs,xs,ds,rfl,a.town,a.ok,a.lst,a.thing,a.len,fun H1 s1 hrows hno=>?_,r.1,r.2⟩
  obtain ⟨rs,hds,hrw,B⟩:=book_of a.ok (a.thing.1.same s1) hrows hno
  have hrl : rs.length≤1000:=by have h:=a.len; rw [hds,List.length_map] at h; exact h
  refine ⟨_,rfl,_,rfl,fun x dx nx nd ne=>?_⟩
  have s0 : Same H1 (upd (upd H1 dx (.own x)) x (.ins (af 62) dx [])):=same_two nx nd
  refine ⟨x,dx,t,l,hs,gs,xs,rs,rfl,upd_same,(a.town.same' s1).same' s0,s0 _ _ (s1 _ _ a.lst),hrw.same s0,hrl,B,a.h6,a.nd,fun H' fr G GF=>⟨rfl,?_⟩⟩
  exact q rs x H' (s1.trans fun b o e=>fr b o (ne_of_none e nx) (s0 b o e)) hrows hno B hds G GF
structure WJ where
 h : Str
 b : Int
 e : Int
structure WA where
 pl : Nat
 g : Str
 o : Int
 k : Int
 ch : Nat
def WJ.v (j : WJ) : List V:=[.str j.h,.int j.b,.int j.e]
def WA.v (x : WA) : List V:=[.int (x.pl : Nat),.str x.g,.int x.o,.int x.k,.int (x.ch : Nat)]
def Cells {A : Type} (f : A→List V) (H : Hp) (rs : List Addr) (xs : List A) : Prop:=rs.length = xs.length∧∀ (i : Nat) (r : Addr) (x : A),rs[i]? = some r→xs[i]? = some x→H r = some (.lst (f x))
structure WorldAt (H : Hp) (w lj la : Addr) (rs qs : List Addr) (js : List WJ) (as : List WA) (most : Int) : Prop where
 w : H w = some (.lst [.ref lj,.ref la,.int most])
 j : H lj = some (.lst (rs.map V.ref))
 a : H la = some (.lst (qs.map V.ref))
 cj : Cells WJ.v H rs js
 ca : Cells WA.v H qs as
 pl : ∀ x∈as,x.pl < js.length
theorem Cells.same {A : Type} {f : A→List V} {H H' : Hp} {rs : List Addr} {xs : List A} (h : Cells f H rs xs) (s : Same H H') : Cells f H' rs xs:=⟨h.1,fun i r x e1 e2=>s _ _ (h.2 i r x e1 e2)⟩
theorem WorldAt.same {H H' : Hp} {w lj la : Addr} {rs qs : List Addr} {js : List WJ} {as : List WA} {most : Int} (h : WorldAt H w lj la rs qs js as most) (s : Same H H') : WorldAt H' w lj la rs qs js as most:=⟨s _ _ h.w,s _ _ h.j,s _ _ h.a,h.cj.same s,h.ca.same s,h.pl⟩
theorem Cells.at {A : Type} {f : A→List V} {H : Hp} {rs : List Addr} {xs : List A} {i : Nat} {x : A} (h : Cells f H rs xs) (e : xs[i]? = some x) : ∃ r,rs[i]? = some r∧H r = some (.lst (f x)):=by
 have hi : i < rs.length:=by rw [h.1]; exact (List.getElem?_eq_some_iff.mp e).1
 exact ⟨rs[i],List.getElem?_eq_getElem hi,h.2 i _ x (List.getElem?_eq_getElem hi) e⟩
theorem map_ref {rs : List Addr} {i : Nat} {r : Addr} (e : rs[i]? = some r) : (rs.map V.ref)[i]? = some (.ref r):=by
 rw [List.getElem?_map,e]
 rfl
def WA.of (js : List WJ) (x : WA) (h : Str) : Bool:=match js[x.pl]? with
 | some j=>decide (j.h = h)
 | none=>false
def nA (js : List WJ) (as : List WA) (h : Str) : Nat:=(as.filter fun x=>x.of js h).length
def nJ (js : List WJ) (h : Str) : Nat:=(js.filter fun j=>decide (j.h = h)).length
def sp_room : Sp:=fun vs H Q _=>∃ (w lj la : Addr) (rs qs : List Addr) (js : List WJ) (as : List WA) (most : Int) (h g : Str),vs = [.ref w,.str h,.str g]∧WorldAt H w lj la rs qs js as most∧js.length≤500∧as.length≤500 ∧
 ∀ (b : Bool) (H' : Hp),Same H H'→(b = true↔nA js as h < 15∧nJ js g < 15∧(js.length : Int) < most)→Q (.bl b) H'
theorem take_succ_filter {A : Type} (f : A→Bool) (xs : List A) {i : Nat} {x : A} (e : xs[i]? = some x) : (xs.take (i + 1)).filter f = (xs.take i).filter f ++ (if f x = true then [x] else []):=by
 rw [List.take_add_one,e,Option.toList_some,List.filter_append]
 congr 1
 rw [List.filter_cons]
 rfl
theorem ok_l_room (T : Txt K mg af fd) : FnOk P w K mg base CX0 1 (af 41) (fd 41) ["world", "house", "goal"] sp_room:=by
 refine T.F_l_room.ok sc_l_room (fun vs H Q E h=>?_) (fun cdv A outer s H vs Q E hr h=>?_)
 ·obtain ⟨w,lj,la,rs,qs,js,as,most,hh,g,rfl,_⟩:=h
  rfl
 ·obtain ⟨w,lj,la,rs,qs,js,as,most,hh,g,rfl,W,lenj,lena,q⟩:=h
  refine ⟨_,(pss_cons (ps_setLc (i:=3) (own:=[("ask", 4)]) (g:=gName 4) (by rfl) sc_l_room.nd rfl rfl (sw_true rfl rfl rfl (by decide +kernel)) (pi_list (pe_ix ix_list (pv 0) pe_int (fun _ _=>rfl))) (blkOk_by (own:=[("ask", 4)]) (N:=["world", "house", "goal", "asks", "ask", "jobs", "job"]) (sc:=defScope s_l_room) (by decide +kernel)) (fun _ _ _ _ _=>pg_name (i:=4) sc_l_room.nd rfl (Or.inl rfl)) (fun _ _ _ _ _=>(pts_one (pt_cmpR op_eq (pe_ix (show IxR _ (rIxL K) from ix_list) (pe_ix (show IxR _ (rIxL K) from ix_list) (pe_ix (show IxR _ (rIxL K) from ix_list) (pv 0) pe_int (fun _ _=>rfl)) (pe_ix (show IxR _ (rIxL K) from ix_list) (pv 4) pe_int (fun _ _=>rfl)) (fun _ _=>rfl)) pe_int (fun _ _=>rfl)) (pv 1) (nomark _)))) (fun _ _ _ _ _=>(pv 4)))
    (pss_cons (ps_setLc (i:=5) (own:=[("job", 6)]) (g:=gName 6) (by rfl) sc_l_room.nd rfl rfl (sw_true rfl rfl rfl (by decide +kernel)) (pi_list (pe_ix (show IxR _ (rIxL K) from ix_list) (pv 0) pe_int (fun _ _=>rfl))) (blkOk_by (own:=[("job", 6)]) (N:=["world", "house", "goal", "asks", "ask", "jobs", "job"]) (sc:=defScope s_l_room) (by decide +kernel)) (fun _ _ _ _ _=>pg_name (i:=6) sc_l_room.nd rfl (Or.inl rfl)) (fun _ _ _ _ _=>(pts_one (pt_cmpR op_eq (pe_ix (show IxR _ (rIxL K) from ix_list) (pv 6) pe_int (fun _ _=>rfl)) (pv 2) (nomark _)))) (fun _ _ _ _ _=>(pv 6)))
    (pss_one (ps_ret (pe_and (pe_cmpR op_lt (pe_callB call_len_seq (by rfl) T.m_len (by decide +kernel) (pa_cons (pv 3) pa_nil)) pe_int (nomark _)) (pe_and (pe_cmpR op_lt (pe_callB call_len_seq (by rfl) T.m_len (by decide +kernel) (pa_cons (pv 5) pa_nil)) pe_int (nomark _)) (pe_one (pe_cmpR op_lt (pe_callB call_len_seq (by rfl) T.m_len (by decide +kernel) (pa_cons (pe_ix (show IxR _ (rIxL K) from ix_list) (pv 0) pe_int (fun _ _=>rfl)) pa_nil)) (pe_ix ix_list (pv 0) pe_int (fun _ _=>rfl)) (nomark _))))))))),?_⟩
  refine ⟨_,rfl,w,_,1,_,rfl,rfl,SqL.of W.w,rfl,la,rfl,⟨_,SqL.of W.a⟩,fun D nD=>?_⟩
  refine lc_list (K:=K) (a:=la) (xs:=qs.map V.ref) (fun i H'=>Same H H'∧∃ vs : List V,H' D = some (.lst vs)∧vs.length = ((as.take i).filter fun x=>x.of js hh).length)
   ⟨same_upd nD,[],upd_same,rfl⟩ (fun i H' _ h=>SqL.of (h.1 _ _ W.a)) ?_ ?_
  ·rintro i v H2 hv ⟨g2,vs,hD,hl⟩
   rw [List.getElem?_map] at hv
   obtain ⟨r,hr1,rfl⟩:=Option.map_eq_some_iff.mp hv
   have hi : i < as.length:=by rw [← W.ca.1]; exact (List.getElem?_eq_some_iff.mp hr1).1
   have hx : as[i]? = some as[i]:=List.getElem?_eq_getElem hi
   generalize as[i] = x at hx
   have W2:=W.same g2
   have hr2:=W2.ca.2 i r x hr1 hx
   have hpl:=W.pl x (List.mem_of_getElem? hx)
   have hj : js[x.pl]? = some js[x.pl]:=List.getElem?_eq_getElem hpl
   have eof : x.of js hh = decide (js[x.pl].h = hh):=by
    unfold WA.of
    rw [hj]
   generalize js[x.pl] = j at hj eof
   obtain ⟨rj,erj,hrj⟩:=W2.cj.at hj
   refine ⟨rfl,_,rfl,w,_,0,_,rfl,rfl,SqL.of W2.w,rfl,_,rfl,r,_,0,_,rfl,rfl,SqL.of hr2,rfl,lj,_,_,_,rfl,rfl,SqL.of W2.j,atI_nat (map_ref erj),rj,_,0,_,rfl,rfl,SqL.of hrj,rfl,_,rfl,rfl,_,rfl,?_⟩
   rw [take_succ_filter _ as hx,eof]
   by_cases e : j.h = hh
   ·rw [decide_eq_true e]
    refine iteTd (congrArg V.str e) ⟨_,rfl,vs,hD,small1000 ?_,same_mut g2 nD,vs ++ [.ref r],upd_same,?_⟩
    ·rw [hl]
     exact Nat.le_trans (List.length_filter_le _ _) (by rw [List.length_take]; omega)
    ·rw [List.length_append,List.length_append,hl,if_pos rfl]
     rfl
   ·rw [decide_eq_false e]
    refine iteFd (fun z=>e (V.str.inj z)) ⟨g2,vs,hD,?_⟩
    rw [List.length_append,hl,if_neg (fun z=>Bool.noConfusion z)]
    rfl
  ·rintro H2 ⟨g2,vs,hD,hl⟩
   rw [List.length_map,W.ca.1,List.take_length] at hl
   have W2:=W.same g2
   refine ⟨_,rfl,w,_,0,_,rfl,rfl,SqL.of W2.w,rfl,lj,rfl,⟨_,SqL.of W2.j⟩,fun D2 nD2=>?_⟩
   refine lc_list (K:=K) (a:=lj) (xs:=rs.map V.ref) (fun i H'=>Same H2 H'∧∃ us : List V,H' D2 = some (.lst us)∧us.length = ((js.take i).filter fun j=>decide (j.h = g)).length)
    ⟨same_upd nD2,[],upd_same,rfl⟩ (fun i H' _ h=>SqL.of (h.1 _ _ W2.j)) ?_ ?_
   ·rintro i v H3 hv ⟨g3,us,hD3,hl3⟩
    rw [List.getElem?_map] at hv
    obtain ⟨r,hr1,rfl⟩:=Option.map_eq_some_iff.mp hv
    have hi : i < js.length:=by rw [← W.cj.1]; exact (List.getElem?_eq_some_iff.mp hr1).1
    have hx : js[i]? = some js[i]:=List.getElem?_eq_getElem hi
    generalize js[i] = j at hx
    have hr3:=(W2.same g3).cj.2 i r j hr1 hx
    refine ⟨rfl,_,rfl,r,_,0,_,rfl,rfl,SqL.of hr3,rfl,_,rfl,rfl,_,rfl,?_⟩
    rw [take_succ_filter _ js hx]
    by_cases e : j.h = g
    ·rw [decide_eq_true e]
     refine iteTd (congrArg V.str e) ⟨_,rfl,us,hD3,small1000 ?_,same_mut g3 nD2,us ++ [.ref r],upd_same,?_⟩
     ·rw [hl3]
      exact Nat.le_trans (List.length_filter_le _ _) (by rw [List.length_take]; omega)
     ·rw [List.length_append,List.length_append,hl3,if_pos rfl]
      rfl
    ·rw [decide_eq_false e]
     refine iteFd (fun z=>e (V.str.inj z)) ⟨g3,us,hD3,?_⟩
     rw [List.length_append,hl3,if_neg (fun z=>Bool.noConfusion z)]
     rfl
   ·rintro H3 ⟨g3,us,hD3,hl3⟩
    rw [List.length_map,W.cj.1,List.take_length] at hl3
    have W3:=W2.same g3
    have g13:=g2.trans g3
    refine ⟨_,rfl,D,_,rfl,.inl (SqL.of (g3 _ _ hD)),_,_,rfl,rfl,_,rfl,?_⟩
    have na : vs.length = nA js as hh:=hl
    have nj : us.length = nJ js g:=hl3
    refine ite2 (fun e1=>?_) (fun e1=>?_)
    ·have e1:=of_decide_eq_true e1
     refine ⟨_,rfl,D2,_,rfl,.inl (SqL.of hD3),_,_,rfl,rfl,_,rfl,ite2 (fun e2=>?_) (fun e2=>?_)⟩
     ·have e2:=of_decide_eq_true e2
      refine ⟨_,rfl,w,_,0,_,rfl,rfl,SqL.of W3.w,rfl,lj,_,rfl,.inl (SqL.of W3.j),_,rfl,w,_,2,_,rfl,rfl,SqL.of W3.w,rfl,_,_,rfl,rfl,?_⟩
      refine q _ _ g13 ?_
      rw [decide_eq_true_iff,List.length_map,W.cj.1]
      exact ⟨fun z=>⟨by omega,by omega,z⟩,fun z=>z.2.2⟩
     ·have e2:=fun z=>e2 (decide_eq_true z)
      exact q _ _ g13 ⟨fun z=>Bool.noConfusion z,fun z=>absurd (show (us.length : Int) < 15 by have:=z.2.1; omega) e2⟩
    ·have e1:=fun z=>e1 (decide_eq_true z)
     exact q _ _ g13 ⟨fun z=>Bool.noConfusion z,fun z=>absurd (show (vs.length : Int) < 15 by have:=z.1; omega) e1⟩
def Dn : Nat→Int
 | 0=>5
 | n + 1=>3 * Dn n + 17
theorem nJ_eq (js : List WJ) (h : Str) : nJ js h = (js.map WJ.h).countP fun z=>decide (z = h):=by
 unfold nJ
 rw [List.countP_map,List.countP_eq_length_filter]
 rfl
theorem of_eq (js : List WJ) (x : WA) (h : Str) : x.of js h = decide ((js.map WJ.h)[x.pl]? = some h):=by
 unfold WA.of
 rw [List.getElem?_map]
 cases js[x.pl]? with
 | none=>simp
 | some j=>simp
theorem nA_congr {js js2 : List WJ} (as : List WA) (h : Str) (e : ∀ x∈as,(js.map WJ.h)[x.pl]? = (js2.map WJ.h)[x.pl]?) : nA js as h = nA js2 as h:=by
 unfold nA
 congr 1
 refine List.filter_congr fun x hx=>?_
 rw [of_eq,of_eq,e x hx]
theorem nJ_snoc (js : List WJ) (j : WJ) (h : Str) : nJ (js ++ [j]) h = nJ js h + (if j.h = h then 1 else 0):=by
 unfold nJ
 rw [List.filter_append,List.length_append]
 congr 1
 by_cases e : j.h = h <;> simp [e]
theorem nA_snoc (js : List WJ) (as : List WA) (x : WA) (h : Str) : nA js (as ++ [x]) h = nA js as h + (if x.of js h = true then 1 else 0):=by
 unfold nA
 rw [List.filter_append,List.length_append]
 congr 1
 by_cases e : x.of js h = true <;> simp [e]
def ChildOk (n0 : Nat) (nj : List WJ) (x : WA) : Prop:=n0 < x.ch∧x.pl < x.ch∧∃ j,nj[x.ch - n0]? = some j∧j.h = x.g∧x.o≤j.b∧j.e≤x.k
structure AskOk (hs : List Str) (n0 : Nat) (nj : List WJ) (x : WA) : Prop where
 g : x.g∈hs
 lo : n0≤x.pl
 par : ∃ j,nj[x.pl - n0]? = some j∧j.b < x.o∧x.o≤x.k∧x.k < j.e
 ch : ChildOk n0 nj x
structure JobPost (hs : List Str) (n0 : Nat) (start D : Int) (house : Str) (nj : List WJ) (na : List WA) (res : Int) : Prop where
 hd : ∃ j0 rest,nj = j0 :: rest∧j0.h = house∧j0.e = res
 jb : ∀ j∈nj,j.h∈hs∧start≤j.b∧j.b≤j.e∧j.e≤res
 rb : res≤start + D
 ab : ∀ x∈na,AskOk hs n0 nj x
 inc : (na.map WA.ch).Pairwise (· < ·)
 cnt : na.length + 1 = nj.length
theorem ChildOk.app {n0 : Nat} {nj : List WJ} {x : WA} (h : ChildOk n0 nj x) (more : List WJ) : ChildOk n0 (nj ++ more) x:=by
 obtain ⟨h1,h2,j,e,r⟩:=h
 exact ⟨h1,h2,j,by rw [List.getElem?_append_left (List.getElem?_eq_some_iff.mp e).1]; exact e,r⟩
theorem AskOk.app {hs : List Str} {n0 : Nat} {nj : List WJ} {x : WA} (h : AskOk hs n0 nj x) (more : List WJ) : AskOk hs n0 (nj ++ more) x:=by
 obtain ⟨h1,h2,⟨j,e,r⟩,h4⟩:=h
 exact ⟨h1,h2,⟨j,by rw [List.getElem?_append_left (List.getElem?_eq_some_iff.mp e).1]; exact e,r⟩,h4.app more⟩
theorem get_shift {A : Type} {n0 i : Nat} {xs ys : List A} {y : A} (hi : n0 + xs.length≤i) (e : ys[i - (n0 + xs.length)]? = some y) : (xs ++ ys)[i - n0]? = some y:=by
 rw [List.getElem?_append_right (by omega),show i - n0 - xs.length = i - (n0 + xs.length) by omega]
 exact e
theorem AskOk.shift {hs : List Str} {n0 : Nat} {nj more : List WJ} {x : WA} (h : AskOk hs (n0 + nj.length) more x) : AskOk hs n0 (nj ++ more) x:=by
 obtain ⟨h1,h2,⟨j,e,r⟩,⟨c1,c2,j',e',r'⟩⟩:=h
 exact ⟨h1,by omega,⟨j,get_shift h2 e,r⟩,⟨by omega,c2,j',get_shift (by omega) e',r'⟩⟩
structure Half (hs : List Str) (n0 : Nat) (begin last now lim : Int) (house : Str) (nj : List WJ) (na : List WA) : Prop where
 hd : ∃ rest,nj = ⟨house,begin,begin⟩ :: rest∧∀ j∈rest,j.h∈hs∧begin≤j.b∧j.b≤j.e∧j.e≤last
 nb : begin≤now
 nl : now≤last
 ll : last≤lim
 ab : ∀ x∈na,(x.pl = n0∧x.g∈hs∧begin < x.o∧x.o≤x.k∧x.k≤last∧ChildOk n0 nj x)∨(n0 < x.pl∧AskOk hs n0 nj x)
 inc : (na.map WA.ch).Pairwise (· < ·)
 top : ∀ x∈na,x.ch < n0 + nj.length
 cnt : na.length + 1 = nj.length
theorem half_new {hs : List Str} {n0 : Nat} {begin : Int} {house : Str} : Half hs n0 begin begin begin begin house [⟨house,begin,begin⟩] [] :=
 ⟨⟨[],rfl,fun _ m=>nomatch m⟩,Int.le_refl _,Int.le_refl _,Int.le_refl _,(fun _ m=>nomatch m),List.Pairwise.nil,(fun _ m=>nomatch m),rfl⟩
theorem Half.more {hs : List Str} {n0 : Nat} {begin last now lim out d t : Int} {house g : Str} {nj nj2 : List WJ} {na na2 : List WA} {res : Int} (h : Half hs n0 begin last now lim house nj na) (hg : g∈hs) (ho1 : now < out) (ho2 : out≤now + 2)
  (J : JobPost hs (n0 + nj.length) out d g nj2 na2 res) (t0 : 0≤t) (t2 : t≤2) (hd : 0≤d) {now' : Int} (hn : now' = out∨now' = res + t) :
  Half hs n0 begin (max last (res + t)) now' (lim + d + 4) house (nj ++ nj2) (na ++ ⟨n0,g,out,res + t,n0 + nj.length⟩ :: na2):=by
 obtain ⟨⟨rest,rfl,hrest⟩,nb,nl,ll,ab,inc,top,cnt⟩:=h
 obtain ⟨⟨j0,r2,rfl,hj0,rfl⟩,jb,rb,ab2,inc2,cnt2⟩:=J
 have b0:=jb j0 List.mem_cons_self
 have ch2 : ∀ x∈na2,n0 + (⟨house,begin,begin⟩ :: rest : List WJ).length < x.ch:=fun x m=>(ab2 x m).ch.1
 refine ⟨⟨rest ++ j0 :: r2,rfl,fun j m=>?_⟩,?_,?_,?_,fun x m=>?_,?_,fun x m=>?_,?_⟩
 ·rcases List.mem_append.mp m with m | m
  ·have:=hrest j m
   exact ⟨this.1,this.2.1,this.2.2.1,by omega⟩
  ·have:=jb j m
   exact ⟨this.1,by omega,this.2.2.1,by omega⟩
 ·omega
 ·omega
 ·omega
 ·rcases List.mem_append.mp m with m | m
  ·rcases ab x m with ⟨e,g1,o1,o2,o3,c1⟩ | ⟨e,a1⟩
   ·exact .inl ⟨e,g1,o1,o2,by omega,c1.app _⟩
   ·exact .inr ⟨e,a1.app _⟩
  ·rcases List.mem_cons.mp m with e | m
   ·subst e
    refine .inl ⟨rfl,hg,by show begin < out; omega,by show out≤j0.e + t; omega,by show j0.e + t≤max last (j0.e + t); omega,?_,?_,j0,?_,hj0,b0.2.1,by show j0.e≤j0.e + t; omega⟩
    ·show n0 < n0 + (rest.length + 1)
     omega
    ·show n0 < n0 + (rest.length + 1)
     omega
    ·exact get_shift (Nat.le_refl _) (by rw [Nat.sub_self]; rfl)
   ·have a1:=ab2 x m
    have:=a1.lo
    rw [List.length_cons] at this
    exact .inr ⟨by omega,a1.shift⟩
 ·rw [List.map_append,List.map_cons]
  refine List.pairwise_append.mpr ⟨inc,List.pairwise_cons.mpr ⟨fun z m=>?_,inc2⟩,fun z m y m2=>?_⟩
  ·obtain ⟨x,mx,rfl⟩:=List.mem_map.mp m
   exact ch2 x mx
  ·obtain ⟨x,mx,rfl⟩:=List.mem_map.mp m
   have h1:=top x mx
   rcases List.mem_cons.mp m2 with e | m2
   ·subst e
    exact h1
   ·obtain ⟨x2,mx2,rfl⟩:=List.mem_map.mp m2
    exact Nat.lt_trans h1 (ch2 x2 mx2)
 ·rw [List.length_append]
  rcases List.mem_append.mp m with m | m
  ·have:=top x m
   omega
  ·rcases List.mem_cons.mp m with e | m
   ·subst e
    show n0 + (rest.length + 1) < n0 + ((rest.length + 1) + (r2.length + 1))
    omega
   ·obtain ⟨c1,c2,j',e',_⟩:=(ab2 x m).ch
    have:=(List.getElem?_eq_some_iff.mp e').1
    omega
 ·rw [List.length_append,List.length_append,List.length_cons]
  omega
theorem Half.done {hs : List Str} {n0 : Nat} {begin last now lim start t D : Int} {house : Str} {nj : List WJ} {na : List WA} (h : Half hs n0 begin last now lim house nj na) (hh : house∈hs) (sb : start≤begin) (t0 : 0≤t) (hD : lim + 1 + t≤start + D) :
  ∃ rest,nj = ⟨house,begin,begin⟩ :: rest∧JobPost hs n0 start D house (⟨house,begin,last + (if last > begin then 1 else 0) + t⟩ :: rest) na (last + (if last > begin then 1 else 0) + t):=by
 obtain ⟨⟨rest,rfl,hrest⟩,nb,nl,ll,ab,inc,top,cnt⟩:=h
 have he : last≤last + (if last > begin then 1 else 0) + t:=by split <;> omega
 have hu : last + (if last > begin then 1 else 0) + t≤lim + 1 + t:=by split <;> omega
 have chO : ∀ x : WA,ChildOk n0 (⟨house,begin,begin⟩ :: rest) x→ChildOk n0 (⟨house,begin,last + (if last > begin then 1 else 0) + t⟩ :: rest) x:=by
  rintro x ⟨c1,c2,j,e,r⟩
  refine ⟨c1,c2,j,?_,r⟩
  obtain ⟨k,hk⟩ : ∃ k,x.ch - n0 = k + 1:=⟨x.ch - n0 - 1,by omega⟩
  rw [hk] at e ⊢
  exact e
 refine ⟨rest,rfl,⟨_,rest,rfl,rfl,rfl⟩,fun j m=>?_,by omega,fun x m=>?_,inc,cnt⟩
 ·rcases List.mem_cons.mp m with e | m
  ·subst e
   exact ⟨hh,sb,by show begin≤last + (if last > begin then 1 else 0) + t; omega,Int.le_refl _⟩
  ·have:=hrest j m
   exact ⟨this.1,by omega,this.2.2.1,by omega⟩
 ·rcases ab x m with ⟨e,g1,o1,o2,o3,c1⟩ | ⟨e,⟨g1,lo,⟨j,ej,r⟩,c1⟩⟩
  ·refine ⟨g1,by omega,⟨⟨house,begin,last + (if last > begin then 1 else 0) + t⟩,?_,o1,o2,?_⟩,chO x c1⟩
   ·rw [e,Nat.sub_self]
    rfl
   ·show x.k < last + (if last > begin then 1 else 0) + t
    rw [if_pos (by omega)]
    omega
  ·refine ⟨g1,lo,⟨j,?_,r⟩,chO x c1⟩
   obtain ⟨k,hk⟩ : ∃ k,x.pl - n0 = k + 1:=⟨x.pl - n0 - 1,by omega⟩
   rw [hk] at ej ⊢
   exact ej
def Fr (p lj la : Addr) (H H' : Hp) : Prop:=∀ b o,b≠p→b≠lj→b≠la→H b = some o→H' b = some o
structure Apart (p c lj la : Addr) (rs qs : List Addr) : Prop where
 jl : lj≠la
 cj : c≠lj
 ca : c≠la
 pj : p≠lj
 pa : p≠la
 rn : rs.Nodup
 qn : qs.Nodup
theorem Fr.refl {p lj la : Addr} {H : Hp} : Fr p lj la H H:=fun _ _ _ _ _ e=>e
theorem Fr.trans {p lj la : Addr} {H H1 H2 : Hp} (a : Fr p lj la H H1) (b : Fr p lj la H1 H2) : Fr p lj la H H2:=fun x o h1 h2 h3 e=>b x o h1 h2 h3 (a x o h1 h2 h3 e)
theorem Fr.stp {p c lj la : Addr} {H H1 : Hp} (s : Stp p c H H1) : Fr p lj la H H1:=fun x o h1 _ _ e=>s.2 x o h1 e
theorem Fr.same {p lj la : Addr} {H H1 : Hp} (s : Same H H1) : Fr p lj la H H1:=fun x o _ _ _ e=>s x o e
theorem cell_ne {H : Hp} {a b : Addr} {xs ys : List V} (ha : H a = some (.lst xs)) (hb : H b = some (.lst ys)) (h : xs≠ys) : a≠b:=ne_of ha hb fun z=>h (HO.lst.inj z)
theorem jv_ne {j : WJ} {v : V} {vs : List V} (h : ∀ x,v≠.str x) : j.v≠v :: vs:=fun z=>h _ (List.cons.inj z).1.symm
theorem av_ne {x : WA} {v : V} {vs : List V} (h : ∀ i,v≠.int i) : x.v≠v :: vs:=fun z=>h _ (List.cons.inj z).1.symm
theorem jv_av {j : WJ} {x : WA} : j.v≠x.v:=fun z=>by cases (List.cons.inj z).1
theorem refs_jv {rs : List Addr} {j : WJ} : rs.map V.ref≠j.v:=by
 cases rs with
 | nil=>exact fun z=>nomatch z
 | cons r rs=>exact fun z=>by cases (List.cons.inj z).1
theorem refs_av {rs : List Addr} {x : WA} : rs.map V.ref≠x.v:=by
 cases rs with
 | nil=>exact fun z=>nomatch z
 | cons r rs=>exact fun z=>by cases (List.cons.inj z).1
theorem refs_w {rs : List Addr} {a b : Addr} {m : Int} : rs.map V.ref≠[.ref a,.ref b,.int m]:=by
 match rs with
 | []=>exact fun z=>nomatch z
 | [r]=>exact fun z=>nomatch (List.cons.inj z).2
 | [r,s]=>exact fun z=>nomatch (List.cons.inj (List.cons.inj z).2).2
 | r :: s :: u :: v=>exact fun z=>by cases (List.cons.inj (List.cons.inj (List.cons.inj z).2).2).1
theorem Cells.keep {A : Type} {f : A→List V} {H H' : Hp} {rs : List Addr} {xs : List A} (h : Cells f H rs xs) (k : ∀ (i : Nat) (r : Addr) (x : A),rs[i]? = some r→xs[i]? = some x→H r = some (.lst (f x))→H' r = some (.lst (f x))) : Cells f H' rs xs:=⟨h.1,fun i r x e1 e2=>k i r x e1 e2 (h.2 i r x e1 e2)⟩
theorem Cells.snoc {A : Type} {f : A→List V} {H : Hp} {rs : List Addr} {xs : List A} {r : Addr} {x : A} (h : Cells f H rs xs) (hr : H r = some (.lst (f x))) : Cells f H (rs ++ [r]) (xs ++ [x]):=by
 refine ⟨by rw [List.length_append,List.length_append,h.1]; rfl,fun i r' x' e1 e2=>?_⟩
 by_cases hi : i < rs.length
 ·rw [List.getElem?_append_left hi] at e1
  rw [List.getElem?_append_left (by rw [← h.1]; exact hi)] at e2
  exact h.2 i r' x' e1 e2
 ·rw [List.getElem?_append_right (by omega)] at e1
  rw [List.getElem?_append_right (by rw [← h.1]; omega),← h.1] at e2
  cases hk : i - rs.length with
  | zero =>
   rw [hk] at e1 e2
   obtain rfl:=Option.some.inj e1
   obtain rfl:=Option.some.inj e2
   exact hr
  | succ k =>
   rw [hk] at e1
   cases e1
theorem WorldAt.stp {p c w lj la : Addr} {H H' : Hp} {rs qs : List Addr} {js : List WJ} {as : List WA} {most : Int} (h : WorldAt H w lj la rs qs js as most) (hP : Pen H p c) (s : Stp p c H H') (ap : Apart p c lj la rs qs) : WorldAt H' w lj la rs qs js as most:=by
 obtain ⟨cs,n,st,h1,_⟩:=hP
 refine ⟨s.2 _ _ (cell_ne h.w h1 fun z=>by cases (List.cons.inj (List.cons.inj z).2).1) h.w,s.2 _ _ (Ne.symm ap.pj) h.j,s.2 _ _ (Ne.symm ap.pa) h.a,h.cj.keep fun i r x _ _ e=>s.2 _ _ (cell_ne e h1 (jv_ne fun x z=>by cases z)) e,h.ca.keep fun i r x _ _ e=>s.2 _ _ (cell_ne e h1 (av_ne fun x z=>by cases z)) e,h.pl⟩
theorem WorldAt.addJ {w lj la r : Addr} {H : Hp} {rs qs : List Addr} {js : List WJ} {as : List WA} {most : Int} {j : WJ} (h : WorldAt H w lj la rs qs js as most) (hjl : lj≠la) (nr : H r = none) : WorldAt (upd (upd H r (.lst j.v)) lj (.lst (rs.map V.ref ++ [.ref r]))) w lj la (rs ++ [r]) qs (js ++ [j]) as most:=by
 have s:=same_upd (o:=.lst j.v) nr
 have rl : r≠lj:=fun e=>ne_of_none h.j nr e.symm
 refine ⟨?_,?_,?_,?_,?_,fun x m=>?_⟩
 ·rw [upd_ne (cell_ne h.w h.j fun z=>refs_w z.symm)]
  exact s _ _ h.w
 ·rw [upd_same,List.map_append]
  rfl
 ·rw [upd_ne (Ne.symm hjl)]
  exact s _ _ h.a
 ·refine Cells.snoc (h.cj.keep fun i r' x _ _ e=>?_) ?_
  ·rw [upd_ne (cell_ne e h.j fun z=>refs_jv z.symm)]
   exact s _ _ e
  ·rw [upd_ne rl,upd_same]
 ·refine h.ca.keep fun i r' x _ _ e=>?_
  rw [upd_ne (cell_ne e h.j fun z=>refs_av z.symm)]
  exact s _ _ e
 ·rw [List.length_append]
  exact Nat.lt_of_lt_of_le (h.pl x m) (Nat.le_add_right _ _)
theorem WorldAt.addA {w lj la r : Addr} {H : Hp} {rs qs : List Addr} {js : List WJ} {as : List WA} {most : Int} {x : WA} (h : WorldAt H w lj la rs qs js as most) (hjl : lj≠la) (hr : H r = some (.lst x.v)) (hp : x.pl < js.length) : WorldAt (upd H la (.lst (qs.map V.ref ++ [.ref r]))) w lj la rs (qs ++ [r]) js (as ++ [x]) most:=by
 refine ⟨?_,?_,?_,?_,?_,fun y m=>?_⟩
 ·rw [upd_ne (cell_ne h.w h.a fun z=>refs_w z.symm)]
  exact h.w
 ·rw [upd_ne hjl]
  exact h.j
 ·rw [upd_same,List.map_append]
  rfl
 ·refine h.cj.keep fun i r' x _ _ e=>?_
  rw [upd_ne (cell_ne e h.a fun z=>refs_jv z.symm)]
  exact e
 ·refine Cells.snoc (h.ca.keep fun i r' x _ _ e=>?_) ?_
  ·rw [upd_ne (cell_ne e h.a fun z=>refs_av z.symm)]
   exact e
  ·rw [upd_ne (cell_ne hr h.a fun z=>refs_av z.symm)]
   exact hr
 ·rcases List.mem_append.mp m with m | m
  ·exact h.pl y m
  ·rw [List.mem_singleton.mp m]
   exact hp
theorem Cells.put {A : Type} {f : A→List V} {H : Hp} {rs : List Addr} {xs : List A} {r : Addr} {x : A} {k : Nat} (h : Cells f H rs xs) (nd : rs.Nodup) (hr : rs[k]? = some r) : Cells f (upd H r (.lst (f x))) rs (xs.set k x):=by
 refine ⟨by rw [List.length_set]; exact h.1,fun i r' x' e1 e2=>?_⟩
 by_cases hi : i = k
 ·subst hi
  obtain rfl : r = r':=Option.some.inj (hr.symm.trans e1)
  have hk : i < xs.length:=by rw [← h.1]; exact (List.getElem?_eq_some_iff.mp e1).1
  rw [List.getElem?_set_self hk] at e2
  rw [upd_same,Option.some.inj e2]
 ·rw [List.getElem?_set_ne (Ne.symm hi)] at e2
  have hne : r'≠r:=fun z=>by
   subst z
   obtain ⟨a1,a2⟩:=List.getElem?_eq_some_iff.mp e1
   obtain ⟨b1,b2⟩:=List.getElem?_eq_some_iff.mp hr
   exact hi ((List.getElem_inj nd).mp (a2.trans b2.symm))
  rw [upd_ne hne]
  exact h.2 i r' x' e1 e2
theorem WorldAt.setJ {w lj la r : Addr} {H : Hp} {rs qs : List Addr} {js : List WJ} {as : List WA} {most : Int} {j j0 : WJ} {k : Nat} (h : WorldAt H w lj la rs qs js as most) (nd : rs.Nodup) (hr : rs[k]? = some r) (hj : js[k]? = some j0) : WorldAt (upd H r (.lst j.v)) w lj la rs qs (js.set k j) as most:=by
 have hH:=h.cj.2 k r j0 hr hj
 refine ⟨?_,?_,?_,h.cj.put nd hr,?_,fun x m=>?_⟩
 ·rw [upd_ne (cell_ne h.w hH fun z=>jv_ne (fun x z=>by cases z) z.symm)]
  exact h.w
 ·rw [upd_ne (cell_ne h.j hH refs_jv)]
  exact h.j
 ·rw [upd_ne (cell_ne h.a hH refs_jv)]
  exact h.a
 ·refine h.ca.keep fun i r' x _ _ e=>?_
  rw [upd_ne (cell_ne e hH fun z=>jv_av z.symm)]
  exact e
 ·rw [List.length_set]
  exact h.pl x m
theorem WorldAt.setA {w lj la r : Addr} {H : Hp} {rs qs : List Addr} {js : List WJ} {as : List WA} {most : Int} {x x0 : WA} {k : Nat} (h : WorldAt H w lj la rs qs js as most) (nd : qs.Nodup) (hr : qs[k]? = some r) (hx : as[k]? = some x0) (hp : x.pl = x0.pl) : WorldAt (upd H r (.lst x.v)) w lj la rs qs js (as.set k x) most:=by
 have hH:=h.ca.2 k r x0 hr hx
 refine ⟨?_,?_,?_,?_,h.ca.put nd hr,fun y m=>?_⟩
 ·rw [upd_ne (cell_ne h.w hH fun z=>av_ne (fun x z=>by cases z) z.symm)]
  exact h.w
 ·rw [upd_ne (cell_ne h.j hH refs_av)]
  exact h.j
 ·rw [upd_ne (cell_ne h.a hH refs_av)]
  exact h.a
 ·refine h.cj.keep fun i r' y _ _ e=>?_
  rw [upd_ne (cell_ne e hH jv_av)]
  exact e
 ·rcases List.mem_or_eq_of_mem_set m with m | e
  ·exact h.pl y m
  ·rw [e,hp]
   exact h.pl x0 (List.mem_of_getElem? hx)
theorem Pen.put {p c l : Addr} {H : Hp} {o : HO} (h : Pen H p c) (hp : p≠l) (hc : c≠l) : Pen (upd H l o) p c:=by
 obtain ⟨cs,n,st,h1,h2,h3,h4⟩:=h
 exact ⟨cs,n,st,by rw [upd_ne hp]; exact h1,by rw [upd_ne hc]; exact h2,h3,h4⟩
theorem Cells.nin {A : Type} {f : A→List V} {H : Hp} {rs : List Addr} {xs : List A} {r : Addr} (h : Cells f H rs xs) (nr : H r = none) : r ∉ rs:=fun m=>by
 obtain ⟨i,hi,e⟩:=List.getElem_of_mem m
 have hi' : i < xs.length:=by rw [← h.1]; exact hi
 have:=h.2 i r xs[i] (by rw [List.getElem?_eq_getElem hi,e]) (List.getElem?_eq_getElem hi')
 rw [nr] at this
 cases this
theorem nodup_snoc {rs : List Addr} {r : Addr} (nd : rs.Nodup) (h : r ∉ rs) : (rs ++ [r]).Nodup:=List.nodup_append.mpr ⟨nd,List.pairwise_singleton _ _,fun a ha b hb e=>h (by rw [List.mem_singleton.mp hb] at e; rw [← e]; exact ha)⟩
theorem nA_more (js more : List WJ) (as : List WA) (h : Str) (hp : ∀ x∈as,x.pl < js.length) : nA (js ++ more) as h = nA js as h:=nA_congr as h fun x m=>by rw [List.map_append,List.getElem?_append_left (by rw [List.length_map]; exact hp x m)]
theorem Pen.cellJ {p c r : Addr} {H : Hp} {j : WJ} {o : HO} (h : Pen H p c) (hr : H r = some (.lst j.v)) : Pen (upd H r o) p c:=by
 have h':=h
 obtain ⟨cs,n,st,h1,h2,_⟩:=h'
 refine h.put (Ne.symm (cell_ne hr h1 (jv_ne fun x z=>by cases z))) (Ne.symm (cell_ne hr h2 ?_))
 cases cs with
 | nil=>exact fun z=>nomatch z
 | cons x xs=>exact fun z=>by cases (List.cons.inj z).1
theorem Pen.cellA {p c r : Addr} {H : Hp} {x : WA} {o : HO} (h : Pen H p c) (hr : H r = some (.lst x.v)) : Pen (upd H r o) p c:=by
 have h':=h
 obtain ⟨cs,n,st,h1,h2,_⟩:=h'
 refine h.put (Ne.symm (cell_ne hr h1 (av_ne fun x z=>by cases z))) (Ne.symm (cell_ne hr h2 ?_))
 match cs with
 | []=>exact fun z=>nomatch z
 | [y]=>exact fun z=>nomatch (List.cons.inj z).2
 | y :: z :: ys=>exact fun z=>by cases (List.cons.inj (List.cons.inj z).2).1
theorem set_at {A : Type} (xs ys : List A) (y z : A) : (xs ++ y :: ys).set xs.length z = xs ++ z :: ys:=by
 rw [List.set_append_right _ _ (Nat.le_refl _),Nat.sub_self]
 rfl
theorem get_at {A : Type} (xs ys : List A) (y : A) : (xs ++ y :: ys)[xs.length]? = some y:=by
 rw [List.getElem?_append_right (Nat.le_refl _),Nat.sub_self]
 rfl
def Fresh (H : Hp) (l : List Addr) : Prop:=∀ r∈l,H r = none
theorem Fresh.back {p c lj la : Addr} {H H1 : Hp} {l : List Addr} {xs ys : List V} (f : Fresh H1 l) (fr : Fr p lj la H H1) (hP : Pen H1 p c) (hj : H1 lj = some (.lst xs)) (ha : H1 la = some (.lst ys)) : Fresh H l:=fun r m=>by
 have n1:=f r m
 cases e : H r with
 | none=>rfl
 | some o =>
  have k1 : r≠p:=fun z=>hP.neP n1 z.symm
  have k2 : r≠lj:=fun z=>ne_of_none hj n1 z.symm
  have k3 : r≠la:=fun z=>ne_of_none ha n1 z.symm
  rw [fr r o k1 k2 k3 e] at n1
  cases n1
theorem Fr.town {p c lj la t : Addr} {H H1 : Hp} {hs gs : List Str} {xs ys : List V} (fr : Fr p lj la H H1) (hP : Pen H p c) (hj : H lj = some (.lst xs)) (ha : H la = some (.lst ys)) (ht : TownAt H t hs gs) : TownAt H1 t hs gs:=by
 have key : ∀ (b : Addr) (zs : List V),H b = some (.tup zs)→H1 b = some (.tup zs):=fun b zs e=>fr b _ (hP.tup e) (ne_of e hj fun z=>nomatch z) (ne_of e ha fun z=>nomatch z) e
 obtain ⟨ta,tb,t1,t2,t3⟩:=ht
 exact ⟨ta,tb,key _ _ t1,key _ _ t2,key _ _ t3⟩
theorem Half.up {hs : List Str} {n0 : Nat} {begin last now lim lim' : Int} {house : Str} {nj : List WJ} {na : List WA} (h : Half hs n0 begin last now lim house nj na) (l : lim≤lim') : Half hs n0 begin last now lim' house nj na:=⟨h.hd,h.nb,h.nl,Int.le_trans h.ll l,h.ab,h.inc,h.top,h.cnt⟩
theorem Pen.sm {p c : Addr} {H H' : Hp} (h : Pen H p c) (s : Same H H') : Pen H' p c:=by
 obtain ⟨cs,n,st,h1,h2,h3,h4⟩:=h
 exact ⟨cs,n,st,s _ _ h1,s _ _ h2,h3,h4⟩
theorem nA_swap (js : List WJ) (as1 as2 : List WA) {x x' : WA} (h : Str) (e : x.pl = x'.pl) : nA js (as1 ++ x :: as2) h = nA js (as1 ++ x' :: as2) h:=by
 have eo : x.of js h = x'.of js h:=by
  unfold WA.of
  rw [e]
 unfold nA
 rw [List.filter_append,List.filter_append,List.length_append,List.length_append,List.filter_cons,List.filter_cons,eo]
 split <;> rfl
def Cnt (js : List WJ) (as : List WA) : Prop:=∀ h,nJ js h≤15∧nA js as h≤15
def sp_job (n : Nat) : Sp:=fun vs H Q _=>∃ (p c w lj la t : Addr) (hs gs : List Str) (rs qs : List Addr) (js : List WJ) (as : List WA) (most : Int) (house : Str) (start : Int) (deep : Nat),vs = [.ref p,.ref w,.ref t,.str house,.int start,.int (deep : Nat)]∧deep < n ∧
 Pen H p c∧TownAt H t hs gs∧1≤hs.length∧hs.length≤6∧WorldAt H w lj la rs qs js as most∧Apart p c lj la rs qs∧house∈hs∧(js.length : Int) < most∧most≤100∧as.length≤js.length∧Cnt js as∧nJ js house < 15 ∧
 ∀ (nr nq : List Addr) (nj : List WJ) (na : List WA) (res : Int) (H' : Hp),Fr p lj la H H'→Fresh H (nr ++ nq)→Pen H' p c→WorldAt H' w lj la (rs ++ nr) (qs ++ nq) (js ++ nj) (as ++ na) most→Apart p c lj la (rs ++ nr) (qs ++ nq)→JobPost hs js.length start (Dn deep) house nj na res→Cnt (js ++ nj) (as ++ na)→((js ++ nj).length : Int)≤most→Q (.int res) H'
theorem ok_job_n (T : Txt K mg af fd) : ∀ n : Nat,FnOk P w K mg base CX0 (n + 3) (af 42) (fd 42) ["pen", "world", "town", "house", "start", "deep"] (sp_job n):=by
 intro n
 induction n with
 | zero=>exact ⟨fun vs H Q E ⟨_,_,_,_,_,_,_,_,_,_,_,_,_,_,_,_,_,h,_⟩=>absurd h (Nat.not_lt_zero _),fun A outer s H args us vs Q E hr he hb hv ⟨_,_,_,_,_,_,_,_,_,_,_,_,_,_,_,_,_,h,_⟩=>absurd h (Nat.not_lt_zero _)⟩
 | succ n ih =>
  refine T.F_l_job.ok sc_l_job (fun vs H Q E h=>?_) (fun cdv A outer s H vs Q E hr h=>?_)
  ·obtain ⟨p,c,w,lj,la,t,hs,gs,rs,qs,js,as,most,house,start,deep,rfl,_⟩:=h
   rfl
  ·obtain ⟨p,c,w,lj,la,t,hs,gs,rs,qs,js,as,most,house,start,deep,rfl,hdn,hP,ht,l1,l6,W,ap,hh,hm,hm100,hal,hC,hJ,q⟩:=h
   refine ⟨_,(pss_cons (ps_set (i:=6) sc_l_job.nd rfl (by first | exact Or.inl rfl | exact Or.inr rfl) (pe_callB call_len_seq (by rfl) T.m_len (by decide +kernel) (pa_cons (pe_ix ix_list (pv 1) pe_int (fun _ _=>rfl)) pa_nil)))
    (pss_cons (ps_set (i:=7) sc_l_job.nd rfl (by first | exact Or.inl rfl | exact Or.inr rfl) (pe_op op_add (pv 4) (pe_call (ok_l_take T) (hr.mono (by first | decide | omega)) (by rfl) T.g_l_take T.F_l_take.kp T.b_l_take .nil pass0 (pa_cons (pv 0) (pa_cons pe_int pa_nil)))))
    (pss_cons (ps_set (i:=8) sc_l_job.nd rfl (by first | exact Or.inl rfl | exact Or.inr rfl) (pv 7))
    (pss_cons (ps_set (i:=9) sc_l_job.nd rfl (by first | exact Or.inl rfl | exact Or.inr rfl) (pv 7))
    (pss_cons (ps_expr (pe_bm PySem.F.plainAttrs_list PySem.F.slot_list_append PySem.F.type_list_append mt_append (pe_ix ix_list (pv 1) pe_int (fun _ _=>rfl)) (pa_cons (pe_lst (pa_cons (pv 3) (pa_cons (pv 7) (pa_cons (pv 7) pa_nil)))) pa_nil)))
    (pss_cons (ps_for PassesOwn.never rfl (pi_range1 (by rfl) T.m_range (pa_cons (pe_op op_mul (pe_call (ok_l_take T) (hr.mono (by first | decide | omega)) (by rfl) T.g_l_take T.F_l_take.kp T.b_l_take .nil pass0 (pa_cons (pv 0) (pa_cons pe_int pa_nil))) (pe_callTy call_int1 (by rfl) T.m_int (by decide +kernel) (pa_cons (pe_cmpR op_gt (pv 5) pe_int (nomark _)) pa_nil))) pa_nil)) (pg_name (i:=10) sc_l_job.nd rfl (by first | exact Or.inl rfl | exact Or.inr rfl)) (pss_cons (ps_set (i:=11) sc_l_job.nd rfl (by first | exact Or.inl rfl | exact Or.inr rfl) (pe_ix ix_tup (pe_ix ix_tup (pv 2) pe_int (fun _ _=>rfl)) (pe_call (ok_l_take T) (hr.mono (by first | decide | omega)) (by rfl) T.g_l_take T.F_l_take.kp T.b_l_take .nil pass0 (pa_cons (pv 0) (pa_cons (pe_callB call_len_seq (by rfl) T.m_len (by decide +kernel) (pa_cons (pe_ix ix_tup (pv 2) pe_int (fun _ _=>rfl)) pa_nil)) pa_nil))) (fun _ _=>rfl)))
    (pss_one (ps_if (pt_val (pe_call (ok_l_room T) (hr.mono (by first | decide | omega)) (by rfl) T.g_l_room T.F_l_room.kp T.b_l_room .nil pass0 (pa_cons (pv 1) (pa_cons (pv 3) (pa_cons (pv 11) pa_nil))))) (pss_cons (ps_set (i:=12) sc_l_job.nd rfl (by first | exact Or.inl rfl | exact Or.inr rfl) (pe_op op_add (pe_op op_add (pv 9) pe_int) (pe_call (ok_l_take T) (hr.mono (by first | decide | omega)) (by rfl) T.g_l_take T.F_l_take.kp T.b_l_take .nil pass0 (pa_cons (pv 0) (pa_cons pe_int pa_nil)))))
    (pss_cons (ps_set (i:=13) sc_l_job.nd rfl (by first | exact Or.inl rfl | exact Or.inr rfl) (pe_lst (pa_cons (pv 6) (pa_cons (pv 11) (pa_cons (pv 12) (pa_cons (pv 12) (pa_cons (pe_callB call_len_seq (by rfl) T.m_len (by decide +kernel) (pa_cons (pe_ix ix_list (pv 1) pe_int (fun _ _=>rfl)) pa_nil)) pa_nil)))))))
    (pss_cons (ps_expr (pe_bm PySem.F.plainAttrs_list PySem.F.slot_list_append PySem.F.type_list_append mt_append (pe_ix ix_list (pv 1) pe_int (fun _ _=>rfl)) (pa_cons (pv 13) pa_nil)))
    (pss_cons (ps_asg (pe_op op_add (pe_call ih (hr.mono (by omega)) (by rfl) T.g_l_job T.F_l_job.kp T.b_l_job .nil pass0 (pa_cons (pv 0) (pa_cons (pv 1) (pa_cons (pv 2) (pa_cons (pv 11) (pa_cons (pv 12) (pa_cons (pe_op op_sub (pv 5) pe_int) pa_nil))))))) (pe_call (ok_l_take T) (hr.mono (by first | decide | omega)) (by rfl) T.g_l_take T.F_l_take.kp T.b_l_take .nil pass0 (pa_cons (pv 0) (pa_cons pe_int pa_nil)))) (pg_sub (pv 13) pe_int set_list))
    (pss_cons (ps_set (i:=8) sc_l_job.nd rfl (by first | exact Or.inl rfl | exact Or.inr rfl) (pe_callB (call_max2 rfl) (by rfl) T.m_max (by decide +kernel) (pa_cons (pv 8) (pa_cons (pe_ix ix_list (pv 13) pe_int (fun _ _=>rfl)) pa_nil))))
    (pss_one (ps_set (i:=9) sc_l_job.nd rfl (by first | exact Or.inl rfl | exact Or.inr rfl) (pe_ix ix_list (pe_lst (pa_cons (pv 12) (pa_cons (pe_ix ix_list (pv 13) pe_int (fun _ _=>rfl)) pa_nil))) (pe_call (ok_l_take T) (hr.mono (by first | decide | omega)) (by rfl) T.g_l_take T.F_l_take.kp T.b_l_take .nil pass0 (pa_cons (pv 0) (pa_cons pe_int pa_nil))) (fun _ _=>rfl))))))))) pss_nil))))
    (pss_cons (ps_asg (pe_op op_add (pe_op op_add (pv 8) (pe_callTy call_int1 (by rfl) T.m_int (by decide +kernel) (pa_cons (pe_cmpR op_gt (pv 8) (pv 7) (nomark _)) pa_nil))) (pe_call (ok_l_take T) (hr.mono (by first | decide | omega)) (by rfl) T.g_l_take T.F_l_take.kp T.b_l_take .nil pass0 (pa_cons (pv 0) (pa_cons pe_int pa_nil)))) (pg_sub (pe_ix ix_list (pe_ix ix_list (pv 1) pe_int (fun _ _=>rfl)) (pv 6) (fun _ _=>rfl)) pe_int set_list))
    (pss_one (ps_ret (pe_ix ix_list (pe_ix ix_list (pe_ix ix_list (pv 1) pe_int (fun _ _=>rfl)) (pv 6) (fun _ _=>rfl)) pe_int (fun _ _=>rfl))))))))))),?_⟩
   have hlr : (rs.map V.ref).length = js.length:=by rw [List.length_map]; exact W.cj.1
   refine ⟨_,rfl,w,_,0,_,rfl,rfl,SqL.of W.w,rfl,lj,_,rfl,.inl (SqL.of W.j),?_⟩
   rw [hlr]
   refine ⟨_,rfl,_,rfl,p,c,3,rfl,hP,by decide,by decide,fun r1 H1 r10 r11 s1=>⟨_,_,rfl,rfl,?_⟩⟩
   have W1:=W.stp hP s1 ap
   refine ⟨_,rfl,_,rfl,?_⟩
   refine ⟨_,rfl,w,_,0,_,rfl,rfl,SqL.of W1.w,rfl,.inl ⟨rfl,_,SqL.of W1.j⟩,_,rfl,_,rfl,_,rfl,(by show 3≤sizeLine; decide),fun r nr=>⟨lj,_,_,rfl,rfl,same_upd nr _ _ W1.j,small1000 (by omega),?_⟩⟩
   have W2:=W1.addJ (j:=⟨house,start + r1,start + r1⟩) ap.jl nr
   have hP2 : Pen (upd (upd H1 r (.lst (WJ.v ⟨house,start + r1,start + r1⟩))) lj (.lst (rs.map V.ref ++ [.ref r]))) p c:=((s1.1).put (s1.1.neP nr) (s1.1.neC nr)).put ap.pj ap.cj
   have fr2 : Fr p lj la H (upd (upd H1 r (.lst (WJ.v ⟨house,start + r1,start + r1⟩))) lj (.lst (rs.map V.ref ++ [.ref r]))):=fun b o hbp hbj hba e=>by
    rw [upd_ne hbj]
    exact same_upd nr _ _ (s1.2 b o hbp e)
   have ap2 : Apart p c lj la (rs ++ [r]) qs:=⟨ap.jl,ap.cj,ap.ca,ap.pj,ap.pa,nodup_snoc ap.rn (W1.cj.nin nr),ap.qn⟩
   show tSeq _ _ _ _ (upd (upd H1 r (.lst (WJ.v ⟨house,start + r1,start + r1⟩))) lj (.lst (rs.map V.ref ++ [.ref r])))
   generalize upd (upd H1 r (.lst (WJ.v ⟨house,start + r1,start + r1⟩))) lj (.lst (rs.map V.ref ++ [.ref r])) = H2 at W2 hP2 fr2 ⊢
   refine ⟨_,rfl,p,c,4,rfl,hP2,by decide,by decide,fun m H3 m0 m1 s3=>?_⟩
   refine ⟨_,rfl,_,_,rfl,rfl,.inr ⟨_,rfl,_,_,rfl,rfl,.inl ⟨by omega,by omega⟩,?_⟩⟩
   have ht3 : TownAt H3 t hs gs:=by
    obtain ⟨ta,tb,t1,t2,t3⟩:=s1.town hP ht
    have key : ∀ (b : Addr) (xs : List V),H b = some (.tup xs)→H3 b = some (.tup xs):=fun b xs e=>s3.tup hP2 (fr2 b _ (hP.tup e) (ne_of e W.j fun z=>nomatch z) (ne_of e W.a fun z=>nomatch z) e)
    obtain ⟨ta,tb,t1,t2,t3⟩:=ht
    exact ⟨ta,tb,key _ _ t1,key _ _ t2,key _ _ t3⟩
   have W3:=W2.stp hP2 s3 ap2
   have cnt0 : Cnt (js ++ [⟨house,start + r1,start + r1⟩]) as:=fun h=>⟨by
    rw [nJ_snoc]
    by_cases e : house = h
    ·subst e
     rw [if_pos rfl]
     omega
    ·rw [if_neg e]
     exact (hC h).1,by
    rw [nA_more _ _ _ _ W.pl]
    exact (hC h).2⟩
   have nar : ∀ deep' : Nat,(Dn deep' : Int) ≥ 4:=fun d=>by
    induction d with
    | zero=>exact (by decide : (5 : Int) ≥ 4)
    | succ d ihd=>show 3 * Dn d + 17 ≥ 4; omega
   refine ⟨_,rfl,?_,?_,for_range (lo:=0) (n:=(m * (if decide ((0 : Int) < (deep : Nat)) = true then 1 else 0)).toNat) (fun i σ H'=>∃ (last now : Int),(∃ v10 v11 v12 v13 : Option V,σ = [some (.ref p),some (.ref w),some (.ref t),some (.str house),some (.int start),some (.int (deep : Nat)),some (.int (js.length : Nat)),some (.int (start + r1)),some (.int last),some (.int now),v10,v11,v12,v13]) ∧
     ∃ nr nq nj na,Fr p lj la H H'∧Fresh H (nr ++ nq)∧Pen H' p c∧WorldAt H' w lj la (rs ++ nr) (qs ++ nq) (js ++ nj) (as ++ na) most∧Apart p c lj la (rs ++ nr) (qs ++ nq)∧Half hs js.length (start + r1) last now (start + r1 + (i : Nat) * (Dn (deep - 1) + 4)) house nj na∧Cnt (js ++ nj) (as ++ na)∧((js ++ nj).length : Int)≤most)
    ⟨start + r1,start + r1,⟨none,none,none,none,rfl⟩,[r],[],[_],[],fr2.trans (Fr.stp s3),(fun z mz=>by rw [List.append_nil] at mz; rw [List.mem_singleton.mp mz]; exact s1.back hP nr),s3.1,by rw [List.append_nil,List.append_nil]; exact W3,by rw [List.append_nil]; exact ap2,?_,by rw [List.append_nil]; exact cnt0,?_⟩ ?_ ?_⟩
   ·split <;> omega
   ·split <;> omega
   ·have h:=half_new (hs:=hs) (n0:=js.length) (begin:=start + r1) (house:=house)
    rw [show start + r1 + ((0 : Nat) : Int) * (Dn (deep - 1) + 4) = start + r1 by omega]
    exact h
   ·rw [List.length_append]
    show ((js.length + 1 : Nat) : Int)≤most
    omega
   ·rintro i σ G hi ⟨last,now,⟨v10,v11,v12,v13,rfl⟩,nr',nq,nj,na,fr,frs,hPG,WG,apG,hH,cG,lG⟩
    have hdp : 0 < deep:=by
     rcases Nat.eq_zero_or_pos deep with e | e
     ·subst e
      simp at hi
     ·exact e
    have D4:=nar (deep - 1)
    have estep : start + r1 + ((i + 1 : Nat) : Int) * (Dn (deep - 1) + 4) = start + r1 + (i : Nat) * (Dn (deep - 1) + 4) + Dn (deep - 1) + 4:=by
     rw [Int.natCast_add,Int.add_mul]
     show start + r1 + (_ + 1 * (Dn (deep - 1) + 4)) = _
     omega
    obtain ⟨ta,tb,t1,t2,t3⟩:=fr.town hP W.j W.a ht
    have lb : 0 < ((hs.map V.str).length : Int):=by rw [List.length_map]; omega
    have lc : ((hs.map V.str).length : Int).natAbs < 2 ^ 100:=by
     rw [List.length_map]
     exact Nat.lt_of_le_of_lt (show _≤6 by omega) (by decide)
    have hcnt:=hH.cnt
    have lJ : (js ++ nj).length = js.length + nj.length:=List.length_append
    have lA : (as ++ na).length = as.length + na.length:=List.length_append
    refine ⟨_,rfl,t,_,0,_,rfl,rfl,SqT.of t1,rfl,_,rfl,_,rfl,t,_,0,_,rfl,rfl,SqT.of t1,rfl,ta,_,rfl,.inr (SqT.of t2),p,c,_,rfl,hPG,lb,lc,fun z G1 z0 z1 s5=>?_⟩
    obtain ⟨g,mg2,eg⟩:=pick_house z0 z1
    refine ⟨ta,_,z,_,rfl,rfl,SqT.of (s5.tup hPG t2),eg,?_⟩
    have W5:=WG.stp hPG s5 apG
    refine ⟨_,rfl,_,rfl,_,rfl,w,lj,la,_,_,_,_,most,house,g,rfl,W5,by omega,by omega,fun b G2 g2 hb=>⟨b,rfl,?_⟩⟩
    have W6:=W5.same g2
    have hP6:=s5.1.sm g2
    have fr6:=(fr.trans (Fr.stp s5)).trans (Fr.same g2)
    cases b with
    | false=>exact iteF ⟨last,now,⟨_,_,_,_,rfl⟩,nr',nq,nj,na,fr6,frs,hP6,W6,apG,hH.up (by omega),cG,lG⟩
    | true =>
     obtain ⟨ra,rj,rm⟩:=hb.mp rfl
     refine iteT ⟨_,rfl,_,_,rfl,rfl,_,rfl,p,c,2,rfl,hP6,by decide,by decide,fun o2 G3 o20 o21 s6=>⟨_,_,rfl,rfl,?_⟩⟩
     have W7:=W6.stp hP6 s6 apG
     have fr7:=fr6.trans (Fr.stp s6)
     refine ⟨_,rfl,_,rfl,_,rfl,_,rfl,_,rfl,w,_,0,_,rfl,rfl,SqL.of W7.w,rfl,lj,_,rfl,.inl (SqL.of W7.j),(by show 5≤sizeLine; decide),fun qa nqa=>?_⟩
     have eln : ((rs ++ nr').map V.ref).length = (js ++ nj).length:=by rw [List.length_map]; exact WG.cj.1
     rw [eln]
     obtain ⟨x,ex⟩ : ∃ x : WA,x = ⟨js.length,g,now + 1 + o2,now + 1 + o2,(js ++ nj).length⟩:=⟨_,rfl⟩
     obtain ⟨G4,eG4,g4,hqa⟩ : ∃ G4,upd G3 qa (.lst x.v) = G4∧Same G3 G4∧G4 qa = some (.lst x.v):=⟨_,rfl,same_upd nqa,upd_same⟩
     have eG4' : upd G3 qa (.lst [.int (js.length : Nat),.str g,.int (now + 1 + o2),.int (now + 1 + o2),.int ((js ++ nj).length : Nat)]) = G4:=by rw [← eG4,ex]; rfl
     dsimp only
     rw [eG4']
     have W8:=W7.same g4
     refine ⟨_,rfl,w,_,1,_,rfl,rfl,SqL.of W8.w,rfl,.inl ⟨rfl,_,SqL.of W8.a⟩,_,rfl,la,_,_,rfl,rfl,W8.a,small1000 (by rw [List.length_map,WG.ca.1]; omega),?_⟩
     have W9:=W8.addA apG.jl hqa (by rw [ex]; show js.length < (js ++ nj).length; omega)
     have hqn : qa ∉ qs ++ nq:=W7.ca.nin nqa
     have ap9 : Apart p c lj la (rs ++ nr') (qs ++ nq ++ [qa]):=⟨apG.jl,apG.cj,apG.ca,apG.pj,apG.pa,apG.rn,nodup_snoc apG.qn hqn⟩
     have hP9 : Pen (upd G4 la (.lst ((qs ++ nq).map V.ref ++ [.ref qa]))) p c:=(s6.1.sm g4).put apG.pa apG.ca
     have fr9 : Fr p lj la H (upd G4 la (.lst ((qs ++ nq).map V.ref ++ [.ref qa]))):=fun b o h1 h2 h3 e=>by
      rw [upd_ne h3]
      exact g4 _ _ (fr7 b o h1 h2 h3 e)
     have qaH : H qa = none:=by
      have:=Fresh.back (l:=[qa]) (fun r m=>by rw [List.mem_singleton.mp m]; exact nqa) fr7 s6.1 W7.j W7.a
      exact this qa List.mem_cons_self
     have hq9 : (upd G4 la (.lst ((qs ++ nq).map V.ref ++ [.ref qa]))) qa = some (.lst x.v):=by
      rw [upd_ne (cell_ne hqa W8.a fun z=>refs_av z.symm)]
      exact hqa
     generalize upd G4 la (.lst ((qs ++ nq).map V.ref ++ [.ref qa])) = G5 at W9 hP9 fr9 hq9 ⊢
     have cnt9 : Cnt (js ++ nj) (as ++ na ++ [x]):=fun h=>⟨(cG h).1,by
      rw [nA_snoc]
      by_cases e : x.of (js ++ nj) h = true
      ·rw [if_pos e]
       have eh : h = house:=by
        rw [of_eq,decide_eq_true_eq,ex] at e
        obtain ⟨rest,rfl,_⟩:=hH.hd
        rw [List.getElem?_map,get_at] at e
        exact (Option.some.inj e).symm
       rw [eh]
       exact ra
      ·rw [if_neg e]
       exact (cG h).2⟩
     refine ⟨_,rfl,_,rfl,_,rfl,_,rfl,_,rfl,_,rfl,_,_,rfl,rfl,p,c,w,lj,la,t,hs,gs,rs ++ nr',qs ++ nq ++ [qa],js ++ nj,as ++ na ++ [x],most,g,now + 1 + o2,deep - 1,?_,by omega,hP9,fr9.town hP W.j W.a ht,l1,l6,W9,ap9,mg2,rm,hm100,?_,cnt9,rj,fun nr2 nq2 nj2 na2 res G6 fr10 frs10 hP10 W10 ap10 JP c10 l10=>?_⟩
     ·show [V.ref p,.ref w,.ref t,.str g,.int (now + 1 + o2),.int ((deep : Nat) - 1)] = _
      rw [show ((deep : Nat) : Int) - 1 = ((deep - 1 : Nat) : Int) by omega]
     ·rw [List.length_append,List.length_singleton]
      omega
     refine ⟨_,rfl,p,c,3,rfl,hP10,by decide,by decide,fun t4 G7 t40 t41 s7=>⟨_,_,rfl,rfl,?_⟩⟩
     have W11:=W10.stp hP10 s7 ap10
     have eq1 : qs ++ nq ++ [qa] ++ nq2 = (qs ++ nq) ++ qa :: nq2:=by rw [List.append_assoc (qs ++ nq)]; rfl
     have eq2 : as ++ na ++ [x] ++ na2 = (as ++ na) ++ x :: na2:=by rw [List.append_assoc (as ++ na)]; rfl
     rw [eq1,eq2] at W11
     rw [eq1] at ap10
     rw [eq2] at c10
     subst ex
     have eqa : ((qs ++ nq) ++ qa :: nq2)[(as ++ na).length]? = some qa:=by rw [← WG.ca.1]; exact get_at _ _ _
     have eax:=get_at (as ++ na) na2 ⟨js.length,g,now + 1 + o2,now + 1 + o2,(js ++ nj).length⟩
     have hq11:=W11.ca.2 _ _ _ eqa eax
     refine ⟨_,rfl,qa,_,3,3,rfl,rfl,hq11,rfl,?_⟩
     have W12:=W11.setA (x:=⟨js.length,g,now + 1 + o2,res + t4,(js ++ nj).length⟩) ap10.qn eqa eax rfl
     rw [set_at] at W12
     have hP12:=s7.1.cellA (o:=.lst (WA.v ⟨js.length,g,now + 1 + o2,res + t4,(js ++ nj).length⟩)) hq11
     have fr12 : Fr p lj la H (upd G7 qa (.lst (WA.v ⟨js.length,g,now + 1 + o2,res + t4,(js ++ nj).length⟩))):=fun b o h1 h2 h3 e=>by
      rw [upd_ne (ne_of_none e qaH)]
      exact s7.2 b o h1 ((fr9.trans fr10) b o h1 h2 h3 e)
     have hq12 : (upd G7 qa (.lst (WA.v ⟨js.length,g,now + 1 + o2,res + t4,(js ++ nj).length⟩))) qa = some (.lst (WA.v ⟨js.length,g,now + 1 + o2,res + t4,(js ++ nj).length⟩)):=upd_same
     show tSeq _ _ _ _ (upd G7 qa (.lst (WA.v ⟨js.length,g,now + 1 + o2,res + t4,(js ++ nj).length⟩)))
     generalize upd G7 qa (.lst (WA.v ⟨js.length,g,now + 1 + o2,res + t4,(js ++ nj).length⟩)) = G8 at W12 hP12 fr12 hq12 ⊢
     refine ⟨_,rfl,_,rfl,qa,_,3,_,rfl,rfl,SqL.of hq12,rfl,_,_,rfl,?_⟩
     refine ⟨_,rfl,_,rfl,qa,_,3,_,rfl,rfl,SqL.of hq12,rfl,(by show 2≤sizeLine; decide),fun ln nln=>?_⟩
     obtain ⟨G9,eG9,g9,hln⟩ : ∃ G9,upd G8 ln (.lst [.int (now + 1 + o2),.int (res + t4)]) = G9∧Same G8 G9∧G9 ln = some (.lst [.int (now + 1 + o2),.int (res + t4)]):=⟨_,rfl,same_upd nln,upd_same⟩
     rw [eG9]
     have hP13:=hP12.sm g9
     have W13:=W12.same g9
     have lnp : ln≠p:=fun e=>hP12.neP nln e.symm
     refine ⟨_,rfl,p,c,2,rfl,hP13,by decide,by decide,fun z2 Ga z20 z21 s8=>?_⟩
     obtain ⟨nw,enw,hnw⟩ : ∃ nw : Int,atI [V.int (now + 1 + o2),.int (res + t4)] z2 = some (.int nw)∧(nw = now + 1 + o2∨nw = res + t4):=by
      have hz : z2 = 0∨z2 = 1:=by omega
      rcases hz with rfl | rfl
      ·exact ⟨_,rfl,.inl rfl⟩
      ·exact ⟨_,rfl,.inr rfl⟩
     have W14:=W13.stp hP13 s8 ap10
     rw [lJ] at JP
     have hH2:=hH.more mg2 (by omega) (by omega) JP t40 (by omega) (by omega) hnw
     rw [← lJ,show max last (res + t4) = if res + t4 > last then res + t4 else last by split <;> omega] at hH2
     rw [List.append_assoc rs,List.append_assoc qs,List.append_assoc js,List.append_assoc as] at W14
     rw [List.append_assoc rs,List.append_assoc qs] at ap10
     have fb:=Fresh.back frs10 fr9 hP9 W9.j W9.a
     refine ⟨ln,_,z2,_,rfl,rfl,SqL.of (s8.2 ln _ lnp hln),enw,_,nw,⟨_,_,_,_,rfl⟩,nr' ++ nr2,nq ++ qa :: nq2,nj ++ nj2,na ++ ⟨js.length,g,now + 1 + o2,res + t4,(js ++ nj).length⟩ :: na2,(fr12.trans (Fr.same g9)).trans (Fr.stp s8),fun r' m'=>?_,s8.1,W14,ap10,?_,fun h=>⟨?_,?_⟩,?_⟩
     ·rcases List.mem_append.mp m' with m' | m'
      ·rcases List.mem_append.mp m' with m' | m'
       ·exact frs _ (List.mem_append_left _ m')
       ·exact fb _ (List.mem_append_left _ m')
      ·rcases List.mem_append.mp m' with m' | m'
       ·exact frs _ (List.mem_append_right _ m')
       ·rcases List.mem_cons.mp m' with e | m'
        ·rw [e]
         exact qaH
        ·exact fb _ (List.mem_append_right _ m')
     ·rw [estep]
      exact hH2
     ·rw [← List.append_assoc]
      exact (c10 h).1
     ·rw [← List.append_assoc,← List.append_assoc,nA_swap (x:=⟨js.length,g,now + 1 + o2,res + t4,(js ++ nj).length⟩) (x':=⟨js.length,g,now + 1 + o2,now + 1 + o2,(js ++ nj).length⟩) _ _ _ _ rfl]
      exact (c10 h).2
     ·rw [← List.append_assoc]
      exact l10
   ·rintro σ G ⟨last,now,⟨v10,v11,v12,v13,rfl⟩,nr',nq,nj,na,fr,frs,hPG,WG,apG,hH,cG,lG⟩
    obtain ⟨rest,rfl,_⟩:=hH.hd
    have ej:=get_at js rest ⟨house,start + r1,start + r1⟩
    obtain ⟨r0,er0,hr0⟩:=WG.cj.at ej
    refine ⟨_,rfl,_,rfl,_,rfl,_,_,rfl,rfl,.inr ⟨_,rfl,_,_,rfl,rfl,_,rfl,p,c,3,rfl,hPG,by decide,by decide,fun t3 G1 t30 t31 s4=>⟨_,_,rfl,rfl,?_⟩⟩⟩
    have W4:=WG.stp hPG s4 apG
    have hr4:=W4.cj.2 _ _ _ er0 ej
    refine ⟨_,rfl,w,_,0,_,rfl,rfl,SqL.of W4.w,rfl,_,rfl,lj,_,_,.ref r0,rfl,rfl,SqL.of W4.j,atI_nat (map_ref er0),r0,_,2,2,rfl,rfl,hr4,rfl,?_⟩
    have W5:=W4.setJ (j:=⟨house,start + r1,last + (if decide (start + r1 < last) = true then 1 else 0) + t3⟩) apG.rn er0 ej
    rw [set_at] at W5
    have r0n : H r0 = none:=by
     refine frs r0 (List.mem_append_left _ ?_)
     rw [List.getElem?_append_right (by rw [W.cj.1]; exact Nat.le_refl _)] at er0
     exact List.mem_of_getElem? er0
    have ev : last + (if decide (start + r1 < last) = true then 1 else 0) + t3 = last + (if last > start + r1 then 1 else 0) + t3:=by simp only [decide_eq_true_eq,gt_iff_lt]
    obtain ⟨rest',er,JP⟩:=hH.done (start:=start) (t:=t3) (D:=Dn deep) hh (by omega) t30 (by
     cases deep with
     | zero =>
      have : (m * (if decide ((0 : Int) < ((0 : Nat) : Int)) = true then 1 else 0)).toNat = 0:=by simp
      rw [this]
      show start + r1 + ((0 : Nat) : Int) * _ + 1 + t3≤start + 5
      omega
     | succ d =>
      have hm3 : (m * (if decide ((0 : Int) < ((d + 1 : Nat) : Int)) = true then 1 else 0)).toNat≤3:=by
       split <;> omega
      show start + r1 + _ * (Dn d + 4) + 1 + t3≤start + (3 * Dn d + 17)
      have h4:=nar d
      have : (((m * (if decide ((0 : Int) < ((d + 1 : Nat) : Int)) = true then 1 else 0)).toNat : Nat) : Int) * (Dn d + 4)≤3 * (Dn d + 4):=Int.mul_le_mul_of_nonneg_right (by omega) (by omega)
      omega)
    obtain rfl:=(List.cons.inj er).2
    rw [← ev] at JP
    refine ⟨_,rfl,w,_,0,_,rfl,rfl,SqL.of W5.w,rfl,_,rfl,lj,_,_,.ref r0,rfl,rfl,SqL.of W5.j,atI_nat (map_ref er0),r0,_,2,_,rfl,rfl,SqL.of upd_same,rfl,?_⟩
    have emap : (js ++ ⟨house,start + r1,start + r1⟩ :: rest).map WJ.h = (js ++ ⟨house,start + r1,last + (if decide (start + r1 < last) = true then 1 else 0) + t3⟩ :: rest).map WJ.h:=by
     rw [List.map_append,List.map_append]
     rfl
    refine q nr' nq _ na _ _ (fun b o h1 h2 h3 e=>?_) frs (s4.1.cellJ hr4) W5 apG JP (fun h=>⟨?_,?_⟩) ?_
    ·rw [upd_ne (ne_of_none e r0n)]
     exact s4.2 b o h1 (fr b o h1 h2 h3 e)
    ·rw [nJ_eq,← emap,← nJ_eq]
     exact (cG h).1
    ·rw [← nA_congr (as ++ na) h fun x _=>by rw [emap]]
     exact (cG h).2
    ·rw [List.length_append] at lG ⊢
     exact lG
theorem ok_l_job (T : Txt K mg af fd) : FnOk P w K mg base CX0 7 (af 42) (fd 42) ["pen", "world", "town", "house", "start", "deep"] (sp_job 4):=ok_job_n T 4
structure WOk (hs : List Str) (js : List WJ) (as : List WA) : Prop where
 jb : ∀ j∈js,j.h∈hs∧0≤j.b∧j.b≤j.e∧j.e≤400
 ab : ∀ x∈as,AskOk hs 0 js x
 inc : (as.map WA.ch).Pairwise (· < ·)
 cnt : Cnt js as
 len : as.length≤js.length
theorem WOk.more {hs : List Str} {js nj : List WJ} {as na : List WA} {start res : Int} {house : Str} (h : WOk hs js as) (J : JobPost hs js.length start (Dn 3) house nj na res) (s0 : 0≤start) (s1 : start≤11) (c : Cnt (js ++ nj) (as ++ na)) : WOk hs (js ++ nj) (as ++ na):=by
 have d3 : Dn 3 = 356:=by decide
 have rb:=J.rb
 have c2:=J.cnt
 refine ⟨fun j m=>?_,fun x m=>?_,?_,c,?_⟩
 ·rcases List.mem_append.mp m with m | m
  ·exact h.jb j m
  ·have:=J.jb j m
   exact ⟨this.1,by omega,this.2.2.1,by omega⟩
 ·rcases List.mem_append.mp m with m | m
  ·exact (h.ab x m).app nj
  ·have a:=J.ab x m
   exact AskOk.shift (n0:=0) (by rw [Nat.zero_add]; exact a)
 ·rw [List.map_append]
  refine List.pairwise_append.mpr ⟨h.inc,J.inc,fun z m y m2=>?_⟩
  obtain ⟨x,mx,rfl⟩:=List.mem_map.mp m
  obtain ⟨x2,mx2,rfl⟩:=List.mem_map.mp m2
  obtain ⟨_,_,j,e,_⟩:=(h.ab x mx).ch
  have h1:=(List.getElem?_eq_some_iff.mp e).1
  have h2:=(J.ab x2 mx2).ch.1
  omega
 ·rw [List.length_append,List.length_append]
  have:=h.len
  omega
def sp_world : Sp:=fun vs H Q _=>∃ (p c t : Addr) (hs gs : List Str) (tops most stray : Int),vs = [.ref p,.ref t,.int tops,.int 3,.int most,.int stray]∧Pen H p c∧TownAt H t hs gs∧1≤hs.length∧hs.length≤6∧gs.Sublist hs∧(∀ h∈hs,HouseS h)∧0 < tops∧tops≤10∧0≤most∧most≤100 ∧
 ∀ (w lj la : Addr) (rs qs : List Addr) (js : List WJ) (as : List WA) (H' : Hp),Stp p c H H'→H w = none→WorldAt H' w lj la rs qs js as most→Apart p c lj la rs qs→WOk hs js as→(js.length : Int)≤most→Q (.ref w) H'
theorem ok_l_world (T : Txt K mg af fd) : FnOk P w K mg base CX0 8 (af 43) (fd 43) ["pen", "town", "tops", "deep", "most", "stray"] sp_world:=by
 refine T.F_l_world.ok sc_l_world (fun vs H Q E h=>?_) (fun cdv A outer s H vs Q E hr h=>?_)
 ·obtain ⟨p,c,t,hs,gs,tops,most,stray,rfl,_⟩:=h
  rfl
 ·obtain ⟨p,c,t,hs,gs,tops,most,stray,rfl,hP,ht,l1,l6,hsub,hou,to0,to1,mo0,mo1,q⟩:=h
  refine ⟨_,(pss_cons (ps_set (i:=6) sc_l_world.nd rfl (by first | exact Or.inl rfl | exact Or.inr rfl) (pe_lst (pa_cons (pe_lst pa_nil) (pa_cons (pe_lst pa_nil) (pa_cons (pv 4) pa_nil)))))
    (pss_cons (ps_for PassesOwn.never rfl (pi_range1 (by rfl) T.m_range (pa_cons (pe_op op_add pe_int (pe_call (ok_l_take T) (hr.mono (by first | decide | omega)) (by rfl) T.g_l_take T.F_l_take.kp T.b_l_take .nil pass0 (pa_cons (pv 0) (pa_cons (pv 2) pa_nil)))) pa_nil)) (pg_name (i:=7) sc_l_world.nd rfl (by first | exact Or.inl rfl | exact Or.inr rfl)) (pss_cons (ps_set (i:=8) sc_l_world.nd rfl (by first | exact Or.inl rfl | exact Or.inr rfl) (pe_ix ix_tup (pv 1) pe_int (fun _ _=>rfl)))
    (C8.pss_cut (ps_if (PW.pt (pw_or (pt_cmpR (op_eqD hr.units) (pv 8) (pe_tup pa_nil) (nomark _)) (pw_or1 (pt_cmpR op_lt (pe_call (ok_l_take T) (hr.mono (by first | decide | omega)) (by rfl) T.g_l_take T.F_l_take.kp T.b_l_take .nil pass0 (pa_cons (pv 0) (pa_cons pe_int pa_nil))) (pv 5) (nomark _))))) (pss_one (ps_set (i:=8) sc_l_world.nd rfl (by first | exact Or.inl rfl | exact Or.inr rfl) (pe_ix ix_tup (pv 1) pe_int (fun _ _=>rfl)))) pss_nil)
    (pss_cons (ps_set (i:=9) sc_l_world.nd rfl (by first | exact Or.inl rfl | exact Or.inr rfl) (pe_ix ix_tup (pv 8) (pe_call (ok_l_take T) (hr.mono (by first | decide | omega)) (by rfl) T.g_l_take T.F_l_take.kp T.b_l_take .nil pass0 (pa_cons (pv 0) (pa_cons (pe_callB call_len_seq (by rfl) T.m_len (by decide +kernel) (pa_cons (pv 8) pa_nil)) pa_nil))) (fun _ _=>rfl)))
    (pss_one (ps_if (pt_val (pe_call (ok_l_room T) (hr.mono (by first | decide | omega)) (by rfl) T.g_l_room T.F_l_room.kp T.b_l_room .nil pass0 (pa_cons (pv 6) (pa_cons pe_str (pa_cons (pv 9) pa_nil))))) (pss_one (ps_expr (pe_call (ok_l_job T) (hr.mono (by first | decide | omega)) (by rfl) T.g_l_job T.F_l_job.kp T.b_l_job .nil pass0 (pa_cons (pv 0) (pa_cons (pv 6) (pa_cons (pv 1) (pa_cons (pv 9) (pa_cons (pe_call (ok_l_take T) (hr.mono (by first | decide | omega)) (by rfl) T.g_l_take T.F_l_take.kp T.b_l_take .nil pass0 (pa_cons (pv 0) (pa_cons pe_int pa_nil))) (pa_cons (pv 3) pa_nil))))))))) pss_nil))))))
    (pss_one (ps_ret (pv 6))))),?_⟩
  refine ⟨Nat.zero_le _,fun lj nlj=>⟨Nat.zero_le _,fun la nla=>⟨_,rfl,(by show 3≤sizeLine; decide),fun w nw=>?_⟩⟩⟩
  obtain ⟨H0,e0,s0,w0,j0,a0⟩ : ∃ H0,upd (upd (upd H lj (.lst [])) la (.lst [])) w (.lst [.ref lj,.ref la,.int most]) = H0∧Same H H0∧H0 w = some (.lst [.ref lj,.ref la,.int most])∧H0 lj = some (.lst [])∧H0 la = some (.lst []) :=
   ⟨_,rfl,((same_upd nlj).trans (same_upd nla)).trans (same_upd nw),upd_same,same_upd nw _ _ (same_upd nla _ _ upd_same),same_upd nw _ _ upd_same⟩
  rw [e0]
  have hjl : lj≠la:=ne_of_none upd_same nla
  have nlaH : H la = none:=(same_upd nlj).free nla
  have nwH : H w = none:=((same_upd nlj).trans (same_upd nla)).free nw
  have hP0:=hP.sm s0
  have W0 : WorldAt H0 w lj la [] [] [] [] most:=⟨w0,j0,a0,⟨rfl,fun i r x e=>by cases e⟩,⟨rfl,fun i r x e=>by cases e⟩,fun x m=>nomatch m⟩
  have ap0 : Apart p c lj la [] []:=⟨hjl,hP.neC nlj,hP.neC nlaH,hP.neP nlj,hP.neP nlaH,List.Pairwise.nil,List.Pairwise.nil⟩
  have wok0 : WOk hs [] []:=⟨fun j m=>(nomatch m),fun x m=>(nomatch m),List.Pairwise.nil,fun h=>⟨Nat.zero_le _,Nat.zero_le _⟩,Nat.le_refl _⟩
  refine ⟨_,rfl,_,rfl,p,c,tops,rfl,hP0,to0,Nat.lt_of_le_of_lt (show tops.natAbs≤10 by omega) (by decide),fun k H1 k0 k1 s1=>⟨_,_,rfl,rfl,?_⟩⟩
  refine ⟨_,rfl,by omega,by omega,for_range (lo:=0) (n:=(1 + k).toNat) (fun i σ H'=>(∃ v7 v8 v9 : Option V,σ = [some (.ref p),some (.ref t),some (.int tops),some (.int 3),some (.int most),some (.int stray),some (.ref w),v7,v8,v9]) ∧
   ∃ rs qs js as,Fr p lj la H0 H'∧Pen H' p c∧WorldAt H' w lj la rs qs js as most∧Apart p c lj la rs qs∧WOk hs js as∧(js.length : Int)≤most)
   ⟨⟨none,none,none,rfl⟩,[],[],[],[],Fr.stp s1,s1.1,W0.stp hP0 s1 ap0,ap0,wok0,mo0⟩ ?_ ?_⟩
  ·rintro i σ G hi ⟨⟨v7,v8,v9,rfl⟩,rs,qs,js,as,fr,hPG,WG,apG,wok,lG⟩
   obtain ⟨ta,tb,t1,t2,t3⟩:=fr.town hP0 j0 a0 (show TownAt H0 t hs gs from let ⟨a,b,h1,h2,h3⟩:=ht; ⟨a,b,s0 _ _ h1,s0 _ _ h2,s0 _ _ h3⟩)
   have gok : ∀ h∈gs,PyData.strOk h = true:=fun h m=>(hou h (hsub.subset m)).ok
   refine ⟨_,rfl,t,_,1,_,rfl,rfl,SqT.of t1,rfl,?_⟩
   refine ⟨fun σ' H'=>∃ (dr : Addr) (ds : List Str),(∃ v7 v9 : Option V,σ' = [some (.ref p),some (.ref t),some (.int tops),some (.int 3),some (.int most),some (.int stray),some (.ref w),v7,some (.ref dr),v9])∧Stp p c G H'∧H' dr = some (.tup (ds.map V.str))∧1≤ds.length∧ds.length≤6∧∀ h∈ds,h∈hs,?_,?_⟩
   ·refine ⟨_,rfl,Nat.zero_le _,fun e ne=>?_⟩
    have s2:=(Stp.refl hPG).new (o:=.tup []) hPG ne
    have u2:=s2.tup hPG t2
    have u3:=s2.tup hPG t3
    have u1:=s2.tup hPG t1
    have ue : (upd G e (.tup [])) e = some (.tup []):=upd_same
    generalize upd G e (.tup []) = G1 at s2 u1 u2 u3 ue ⊢
    refine ⟨.tuple (gs.map PyData.str),.tuple [],Dp.tup (SqT.of u3) (dp_strs gs),Dp.tup (SqT.of ue) .nil,?_,rfl,_,rfl,ite2 (fun e1=>iteT ?_) (fun e1=>?_)⟩
    ·unfold SeqAt.shaped
     rw [Bool.and_eq_true,decide_eq_true_eq]
     refine ⟨canLay_strs gok,?_⟩
     show PyData.depthAll (gs.map PyData.str) + 1≤64
     rw [depth_strs]
     decide
    ·exact ⟨_,rfl,t,_,0,_,rfl,rfl,SqT.of u1,rfl,ta,hs,⟨_,_,rfl⟩,s2,u2,l1,l6,fun h m=>m⟩
    ·have gne : gs≠[]:=fun z=>by
      subst z
      exact e1 rfl
     refine ⟨_,rfl,p,c,8,rfl,s2.1,by decide,by decide,fun r G2 r0 r1 s3=>?_⟩
     have s23:=s2.trans s3
     refine ⟨_,rfl,_,_,rfl,rfl,_,rfl,ite2 (fun e2=>?_) (fun e2=>?_)⟩
     ·exact ⟨_,rfl,t,_,0,_,rfl,rfl,SqT.of (s3.tup s2.1 u1),rfl,ta,hs,⟨_,_,rfl⟩,s23,s3.tup s2.1 u2,l1,l6,fun h m=>m⟩
     ·exact ⟨tb,gs,⟨_,_,rfl⟩,s23,s3.tup s2.1 u3,List.length_pos_iff.mpr gne,Nat.le_trans hsub.length_le l6,fun h m=>hsub.subset m⟩
   ·rintro σ' G1 ⟨dr,ds,⟨v7',v9',rfl⟩,s2,hdr,d1,d6,hds⟩
    have lb : 0 < ((ds.map V.str).length : Int):=by rw [List.length_map]; omega
    have lc : ((ds.map V.str).length : Int).natAbs < 2 ^ 100:=by
     rw [List.length_map]
     exact Nat.lt_of_le_of_lt (show _≤6 by omega) (by decide)
    refine ⟨_,rfl,_,rfl,_,rfl,dr,_,rfl,.inr (SqT.of hdr),p,c,_,rfl,s2.1,lb,lc,fun z G2 z0 z1 s3=>?_⟩
    obtain ⟨h,mh,eh⟩:=pick_house z0 z1
    have s23:=s2.trans s3
    refine ⟨dr,_,z,_,rfl,rfl,SqT.of (s3.tup s2.1 hdr),eh,?_⟩
    have W3:=WG.stp hPG s23 apG
    have fr3:=fr.trans (Fr.stp s23)
    refine ⟨_,rfl,_,rfl,w,lj,la,_,_,_,_,most, "", h,rfl,W3,by omega,by have:=wok.len; omega,fun b G3 g3 hb=>⟨b,rfl,?_⟩⟩
    have W4:=W3.same g3
    have hP4:=s3.1.sm g3
    have fr4:=fr3.trans (Fr.same g3)
    cases b with
    | false=>exact iteF ⟨⟨_,_,_,rfl⟩,rs,qs,js,as,fr4,hP4,W4,apG,wok,lG⟩
    | true =>
     obtain ⟨ra,rj,rm⟩:=hb.mp rfl
     refine iteT ⟨_,rfl,_,rfl,_,rfl,_,rfl,_,rfl,p,c,12,rfl,hP4,by decide,by decide,fun st G4 st0 st1 s5=>?_⟩
     have W5:=W4.stp hP4 s5 apG
     have fr5:=fr4.trans (Fr.stp s5)
     have ht5 : TownAt G4 t hs gs:=fr5.town hP0 j0 a0 (let ⟨a,b,h1,h2,h3⟩:=ht; ⟨a,b,s0 _ _ h1,s0 _ _ h2,s0 _ _ h3⟩)
     refine ⟨_,rfl,p,c,w,lj,la,t,hs,gs,rs,qs,js,as,most,h,st,3,rfl,by decide,s5.1,ht5,l1,l6,W5,apG,hds h mh,rm,mo1,wok.len,wok.cnt,rj,fun nr nq nj na res G5 fr6 frs6 hP6 W6 ap6 JP c6 l6'=>?_⟩
     exact ⟨⟨_,_,_,rfl⟩,rs ++ nr,qs ++ nq,js ++ nj,as ++ na,fr5.trans fr6,hP6,W6,ap6,wok.more JP st0 (by omega) c6,l6'⟩
  ·rintro σ G ⟨⟨v7,v8,v9,rfl⟩,rs,qs,js,as,fr,hPG,WG,apG,wok,lG⟩
   refine ⟨_,rfl,q w lj la rs qs js as G ⟨hPG,fun b o hb e=>?_⟩ nwH WG apG wok lG⟩
   exact fr b o hb (ne_of_none e nlj) (ne_of_none e nlaH) (s0 _ _ e)
def sp_left : Sp:=fun vs H Q _=>∃ (p c lr : Addr) (fewer : Int) (xs : List V) (ds : List PyData),vs = [.ref p,.ref lr,.int fewer]∧Pen H p c∧lr≠p∧H lr = some (.lst xs)∧Dqs (fun _=>True) H xs ds∧Ths ds∧(∀ d∈ds,RowW d)∧0≤fewer∧fewer≤100∧ds.length≤200 ∧
 ∀ (l : Addr) (ys : List V) (es : List PyData) (H' : Hp),Stp p c H H'→H l = none→H' l = some (.lst ys)→Dqs (AtL p l) H' ys es→(∀ d∈es,d∈ds)→es.length≤ds.length + 2→Q (.ref l) H'
theorem Dqs.any {Ex : Addr→Prop} {H : Hp} {vs : List V} {ds : List PyData} (h : Dqs (fun _=>True) H vs ds) : Dqs Ex H vs ds:=h.go (fun _ _ n=>absurd trivial n) (fun _ _ n _=>absurd trivial n) (fun _ _ e=>e)
theorem Dq.any {Ex : Addr→Prop} {H : Hp} {v : V} {d : PyData} (h : Dq (fun _=>True) H v d) : Dq Ex H v d:=h.go (fun _ _ n=>absurd trivial n) (fun _ _ n _=>absurd trivial n) (fun _ _ e=>e)
theorem ok_l_left (T : Txt K mg af fd) : FnOk P w K mg base CX0 3 (af 47) (fd 47) ["pen", "rows", "fewer"] sp_left:=by
 refine T.F_l_left.ok sc_l_left (fun vs H Q E h=>?_) (fun cdv A outer s H vs Q E hr h=>?_)
 ·obtain ⟨p,c,lr,fewer,xs,ds,rfl,_⟩:=h
  rfl
 ·obtain ⟨p,c,lr,fewer,xs,ds,rfl,hP,lrp,hlr,hds,hth,hrw,f0,f1,hlen,q⟩:=h
  refine ⟨_,(pss_cons (ps_set (i:=3) sc_l_left.nd rfl (by first | exact Or.inl rfl | exact Or.inr rfl) (pe_lst (pa_cons (pe_call (ok_l_take T) (hr.mono (by first | decide | omega)) (by rfl) T.g_l_take T.F_l_take.kp T.b_l_take .nil pass0 (pa_cons (pv 0) (pa_cons (pe_op op_add (pv 2) pe_int) pa_nil))) (pa_cons (pe_ix ix_list (pe_lst (pa_cons pe_int (pa_cons pe_int (pa_cons pe_int (pa_cons pe_int pa_nil))))) (pe_call (ok_l_take T) (hr.mono (by first | decide | omega)) (by rfl) T.g_l_take T.F_l_take.kp T.b_l_take .nil pass0 (pa_cons (pv 0) (pa_cons pe_int pa_nil))) (fun _ _=>rfl)) pa_nil))))
    (pss_cons (ps_set (i:=4) sc_l_left.nd rfl (by first | exact Or.inl rfl | exact Or.inr rfl) (pe_lst pa_nil))
    (pss_cons (ps_for PassesOwn.never rfl (pi_list (pv 1)) (pg_name (i:=5) sc_l_left.nd rfl (by first | exact Or.inl rfl | exact Or.inr rfl)) (pss_one (ps_if (pt_cmpR op_ge (pe_call (ok_l_take T) (hr.mono (by first | decide | omega)) (by rfl) T.g_l_take T.F_l_take.kp T.b_l_take .nil pass0 (pa_cons (pv 0) (pa_cons pe_int pa_nil))) (pe_ix ix_list (pv 3) (pe_callTy call_int1 (by rfl) T.m_int (by decide +kernel) (pa_cons (pe_cmpR op_eq (pe_ix ix_tup (pv 5) pe_int (fun _ _=>rfl)) pe_str (nomark _)) pa_nil)) (fun _ _=>rfl)) (nomark _)) (pss_one (ps_expr (pe_bm PySem.F.plainAttrs_list PySem.F.slot_list_insert PySem.F.type_list_insert mt_insert (pv 4) (pa_cons (pe_call (ok_l_take T) (hr.mono (by first | decide | omega)) (by rfl) T.g_l_take T.F_l_take.kp T.b_l_take .nil pass0 (pa_cons (pv 0) (pa_cons (pe_op op_add (pe_callB call_len_seq (by rfl) T.m_len (by decide +kernel) (pa_cons (pv 4) pa_nil)) pe_int) pa_nil))) (pa_cons (pv 5) pa_nil))))) pss_nil)))
    (pss_cons (ps_for PassesOwn.never rfl (pi_range1 (by rfl) T.m_range (pa_cons (pe_op op_mul (pe_call (ok_l_take T) (hr.mono (by first | decide | omega)) (by rfl) T.g_l_take T.F_l_take.kp T.b_l_take .nil pass0 (pa_cons (pv 0) (pa_cons pe_int pa_nil))) (pe_callTy call_int1 (by rfl) T.m_int (by decide +kernel) (pa_cons (pe_cmpR (op_neD hr.units) (pv 4) (pe_lst pa_nil) (nomark _)) pa_nil))) pa_nil)) (pg_name (i:=6) sc_l_left.nd rfl (by first | exact Or.inl rfl | exact Or.inr rfl)) (pss_one (ps_expr (pe_bm PySem.F.plainAttrs_list PySem.F.slot_list_insert PySem.F.type_list_insert mt_insert (pv 4) (pa_cons (pe_call (ok_l_take T) (hr.mono (by first | decide | omega)) (by rfl) T.g_l_take T.F_l_take.kp T.b_l_take .nil pass0 (pa_cons (pv 0) (pa_cons (pe_op op_add (pe_callB call_len_seq (by rfl) T.m_len (by decide +kernel) (pa_cons (pv 4) pa_nil)) pe_int) pa_nil))) (pa_cons (pe_ix ix_list (pv 4) (pe_call (ok_l_take T) (hr.mono (by first | decide | omega)) (by rfl) T.g_l_take T.F_l_take.kp T.b_l_take .nil pass0 (pa_cons (pv 0) (pa_cons (pe_callB call_len_seq (by rfl) T.m_len (by decide +kernel) (pa_cons (pv 4) pa_nil)) pa_nil))) (fun _ _=>rfl)) pa_nil))))))
    (pss_one (ps_ret (pv 4))))))),?_⟩
  refine ⟨_,rfl,_,rfl,_,_,rfl,rfl,p,c,_,rfl,hP,by omega,Nat.lt_of_le_of_lt (show _≤101 by omega) (by decide),fun r1 H1 r10 r11 s1=>?_⟩
  refine ⟨(by show 4≤sizeLine; decide),fun lb nlb=>?_⟩
  have s2:=s1.new (o:=.lst [.int 0,.int 2,.int 4,.int 6]) hP nlb
  refine ⟨_,rfl,p,c,4,rfl,s2.1,by decide,by decide,fun r2 H2 r20 r21 s3=>?_⟩
  have hlb : H2 lb = some (.lst [.int 0,.int 2,.int 4,.int 6]):=s3.2 lb _ (fun e=>s1.1.neP nlb e.symm) upd_same
  obtain ⟨v2,e2⟩ : ∃ v : Int,atI [V.int 0,.int 2,.int 4,.int 6] r2 = some (.int v):=by
   have hz : r2 = 0∨r2 = 1∨r2 = 2∨r2 = 3:=by omega
   rcases hz with rfl | rfl | rfl | rfl <;> exact ⟨_,rfl⟩
  refine ⟨lb,_,r2,_,rfl,rfl,SqL.of hlb,e2,(by show 2≤sizeLine; decide),fun ls nls=>?_⟩
  have s23:=s2.trans s3
  have s4:=s23.new (o:=.lst [.int r1,.int v2]) hP nls
  have nlsH:=s23.back hP nls
  have lsp : ls≠p:=fun e=>hP.neP nlsH e.symm
  have hls : (upd H2 ls (.lst [.int r1,.int v2])) ls = some (.lst [.int r1,.int v2]):=upd_same
  generalize upd H2 ls (.lst [.int r1,.int v2]) = H3 at s4 hls ⊢
  refine ⟨Nat.zero_le _,fun l nl=>?_⟩
  have nlH:=s4.back hP nl
  have lp : l≠p:=fun e=>hP.neP nlH e.symm
  have s5:=s4.new (o:=.lst []) hP nl
  have hls5 : (upd H3 l (.lst [])) ls = some (.lst [.int r1,.int v2]):=same_upd nl _ _ hls
  have hl5 : (upd H3 l (.lst [])) l = some (.lst []):=upd_same
  generalize upd H3 l (.lst []) = H4 at s5 hls5 hl5 ⊢
  have hlr4:=s5.2 lr _ lrp hlr
  have lsl : ls≠l:=cell_ne hls5 hl5 (fun z=>nomatch z)
  have lrl : lr≠l:=ne_of_none hlr nlH
  refine ⟨_,rfl,lr,rfl,⟨_,SqL.of hlr4⟩,for_list (K:=K) (a:=lr) (xs:=xs) (fun i σ H'=>(∃ v5 v6 : Option V,σ = [some (.ref p),some (.ref lr),some (.int fewer),some (.ref ls),some (.ref l),v5,v6])∧H' lr = some (.lst xs)∧H' ls = some (.lst [.int r1,.int v2])∧Lst p c l H (fun d=>d∈ds) i H')
   ⟨⟨none,none,rfl⟩,hlr4,hls5,s5,[],[],hl5,.nil,(fun _ m=>nomatch m),(fun _ m=>nomatch m),Nat.le_refl _⟩ (fun i σ H' _ h=>SqL.of h.2.1) ?_ ?_⟩
  ·rintro i v σ G hv ⟨⟨v5,v6,rfl⟩,hlrG,hlsG,sG,ys,es,hlG,hdG,thG,hRG,lenG⟩
   have hil : i < ds.length:=by rw [← hds.len]; exact (List.getElem?_eq_some_iff.mp hv).1
   have hdi : ds[i]? = some ds[i]:=List.getElem?_eq_getElem hil
   generalize ds[i] = d at hdi
   have md:=List.mem_of_getElem? hdi
   obtain ⟨v',hv',dv⟩:=hds.get hdi
   obtain rfl : v' = v:=Option.some.inj (hv'.symm.trans hv)
   obtain ⟨r,rfl,wr⟩:=hrw d md
   cases dv with
   | @tup a zs _ ha hzs =>
    have hw : r.data[0]? = some (.str r.word):=by cases r <;> rfl
    obtain ⟨z,hz,dz⟩:=hzs.get hw
    obtain rfl : z = .str r.word:=by cases dz; rfl
    refine ⟨_,rfl,p,c,6,rfl,sG.1,by decide,by decide,fun r6 G1 r60 r61 s6=>?_⟩
    have sG1:=sG.trans s6
    have haG:=sG1.tup hP ha
    obtain ⟨vv,evv⟩ : ∃ vv : Int,atI [V.int r1,.int v2] (if decide (V.str r.word = V.str "all") = true then 1 else 0) = some (.int vv):=by split <;> exact ⟨_,rfl⟩
    have hlG1:=s6.2 l _ lp hlG
    have hdG1:=hdG.stp (.inl rfl) sG.1 s6
    have hlr1:=s6.2 lr _ lrp hlrG
    have hls1:=s6.2 ls _ lsp hlsG
    refine ⟨_,rfl,_,rfl,a,_,0,_,rfl,rfl,SqT.of haG,atI_nat hz,rfl,.inr ⟨_,rfl,ls,_,_,_,rfl,rfl,SqL.of hls1,evv,_,_,rfl,rfl,_,rfl,ite2 (fun e=>?_) (fun e=>?_)⟩⟩
    ·have hyl:=hdG1.len
     refine ⟨_,rfl,.inl ⟨rfl,_,SqL.of hlG1⟩,_,rfl,_,rfl,l,_,rfl,.inl (SqL.of hlG1),_,_,rfl,rfl,p,c,_,rfl,s6.1,by omega,Nat.lt_of_le_of_lt (show _≤1000 by omega) (by decide),fun a1 G2 a10 a11 s7=>?_⟩
     have hlG2:=s7.2 l _ lp hlG1
     have hdG2:=hdG1.stp (.inl rfl) s6.1 s7
     have sG2:=sG1.trans s7
     refine ⟨_,rfl,l,_,a1,_,rfl,rfl,hlG2,Nat.lt_of_lt_of_le (show ys.length < 1000 by omega) (by decide),a10,by omega,⟨_,_,rfl⟩,?_,?_,?_⟩
     ·rw [upd_ne lrl]
      exact s7.2 lr _ lrp hlr1
     ·rw [upd_ne lsl]
      exact s7.2 ls _ lsp hls1
     ·exact lst_ins hP nlH sG2 hlG2 hdG2 thG hRG lenG (.tup (sG2.tup hP ha) (hzs.go (fun _ _ n=>absurd trivial n) (fun _ _ n _=>absurd trivial n) (fun _ _ e=>sG2.tup hP e))) (hth _ md) md _
    ·exact ⟨⟨_,_,rfl⟩,hlr1,hls1,sG1,ys,es,hlG1,hdG1,thG,hRG,Nat.le_succ_of_le lenG⟩
  ·rintro σ G ⟨⟨v5,v6,rfl⟩,hlrG,hlsG,sG,ys,es,hlG,hdG,thG,hRG,lenG⟩
   rw [hds.len] at lenG
   refine ⟨_,rfl,p,c,3,rfl,sG.1,by decide,by decide,fun m G1 m0 m1 s6=>?_⟩
   refine ⟨_,rfl,Nat.zero_le _,fun b nb=>?_⟩
   have sG1:=sG.trans s6
   have s7:=(Stp.refl s6.1).new (o:=.lst []) s6.1 nb
   have hb7 : (upd G1 b (.lst [])) b = some (.lst []):=upd_same
   generalize upd G1 b (.lst []) = G2 at s7 hb7 ⊢
   have s67:=s6.trans s7
   have hlG2:=s67.2 l _ lp hlG
   have hdG2:=hdG.stp (.inl rfl) sG.1 s67
   refine ⟨.list es,.list [],Dp.lst (SqL.of hlG2) hdG2.dp,Dp.lst (SqL.of hb7) .nil,ths_lst thG (by omega),rfl,.inr ⟨_,rfl,_,_,rfl,rfl,.inl ⟨by omega,by omega⟩,?_⟩⟩
   have sG2:=sG.trans s67
   refine ⟨_,rfl,?_,?_,for_range (lo:=0) (n:=(m * (if (!PyData.eqv (.list es) (.list [])) = true then 1 else 0)).toNat) (fun i σ H'=>(∃ v5 v6 : Option V,σ = [some (.ref p),some (.ref lr),some (.int fewer),some (.ref ls),some (.ref l),v5,v6])∧Lst p c l H (fun d=>d∈ds) (ds.length + i) H'∧∀ us,H' l = some (.lst us)→es.length≤us.length)
    ⟨⟨_,_,rfl⟩,⟨sG2,ys,es,hlG2,hdG2,thG,hRG,lenG⟩,fun us e=>by rw [hlG2] at e; rw [← HO.lst.inj (Option.some.inj e),hdG2.len]; exact Nat.le_refl _⟩ ?_ ?_⟩
   ·split <;> omega
   ·split <;> omega
   ·rintro i σ F hi ⟨⟨v5,v6,rfl⟩,⟨sF,us,fs,hlF,hdF,thF,hRF,lenF⟩,hlow⟩
    have hes : 0 < es.length:=by
     cases es with
     | nil=>exact absurd hi (by simp [PyData.eqv,PyData.eqvAll])
     | cons x y=>exact Nat.succ_pos _
    have hus:=hlow us hlF
    have hul:=hdF.len
    have him : i < 2:=by
     have : (m * (if (!PyData.eqv (.list es) (.list [])) = true then 1 else 0)).toNat≤2:=by split <;> omega
     omega
    refine ⟨_,rfl,.inl ⟨rfl,_,SqL.of hlF⟩,_,rfl,_,rfl,l,_,rfl,.inl (SqL.of hlF),_,_,rfl,rfl,p,c,_,rfl,sF.1,by omega,Nat.lt_of_le_of_lt (show _≤1000 by omega) (by decide),fun a1 F1 a10 a11 u1=>?_⟩
    have hlF1:=u1.2 l _ lp hlF
    have hdF1:=hdF.stp (.inl rfl) sF.1 u1
    refine ⟨_,rfl,_,rfl,_,rfl,l,_,rfl,.inl (SqL.of hlF1),p,c,_,rfl,u1.1,by omega,Nat.lt_of_le_of_lt (show _≤1000 by omega) (by decide),fun a2 F2 a20 a21 u2=>?_⟩
    have hlF2:=u2.2 l _ lp hlF1
    have hdF2:=hdF1.stp (.inl rfl) u1.1 u2
    have hlt : a2.toNat < fs.length:=by omega
    obtain ⟨v,hv,dv⟩:=hdF2.get (List.getElem?_eq_getElem hlt)
    refine ⟨l,_,a2,v,rfl,rfl,SqL.of hlF2,at_any (j:=a2.toNat) (by omega) hv,?_⟩
    refine ⟨l,_,a1,v,rfl,rfl,hlF2,Nat.lt_of_lt_of_le (show us.length < 1000 by omega) (by decide),a10,by omega,⟨_,_,rfl⟩,?_,fun ws e=>?_⟩
    ·exact lst_ins hP nlH ((sF.trans u1).trans u2) hlF2 hdF2 thF hRF lenF dv (thF _ (List.getElem_mem hlt)) (hRF _ (List.getElem_mem hlt)) _
    ·rw [upd_same] at e
     rw [← HO.lst.inj (Option.some.inj e),List.length_append,List.length_append,List.length_take,List.length_drop,List.length_singleton]
     omega
   ·rintro σ F ⟨⟨v5,v6,rfl⟩,⟨sF,us,fs,hlF,hdF,thF,hRF,lenF⟩,hlow⟩
    have him : (m * (if (!PyData.eqv (.list es) (.list [])) = true then 1 else 0)).toNat≤2:=by split <;> omega
    exact ⟨_,rfl,q l us fs F sF nlH hlF hdF hRF (by omega)⟩
def lx (ti : Nat→Int) (i j : Nat) : Bool:=decide (ti i < ti j∨(ti i = ti j∧i < j))
def rk (N : Nat) (ho : Nat→Str) (ti : Nat→Int) (a : Nat) : Nat:=((List.range N).filter fun j=>decide (ho j = ho a) && lx ti j a).length
def itemsOf (N : Nat) (ho : Nat→Str) (h : Str) : List Nat:=(List.range N).filter fun j=>decide (ho j = h)
theorem mem_items {N : Nat} {ho : Nat→Str} {h : Str} {j : Nat} : j∈itemsOf N ho h↔j < N∧ho j = h:=by
 unfold itemsOf
 rw [List.mem_filter,List.mem_range,decide_eq_true_eq]
theorem rk_eq {N : Nat} {ho : Nat→Str} {ti : Nat→Int} {a : Nat} : rk N ho ti a = ((itemsOf N ho (ho a)).filter fun j=>lx ti j a).length:=by
 unfold rk itemsOf
 rw [List.filter_filter]
 congr 1
 refine List.filter_congr fun j _=>?_
 rw [Bool.and_comm]
theorem rk_lt {N : Nat} {ho : Nat→Str} {ti : Nat→Int} {a : Nat} (ha : a < N) : rk N ho ti a < (itemsOf N ho (ho a)).length:=by
 rw [rk_eq]
 refine Nat.lt_of_le_of_ne (List.length_filter_le _ _) fun e=>?_
 have:=List.length_filter_eq_length_iff.mp e a (mem_items.mpr ⟨ha,rfl⟩)
 unfold lx at this
 have:=of_decide_eq_true this
 omega
theorem filter_le {A : Type} (p q : A→Bool) (h : ∀ x,p x = true→q x = true) : ∀ l : List A,(l.filter p).length≤(l.filter q).length
 | []=>Nat.le_refl _
 | x :: l=>by
  have ih:=filter_le p q h l
  rw [List.filter_cons,List.filter_cons]
  by_cases hp : p x = true
  ·rw [if_pos hp,if_pos (h x hp),List.length_cons,List.length_cons]
   omega
  ·rw [if_neg hp]
   split
   ·rw [List.length_cons]
    omega
   ·exact ih
theorem filter_lt {A : Type} (p q : A→Bool) (h : ∀ x,p x = true→q x = true) {y : A} (hy : p y = false) (hq : q y = true) : ∀ {l : List A},y∈l→(l.filter p).length < (l.filter q).length
 | x :: l,m=>by
  have ih:=filter_le p q h l
  rw [List.filter_cons,List.filter_cons]
  rcases List.mem_cons.mp m with rfl | m
  ·rw [hy,hq,if_neg (by decide),if_pos rfl,List.length_cons]
   omega
  ·have i2:=filter_lt p q h hy hq m
   by_cases hp : p x = true
   ·rw [if_pos hp,if_pos (h x hp),List.length_cons,List.length_cons]
    omega
   ·rw [if_neg hp]
    split
    ·rw [List.length_cons]
     omega
    ·exact i2
theorem lx_trans {ti : Nat→Int} {i j k : Nat} (h1 : lx ti i j = true) (h2 : lx ti j k = true) : lx ti i k = true:=by
 unfold lx at *
 have h1:=of_decide_eq_true h1
 have h2:=of_decide_eq_true h2
 exact decide_eq_true (by omega)
theorem lx_irrefl {ti : Nat→Int} {i : Nat} : lx ti i i = false:=by
 unfold lx
 exact decide_eq_false (by omega)
theorem lx_total {ti : Nat→Int} {i j : Nat} (h : i≠j) : lx ti i j = true∨lx ti j i = true:=by
 unfold lx
 rw [decide_eq_true_eq,decide_eq_true_eq]
 omega
theorem rk_mono {N : Nat} {ho : Nat→Str} {ti : Nat→Int} {a b : Nat} (ha : a < N) (e : ho a = ho b) (h : lx ti a b = true) : rk N ho ti a < rk N ho ti b:=by
 rw [rk_eq,rk_eq,e]
 exact filter_lt (fun j=>lx ti j a) (fun j=>lx ti j b) (fun x hx=>lx_trans hx h) (y:=a) lx_irrefl h (mem_items.mpr ⟨ha,e⟩)
theorem rk_inj {N : Nat} {ho : Nat→Str} {ti : Nat→Int} {a b : Nat} (ha : a < N) (hb : b < N) (e : ho a = ho b) (h : rk N ho ti a = rk N ho ti b) : a = b:=by
 refine Decidable.byContradiction fun ne=>?_
 rcases lx_total (ti:=ti) ne with l | l
 ·have:=rk_mono ha e l
  omega
 ·have:=rk_mono hb e.symm l
  omega
theorem rk_time {N : Nat} {ho : Nat→Str} {ti : Nat→Int} {a b : Nat} (ha : a < N) (hb : b < N) (e : ho a = ho b) (h : rk N ho ti a≤rk N ho ti b) : ti a≤ti b:=by
 by_cases ne : a = b
 ·rw [ne]
  exact Int.le_refl _
 ·rcases lx_total (ti:=ti) ne with l | l
  ·unfold lx at l
   have:=of_decide_eq_true l
   omega
  ·have:=rk_mono hb e.symm l
   omega
theorem sorted_rank {N : Nat} {ho : Nat→Str} {ti : Nat→Int} {h : Str} {S : List Nat} (pm : S.Perm (itemsOf N ho h)) (srt : S.Pairwise fun x y=>lx ti y x = false) {i a : Nat} (e : S[i]? = some a) : a < N∧ho a = h∧rk N ho ti a = i:=by
 have ma:=mem_items.mp (pm.mem_iff.mp (List.mem_of_getElem? e))
 refine ⟨ma.1,ma.2,?_⟩
 have nd : S.Nodup:=pm.nodup_iff.mpr (List.nodup_range.sublist List.filter_sublist)
 have hi:=(List.getElem?_eq_some_iff.mp e).1
 rw [rk_eq,ma.2,← (pm.filter fun j=>lx ti j a).length_eq]
 have es : S = S.take i ++ a :: S.drop (i + 1):=by
  have e2 : S.drop i = a :: S.drop (i + 1):=by rw [List.drop_eq_getElem_cons hi,(List.getElem?_eq_some_iff.mp e).2]
  rw [← e2,List.take_append_drop]
 rw [es] at srt nd
 rw [es,List.filter_append,List.length_append]
 have h1 : ((S.take i).filter fun j=>lx ti j a) = S.take i:=by
  rw [List.filter_eq_self]
  intro x mx
  have ne : x≠a:=fun z=>by
   rw [List.nodup_append] at nd
   exact nd.2.2 x mx a List.mem_cons_self z
  rcases lx_total (ti:=ti) ne with l | l
  ·exact l
  ·have:=(List.pairwise_append.mp srt).2.2 x mx a List.mem_cons_self
   rw [l] at this
   cases this
 have h2 : ((a :: S.drop (i + 1)).filter fun j=>lx ti j a) = []:=by
  rw [List.filter_eq_nil_iff]
  intro x mx
  rcases List.mem_cons.mp mx with rfl | mx
  ·rw [lx_irrefl]
   decide
  ·have:=(List.pairwise_cons.mp (List.pairwise_append.mp srt).2.1).1 x mx
   rw [this]
   decide
 rw [h1,h2,List.length_take]
 simp
 omega
inductive Prs (H : Hp) : List V→List (Int × Nat)→Prop
 | nil : Prs H [] []
 | cons {t : Addr} {q : Int × Nat} {us : List V} {qs : List (Int × Nat)} : H t = some (.tup [.int q.1,.int (q.2 : Nat)])→Prs H us qs→Prs H (.ref t :: us) (q :: qs)
theorem Prs.go {H H' : Hp} (s : ∀ b xs,H b = some (.tup xs)→H' b = some (.tup xs)) : ∀ {us : List V} {ks : List (Int × Nat)},Prs H us ks→Prs H' us ks
 | _,_,.nil=>.nil
 | _,_,.cons h r=>.cons (s _ _ h) (r.go s)
theorem Prs.snoc {H : Hp} {b : Addr} {k : Int × Nat} (hb : H b = some (.tup [.int k.1,.int (k.2 : Nat)])) : ∀ {us : List V} {ks : List (Int × Nat)},Prs H us ks→Prs H (us ++ [.ref b]) (ks ++ [k])
 | _,_,.nil=>.cons hb .nil
 | _,_,.cons h r=>.cons h (r.snoc hb)
theorem Prs.len {H : Hp} : ∀ {us : List V} {ks : List (Int × Nat)},Prs H us ks→us.length = ks.length
 | _,_,.nil=>rfl
 | _,_,.cons _ r=>by rw [List.length_cons,List.length_cons,r.len]
def kp (H : Hp) : V→Int × Int
 | .ref t=>match H t with
  | some (.tup [.int a,.int b])=>(a,b)
  | _=>(0,0)
 | _=>(0,0)
theorem kp_at {H : Hp} {t : Addr} {a b : Int} (h : H t = some (.tup [.int a,.int b])) : kp H (.ref t) = (a,b):=by
 show (match H t with
  | some (.tup [.int a,.int b])=>(a,b)
  | _=>((0,0) : Int × Int)) = (a,b)
 rw [h]
def q2 (q : Int × Int) : Int × Nat:=(q.1,q.2.toNat)
theorem Prs.each {H : Hp} : ∀ {us : List V} {ks : List (Int × Nat)},Prs H us ks→(∀ x∈us,∃ t,x = .ref t∧H t = some (.tup [.int (kp H x).1,.int (kp H x).2]))∧us.map (fun x=>q2 (kp H x)) = ks∧∀ x∈us,0≤(kp H x).2
 | _,_,.nil=>⟨fun _ m=>(nomatch m),rfl,fun _ m=>(nomatch m)⟩
 | _,_,.cons (t:=t) (q:=q) h r=>by
  obtain ⟨r1,r2,r3⟩:=r.each
  have e:=kp_at h
  refine ⟨fun x m=>?_,?_,fun x m=>?_⟩
  ·rcases List.mem_cons.mp m with rfl | m
   ·exact ⟨t,rfl,by rw [e]; exact h⟩
   ·exact r1 x m
  ·rw [List.map_cons,r2,e]
   rfl
  ·rcases List.mem_cons.mp m with rfl | m
   ·rw [e]
    exact Int.natCast_nonneg _
   ·exact r3 x m
theorem prs_of {H : Hp} : ∀ {us : List V},(∀ x∈us,∃ t,x = .ref t∧H t = some (.tup [.int (kp H x).1,.int (kp H x).2])∧0≤(kp H x).2)→Prs H us (us.map fun x=>q2 (kp H x))
 | [],_=>.nil
 | x :: us,h=>by
  obtain ⟨t,rfl,ht,h0⟩:=h x List.mem_cons_self
  refine .cons ?_ (prs_of fun y m=>h y (List.mem_cons_of_mem _ m))
  show H t = some (.tup [.int (kp H (.ref t)).1,.int (((kp H (.ref t)).2.toNat : Nat) : Int)])
  rw [Int.toNat_of_nonneg h0]
  exact ht
theorem prs_sorted {H : Hp} {N : Nat} {ho : Nat→Str} {ti : Nat→Int} {h : Str} {us ys : List V} (p : Prs H us ((itemsOf N ho h).map fun j=>(ti j,j))) (srt : SrtO.Srtd (L2.ltP (kp H)) ys) (stb : SrtO.Stb (L2.ltP (kp H)) ys us) :
  ∃ S : List Nat,Prs H ys (S.map fun j=>(ti j,j))∧S.Perm (itemsOf N ho h)∧S.Pairwise fun x y=>lx ti y x = false:=by
 obtain ⟨p1,p2,p3⟩:=p.each
 have hm : ∀ x∈ys,x∈us:=fun x m=>stb.perm.mem_iff.mp m
 have py:=prs_of (H:=H) (us:=ys) fun x m=>let ⟨t,e1,e2⟩:=p1 x (hm x m); ⟨t,e1,e2,p3 x (hm x m)⟩
 have pe : (ys.map fun x=>q2 (kp H x)).Perm ((itemsOf N ho h).map fun j=>(ti j,j)):=by
  rw [← p2]
  exact stb.perm.map _
 have each : ∀ q∈ys.map fun x=>q2 (kp H x),q = (ti q.2,q.2):=fun q m=>by
  obtain ⟨j,_,rfl⟩:=List.mem_map.mp (pe.mem_iff.mp m)
  rfl
 refine ⟨(ys.map fun x=>q2 (kp H x)).map (·.2),?_,?_,?_⟩
 ·have e : ((ys.map fun x=>q2 (kp H x)).map (·.2)).map (fun j=>(ti j,j)) = ys.map fun x=>q2 (kp H x):=by
   rw [List.map_map]
   conv=>rhs; rw [← List.map_id (ys.map fun x=>q2 (kp H x))]
   exact List.map_congr_left fun q m=>(each q m).symm
  rw [e]
  exact py
 ·have:=pe.map (·.2)
  rw [List.map_map (l:=itemsOf N ho h)] at this
  have e : (itemsOf N ho h).map ((fun x : Int × Nat=>x.2) ∘ fun j=>(ti j,j)) = itemsOf N ho h:=by
   conv=>rhs; rw [← List.map_id (itemsOf N ho h)]
   rfl
  rw [e] at this
  exact this
 ·rw [List.map_map,List.pairwise_map]
  refine List.Pairwise.imp_of_mem (fun {x y} mx my hxy=>?_) srt
  have ex:=each _ (List.mem_map.mpr ⟨x,mx,rfl⟩)
  have ey:=each _ (List.mem_map.mpr ⟨y,my,rfl⟩)
  have x0:=p3 x (hm x mx)
  have y0:=p3 y (hm y my)
  show lx ti (q2 (kp H y)).2 (q2 (kp H x)).2 = false
  have hx : ti (q2 (kp H x)).2 = (kp H x).1:=(congrArg Prod.fst ex).symm
  have hy : ti (q2 (kp H y)).2 = (kp H y).1:=(congrArg Prod.fst ey).symm
  unfold lx
  rw [hx,hy]
  refine decide_eq_false fun z=>?_
  have hl : ¬ (SrtO.lexB (kp H y) (kp H x) = true):=by
   have : SrtO.lexB (kp H y) (kp H x) = false:=hxy
   rw [this]
   decide
  refine hl (SrtO.lexB_iff.mpr ?_)
  rcases z with z | ⟨z1,z2⟩
  ·exact .inl z
  ·refine .inr ⟨z1,?_⟩
   have z2 : (kp H y).2.toNat < (kp H x).2.toNat:=z2
   omega
theorem nodup_len {A : Type} [DecidableEq A] : ∀ {xs ys : List A},xs.Nodup→(∀ x∈xs,x∈ys)→xs.length≤ys.length
 | [],_,_,_=>Nat.zero_le _
 | x :: xs,ys,nd,h=>by
  have hx:=h x List.mem_cons_self
  have nd2:=List.nodup_cons.mp nd
  have ih:=nodup_len (ys:=ys.erase x) nd2.2 fun y m=>(List.mem_erase_of_ne (fun z=>nd2.1 (by rw [← z]; exact m))).mpr (h y (List.mem_cons_of_mem _ m))
  rw [List.length_erase_of_mem hx] at ih
  have:=List.length_pos_of_mem hx
  rw [List.length_cons]
  omega
structure NumD (H : Hp) (N : Nat) (ho : Nat→Str) (ti : Nat→Int) (done : Nat→Prop) (kvs : List (Key × V)) : Prop where
 own : ∀ kv∈kvs,∃ (a : Nat) (b : Addr),kv.1 = .inl (a : Int)∧a < N∧done a∧kv.2 = .ref b∧H b = some (.tup [.str (ho a),.int (rk N ho ti a : Nat)])
 all : ∀ a,a < N→done a→∃ v,((.inl (a : Int) : Key),v)∈kvs
 nd : (kvs.map (·.1)).Nodup
theorem NumD.go {H H' : Hp} {N : Nat} {ho : Nat→Str} {ti : Nat→Int} {done : Nat→Prop} {kvs : List (Key × V)} (h : NumD H N ho ti done kvs) (s : ∀ b xs,H b = some (.tup xs)→H' b = some (.tup xs)) : NumD H' N ho ti done kvs :=
 ⟨fun kv m=>let ⟨a,b,e1,e2,e3,e4,e5⟩:=h.own kv m; ⟨a,b,e1,e2,e3,e4,s _ _ e5⟩,h.all,h.nd⟩
theorem NumD.iff {H : Hp} {N : Nat} {ho : Nat→Str} {ti : Nat→Int} {done done' : Nat→Prop} {kvs : List (Key × V)} (h : NumD H N ho ti done kvs) (e : ∀ a,a < N→(done a↔done' a)) : NumD H N ho ti done' kvs :=
 ⟨fun kv m=>let ⟨a,b,e1,e2,e3,e4,e5⟩:=h.own kv m; ⟨a,b,e1,e2,(e a e2).mp e3,e4,e5⟩,fun a ha hd=>h.all a ha ((e a ha).mpr hd),h.nd⟩
theorem NumD.put {H : Hp} {N : Nat} {ho : Nat→Str} {ti : Nat→Int} {done : Nat→Prop} {kvs : List (Key × V)} {a : Nat} {b : Addr} (h : NumD H N ho ti done kvs) (ha : a < N) (hb : H b = some (.tup [.str (ho a),.int (rk N ho ti a : Nat)])) : NumD H N ho ti (fun x=>done x∨x = a) (putK kvs (.inl (a : Int)) (.ref b)) where
 own:=fun kv m=>by
  rcases put_mem m with ⟨m,_⟩ | rfl
  ·obtain ⟨x,c,e1,e2,e3,e4,e5⟩:=h.own kv m
   exact ⟨x,c,e1,e2,.inl e3,e4,e5⟩
  ·exact ⟨a,b,rfl,ha,.inr rfl,rfl,hb⟩
 all:=fun x hx hd=>by
  rcases hd with hd | rfl
  ·obtain ⟨v,m⟩:=h.all x hx hd
   exact put_keep m
  ·exact ⟨_,put_self _ _ _⟩
 nd:=put_nd h.nd
theorem NumD.len {H : Hp} {N : Nat} {ho : Nat→Str} {ti : Nat→Int} {done : Nat→Prop} {kvs : List (Key × V)} (h : NumD H N ho ti done kvs) : kvs.length≤N:=by
 have hs : ∀ k∈kvs.map (·.1),k∈(List.range N).map fun a : Nat=>(Sum.inl (a : Int) : Key):=fun k m=>by
  obtain ⟨kv,mk,rfl⟩:=List.mem_map.mp m
  obtain ⟨a,b,e1,e2,_⟩:=h.own kv mk
  rw [e1]
  exact List.mem_map.mpr ⟨a,List.mem_range.mpr e2,rfl⟩
 have:=nodup_len h.nd hs
 rw [List.length_map,List.length_map,List.length_range] at this
 exact this
theorem NumD.at {H : Hp} {N : Nat} {ho : Nat→Str} {ti : Nat→Int} {done : Nat→Prop} {kvs : List (Key × V)} (h : NumD H N ho ti done kvs) {a : Nat} (ha : a < N) (hd : done a) : ∃ b,valV kvs (.inl (a : Int)) = some (.ref b)∧H b = some (.tup [.str (ho a),.int (rk N ho ti a : Nat)]):=by
 cases e : valV kvs (.inl (a : Int)) with
 | none =>
  obtain ⟨v,m⟩:=h.all a ha hd
  exact absurd m (val_none e v)
 | some v =>
  obtain ⟨x,b,e1,e2,e3,e4,e5⟩:=h.own _ (val_mem e)
  have e1 : (a : Int) = (x : Int):=Sum.inl.inj e1
  obtain rfl : a = x:=Int.ofNat.inj e1
  exact ⟨b,by rw [← e4],e5⟩
def hoJ (js : List WJ) (i : Nat) : Str:=match js[i]? with
 | some j=>j.h
 | none => ""
def tiJ (js : List WJ) (i : Nat) : Int:=match js[i]? with
 | some j=>j.b
 | none=>0
def hoA (js : List WJ) (as : List WA) (i : Nat) : Str:=match as[i]? with
 | some x=>hoJ js x.pl
 | none => ""
def tiA (as : List WA) (i : Nat) : Int:=match as[i]? with
 | some x=>x.o
 | none=>0
def sp_called : Sp:=fun vs H Q _=>∃ (t w lj la : Addr) (hs gs : List Str) (rs qs : List Addr) (js : List WJ) (as : List WA) (most : Int),vs = [.ref t,.ref w]∧TownAt H t hs gs∧WorldAt H w lj la rs qs js as most∧js.length≤500∧as.length≤500 ∧
 ∀ (p dA dJ : Addr) (kA kJ : List (Key × V)) (H' : Hp),Same H H'→H' p = some (.tup [.ref dA,.ref dJ])→H' dA = some (.dK kA)→H' dJ = some (.dK kJ)→H dA = none→H dJ = none→NumD H' as.length (hoA js as) (tiA as) (fun a=>hoA js as a∈hs) kA→NumD H' js.length (hoJ js) (tiJ js) (fun a=>hoJ js a∈hs) kJ→Q (.ref p) H'
theorem items_succ (k : Nat) (ho : Nat→Str) (h : Str) : itemsOf (k + 1) ho h = itemsOf k ho h ++ (if ho k = h then [k] else []):=by
 unfold itemsOf
 rw [List.range_succ,filter_snoc]
 congr 1
 by_cases e : ho k = h <;> simp [e]
theorem items_len (k : Nat) (ho : Nat→Str) (h : Str) : (itemsOf k ho h).length≤k:=by
 unfold itemsOf
 exact Nat.le_trans (List.length_filter_le _ _) (by rw [List.length_range]; exact Nat.le_refl _)
theorem Prs.at {H : Hp} : ∀ {us : List V} {ks : List (Int × Nat)} {i : Nat} {k : Int × Nat},Prs H us ks→ks[i]? = some k→∃ t,us[i]? = some (.ref t)∧H t = some (.tup [.int k.1,.int (k.2 : Nat)])
 | _,_,0,_,.cons h _,e=>⟨_,rfl,by obtain rfl:=Option.some.inj e; exact h⟩
 | _,_,_ + 1,_,.cons _ r,e=>r.at e
def Kp (d : Addr) (H H' : Hp) : Prop:=∀ b o,b≠d→H b = some o→H' b = some o
set_option maxHeartbeats 16000000 in
theorem ok_l_called (T : Txt K mg af fd) : FnOk P w K mg base CX0 1 (af 44) (fd 44) ["town", "world"] sp_called:=by
 refine T.F_l_called.ok sc_l_called (fun vs H Q E h=>?_) (fun cdv A outer s H vs Q E hr h=>?_)
 ·obtain ⟨t,w,lj,la,hs,gs,rs,qs,js,as,most,rfl,_⟩:=h
  rfl
 ·obtain ⟨t,w,lj,la,hs,gs,rs,qs,js,as,most,rfl,⟨ta,tb,t1,t2,t3⟩,W,lenj,lena,q⟩:=h
  refine ⟨_,(pss_cons (ps_set (i:=2) sc_l_called.nd rfl (by first | exact Or.inl rfl | exact Or.inr rfl) pe_dnewK)
    (pss_cons (ps_set (i:=3) sc_l_called.nd rfl (by first | exact Or.inl rfl | exact Or.inr rfl) pe_dnewK)
    (pss_cons (ps_for PassesOwn.never rfl (pi_tup (pe_ix ix_tup (pv 0) pe_int (fun _ _=>rfl))) (pg_name (i:=4) sc_l_called.nd rfl (by first | exact Or.inl rfl | exact Or.inr rfl)) (pss_cons (ps_set (i:=5) sc_l_called.nd rfl (by first | exact Or.inl rfl | exact Or.inr rfl) (pe_callB cr_sortedPO (by rfl) T.m_sorted (by decide +kernel) (pa_cons (pe_lc (own:=[("at", 6),("ask", 7)]) (g:=gTup K 2 (gCons (gName 6) (gCons (gName 7) gNil))) (by rfl) sc_l_called.nd (pi_enum (by rfl) T.m_enumerate (pa_cons (pe_ix ix_list (pv 1) pe_int (fun _ _=>rfl)) pa_nil)) (blkOk_by (own:=[("at", 6),("ask", 7)]) (N:=["town", "world", "asks", "jobs", "house", "outs", "at", "ask", "begins", "place", "job", "number"]) (sc:=defScope s_l_called) (by decide +kernel)) (fun _ _ _ _ _=>pg_tup rfl (pgs_cons (pg_name (i:=6) sc_l_called.nd rfl (Or.inl rfl)) (pgs_cons (pg_name (i:=7) sc_l_called.nd rfl (Or.inl rfl)) pgs_nil))) (fun _ _ _ _ _=>(pts_one (pt_cmpR op_eq (pe_ix (show IxR _ (rIxL K) from ix_list) (pe_ix (show IxR _ (rIxL K) from ix_list) (pe_ix (show IxR _ (rIxL K) from ix_list) (pv 1) pe_int (fun _ _=>rfl)) (pe_ix (show IxR _ (rIxL K) from ix_list) (pv 7) pe_int (fun _ _=>rfl)) (fun _ _=>rfl)) pe_int (fun _ _=>rfl)) (pv 4) (nomark _)))) (fun _ _ _ _ _=>(pe_tup (pa_cons (pe_ix (show IxR _ (rIxL K) from ix_list) (pv 7) pe_int (fun _ _=>rfl)) (pa_cons (pv 6) pa_nil))))) pa_nil)))
    (pss_cons (ps_set (i:=8) sc_l_called.nd rfl (by first | exact Or.inl rfl | exact Or.inr rfl) (pe_callB cr_sortedPO (by rfl) T.m_sorted (by decide +kernel) (pa_cons (pe_lc (own:=[("place", 9),("job", 10)]) (g:=gTup K 2 (gCons (gName 9) (gCons (gName 10) gNil))) (by rfl) sc_l_called.nd (pi_enum (by rfl) T.m_enumerate (pa_cons (pe_ix (show IxR _ (rIxL K) from ix_list) (pv 1) pe_int (fun _ _=>rfl)) pa_nil)) (blkOk_by (own:=[("place", 9),("job", 10)]) (N:=["town", "world", "asks", "jobs", "house", "outs", "at", "ask", "begins", "place", "job", "number"]) (sc:=defScope s_l_called) (by decide +kernel)) (fun _ _ _ _ _=>pg_tup rfl (pgs_cons (pg_name (i:=9) sc_l_called.nd rfl (Or.inl rfl)) (pgs_cons (pg_name (i:=10) sc_l_called.nd rfl (Or.inl rfl)) pgs_nil))) (fun _ _ _ _ _=>(pts_one (pt_cmpR op_eq (pe_ix (show IxR _ (rIxL K) from ix_list) (pv 10) pe_int (fun _ _=>rfl)) (pv 4) (nomark _)))) (fun _ _ _ _ _=>(pe_tup (pa_cons (pe_ix (show IxR _ (rIxL K) from ix_list) (pv 10) pe_int (fun _ _=>rfl)) (pa_cons (pv 9) pa_nil))))) pa_nil)))
    (pss_cons (ps_for PassesOwn.never rfl (pi_range1 (by rfl) T.m_range (pa_cons (pe_callB call_len_seq (by rfl) T.m_len (by decide +kernel) (pa_cons (pv 5) pa_nil)) pa_nil)) (pg_name (i:=11) sc_l_called.nd rfl (by first | exact Or.inl rfl | exact Or.inr rfl)) (pss_one (ps_dput (hu_of hr) (pv 2) (pe_ix ix_tup (pe_ix ix_list (pv 5) (pv 11) (fun _ _=>rfl)) pe_int (fun _ _=>rfl)) (pe_tup (pa_cons (pv 4) (pa_cons (pv 11) pa_nil))) rfl)))
    (pss_one (ps_for PassesOwn.never rfl (pi_range1 (by rfl) T.m_range (pa_cons (pe_callB call_len_seq (by rfl) T.m_len (by decide +kernel) (pa_cons (pv 8) pa_nil)) pa_nil)) (pg_name (i:=11) sc_l_called.nd rfl (by first | exact Or.inl rfl | exact Or.inr rfl)) (pss_one (ps_dput (hu_of hr) (pv 3) (pe_ix ix_tup (pe_ix ix_list (pv 8) (pv 11) (fun _ _=>rfl)) pe_int (fun _ _=>rfl)) (pe_tup (pa_cons (pv 4) (pa_cons (pv 11) pa_nil))) rfl))))))))
    (pss_one (ps_ret (pe_tup (pa_cons (pv 2) (pa_cons (pv 3) pa_nil)))))))),?_⟩
  intro dA ndA dJ ndJ
  have ndJ0 : H dJ = none:=(same_upd ndA).free ndJ
  have neAJ : dA≠dJ:=ne_of_none upd_same ndJ
  have s0 : Same H (upd (upd H dA (.dK [])) dJ (.dK [])):=(same_upd ndA).trans (same_upd ndJ)
  have hA0 : (upd (upd H dA (.dK [])) dJ (.dK [])) dA = some (.dK []):=by rw [upd_ne neAJ,upd_same]
  have hJ0 : (upd (upd H dA (.dK [])) dJ (.dK [])) dJ = some (.dK []):=upd_same
  generalize upd (upd H dA (.dK [])) dJ (.dK []) = H0 at s0 hA0 hJ0 ⊢
  refine ⟨_,rfl,t,_,0,_,rfl,rfl,SqT.of (s0 _ _ t1),rfl,ta,rfl,⟨_,SqT.of (s0 _ _ t2)⟩,?_⟩
  refine for_it (walk_tup (K:=K) (a:=ta) (xs:=hs.map V.str)) (fun i σ H'=>(∃ v4 v5 v6 v7 v8 v9 v10 v11 : Option V,σ = [some (.ref t),some (.ref w),some (.ref dA),some (.ref dJ),v4,v5,v6,v7,v8,v9,v10,v11])∧Same H H'∧∃ kA kJ,H' dA = some (.dK kA)∧H' dJ = some (.dK kJ)∧NumD H' as.length (hoA js as) (tiA as) (fun a=>hoA js as a∈hs.take i) kA∧NumD H' js.length (hoJ js) (tiJ js) (fun a=>hoJ js a∈hs.take i) kJ)
   ⟨⟨none,none,none,none,none,none,none,none,rfl⟩,s0,[],[],hA0,hJ0,⟨fun _ m=>(nomatch m),(fun a _ h=>by rw [List.take_zero] at h; exact nomatch h),List.nodup_nil⟩,⟨fun _ m=>(nomatch m),(fun a _ h=>by rw [List.take_zero] at h; exact nomatch h),List.nodup_nil⟩⟩ (fun i σ H' _ h=>SqT.of (h.2.1 _ _ t2)) ?_ ?_
  ·rintro i v σ H1 H2 hi ⟨⟨v4,v5,v6,v7,v8,v9,v10,v11,rfl⟩,s1,kA,kJ,hA,hJ,nA,nJ⟩ ⟨rfl,ev⟩
   rw [List.length_map] at hi
   have eh : hs[i]? = some hs[i]:=List.getElem?_eq_getElem hi
   generalize hs[i] = h at eh
   rw [List.getElem?_map,eh] at ev
   obtain rfl : V.str h = v:=Option.some.inj ev
   have W1:=W.same s1
   -- outs
   refine ⟨_,rfl,w,_,1,_,rfl,rfl,SqL.of W1.w,rfl,la,qs.map V.ref,rfl,SqL.of W1.a,fun D nD=>?_⟩
   refine lc_it (walk_enum (K:=K) (a:=la) (xs:=qs.map V.ref)) (fun k H'=>Same H2 H'∧∃ us,H' D = some (.lst us)∧Prs H' us ((itemsOf k (hoA js as) h).map fun j=>(tiA as j,j)))
    ⟨same_upd nD,[],upd_same,.nil⟩ (fun k H' _ h=>SqL.of (h.1 _ _ W1.a)) ?_ ?_
   ·rintro k v G1 G2 hk ⟨g1,us,hD,pr⟩ ⟨Tp,x1,x2,rfl,nT,rfl,e1,e2⟩
    obtain rfl : V.int (k : Nat) = x1:=Option.some.inj e1
    have e2 : (qs.map V.ref)[k]? = some x2:=e2
    rw [List.getElem?_map] at e2
    obtain ⟨r,hr1,rfl⟩:=Option.map_eq_some_iff.mp e2
    have hka : k < as.length:=by rw [← W.ca.1]; exact (List.getElem?_eq_some_iff.mp hr1).1
    have hx : as[k]? = some as[k]:=List.getElem?_eq_getElem hka
    generalize as[k] = x at hx
    have g2 : Same H2 (upd G1 Tp (.tup [.int (k : Nat),.ref r])):=same_mut g1 (g1.free nT)
    have hDT : (upd G1 Tp (.tup [.int (k : Nat),.ref r])) D = some (.lst us):=by rw [upd_ne (ne_of_none hD nT)]; exact hD
    have prT:=pr.go (H':=upd G1 Tp (.tup [.int (k : Nat),.ref r])) fun b ys e=>(same_upd nT) _ _ e
    refine ⟨Tp,_,rfl,SqT.of upd_same,rfl,_,_,rfl,_,_,rfl,rfl,rfl,?_⟩
    generalize upd G1 Tp (.tup [.int (k : Nat),.ref r]) = G3 at g2 hDT prT ⊢
    have W2:=W1.same g2
    have hr2:=W2.ca.2 k r x hr1 hx
    have hpl:=W.pl x (List.mem_of_getElem? hx)
    have hj : js[x.pl]? = some js[x.pl]:=List.getElem?_eq_getElem hpl
    generalize js[x.pl] = j at hj
    obtain ⟨rj,erj,hrj⟩:=W2.cj.at hj
    have eho : hoA js as k = j.h:=by unfold hoA hoJ; rw [hx]; show (match js[x.pl]? with | some j=>j.h | none => "") = _; rw [hj]
    have eti : tiA as k = x.o:=by unfold tiA; rw [hx]
    have l1:=prT.len
    rw [List.length_map] at l1
    have l2:=items_len k (hoA js as) h
    refine ⟨_,rfl,w,_,0,_,rfl,rfl,SqL.of W2.w,rfl,_,rfl,r,_,0,_,rfl,rfl,SqL.of hr2,rfl,lj,_,_,_,rfl,rfl,SqL.of W2.j,atI_nat (map_ref erj),rj,_,0,_,rfl,rfl,SqL.of hrj,rfl,_,rfl,rfl,_,rfl,?_⟩
    by_cases e : j.h = h
    ·refine iteTd (congrArg V.str e) ⟨_,rfl,r,_,2,_,rfl,rfl,SqL.of hr2,rfl,_,rfl,(by show 2≤sizeLine; decide),fun b nb=>?_⟩
     have hDb : (upd G3 b (.tup [.int x.o,.int (k : Nat)])) D = some (.lst us):=by rw [upd_ne (ne_of_none hDT nb)]; exact hDT
     refine ⟨us,hDb,small_line (by omega),same_mut (same_mut g2 (g2.free nb)) nD,_,upd_same,?_⟩
     rw [items_succ,if_pos (eho.trans e),List.map_append]
     refine (prT.go fun c ys ec=>?_).snoc (k:=(tiA as k,k)) ?_
     ·rw [upd_ne (ne_of ec hDT (fun z=>nomatch z)),upd_ne (ne_of_none ec nb)]
      exact ec
     ·rw [upd_ne (fun z=>by rw [z] at nb; rw [nb] at hDT; cases hDT),upd_same,eti]
    ·refine iteFd (fun z=>e (V.str.inj z)) ⟨g2,us,hDT,?_⟩
     rw [items_succ,if_neg (fun z=>e (eho.symm.trans z)),List.append_nil]
     exact prT
   rintro G1 ⟨g1,us,hD,pr⟩
   rw [List.length_map,W.ca.1] at pr
   obtain ⟨pe1,_,_⟩:=pr.each
   refine ⟨D,us,kp G1,rfl,SqL.of hD,pe1,fun ys pO srt stb npO=>?_⟩
   obtain ⟨SA,pA,pmA,srA⟩:=prs_sorted pr srt stb
   have g2:=g1.trans (same_upd (o:=.lst ys) npO)
   have hO : (upd G1 pO (.lst ys)) pO = some (.lst ys):=upd_same
   have pA:=pA.go (H':=upd G1 pO (.lst ys)) fun b zs e=>(same_upd npO) _ _ e
   generalize upd G1 pO (.lst ys) = G2 at g2 hO pA ⊢
   have W2:=W1.same g2
   -- begins
   refine ⟨_,rfl,w,_,0,_,rfl,rfl,SqL.of W2.w,rfl,lj,rs.map V.ref,rfl,SqL.of W2.j,fun D nD=>?_⟩
   refine lc_it (walk_enum (K:=K) (a:=lj) (xs:=rs.map V.ref)) (fun k H'=>Same G2 H'∧∃ us,H' D = some (.lst us)∧Prs H' us ((itemsOf k (hoJ js) h).map fun j=>(tiJ js j,j)))
    ⟨same_upd nD,[],upd_same,.nil⟩ (fun k H' _ h=>SqL.of (h.1 _ _ W2.j)) ?_ ?_
   ·rintro k v F1 F2 hk ⟨f1,us,hD,pr⟩ ⟨Tp,x1,x2,rfl,nT,rfl,e1,e2⟩
    obtain rfl : V.int (k : Nat) = x1:=Option.some.inj e1
    have e2 : (rs.map V.ref)[k]? = some x2:=e2
    rw [List.getElem?_map] at e2
    obtain ⟨r,hr1,rfl⟩:=Option.map_eq_some_iff.mp e2
    have hkj : k < js.length:=by rw [← W.cj.1]; exact (List.getElem?_eq_some_iff.mp hr1).1
    have hx : js[k]? = some js[k]:=List.getElem?_eq_getElem hkj
    generalize js[k] = j at hx
    have f2 : Same G2 (upd F1 Tp (.tup [.int (k : Nat),.ref r])):=same_mut f1 (f1.free nT)
    have hDT : (upd F1 Tp (.tup [.int (k : Nat),.ref r])) D = some (.lst us):=by rw [upd_ne (ne_of_none hD nT)]; exact hD
    have prT:=pr.go (H':=upd F1 Tp (.tup [.int (k : Nat),.ref r])) fun b ys e=>(same_upd nT) _ _ e
    refine ⟨Tp,_,rfl,SqT.of upd_same,rfl,_,_,rfl,_,_,rfl,rfl,rfl,?_⟩
    generalize upd F1 Tp (.tup [.int (k : Nat),.ref r]) = F3 at f2 hDT prT ⊢
    have hr2:=(W2.same f2).cj.2 k r j hr1 hx
    have eho : hoJ js k = j.h:=by unfold hoJ; rw [hx]
    have eti : tiJ js k = j.b:=by unfold tiJ; rw [hx]
    have l1:=prT.len
    rw [List.length_map] at l1
    have l2:=items_len k (hoJ js) h
    refine ⟨_,rfl,r,_,0,_,rfl,rfl,SqL.of hr2,rfl,_,rfl,rfl,_,rfl,?_⟩
    by_cases e : j.h = h
    ·refine iteTd (congrArg V.str e) ⟨_,rfl,r,_,1,_,rfl,rfl,SqL.of hr2,rfl,_,rfl,(by show 2≤sizeLine; decide),fun b nb=>?_⟩
     have hDb : (upd F3 b (.tup [.int j.b,.int (k : Nat)])) D = some (.lst us):=by rw [upd_ne (ne_of_none hDT nb)]; exact hDT
     refine ⟨us,hDb,small_line (by omega),same_mut (same_mut f2 (f2.free nb)) nD,_,upd_same,?_⟩
     rw [items_succ,if_pos (eho.trans e),List.map_append]
     refine (prT.go fun c ys ec=>?_).snoc (k:=(tiJ js k,k)) ?_
     ·rw [upd_ne (ne_of ec hDT (fun z=>nomatch z)),upd_ne (ne_of_none ec nb)]
      exact ec
     ·rw [upd_ne (fun z=>by rw [z] at nb; rw [nb] at hDT; cases hDT),upd_same,eti]
    ·refine iteFd (fun z=>e (V.str.inj z)) ⟨f2,us,hDT,?_⟩
     rw [items_succ,if_neg (fun z=>e (eho.symm.trans z)),List.append_nil]
     exact prT
   rintro F1 ⟨f1,us,hD,pr⟩
   rw [List.length_map,W.cj.1] at pr
   obtain ⟨pe1,_,_⟩:=pr.each
   refine ⟨D,us,kp F1,rfl,SqL.of hD,pe1,fun zs pB srt stb npB=>?_⟩
   obtain ⟨SJ,pJ,pmJ,srJ⟩:=prs_sorted pr srt stb
   have f2:=f1.trans (same_upd (o:=.lst zs) npB)
   have hB : (upd F1 pB (.lst zs)) pB = some (.lst zs):=upd_same
   have pJ:=pJ.go (H':=upd F1 pB (.lst zs)) fun b ys e=>(same_upd npB) _ _ e
   generalize upd F1 pB (.lst zs) = F2 at f2 hB pJ ⊢
   have gF:=g2.trans f2
   have hO:=f2 _ _ hO
   have pA:=pA.go (H':=F2) fun b xs e=>f2 _ _ e
   have hA:=gF _ _ hA
   have hJ:=gF _ _ hJ
   have nA:=nA.go (H':=F2) fun b xs e=>gF _ _ e
   have nJ:=nJ.go (H':=F2) fun b xs e=>gF _ _ e
   have sF:=s1.trans gF
   have lA:=pA.len
   rw [List.length_map] at lA
   have lA2 : SA.length≤500:=by rw [pmA.length_eq]; exact Nat.le_trans (items_len _ _ _) lena
   have lJ:=pJ.len
   rw [List.length_map] at lJ
   have lJ2 : SJ.length≤500:=by rw [pmJ.length_eq]; exact Nat.le_trans (items_len _ _ _) lenj
   clear hD pr pe1 srt stb npB f1
   -- the asks
   refine ⟨_,rfl,pO,_,rfl,.inl (SqL.of hO),_,rfl,by omega,by omega,for_range (lo:=0) (n:=((ys.length : Int)).toNat) (fun n σ H'=>(∃ v6 v7 v9 v10 v11 : Option V,σ = [some (.ref t),some (.ref w),some (.ref dA),some (.ref dJ),some (.str h),some (.ref pO),v6,v7,some (.ref pB),v9,v10,v11])∧Kp dA F2 H'∧∃ kA,H' dA = some (.dK kA)∧NumD H' as.length (hoA js as) (tiA as) (fun a=>hoA js as a∈hs.take i∨(hoA js as a = h∧rk as.length (hoA js as) (tiA as) a < n)) kA)
    ⟨⟨_,_,_,_,_,rfl⟩,fun b o _ e=>e,kA,hA,nA.iff fun a _=>⟨fun z=>.inl z,fun z=>z.elim (fun z=>z) fun z=>absurd z.2 (Nat.not_lt_zero _)⟩⟩ ?_ ?_⟩
   ·rintro n σ G hn ⟨⟨v6,v7,v9,v10,v11,rfl⟩,kG,kA2,hA2,nA2⟩
    rw [Int.toNat_natCast] at hn
    have hnS : n < SA.length:=by omega
    have eS : SA[n]? = some SA[n]:=List.getElem?_eq_getElem hnS
    generalize SA[n] = a at eS
    obtain ⟨a1,a2,a3⟩:=sorted_rank pmA srA eS
    obtain ⟨tq,etq,htq⟩:=pA.at (i:=n) (k:=(tiA as a,a)) (by rw [List.getElem?_map,eS]; rfl)
    have hOG : G pO = some (.lst ys):=kG _ _ (ne_of hO hA (fun z=>nomatch z)) hO
    have htG:=kG _ _ (ne_of htq hA (fun z=>nomatch z)) htq
    refine ⟨_,rfl,_,rfl,(by show 2≤sizeLine; decide),fun b nb=>?_⟩
    have sb : Same G (upd G b (.tup [.str h,.int (0 + (n : Nat))])):=same_upd nb
    have hbb : (upd G b (.tup [.str h,.int (0 + (n : Nat))])) b = some (.tup [.str (hoA js as a),.int (rk as.length (hoA js as) (tiA as) a : Nat)]):=by rw [upd_same,a2,a3,Int.zero_add]
    generalize upd G b (.tup [.str h,.int (0 + (n : Nat))]) = G2 at sb hbb ⊢
    have hk2:=nA2.len
    refine ⟨_,rfl,_,rfl,_,rfl,pO,_,_,.ref tq,rfl,rfl,SqL.of (sb _ _ hOG),at_any (j:=n) (by omega) etq,tq,_,1,_,rfl,rfl,SqT.of (sb _ _ htG),rfl,dA,_,rfl,DPut.k (k:=Sum.inl (a : Int)) (sb _ _ hA2) (small_line (by omega)),?_⟩
    have tup : ∀ c xs,G2 c = some (.tup xs)→(upd G2 dA (.dK (putK kA2 (Sum.inl (a : Int)) (.ref b)))) c = some (.tup xs):=fun c xs e=>by
     rw [upd_ne (ne_of e (sb _ _ hA2) (fun z=>nomatch z))]
     exact e
    refine ⟨⟨_,_,_,_,_,rfl⟩,fun c o nc e=>by rw [upd_ne nc]; exact sb _ _ (kG c o nc e),_,upd_same,?_⟩
    refine ((((nA2.go fun c xs e=>sb _ _ e).put a1 hbb).go tup).iff fun x hx=>?_)
    constructor
    ·rintro ((h1 | ⟨h1,h2⟩) | rfl)
     ·exact .inl h1
     ·exact .inr ⟨h1,by omega⟩
     ·exact .inr ⟨a2,by omega⟩
    ·rintro (h1 | ⟨h1,h2⟩)
     ·exact .inl (.inl h1)
     ·by_cases e : rk as.length (hoA js as) (tiA as) x = n
      ·exact .inr (rk_inj hx a1 (h1.trans a2.symm) (e.trans a3.symm))
      ·exact .inl (.inr ⟨h1,by omega⟩)
   rintro σ G ⟨⟨v6,v7,v9,v10,v11,rfl⟩,kG,kA2,hA2,nA2⟩
   rw [Int.toNat_natCast,lA] at nA2
   have nA3 : NumD G as.length (hoA js as) (tiA as) (fun a=>hoA js as a∈hs.take (i + 1)) kA2:=nA2.iff fun a ha=>by
    rw [take_snoc eh,List.mem_append,List.mem_singleton]
    constructor
    ·exact fun z=>z.elim .inl fun z=>.inr z.1
    ·refine fun z=>z.elim .inl fun z=>.inr ⟨z,?_⟩
     rw [pmA.length_eq,← z]
     exact rk_lt ha
   have hBG : G pB = some (.lst zs):=kG _ _ (ne_of hB hA (fun z=>nomatch z)) hB
   have hJG : G dJ = some (.dK kJ):=kG _ _ (Ne.symm neAJ) hJ
   have nJG:=nJ.go (H':=G) fun b xs e=>kG _ _ (ne_of e hA (fun z=>nomatch z)) e
   have pJG:=pJ.go (H':=G) fun b xs e=>kG _ _ (ne_of e hA (fun z=>nomatch z)) e
   have sG : Same H G:=fun b o e=>kG b o (ne_of_none e ndA) (sF b o e)
   -- the jobs
   refine ⟨_,rfl,pB,_,rfl,.inl (SqL.of hBG),_,rfl,by omega,by omega,for_range (lo:=0) (n:=((zs.length : Int)).toNat) (fun n σ H'=>(∃ v6 v7 v9 v10 v11 : Option V,σ = [some (.ref t),some (.ref w),some (.ref dA),some (.ref dJ),some (.str h),some (.ref pO),v6,v7,some (.ref pB),v9,v10,v11])∧Kp dJ G H'∧∃ kJ,H' dJ = some (.dK kJ)∧NumD H' js.length (hoJ js) (tiJ js) (fun a=>hoJ js a∈hs.take i∨(hoJ js a = h∧rk js.length (hoJ js) (tiJ js) a < n)) kJ)
    ⟨⟨_,_,_,_,_,rfl⟩,fun b o _ e=>e,kJ,hJG,nJG.iff fun a _=>⟨fun z=>.inl z,fun z=>z.elim (fun z=>z) fun z=>absurd z.2 (Nat.not_lt_zero _)⟩⟩ ?_ ?_⟩
   ·rintro n σ M hn ⟨⟨v6,v7,v9,v10,v11,rfl⟩,kM,kJ2,hJ2,nJ2⟩
    rw [Int.toNat_natCast] at hn
    have hnS : n < SJ.length:=by omega
    have eS : SJ[n]? = some SJ[n]:=List.getElem?_eq_getElem hnS
    generalize SJ[n] = a at eS
    obtain ⟨a1,a2,a3⟩:=sorted_rank pmJ srJ eS
    obtain ⟨tq,etq,htq⟩:=pJG.at (i:=n) (k:=(tiJ js a,a)) (by rw [List.getElem?_map,eS]; rfl)
    have hBM : M pB = some (.lst zs):=kM _ _ (ne_of hBG hJG (fun z=>nomatch z)) hBG
    have htM:=kM _ _ (ne_of htq hJG (fun z=>nomatch z)) htq
    refine ⟨_,rfl,_,rfl,(by show 2≤sizeLine; decide),fun b nb=>?_⟩
    have sb : Same M (upd M b (.tup [.str h,.int (0 + (n : Nat))])):=same_upd nb
    have hbb : (upd M b (.tup [.str h,.int (0 + (n : Nat))])) b = some (.tup [.str (hoJ js a),.int (rk js.length (hoJ js) (tiJ js) a : Nat)]):=by rw [upd_same,a2,a3,Int.zero_add]
    generalize upd M b (.tup [.str h,.int (0 + (n : Nat))]) = M2 at sb hbb ⊢
    have hk2:=nJ2.len
    refine ⟨_,rfl,_,rfl,_,rfl,pB,_,_,.ref tq,rfl,rfl,SqL.of (sb _ _ hBM),at_any (j:=n) (by omega) etq,tq,_,1,_,rfl,rfl,SqT.of (sb _ _ htM),rfl,dJ,_,rfl,DPut.k (k:=Sum.inl (a : Int)) (sb _ _ hJ2) (small_line (by omega)),?_⟩
    have tup : ∀ c xs,M2 c = some (.tup xs)→(upd M2 dJ (.dK (putK kJ2 (Sum.inl (a : Int)) (.ref b)))) c = some (.tup xs):=fun c xs e=>by
     rw [upd_ne (ne_of e (sb _ _ hJ2) (fun z=>nomatch z))]
     exact e
    refine ⟨⟨_,_,_,_,_,rfl⟩,fun c o nc e=>by rw [upd_ne nc]; exact sb _ _ (kM c o nc e),_,upd_same,?_⟩
    refine ((((nJ2.go fun c xs e=>sb _ _ e).put a1 hbb).go tup).iff fun x hx=>?_)
    constructor
    ·rintro ((h1 | ⟨h1,h2⟩) | rfl)
     ·exact .inl h1
     ·exact .inr ⟨h1,by omega⟩
     ·exact .inr ⟨a2,by omega⟩
    ·rintro (h1 | ⟨h1,h2⟩)
     ·exact .inl (.inl h1)
     ·by_cases e : rk js.length (hoJ js) (tiJ js) x = n
      ·exact .inr (rk_inj hx a1 (h1.trans a2.symm) (e.trans a3.symm))
      ·exact .inl (.inr ⟨h1,by omega⟩)
   rintro σ M ⟨⟨v6,v7,v9,v10,v11,rfl⟩,kM,kJ2,hJ2,nJ2⟩
   rw [Int.toNat_natCast,lJ] at nJ2
   refine ⟨⟨_,_,_,_,_,_,_,_,rfl⟩,fun b o e=>kM b o (ne_of_none e ndJ0) (sG b o e),kA2,kJ2,kM _ _ neAJ hA2,hJ2,nA3.go fun b xs e=>kM _ _ (ne_of e hJG (fun z=>nomatch z)) e,nJ2.iff fun a ha=>?_⟩
   rw [take_snoc eh,List.mem_append,List.mem_singleton]
   constructor
   ·exact fun z=>z.elim .inl fun z=>.inr z.1
   ·refine fun z=>z.elim .inl fun z=>.inr ⟨z,?_⟩
    rw [pmJ.length_eq,← z]
    exact rk_lt ha
  ·rintro σ H1 ⟨⟨v4,v5,v6,v7,v8,v9,v10,v11,rfl⟩,s1,kA,kJ,hA,hJ,nA,nJ⟩
   rw [List.length_map,List.take_length] at nA nJ
   refine ⟨_,rfl,_,rfl,(by show 2≤sizeLine; decide),fun p np=>?_⟩
   have sp:=same_upd (o:=.tup [.ref dA,.ref dJ]) np
   exact q p dA dJ kA kJ _ (s1.trans sp) upd_same (sp _ _ hA) (sp _ _ hJ) ndA ndJ0 (nA.go fun b xs e=>sp _ _ e) (nJ.go fun b xs e=>sp _ _ e)
def BasI (b : Int) : Prop:=-1000000000000≤b∧b≤1000000000000 - 4000
theorem merge_each {P : Key × V→Prop} : ∀ {more kvs : List (Key × V)},(∀ x∈kvs,P x)→(∀ x∈more,P x)→∀ x∈mergeK kvs more,P x
 | [],_,h,_,x,m=>h x m
 | p :: r,kvs,h,h2,x,m=>by
  refine merge_each (more:=r) (kvs:=putK kvs p.1 p.2) (fun y my=>?_) (fun y my=>h2 y (List.mem_cons_of_mem _ my)) x m
  rcases put_mem my with ⟨my,_⟩ | rfl
  ·exact h y my
  ·exact h2 p List.mem_cons_self
theorem merge_keys : ∀ {more kvs : List (Key × V)} {k : Key},k∈kvs.map (·.1)∨k∈more.map (·.1)→k∈(mergeK kvs more).map (·.1)
 | [],_,_,h=>h.elim (fun z=>z) fun z=>nomatch z
 | p :: r,kvs,k,h=>by
  refine merge_keys (more:=r) (kvs:=putK kvs p.1 p.2) ?_
  rcases h with h | h
  ·refine .inl ?_
   rw [put_keys]
   exact List.mem_append_left _ h
  ·rcases List.mem_cons.mp h with rfl | h
   ·exact .inl (List.mem_map.mpr ⟨_,put_self kvs p.1 p.2,rfl⟩)
   ·exact .inr h
def BasD (hs : List Str) (bs : Str→Int) (kvs : List (Key × V)) : Prop:=∀ h∈hs,valV kvs (.inr h) = some (.int (bs h))∧BasI (bs h)
def basOf (kvs : List (Key × V)) (h : Str) : Int:=match valV kvs (.inr h) with
 | some (.int n)=>n
 | _=>0
inductive Pkv (H : Hp) : List Addr→List (Key × V)→Prop
 | nil : Pkv H [] []
 | cons {p : Addr} {kv : Key × V} {ps : List Addr} {kvs : List (Key × V)} : H p = some (.tup [kV kv.1,kv.2])→Pkv H ps kvs→Pkv H (p :: ps) (kv :: kvs)
theorem Pkv.go {H H' : Hp} (s : ∀ b xs,H b = some (.tup xs)→H' b = some (.tup xs)) : ∀ {us : List Addr} {ks : List (Key × V)},Pkv H us ks→Pkv H' us ks
 | _,_,.nil=>.nil
 | _,_,.cons h r=>.cons (s _ _ h) (r.go s)
theorem Pkv.snoc {H : Hp} {b : Addr} {k : Key × V} (hb : H b = some (.tup [kV k.1,k.2])) : ∀ {us : List Addr} {ks : List (Key × V)},Pkv H us ks→Pkv H (us ++ [b]) (ks ++ [k])
 | _,_,.nil=>.cons hb .nil
 | _,_,.cons h r=>.cons h (r.snoc hb)
theorem Pkv.len {H : Hp} : ∀ {us : List Addr} {ks : List (Key × V)},Pkv H us ks→us.length = ks.length
 | _,_,.nil=>rfl
 | _,_,.cons _ r=>by rw [List.length_cons,List.length_cons,r.len]
theorem Pkv.pair {H : Hp} : ∀ {us : List Addr} {ks : List (Key × V)},Pkv H us ks→Paired (fun p kv=>SqT K H p [kV kv.1,kv.2]) us ks
 | _,_,.nil=>.nil
 | _,_,.cons h r=>.cons (SqT.of h) r.pair
def sp_bases : Sp:=fun vs H Q _=>∃ (p c t : Addr) (hs gs : List Str) (many : Int),vs = [.ref p,.ref t,.int many]∧Pen H p c∧TownAt H t hs gs∧hs.length≤6∧0 < many∧many≤1000 ∧
 ∀ (d : Addr) (bs : Str→Int) (kvs : List (Key × V)) (H' : Hp),Stp p c H H'→H d = none→H' d = some (.dK kvs)→BasD hs bs kvs→(∃ b0 : Int,∀ h∈hs,b0≤bs h∧bs h < b0 + many)→Q (.ref d) H'
theorem ok_l_bases (T : Txt K mg af fd) : FnOk P w K mg base CX0 3 (af 45) (fd 45) ["pen", "town", "many"] sp_bases:=by
 refine T.F_l_bases.ok sc_l_bases (fun vs H Q E h=>?_) (fun cdv A outer s H vs Q E hr h=>?_)
 ·obtain ⟨p,c,t,hs,gs,many,rfl,_⟩:=h
  rfl
 ·obtain ⟨p,c,t,hs,gs,many,rfl,hP,ht,l6,m0,m1,q⟩:=h
  refine ⟨_,(pss_cons (ps_set (i:=3) sc_l_bases.nd rfl (by first | exact Or.inl rfl | exact Or.inr rfl) (pe_ix ix_list (pe_lst (pa_cons pe_int (pa_cons (pe_un un_neg pe_int) (pa_cons (pe_op op_sub (pe_op op_pow pe_int pe_int) pe_int) (pa_cons (pe_op op_sub pe_int (pe_op op_pow pe_int pe_int)) pa_nil))))) (pe_call (ok_l_take T) (hr.mono (by first | decide | omega)) (by rfl) T.g_l_take T.F_l_take.kp T.b_l_take .nil pass0 (pa_cons (pv 0) (pa_cons pe_int pa_nil))) (fun _ _=>rfl)))
    (pss_one (ps_ret (pe_callTy (call_dictP rfl) (by rfl) T.m_dict (by decide +kernel) (pa_cons (pe_lc (own:=[("house", 4)]) (g:=gName 4) (by rfl) sc_l_bases.nd (pi_tup (pe_ix ix_tup (pv 1) pe_int (fun _ _=>rfl))) (blkOk_by (own:=[("house", 4)]) (N:=["pen", "town", "many", "base", "house"]) (sc:=defScope s_l_bases) (by decide +kernel)) (fun _ _ _ _ _=>pg_name (i:=4) sc_l_bases.nd rfl (Or.inl rfl)) (fun _ _ _ _ _=>pts_nil) (fun _ _ _ _ _=>(pe_tup (pa_cons (pv 4) (pa_cons (pe_op op_add (pv 3) (pe_call (ok_l_take T) (hr.mono (by first | decide | omega)) (by rfl) T.g_l_take T.F_l_take.kp T.b_l_take .nil pass0 (pa_cons (pv 0) (pa_cons (pv 2) pa_nil)))) pa_nil))))) pa_nil))))),?_⟩
  have e12 : (10 : Int) ^ (12 : Int).toNat = 1000000000000:=by decide
  refine ⟨_,rfl,_,_,rfl,rfl,⟨by decide,by decide,by decide⟩,_,_,rfl,rfl,_,_,rfl,rfl,⟨by decide,by decide,by decide⟩,_,_,rfl,rfl,(by show 4≤sizeLine; decide),fun l nl=>?_⟩
  rw [e12]
  have s1:=(Stp.refl hP).new (o:=.lst [.int 0,.int (-7),.int (1000000000000 - 5000),.int (0 - 1000000000000)]) hP nl
  have nlp : l≠p:=fun e=>hP.neP nl e.symm
  refine ⟨_,rfl,p,c,4,rfl,s1.1,by decide,by decide,fun z H2 z0 z1 s2=>?_⟩
  have hl2:=s2.2 l _ nlp upd_same
  obtain ⟨b0,eb,b1,b2⟩ : ∃ b0 : Int,atI [V.int 0,.int (-7),.int (1000000000000 - 5000),.int (0 - 1000000000000)] z = some (.int b0)∧-1000000000000≤b0∧b0≤1000000000000 - 5000:=by
   have hz : z = 0∨z = 1∨z = 2∨z = 3:=by omega
   rcases hz with rfl | rfl | rfl | rfl
   ·exact ⟨_,rfl,by decide,by decide⟩
   ·exact ⟨_,rfl,by decide,by decide⟩
   ·exact ⟨_,rfl,by decide,by decide⟩
   ·exact ⟨_,rfl,by decide,by decide⟩
  refine ⟨l,_,z,_,rfl,rfl,SqL.of hl2,eb,?_⟩
  have s12:=s1.trans s2
  obtain ⟨ta,tb,t1,t2,t3⟩:=s12.town hP ht
  refine ⟨_,rfl,t,_,0,_,rfl,rfl,SqT.of t1,rfl,ta,rfl,⟨_,SqT.of t2⟩,fun D nD=>?_⟩
  have nD0:=s12.back hP nD
  have nDp : D≠p:=fun e=>hP.neP nD0 e.symm
  refine lc_it (walk_tup (K:=K) (a:=ta) (xs:=hs.map V.str)) (fun i H'=>Stp p c H2 H'∧∃ (us : List Addr) (kvs : List (Key × V)),H' D = some (.lst (us.map V.ref))∧Pkv H' us kvs∧kvs.map (·.1) = (hs.take i).map Sum.inr∧∀ kv∈kvs,∃ n : Int,kv.2 = .int n∧BasI n∧b0≤n∧n < b0 + many)
   ⟨(Stp.refl s2.1).new s2.1 nD,[],[],upd_same,.nil,by rw [List.take_zero]; rfl,fun _ m=>nomatch m⟩ (fun i H' _ h=>SqT.of (h.1.tup s2.1 t2)) ?_ ?_
  ·rintro i v G1 G2 hi ⟨g1,us,kvs,hD,pk,ek,hb⟩ ⟨rfl,ev⟩
   rw [List.length_map] at hi
   have eh : hs[i]? = some hs[i]:=List.getElem?_eq_getElem hi
   generalize hs[i] = h at eh
   rw [List.getElem?_map,eh] at ev
   obtain rfl : V.str h = v:=Option.some.inj ev
   refine ⟨rfl,yes_if ⟨_,rfl,_,rfl,_,rfl,_,rfl,p,c,many,rfl,g1.1,m0,Nat.lt_of_le_of_lt (show many.natAbs≤1000 by omega) (by decide),fun r G3 r0 r1 g3=>⟨_,_,rfl,rfl,(by show 2≤sizeLine; decide),fun b nb=>?_⟩⟩⟩
   have g13:=g1.trans g3
   have hD3:=g3.2 D _ nDp hD
   have hDb : (upd G3 b (.tup [.str h,.int (b0 + r)])) D = some (.lst (us.map V.ref)):=by rw [upd_ne (ne_of_none hD3 nb)]; exact hD3
   have l1:=pk.len
   have l2 : kvs.length≤6:=by
    have:=congrArg List.length ek
    rw [List.length_map,List.length_map,List.length_take] at this
    omega
   refine ⟨_,hDb,small_line (by rw [List.length_map]; omega),((g13.new s2.1 nb).mut s2.1 nD),us ++ [b],kvs ++ [(.inr h,.int (b0 + r))],by rw [upd_same,List.map_append]; rfl,?_,?_,fun kv m=>?_⟩
   ·refine (pk.go fun c ys e=>?_).snoc ?_
    ·have e3:=g3.tup g1.1 e
     rw [upd_ne (ne_of e3 hD3 (fun z=>nomatch z)),upd_ne (ne_of_none e3 nb)]
     exact e3
    ·rw [upd_ne (fun z=>by rw [z] at nb; rw [nb] at hD3; cases hD3),upd_same]
     rfl
   ·rw [List.map_append,ek,take_snoc eh,List.map_append]
    rfl
   ·rcases List.mem_append.mp m with m | m
    ·exact hb kv m
    ·rw [List.mem_singleton.mp m]
     exact ⟨_,rfl,by unfold BasI; omega,by omega,by omega⟩
  ·rintro G ⟨g,us,kvs,hD,pk,ek,hb⟩
   rw [List.length_map,List.take_length] at ek
   refine ⟨D,us,kvs,rfl,SqL.of hD,pk.pair,fun d nd=>?_⟩
   have sG:=s12.trans g
   have key : ∀ h∈hs,valV (mergeK [] kvs) (.inr h : Key) = some (.int (basOf (mergeK [] kvs) h))∧BasI (basOf (mergeK [] kvs) h)∧b0≤basOf (mergeK [] kvs) h∧basOf (mergeK [] kvs) h < b0 + many:=fun h mh=>by
    have mk : (.inr h : Key)∈(mergeK [] kvs).map (·.1):=merge_keys (.inr (by rw [ek]; exact List.mem_map.mpr ⟨h,mh,rfl⟩))
    cases e : valV (mergeK [] kvs) (.inr h : Key) with
    | none =>
     obtain ⟨x,mx,ex⟩:=List.mem_map.mp mk
     exact absurd (show ((.inr h : Key),x.2)∈mergeK [] kvs by rw [← ex]; exact mx) (val_none e _)
    | some v =>
     obtain ⟨n,e1,e2⟩:=merge_each (P:=fun kv=>∃ n : Int,kv.2 = .int n∧BasI n∧b0≤n∧n < b0 + many) (kvs:=[]) (fun _ m=>nomatch m) hb _ (val_mem e)
     have e1 : v = .int n:=e1
     subst e1
     have eb : basOf (mergeK [] kvs) h = n:=by
      unfold basOf
      rw [e]
     rw [eb]
     exact ⟨rfl,e2⟩
   exact q d (basOf (mergeK [] kvs)) _ _ (sG.new hP nd) (sG.back hP nd) upd_same (fun h mh=>⟨(key h mh).1,(key h mh).2.1⟩) ⟨b0,fun h mh=>(key h mh).2.2⟩
def rkJ (js : List WJ) (i : Nat) : Nat:=rk js.length (hoJ js) (tiJ js) i
def rkA (js : List WJ) (as : List WA) (i : Nat) : Nat:=rk as.length (hoA js as) (tiA as) i
def jobRow (js : List WJ) (bs : Str→Int) (i : Nat) : Row:=match js[i]? with
 | some j=>.job j.h (rkJ js i : Nat) (bs j.h + j.b) (bs j.h + j.e)
 | none=>.all "" 0 0
def askRow (js : List WJ) (as : List WA) (bs : Str→Int) (i : Nat) : Row:=match as[i]? with
 | some x=>.ask (hoA js as i) x.g (rkA js as i : Nat) (rkJ js x.pl : Nat) (bs (hoA js as i) + x.o) (bs (hoA js as i) + x.k)
 | none=>.all "" 0 0
def allRow (js : List WJ) (as : List WA) (h : Str) : Row:=.all h ((itemsOf as.length (hoA js as) h).length : Nat) ((itemsOf js.length (hoJ js) h).length : Nat)
def wRows (hs : List Str) (js : List WJ) (as : List WA) (bs : Str→Int) : List Row:=((List.range js.length).map (jobRow js bs) ++ (List.range as.length).map (askRow js as bs)) ++ hs.map (allRow js as)
theorem Rws.go {H H' : Hp} {xs : List V} {rs : List Row} (h : Rws H xs rs) (s : ∀ b ys,H b = some (.tup ys)→H' b = some (.tup ys)) : Rws H' xs rs:=⟨h.1,fun i r e=>let ⟨a,e1,e2⟩:=h.2 i r e; ⟨a,e1,s _ _ e2⟩⟩
theorem Rws.snoc {H : Hp} {xs : List V} {rs : List Row} {b : Addr} {r : Row} (h : Rws H xs rs) (hb : RowAt H b r) : Rws H (xs ++ [.ref b]) (rs ++ [r]):=by
 refine ⟨by rw [List.length_append,List.length_append,h.1]; rfl,fun i t e=>?_⟩
 by_cases hi : i < rs.length
 ·rw [List.getElem?_append_left hi] at e
  obtain ⟨a,e1,e2⟩:=h.2 i t e
  exact ⟨a,by rw [List.getElem?_append_left (by rw [h.1]; exact hi)]; exact e1,e2⟩
 ·have hl:=(List.getElem?_eq_some_iff.mp e).1
  rw [List.length_append,List.length_singleton] at hl
  have ei : i = rs.length:=by omega
  subst ei
  rw [List.getElem?_append_right (Nat.le_refl _),Nat.sub_self] at e
  obtain rfl:=Option.some.inj e
  exact ⟨b,by rw [List.getElem?_append_right (by rw [h.1]; exact Nat.le_refl _),h.1,Nat.sub_self]; rfl,hb⟩
def keyN (k : Key) : Nat:=match k with
 | .inl z=>z.toNat
 | _=>0
theorem num_count {H : Hp} {N : Nat} {ho : Nat→Str} {ti : Nat→Int} {done : Nat→Prop} {kvs : List (Key × V)} (d : NumD H N ho ti done kvs) (hd : ∀ a,a < N→done a) (h : Str) : (kvs.filter fun kv=>decide (ho (keyN kv.1) = h)).length = (itemsOf N ho h).length:=by
 have hk : ∀ kv∈kvs,∃ a,kv.1 = .inl ((a : Nat) : Int)∧a < N:=fun kv m=>let ⟨a,_,e1,e2,_⟩:=d.own kv m; ⟨a,e1,e2⟩
 have nd : ((kvs.filter fun kv=>decide (ho (keyN kv.1) = h)).map fun kv=>keyN kv.1).Nodup:=by
  have n1 : ((kvs.filter fun kv=>decide (ho (keyN kv.1) = h)).map (·.1)).Nodup:=d.nd.sublist (List.filter_sublist.map _)
  rw [List.nodup_iff_pairwise_ne,List.pairwise_map] at n1 ⊢
  refine List.Pairwise.imp_of_mem (fun {x y} mx my ne z=>ne ?_) n1
  obtain ⟨a,ea,_⟩:=hk x (List.mem_filter.mp mx).1
  obtain ⟨b,eb,_⟩:=hk y (List.mem_filter.mp my).1
  rw [ea,eb] at z ⊢
  have z : a = b:=z
  rw [z]
 refine Nat.le_antisymm ?_ ?_
 ·have:=nodup_len nd (ys:=itemsOf N ho h) fun a m=>by
   obtain ⟨kv,mk,rfl⟩:=List.mem_map.mp m
   obtain ⟨m1,m2⟩:=List.mem_filter.mp mk
   obtain ⟨a,ea,la⟩:=hk kv m1
   have e : keyN kv.1 = a:=by rw [ea]; rfl
   rw [e] at m2 ⊢
   exact mem_items.mpr ⟨la,of_decide_eq_true m2⟩
  rw [List.length_map] at this
  exact this
 ·have n2 : (itemsOf N ho h).Nodup:=List.nodup_range.sublist List.filter_sublist
  have:=nodup_len n2 (ys:=(kvs.filter fun kv=>decide (ho (keyN kv.1) = h)).map fun kv=>keyN kv.1) fun a m=>by
   obtain ⟨la,ea⟩:=mem_items.mp m
   obtain ⟨v,mv⟩:=d.all a la (hd a la)
   exact List.mem_map.mpr ⟨_,List.mem_filter.mpr ⟨mv,decide_eq_true ea⟩,rfl⟩
  rw [List.length_map] at this
  exact this
def sp_all_rows : Sp:=fun vs H Q _=>∃ (t w d lj la : Addr) (hs gs : List Str) (rs qs : List Addr) (js : List WJ) (as : List WA) (most : Int) (bs : Str→Int) (kB : List (Key × V)),vs = [.ref t,.ref w,.ref d]∧TownAt H t hs gs∧WorldAt H w lj la rs qs js as most∧WOk hs js as∧js.length≤100∧hs.length≤6∧H d = some (.dK kB)∧BasD hs bs kB ∧
 ∀ (l : Addr) (us : List V) (H' : Hp),Same H H'→H l = none→H' l = some (.lst us)→Rws H' us (wRows hs js as bs)→Q (.ref l) H'
theorem snoc_step {l b : Addr} {H G : Hp} {us : List V} {rs : List Row} {r : Row} (g : Same H G) (nl : H l = none) (hl : G l = some (.lst us)) (hr : Rws G us rs) (hb : RowAt G b r) : Same H (upd G l (.lst (us ++ [.ref b])))∧(upd G l (.lst (us ++ [.ref b]))) l = some (.lst (us ++ [.ref b]))∧Rws (upd G l (.lst (us ++ [.ref b]))) (us ++ [.ref b]) (rs ++ [r]) :=
 ⟨same_mut g nl,upd_same,(hr.snoc hb).go fun c ys e=>by rw [upd_ne (ne_of e hl (fun z=>nomatch z))]; exact e⟩
theorem wok_ho {hs : List Str} {js : List WJ} {as : List WA} (h : WOk hs js as) : (∀ a,a < js.length→hoJ js a∈hs)∧∀ a,a < as.length→hoA js as a∈hs:=by
 have h1 : ∀ a,a < js.length→hoJ js a∈hs:=fun a ha=>by
  unfold hoJ
  rw [List.getElem?_eq_getElem ha]
  exact (h.jb _ (List.getElem_mem ha)).1
 refine ⟨h1,fun a ha=>?_⟩
 unfold hoA
 rw [List.getElem?_eq_getElem ha]
 obtain ⟨j,ej,_⟩:=(h.ab _ (List.getElem_mem ha)).par
 exact h1 _ (List.getElem?_eq_some_iff.mp ej).1
theorem rws_nil {H : Hp} : Rws H [] []:=⟨rfl,fun i r e=>by rw [List.getElem?_nil] at e; cases e⟩
theorem range_snoc {A : Type} (f : Nat→A) (k : Nat) : (List.range (k + 1)).map f = (List.range k).map f ++ [f k]:=by
 rw [List.range_succ,List.map_append]
 rfl
def Slots (t w d dA dJ l : Addr) (σ : L2.St) : Prop:=∃ v6 v7 v8 v9 v10 v11 v12 v13 v14 v15 v16 : Option V,σ = [some (.ref t),some (.ref w),some (.ref d),some (.ref dA),some (.ref dJ),some (.ref l),v6,v7,v8,v9,v10,v11,v12,v13,v14,v15,v16]
theorem frz_get {H : Hp} {a : Addr} {od : Obj} {kvs : List (Key × V)} {k : Key} (h : H a = some (.frz od (.dK kvs))) : DGet H a (kV k) (valV kvs k):=.inl ⟨kvs,k,.inr ⟨od,h⟩,rfl,rfl⟩
set_option maxHeartbeats 16000000 in
theorem ok_l_all_rows (T : Txt K mg af fd) : FnOk P w K mg base CX0 2 (af 46) (fd 46) ["town", "world", "bases"] sp_all_rows:=by
 refine T.F_l_all_rows.ok sc_l_all_rows (fun vs H Q E h=>?_) (fun cdv A outer s H vs Q E hr h=>?_)
 ·obtain ⟨t,w,d,lj,la,hs,gs,rs,qs,js,as,most,bs,kB,rfl,_⟩:=h
  rfl
 ·obtain ⟨t,w,d,lj,la,hs,gs,rs,qs,js,as,most,bs,kB,rfl,ht,W,wok,lenj,h6,hd,hbd,q⟩:=h
  refine ⟨_,(pss_cons (ps_asg (pe_call (ok_l_called T) (hr.mono (by first | decide | omega)) (by rfl) T.g_l_called T.F_l_called.kp T.b_l_called .nil pass0 (pa_cons (pv 0) (pa_cons (pv 1) pa_nil))) (pg_tup rfl (pgs_cons (pg_name (i:=3) sc_l_all_rows.nd rfl (by first | exact Or.inl rfl | exact Or.inr rfl)) (pgs_cons (pg_name (i:=4) sc_l_all_rows.nd rfl (by first | exact Or.inl rfl | exact Or.inr rfl)) pgs_nil))))
    (pss_cons (ps_set (i:=5) sc_l_all_rows.nd rfl (by first | exact Or.inl rfl | exact Or.inr rfl) (pe_lst pa_nil))
    (pss_cons (ps_for PassesOwn.never rfl (pi_enum (by rfl) T.m_enumerate (pa_cons (pe_ix ix_list (pv 1) pe_int (fun _ _=>rfl)) pa_nil)) (pg_tup rfl (pgs_cons (pg_name (i:=6) sc_l_all_rows.nd rfl (by first | exact Or.inl rfl | exact Or.inr rfl)) (pgs_cons (pg_unl rfl (pgs_cons (pg_name (i:=7) sc_l_all_rows.nd rfl (by first | exact Or.inl rfl | exact Or.inr rfl)) (pgs_cons (pg_name (i:=8) sc_l_all_rows.nd rfl (by first | exact Or.inl rfl | exact Or.inr rfl)) (pgs_cons (pg_name (i:=9) sc_l_all_rows.nd rfl (by first | exact Or.inl rfl | exact Or.inr rfl)) pgs_nil)))) pgs_nil))) (pss_one (ps_expr (pe_bm PySem.F.plainAttrs_list PySem.F.slot_list_append PySem.F.type_list_append mt_append (pv 5) (pa_cons (pe_op op_catT (pe_op op_catT (pe_tup (pa_cons pe_str pa_nil)) (pe_dget (hu_of hr) (pv 4) (pv 6) (fun _ _=>rfl))) (pe_tup (pa_cons (pe_op op_add (pe_dget (hu_of hr) (pv 2) (pv 7) (fun _ _=>rfl)) (pv 8)) (pa_cons (pe_op op_add (pe_dget (hu_of hr) (pv 2) (pv 7) (fun _ _=>rfl)) (pv 9)) pa_nil)))) pa_nil)))))
    (pss_cons (ps_for PassesOwn.never rfl (pi_enum (by rfl) T.m_enumerate (pa_cons (pe_ix ix_list (pv 1) pe_int (fun _ _=>rfl)) pa_nil)) (pg_tup rfl (pgs_cons (pg_name (i:=10) sc_l_all_rows.nd rfl (by first | exact Or.inl rfl | exact Or.inr rfl)) (pgs_cons (pg_unl rfl (pgs_cons (pg_name (i:=6) sc_l_all_rows.nd rfl (by first | exact Or.inl rfl | exact Or.inr rfl)) (pgs_cons (pg_name (i:=11) sc_l_all_rows.nd rfl (by first | exact Or.inl rfl | exact Or.inr rfl)) (pgs_cons (pg_name (i:=12) sc_l_all_rows.nd rfl (by first | exact Or.inl rfl | exact Or.inr rfl)) (pgs_cons (pg_name (i:=13) sc_l_all_rows.nd rfl (by first | exact Or.inl rfl | exact Or.inr rfl)) (pgs_cons (pg_name (i:=14) sc_l_all_rows.nd rfl (by first | exact Or.inl rfl | exact Or.inr rfl)) pgs_nil)))))) pgs_nil))) (pss_cons (ps_asg (pe_dget (hu_of hr) (pv 3) (pv 10) (fun _ _=>rfl)) (pg_tup rfl (pgs_cons (pg_name (i:=7) sc_l_all_rows.nd rfl (by first | exact Or.inl rfl | exact Or.inr rfl)) (pgs_cons (pg_name (i:=15) sc_l_all_rows.nd rfl (by first | exact Or.inl rfl | exact Or.inr rfl)) pgs_nil))))
    (pss_one (ps_expr (pe_bm PySem.F.plainAttrs_list PySem.F.slot_list_append PySem.F.type_list_append mt_append (pv 5) (pa_cons (pe_tup (pa_cons pe_str (pa_cons (pv 7) (pa_cons (pv 15) (pa_cons (pe_ix ix_tup (pe_dget (hu_of hr) (pv 4) (pv 6) (fun _ _=>rfl)) pe_int (fun _ _=>rfl)) (pa_cons (pv 11) (pa_cons (pe_op op_add (pe_dget (hu_of hr) (pv 2) (pv 7) (fun _ _=>rfl)) (pv 12)) (pa_cons (pe_op op_add (pe_dget (hu_of hr) (pv 2) (pv 7) (fun _ _=>rfl)) (pv 13)) pa_nil)))))))) pa_nil))))))
    (pss_cons (ps_for PassesOwn.never rfl (pi_tup (pe_ix ix_tup (pv 0) pe_int (fun _ _=>rfl))) (pg_name (i:=7) sc_l_all_rows.nd rfl (by first | exact Or.inl rfl | exact Or.inr rfl)) (pss_cons (ps_set (i:=16) sc_l_all_rows.nd rfl (by first | exact Or.inl rfl | exact Or.inr rfl) (pe_callB call_len_seq (by rfl) T.m_len (by decide +kernel) (pa_cons (pe_lock (pe_lc (own:=[("at", 10)]) (g:=gName 10) (by rfl) sc_l_all_rows.nd (pi_keys (pv 3)) (blkOk_by (own:=[("at", 10)]) (N:=["town", "world", "bases", "asks", "jobs", "rows", "place", "house", "begin", "end", "at", "goal", "out", "back", "child", "number", "many"]) (sc:=defScope s_l_all_rows) (by decide +kernel)) (fun _ _ _ _ _=>pg_name (i:=10) sc_l_all_rows.nd rfl (Or.inl rfl)) (fun _ _ _ _ _=>(pts_one (pt_cmpR op_eq (pe_ix (show IxR _ (rIxT K) from ix_tup) (pe_dget (hu_of hr) (pv 3) (pv 10) (fun _ _=>rfl)) pe_int (fun _ _=>rfl)) (pv 7) (nomark _)))) (fun _ _ _ _ _=>(pv 10)))) pa_nil)))
    (pss_one (ps_expr (pe_bm PySem.F.plainAttrs_list PySem.F.slot_list_append PySem.F.type_list_append mt_append (pv 5) (pa_cons (pe_tup (pa_cons pe_str (pa_cons (pv 7) (pa_cons (pv 16) (pa_cons (pe_callB call_len_seq (by rfl) T.m_len (by decide +kernel) (pa_cons (pe_lock (pe_lc (own:=[("place", 6)]) (g:=gName 6) (by rfl) sc_l_all_rows.nd (pi_keys (pv 4)) (blkOk_by (own:=[("place", 6)]) (N:=["town", "world", "bases", "asks", "jobs", "rows", "place", "house", "begin", "end", "at", "goal", "out", "back", "child", "number", "many"]) (sc:=defScope s_l_all_rows) (by decide +kernel)) (fun _ _ _ _ _=>pg_name (i:=6) sc_l_all_rows.nd rfl (Or.inl rfl)) (fun _ _ _ _ _=>(pts_one (pt_cmpR op_eq (pe_ix (show IxR _ (rIxT K) from ix_tup) (pe_dget (hu_of hr) (pv 4) (pv 6) (fun _ _=>rfl)) pe_int (fun _ _=>rfl)) (pv 7) (nomark _)))) (fun _ _ _ _ _=>(pv 6)))) pa_nil)) pa_nil))))) pa_nil))))))
    (pss_one (ps_ret (pv 5)))))))),?_⟩
  have lena : as.length≤100:=Nat.le_trans wok.len lenj
  obtain ⟨hoj,hoa⟩:=wok_ho wok
  refine ⟨_,rfl,_,rfl,t,w,lj,la,hs,gs,rs,qs,js,as,most,rfl,ht,W,by omega,by omega,fun p dA dJ kA kJ H1 s1 hp hA hJ ndA ndJ nA nJ=>?_⟩
  refine ⟨p,_,rfl,SqT.of hp,rfl,_,_,rfl,_,_,rfl,rfl,?_⟩
  refine ⟨Nat.zero_le _,fun l nl1=>?_⟩
  have nl : H l = none:=s1.free nl1
  have s2 : Same H1 (upd H1 l (.lst [])):=same_upd nl1
  have hl2 : (upd H1 l (.lst [])) l = some (.lst []):=upd_same
  generalize upd H1 l (.lst []) = H2 at s2 hl2 ⊢
  have W1:=W.same s1
  have hd1:=s1 _ _ hd
  have ht1:=ht.same' s1
  -- jobs
  refine ⟨_,rfl,w,_,0,_,rfl,rfl,SqL.of (s2 _ _ W1.w),rfl,lj,rs.map V.ref,rfl,SqL.of (s2 _ _ W1.j),?_⟩
  refine for_it (walk_enum (K:=K) (a:=lj) (xs:=rs.map V.ref)) (fun k σ H'=>Slots t w d dA dJ l σ∧Same H1 H'∧∃ us,H' l = some (.lst us)∧Rws H' us ((List.range k).map (jobRow js bs)))
   ⟨⟨none,none,none,none,none,none,none,none,none,none,none,rfl⟩,s2,[],hl2,rws_nil⟩ (fun k σ H' _ h=>SqL.of (h.2.1 _ _ W1.j)) ?_ ?_
  ·rintro k v σ G1 G2 hk ⟨⟨v6,v7,v8,v9,v10,v11,v12,v13,v14,v15,v16,rfl⟩,g1,us,hl,hrw⟩ ⟨Tp,x1,x2,rfl,nT,rfl,e1,e2⟩
   obtain rfl : V.int (k : Nat) = x1:=Option.some.inj e1
   have e2 : (rs.map V.ref)[k]? = some x2:=e2
   rw [List.getElem?_map] at e2
   obtain ⟨r,hr1,rfl⟩:=Option.map_eq_some_iff.mp e2
   have hkj : k < js.length:=by rw [← W.cj.1]; exact (List.getElem?_eq_some_iff.mp hr1).1
   have hx : js[k]? = some js[k]:=List.getElem?_eq_getElem hkj
   generalize js[k] = j at hx
   have sT : Same G1 (upd G1 Tp (.tup [.int (k : Nat),.ref r])):=same_upd nT
   have g3:=g1.trans sT
   have hl3:=sT _ _ hl
   have hrw3:=hrw.go (H':=upd G1 Tp (.tup [.int (k : Nat),.ref r])) fun b ys e=>sT _ _ e
   have hT : (upd G1 Tp (.tup [.int (k : Nat),.ref r])) Tp = some (.tup [.int (k : Nat),.ref r]):=upd_same
   generalize upd G1 Tp (.tup [.int (k : Nat),.ref r]) = G3 at sT g3 hl3 hrw3 hT ⊢
   have hr3:=(W1.same g3).cj.2 k r j hr1 hx
   have eho : hoJ js k = j.h:=by unfold hoJ; rw [hx]
   have hjh : j.h∈hs:=by rw [← eho]; exact hoj k hkj
   obtain ⟨b,eb,hb⟩:=nJ.at hkj (hoj k hkj)
   rw [eho] at hb
   obtain ⟨bv1,bv2⟩:=hbd j.h hjh
   refine ⟨Tp,_,rfl,SqT.of hT,rfl,_,_,rfl,_,_,rfl,r,_,rfl,SqL.of hr3,rfl,_,_,rfl,_,_,rfl,_,_,rfl,rfl,rfl,?_⟩
   refine ⟨_,rfl,.inl ⟨rfl,_,SqL.of hl3⟩,(by show 1≤sizeLine; decide),fun c1 n1=>?_⟩
   have u1 : Same G3 (upd G3 c1 (.tup [.str "job"])):=same_upd n1
   have hc1 : (upd G3 c1 (.tup [.str "job"])) c1 = some (.tup [.str "job"]):=upd_same
   generalize upd G3 c1 (.tup [.str "job"]) = G4 at u1 hc1 ⊢
   have g4:=g3.trans u1
   refine ⟨_,rfl,_,rfl,dJ,_,rfl,(by rw [← eb]; exact DGet.k (k:=Sum.inl (k : Int)) (g4 _ _ hJ)),c1,b,_,_,rfl,rfl,SqT.of hc1,SqT.of (g4 _ _ hb),(fun z=>nomatch z),(by show 3≤sizeLine; decide),(fun z=>nomatch z),fun _ c2 n2=>?_⟩
   have u2 : Same G4 (upd G4 c2 (.tup ([.str "job"] ++ [.str j.h,.int (rk js.length (hoJ js) (tiJ js) k : Nat)]))):=same_upd n2
   have hc2 : (upd G4 c2 (.tup ([.str "job"] ++ [.str j.h,.int (rk js.length (hoJ js) (tiJ js) k : Nat)]))) c2 = some (.tup ([.str "job"] ++ [.str j.h,.int (rk js.length (hoJ js) (tiJ js) k : Nat)])):=upd_same
   generalize upd G4 c2 (.tup ([.str "job"] ++ [.str j.h,.int (rk js.length (hoJ js) (tiJ js) k : Nat)])) = G5 at u2 hc2 ⊢
   have g5:=g4.trans u2
   have dg:=DGet.k (k:=Sum.inr j.h) (g5 _ _ hd1)
   rw [bv1] at dg
   refine ⟨_,rfl,_,rfl,d,_,rfl,dg,_,rfl,_,_,rfl,rfl,_,rfl,_,rfl,d,_,rfl,dg,_,rfl,_,_,rfl,rfl,(by show 2≤sizeLine; decide),fun c3 n3=>?_⟩
   have u3 : Same G5 (upd G5 c3 (.tup [.int (bs j.h + j.b),.int (bs j.h + j.e)])):=same_upd n3
   have hc3 : (upd G5 c3 (.tup [.int (bs j.h + j.b),.int (bs j.h + j.e)])) c3 = some (.tup [.int (bs j.h + j.b),.int (bs j.h + j.e)]):=upd_same
   generalize upd G5 c3 (.tup [.int (bs j.h + j.b),.int (bs j.h + j.e)]) = G6 at u3 hc3 ⊢
   refine ⟨c2,c3,_,_,rfl,rfl,SqT.of (u3 _ _ hc2),SqT.of hc3,(fun z=>nomatch z),(by show 5≤sizeLine; decide),(fun z=>nomatch z),fun _ c4 n4=>?_⟩
   have u4 : Same G6 (upd G6 c4 (.tup (([.str "job"] ++ [.str j.h,.int (rk js.length (hoJ js) (tiJ js) k : Nat)]) ++ [.int (bs j.h + j.b),.int (bs j.h + j.e)]))):=same_upd n4
   have hc4 : (upd G6 c4 (.tup (([.str "job"] ++ [.str j.h,.int (rk js.length (hoJ js) (tiJ js) k : Nat)]) ++ [.int (bs j.h + j.b),.int (bs j.h + j.e)]))) c4 = _:=upd_same
   generalize upd G6 c4 (.tup (([.str "job"] ++ [.str j.h,.int (rk js.length (hoJ js) (tiJ js) k : Nat)]) ++ [.int (bs j.h + j.b),.int (bs j.h + j.e)])) = G7 at u4 hc4 ⊢
   have v:=((u1.trans u2).trans u3).trans u4
   have rw4 : RowAt G7 c4 (jobRow js bs k):=by
    show G7 c4 = some (.tup (jobRow js bs k).vals)
    rw [hc4]
    unfold jobRow
    rw [hx]
    rfl
   obtain ⟨z1,z2,z3⟩:=snoc_step (g3.trans v) nl1 (v _ _ hl3) (hrw3.go fun c ys e=>v _ _ e) rw4
   have ll:=hrw3.1
   rw [List.length_map,List.length_range] at ll
   refine ⟨l,_,_,rfl,rfl,v _ _ hl3,small_line (by omega),⟨_,_,_,_,_,_,_,_,_,_,_,rfl⟩,z1,_,z2,?_⟩
   rw [range_snoc]
   exact z3
  rintro σ G1 ⟨⟨v6,v7,v8,v9,v10,v11,v12,v13,v14,v15,v16,rfl⟩,g1,us1,hl1,hrw1⟩
  rw [List.length_map,W.cj.1] at hrw1
  -- asks
  refine ⟨_,rfl,w,_,1,_,rfl,rfl,SqL.of (g1 _ _ W1.w),rfl,la,qs.map V.ref,rfl,SqL.of (g1 _ _ W1.a),?_⟩
  refine for_it (walk_enum (K:=K) (a:=la) (xs:=qs.map V.ref)) (fun k σ H'=>Slots t w d dA dJ l σ∧Same H1 H'∧∃ us,H' l = some (.lst us)∧Rws H' us ((List.range js.length).map (jobRow js bs) ++ (List.range k).map (askRow js as bs)))
   ⟨⟨_,_,_,_,_,_,_,_,_,_,_,rfl⟩,g1,us1,hl1,by rw [List.range_zero,List.map_nil,List.append_nil]; exact hrw1⟩ (fun k σ H' _ h=>SqL.of (h.2.1 _ _ W1.a)) ?_ ?_
  ·rintro k v σ G1 G2 hk ⟨⟨v6,v7,v8,v9,v10,v11,v12,v13,v14,v15,v16,rfl⟩,g1,us,hl,hrw⟩ ⟨Tp,x1,x2,rfl,nT,rfl,e1,e2⟩
   obtain rfl : V.int (k : Nat) = x1:=Option.some.inj e1
   have e2 : (qs.map V.ref)[k]? = some x2:=e2
   rw [List.getElem?_map] at e2
   obtain ⟨r,hr1,rfl⟩:=Option.map_eq_some_iff.mp e2
   have hka : k < as.length:=by rw [← W.ca.1]; exact (List.getElem?_eq_some_iff.mp hr1).1
   have hx : as[k]? = some as[k]:=List.getElem?_eq_getElem hka
   generalize as[k] = x at hx
   have sT : Same G1 (upd G1 Tp (.tup [.int (k : Nat),.ref r])):=same_upd nT
   have g3:=g1.trans sT
   have hl3:=sT _ _ hl
   have hrw3:=hrw.go (H':=upd G1 Tp (.tup [.int (k : Nat),.ref r])) fun b ys e=>sT _ _ e
   have hT : (upd G1 Tp (.tup [.int (k : Nat),.ref r])) Tp = some (.tup [.int (k : Nat),.ref r]):=upd_same
   generalize upd G1 Tp (.tup [.int (k : Nat),.ref r]) = G3 at sT g3 hl3 hrw3 hT ⊢
   have hr3:=(W1.same g3).ca.2 k r x hr1 hx
   have hpl:=W.pl x (List.mem_of_getElem? hx)
   obtain ⟨bj,ebj,hbj⟩:=nJ.at hpl (hoj x.pl hpl)
   obtain ⟨b,eb,hb⟩:=nA.at hka (hoa k hka)
   obtain ⟨bv1,bv2⟩:=hbd (hoA js as k) (hoa k hka)
   generalize eho : hoA js as k = ho at hb bv1
   refine ⟨Tp,_,rfl,SqT.of hT,rfl,_,_,rfl,_,_,rfl,r,_,rfl,SqL.of hr3,rfl,_,_,rfl,_,_,rfl,_,_,rfl,_,_,rfl,_,_,rfl,rfl,rfl,?_⟩
   refine ⟨_,rfl,_,rfl,dA,_,rfl,(by rw [← eb]; exact DGet.k (k:=Sum.inl (k : Int)) (g3 _ _ hA)),b,_,rfl,SqT.of (g3 _ _ hb),rfl,_,_,rfl,_,_,rfl,rfl,?_⟩
   have dg:=DGet.k (k:=Sum.inr ho) (g3 _ _ hd1)
   rw [bv1] at dg
   refine ⟨_,rfl,.inl ⟨rfl,_,SqL.of hl3⟩,_,rfl,_,rfl,_,rfl,_,rfl,dJ,_,rfl,(by rw [← ebj]; exact DGet.k (k:=Sum.inl (x.pl : Int)) (g3 _ _ hJ)),bj,_,1,_,rfl,rfl,SqT.of (g3 _ _ hbj),rfl,_,rfl,_,rfl,_,rfl,d,_,rfl,dg,_,rfl,_,_,rfl,rfl,_,rfl,_,rfl,d,_,rfl,dg,_,rfl,_,_,rfl,rfl,(by show 7≤sizeLine; decide),fun c4 n4=>?_⟩
   have u4 : Same G3 (upd G3 c4 (.tup [.str "ask", .str ho,.int (rk as.length (hoA js as) (tiA as) k : Nat),.int (rk js.length (hoJ js) (tiJ js) x.pl : Nat),.str x.g,.int (bs ho + x.o),.int (bs ho + x.k)])):=same_upd n4
   have hc4 : (upd G3 c4 (.tup [.str "ask", .str ho,.int (rk as.length (hoA js as) (tiA as) k : Nat),.int (rk js.length (hoJ js) (tiJ js) x.pl : Nat),.str x.g,.int (bs ho + x.o),.int (bs ho + x.k)])) c4 = _:=upd_same
   generalize upd G3 c4 (.tup [.str "ask", .str ho,.int (rk as.length (hoA js as) (tiA as) k : Nat),.int (rk js.length (hoJ js) (tiJ js) x.pl : Nat),.str x.g,.int (bs ho + x.o),.int (bs ho + x.k)]) = G7 at u4 hc4 ⊢
   have rw4 : RowAt G7 c4 (askRow js as bs k):=by
    show G7 c4 = some (.tup (askRow js as bs k).vals)
    rw [hc4]
    unfold askRow
    rw [hx,eho]
    rfl
   obtain ⟨z1,z2,z3⟩:=snoc_step (g3.trans u4) nl1 (u4 _ _ hl3) (hrw3.go fun c ys e=>u4 _ _ e) rw4
   have ll:=hrw3.1
   rw [List.length_append,List.length_map,List.length_range,List.length_map,List.length_range] at ll
   refine ⟨l,_,_,rfl,rfl,u4 _ _ hl3,small_line (by omega),⟨_,_,_,_,_,_,_,_,_,_,_,rfl⟩,z1,_,z2,?_⟩
   rw [range_snoc,← List.append_assoc]
   exact z3
  rintro σ G2 ⟨⟨v6,v7,v8,v9,v10,v11,v12,v13,v14,v15,v16,rfl⟩,g2,us2,hl2',hrw2⟩
  rw [List.length_map,W.ca.1] at hrw2
  -- the counts
  obtain ⟨ta,tb,t1,t2,t3⟩:=id ht1
  refine ⟨_,rfl,t,_,0,_,rfl,rfl,SqT.of (g2 _ _ t1),rfl,ta,rfl,⟨_,SqT.of (g2 _ _ t2)⟩,?_⟩
  refine for_it (walk_tup (K:=K) (a:=ta) (xs:=hs.map V.str)) (fun k σ H'=>Slots t w d dA dJ l σ∧Same H1 H'∧∃ us,H' l = some (.lst us)∧Rws H' us (((List.range js.length).map (jobRow js bs) ++ (List.range as.length).map (askRow js as bs)) ++ (hs.take k).map (allRow js as)))
   ⟨⟨_,_,_,_,_,_,_,_,_,_,_,rfl⟩,g2,us2,hl2',by rw [List.take_zero,List.map_nil,List.append_nil]; exact hrw2⟩ (fun k σ H' _ h=>SqT.of (h.2.1 _ _ t2)) ?_ ?_
  ·rintro k v σ G1 G2 hk ⟨⟨v6,v7,v8,v9,v10,v11,v12,v13,v14,v15,v16,rfl⟩,g1,us,hl,hrw⟩ ⟨rfl,ev⟩
   rw [List.length_map] at hk
   have eh : hs[k]? = some hs[k]:=List.getElem?_eq_getElem hk
   generalize hs[k] = h at eh
   rw [List.getElem?_map,eh] at ev
   obtain rfl : V.str h = v:=Option.some.inj ev
   refine ⟨dA,_,g1 _ _ hA,trivial,fun od=>?_⟩
   have fz0 : ∀ b o,b≠dA→G2 b = some o→(upd G2 dA (.frz od (.dK kA))) b = some o:=fun b o nb e=>by rw [upd_ne nb]; exact e
   have fz1 : (upd G2 dA (.frz od (.dK kA))) dA = some (.frz od (.dK kA)):=upd_same
   generalize upd G2 dA (.frz od (.dK kA)) = Z at fz0 fz1 ⊢
   refine ⟨_,rfl,dA,od,rfl,.inl ⟨kA,fz1,fun D nD=>?_⟩⟩
   have nDd : D≠dA:=fun e=>by rw [e,fz1] at nD; cases nD
   have nDG : G2 D = none:=by
    cases e : G2 D with
    | none=>rfl
    | some o =>
     rw [fz0 D o nDd e] at nD
     cases nD
   refine lc_it (walk_keys (d:=dA) (o:=od) (kvs:=kA)) (fun i H'=>(∀ b o,b≠dA→G2 b = some o→H' b = some o)∧H' dA = some (.frz od (.dK kA))∧∃ vs : List V,H' D = some (.lst vs)∧vs.length = ((kA.take i).filter fun kv=>decide ((hoA js as) (keyN kv.1) = h)).length)
    ⟨fun b o nb e=>by rw [upd_ne (ne_of_none e nDG)]; exact fz0 b o nb e,by rw [upd_ne (Ne.symm nDd)]; exact fz1,[],upd_same,by rw [List.take_zero]; rfl⟩ (fun i H' _ h=>h.2.1) ?_ ?_
   ·rintro i v F1 F2 hi ⟨fr,hfz,vs,hD,hlv⟩ ⟨rfl,kk,v0,ek,rfl⟩
    obtain ⟨a,b0,ea,la,_,_,_⟩:=nA.own _ (List.mem_of_getElem? ek)
    have ea : kk = .inl (a : Int):=ea
    subst ea
    obtain ⟨b,eb,hb⟩:=nA.at la (hoa a la)
    have hbF : F2 b = some (.tup [.str ((hoA js as) a),.int (rk as.length (hoA js as) (tiA as) a : Nat)]):=fr _ _ (ne_of hb hA (fun z=>nomatch z)) (g1 _ _ hb)
    have lk:=nA.len
    have lf : ((kA.take i).filter fun kv=>decide ((hoA js as) (keyN kv.1) = h)).length≤kA.length:=Nat.le_trans (List.length_filter_le _ _) (by rw [List.length_take]; omega)
    refine ⟨rfl,_,rfl,_,rfl,dA,_,rfl,(by rw [← eb]; exact frz_get (k:=Sum.inl (a : Int)) hfz),b,_,0,_,rfl,rfl,SqT.of hbF,rfl,_,rfl,rfl,_,rfl,?_⟩
    rw [take_succ_filter _ kA ek]
    have ekn : keyN (.inl (a : Int)) = a:=rfl
    by_cases e : (hoA js as) a = h
    ·rw [show decide ((hoA js as) (keyN ((.inl (a : Int) : Key),v0).1) = h) = true from decide_eq_true e]
     refine iteTd (congrArg V.str e) ⟨_,rfl,vs,hD,small_line (by omega),fun c o nc ec=>by rw [upd_ne (ne_of_none ec nDG)]; exact fr c o nc ec,by rw [upd_ne (Ne.symm nDd)]; exact hfz,_,upd_same,?_⟩
     rw [List.length_append,List.length_append,hlv,if_pos rfl]
     rfl
    ·rw [show decide ((hoA js as) (keyN ((.inl (a : Int) : Key),v0).1) = h) = false from decide_eq_false e]
     refine iteFd (fun z=>e (V.str.inj z)) ⟨fr,hfz,vs,hD,?_⟩
     rw [List.length_append,hlv,if_neg (fun z=>Bool.noConfusion z)]
     rfl
   rintro F ⟨fr,hfz,vs,hD,hlv⟩
   rw [List.take_length,num_count nA hoa h] at hlv
   refine ⟨hfz,?_⟩
   have smM1 : Same G2 (upd F dA (.dK kA)):=fun b o e=>by
    by_cases nb : b = dA
    ·subst nb
     rw [upd_same,← g1 _ _ hA]
     exact e
    ·rw [upd_ne nb]
     exact fr b o nb e
   have hDf : (upd F dA (.dK kA)) D = some (.lst vs):=by rw [upd_ne nDd]; exact hD
   generalize upd F dA (.dK kA) = M1 at smM1 hDf ⊢
   refine ⟨D,_,rfl,.inl (SqL.of hDf),?_⟩
   rw [hlv]
   clear fz0 fz1 nD fr hfz hD hlv hDf
   have g4:=g1.trans smM1
   refine ⟨_,rfl,.inl ⟨rfl,_,SqL.of (smM1 _ _ hl)⟩,_,rfl,_,rfl,?_⟩
   refine ⟨dJ,_,g4 _ _ hJ,trivial,fun od=>?_⟩
   have fz0 : ∀ b o,b≠dJ→M1 b = some o→(upd M1 dJ (.frz od (.dK kJ))) b = some o:=fun b o nb e=>by rw [upd_ne nb]; exact e
   have fz1 : (upd M1 dJ (.frz od (.dK kJ))) dJ = some (.frz od (.dK kJ)):=upd_same
   generalize upd M1 dJ (.frz od (.dK kJ)) = Z at fz0 fz1 ⊢
   refine ⟨_,rfl,dJ,od,rfl,.inl ⟨kJ,fz1,fun D nD=>?_⟩⟩
   have nDd : D≠dJ:=fun e=>by rw [e,fz1] at nD; cases nD
   have nDG : M1 D = none:=by
    cases e : M1 D with
    | none=>rfl
    | some o =>
     rw [fz0 D o nDd e] at nD
     cases nD
   refine lc_it (walk_keys (d:=dJ) (o:=od) (kvs:=kJ)) (fun i H'=>(∀ b o,b≠dJ→M1 b = some o→H' b = some o)∧H' dJ = some (.frz od (.dK kJ))∧∃ vs : List V,H' D = some (.lst vs)∧vs.length = ((kJ.take i).filter fun kv=>decide ((hoJ js) (keyN kv.1) = h)).length)
    ⟨fun b o nb e=>by rw [upd_ne (ne_of_none e nDG)]; exact fz0 b o nb e,by rw [upd_ne (Ne.symm nDd)]; exact fz1,[],upd_same,by rw [List.take_zero]; rfl⟩ (fun i H' _ h=>h.2.1) ?_ ?_
   ·rintro i v F1 F2 hi ⟨fr,hfz,vs,hD,hlv⟩ ⟨rfl,kk,v0,ek,rfl⟩
    obtain ⟨a,b0,ea,la,_,_,_⟩:=nJ.own _ (List.mem_of_getElem? ek)
    have ea : kk = .inl (a : Int):=ea
    subst ea
    obtain ⟨b,eb,hb⟩:=nJ.at la (hoj a la)
    have hbF : F2 b = some (.tup [.str ((hoJ js) a),.int (rk js.length (hoJ js) (tiJ js) a : Nat)]):=fr _ _ (ne_of hb hJ (fun z=>nomatch z)) (g4 _ _ hb)
    have lk:=nJ.len
    have lf : ((kJ.take i).filter fun kv=>decide ((hoJ js) (keyN kv.1) = h)).length≤kJ.length:=Nat.le_trans (List.length_filter_le _ _) (by rw [List.length_take]; omega)
    refine ⟨rfl,_,rfl,_,rfl,dJ,_,rfl,(by rw [← eb]; exact frz_get (k:=Sum.inl (a : Int)) hfz),b,_,0,_,rfl,rfl,SqT.of hbF,rfl,_,rfl,rfl,_,rfl,?_⟩
    rw [take_succ_filter _ kJ ek]
    have ekn : keyN (.inl (a : Int)) = a:=rfl
    by_cases e : (hoJ js) a = h
    ·rw [show decide ((hoJ js) (keyN ((.inl (a : Int) : Key),v0).1) = h) = true from decide_eq_true e]
     refine iteTd (congrArg V.str e) ⟨_,rfl,vs,hD,small_line (by omega),fun c o nc ec=>by rw [upd_ne (ne_of_none ec nDG)]; exact fr c o nc ec,by rw [upd_ne (Ne.symm nDd)]; exact hfz,_,upd_same,?_⟩
     rw [List.length_append,List.length_append,hlv,if_pos rfl]
     rfl
    ·rw [show decide ((hoJ js) (keyN ((.inl (a : Int) : Key),v0).1) = h) = false from decide_eq_false e]
     refine iteFd (fun z=>e (V.str.inj z)) ⟨fr,hfz,vs,hD,?_⟩
     rw [List.length_append,hlv,if_neg (fun z=>Bool.noConfusion z)]
     rfl
   rintro F ⟨fr,hfz,vs,hD,hlv⟩
   rw [List.take_length,num_count nJ hoj h] at hlv
   refine ⟨hfz,?_⟩
   have smM2 : Same M1 (upd F dJ (.dK kJ)):=fun b o e=>by
    by_cases nb : b = dJ
    ·subst nb
     rw [upd_same,← g4 _ _ hJ]
     exact e
    ·rw [upd_ne nb]
     exact fr b o nb e
   have hDf : (upd F dJ (.dK kJ)) D = some (.lst vs):=by rw [upd_ne nDd]; exact hD
   generalize upd F dJ (.dK kJ) = M2 at smM2 hDf ⊢
   refine ⟨D,_,rfl,.inl (SqL.of hDf),?_⟩
   rw [hlv]
   clear fz0 fz1 nD fr hfz hD hlv hDf
   refine ⟨(by show 4≤sizeLine; decide),fun c4 n4=>?_⟩
   have u4 : Same M2 (upd M2 c4 (.tup [.str "all", .str h,.int ((itemsOf as.length (hoA js as) h).length : Nat),.int ((itemsOf js.length (hoJ js) h).length : Nat)])):=same_upd n4
   have hc4 : RowAt (upd M2 c4 (.tup [.str "all", .str h,.int ((itemsOf as.length (hoA js as) h).length : Nat),.int ((itemsOf js.length (hoJ js) h).length : Nat)])) c4 (allRow js as h):=upd_same
   generalize upd M2 c4 (.tup [.str "all", .str h,.int ((itemsOf as.length (hoA js as) h).length : Nat),.int ((itemsOf js.length (hoJ js) h).length : Nat)]) = G7 at u4 hc4 ⊢
   have v:=(smM1.trans smM2).trans u4
   obtain ⟨z1,z2,z3⟩:=snoc_step (g1.trans v) nl1 (v _ _ hl) (hrw.go fun c ys e=>v _ _ e) hc4
   have ll:=hrw.1
   rw [List.length_append,List.length_append,List.length_map,List.length_range,List.length_map,List.length_range,List.length_map,List.length_take] at ll
   have lh : hs.length≤6:=h6
   refine ⟨l,_,_,rfl,rfl,v _ _ hl,small_line (by omega),⟨_,_,_,_,_,_,_,_,_,_,_,rfl⟩,z1,_,z2,?_⟩
   rw [take_snoc eh,List.map_append,← List.append_assoc]
   exact z3
  ·rintro σ G3 ⟨⟨v6,v7,v8,v9,v10,v11,v12,v13,v14,v15,v16,rfl⟩,g3,us3,hl3,hrw3⟩
   rw [List.length_map,List.take_length] at hrw3
   exact ⟨_,rfl,q l us3 G3 (s1.trans g3) nl hl3 hrw3⟩
theorem count_range {A : Type} (xs : List A) (p : A→Bool) (f : Nat→Bool) (h : ∀ i x,xs[i]? = some x→f i = p x) : ∀ k,k≤xs.length→((List.range k).filter f).length = ((xs.take k).filter p).length
 | 0,_=>by rw [List.take_zero]; rfl
 | k + 1,hk=>by
  have ih:=count_range xs p f h k (Nat.le_of_succ_le hk)
  have e : xs[k]? = some xs[k]:=List.getElem?_eq_getElem hk
  rw [List.range_succ,filter_snoc,take_snoc e,filter_snoc,List.length_append,List.length_append,ih,h k _ e]
  split <;> rfl
theorem items_nJ (js : List WJ) (h : Str) : (itemsOf js.length (hoJ js) h).length = nJ js h:=by
 unfold itemsOf nJ
 rw [count_range js (fun j=>decide (j.h = h)) _ (fun i x e=>by unfold hoJ; rw [e]) _ (Nat.le_refl _),List.take_length]
theorem items_nA (js : List WJ) (as : List WA) (h : Str) (hp : ∀ x∈as,x.pl < js.length) : (itemsOf as.length (hoA js as) h).length = nA js as h:=by
 unfold itemsOf nA
 rw [count_range as (fun x=>x.of js h) _ (fun i x e=>?_) _ (Nat.le_refl _),List.take_length]
 have hpl:=hp x (List.mem_of_getElem? e)
 have ej : js[x.pl]? = some js[x.pl]:=List.getElem?_eq_getElem hpl
 generalize js[x.pl] = j at ej
 have e1 : hoA js as i = j.h:=by
  unfold hoA hoJ
  rw [e]
  show (match js[x.pl]? with | some j=>j.h | none => "") = _
  rw [ej]
 unfold WA.of
 rw [e1,ej]
theorem WOk.pl {hs : List Str} {js : List WJ} {as : List WA} (w : WOk hs js as) : ∀ x∈as,x.pl < js.length:=fun x m=>by
 obtain ⟨j,e,_⟩:=(w.ab x m).par
 exact (List.getElem?_eq_some_iff.mp e).1
inductive WRow (hs : List Str) (js : List WJ) (as : List WA) (bs : Str→Int) : Row→Prop
 | job (i : Nat) (j : WJ) : js[i]? = some j→WRow hs js as bs (.job j.h (rkJ js i : Nat) (bs j.h + j.b) (bs j.h + j.e))
 | ask (i : Nat) (x : WA) (j : WJ) : as[i]? = some x→js[x.pl]? = some j→WRow hs js as bs (.ask j.h x.g (rkA js as i : Nat) (rkJ js x.pl : Nat) (bs j.h + x.o) (bs j.h + x.k))
 | all (h : Str) : h∈hs→WRow hs js as bs (.all h ((itemsOf as.length (hoA js as) h).length : Nat) ((itemsOf js.length (hoJ js) h).length : Nat))
theorem hoA_at {js : List WJ} {as : List WA} {i : Nat} {x : WA} {j : WJ} (e : as[i]? = some x) (ej : js[x.pl]? = some j) : hoA js as i = j.h:=by
 unfold hoA hoJ
 rw [e]
 show (match js[x.pl]? with | some j=>j.h | none => "") = _
 rw [ej]
theorem hoJ_at {js : List WJ} {i : Nat} {j : WJ} (e : js[i]? = some j) : hoJ js i = j.h:=by
 unfold hoJ
 rw [e]
theorem tiJ_at {js : List WJ} {i : Nat} {j : WJ} (e : js[i]? = some j) : tiJ js i = j.b:=by
 unfold tiJ
 rw [e]
theorem tiA_at {as : List WA} {i : Nat} {x : WA} (e : as[i]? = some x) : tiA as i = x.o:=by
 unfold tiA
 rw [e]
theorem wrow_of {hs : List Str} {js : List WJ} {as : List WA} {bs : Str→Int} (w : WOk hs js as) {r : Row} (m : r∈wRows hs js as bs) : WRow hs js as bs r:=by
 unfold wRows at m
 rcases List.mem_append.mp m with m | m
 ·rcases List.mem_append.mp m with m | m
  ·obtain ⟨i,mi,rfl⟩:=List.mem_map.mp m
   have li:=List.mem_range.mp mi
   have e : js[i]? = some js[i]:=List.getElem?_eq_getElem li
   generalize js[i] = j at e
   unfold jobRow
   rw [e]
   exact .job i _ e
  ·obtain ⟨i,mi,rfl⟩:=List.mem_map.mp m
   have li:=List.mem_range.mp mi
   have e : as[i]? = some as[i]:=List.getElem?_eq_getElem li
   generalize as[i] = x at e
   have lp:=w.pl x (List.mem_of_getElem? e)
   have ej : js[x.pl]? = some js[x.pl]:=List.getElem?_eq_getElem lp
   generalize js[x.pl] = j at ej
   unfold askRow
   rw [e]
   show WRow hs js as bs (.ask (hoA js as i) _ _ _ (bs (hoA js as i) + _) (bs (hoA js as i) + _))
   rw [hoA_at e ej]
   exact .ask i _ _ e ej
 ·obtain ⟨h,mh,rfl⟩:=List.mem_map.mp m
  exact .all h mh
theorem rkJ_lt {js : List WJ} {i : Nat} {j : WJ} (e : js[i]? = some j) : rkJ js i < (itemsOf js.length (hoJ js) j.h).length:=by
 rw [← hoJ_at e]
 exact rk_lt (List.getElem?_eq_some_iff.mp e).1
theorem rkA_lt {js : List WJ} {as : List WA} {i : Nat} {x : WA} {j : WJ} (e : as[i]? = some x) (ej : js[x.pl]? = some j) : rkA js as i < (itemsOf as.length (hoA js as) j.h).length:=by
 rw [← hoA_at e ej]
 exact rk_lt (List.getElem?_eq_some_iff.mp e).1
theorem world_book {hs : List Str} {js : List WJ} {as : List WA} {bs : Str→Int} (w : WOk hs js as) (hb : ∀ h∈hs,BasI (bs h)) (hok : ∀ h∈hs,PyData.strOk h = true) : Book hs (wRows hs js as bs):=by
 have cJ : ∀ h,(itemsOf js.length (hoJ js) h).length≤15:=fun h=>by rw [items_nJ]; exact (w.cnt h).1
 have cA : ∀ h,(itemsOf as.length (hoA js as) h).length≤15:=fun h=>by rw [items_nA js as h w.pl]; exact (w.cnt h).2
 have jb : ∀ {i : Nat} {j : WJ},js[i]? = some j→j.h∈hs∧0≤j.b∧j.b≤j.e∧j.e≤400:=fun e=>w.jb _ (List.mem_of_getElem? e)
 have ab : ∀ {i : Nat} {x : WA} {j : WJ},as[i]? = some x→js[x.pl]? = some j→x.g∈hs∧j.b < x.o∧x.o≤x.k∧x.k < j.e:=fun {i x j} e ej=>by
  have a:=w.ab x (List.mem_of_getElem? e)
  obtain ⟨j',ej',h1,h2,h3⟩:=a.par
  rw [Nat.sub_zero] at ej'
  obtain rfl:=Option.some.inj (ej.symm.trans ej')
  exact ⟨a.g,h1,h2,h3⟩
 refine ⟨fun r m=>?_,fun r m=>?_,fun r mr t mt=>?_⟩
 ·cases wrow_of w m with
  | job i j e =>
   obtain ⟨h1,h2,h3,h4⟩:=jb e
   have b:=hb j.h h1
   unfold BasI at b
   have k1:=rkJ_lt e
   have k2:=cJ j.h
   exact ⟨hok _ h1,⟨Int.natCast_nonneg _,by omega⟩,by unfold TimeI; omega,by unfold TimeI; omega,by omega⟩
  | ask i x j e ej =>
   obtain ⟨h1,h2,h3,h4⟩:=jb ej
   obtain ⟨g1,g2,g3,g4⟩:=ab e ej
   have b:=hb j.h h1
   unfold BasI at b
   have k1:=rkA_lt e ej
   have k2:=cA j.h
   have k3:=rkJ_lt ej
   have k4:=cJ j.h
   exact ⟨hok _ h1,hok _ g1,⟨Int.natCast_nonneg _,by omega⟩,⟨Int.natCast_nonneg _,by omega⟩,by unfold TimeI; omega,by unfold TimeI; omega,by omega⟩
  | all h mh =>
   have k2:=cA h
   have k4:=cJ h
   exact ⟨hok _ mh,⟨Int.natCast_nonneg _,by omega⟩,⟨Int.natCast_nonneg _,by omega⟩⟩
 ·cases wrow_of w m with
  | job i j e=>exact (jb e).1
  | ask i x j e ej=>exact ⟨(jb ej).1,(ab e ej).1⟩
  | all h mh=>exact mh
 ·have jj : ∀ {i i' : Nat} {j j' : WJ},js[i]? = some j→js[i']? = some j'→j.h = j'.h→(rkJ js i = rkJ js i'→i = i')∧(rkJ js i≤rkJ js i'→j.b≤j'.b):=fun {i i' j j'} e e' eh=>by
   have l:=(List.getElem?_eq_some_iff.mp e).1
   have l':=(List.getElem?_eq_some_iff.mp e').1
   have eho : hoJ js i = hoJ js i':=by rw [hoJ_at e,hoJ_at e',eh]
   refine ⟨fun z=>rk_inj l l' eho z,fun z=>?_⟩
   have:=rk_time (ti:=tiJ js) l l' eho z
   rw [tiJ_at e,tiJ_at e'] at this
   exact this
  have aa : ∀ {i i' : Nat} {x x' : WA} {j j' : WJ},as[i]? = some x→js[x.pl]? = some j→as[i']? = some x'→js[x'.pl]? = some j'→j.h = j'.h→(rkA js as i = rkA js as i'→i = i')∧(rkA js as i≤rkA js as i'→x.o≤x'.o):=fun {i i' x x' j j'} e ej e' ej' eh=>by
   have l:=(List.getElem?_eq_some_iff.mp e).1
   have l':=(List.getElem?_eq_some_iff.mp e').1
   have eho : hoA js as i = hoA js as i':=by rw [hoA_at e ej,hoA_at e' ej',eh]
   refine ⟨fun z=>rk_inj l l' eho z,fun z=>?_⟩
   have:=rk_time (ti:=tiA as) l l' eho z
   rw [tiA_at e,tiA_at e'] at this
   exact this
  have ja : ∀ {i i' : Nat} {j j' : WJ} {x : WA},js[i]? = some j→as[i']? = some x→js[x.pl]? = some j'→¬ ClashP (.job j.h (rkJ js i : Nat) (bs j.h + j.b) (bs j.h + j.e)) (.ask j'.h x.g (rkA js as i' : Nat) (rkJ js x.pl : Nat) (bs j'.h + x.o) (bs j'.h + x.k)):=fun {i i' j j' x} e e' ej' z=>by
   obtain ⟨eh,z⟩:=z
   obtain ⟨g1,g2,g3,g4⟩:=ab e' ej'
   obtain ⟨q1,q2⟩:=jj e ej' eh
   rw [eh] at z
   rcases z with ⟨z1,z2⟩ | ⟨z1,z2⟩
   ·have:=q2 (by omega)
    omega
   ·have ei:=q1 (by omega)
    subst ei
    obtain rfl:=Option.some.inj (e.symm.trans ej')
    omega
  have la : ∀ {i' : Nat} {j' : WJ} {x : WA} {h : Str},as[i']? = some x→js[x.pl]? = some j'→¬ ClashP (.all h ((itemsOf as.length (hoA js as) h).length : Nat) ((itemsOf js.length (hoJ js) h).length : Nat)) (.ask j'.h x.g (rkA js as i' : Nat) (rkJ js x.pl : Nat) (bs j'.h + x.o) (bs j'.h + x.k)):=fun {i' j' x h} e' ej' z=>by
   obtain ⟨eh,z⟩:=z
   subst eh
   have k1:=rkA_lt e' ej'
   have k3:=rkJ_lt ej'
   omega
  have lj : ∀ {i : Nat} {j : WJ} {h : Str},js[i]? = some j→¬ ClashP (.all h ((itemsOf as.length (hoA js as) h).length : Nat) ((itemsOf js.length (hoJ js) h).length : Nat)) (.job j.h (rkJ js i : Nat) (bs j.h + j.b) (bs j.h + j.e)):=fun {i j h} e z=>by
   obtain ⟨eh,z⟩:=z
   subst eh
   have k3:=rkJ_lt e
   omega
  cases wrow_of w mr with
  | job i j e =>
   cases wrow_of w mt with
   | job i' j' e' =>
    rintro ⟨eh,ne,z⟩
    obtain ⟨q1,q2⟩:=jj e e' eh
    obtain ⟨q3,q4⟩:=jj e' e eh.symm
    rcases z with z | ⟨z1,z2⟩ | ⟨z1,z2⟩
    ·have ei:=q1 (by omega)
     subst ei
     obtain rfl:=Option.some.inj (e.symm.trans e')
     exact ne rfl
    ·have:=q2 (by omega)
     rw [eh] at z2
     omega
    ·have:=q4 (by omega)
     rw [eh] at z2
     omega
   | ask i' x j' e' ej'=>exact ja e e' ej'
   | all h mh=>exact fun z=>lj e ((clash_comm _ _).mp z)
  | ask i x j e ej =>
   cases wrow_of w mt with
   | job i' j' e'=>exact fun z=>ja e' e ej ((clash_comm _ _).mp z)
   | ask i' x' j' e' ej' =>
    rintro ⟨eh,ne,z⟩
    obtain ⟨q1,q2⟩:=aa e ej e' ej' eh
    obtain ⟨q3,q4⟩:=aa e' ej' e ej eh.symm
    rcases z with z | ⟨z1,z2⟩ | ⟨z1,z2⟩
    ·have ei:=q1 (by omega)
     subst ei
     obtain rfl:=Option.some.inj (e.symm.trans e')
     obtain rfl:=Option.some.inj (ej.symm.trans ej')
     exact ne rfl
    ·have:=q2 (by omega)
     rw [eh] at z2
     omega
    ·have:=q4 (by omega)
     rw [eh] at z2
     omega
   | all h mh=>exact fun z=>la e ej ((clash_comm _ _).mp z)
  | all h mh =>
   cases wrow_of w mt with
   | job i' j' e'=>exact lj e'
   | ask i' x' j' e' ej'=>exact la e' ej'
   | all h' mh' =>
    rintro ⟨eh,ne⟩
    subst eh
    exact ne rfl
theorem HKs.app {H : Hp} : ∀ {us ws : List V} {ks ls : List Gr.HK},HKs H us ks→HKs H ws ls→HKs H (us ++ ws) (ks ++ ls)
 | _,_,_,_,.nil,q=>q
 | _,_,_,_,.cons h r,q=>.cons h (r.app q)
theorem cps_lt_of {a b : Str} (h : ¬ b.cps.toList < a.cps.toList) (ne : a≠b) : a.cps.toList < b.cps.toList:=by
 refine Decidable.byContradiction fun n=>ne ?_
 have e : a.cps.toList = b.cps.toList:=List.le_antisymm (List.not_lt.mp h) (List.not_lt.mp n)
 cases a
 cases b
 simp at e
 rw [e]
theorem hk_lt_ne {a b : Gr.HK} (h : a.1≠b.1) : Fl.ltD (Gr.datOf a) (Gr.datOf b) = decide (a.1.cps.toList < b.1.cps.toList):=by
 have e4 : PyData.eqv (.str a.1) (.str b.1) = false:=by simpa [PyData.eqv] using h
 unfold Fl.ltD Gr.datOf
 rw [PySem.W.dataLt_all_no (by rfl) e4,PySem.W.dataLt_str]
theorem hk_lt_eq {h : Str} {n m : Int} : Fl.ltD (Gr.datOf (h,n)) (Gr.datOf (h,m)) = decide (n < m):=by
 unfold Fl.ltD Gr.datOf
 rw [PySem.W.dataLt_all_yes (by rfl) (by simp [PyData.eqv])]
 by_cases e : n = m
 ·subst e
  rw [PySem.W.dataLt_all_yes (by rfl) (by simp [PyData.eqv])]
  have e1 : decide (n < n) = false:=decide_eq_false (by omega)
  rw [e1]
  rfl
 ·rw [PySem.W.dataLt_all_no (by rfl) (by simpa [PyData.eqv] using e),PySem.W.dataLt_int]
theorem hk_anti {a b : Gr.HK} (h1 : Fl.ltD (Gr.datOf b) (Gr.datOf a) = false) (h2 : Fl.ltD (Gr.datOf a) (Gr.datOf b) = false) : a = b:=by
 by_cases e : a.1 = b.1
 ·obtain ⟨x,n⟩:=a
  obtain ⟨y,m⟩:=b
  have e : x = y:=e
  subst e
  rw [hk_lt_eq] at h1 h2
  have:=of_decide_eq_false h1
  have:=of_decide_eq_false h2
  exact Prod.ext rfl (by show n = m; omega)
 ·rw [hk_lt_ne (Ne.symm e)] at h1
  rw [hk_lt_ne e] at h2
  exact absurd (cps_lt_of (of_decide_eq_false h1) e) (of_decide_eq_false h2)
theorem SrtK.filter {ks : List Gr.HK} (h : SrtK ks) (p : Gr.HK→Bool) : SrtK (ks.filter p):=List.Pairwise.sublist List.filter_sublist h
theorem geS_one {S : Int→Prop} {d v u : V} (h1 : geS S d v) (h2 : geS S d u) : v = u:=by
 rcases h1 with ⟨n1,e1⟩ | ⟨m,a1,a2,rfl⟩
 ·rcases h2 with ⟨n2,e2⟩ | ⟨k,b1,_,_⟩
  ·rw [e1,e2]
  ·exact absurd b1 (n1 k)
 ·rcases h2 with ⟨n2,_⟩ | ⟨k,b1,b2,rfl⟩
  ·exact absurd a1 (n2 m)
  ·have:=a2 k b1
   have:=b2 m a1
   rw [show m = k by omega]
theorem cntA_one {hs : List Str} {rs : List Row} (B : Book hs rs) {h : Str} {n m : Int} (h1 : CntA rs h n) (h2 : CntA rs h m) : n = m:=by
 rcases h1 with ⟨r,hr,e⟩ | ⟨no,k,hk,e⟩
 ·rcases h2 with ⟨t,ht,e2⟩ | ⟨no,_⟩
  ·rw [e,e2,B.uniqH r t hr.1 ht.1 (hr.2.trans ht.2.symm)]
  ·exact absurd hr (no r)
 ·rcases h2 with ⟨t,ht,_⟩ | ⟨_,j,hj,e2⟩
  ·exact absurd ht (no t)
  ·have:=V.int.inj (geS_one hk hj)
   omega
theorem cntJ_one {hs : List Str} {rs : List Row} (B : Book hs rs) {h : Str} {n m : Int} (h1 : CntJ rs h n) (h2 : CntJ rs h m) : n = m:=by
 rcases h1 with ⟨r,hr,e⟩ | ⟨no,k,hk,e⟩
 ·rcases h2 with ⟨t,ht,e2⟩ | ⟨no,_⟩
  ·rw [e,e2,B.uniqH r t hr.1 ht.1 (hr.2.trans ht.2.symm)]
  ·exact absurd hr (no r)
 ·rcases h2 with ⟨t,ht,_⟩ | ⟨_,j,hj,e2⟩
  ·exact absurd ht (no t)
  ·have:=V.int.inj (geS_one hk hj)
   omega
def Row.g : Row→Str
 | .ask _ g _ _ _ _=>g
 | _ => ""
def rowOf (rs : List Row) (wd : Str) (k : Gr.HK) : Option Row:=rs.find? fun r=>decide (r.word = wd∧r.key = k)
theorem rowOf_some {rs : List Row} {wd : Str} {k : Gr.HK} {r : Row} (h : rowOf rs wd k = some r) : Bk rs wd r∧r.key = k:=by
 have h1:=List.find?_some h
 have h2:=of_decide_eq_true h1
 exact ⟨⟨List.mem_of_find?_eq_some h,h2.1⟩,h2.2⟩
theorem rowOf_none {rs : List Row} {wd : Str} {k : Gr.HK} (h : rowOf rs wd k = none) : ¬ ∃ r,Bk rs wd r∧r.key = k:=by
 rintro ⟨r,hr,e⟩
 have:=List.find?_eq_none.mp h r hr.1
 exact this (decide_eq_true ⟨hr.2,e⟩)
theorem rowOf_is {rs : List Row} {wd : Str} {r : Row} (un : Uniq (Bk rs wd)) (hr : Bk rs wd r) : rowOf rs wd r.key = some r:=by
 cases e : rowOf rs wd r.key with
 | none=>exact absurd ⟨r,hr,rfl⟩ (rowOf_none e)
 | some t =>
  obtain ⟨h1,h2⟩:=rowOf_some e
  rw [un t r h1 hr h2]
def WasA (hs : List Str) (rs : List Row) (k : Gr.HK) : Prop:=k.1∈hs∧0≤k.2∧∃ n,CntA rs k.1 n∧k.2 < n
def WasJ (hs : List Str) (rs : List Row) (k : Gr.HK) : Prop:=k.1∈hs∧0≤k.2∧∃ n,CntJ rs k.1 n∧k.2 < n
theorem WasA.below {hs : List Str} {rs : List Row} {k : Gr.HK} {c : Str→Nat} (h : WasA hs rs k) (B : Book hs rs) (hc : ∀ h∈hs,CntA rs h (c h : Nat)∧c h≤16) : k∈below hs c:=by
 obtain ⟨h1,h2,n,h3,h4⟩:=h
 have:=cntA_one B h3 (hc _ h1).1
 exact mem_below.mpr ⟨h1,h2,by omega⟩
theorem WasJ.below {hs : List Str} {rs : List Row} {k : Gr.HK} {c : Str→Nat} (h : WasJ hs rs k) (B : Book hs rs) (hc : ∀ h∈hs,CntJ rs h (c h : Nat)∧c h≤16) : k∈below hs c:=by
 obtain ⟨h1,h2,n,h3,h4⟩:=h
 have:=cntJ_one B h3 (hc _ h1).1
 exact mem_below.mpr ⟨h1,h2,by omega⟩
theorem DRow.find {H : Hp} {rs : List Row} {wd : Str} {kvs : List (List Key × V)} (un : Uniq (Bk rs wd)) (d : DRow key2 H (Bk rs wd) kvs) (k : Gr.HK) : (∃ a r,rowOf rs wd k = some r∧r.word = wd∧valV kvs (Gr.keyOf k) = some (.ref a)∧RowAt H a r)∨(rowOf rs wd k = none∧valV kvs (Gr.keyOf k) = none):=by
 rcases val_row d (Gr.keyOf k) with ⟨a,r,e1,e2,e3,e4⟩ | ⟨e1,e2⟩
 ·refine .inl ⟨a,r,?_,e3.2,e1,e2⟩
  rw [keyOf_inj e4]
  exact rowOf_is un e3
 ·refine .inr ⟨?_,e1⟩
  cases e : rowOf rs wd k with
  | none=>rfl
  | some t =>
   obtain ⟨h1,h2⟩:=rowOf_some e
   exact absurd (show Gr.keyOf t.key = _ by rw [h2]) (e2 t h1)
theorem SpD.get {H : Hp} {R : Gr.HK→List V→Prop} {ks : List Gr.HK} {kvs : List (List Key × V)} (h : SpD H R ks kvs) {k : Gr.HK} (m : k∈ks) : ∃ p us,valV kvs (Gr.keyOf k) = some (.ref p)∧H p = some (.tup us)∧R k us:=by
 cases e : valV kvs (Gr.keyOf k) with
 | none =>
  have mk : Gr.keyOf k∈kvs.map (·.1):=by
   rw [h.keys]
   exact List.mem_map.mpr ⟨k,m,rfl⟩
  obtain ⟨x,mx,ex⟩:=List.mem_map.mp mk
  exact absurd (show (Gr.keyOf k,x.2)∈kvs by rw [← ex]; exact mx) (val_none e _)
 | some v =>
  obtain ⟨k',p,us,e1,e2,e3,e4⟩:=h.val _ (val_mem e)
  have e2 : v = .ref p:=e2
  subst e2
  rw [← keyOf_inj e1] at e4
  exact ⟨p,us,rfl,e3,e4⟩
theorem MoD.get {H : Hp} {R : Str→List V→Prop} {ks : List Str} {kvs : List (Key × V)} (h : MoD H R ks kvs) {k : Str} (m : k∈ks) : ∃ p us,valV kvs (Sum.inr k : Key) = some (.ref p)∧H p = some (.tup us)∧R k us:=by
 cases e : valV kvs (Sum.inr k : Key) with
 | none =>
  have mk : (Sum.inr k : Key)∈kvs.map (·.1):=by
   rw [h.keys]
   exact List.mem_map.mpr ⟨k,m,rfl⟩
  obtain ⟨x,mx,ex⟩:=List.mem_map.mp mk
  exact absurd (show ((Sum.inr k : Key),x.2)∈kvs by rw [← ex]; exact mx) (val_none e _)
 | some v =>
  obtain ⟨k',p,us,e1,e2,e3,e4⟩:=h.val _ (val_mem e)
  have e2 : v = .ref p:=e2
  subst e2
  rw [← Sum.inr.inj e1] at e4
  exact ⟨p,us,rfl,e3,e4⟩
theorem is_bool_gen {M : Model} {A : Around} {E : Value→Shared→Prop} {s : Shared} {Q : Value→Shared→Prop} {v : Value} {b : Bool} (hb : ∀ i,v≠.builtin i) (h : Q (.bool (v == .bool b)) s) : wpAny M A (compareOp .Is v (.bool b)) Q E s:=by
 cases v <;> first | exact wpAny_pure h | exact absurd rfl (hb _)
theorem op_isB {X : Cx} (b : Bool) : OpR X (compareOp .Is) (fun x y H Q=>y = .bl b∧Q (.bl (decide (x = .bl b))) H):=by
 intro pins s σ H x y v u Q I rx ry h
 obtain ⟨rfl,q⟩:=h
 obtain rfl : u = Value.bool b:=ry
 refine is_bool_gen (fun i z=>?_) ⟨.bl (decide (x = .bl b)),H,I,?_,q⟩
 ·subst z
  cases x <;> first
   | (cases rx; done)
   | (obtain ⟨t,e⟩:=rx; cases e; done)
 show Value.bool (v == .bool b) = Value.bool (decide (x = .bl b))
 congr 1
 cases x with
 | bl c =>
  obtain rfl : v = .bool c:=rx
  by_cases e : c = b
  ·subst e
   rw [decide_eq_true rfl,beq_self_eq_true]
  ·rw [decide_eq_false (fun z=>e (V.bl.inj z)),beq_eq_false_iff_ne.mpr (fun z=>e (Value.bool.inj z))]
 | _ =>
  rw [decide_eq_false (fun z=>by cases z)]
  refine beq_eq_false_iff_ne.mpr fun z=>?_
  subst z
  first
   | (cases rx; done)
   | (obtain ⟨t,e⟩:=rx; cases e; done)
theorem dqs_rows {Ex : Addr→Prop} {H : Hp} : ∀ {xs : List V} {rs : List Row},Rws H xs rs→Dqs Ex H xs (rs.map rowD)
 | [],[],_=>.nil
 | [],_ :: _,h=>nomatch h.1
 | _ :: _,[],h=>nomatch h.1
 | v :: xs,r :: rs,h=>by
  obtain ⟨a,e,ha⟩:=h.2 0 r rfl
  obtain rfl : v = .ref a:=Option.some.inj e
  exact .cons (.tup ha (dqs_row r)) (dqs_rows ⟨Nat.succ.inj h.1,fun i t e=>h.2 (i + 1) t e⟩)
theorem rws_of {Ex : Addr→Prop} {H : Hp} {xs : List V} {rs : List Row} (h : Dqs Ex H xs (rs.map rowD)) : Rws H xs rs:=by
 refine ⟨by rw [h.len,List.length_map],fun i r e=>?_⟩
 obtain ⟨v,hv,dv⟩:=h.get (show (rs.map rowD)[i]? = some (.tuple r.data) by rw [List.getElem?_map,e]; rfl)
 obtain ⟨a,rfl,ha⟩:=row_at dv
 exact ⟨a,hv,ha⟩
theorem Book.sub {hs : List Str} {rs ts : List Row} (B : Book hs rs) (h : ∀ r∈ts,r∈rs) : Book hs ts:=⟨fun r m=>B.wf r (h r m),fun r m=>B.inn r (h r m),fun r m t mt=>B.nc r (h r m) t (h t mt)⟩
theorem Book.rowsD {hs : List Str} {rs : List Row} (B : Book hs rs) (n : Nat) : RowsD hs (rs.map rowD) n:=fun j d _ e=>by
 rw [List.getElem?_map] at e
 obtain ⟨r,er,rfl⟩:=Option.map_eq_some_iff.mp e
 have m:=List.mem_of_getElem? er
 refine ⟨r,rfl,B.inn r m,?_⟩
 have w:=B.wf r m
 cases r with
 | ask h g k n o b=>exact w.2.2
 | job h k o b=>exact w.2
 | all h a j=>exact w.2
theorem Book.noClash {hs : List Str} {rs : List Row} (B : Book hs rs) (n : Nat) : NoClash (rs.map rowD) n:=fun s _ f _ ⟨r,t,e1,e2,hc⟩=>by
 rw [List.getElem?_map] at e1 e2
 obtain ⟨r',er,e3⟩:=Option.map_eq_some_iff.mp e1
 obtain ⟨t',et,e4⟩:=Option.map_eq_some_iff.mp e2
 obtain rfl:=data_inj (PyData.tuple.inj e3)
 obtain rfl:=data_inj (PyData.tuple.inj e4)
 exact B.nc _ (List.mem_of_getElem? er) _ (List.mem_of_getElem? et) hc
theorem rowD_inj {rs ts : List Row} (h : rs.map rowD = ts.map rowD) : rs = ts:=by
 induction rs generalizing ts with
 | nil =>
  cases ts with
  | nil=>rfl
  | cons _ _=>exact nomatch h
 | cons r rs ih =>
  cases ts with
  | nil=>exact nomatch h
  | cons t ts =>
   rw [List.map_cons,List.map_cons] at h
   injection h with h1 h2
   rw [data_inj (PyData.tuple.inj h1),ih h2]
theorem Book.refuse {hs : List Str} {rs : List Row} (B : Book hs rs) {CN CC : Addr} {H : Hp} {E : XK} : Refuse CN CC H hs (rs.map rowD) E :=
 ⟨fun i dv d H' h1 h2 h3 _ _=>absurd (B.rowsD (rs.map rowD).length i dv (List.getElem?_eq_some_iff.mp h2).1 h2) h3,fun f s d H' h1 h2 _ _=>absurd h2.at_ (B.noClash _ s h2.len f h2.lt)⟩
structure Hand (H : Hp) (t l : Addr) (hs gs : List Str) (xs : List V) (rs : List Row) : Prop where
 town : TownAt H t hs gs
 up : sortedS hs = true
 nd : hs.Nodup
 ok : ∀ h∈hs,PyData.strOk h = true
 h6 : hs.length≤6
 lst : H l = some (.lst xs)
 rows : Rws H xs rs
 book : Book hs rs
 ths : Ths (rs.map rowD)
 len : rs.length≤900
theorem Hand.same {H H' : Hp} {t l : Addr} {hs gs : List Str} {xs : List V} {rs : List Row} (h : Hand H t l hs gs xs rs) (s : Same H H') : Hand H' t l hs gs xs rs :=
 ⟨h.town.same' s,h.up,h.nd,h.ok,h.h6,s _ _ h.lst,h.rows.same s,h.book,h.ths,h.len⟩
theorem Hand.ask {H : Hp} {t l m : Addr} {hs gs : List Str} {xs : List V} {rs : List Row} (h : Hand H t l hs gs xs rs) (hm : H m = some (.lst xs)) : Ask (fun _=>False) H t m hs gs xs (rs.map rowD) :=
 ⟨h.town,h.ok,hm,⟨dqs_rows h.rows,fun d m=>(h.ths d m).sh (by decide)⟩,by rw [List.length_map]; have:=h.len; omega,h.h6,h.nd⟩
theorem Hand.shaped {H : Hp} {t l : Addr} {hs gs : List Str} {xs : List V} {rs : List Row} (h : Hand H t l hs gs xs rs) : SeqAt.shaped (.list (rs.map rowD)) = true:=ths_lst h.ths (by rw [List.length_map]; have:=h.len; omega)
theorem Hand.lay {H : Hp} {t l : Addr} {hs gs : List Str} {xs : List V} {rs : List Row} (h : Hand H t l hs gs xs rs) : (PyData.list (rs.map rowD)).canLay0 = true:=(th_lst (m:=1000) h.ths (by rw [List.length_map]; have:=h.len; omega)).lay
theorem Hand.ne {H : Hp} {t l m : Addr} {hs gs : List Str} {xs : List V} {rs : List Row} {Q : VK} (h : Hand H t l hs gs xs rs) (hm : H m = some (.lst xs)) (q : Q (.bl false) H) : rNeD K (.ref m) (.ref l) H Q:=by
 refine ⟨.list (rs.map rowD),.list (rs.map rowD),Dp.lst (SqL.of hm) (dqs_rows (Ex:=fun _=>False) h.rows).dp,Dp.lst (SqL.of h.lst) (dqs_rows (Ex:=fun _=>False) h.rows).dp,h.shaped,h.shaped,?_⟩
 rw [PySem.SeqAt.eqv_refl _ h.lay]
 exact q
def hkD (k : Gr.HK) : PyData:=.tuple [.str k.1,.int k.2]
namespace Nt
open PySem PySem.W PyProof.Rows
abbrev PK:=Gr.HK × Gr.HK
def datP (p : PK) : List PyData:=[.tuple (Gr.datOf p.1),.tuple (Gr.datOf p.2)]
def IsPr (h : Heap) (v : Value) (p : PK) : Prop:=∃ a o its n x y,v = .ref a∧h.get? a = some o∧o.cls = .type "tuple" ∧ o.data = .seq its n∧its.toList = [x,y]∧Fl.IsFl h x (Gr.datOf p.1)∧Fl.IsFl h y (Gr.datOf p.2)
theorem IsPr.keeps {h h' : Heap} {v : Value} {p : PK} (q : IsPr h v p) (k : ∀ b o,h.get? b = some o→o.cls = .type "tuple" → h'.get? b = some o) : IsPr h' v p:=by
 obtain ⟨a,o,its,n,x,y,e,ho,hc,hd,hi,h1,h2⟩:=q
 exact ⟨a,o,its,n,x,y,e,k a o ho hc,hc,hd,hi,h1.keeps k,h2.keeps k⟩
theorem fl_reads {h : Heap} {v : Value} {p : Gr.HK} (q : Fl.IsFl h v (Gr.datOf p)) : ∃ as,Reads h v (.tuple (Gr.datOf p)) as:=by
 obtain ⟨a,o,its,n,rfl,ho,hc,hd,f⟩:=q
 have : ∃ as,ReadsAll h its.toList (Gr.datOf p) as:=by
  generalize its.toList = us at f
  obtain ⟨x,i⟩:=p
  cases f with
  | cons f1 f2 =>
   cases f1
   cases f2 with
   | cons g1 g2 =>
    cases g1
    cases g2
    exact ⟨_,.cons (.str _ _) (.cons (.int _ _) .nil)⟩
 obtain ⟨as,r⟩:=this
 exact ⟨as,.tuple ho hc hd r⟩
section
variable {prog : Program} {w : World} {A : Around} {E : Value→Shared→Prop} {s : Shared}
theorem pr_cmp {vs : List Value} {k : Value→PK} (hu : A.units + 4 < cLine) (hp : ∀ v∈vs,IsPr s.heap v (k v)) : SrtO.Cmp prog w A s (tuples' false) (fun p=>p.1∈vs) (SrtO.lt2 fun v u=>Fl.ltD (datP (k v)) (datP (k u))):=by
 intro p q hm hm'
 obtain ⟨a,o,its,n,x,y,e,ho,_,hd,hi,f1,f2⟩:=hp _ hm
 obtain ⟨a',o',its',n',x',y',e',ho',_,hd',hi',g1,g2⟩:=hp _ hm'
 show wpAny (model prog w) A (keyLt' (tuples' false) p.1 q.1) (fun r s'=>s' = s∧r = Fl.ltD (datP (k p.1)) (datP (k q.1))) (fun _ _=>False) s
 generalize k p.1 = kp at *
 generalize k q.1 = kq at *
 rw [e,e']
 refine kat_lt ho hd ho' hd' ?_
 have z1 : its.size = 2:=by rw [← Array.length_toList,hi]; rfl
 have z2 : its'.size = 2:=by rw [← Array.length_toList,hi']; rfl
 rw [z1,z2,hi,hi']
 obtain ⟨a1,r1⟩:=fl_reads f1
 obtain ⟨a2,r2⟩:=fl_reads f2
 obtain ⟨b1,q1⟩:=fl_reads g1
 obtain ⟨b2,q2⟩:=fl_reads g2
 refine katLex_alike (datP kp) (datP kq) 0 [x,y] [x',y'] _ _ (.cons r1 (.cons r2 .nil)) (.cons q1 (.cons q2 .nil)) (by rfl) ?_ (fun z=>nomatch z) rfl ⟨rfl,rfl⟩
 have h1 : PyData.depthAll (datP kp)≤1:=by
  show max 1 (max 1 0)≤1
  decide
 have:=Nat.min_le_left (PyData.depthAll (datP kp)) (PyData.depthAll (datP kq))
 omega
theorem firsts_pr {h : Heap} {k : Value→PK} : ∀ {vs : List Value},(∀ v∈vs,IsPr h v (k v))→∃ fs : List Value,KatTups h vs fs∧fs.length = vs.length∧∀ f∈fs,∃ p,Fl.IsFl h f (Gr.datOf p)
 | [],_=>⟨[],KatTups.nil,rfl,fun _ hm=>by simp at hm⟩
 | v :: vs,hp=>by
  obtain ⟨fs,h1,h2,h3⟩:=firsts_pr (vs:=vs) fun v' hm=>hp v' (List.mem_cons_of_mem _ hm)
  obtain ⟨a,o,its,n,x,y,e,ho,hc,hd,hi,f1,f2⟩:=hp v (List.mem_cons_self ..)
  subst e
  refine ⟨x :: fs,KatTups.cons ho hc hd ?_ h1,by rw [List.length_cons,List.length_cons,h2],fun f hm=>?_⟩
  ·rw [← Array.getElem?_toList,hi]
   rfl
  ·rcases List.mem_cons.mp hm with rfl | hm
   ·exact ⟨_,f1⟩
   ·exact h3 f hm
theorem sorted_pr {l : Addr} {vs : List Value} {k : Value→PK} {Q : Value→Shared→Prop} (hu : A.units + 6 < cLine) (hl : s.heap.IsList l vs.toArray) (hz : vs.length≤sizeLine) (hp : ∀ v∈vs,IsPr s.heap v (k v))
  (h : ∀ (h' : Heap) (d : Addr) (out : List Value),SrtO.Srtd (fun v u=>Fl.ltD (datP (k v)) (datP (k u))) out→SrtO.Stb (fun v u=>Fl.ltD (datP (k v)) (datP (k u))) out vs→(∀ b o,s.heap.get? b = some o→h'.get? b = some o)→s.heap.objs.size≤d→(∃ n,h'.get? d = some (seqObj "list" out.toArray n))→Q (.ref d) { s with heap:=h' }) :
  wpAny (model prog w) A (call (.builtin "sorted") [.ref l]) Q E s:=by
 refine SrtO.sorted_ord (Fl.swo_ltD fun v=>datP (k v)) hl hz (fun h2 h1 a ha kk=>?_) fun out hs hb=>?_
 ·intro h' keep
  have hne : ∀ o,h1.get? a = some o→o.cls≠.type "tuple" := fun o e=>by
   have e' : some o = some (seqObj "list" vs.toArray 0):=e.symm.trans ha
   cases e'
   intro c
   exact absurd (Value.type.inj c) (by decide)
  have hp' : ∀ v∈vs,IsPr h' v (k v):=fun v hm=>(hp v hm).keeps fun b o e c=>keep b o (fun z=>by subst z; exact hne o (kk b o e).2 c) (kk b o e).2
  obtain ⟨fs,f1,f2,f3⟩:=firsts_pr (vs:=vs) (k:=k) hp'
  refine ⟨tuples' false,fun Q E hq=>?_,pr_cmp (by show A.units + 1 + 1 + 4 < cLine; omega) hp'⟩
  refine kat_kind (T:=.type "tuple") f1 (by omega) (fun f hm=>?_) (by rfl) ?_
  ·obtain ⟨p,a,o,its,n,rfl,ho,hc,_⟩:=f3 f hm
   exact fun A Q E s k q=>wpAny_typeOf_ref (k _ _ ho) (by rw [hc]; exact q)
  ·have e : (Value.type "tuple" != Value.type "tuple") = false:=by first | decide +kernel | rfl | decide
   rw [e]
   exact hq
 ·exact h _ _ out hs hb (fun b o e=>sortedAll_old e) (Nat.le_succ _) (sortedAll_at s.heap vs out.toArray)
end
def AtP (H : Hp) (v : V) (p : PK) : Prop:=∃ b x y,v = .ref b∧H b = some (.tup [.ref x,.ref y])∧H x = some (.tup ((Gr.keyOf p.1).map kV))∧H y = some (.tup ((Gr.keyOf p.2).map kV))
def rSortedPr (K : PySem.W.Frag) : List V→Hp→VK→Prop:=fun vs H Q=>∃ (a : Addr) (xs : List V) (k : V→PK),vs = [V.ref a]∧SqL K H a xs∧(∀ x∈xs,AtP H x (k x)) ∧
 ∀ ys p,SrtO.Srtd (fun x y=>Fl.ltD (datP (k x)) (datP (k y))) ys→SrtO.Stb (fun x y=>Fl.ltD (datP (k x)) (datP (k y))) ys xs→H p = none→Q (.ref p) (upd H p (.lst ys))
theorem cr_sortedPr {X : Cx} (hu : X.A.units + 64 < cLine) : CallR X (.builtin "sorted") (rSortedPr X.K):=by
 intro pins s σ H vs us Q I r h
 obtain ⟨a,xs,k,rfl,hs,hx,q⟩:=h
 obtain ⟨its,rv,hl,hz⟩:=I.list hs
 obtain ⟨u,rfl,ru⟩:=vals1 r
 obtain rfl : u = Value.ref a:=ru
 obtain ⟨e1,e2⟩:=refs_back rv fun x m=>by
  obtain ⟨t,_,_,e,_⟩:=hx x m
  exact ⟨t,e⟩
 have fl : ∀ (b : Addr) (p : Gr.HK),H b = some (.tup ((Gr.keyOf p).map kV))→Fl.IsFl s.heap (.ref b) (Gr.datOf p):=fun b p hb=>by
  obtain ⟨_,its2,r2,o,ho,hc,n,hd⟩:=I.hok _ _ hb
  exact ⟨b,o,its2.toArray,n,rfl,ho,hc,hd,by rw [List.toList_toArray]; exact Fl.fvs_of (ds:=Gr.datOf p) (by rfl) r2⟩
 refine sorted_pr (k:=fun u=>k (backV u)) (by omega) hl.isList (by rw [← rv.length]; exact hz) (fun v hv=>?_) fun h' d out h1 h2 kp hd hn=>?_
 ·obtain ⟨t,rfl⟩:=e2 v hv
  have hm : V.ref t∈xs:=by rw [e1]; exact List.mem_map.mpr ⟨_,hv,rfl⟩
  obtain ⟨t',x,y,e,ht,hx1,hy1⟩:=hx _ hm
  cases e
  obtain ⟨_,its2,r2,o,ho,hc,n,hd⟩:=I.hok _ _ ht
  cases r2 with
  | cons ra rb =>
   cases rb with
   | cons rb rc =>
    cases rc
    obtain rfl:=ra
    obtain rfl:=rb
    exact ⟨t,o,_,n,_,_,rfl,ho,hc,hd,by rw [List.toList_toArray],fl _ _ hx1,fl _ _ hy1⟩
 ·have h3 : ∀ u∈out,∃ a,u = Value.ref a:=fun u hu=>e2 u (h2.perm.mem_iff.mp hu)
  obtain ⟨n,hn⟩:=hn
  have hb : SrtO.Stb (fun x y=>Fl.ltD (datP (k x)) (datP (k y))) (out.map backV) xs:=by
   rw [e1]
   exact SrtO.Stb.map (Fl.swo_ltD fun x=>datP (k x)) backV h2
  refine ⟨.ref d,upd H d (.lst (out.map backV)),I.laid (t':=s.toks) kp hd ⟨?_,out,n,vals_back h3,hn⟩,rfl,q _ d (SrtO.srtd_map h1) hb (I.hok.fresh hd)⟩
  rw [hb.len]
  exact hz
end Nt
abbrev PrK:=Gr.HK × Gr.HK
def Pks (H : Hp) (us : List V) (ps : List PrK) : Prop:=us.length = ps.length∧∀ (i : Nat) (p : PrK),ps[i]? = some p→∃ b x y : Addr,us[i]? = some (V.ref b)∧H b = some (.tup [.ref x,.ref y])∧H x = some (.tup ((Gr.keyOf p.1).map kV))∧H y = some (.tup ((Gr.keyOf p.2).map kV))
theorem Pks.go {H H' : Hp} {us : List V} {ps : List PrK} (h : Pks H us ps) (s : ∀ b xs,H b = some (.tup xs)→H' b = some (.tup xs)) : Pks H' us ps :=
 ⟨h.1,fun i p e=>let ⟨b,x,y,e1,e2,e3,e4⟩:=h.2 i p e; ⟨b,x,y,e1,s _ _ e2,s _ _ e3,s _ _ e4⟩⟩
theorem Pks.same {H H' : Hp} {us : List V} {ps : List PrK} (h : Pks H us ps) (s : Same H H') : Pks H' us ps:=h.go fun b xs e=>s b _ e
theorem un65 {k : Nat} {A : Around} (r : Room k A) : A.units + 65 < cLine:=by
 have:=r.un
 omega
theorem un3 {n : Nat} (h : n + 64 < cLine) : n + 3 < cLine:=Nat.lt_of_le_of_lt (Nat.add_le_add_left (show 3≤64 by decide) _) h
theorem vals47 (r : Row) : 4≤r.vals.length∧r.vals.length≤7:=by
 cases r
 ·exact ⟨(by decide : 4≤7),(by decide : 7≤7)⟩
 ·exact ⟨(by decide : 4≤5),(by decide : 5≤7)⟩
 ·exact ⟨(by decide : 4≤4),(by decide : 4≤7)⟩
theorem take3 (r : Row) : cutV r.vals none (some 3) = [.str r.word,.str r.h,.int r.k]:=by
 rw [show (3 : Int) = ((3 : Nat) : Int) from rfl,cut_to]
 cases r <;> rfl
theorem nw3 (r : Row) : ¬ (HT.sIx r.vals.length 0 none = 0∧HT.sIx r.vals.length r.vals.length (some 3) = r.vals.length):=by
 rintro ⟨_,h⟩
 rw [show (3 : Int) = ((3 : Nat) : Int) from rfl,HT.sIx_nat] at h
 have:=(vals47 r).1
 omega
theorem cut13 (r : Row) : cutV r.vals (some 1) (some 3) = (Gr.keyOf r.key).map kV:=by
 cases r <;> rfl
theorem nw13 (r : Row) : ¬ (HT.sIx r.vals.length 0 (some 1) = 0∧HT.sIx r.vals.length r.vals.length (some 3) = r.vals.length):=by
 rintro ⟨h,_⟩
 rw [show (1 : Int) = ((1 : Nat) : Int) from rfl,HT.sIx_nat] at h
 have:=(vals47 r).1
 omega
def hd3 (r : Row) : PyData:=.tuple [.str r.word,.str r.h,.int r.k]
theorem hd3_sh {r : Row} (h : PyData.strOk r.h = true) : Sh (hd3 r):=by
 refine ⟨?_,by show 1≤60; decide⟩
 show (PyData.strOk r.word && (PyData.strOk r.h && (true && true))) = true
 have hw : PyData.strOk r.word = true:=by
  cases r
  ·show PyData.strOk "ask" = true
   decide +kernel
  ·show PyData.strOk "job" = true
   decide +kernel
  ·show PyData.strOk "all" = true
   decide +kernel
 rw [h,hw]
 rfl
theorem hd3s_sh {rs : List Row} (h : ∀ r∈rs,PyData.strOk r.h = true) : Sh (.list (rs.map hd3)):=by
 refine ⟨?_,?_⟩
 ·show PyData.canLayAll0 (rs.map hd3) = true
  induction rs with
  | nil=>rfl
  | cons k ks ih =>
   show ((hd3 k).canLay0 && PyData.canLayAll0 (ks.map hd3)) = true
   rw [ih fun x m=>h x (List.mem_cons_of_mem _ m),(hd3_sh (h k List.mem_cons_self)).1]
   rfl
 ·have key : ∀ rs : List Row,PyData.depthAll (rs.map hd3)≤1:=fun rs=>by
   induction rs with
   | nil=>exact Nat.zero_le _
   | cons k ks ih =>
    show max (hd3 k).depth (PyData.depthAll (ks.map hd3))≤1
    have e : (hd3 k).depth = 1:=rfl
    omega
  have:=key rs
  show PyData.depthAll (rs.map hd3) + 1≤60
  omega
theorem hd3_eqv (r : Row) : PyData.eqv (hd3 r) (hd3 r) = true:=by simp [hd3,PyData.eqv,PyData.eqvAll]
theorem lc_heads {l D : Addr} {xs : List V} {rs : List Row} {σ : L2.St} {i : Nat} {tt : TT} {te : TE} {H0 : Hp} {Qd : Hp→Prop} (hl : H0 l = some (.lst xs)) (hr : Rws H0 xs rs) (lr : rs.length≤1000) (nD : H0 D = none)
  (htt : ∀ v H2 (Kt : Bool→Hp→Prop),Kt true H2→tt ((wipe σ [i]).set i (some v)) H2 Kt)
  (hte : ∀ a r H2 (Ke : V→Hp→Prop),RowAt H2 a r→(∀ b,H2 b = none→Ke (.ref b) (upd H2 b (.tup [.str r.word,.str r.h,.int r.k])))→te ((wipe σ [i]).set i (some (.ref a))) H2 Ke)
  (hq : ∀ (us : List V) (H' : Hp),Same H0 H'→H' D = some (.lst us)→Dqs (fun _=>False) H' us (rs.map hd3)→Qd H') :
  ∃ W : Nat→Nat→Hp→Prop,(∃ m,W 0 m (upd H0 D (.lst [])))∧∀ k m H,W k m H →
   ((Itl K l).stop k H∧Qd H)∨((Itl K l).go k H∧∃ Nx : Hp→Prop,(∀ H',Nx H'→∃ m',m' < m∧W (k + 1) m' H')∧∀ x H',(Itl K l).yld k H x H'→gName i x (wipe σ [i]) H' fun σ2 H2=>wipe σ2 [i] = wipe σ [i]∧tt σ2 H2 fun b H3 =>
    if b = true then te σ2 H3 fun y H4=>∃ acc,H4 D = some (.lst acc)∧acc.length < sizeLine∧Nx (upd H4 D (.lst (acc ++ [y]))) else Nx H3):=by
 refine lc_it (walk_list (K:=K) (a:=l) (xs:=xs)) (g:=gName i) (fun k H'=>Same H0 H'∧∃ us,us.length≤k∧H' D = some (.lst us)∧∃ bs : List Addr,us = bs.map V.ref∧bs.length = (rs.take k).length∧∀ (j : Nat) (b : Addr) (r : Row),bs[j]? = some b→(rs.take k)[j]? = some r→H' b = some (.tup [.str r.word,.str r.h,.int r.k]))
  ⟨same_upd nD,[],Nat.le_refl _,upd_same,[],rfl,by rw [List.take_zero]; rfl,fun j b r e=>nomatch e⟩ (fun k H' _ h=>SqL.of (h.1 _ _ hl)) ?_ ?_
 ·rintro k v G1 G2 hk ⟨g,us,hu,hD,bs,eu,lb,hb⟩ ⟨rfl,ev⟩
  have hkr : k < rs.length:=by rw [← hr.1]; exact hk
  have er : rs[k]? = some rs[k]:=List.getElem?_eq_getElem hkr
  generalize rs[k] = r at er
  obtain ⟨a,ea,ha⟩:=hr.2 k r er
  obtain rfl : V.ref a = v:=Option.some.inj (ea.symm.trans ev)
  refine ⟨wipe_one σ i _,htt _ G2 _ (iteT (hte a r G2 _ (g _ _ ha) fun b nb=>?_))⟩
  have sb : Same G2 (upd G2 b (.tup [.str r.word,.str r.h,.int r.k])):=same_upd nb
  have hb' : (upd G2 b (.tup [.str r.word,.str r.h,.int r.k])) b = some (.tup [.str r.word,.str r.h,.int r.k]):=upd_same
  generalize upd G2 b (.tup [.str r.word,.str r.h,.int r.k]) = G3 at sb hb' ⊢
  have hD3:=sb _ _ hD
  have tup : ∀ c ys,G3 c = some (.tup ys)→(upd G3 D (.lst (us ++ [.ref b]))) c = some (.tup ys):=fun c ys e=>by
   rw [upd_ne (ne_of e hD3 (fun z=>nomatch z))]
   exact e
  refine ⟨us,hD3,small_line (by omega),same_mut (g.trans sb) nD,us ++ [.ref b],by rw [List.length_append,List.length_singleton]; omega,upd_same,bs ++ [b],by rw [eu,List.map_append]; rfl,by rw [take_snoc er,List.length_append,List.length_append,lb]; rfl,fun j c t ec et=>?_⟩
  rw [take_snoc er] at et
  by_cases hj : j < bs.length
  ·rw [List.getElem?_append_left hj] at ec
   rw [List.getElem?_append_left (by omega)] at et
   exact tup _ _ (sb _ _ (hb j c t ec et))
  ·have ej : j = bs.length:=by
    have:=(List.getElem?_eq_some_iff.mp ec).1
    rw [List.length_append,List.length_singleton] at this
    omega
   subst ej
   rw [List.getElem?_append_right (Nat.le_refl _),Nat.sub_self] at ec
   rw [lb,List.getElem?_append_right (Nat.le_refl _),Nat.sub_self] at et
   obtain rfl : b = c:=Option.some.inj ec
   obtain rfl : r = t:=Option.some.inj et
   exact tup _ _ hb'
 ·rintro G ⟨g,us,lu,hD,bs,rfl,lb,hb⟩
  rw [hr.1,List.take_length] at lb hb
  refine hq _ G g hD ?_
  clear hD hq hte htt lr hr hl lu
  induction bs generalizing rs with
  | nil =>
   cases rs with
   | nil=>exact .nil
   | cons _ _=>exact nomatch lb
  | cons b bs ih =>
   cases rs with
   | nil=>exact nomatch lb
   | cons r rs =>
    refine .cons (.tup (hb 0 b r rfl rfl) (.cons (.str _) (.cons (.str _) (.cons (.int _) .nil)))) (ih (Nat.succ.inj lb) fun j c t e1 e2=>hb (j + 1) c t e1 e2)
theorem book_h {hs : List Str} {rs : List Row} (B : Book hs rs) {r : Row} (m : r∈rs) : r.h∈hs:=by
 have:=B.inn r m
 cases r with
 | ask _ _ _ _ _ _=>exact this.1
 | job _ _ _ _=>exact this
 | all _ _ _=>exact this
def keyA (js : List WJ) (as : List WA) (i : Nat) : Gr.HK:=(hoA js as i,((rkA js as i : Nat) : Int))
def keyJ (js : List WJ) (i : Nat) : Gr.HK:=(hoJ js i,((rkJ js i : Nat) : Int))
theorem keyJ_inj {js : List WJ} {i k : Nat} (hi : i < js.length) (hk : k < js.length) (e : keyJ js i = keyJ js k) : i = k:=by
 have e1:=congrArg Prod.fst e
 have e2:=congrArg Prod.snd e
 exact rk_inj hi hk e1 (Int.ofNat_inj.mp e2)
structure WasP (js : List WJ) (as : List WA) (rs : List Row) (p : PrK) : Prop where
 was : ∃ i x,as[i]? = some x∧p = (keyA js as i,keyJ js x.ch)
 ka : ∃ r,Bk rs "ask" r∧r.key = p.1
 kj : ∃ r,Bk rs "job" r∧r.key = p.2
theorem hd_in {rs : List Row} {wd : Str} {k : Gr.HK} : ((rs.map hd3).any fun z=>PyData.eqv z (.tuple [.str wd,.str k.1,.int k.2])) = true↔∃ r,Bk rs wd r∧r.key = k:=by
 rw [List.any_eq_true]
 constructor
 ·rintro ⟨z,mz,ez⟩
  obtain ⟨r,mr,rfl⟩:=List.mem_map.mp mz
  have : r.word = wd∧r.h = k.1∧r.k = k.2:=by simpa [hd3,PyData.eqv,PyData.eqvAll] using ez
  exact ⟨r,⟨mr,this.1⟩,Prod.ext this.2.1 this.2.2⟩
 ·rintro ⟨r,hr,rfl⟩
  refine ⟨hd3 r,List.mem_map.mpr ⟨r,hr.1,rfl⟩,?_⟩
  have e : hd3 r = .tuple [.str wd,.str r.h,.int r.k]:=by unfold hd3; rw [hr.2]
  have:=hd3_eqv r
  rw [e] at this ⊢
  exact this
theorem hd_sh {wd : Str} {k : Gr.HK} (h1 : PyData.strOk wd = true) (h : PyData.strOk k.1 = true) : SeqAt.shaped (.tuple [.str wd,.str k.1,.int k.2]) = true:=by
 have : Sh (.tuple [.str wd,.str k.1,.int k.2]):=by
  refine ⟨?_,by show 1≤60; decide⟩
  show (PyData.strOk wd && (PyData.strOk k.1 && (true && true))) = true
  rw [h,h1]
  rfl
 exact this.shaped
theorem Pks.nil {H : Hp} : Pks H [] []:=⟨rfl,fun i l e=>nomatch e⟩
theorem Pks.snoc {H : Hp} {us : List V} {ps : List PrK} (h : Pks H us ps) {b x y : Addr} {p : PrK} (e1 : H b = some (.tup [.ref x,.ref y])) (e2 : H x = some (.tup ((Gr.keyOf p.1).map kV))) (e3 : H y = some (.tup ((Gr.keyOf p.2).map kV))) : Pks H (us ++ [.ref b]) (ps ++ [p]):=by
 refine ⟨by rw [List.length_append,List.length_append,h.1]; rfl,fun i t e=>?_⟩
 by_cases hi : i < ps.length
 ·rw [List.getElem?_append_left hi] at e
  rw [List.getElem?_append_left (by rw [h.1]; exact hi)]
  exact h.2 i t e
 ·rw [List.getElem?_append_right (by omega)] at e
  rw [List.getElem?_append_right (by rw [h.1]; omega),h.1]
  cases hj : i - ps.length with
  | zero =>
   rw [hj] at e
   cases e
   exact ⟨b,x,y,rfl,e1,e2,e3⟩
  | succ j =>
   rw [hj] at e
   cases e
structure OldP (js : List WJ) (as : List WA) (k : Nat) (ps : List PrK) : Prop where
 len : ps.length≤k
 old : ∀ p∈ps,∃ i x,i < k∧as[i]? = some x∧p.2 = keyJ js x.ch
 nd : (ps.map Prod.snd).Nodup
theorem OldP.more {js : List WJ} {as : List WA} {k : Nat} {ps : List PrK} (h : OldP js as k ps) : OldP js as (k + 1) ps:=⟨by have:=h.len; omega,fun p m=>let ⟨i,x,l,e⟩:=h.old p m; ⟨i,x,by omega,e⟩,h.nd⟩
theorem ch_lt {hs : List Str} {js : List WJ} {as : List WA} (w : WOk hs js as) {i : Nat} {x : WA} (e : as[i]? = some x) : x.ch < js.length:=by
 obtain ⟨_,_,j,ej,_⟩:=(w.ab x (List.mem_of_getElem? e)).ch
 have:=(List.getElem?_eq_some_iff.mp ej).1
 omega
theorem OldP.snoc {hs : List Str} {js : List WJ} {as : List WA} {k : Nat} {ps : List PrK} {x : WA} {a : Gr.HK} (h : OldP js as k ps) (w : WOk hs js as) (e : as[k]? = some x) : OldP js as (k + 1) (ps ++ [(a,keyJ js x.ch)]):=by
 refine ⟨?_,fun p m=>?_,?_⟩
 ·rw [List.length_append]
  show ps.length + 1≤k + 1
  have:=h.len
  omega
 ·rcases List.mem_append.mp m with m | m
  ·exact h.more.old p m
  ·rw [List.mem_singleton.mp m]
   exact ⟨k,x,Nat.lt_succ_self _,e,rfl⟩
 ·rw [List.map_append]
  refine List.nodup_append.mpr ⟨h.nd,List.nodup_cons.mpr ⟨(fun z=>nomatch z),List.nodup_nil⟩,fun u mu v mv eq=>?_⟩
  obtain ⟨p,mp,rfl⟩:=List.mem_map.mp mu
  rw [List.mem_singleton.mp mv] at eq
  obtain ⟨i,y,li,ey,ep⟩:=h.old p mp
  rw [ep] at eq
  have:=keyJ_inj (ch_lt w ey) (ch_lt w e) eq
  have inc:=w.inc
  obtain ⟨l1,g1⟩:=List.getElem?_eq_some_iff.mp ey
  obtain ⟨l2,g2⟩:=List.getElem?_eq_some_iff.mp e
  rw [List.pairwise_map] at inc
  have pw:=List.pairwise_iff_getElem.mp inc i k l1 l2 li
  rw [g1,g2] at pw
  omega
theorem atp_inj {H : Hp} {v : V} {p q : PrK} (h : Nt.AtP H v p) (g : Nt.AtP H v q) : p = q:=by
 obtain ⟨b,x,y,rfl,e1,e2,e3⟩:=h
 obtain ⟨b',x',y',eb,f1,f2,f3⟩:=g
 cases eb
 have:=e1.symm.trans f1
 simp only [Option.some.injEq,HO.tup.injEq,List.cons.injEq,V.ref.injEq,and_true] at this
 obtain ⟨rfl,rfl⟩:=this
 have k1:=e2.symm.trans f2
 have k2:=e3.symm.trans f3
 simp only [Option.some.injEq,HO.tup.injEq] at k1 k2
 have un : ∀ a b : Gr.HK,(Gr.keyOf a).map kV = (Gr.keyOf b).map kV→a = b:=fun a b z=>by
  have z : [V.str a.1,.int a.2] = [.str b.1,.int b.2]:=z
  injection z with z1 z2
  injection z2 with z2
  injection z1 with z1
  injection z2 with z2
  exact Prod.ext z1 z2
 exact Prod.ext (un _ _ k1) (un _ _ k2)
def sp_true_pairs : Sp:=fun vs H Q _=>∃ (t w l lj la : Addr) (hs gs : List Str) (rs qs : List Addr) (js : List WJ) (as : List WA) (most : Int) (xs : List V) (rws : List Row),vs = [.ref t,.ref w,.ref l]∧TownAt H t hs gs∧WorldAt H w lj la rs qs js as most∧WOk hs js as∧js.length≤100∧hs.length≤6∧(∀ h∈hs,PyData.strOk h = true)∧H l = some (.lst xs)∧Rws H xs rws∧rws.length≤900∧Book hs rws ∧
 ∀ (L : Addr) (us : List V) (ps : List PrK) (H' : Hp),Same H H'→H L = none→H' L = some (.lst us)→Pks H' us ps→(∀ p∈ps,WasP js as rws p)→ps.length≤as.length→(ps.map Prod.snd).Nodup→Q (.ref L) H'
theorem ok_l_true_pairs (T : Txt K mg af fd) : FnOk P w K mg base CX0 2 (af 48) (fd 48) ["town", "world", "rows"] sp_true_pairs:=by
 refine T.F_l_true_pairs.ok sc_l_true_pairs (fun vs H Q E h=>?_) (fun cdv A outer s H vs Q E hr h=>?_)
 ·obtain ⟨t,w,l,lj,la,hs,gs,rs,qs,js,as,most,xs,rws,rfl,_⟩:=h
  rfl
 ·obtain ⟨t,w,l,lj,la,hs,gs,rs,qs,js,as,most,xs,rws,rfl,ht,W,wok,lenj,h6,hok,hl,hrw,hrl,B,q⟩:=h
  refine ⟨_,(pss_cons (ps_asg (pe_call (ok_l_called T) (hr.mono (by first | decide | omega)) (by rfl) T.g_l_called T.F_l_called.kp T.b_l_called .nil pass0 (pa_cons (pv 0) (pa_cons (pv 1) pa_nil))) (pg_tup rfl (pgs_cons (pg_name (i:=3) sc_l_true_pairs.nd rfl (by first | exact Or.inl rfl | exact Or.inr rfl)) (pgs_cons (pg_name (i:=4) sc_l_true_pairs.nd rfl (by first | exact Or.inl rfl | exact Or.inr rfl)) pgs_nil))))
    (pss_cons (ps_setLc (i:=5) (own:=[("row", 6)]) (g:=gName 6) (by rfl) sc_l_true_pairs.nd rfl rfl (sw_true rfl rfl rfl (by decide +kernel)) (pi_list (pv 2)) (blkOk_by (own:=[("row", 6)]) (N:=["town", "world", "rows", "asks", "jobs", "known", "row", "pairs", "at", "ask"]) (sc:=defScope s_l_true_pairs) (by decide +kernel)) (fun _ _ _ _ _=>pg_name (i:=6) sc_l_true_pairs.nd rfl (Or.inl rfl)) (fun _ _ _ _ _=>pts_nil) (fun _ _ _ _ _=>(pe_slice (show SlR _ (rSlT K) from sl_tup) (pv 6) po_none (po_some pe_int))))
    (pss_cons (ps_set (i:=7) sc_l_true_pairs.nd rfl (by first | exact Or.inl rfl | exact Or.inr rfl) (pe_lst pa_nil))
    (pss_cons (ps_for PassesOwn.never rfl (pi_enum (by rfl) T.m_enumerate (pa_cons (pe_ix ix_list (pv 1) pe_int (fun _ _=>rfl)) pa_nil)) (pg_tup rfl (pgs_cons (pg_name (i:=8) sc_l_true_pairs.nd rfl (by first | exact Or.inl rfl | exact Or.inr rfl)) (pgs_cons (pg_name (i:=9) sc_l_true_pairs.nd rfl (by first | exact Or.inl rfl | exact Or.inr rfl)) pgs_nil))) (pss_one (ps_if (PW.pt (pw_and (pt_cmpR (op_inD (un65 hr)) (pe_op op_catT (pe_tup (pa_cons pe_str pa_nil)) (pe_dget (hu_of hr) (pv 3) (pv 8) (fun _ _=>rfl))) (pv 5) (by rfl)) (pw_and1 (pt_cmpR (op_inD (un65 hr)) (pe_op op_catT (pe_tup (pa_cons pe_str pa_nil)) (pe_dget (hu_of hr) (pv 4) (pe_ix ix_list (pv 9) pe_int (fun _ _=>rfl)) (fun _ _=>rfl))) (pv 5) (by rfl))))) (pss_one (ps_expr (pe_bm PySem.F.plainAttrs_list PySem.F.slot_list_append PySem.F.type_list_append mt_append (pv 7) (pa_cons (pe_tup (pa_cons (pe_dget (hu_of hr) (pv 3) (pv 8) (fun _ _=>rfl)) (pa_cons (pe_dget (hu_of hr) (pv 4) (pe_ix ix_list (pv 9) pe_int (fun _ _=>rfl)) (fun _ _=>rfl)) pa_nil))) pa_nil)))) pss_nil)))
    (pss_one (ps_ret (pe_callB (Nt.cr_sortedPr hr.units) (by rfl) T.m_sorted (by decide +kernel) (pa_cons (pv 7) pa_nil)))))))),?_⟩
  have lena : as.length≤js.length:=wok.len
  refine ⟨_,rfl,_,rfl,t,w,lj,la,hs,gs,rs,qs,js,as,most,rfl,ht,W,by omega,by omega,fun pc dA dJ kA kJ H1 s1 hpc hA hJ ndA ndJ nA nJ=>?_⟩
  refine ⟨pc,_,rfl,SqT.of hpc,rfl,_,_,rfl,_,_,rfl,rfl,?_⟩
  refine ⟨_,rfl,l,rfl,⟨_,SqL.of (s1 _ _ hl)⟩,fun D nD=>?_⟩
  refine lc_heads (s1 _ _ hl) (hrw.same s1) (by omega) nD (fun v H2 Kt k=>k) (fun a r H2 Ke ha hk=>?_) (fun us H2 s2 hD dq=>?_)
  ·refine ⟨_,rfl,?_⟩
   dsimp only [tNoPart]
   refine ⟨3,rfl,a,_,rfl,SqT.of ha,nw3 r,fun b nb=>?_⟩
   rw [take3]
   exact hk b nb
  have s12:=s1.trans s2
  refine ⟨Nat.zero_le _,fun L nL=>?_⟩
  have s3 : Same H2 (upd H2 L (.lst [])):=same_upd nL
  have hL : (upd H2 L (.lst [])) L = some (.lst []):=upd_same
  generalize upd H2 L (.lst []) = H3 at s3 hL ⊢
  have s13:=s12.trans s3
  refine ⟨_,rfl,w,_,1,_,rfl,rfl,SqL.of (s13 _ _ W.w),rfl,la,qs.map V.ref,rfl,SqL.of (s13 _ _ W.a),?_⟩
  have nLH:=s12.free nL
  have okh : ∀ r∈rws,PyData.strOk r.h = true:=fun r m=>hok _ (book_h B m)
  refine for_it (walk_enum (K:=K) (a:=la) (xs:=qs.map V.ref)) (fun k σ H'=>(∃ v8 v9 : Option V,σ = [some (.ref t),some (.ref w),some (.ref l),some (.ref dA),some (.ref dJ),some (.ref D),none,some (.ref L),v8,v9])∧Same H2 H'∧∃ us ps,H' L = some (.lst us)∧Pks H' us ps∧(∀ p∈ps,WasP js as rws p)∧OldP js as k ps)
   ⟨⟨none,none,rfl⟩,s3,[],[],hL,Pks.nil,(fun p m=>nomatch m),⟨Nat.le_refl _,(fun p m=>nomatch m),List.nodup_nil⟩⟩ (fun k σ H' _ h=>SqL.of (h.2.1 _ _ (s12 _ _ W.a))) ?_ ?_
  ·rintro k v σ G1 G2 hk ⟨⟨u8,u9,rfl⟩,g1,vs,ps,hLg,pk,hw,hlen⟩ ⟨Tp,x1,x2,rfl,nT,rfl,e1,e2⟩
   obtain rfl : V.int (k : Nat) = x1:=Option.some.inj e1
   have e2 : (qs.map V.ref)[k]? = some x2:=e2
   rw [List.getElem?_map] at e2
   obtain ⟨r,hr1,rfl⟩:=Option.map_eq_some_iff.mp e2
   have hka : k < as.length:=by rw [← W.ca.1]; exact (List.getElem?_eq_some_iff.mp hr1).1
   have hx : as[k]? = some as[k]:=List.getElem?_eq_getElem hka
   generalize as[k] = x at hx
   have sT : Same G1 (upd G1 Tp (.tup [.int (k : Nat),.ref r])):=same_upd nT
   have hT : (upd G1 Tp (.tup [.int (k : Nat),.ref r])) Tp = some (.tup [.int (k : Nat),.ref r]):=upd_same
   generalize upd G1 Tp (.tup [.int (k : Nat),.ref r]) = G3 at sT hT ⊢
   have g3:=g1.trans sT
   have a3:=s12.trans g3
   have W3:=W.same a3
   have hr3:=W3.ca.2 k r x hr1 hx
   have hch : x.ch < js.length:=by
    obtain ⟨_,_,j,ej,_⟩:=(wok.ab x (List.mem_of_getElem? hx)).ch
    have:=(List.getElem?_eq_some_iff.mp ej).1
    omega
   obtain ⟨wo1,wo2⟩:=wok_ho wok
   obtain ⟨ba,eba,hba⟩:=nA.at hka (wo2 k hka)
   obtain ⟨bj,ebj,hbj⟩:=nJ.at hch (wo1 _ hch)
   have t13:=s2.trans g3
   have gA : ∀ G,Same G3 G→DGet G dA (.int (k : Int)) (some (.ref ba)):=fun G s=>by rw [← eba]; exact DGet.k (k:=Sum.inl (k : Int)) (s _ _ (t13 _ _ hA))
   have gJ : ∀ G,Same G3 G→DGet G dJ (.int (x.ch : Int)) (some (.ref bj)):=fun G s=>by rw [← ebj]; exact DGet.k (k:=Sum.inl (x.ch : Int)) (s _ _ (t13 _ _ hJ))
   refine ⟨Tp,_,rfl,SqT.of hT,rfl,_,_,rfl,_,_,rfl,rfl,?_⟩
   refine ⟨(by show 1≤sizeLine; decide),fun c nc=>?_⟩
   have uc : Same G3 (upd G3 c (.tup [.str "ask"])):=same_upd nc
   have hc : (upd G3 c (.tup [.str "ask"])) c = some (.tup [.str "ask"]):=upd_same
   generalize upd G3 c (.tup [.str "ask"]) = G4 at uc hc ⊢
   have skip : ∀ G,Same G3 G→(∃ v8 v9 : Option V,[some (V.ref t),some (.ref w),some (.ref l),some (.ref dA),some (.ref dJ),some (.ref D),none,some (.ref L),some (.int (k : Nat)),some (.ref r)] = [some (V.ref t),some (.ref w),some (.ref l),some (.ref dA),some (.ref dJ),some (.ref D),none,some (.ref L),v8,v9])∧Same H2 G∧∃ us ps,G L = some (.lst us)∧Pks G us ps∧(∀ p∈ps,WasP js as rws p)∧OldP js as (k + 1) ps :=
    fun G s=>⟨⟨_,_,rfl⟩,g3.trans s,vs,ps,s _ _ (sT _ _ hLg),pk.same (sT.trans s),hw,hlen.more⟩
   refine ⟨_,rfl,_,rfl,dA,_,rfl,gA _ uc,c,ba,_,_,rfl,rfl,SqT.of hc,SqT.of (uc _ _ (t13 _ _ hba)),(fun z=>nomatch z),(by show 3≤sizeLine; decide),(fun z=>nomatch z),fun _ e ne=>?_⟩
   have ue : Same G4 (upd G4 e (.tup [.str "ask", .str (keyA js as k).1,.int (keyA js as k).2])):=same_upd ne
   have he : (upd G4 e (.tup [.str "ask", .str (keyA js as k).1,.int (keyA js as k).2])) e = some (.tup [.str "ask", .str (keyA js as k).1,.int (keyA js as k).2]):=upd_same
   have v4:=uc.trans ue
   have dq5:=dq.same (g3.trans v4)
   have hD5:=(g3.trans v4) _ _ hD
   refine ⟨_,rfl,.tuple [.str "ask", .str (keyA js as k).1,.int (keyA js as k).2],rws.map hd3,Dp.tup (SqT.of he) (.cons (.str _) (.cons (.str _) (.cons (.int _) .nil))),Dp.lst (SqL.of hD5) dq5.dp,hd_sh (by decide +kernel) (hok _ (wo2 k hka)),(hd3s_sh okh).shaped,_,rfl,ite2 (fun z1=>?_) (fun _=>iteF (skip _ v4))⟩
   have ka:=hd_in.mp z1
   refine ⟨(by show 1≤sizeLine; decide),fun c2 nc2=>?_⟩
   have u5 : Same (upd G4 e (.tup [.str "ask", .str (keyA js as k).1,.int (keyA js as k).2])) (upd (upd G4 e (.tup [.str "ask", .str (keyA js as k).1,.int (keyA js as k).2])) c2 (.tup [.str "job"])):=same_upd nc2
   have hc2 : (upd (upd G4 e (.tup [.str "ask", .str (keyA js as k).1,.int (keyA js as k).2])) c2 (.tup [.str "job"])) c2 = some (.tup [.str "job"]):=upd_same
   have v5:=v4.trans u5
   refine ⟨_,rfl,_,rfl,r,_,4,_,rfl,rfl,SqL.of (v5 _ _ hr3),rfl,dJ,_,rfl,gJ _ v5,c2,bj,_,_,rfl,rfl,SqT.of hc2,SqT.of (v5 _ _ (t13 _ _ hbj)),(fun z=>nomatch z),(by show 3≤sizeLine; decide),(fun z=>nomatch z),fun _ e2 ne2=>?_⟩
   generalize eG5 : upd (upd G4 e (.tup [.str "ask", .str (keyA js as k).1,.int (keyA js as k).2])) c2 (.tup [.str "job"]) = G5 at u5 hc2 v5
   have ne2 : G5 e2 = none:=by rw [← eG5]; exact ne2
   have u6 : Same G5 (upd G5 e2 (.tup [.str "job", .str (keyJ js x.ch).1,.int (keyJ js x.ch).2])):=same_upd ne2
   have he2 : (upd G5 e2 (.tup [.str "job", .str (keyJ js x.ch).1,.int (keyJ js x.ch).2])) e2 = some (.tup [.str "job", .str (keyJ js x.ch).1,.int (keyJ js x.ch).2]):=upd_same
   have v6:=v5.trans u6
   have dq6:=dq.same (g3.trans v6)
   have hD6:=(g3.trans v6) _ _ hD
   have inn : ∀ {Qn : VK},(∀ z : Bool,(z = true↔∃ r,Bk rws "job" r∧r.key = keyJ js x.ch)→Qn (.bl z) (upd G5 e2 (.tup [.str "job", .str (keyJ js x.ch).1,.int (keyJ js x.ch).2])))→rInD K (.ref e2) (.ref D) (upd G5 e2 (.tup [.str "job", .str (keyJ js x.ch).1,.int (keyJ js x.ch).2])) Qn:=fun qn =>
    ⟨.tuple [.str "job", .str (keyJ js x.ch).1,.int (keyJ js x.ch).2],rws.map hd3,Dp.tup (SqT.of he2) (.cons (.str _) (.cons (.str _) (.cons (.int _) .nil))),Dp.lst (SqL.of hD6) dq6.dp,hd_sh (by decide +kernel) (hok _ (wo1 _ hch)),(hd3s_sh okh).shaped,qn _ hd_in⟩
   generalize eG6 : upd G5 e2 (.tup [.str "job", .str (keyJ js x.ch).1,.int (keyJ js x.ch).2]) = G6 at u6 he2 v6 dq6 hD6 inn
   refine ⟨_,rfl,?_⟩
   subst eG5
   have inn':=@inn
   rw [← eG6] at inn'
   refine inn' fun z hz=>⟨z,rfl,?_⟩
   refine ite2 (fun z1=>?_) (fun _=>skip _ (by rw [← eG6] at v6; exact v6))
   have kj:=hz.mp z1
   rw [← eG6] at v6
   have hLg6:=v6 _ _ (sT _ _ hLg)
   refine ⟨_,rfl,.inl ⟨rfl,_,SqL.of hLg6⟩,_,rfl,_,rfl,dA,_,rfl,gA _ v6,_,rfl,_,rfl,r,_,4,_,rfl,rfl,SqL.of (v6 _ _ hr3),rfl,dJ,_,rfl,gJ _ v6,(by show 2≤sizeLine; decide),fun f nf=>?_⟩
   have uf:=same_upd (o:=.tup [.ref ba,.ref bj]) nf
   have v7:=v6.trans uf
   have pk7:=(pk.same (sT.trans v7)).snoc (p:=(keyA js as k,keyJ js x.ch)) (upd_same : (upd _ f (.tup [.ref ba,.ref bj])) f = _) (v7 _ _ (t13 _ _ hba)) (v7 _ _ (t13 _ _ hbj))
   have hL7:=uf _ _ hLg6
   refine ⟨L,vs,_,rfl,rfl,hL7,small_line (by rw [pk.1]; have:=hlen.len; omega),⟨_,_,rfl⟩,same_mut (g3.trans v7) nL,_,_,upd_same,pk7.go fun c ys e=>?_,fun p m=>?_,?_⟩
   ·rw [upd_ne (ne_of e hL7 (fun z=>nomatch z))]
    exact e
   ·rcases List.mem_append.mp m with m | m
    ·exact hw p m
    ·rw [List.mem_singleton.mp m]
     exact ⟨⟨k,x,hx,rfl⟩,ka,kj⟩
   ·exact hlen.snoc wok hx
  ·rintro σ G1 ⟨⟨u8,u9,rfl⟩,g1,vs,ps,hLg,pk,hw,hlen⟩
   have : ∀ v : V,∃ p : PrK,v∈vs→Nt.AtP G1 v p∧WasP js as rws p:=fun v=>by
    by_cases m : v∈vs
    ·obtain ⟨i,hi⟩:=List.getElem?_of_mem m
     have hip : i < ps.length:=by rw [← pk.1]; exact (List.getElem?_eq_some_iff.mp hi).1
     have ep : ps[i]? = some ps[i]:=List.getElem?_eq_getElem hip
     obtain ⟨b,x,y,e1,e2,e3,e4⟩:=pk.2 i _ ep
     obtain rfl : V.ref b = v:=Option.some.inj (e1.symm.trans hi)
     exact ⟨ps[i],fun _=>⟨⟨b,x,y,rfl,e2,e3,e4⟩,hw _ (List.mem_of_getElem? ep)⟩⟩
    ·exact ⟨((("", 0),("", 0)) : PrK),fun z=>absurd z m⟩
   obtain ⟨f,hf⟩:=Classical.axiomOfChoice this
   refine ⟨_,rfl,L,vs,f,rfl,SqL.of hLg,fun x m=>(hf x m).1,fun ys L2 _ stb nL2=>?_⟩
   have pm:=stb.perm
   have g2:=g1.trans (same_upd (o:=.lst ys) nL2)
   refine q L2 ys (ys.map f) _ (s12.trans g2) ((s12.trans g1).free nL2) upd_same ⟨by rw [List.length_map],fun i p e=>?_⟩ (fun p m=>?_) (by rw [List.length_map,pm.length_eq,pk.1]; have hl:=hlen.len; rw [List.length_map,W.ca.1] at hl; exact hl) ?_
   ·rw [List.getElem?_map] at e
    obtain ⟨v,ev,rfl⟩:=Option.map_eq_some_iff.mp e
    obtain ⟨b,x,y,rfl,e2,e3,e4⟩:=(hf v (pm.mem_iff.mp (List.mem_of_getElem? ev))).1
    exact ⟨b,x,y,ev,same_upd nL2 _ _ e2,same_upd nL2 _ _ e3,same_upd nL2 _ _ e4⟩
   ·obtain ⟨v,mv,rfl⟩:=List.mem_map.mp m
    exact (hf v (pm.mem_iff.mp mv)).2
   ·have ef : vs.map f = ps:=by
     refine List.ext_getElem? fun i=>?_
     rw [List.getElem?_map]
     cases e : ps[i]? with
     | none =>
      have:=List.getElem?_eq_none_iff.mp e
      rw [List.getElem?_eq_none (by rw [pk.1]; exact this)]
      rfl
     | some p =>
      obtain ⟨b,x,y,e1,e2,e3,e4⟩:=pk.2 i p e
      rw [e1]
      have m : V.ref b∈vs:=List.mem_of_getElem? e1
      exact congrArg some (atp_inj (hf _ m).1 ⟨b,x,y,rfl,e2,e3,e4⟩)
    have pm2:=(pm.map f).map Prod.snd
    rw [ef] at pm2
    exact pm2.nodup_iff.mpr hlen.nd
def sp_gated : Sp:=fun vs H Q _=>∃ (p c : Addr) (most : Nat),vs = [.ref p,.int most]∧Pen H p c∧1≤most∧most≤6 ∧
 ∀ (t : Addr) (hs gs : List Str) (H' : Hp),Stp p c H H'→TownAt H' t hs gs→Good hs gs most→Q (.ref t) H'
theorem ok_l_gated (T : Txt K mg af fd) : FnOk P w K mg base CX0 5 (af 49) (fd 49) ["pen", "most"] sp_gated:=by
 refine T.F_l_gated.ok sc_l_gated (fun vs H Q E h=>?_) (fun cdv A outer s H vs Q E hr h=>?_)
 ·obtain ⟨p,c,most,rfl,_⟩:=h
  rfl
 ·obtain ⟨p,c,most,rfl,hP,m1,m6,q⟩:=h
  refine ⟨_,(pss_cons (ps_set (i:=2) sc_l_gated.nd rfl (by first | exact Or.inl rfl | exact Or.inr rfl) (pe_call (ok_l_town T) (hr.mono (by first | decide | omega)) (by rfl) T.g_l_town T.F_l_town.kp T.b_l_town .nil pass0 (pa_cons (pv 0) (pa_cons (pv 1) pa_nil))))
    (pss_cons (ps_if (pt_cmpR (op_eqD hr.units) (pe_ix ix_tup (pv 2) pe_int (fun _ _=>rfl)) (pe_tup pa_nil) (nomark _)) (pss_one (ps_ret (pe_tup (pa_cons (pe_ix ix_tup (pv 2) pe_int (fun _ _=>rfl)) (pa_cons (pe_slice sl_tupA (pe_ix ix_tup (pv 2) pe_int (fun _ _=>rfl)) po_none (po_some pe_int)) pa_nil))))) pss_nil)
    (pss_one (ps_ret (pv 2))))),?_⟩
  refine ⟨_,rfl,_,rfl,p,c,most,rfl,hP,m1,m6,fun t hs gs H1 s1 ht hg=>?_⟩
  have ht0:=ht
  obtain ⟨a,b,h1,h2,h3⟩:=ht
  have hok : ∀ h∈gs,PyData.strOk h = true:=fun h m=>(hg.hou h (hg.sub.subset m)).ok
  refine ⟨_,rfl,t,_,1,_,rfl,rfl,SqT.of h1,rfl,Nat.zero_le _,fun e ne=>?_⟩
  have P1:=s1.1
  have s2:=(Stp.refl P1).new (o:=.tup []) P1 ne
  have u1:=s2.tup P1 h1
  have u2:=s2.tup P1 h2
  have u3:=s2.tup P1 h3
  have ue : (upd H1 e (.tup [])) e = some (.tup []):=upd_same
  generalize upd H1 e (.tup []) = G1 at s2 u1 u2 u3 ue ⊢
  have P2:=s2.1
  have s12:=s1.trans s2
  refine ⟨.tuple (gs.map PyData.str),.tuple [],Dp.tup (SqT.of u3) (dp_strs gs),Dp.tup (SqT.of ue) .nil,shaped_tup_strs hok,rfl,_,rfl,ite2 (fun e1=>?_) (fun e1=>?_)⟩
  ·refine ⟨_,rfl,t,_,0,_,rfl,rfl,SqT.of u1,rfl,_,rfl,t,_,0,_,rfl,rfl,SqT.of u1,rfl,?_⟩
   dsimp only [tNoPart]
   have ec : cutV (hs.map V.str) none (some 1) = (hs.take 1).map V.str:=by
    rw [show (1 : Int) = ((1 : Nat) : Int) from rfl,cut_to,List.map_take]
   have good : Good hs (hs.take 1) most:=⟨hg.one,hg.few,hg.nd,hg.up,hg.hou,List.take_sublist 1 hs⟩
   refine ⟨1,rfl,a,_,rfl,SqT.of u2,fun w=>?_,fun w b2 nb2=>?_⟩
   ·refine ⟨(by show 2≤sizeLine; decide),fun t2 nt2=>?_⟩
    have s3:=(Stp.refl P2).new (o:=.tup [.ref a,.ref a]) P2 nt2
    have e1 : hs.length = 1:=by
     have:=w.2
     rw [List.length_map,show (1 : Int) = ((1 : Nat) : Int) from rfl,HT.sIx_nat] at this
     have:=hg.one
     omega
    have e2 : hs.take 1 = hs:=by rw [← e1,List.take_length]
    rw [e2] at good
    exact q t2 hs hs _ (s12.trans s3) ⟨a,a,upd_same,s3.tup P2 u2,s3.tup P2 u2⟩ good
   ·have s3:=(Stp.refl P2).new (o:=.tup (cutV (hs.map V.str) none (some 1))) P2 nb2
    refine ⟨(by show 2≤sizeLine; decide),fun t2 nt2=>?_⟩
    have s4:=(Stp.refl s3.1).new (o:=.tup [.ref a,.ref b2]) s3.1 nt2
    refine q t2 hs (hs.take 1) _ ((s12.trans s3).trans s4) ⟨a,b2,upd_same,s4.tup s3.1 (s3.tup P2 u2),s4.tup s3.1 (by rw [← ec]; exact upd_same)⟩ good
  ·exact ⟨_,rfl,q t hs gs _ s12 ⟨a,b,u1,u2,u3⟩ hg⟩
theorem ask_in {hs : List Str} {js : List WJ} {as : List WA} {bs : Str→Int} {i : Nat} {x : WA} {j : WJ} (e : as[i]? = some x) (ej : js[x.pl]? = some j) : Bk (wRows hs js as bs) "ask" (.ask j.h x.g (rkA js as i : Nat) (rkJ js x.pl : Nat) (bs j.h + x.o) (bs j.h + x.k)):=by
 refine ⟨List.mem_append_left _ (List.mem_append_right _ (List.mem_map.mpr ⟨i,List.mem_range.mpr (List.getElem?_eq_some_iff.mp e).1,?_⟩)),rfl⟩
 unfold askRow
 rw [e]
 show Row.ask (hoA js as i) _ _ _ (bs (hoA js as i) + _) (bs (hoA js as i) + _) = _
 rw [hoA_at e ej]
theorem val_of_in {κ : Type} [DecidableEq κ] : ∀ {kvs : List (κ × V)} {k : κ} {v : V},(kvs.map (·.1)).Nodup→(k,v)∈kvs→valV kvs k = some v
 | [],_,_,_,m=>nomatch m
 | kv :: kvs,k,v,nd,m=>by
  have nd':=List.nodup_cons.mp nd
  unfold valV
  rw [List.find?_cons]
  by_cases e : kv.1 = k
  ·rcases List.mem_cons.mp m with rfl | m
   ·rw [decide_eq_true e]
    rfl
   ·exact absurd (List.mem_map.mpr ⟨_,m,rfl⟩) (by rw [← e] ; exact nd'.1)
  ·rw [decide_eq_false e]
   rcases List.mem_cons.mp m with rfl | m
   ·exact absurd rfl e
   ·exact val_of_in nd'.2 m
abbrev PF:=Gr.HK→Option Gr.HK
def putF (f : PF) (k v : Gr.HK) : PF:=fun j=>if j = k then some v else f j
def dropF (f : PF) (k : Gr.HK) : PF:=fun j=>if j = k then none else f j
theorem putF_eq (f : PF) (k v : Gr.HK) : putF f k v k = some v:=if_pos rfl
theorem putF_ne (f : PF) (k v : Gr.HK) {j : Gr.HK} (h : j≠k) : putF f k v j = f j:=if_neg h
/-- mates and mates back,but for one that is under way -/
def PMt (M Mb : PF) (x : Option Gr.HK) : Prop:=∀ a b,M a = some b↔(Mb b = some a∧x≠some b)
theorem PMt.drop {M Mb : PF} {o h : Gr.HK} (p : PMt M Mb none) (e : Mb o = some h) : PMt (dropF M h) Mb (some o):=fun a b=>by
 have eo:=(p h o).mpr ⟨e,fun z=>nomatch z⟩
 unfold dropF
 by_cases ha : a = h
 ·rw [if_pos ha]
  constructor
  ·exact fun z=>nomatch z
  ·rintro ⟨e1,e2⟩
   rw [ha] at e1
   have:=(p h b).mpr ⟨e1,fun z=>nomatch z⟩
   rw [eo] at this
   exact absurd this e2
 ·rw [if_neg ha,p]
  constructor
  ·rintro ⟨e1,_⟩
   refine ⟨e1,fun z=>?_⟩
   rw [← Option.some.inj z,e] at e1
   exact ha (Option.some.inj e1).symm
  ·rintro ⟨e1,_⟩
   exact ⟨e1,fun z=>nomatch z⟩
theorem PMt.free {M Mb : PF} {o : Gr.HK} (p : PMt M Mb none) (e : Mb o = none) : PMt M Mb (some o):=fun a b=>by
 rw [p]
 constructor
 ·rintro ⟨e1,_⟩
  refine ⟨e1,fun z=>?_⟩
  rw [← Option.some.inj z,e] at e1
  cases e1
 ·rintro ⟨e1,_⟩
  exact ⟨e1,fun z=>nomatch z⟩
def DMv (H : Hp) (o : Option V) (m : Option Gr.HK) : Prop:=match m with
 | none=>o = none
 | some j=>∃ b,o = some (.ref b)∧H b = some (.tup ((Gr.keyOf j).map kV))
structure DM (H : Hp) (d : Addr) (M : PF) (n : Nat) (kvs : List (List Key × V)) : Prop where
 at_ : H d = some (.dT kvs)
 val : ∀ k,DMv H (valV kvs (Gr.keyOf k)) (M k)
 len : kvs.length≤n
 own : ∀ kv∈kvs,∃ k,kv.1 = Gr.keyOf k
 nd : (kvs.map (·.1)).Nodup
theorem DMv.go {H H' : Hp} {o : Option V} {m : Option Gr.HK} (h : DMv H o m) (s : ∀ b xs,H b = some (.tup xs)→H' b = some (.tup xs)) : DMv H' o m:=by
 cases m with
 | none=>exact h
 | some j=>exact let ⟨b,e1,e2⟩:=h; ⟨b,e1,s _ _ e2⟩
theorem DM.go {H H' : Hp} {d : Addr} {M : PF} {n : Nat} {kvs : List (List Key × V)} (h : DM H d M n kvs) (e : H' d = some (.dT kvs)) (s : ∀ b xs,H b = some (.tup xs)→H' b = some (.tup xs)) : DM H' d M n kvs:=⟨e,fun k=>(h.val k).go s,h.len,h.own,h.nd⟩
theorem DM.get {H : Hp} {d b : Addr} {M : PF} {n : Nat} {kvs : List (List Key × V)} {k : Gr.HK} (h : DM H d M n kvs) (e : H b = some (.tup ((Gr.keyOf k).map kV))) : (M k = none∧DGet H d (.ref b) none)∨∃ j c,M k = some j∧DGet H d (.ref b) (some (.ref c))∧H c = some (.tup ((Gr.keyOf j).map kV)):=by
 have g:=DGet.t (k:=Gr.keyOf k) h.at_ e
 have v:=h.val k
 cases hm : M k with
 | none =>
  rw [hm] at v
  rw [show valV kvs (Gr.keyOf k) = none from v] at g
  exact .inl ⟨rfl,g⟩
 | some j =>
  rw [hm] at v
  obtain ⟨c,e1,e2⟩:=v
  rw [e1] at g
  exact .inr ⟨j,c,rfl,g,e2⟩
theorem dm_put_nd {kvs : List (List Key × V)} {k : List Key} {v : V} (h : (kvs.map (·.1)).Nodup) : ((putK kvs k v).map (·.1)).Nodup:=by
 rw [put_keys]
 by_cases m : k∈kvs.map (·.1)
 ·rw [if_pos m,List.append_nil]
  exact h
 ·rw [if_neg m]
  refine List.nodup_append.mpr ⟨h,List.nodup_cons.mpr ⟨(fun z=>nomatch z),List.nodup_nil⟩,fun a ma b mb e=>m ?_⟩
  rw [List.mem_singleton.mp mb] at e
  rw [← e]
  exact ma
theorem DM.put {H : Hp} {d b c : Addr} {M : PF} {n : Nat} {kvs : List (List Key × V)} {k j : Gr.HK} (h : DM H d M n kvs) (eb : H b = some (.tup ((Gr.keyOf k).map kV))) (ec : H c = some (.tup ((Gr.keyOf j).map kV))) (hn : n < sizeLine) :
  DPut H d (.ref b) (.ref c) (upd H d (.dT (putK kvs (Gr.keyOf k) (.ref c))))∧DM (upd H d (.dT (putK kvs (Gr.keyOf k) (.ref c)))) d (putF M k j) (n + 1) (putK kvs (Gr.keyOf k) (.ref c)):=by
 have keep : ∀ a xs,H a = some (.tup xs)→(upd H d (.dT (putK kvs (Gr.keyOf k) (.ref c)))) a = some (.tup xs):=fun a xs e=>by rw [upd_ne (ne_of e h.at_ (fun z=>nomatch z))]; exact e
 refine ⟨DPut.t h.at_ eb (Nat.lt_of_le_of_lt h.len hn),upd_same,fun x=>?_,put_len h.len,fun kv m=>?_,dm_put_nd h.nd⟩
 ·rw [valV_put]
  by_cases e : x = k
  ·subst e
   rw [if_pos rfl,putF_eq]
   exact ⟨c,rfl,keep _ _ ec⟩
  ·rw [if_neg (fun z=>e (keyOf_inj z)),putF_ne _ _ _ e]
   exact (h.val x).go keep
 ·rcases put_mem m with ⟨m,_⟩ | rfl
  ·exact h.own kv m
  ·exact ⟨k,rfl⟩
theorem valT_drop {kvs : List (List Key × V)} {k j : List Key} (n : j≠k) : valV (dropK kvs k) j = valV kvs j:=by
 unfold dropK
 induction kvs with
 | nil=>rfl
 | cons x l ih =>
  rw [List.filter_cons]
  by_cases c : x.1 = k
  ·rw [if_neg (by simp [c]),ih,valV_neg (fun z=>n (z.symm.trans c))]
  ·rw [if_pos (decide_eq_true c)]
   by_cases e : x.1 = j
   ·rw [valV_pos e,valV_pos e]
   ·rw [valV_neg e,valV_neg e,ih]
theorem valT_gone {kvs : List (List Key × V)} {k : List Key} : valV (dropK kvs k) k = none:=by
 unfold dropK
 induction kvs with
 | nil=>rfl
 | cons x l ih =>
  rw [List.filter_cons]
  by_cases c : x.1 = k
  ·rw [if_neg (by simp [c]),ih]
  ·rw [if_pos (decide_eq_true c),valV_neg c,ih]
theorem DM.drop {H : Hp} {d : Addr} {M : PF} {n : Nat} {kvs : List (List Key × V)} {k : Gr.HK} (h : DM H d M n kvs) : DM (upd H d (.dT (dropK kvs (Gr.keyOf k)))) d (dropF M k) n (dropK kvs (Gr.keyOf k)):=by
 have keep : ∀ a xs,H a = some (.tup xs)→(upd H d (.dT (dropK kvs (Gr.keyOf k)))) a = some (.tup xs):=fun a xs e=>by rw [upd_ne (ne_of e h.at_ (fun z=>nomatch z))]; exact e
 refine ⟨upd_same,fun x=>?_,Nat.le_trans (List.length_filter_le _ _) h.len,fun kv m=>h.own kv (List.mem_filter.mp m).1,?_⟩
 ·unfold dropF
  by_cases e : x = k
  ·subst e
   rw [if_pos rfl,valT_gone]
   rfl
  ·rw [if_neg e,valT_drop (fun z=>e (keyOf_inj z))]
   exact (h.val x).go keep
 ·exact h.nd.sublist (List.filter_sublist.map _)
def madeIn (rs : List Row) (a : Gr.HK) : Gr.HK:=match rowOf rs "ask" a with
 | some r=>(r.h,r.x3)
 | none=>a
def upF (rs : List Row) (ps : List PrK) : PF:=fun j=>(ps.find? fun p=>decide (p.2 = j)).map fun p=>madeIn rs p.1
structure Tel (rs : List Row) (ps : List PrK) : Prop where
 kn : ∀ p∈ps,∃ r,rowOf rs "ask" p.1 = some r
 nd : (ps.map Prod.snd).Nodup
 rk : ∃ rk : Gr.HK→Nat,(∀ p∈ps,rk (madeIn rs p.1) < rk p.2)∧∀ k,rk k≤20
def upsN (up : PF) : Nat→Gr.HK→List Gr.HK
 | 0,_=>[]
 | n + 1,j=>match up j with
  | none=>[]
  | some u=>u :: upsN up n u
def restN (up : PF) (m : Nat) : Option Gr.HK→List Gr.HK
 | none=>[]
 | some u=>u :: upsN up m u
theorem upsN_rest (up : PF) (m : Nat) (j : Gr.HK) : upsN up (m + 1) j = restN up m (up j):=by
 show (match up j with | none=>[] | some u=>u :: upsN up m u) = _
 cases up j <;> rfl
theorem upF_some {rs : List Row} {ps : List PrK} {j u : Gr.HK} (h : upF rs ps j = some u) : ∃ p∈ps,p.2 = j∧u = madeIn rs p.1:=by
 obtain ⟨p,e1,e2⟩:=Option.map_eq_some_iff.mp h
 exact ⟨p,List.mem_of_find?_eq_some e1,of_decide_eq_true (List.find?_some (p:=fun p : PrK=>decide (p.2 = j)) e1),e2.symm⟩
theorem upF_none {rs : List Row} {ps : List PrK} {j : Gr.HK} (h : upF rs ps j = none) : ∀ p∈ps,p.2≠j:=fun p m e=>by
 have h1:=Option.map_eq_none_iff.mp h
 have:=List.find?_eq_none.mp h1 p m
 exact this (decide_eq_true e)
theorem upF_mem {rs : List Row} {ps : List PrK} (nd : (ps.map Prod.snd).Nodup) {p : PrK} (m : p∈ps) : upF rs ps p.2 = some (madeIn rs p.1):=by
 cases h : upF rs ps p.2 with
 | none=>exact absurd rfl (upF_none h p m)
 | some u =>
  obtain ⟨q,mq,e1,e2⟩:=upF_some h
  have : q = p:=by
   rw [List.nodup_iff_pairwise_ne,List.pairwise_map] at nd
   obtain ⟨i,hi⟩:=List.getElem?_of_mem mq
   obtain ⟨k,hk⟩:=List.getElem?_of_mem m
   obtain ⟨li,gi⟩:=List.getElem?_eq_some_iff.mp hi
   obtain ⟨lk,gk⟩:=List.getElem?_eq_some_iff.mp hk
   have pw:=List.pairwise_iff_getElem.mp nd
   rcases Nat.lt_trichotomy i k with c | c | c
   ·exact absurd (by rw [gi,gk]; exact e1) (pw i k li lk c)
   ·subst c
    rw [← gi,← gk]
   ·exact absurd (by rw [gi,gk]; exact e1.symm) (pw k i lk li c)
  rw [e2,this]
theorem upF_take {rs : List Row} {ps : List PrK} {i : Nat} {p : PrK} (nd : (ps.map Prod.snd).Nodup) (e : ps[i]? = some p) : upF rs (ps.take (i + 1)) = putF (upF rs (ps.take i)) p.2 (madeIn rs p.1):=by
 have nd' : ((ps.take (i + 1)).map Prod.snd).Nodup:=nd.sublist ((List.take_sublist _ _).map _)
 funext j
 by_cases hj : j = p.2
 ·subst hj
  rw [putF_eq]
  exact upF_mem nd' (by rw [take_snoc e]; exact List.mem_append_right _ (List.mem_singleton.mpr rfl))
 ·rw [putF_ne _ _ _ hj]
  unfold upF
  rw [take_snoc e,List.find?_append]
  cases (ps.take i).find? fun p=>decide (p.2 = j) with
  | some q=>rfl
  | none =>
   show (([p] : List PrK).find? fun p=>decide (p.2 = j)).map _ = none
   rw [List.find?_cons_of_neg (by simpa using fun z=>hj z.symm)]
   rfl
/-- the known asks' rows may be read (the dict may be locked by a walk) -/
def AskD (C : Addr) (H : Hp) (x : Addr) (rs : List Row) : Prop:=∃ (dx dA : Addr) (fs : List (Str × V)) (kA : List (List Key × V)),H x = some (.ins C dx fs)∧fs.lookup ("ask_rows" : Str) = some (.ref dA)∧Rd H dA (.dT kA) ∧
 ∀ (k : Gr.HK) (r : Row),rowOf rs "ask" k = some r→∃ a,valV kA (Gr.keyOf k) = some (.ref a)∧RowAt H a r
theorem AskD.of {C : Addr} {H : Hp} {x : Addr} {rs : List Row} (G : FldT C H x "ask_rows" (Bk rs "ask")) : AskD C H x rs:=by
 obtain ⟨dx,dA,fs,kA,l1,l2,l3,l4,l5⟩:=G.ex
 refine ⟨dx,dA,fs,kA,l1,l2,.inl l3,fun k r er=>?_⟩
 rcases l4.find G.un k with ⟨aA,r1,f1,f2,f3,f4⟩ | ⟨f1,_⟩
 ·cases er.symm.trans f1
  exact ⟨aA,f3,f4⟩
 ·rw [er] at f1
  cases f1
def sp_made_in (C : Addr) : Sp:=fun vs H Q _=>∃ (x a : Addr) (rs : List Row) (k : Gr.HK) (r : Row),vs = [.ref x,.ref a]∧AskD C H x rs∧H a = some (.tup ((Gr.keyOf k).map kV))∧rowOf rs "ask" k = some r ∧
 ∀ b,H b = none→Q (.ref b) (upd H b (.tup ((Gr.keyOf (madeIn rs k)).map kV)))
theorem ok_made_in (T : Txt K mg af fd) : FnOk P w K mg base CX0 1 (af 30) (fd 30) ["gaps", "ask"] (sp_made_in (af 62)):=by
 refine T.F_made_in.ok sc_made_in (fun vs H Q E h=>?_) (fun cdv A outer s H vs Q E hr h=>?_)
 ·obtain ⟨x,a,rs,k,r,rfl,_⟩:=h
  rfl
 ·obtain ⟨x,a,rs,k,r,rfl,⟨dx,dA,fs,kA,l1,l2,l3,l4⟩,ha,er,q⟩:=h
  refine ⟨_,(pss_cons (ps_set (i:=2) sc_made_in.nd rfl (by first | exact Or.inl rfl | exact Or.inr rfl) (pe_dget (hu_of hr) (pe_fld (pv 0) rfl) (pv 1) (fun _ _=>rfl)))
    (pss_one (ps_ret (pe_tup (pa_cons (pe_ix ix_tup (pv 2) pe_int (fun _ _=>rfl)) (pa_cons (pe_ix ix_tup (pv 2) pe_int (fun _ _=>rfl)) pa_nil)))))),?_⟩
  obtain ⟨aA,f3,f4⟩:=l4 k r er
  have gA : DGet H dA (.ref a) (valV kA (Gr.keyOf k)):=.inr ⟨kA,Gr.keyOf k,a,l3,rfl,ha,rfl⟩
  rw [f3] at gA
  have em : madeIn rs k = (r.h,r.x3):=by unfold madeIn; rw [er]
  refine ⟨_,rfl,x,_,dx,fs,_,rfl,l1,T.o_Gaps.c,T.o_Gaps.no _ (by simp),l2,_,rfl,dA,_,rfl,gA,?_⟩
  refine ⟨_,rfl,aA,_,1,_,rfl,rfl,SqT.of f4,at1 r,_,rfl,aA,_,3,_,rfl,rfl,SqT.of f4,at3 r,(by show 2≤sizeLine; decide),fun b nb=>?_⟩
  have:=q b nb
  rw [em] at this
  exact this
def sp_uppers (C : Addr) : Sp:=fun vs H Q _=>∃ (x l : Addr) (hs : List Str) (rs : List Row) (us : List V) (ps : List PrK),vs = [.ref x,.ref l]∧GapsAt C H x hs rs∧H l = some (.lst us)∧Pks H us ps∧ps.length≤1000∧Tel rs ps ∧
 ∀ (D : Addr) (kvs : List (List Key × V)) (H' : Hp),Same H H'→H D = none→DM H' D (upF rs ps) ps.length kvs→kvs.map (·.1) = ps.map (fun p=>Gr.keyOf p.2)→Q (.ref D) H'
theorem ok_uppers_of (T : Txt K mg af fd) : FnOk P w K mg base CX0 2 (af 32) (fd 32) ["gaps", "telling"] (sp_uppers (af 62)):=by
 refine T.F_uppers_of.ok sc_uppers_of (fun vs H Q E h=>?_) (fun cdv A outer s H vs Q E hr h=>?_)
 ·obtain ⟨x,l,hs,rs,us,ps,rfl,_⟩:=h
  rfl
 ·obtain ⟨x,l,hs,rs,us,ps,rfl,G,hl,hps,hlen,ok,q⟩:=h
  refine ⟨_,(pss_one (ps_ret (Gr.pe_dcd true (own:=[("ask", 2),("job", 3)]) (g:=gTup K 2 (gCons (gName 2) (gCons (gName 3) gNil))) (hu_of hr) (by rfl) sc_uppers_of.nd (pi_list (pv 1)) (blkOk_by (own:=[("ask", 2),("job", 3)]) (N:=["gaps", "telling", "ask", "job"]) (sc:=defScope s_uppers_of) (by decide +kernel)) (fun _ _ _ _ _=>pg_tup rfl (pgs_cons (pg_name (i:=2) sc_uppers_of.nd rfl (by first | exact Or.inl rfl | exact Or.inr rfl)) (pgs_cons (pg_name (i:=3) sc_uppers_of.nd rfl (by first | exact Or.inl rfl | exact Or.inr rfl)) pgs_nil))) (fun _ _ _ _ _=>pts_nil) (fun _ _ _ _ _=>(pv 3)) (fun _ _ _ _ _=>(pe_call (ok_made_in T) (hr.mono (by first | decide | omega)) (by rfl) T.g_made_in T.F_made_in.kp T.b_made_in .nil pass0 (pa_cons (pv 0) (pa_cons (pv 2) pa_nil))))))),?_⟩
  refine ⟨_,rfl,l,rfl,⟨_,SqL.of hl⟩,fun dM nM=>?_⟩
  refine Gr.dcd_it (walk_list (K:=K) (a:=l) (xs:=us)) (fun i G=>Same H G∧∃ kv,DM G dM (upF rs (ps.take i)) i kv∧kv.map (·.1) = (ps.take i).map fun p=>Gr.keyOf p.2)
   ⟨same_upd nM,[],⟨upd_same,(fun k=>by rw [List.take_zero]; rfl),Nat.le_refl _,(fun kv m=>nomatch m),List.nodup_nil⟩,rfl⟩ (fun i G _ h=>SqL.of (h.1 _ _ hl)) ?_ ?_
  ·rintro i v G1 G2 hi ⟨g,kv,dm,ke⟩ ⟨rfl,hv⟩
   have hir : i < ps.length:=by rw [← hps.1]; exact hi
   have er : ps[i]? = some ps[i]:=List.getElem?_eq_getElem hir
   generalize ps[i] = p at er
   obtain ⟨b,x1,y,e1,e2,e3,e4⟩:=hps.2 i p er
   obtain rfl : V.ref b = v:=Option.some.inj (e1.symm.trans hv)
   obtain ⟨r,hr0⟩:=ok.kn p (List.mem_of_getElem? er)
   refine ⟨b,_,rfl,SqT.of (g _ _ e2),rfl,_,_,rfl,_,_,rfl,rfl,?_⟩
   refine ⟨rfl,yes_if ⟨_,rfl,_,rfl,_,rfl,x,x1,rs,p.1,r,rfl,.of (G.low.a.same g),g _ _ e3,hr0,fun c nc=>?_⟩⟩
   have s2:=same_upd (o:=.tup ((Gr.keyOf (madeIn rs p.1)).map kV)) nc
   have dm1:=dm.go (s2 _ _ dm.at_) fun b xs e=>s2 _ _ e
   obtain ⟨dp,dm2⟩:=dm1.put (s2 _ _ (g _ _ e4)) (upd_same : (upd _ c (.tup ((Gr.keyOf (madeIn rs p.1)).map kV))) c = _) (Nat.lt_of_le_of_lt (show _≤1000 by omega) (by decide))
   refine ⟨_,dp,same_mut (g.trans s2) nM,putK kv (Gr.keyOf p.2) (.ref c),?_,?_⟩
   ·rw [upF_take ok.nd er]
    exact dm2
   ·rw [put_keys,ke,take_snoc er,List.map_append]
    congr 1
    rw [if_neg]
    ·rfl
    ·intro m
     obtain ⟨p',mp,ep⟩:=List.mem_map.mp m
     have nd' : ((ps.take (i + 1)).map Prod.snd).Nodup:=ok.nd.sublist ((List.take_sublist _ _).map _)
     rw [take_snoc er,List.map_append] at nd'
     exact (List.nodup_append.mp nd').2.2 _ (List.mem_map_of_mem mp) _ (List.mem_singleton.mpr rfl) (keyOf_inj ep)
  rintro H1 ⟨s1,kv,hM1,ke⟩
  rw [hps.1,List.take_length] at ke
  rw [hps.1,List.take_length] at hM1
  exact q dM kv H1 s1 nM hM1 ke
def KsL (H : Hp) (us : List V) (ks : List Gr.HK) : Prop:=us.length = ks.length∧∀ (i : Nat) (k : Gr.HK),ks[i]? = some k→∃ b : Addr,us[i]? = some (.ref b)∧H b = some (.tup ((Gr.keyOf k).map kV))
theorem KsL.go {H H' : Hp} {us : List V} {ks : List Gr.HK} (h : KsL H us ks) (s : ∀ b xs,H b = some (.tup xs)→H' b = some (.tup xs)) : KsL H' us ks :=
 ⟨h.1,fun i k e=>let ⟨b,e1,e2⟩:=h.2 i k e; ⟨b,e1,s _ _ e2⟩⟩
theorem same_unlockU {H G : Hp} {d : Addr} {od : Obj} {u : HO} (hd : H d = some u) (s : Same (upd H d (.frz od u)) G) : Same H (upd G d u):=fun b o e=>by
 by_cases h : b = d
 ·subst h
  rw [upd_same,← hd]
  exact e
 ·rw [upd_ne h]
  exact s b o (by rw [upd_ne h]; exact e)
theorem keys_atU {kvs : List (List Key × V)} {ks : List Gr.HK} (hk : kvs.map (·.1) = ks.map Gr.keyOf) {i : Nat} {k : List Key} {v : V} (e : kvs[i]? = some (k,v)) : ∃ x,ks[i]? = some x∧k = Gr.keyOf x:=by
 have:=congrArg (fun l=>l[i]?) hk
 simp only [List.getElem?_map,e,Option.map_some] at this
 obtain ⟨x,e1,e2⟩:=Option.map_eq_some_iff.mp this.symm
 exact ⟨x,e1,e2.symm⟩
theorem hkD_dp {H : Hp} {b : Addr} {k : Gr.HK} (e : H b = some (.tup ((Gr.keyOf k).map kV))) : Dp K H (.ref b) (hkD k):=(Dq.tup (Ex:=fun _=>False) e (.cons (.str _) (.cons (.int _) .nil))).dp
theorem hkD_shaped {k : Gr.HK} (h : PyData.strOk k.1 = true) : SeqAt.shaped (hkD k) = true:=by
 have : Sh (hkD k):=by
  refine ⟨?_,by show 1≤60; decide⟩
  show (PyData.strOk k.1 && (true && true)) = true
  rw [h]
  rfl
 exact this.shaped
theorem hkD_eqv {a b : Gr.HK} : PyData.eqv (hkD a) (hkD b) = decide (a = b):=by
 rw [Bool.eq_iff_iff]
 obtain ⟨a1,a2⟩:=a
 obtain ⟨b1,b2⟩:=b
 simp [hkD,PyData.eqv,PyData.eqvAll]
structure SetI (K : PySem.W.Frag) (P : Program) (w : World) (G : Hp) (D : Addr) (L : List (Addr × List Key)) (S : Gr.HK→Prop) : Prop where
 at_ : G D = some (Ms.SetM P w D L)
 tups : ∀ p∈L,G p.1 = some (.tup (p.2.map kV))
 nd : (L.map Prod.snd).Nodup
 mem : ∀ k : List Key,k∈L.map Prod.snd↔∃ x : Gr.HK,S x∧k = Gr.keyOf x
theorem SetI.new {P : Program} {w : World} {K : PySem.W.Frag} {G : Hp} {D : Addr} {S : Gr.HK→Prop} (h : ∀ x,¬ S x) : SetI K P w (upd G D (Ms.SetM P w D [])) D [] S :=
 ⟨upd_same,(fun p m=>nomatch m),List.nodup_nil,fun k=>⟨fun z=>(nomatch z),fun ⟨x,z,_⟩=>(h x z).elim⟩⟩
theorem SetI.go {P : Program} {w : World} {K : PySem.W.Frag} {G G' : Hp} {D : Addr} {L : List (Addr × List Key)} {S : Gr.HK→Prop} (h : SetI K P w G D L S) (s : Same G G') : SetI K P w G' D L S:=⟨s _ _ h.at_,fun p m=>s _ _ (h.tups p m),h.nd,h.mem⟩
theorem SetI.iff {P : Program} {w : World} {K : PySem.W.Frag} {G : Hp} {D : Addr} {L : List (Addr × List Key)} {S S' : Gr.HK→Prop} (h : SetI K P w G D L S) (e : ∀ x,S x↔S' x) : SetI K P w G D L S':=⟨h.at_,h.tups,h.nd,fun k=>by rw [h.mem]; exact ⟨fun ⟨x,z,y⟩=>⟨x,(e x).mp z,y⟩,fun ⟨x,z,y⟩=>⟨x,(e x).mpr z,y⟩⟩⟩
theorem SetI.few {P : Program} {w : World} {K : PySem.W.Frag} {G : Hp} {D : Addr} {L : List (Addr × List Key)} {S : Gr.HK→Prop} {J : List Gr.HK} {x : Gr.HK} (h : SetI K P w G D L S) (sub : ∀ y,S y→y∈J) (mx : x∈J) (lJ : J.length < 64) (n : Gr.keyOf x ∉ L.map Prod.snd) : L.length + 1 < 64:=by
 have:=Ms.nodup_sub (L:=Gr.keyOf x :: L.map Prod.snd) (ks:=J.map Gr.keyOf) (List.nodup_cons.mpr ⟨n,h.nd⟩) fun k m=>by
  rcases List.mem_cons.mp m with rfl | m
  ·exact List.mem_map.mpr ⟨x,mx,rfl⟩
  ·obtain ⟨y,sy,rfl⟩:=(h.mem k).mp m
   exact List.mem_map.mpr ⟨y,sub y sy,rfl⟩
 rw [List.length_cons,List.length_map,List.length_map] at this
 omega
theorem SetI.add {P : Program} {w : World} {K : PySem.W.Frag} {G : Hp} {D b : Addr} {L L' : List (Addr × List Key)} {S S' : Gr.HK→Prop} {x : Gr.HK} (h : SetI K P w G D L S) (hb : G b = some (.tup ((Gr.keyOf x).map kV))) (e : ∀ y,S' y↔(S y∨y = x))
  (c : Gr.keyOf x∈L.map Prod.snd∧L' = L∨Gr.keyOf x ∉ L.map Prod.snd∧L'.Perm ((b,Gr.keyOf x) :: L)) : SetI K P w (upd G D (Ms.SetM P w D L')) D L' S':=by
 have keep : ∀ {a us},G a = some (.tup us)→(upd G D (Ms.SetM P w D L')) a = some (.tup us):=fun {a us} z=>by rw [upd_ne (ne_of z h.at_ (fun z=>nomatch z))]; exact z
 rcases c with ⟨old,rfl⟩ | ⟨new,pm⟩
 ·refine ⟨upd_same,fun p m=>keep (h.tups p m),h.nd,fun k=>?_⟩
  rw [h.mem]
  constructor
  ·rintro ⟨y,sy,ek⟩
   exact ⟨y,(e y).mpr (.inl sy),ek⟩
  ·rintro ⟨y,sy,ek⟩
   rcases (e y).mp sy with sy | rfl
   ·exact ⟨y,sy,ek⟩
   ·rw [ek]
    exact (h.mem _).mp old
 ·refine ⟨upd_same,fun p m=>?_,(pm.map Prod.snd).nodup_iff.mpr (List.nodup_cons.mpr ⟨new,h.nd⟩),fun k=>?_⟩
  ·rcases List.mem_cons.mp (pm.mem_iff.mp m) with rfl | m
   ·exact keep hb
   ·exact keep (h.tups p m)
  ·rw [(pm.map Prod.snd).mem_iff,List.map_cons,List.mem_cons,h.mem]
   constructor
   ·rintro (rfl | ⟨y,sy,ek⟩)
    ·exact ⟨x,(e x).mpr (.inr rfl),rfl⟩
    ·exact ⟨y,(e y).mpr (.inl sy),ek⟩
   ·rintro ⟨y,sy,rfl⟩
    rcases (e y).mp sy with sy | rfl
    ·exact .inr ⟨y,sy,rfl⟩
    ·exact .inl rfl
theorem st_it {P : Program} {w : World} {J : It} {n : Nat} {G : Hp→Prop} {Yw : Nat→Hp→V→Hp→Prop} (wk : Walk J n G Yw) {g : TG} {tt : TT} {ad : Ms.TAd} {vs : List Nat} {σ : L2.St} {H1 : Hp} {D : Addr} {Qd : Hp→Prop} (Pv : Nat→Hp→Prop) (h0 : Pv 0 (upd H1 D (Ms.SetM P w D []))) (hG : ∀ i H,i≤n→Pv i H→G H)
  (hs : ∀ i x H H',i < n→Pv i H→Yw i H x H'→g x (wipe σ vs) H' fun σ2 H2=>wipe σ2 vs = wipe σ vs∧tt σ2 H2 fun b H3=>if b = true then ad D σ2 H3 (Pv (i + 1)) else Pv (i + 1) H3) (hd : ∀ H,Pv n H→Qd H) :
  ∃ W : Nat→Nat→Hp→Prop,(∃ m,W 0 m (upd H1 D (Ms.SetM P w D [])))∧∀ i m H,W i m H →
   (J.stop i H∧Qd H)∨(J.go i H∧∃ Nx : Hp→Prop,(∀ H',Nx H'→∃ m',m' < m∧W (i + 1) m' H')∧∀ x H',J.yld i H x H'→g x (wipe σ vs) H' fun σ2 H2=>wipe σ2 vs = wipe σ vs∧tt σ2 H2 fun b H3=>if b = true then ad D σ2 H3 Nx else Nx H3):=by
 refine ⟨fun i m H=>m + i = n∧Pv i H,⟨n,rfl,h0⟩,fun i m H ⟨e,p⟩=>?_⟩
 have q:=hG i H (by omega) p
 by_cases lt : i < n
 ·exact .inr ⟨wk.goes i H lt q,Pv (i + 1),fun H' p'=>⟨m - 1,by omega,by omega,p'⟩,fun x H' y=>hs i x H H' lt p (wk.yields i H x H' lt q y)⟩
 ·obtain rfl : i = n:=by omega
  exact .inl ⟨wk.stops H q,hd H p⟩
theorem keyOf_nodup {ks : List Gr.HK} (nd : ks.Nodup) : (ks.map Gr.keyOf).Nodup:=List.pairwise_map.mpr (nd.imp fun n z=>n (keyOf_inj z))
theorem keys_nodup {ks : List Gr.HK} : (ks.map Gr.keyOf).Nodup↔ks.Nodup :=
 ⟨fun h=>(List.pairwise_map.mp h).imp fun n e=>n (congrArg Gr.keyOf e),keyOf_nodup⟩
theorem keys_val {kvs : List (List Key × V)} {ks : List Gr.HK} (hk : kvs.map (·.1) = ks.map Gr.keyOf) {k : Gr.HK} : (valV kvs (Gr.keyOf k)).isSome = true↔k∈ks:=by
 have mk : Gr.keyOf k∈kvs.map (·.1)↔k∈ks:=by
  rw [hk]
  constructor
  ·intro m
   obtain ⟨x,mx,ex⟩:=List.mem_map.mp m
   rw [← keyOf_inj ex]
   exact mx
  ·exact fun m=>List.mem_map.mpr ⟨k,m,rfl⟩
 rw [← mk]
 constructor
 ·intro z
  obtain ⟨v,ev⟩:=Option.isSome_iff_exists.mp z
  exact List.mem_map.mpr ⟨_,val_mem ev,rfl⟩
 ·intro m
  obtain ⟨x,mx,ex⟩:=List.mem_map.mp m
  cases ev : valV kvs (Gr.keyOf k) with
  | some v=>rfl
  | none=>exact absurd (show (Gr.keyOf k,x.2)∈kvs by rw [← ex]; exact mx) (val_none ev _)
def knB (rs : List Row) (wd : Str) (k : Gr.HK) : Bool:=(rowOf rs wd k).isSome
theorem knB_iff {rs : List Row} {wd : Str} {k : Gr.HK} : knB rs wd k = true↔∃ r,Bk rs wd r∧r.key = k:=by
 unfold knB
 constructor
 ·intro h
  obtain ⟨r,e⟩:=Option.isSome_iff_exists.mp h
  exact ⟨r,rowOf_some e⟩
 ·intro h
  cases e : rowOf rs wd k with
  | some r=>rfl
  | none=>exact absurd h (rowOf_none e)
theorem kn_get {H : Hp} {rs : List Row} {wd : Str} {kvs : List (List Key × V)} (d : DRow key2 H (Bk rs wd) kvs) (k : Gr.HK) : (valV kvs (Gr.keyOf k)).isSome = knB rs wd k:=by
 rcases key_mem d k with ⟨v,e,h⟩ | ⟨e,h⟩
 ·rw [e,knB_iff.mpr h]
  rfl
 ·rw [e]
  cases h2 : knB rs wd k with
  | true=>exact absurd (knB_iff.mp h2) h
  | false=>rfl
/-- the keys of such a dict -/
theorem kn_keys {H : Hp} {rs : List Row} {wd : Str} {kvs : List (List Key × V)} (d : DRow key2 H (Bk rs wd) kvs) : ∃ ks : List Gr.HK,kvs.map (·.1) = ks.map Gr.keyOf∧ks.Nodup∧∀ k,k∈ks↔knB rs wd k = true:=by
 have own : ∀ l : List (List Key × V),(∀ kv∈l,kv∈kvs)→∃ ks : List Gr.HK,l.map (·.1) = ks.map Gr.keyOf:=by
  intro l
  induction l with
  | nil=>exact fun _=>⟨[],rfl⟩
  | cons kv l ih =>
   intro h
   obtain ⟨ks,e⟩:=ih fun x m=>h x (List.mem_cons_of_mem _ m)
   obtain ⟨a,r,_,_,_,e2⟩:=d.own kv (h kv List.mem_cons_self)
   exact ⟨r.key :: ks,by rw [List.map_cons,List.map_cons,e,e2]; rfl⟩
 obtain ⟨ks,e⟩:=own kvs fun _ m=>m
 refine ⟨ks,e,?_,fun k=>?_⟩
 ·have:=d.nd
  rw [e] at this
  exact keys_nodup.mp this
 ·rw [← kn_get d k]
  exact (keys_val e).symm
def keysW (rs : List Row) (wd : Str) (f : Row→Gr.HK) : List Gr.HK:=(rs.filter fun r=>decide (r.word = wd)).map f
theorem keysW_len (rs : List Row) (wd : Str) (f : Row→Gr.HK) : (keysW rs wd f).length≤rs.length:=by
 unfold keysW
 rw [List.length_map]
 exact List.length_filter_le _ _
theorem alike_hk (ls : List Gr.HK) : PySem.W.AllAlike (ls.map hkD):=fun d m d' m'=>by
 obtain ⟨t,_,rfl⟩:=List.mem_map.mp m
 obtain ⟨t',_,rfl⟩:=List.mem_map.mp m'
 rfl
theorem sortable_hk (ls : List Gr.HK) : PySem.W.Sortable (ls.map hkD):=.inl fun d m=>by
 obtain ⟨t,_,rfl⟩:=List.mem_map.mp m
 exact ⟨_,_,rfl⟩
theorem keysW_two (f g : Row→Gr.HK) : ∀ rs : List Row,(keysW rs "job" f).length + (keysW rs "ask" g).length≤rs.length
 | []=>Nat.le_refl _
 | r :: rs=>by
  have ih:=keysW_two f g rs
  unfold keysW at ih ⊢
  rw [List.length_map,List.length_map] at ih ⊢
  rw [List.filter_cons,List.filter_cons,List.length_cons]
  by_cases e : r.word = ("job" : Str)
  ·rw [if_pos (decide_eq_true e),if_neg (show ¬ decide (r.word = ("ask" : Str)) = true by rw [e]; decide),List.length_cons]
   omega
  ·rw [if_neg (show ¬ decide (r.word = ("job" : Str)) = true by simpa using e)]
   by_cases e2 : r.word = ("ask" : Str)
   ·rw [if_pos (decide_eq_true e2),List.length_cons]
    omega
   ·rw [if_neg (show ¬ decide (r.word = ("ask" : Str)) = true by simpa using e2)]
    omega
theorem mem_keysW {rs : List Row} {wd : Str} {f : Row→Gr.HK} {k : Gr.HK} : k∈keysW rs wd f↔∃ r,Bk rs wd r∧f r = k:=by
 unfold keysW
 rw [List.mem_map]
 constructor
 ·rintro ⟨r,m,e⟩
  obtain ⟨m1,m2⟩:=List.mem_filter.mp m
  exact ⟨r,⟨m1,of_decide_eq_true m2⟩,e⟩
 ·rintro ⟨r,⟨m1,m2⟩,e⟩
  exact ⟨r,List.mem_filter.mpr ⟨m1,decide_eq_true m2⟩,e⟩
def TreeJ (rs : List Row) (k : Gr.HK) : Prop:=k∈keysW rs "job" Row.key∨k∈keysW rs "ask" fun r=>(r.h,r.x3)
theorem hkD_lt (a b : Gr.HK) : PySem.W.dataLt (hkD a) (hkD b) = Fl.ltD (Gr.datOf a) (Gr.datOf b):=by
 unfold PySem.W.dataLt hkD Fl.ltD Gr.datOf
 rfl
theorem made_mem {rs : List Row} {k : Gr.HK} (h : knB rs "ask" k = true) : madeIn rs k∈keysW rs "ask" fun r=>(r.h,r.x3):=by
 obtain ⟨r,er⟩:=Option.isSome_iff_exists.mp h
 have em : madeIn rs k = (r.h,r.x3):=by unfold madeIn; rw [er]
 rw [em]
 exact mem_keysW.mpr ⟨r,(rowOf_some er).1,rfl⟩
def sp_jobs_of_trees (C : Addr) : Sp:=fun vs H Q _=>∃ (x : Addr) (rs : List Row),vs = [.ref x]∧Low C H x rs∧rs.length≤60 ∧
 ∀ (L : Addr) (us : List V) (ks : List Gr.HK) (H' : Hp),Same H H'→H L = none→H' L = some (.lst us)→KsL H' us ks→SrtK ks→ks.Nodup→(∀ k,k∈ks↔TreeJ rs k)→Q (.ref L) H'
theorem ok_jobs_of_trees (T : Txt K mg af fd) : FnOk P w K mg base CX0 2 (af 31) (fd 31) ["gaps"] (sp_jobs_of_trees (af 62)):=by
 refine T.F_jobs_of_trees.ok sc_jobs_of_trees (fun vs H Q E h=>?_) (fun cdv A outer s H vs Q E hr h=>?_)
 ·obtain ⟨x,rs,rfl,_⟩:=h
  rfl
 ·obtain ⟨x,rs,rfl,G0,len,q⟩:=h
  refine ⟨_,(pss_one (ps_ret (pe_callB (Ms.cr_sortM rfl hr.units) (by rfl) T.m_sorted (by decide +kernel) (pa_cons (pe_op (Ms.op_orM (un3 hr.units)) (pe_lock (Ms.pe_setM (own:=[("ask", 1)]) (g:=gName 1) (by rfl) (un3 hr.units) sc_jobs_of_trees.nd (pi_keys (pe_fld (pv 0) rfl)) (blkOk_by (own:=[("ask", 1)]) (N:=["gaps", "ask"]) (sc:=defScope s_jobs_of_trees) (by decide +kernel)) (fun _ _ _ _ _=>pg_name (i:=1) sc_jobs_of_trees.nd rfl (Or.inl rfl)) (fun _ _ _ _ _=>pts_nil) (fun _ _ _ _ _=>(pe_call (ok_made_in T) (hr.mono (by first | decide | omega)) (by rfl) T.g_made_in T.F_made_in.kp T.b_made_in .nil pass0 (pa_cons (pv 0) (pa_cons (pv 1) pa_nil)))))) (pe_callTy (Ms.cr_setD rfl (un3 hr.units)) (by rfl) T.m_set (by decide +kernel) (pa_cons (pe_fld (pv 0) rfl) pa_nil))) pa_nil)))),?_⟩
  obtain ⟨dxa,dA,fsa,kva,a1,a2,a3,a4,a5⟩:=G0.a.ex
  obtain ⟨dxj,dJ,fsj,kvj,j1,j2,j3,j4,j5⟩:=G0.j.ex
  obtain ⟨ks,ek,nk,mk⟩:=kn_keys a4
  refine ⟨dA,_,a3,trivial,fun od=>?_⟩
  have zA : (upd H dA (.frz od (.dT kva))) dA = some (.frz od (.dT kva)):=upd_same
  have zt : ∀ a xs,H a = some (.tup xs)→(upd H dA (.frz od (.dT kva))) a = some (.tup xs):=fun a xs e=>by rw [upd_ne (ne_of e a3 (fun z=>nomatch z))]; exact e
  have zi : ∀ b C dx fs,H b = some (.ins C dx fs)→(upd H dA (.frz od (.dT kva))) b = some (.ins C dx fs):=fun b C dx fs e=>by rw [upd_ne (ne_of e a3 (fun z=>nomatch z))]; exact e
  have back : ∀ G,Same (upd H dA (.frz od (.dT kva))) G→Same H (upd G dA (.dT kva)):=fun G g=>same_unlockU a3 g
  generalize upd H dA (.frz od (.dT kva)) = Z at zA zt zi back ⊢
  have askD : ∀ G,Same Z G→AskD (af 62) G x rs:=fun G g=>by
   refine ⟨dxa,dA,fsa,kva,g _ _ (zi _ _ _ _ a1),a2,.inr ⟨od,g _ _ zA⟩,fun k r er=>?_⟩
   rcases a4.find G0.a.un k with ⟨aA,r1,f1,f2,f3,f4⟩ | ⟨f1,_⟩
   ·cases er.symm.trans f1
    exact ⟨aA,f3,g _ _ (zt _ _ f4)⟩
   ·rw [er] at f1
    cases f1
  have lks : kva.length = ks.length:=by have:=congrArg List.length ek; rwa [List.length_map,List.length_map] at this
  refine ⟨_,rfl,x,_,dxa,fsa,_,rfl,zi _ _ _ _ a1,T.o_Gaps.c,T.o_Gaps.no _ (by simp),a2,dA,od,rfl,.inr ⟨kva,zA,fun D nD=>?_⟩⟩
  refine st_it (P:=P) (w:=w) (walk_keysT (d:=dA) (o:=od) (kvs:=kva)) (fun i G=>Same Z G∧∃ L,SetI K P w G D L (fun y=>∃ k∈ks.take i,madeIn rs k = y))
   ⟨same_upd nD,[],SetI.new fun y ⟨k,m,_⟩=>by rw [List.take_zero] at m; exact nomatch m⟩ (fun _ _ _ h=>h.1 _ _ zA) ?_ ?_
  ·rintro i v G1 G2 hi ⟨g,L,si⟩ ⟨rfl,kk,vv,c,ekk,rfl,hc⟩
   obtain ⟨a,ea,rfl⟩:=keys_atU ek ekk
   obtain ⟨r,hr0,er0⟩:=knB_iff.mp ((mk a).mp (List.mem_of_getElem? ea))
   obtain ⟨r1,er⟩:=Option.isSome_iff_exists.mp ((mk a).mp (List.mem_of_getElem? ea))
   refine ⟨rfl,yes_if ⟨_,rfl,_,rfl,x,c,rs,a,r1,rfl,askD _ g,hc,er,fun b nb=>?_⟩⟩
   have sb:=same_upd (o:=.tup ((Gr.keyOf (madeIn rs a)).map kV)) nb
   have hb : (upd G2 b (.tup ((Gr.keyOf (madeIn rs a)).map kV))) b = some (.tup ((Gr.keyOf (madeIn rs a)).map kV)):=upd_same
   generalize upd G2 b (.tup ((Gr.keyOf (madeIn rs a)).map kV)) = G3 at sb hb ⊢
   have si3:=si.go sb
   refine ⟨b,Gr.keyOf (madeIn rs a),L,rfl,SqT.of hb,si3.at_,fun p m=>SqT.of (si3.tups p m),fun n=>si3.few (J:=keysW rs "ask" fun r=>(r.h,r.x3)) ?_ ?_ ?_ n,fun L' cc=>⟨same_mut (g.trans sb) nD,L',si3.add hb (fun y=>?_) cc⟩⟩
   ·rintro y ⟨k,mk',rfl⟩
    exact made_mem ((mk k).mp (List.mem_of_mem_take mk'))
   ·exact made_mem ((mk a).mp (List.mem_of_getElem? ea))
   ·have:=keysW_len rs "ask" fun r=>(r.h,r.x3)
    omega
   ·rw [take_snoc ea]
    constructor
    ·rintro ⟨k,m,e⟩
     rcases List.mem_append.mp m with m | m
     ·exact .inl ⟨k,m,e⟩
     ·rw [List.mem_singleton.mp m] at e
      exact .inr e.symm
    ·rintro (⟨k,m,e⟩ | e)
     ·exact ⟨k,List.mem_append_left _ m,e⟩
     ·exact ⟨a,List.mem_append_right _ (List.mem_singleton.mpr rfl),e.symm⟩
  ·rintro G ⟨g,L,si⟩
   rw [lks,List.take_length] at si
   have gb:=back G g
   have hAG:=g _ _ zA
   refine ⟨hAG,?_⟩
   have siU : SetI K P w (upd G dA (.dT kva)) D L (fun y=>∃ k∈ks,madeIn rs k = y):=⟨by rw [upd_ne (ne_of si.at_ hAG (fun z=>nomatch z))]; exact si.at_,fun p m=>by rw [upd_ne (ne_of (si.tups p m) hAG (fun z=>nomatch z))]; exact si.tups p m,si.nd,si.mem⟩
   generalize upd G dA (.dT kva) = G1 at gb siU ⊢
   obtain ⟨ksj,ekj,nkj,mkj⟩:=kn_keys j4
   have lkj : kvj.length = ksj.length:=by have:=congrArg List.length ekj; rwa [List.length_map,List.length_map] at this
   have two:=keysW_two Row.key (fun r=>(r.h,r.x3)) rs
   have subJ : ∀ k∈ksj,k∈keysW rs "job" Row.key:=fun k m=>mem_keysW.mpr (knB_iff.mp ((mkj k).mp m))
   have lJ:=Ms.nodup_sub nkj subJ
   have lA : L.length≤(keysW rs "ask" fun r=>(r.h,r.x3)).length:=by
    have z:=Ms.nodup_sub (ks:=(keysW rs "ask" fun r=>(r.h,r.x3)).map Gr.keyOf) siU.nd fun k m=>by
     obtain ⟨y,⟨k1,m1,rfl⟩,rfl⟩:=(siU.mem k).mp m
     exact List.mem_map_of_mem (made_mem ((mk k1).mp m1))
    rwa [List.length_map,List.length_map] at z
   refine ⟨_,rfl,x,_,dxj,fsj,_,rfl,gb _ _ j1,T.o_Gaps.c,T.o_Gaps.no _ (by simp),j2,dJ,kvj,rfl,gb _ _ j3,by omega,fun S LS nS hLS un=>?_⟩
   have s1 : Same G1 (upd G1 S (Ms.SetM P w S LS)):=same_upd nS
   have hS : (upd G1 S (Ms.SetM P w S LS)) S = some (Ms.SetM P w S LS):=upd_same
   have hLS' : ∀ p∈LS,(upd G1 S (Ms.SetM P w S LS)) p.1 = some (.tup (p.2.map kV)):=fun p m=>s1 _ _ (hLS p m)
   have si2:=siU.go s1
   have nDS : D≠S:=fun e=>by rw [← e,siU.at_] at nS; cases nS
   show Ms.rOrM P w (V.ref D) (V.ref S) (upd G1 S (Ms.SetM P w S LS)) _
   generalize upd G1 S (Ms.SetM P w S LS) = G2 at s1 hS hLS' si2 ⊢
   have lS : LS.length≤ksj.length:=by
    have z:=Ms.nodup_sub un.1 fun k m=>(un.2 k).mp m
    rwa [List.length_map,List.length_map,lkj] at z
   refine ⟨D,S,L,LS,rfl,rfl,si2.at_,hS,nDS,si2.tups,hLS',by omega,fun U LU nU subU ndU memU=>?_⟩
   show Ms.rSortM K P w [V.ref U] (upd G2 U (Ms.SetM P w U LU)) Q
   have s2 : Same G2 (upd G2 U (Ms.SetM P w U LU)):=same_upd nU
   have hU : (upd G2 U (Ms.SetM P w U LU)) U = some (Ms.SetM P w U LU):=upd_same
   generalize upd G2 U (Ms.SetM P w U LU) = G3 at s2 hU ⊢
   have all : ∀ k,k∈LU.map Prod.snd↔∃ y,TreeJ rs y∧k = Gr.keyOf y:=fun k=>by
    rw [memU,siU.mem,un.2,ekj]
    constructor
    ·rintro (⟨y,⟨k1,m1,rfl⟩,rfl⟩ | m)
     ·exact ⟨_,.inr (made_mem ((mk k1).mp m1)),rfl⟩
     ·obtain ⟨y,my,rfl⟩:=List.mem_map.mp m
      exact ⟨y,.inl (subJ y my),rfl⟩
    ·rintro ⟨y,hy | hy,rfl⟩
     ·obtain ⟨r,hr0,e⟩:=mem_keysW.mp hy
      exact .inr (List.mem_map_of_mem ((mkj y).mpr (knB_iff.mpr ⟨r,hr0,e⟩)))
     ·obtain ⟨r,hr0,rfl⟩:=mem_keysW.mp hy
      refine .inl ⟨_,⟨r.key,(mk _).mpr (knB_iff.mpr ⟨r,hr0,rfl⟩),?_⟩,rfl⟩
      rcases hf : rowOf rs "ask" r.key with _ | r1
      ·exact absurd ⟨r,hr0,rfl⟩ (rowOf_none hf)
      ·obtain ⟨b1,e1⟩:=rowOf_some hf
       unfold madeIn
       rw [hf,G0.a.un r1 r b1 hr0 e1]
   have at3 : ∀ p∈LU,∃ y,TreeJ rs y∧p.2 = Gr.keyOf y∧G3 p.1 = some (.tup ((Gr.keyOf y).map kV)):=fun p m=>by
    obtain ⟨y,ty,e⟩:=(all p.2).mp (List.mem_map_of_mem m)
    refine ⟨y,ty,e,s2 _ _ ?_⟩
    rw [← e]
    exact (subU p m).elim (si2.tups p) (hLS' p)
   have eL : LU.map (fun p=>hkD (hkInv p.2)) = (LU.map fun p=>hkInv p.2).map hkD:=by rw [List.map_map]; rfl
   refine ⟨U,LU,fun p=>hkD (hkInv p.2),rfl,hU,fun p m=>?_,by rw [eL]; exact alike_hk _,by rw [eL]; exact sortable_hk _,fun p m=>(by show 1≤50; decide),fun bs p pm up np=>?_⟩
   ·obtain ⟨y,ty,e,hb⟩:=at3 p m
    dsimp only
    rw [e,hkInv_keyOf]
    exact hkD_dp hb
   ·have s4 : Same G3 (upd G3 p (.lst (bs.map fun b=>V.ref b.1))):=same_upd np
    have s04:=((gb.trans s1).trans s2).trans s4
    refine q p _ (bs.map fun b=>hkInv b.2) _ s04 (((gb.trans s1).trans s2).free np) upd_same ⟨by rw [List.length_map,List.length_map],fun i k e=>?_⟩ ?_ ?_ fun k=>?_
    ·rw [List.getElem?_map] at e
     obtain ⟨b,eb,rfl⟩:=Option.map_eq_some_iff.mp e
     obtain ⟨y,ty,e2,hb⟩:=at3 b (pm.mem_iff.mp (List.mem_of_getElem? eb))
     refine ⟨b.1,by rw [List.getElem?_map,eb]; rfl,s4 _ _ ?_⟩
     rw [e2,hkInv_keyOf]
     exact hb
    ·unfold SrtK
     rw [List.pairwise_map]
     refine up.imp fun {a b} h=>?_
     rw [← hkD_lt]
     exact h
    ·have:=(pm.map Prod.snd).nodup_iff.mpr ndU
     rw [List.nodup_iff_pairwise_ne,List.pairwise_map] at this ⊢
     refine this.imp_of_mem fun {a b} ma mb n e=>n ?_
     obtain ⟨y,_,e1,_⟩:=at3 a (pm.mem_iff.mp ma)
     obtain ⟨z,_,e2,_⟩:=at3 b (pm.mem_iff.mp mb)
     rw [e1,e2,hkInv_keyOf,hkInv_keyOf] at e
     rw [e1,e2,e]
    ·rw [List.mem_map]
     constructor
     ·rintro ⟨b,mb,rfl⟩
      obtain ⟨y,ty,e2,_⟩:=at3 b (pm.mem_iff.mp mb)
      rw [e2,hkInv_keyOf]
      exact ty
     ·intro ty
      obtain ⟨b,mb,e⟩:=List.mem_map.mp ((all _).mpr ⟨k,ty,rfl⟩)
      exact ⟨b,pm.mem_iff.mpr mb,by rw [e,hkInv_keyOf]⟩
theorem KsL.snoc {H : Hp} {us : List V} {ks : List Gr.HK} {b : Addr} {k : Gr.HK} (h : KsL H us ks) (e : H b = some (.tup ((Gr.keyOf k).map kV))) : KsL H (us ++ [.ref b]) (ks ++ [k]):=by
 refine ⟨by rw [List.length_append,List.length_append,h.1]; rfl,fun i x ex=>?_⟩
 by_cases hi : i < ks.length
 ·rw [List.getElem?_append_left hi] at ex
  rw [List.getElem?_append_left (by rw [h.1]; exact hi)]
  exact h.2 i x ex
 ·have hi2 : i = ks.length:=by
   have:=(List.getElem?_eq_some_iff.mp ex).1
   rw [List.length_append] at this
   have : i < ks.length + 1:=this
   omega
  subst hi2
  rw [List.getElem?_append_right (Nat.le_refl _),Nat.sub_self] at ex
  obtain rfl:=Option.some.inj ex
  rw [← h.1,List.getElem?_append_right (Nat.le_refl _),Nat.sub_self]
  exact ⟨b,rfl,e⟩
def datV (H : Hp) : V→List PyData
 | .ref b=>match H b with
  | some (.tup us)=>us.map Gr.vD
  | _=>[]
 | _=>[]
def hkV (H : Hp) (v : V) : Gr.HK:=Gr.hkOf (datV H v)
theorem datV_key {H : Hp} {b : Addr} {p : Gr.HK} (h : H b = some (.tup ((Gr.keyOf p).map kV))) : datV H (.ref b) = Gr.datOf p:=by
 show (match H b with
  | some (.tup us)=>us.map Gr.vD
  | _=>[]) = Gr.datOf p
 rw [h]
 rfl
theorem hkV_key {H : Hp} {b : Addr} {p : Gr.HK} (h : H b = some (.tup ((Gr.keyOf p).map kV))) : hkV H (.ref b) = p:=by
 unfold hkV
 rw [datV_key h]
 rfl
theorem KsL.mem {H : Hp} {us : List V} {ks : List Gr.HK} (h : KsL H us ks) {v : V} (m : v∈us) : ∃ b k,v = .ref b∧H b = some (.tup ((Gr.keyOf k).map kV))∧k∈ks:=by
 obtain ⟨i,hi⟩:=List.getElem?_of_mem m
 have hk : i < ks.length:=by rw [← h.1]; exact (List.getElem?_eq_some_iff.mp hi).1
 obtain ⟨b,e1,e2⟩:=h.2 i _ (List.getElem?_eq_getElem hk)
 exact ⟨b,_,Option.some.inj (hi.symm.trans e1),e2,List.getElem_mem hk⟩
theorem KsL.hk {H : Hp} {us : List V} {ks : List Gr.HK} (h : KsL H us ks) : us.map (hkV H) = ks:=by
 apply List.ext_getElem?
 intro i
 rw [List.getElem?_map]
 by_cases hi : i < ks.length
 ·obtain ⟨b,e1,e2⟩:=h.2 i _ (List.getElem?_eq_getElem hi)
  rw [e1,List.getElem?_eq_getElem hi]
  show some (hkV H (.ref b)) = _
  rw [hkV_key e2]
 ·rw [List.getElem?_eq_none (by rw [h.1]; omega),List.getElem?_eq_none (by omega)]
  rfl
def CurV (H : Hp) (v : V) (cur : Option Gr.HK) : Prop:=∃ o,DMv H o cur∧v = o.getD .non
theorem CurV.go {H H' : Hp} {v : V} {cur : Option Gr.HK} (h : CurV H v cur) (s : ∀ b xs,H b = some (.tup xs)→H' b = some (.tup xs)) : CurV H' v cur:=let ⟨o,e1,e2⟩:=h; ⟨o,e1.go s,e2⟩
theorem DM.cur {H : Hp} {d b : Addr} {M : PF} {n : Nat} {kvs : List (List Key × V)} {k : Gr.HK} (h : DM H d M n kvs) (e : H b = some (.tup ((Gr.keyOf k).map kV))) : ∃ o,DGet H d (.ref b) o∧CurV H (o.getD .non) (M k):=by
 rcases h.get e with ⟨em,gd⟩ | ⟨j,c,em,gd,hc⟩
 ·exact ⟨_,gd,_,by rw [em]; rfl,rfl⟩
 ·exact ⟨_,gd,some (.ref c),by rw [em]; exact ⟨c,rfl,hc⟩,rfl⟩
def sp_all_uppers : Sp:=fun vs H Q _=>∃ (d b : Addr) (j : Gr.HK) (up : PF) (n : Nat) (kvs : List (List Key × V)) (rk : Gr.HK→Nat),vs = [.ref d,.ref b]∧DM H d up n kvs∧H b = some (.tup ((Gr.keyOf j).map kV))∧(∀ j u,up j = some u→rk u < rk j)∧(∀ k,rk k≤20) ∧
 ∀ (L : Addr) (us : List V) (H' : Hp),Same H H'→H L = none→H' L = some (.lst us)→KsL H' us (upsN up 21 j)→Q (.ref L) H'
structure UpI (H : Hp) (L : Addr) (up : PF) (j : Gr.HK) (rk : Gr.HK→Nat) (m : Nat) (v : V) (H' : Hp) : Prop where
 s : Same H H'
 ex : ∃ (us : List V) (pre : List Gr.HK) (cur : Option Gr.HK),H' L = some (.lst us)∧KsL H' us pre∧CurV H' v cur∧pre ++ restN up m cur = upsN up 21 j∧(∀ u,cur = some u→rk u < m)∧pre.length + m = 20
theorem ok_all_uppers (T : Txt K mg af fd) : FnOk P w K mg base CX0 1 (af 33) (fd 33) ["uppers", "job"] sp_all_uppers:=by
 refine T.F_all_uppers.ok sc_all_uppers (fun vs H Q E h=>?_) (fun cdv A outer s H vs Q E hr h=>?_)
 ·obtain ⟨d,b,j,up,n,kvs,rk,rfl,_⟩:=h
  rfl
 ·obtain ⟨d,b,j,up,n,kvs,rk,rfl,dm,hb,hrk,hle,q⟩:=h
  refine ⟨_,(pss_cons (ps_set (i:=2) sc_all_uppers.nd rfl (by first | exact Or.inl rfl | exact Or.inr rfl) (pe_lst pa_nil))
    (pss_cons (ps_set (i:=3) sc_all_uppers.nd rfl (by first | exact Or.inl rfl | exact Or.inr rfl) (pe_dget1 (hu_of hr) (pv 0) (pv 1) ⟨by rfl,by rfl,by rfl,by rfl⟩))
    (pss_cons (ps_while PassesOwn.never (pt_cmpR op_notN (pv 3) pe_non (nomark _)) (pss_cons (ps_expr (pe_bm PySem.F.plainAttrs_list PySem.F.slot_list_append PySem.F.type_list_append mt_append (pv 2) (pa_cons (pv 3) pa_nil)))
    (pss_one (ps_set (i:=3) sc_all_uppers.nd rfl (by first | exact Or.inl rfl | exact Or.inr rfl) (pe_dget1 (hu_of hr) (pv 0) (pv 3) ⟨by rfl,by rfl,by rfl,by rfl⟩)))))
    (pss_one (ps_ret (pv 2)))))),?_⟩
  refine ⟨Nat.zero_le _,fun L nL=>?_⟩
  have s1 : Same H (upd H L (.lst [])):=same_upd nL
  have hL : (upd H L (.lst [])) L = some (.lst []):=upd_same
  generalize upd H L (.lst []) = H1 at s1 hL ⊢
  have dm1:=dm.go (s1 _ _ dm.at_) fun b xs e=>s1 _ _ e
  obtain ⟨o,gd,cv⟩:=dm1.cur (s1 _ _ hb)
  refine ⟨_,rfl,d,rfl,.inr ⟨_,.inl dm1.at_⟩,_,rfl,_,gd,?_⟩
  refine ⟨fun m σ H'=>∃ v,σ = [some (.ref d),some (.ref b),some (.ref L),some v]∧UpI H L up j rk m v H',⟨20,_,rfl,s1,[],[],up j,hL,⟨rfl,fun i k e=>nomatch e⟩,cv,(upsN_rest up 20 j).symm,fun u e=>by have:=hrk j u e; have:=hle j; omega,rfl⟩,?_⟩
  rintro m σ H2 ⟨v,rfl,s2,us,pre,cur,hL2,ku,⟨o2,dv,rfl⟩,er,hm,hp⟩
  cases cur with
  | none =>
   obtain rfl : o2 = none:=dv
   refine ⟨_,rfl,rfl,_,rfl,ite2 (fun e=>absurd e (by decide)) (fun _=>?_)⟩
   refine ⟨_,rfl,q L us H2 s2 nL hL2 ?_⟩
   rw [← er]
   show KsL H2 us (pre ++ [])
   rw [List.append_nil]
   exact ku
  | some u =>
   obtain ⟨c,rfl,hc⟩:=dv
   have lm:=hm u rfl
   rw [show (some (V.ref c)).getD V.non = V.ref c from rfl]
   obtain ⟨m',rfl⟩ : ∃ m',m = m' + 1:=⟨m - 1,by omega⟩
   refine ⟨_,rfl,rfl,_,rfl,ite2 (fun _=>?_) (fun e=>absurd (by rw [decide_eq_false (fun z=>nomatch z)]; rfl) e)⟩
   refine ⟨fun σ' H'=>∃ v,σ' = [some (.ref d),some (.ref b),some (.ref L),some v]∧UpI H L up j rk m' v H',fun σ' H' h=>⟨m',Nat.lt_succ_self _,h⟩,?_⟩
   refine ⟨_,rfl,.inl ⟨rfl,_,SqL.of hL2⟩,_,rfl,L,us,_,rfl,rfl,hL2,small_line (by rw [ku.1]; omega),?_⟩
   have s3 : Same H (upd H2 L (.lst (us ++ [.ref c]))):=same_mut s2 nL
   have tup : ∀ b xs,H2 b = some (.tup xs)→(upd H2 L (.lst (us ++ [.ref c]))) b = some (.tup xs):=fun b xs e=>by
    rw [upd_ne (ne_of e hL2 (fun z=>nomatch z))]
    exact e
   have hc3:=tup _ _ hc
   have ku3:=(ku.go tup).snoc hc3
   have hL3 : (upd H2 L (.lst (us ++ [.ref c]))) L = some (.lst (us ++ [.ref c])):=upd_same
   generalize upd H2 L (.lst (us ++ [.ref c])) = H3 at s3 hL3 ku3 hc3 ⊢
   have dm3:=dm.go (s3 _ _ dm.at_) fun b xs e=>s3 _ _ e
   obtain ⟨o3,gd3,cv3⟩:=dm3.cur hc3
   refine ⟨_,rfl,d,rfl,.inr ⟨_,.inl dm3.at_⟩,_,rfl,_,gd3,?_⟩
   refine ⟨_,rfl,s3,_,pre ++ [u],up u,hL3,ku3,cv3,?_,fun x e=>by have:=hrk u x e; omega,by rw [List.length_append]; show pre.length + 1 + m' = 20; omega⟩
   rw [← er,List.append_assoc]
   show pre ++ (u :: restN up m' (up u)) = pre ++ (u :: upsN up (m' + 1) u)
   rw [upsN_rest]
theorem Tel.up {rs : List Row} {ps : List PrK} (t : Tel rs ps) : ∃ rk : Gr.HK→Nat,(∀ j u,upF rs ps j = some u→rk u < rk j)∧∀ k,rk k≤20:=by
 obtain ⟨rk,h1,h2⟩:=t.rk
 refine ⟨rk,fun j u e=>?_,h2⟩
 obtain ⟨p,m,rfl,rfl⟩:=upF_some e
 exact h1 p m
theorem flatMap_same {α β : Type} {f g : α→List β} : ∀ {l : List α},(∀ x∈l,f x = g x)→l.flatMap f = l.flatMap g
 | [],_=>rfl
 | x :: l,h=>by
  rw [List.flatMap_cons,List.flatMap_cons,h x List.mem_cons_self,flatMap_same fun y m=>h y (List.mem_cons_of_mem _ m)]
def growN (up : PF) (js : List Gr.HK) : Nat→Option Gr.HK→Nat→List (Gr.HK × Nat)
 | 0,_,_=>[]
 | n + 1,top,d=>(js.filter fun j=>decide (up j = top)).flatMap fun j=>(j,d) :: growN up js n (some j) (d + 1)
def grown (up : PF) (js : List Gr.HK) (j : Gr.HK) (d : Nat) : List (Gr.HK × Nat):=growN up js 21 (some j) d
def dpN (up : PF) (j : Gr.HK) : Nat:=(upsN up 21 j).length
structure Rk (up : PF) (rk : Gr.HK→Nat) : Prop where
 lt : ∀ j u,up j = some u→rk u < rk j
 le : ∀ k,rk k≤20
section
variable {up : PF} {js : List Gr.HK} {rk : Gr.HK→Nat}
theorem growN_more (R : Rk up rk) : ∀ (n : Nat) (j : Gr.HK) (d : Nat),21≤rk j + n→growN up js n (some j) d = growN up js (n + 1) (some j) d
 | 0,j,d,h=>absurd h (by have:=R.le j; omega)
 | n + 1,j,d,h=>by
  show (js.filter _).flatMap _ = (js.filter _).flatMap _
  refine flatMap_same fun c mc=>?_
  have:=R.lt c j (of_decide_eq_true (List.mem_filter.mp mc).2)
  rw [growN_more R n c (d + 1) (by omega)]
theorem grown_eq (R : Rk up rk) (j : Gr.HK) (d : Nat) : grown up js j d = (js.filter fun c=>decide (up c = some j)).flatMap fun c=>(c,d) :: grown up js c (d + 1):=by
 show (js.filter _).flatMap _ = (js.filter _).flatMap _
 refine flatMap_same fun c mc=>?_
 have:=R.lt c j (of_decide_eq_true (List.mem_filter.mp mc).2)
 rw [growN_more R 20 c (d + 1) (by omega)]
 rfl
theorem growN_top (d : Nat) : growN up js 22 none d = (js.filter fun c=>decide (up c = none)).flatMap fun c=>(c,d) :: grown up js c (d + 1):=rfl
theorem upsN_more (R : Rk up rk) : ∀ (n : Nat) (j : Gr.HK),rk j≤n→upsN up n j = upsN up (n + 1) j
 | 0,j,h=>by
  rw [upsN_rest]
  cases e : up j with
  | none=>rfl
  | some u=>exact absurd (R.lt j u e) (by omega)
 | n + 1,j,h=>by
  rw [upsN_rest,upsN_rest]
  cases e : up j with
  | none=>rfl
  | some u =>
   have:=R.lt j u e
   show u :: upsN up n u = u :: upsN up (n + 1) u
   rw [upsN_more R n u (by omega)]
theorem dpN_some (R : Rk up rk) {j u : Gr.HK} (e : up j = some u) : dpN up j = dpN up u + 1:=by
 unfold dpN
 rw [upsN_rest up 20 j,e]
 show (upsN up 20 u).length + 1 = _
 rw [upsN_more R 20 u (R.le u)]
theorem dpN_none {j : Gr.HK} (e : up j = none) : dpN up j = 0:=by
 unfold dpN
 rw [upsN_rest up 20 j,e]
 rfl
/-- so many steps up -/
def upI (up : PF) : Nat→Option Gr.HK→Option Gr.HK
 | 0,o=>o
 | n + 1,o=>(upI up n o).bind up
theorem upI_none : ∀ n,upI up n none = none
 | 0=>rfl
 | n + 1=>by unfold upI; rw [upI_none n]; rfl
theorem upI_add (o : Option Gr.HK) (a : Nat) : ∀ b,upI up b (upI up a o) = upI up (a + b) o
 | 0=>rfl
 | b + 1=>by
  show (upI up b (upI up a o)).bind up = (upI up (a + b) o).bind up
  rw [upI_add o a b]
theorem upI_rk (R : Rk up rk) {t c : Gr.HK} : ∀ n,upI up n (some t) = some c→rk c≤rk t
 | 0,e=>by cases e; exact Nat.le_refl _
 | n + 1,e=>by
  obtain ⟨u,e1,e2⟩:=Option.bind_eq_some_iff.mp (show (upI up n (some t)).bind up = some c from e)
  have:=upI_rk R n e1
  have:=R.lt u c e2
  omega
theorem growN_mem : ∀ (n : Nat) (top : Option Gr.HK) (d : Nat) (x : Gr.HK × Nat),x∈growN up js n top d→x.1∈js∧∃ k,upI up (k + 1) (some x.1) = top
 | 0,_,_,_,m=>nomatch m
 | n + 1,top,d,x,m=>by
  obtain ⟨c,mc,m⟩:=List.mem_flatMap.mp m
  obtain ⟨c1,c2⟩:=List.mem_filter.mp mc
  have c2:=of_decide_eq_true c2
  rcases List.mem_cons.mp m with rfl | m
  ·exact ⟨c1,0,c2⟩
  ·obtain ⟨h1,k,h2⟩:=growN_mem n (some c) (d + 1) x m
   exact ⟨h1,k + 1,by show (upI up (k + 1) (some x.1)).bind up = top; rw [h2]; exact c2⟩
theorem growN_nodup (R : Rk up rk) (nd : js.Nodup) : ∀ (n : Nat) (top : Option Gr.HK) (d : Nat),((growN up js n top d).map Prod.fst).Nodup
 | 0,_,_=>List.nodup_nil
 | n + 1,top,d=>by
  show (((js.filter fun j=>decide (up j = top)).flatMap fun j=>(j,d) :: growN up js n (some j) (d + 1)).map Prod.fst).Pairwise (·≠·)
  rw [List.map_flatMap,List.pairwise_flatMap]
  have own : ∀ c x,x∈((c,d) :: growN up js n (some c) (d + 1)).map Prod.fst→∃ k,upI up k (some x) = some c:=fun c x m=>by
   rw [List.map_cons] at m
   rcases List.mem_cons.mp m with rfl | m
   ·exact ⟨0,rfl⟩
   ·obtain ⟨y,my,rfl⟩:=List.mem_map.mp m
    obtain ⟨_,k,e⟩:=growN_mem n (some c) (d + 1) y my
    exact ⟨k + 1,e⟩
  have far : ∀ {c c' : Gr.HK} (m : Nat),up c = top→up c' = top→upI up (m + 1) (some c)≠some c':=fun {c c'} m e e' z=>by
   have z2 : upI up m (upI up 1 (some c)) = some c':=by rw [upI_add,Nat.add_comm 1 m]; exact z
   have z3 : upI up 1 (some c) = top:=e
   rw [z3] at z2
   cases top with
   | none=>rw [upI_none] at z2; cases z2
   | some t =>
    have h1:=upI_rk R m z2
    have h2:=R.lt c' t e'
    omega
  refine ⟨fun c mc=>?_,((nd.filter _).imp_of_mem fun {c c'} mc mc' ne x mx y my e=>?_)⟩
  ·rw [List.map_cons]
   refine List.nodup_cons.mpr ⟨fun m=>?_,growN_nodup R nd n (some c) (d + 1)⟩
   obtain ⟨y,my,e⟩:=List.mem_map.mp m
   obtain ⟨_,k,h⟩:=growN_mem n (some c) (d + 1) y my
   rw [e] at h
   have h' : upI up (k + 1) (some c) = some c:=h
   exact far k (of_decide_eq_true (List.mem_filter.mp mc).2) (of_decide_eq_true (List.mem_filter.mp mc).2) h'
  ·subst e
   obtain ⟨k,e1⟩:=own c x mx
   obtain ⟨k',e2⟩:=own c' x my
   have u1:=of_decide_eq_true (List.mem_filter.mp mc).2
   have u2:=of_decide_eq_true (List.mem_filter.mp mc').2
   rcases Nat.lt_trichotomy k k' with lt | eq | gt
   ·obtain ⟨m,rfl⟩ : ∃ m,k' = k + (m + 1):=⟨k' - k - 1,by omega⟩
    rw [← upI_add,e1] at e2
    exact far m u1 u2 e2
   ·rw [eq,e2] at e1
    exact ne (Option.some.inj e1).symm
   ·obtain ⟨m,rfl⟩ : ∃ m,k = k' + (m + 1):=⟨k - k' - 1,by omega⟩
    rw [← upI_add,e2] at e1
    exact far m u2 u1 e1
theorem growN_len (R : Rk up rk) (nd : js.Nodup) (n : Nat) (top : Option Gr.HK) (d : Nat) : (growN up js n top d).length≤js.length:=by
 have h:=Ms.nodup_sub (growN_nodup R nd n top d) fun x m=>by
  obtain ⟨y,my,rfl⟩:=List.mem_map.mp m
  exact (growN_mem n top d y my).1
 rwa [List.length_map] at h
end
/-- jobs with how many stand above them -/
def Nds (H : Hp) (us : List V) (xs : List (Gr.HK × Nat)) : Prop:=us.length = xs.length∧∀ (i : Nat) (x : Gr.HK × Nat),xs[i]? = some x→∃ b y : Addr,us[i]? = some (V.ref b)∧H b = some (.tup [.ref y,.int (x.2 : Nat)])∧H y = some (.tup ((Gr.keyOf x.1).map kV))
theorem Nds.nil {H : Hp} : Nds H [] []:=⟨rfl,fun i x e=>nomatch e⟩
theorem Nds.go {H H' : Hp} {us : List V} {xs : List (Gr.HK × Nat)} (h : Nds H us xs) (s : ∀ b ys,H b = some (.tup ys)→H' b = some (.tup ys)) : Nds H' us xs :=
 ⟨h.1,fun i x e=>let ⟨b,y,e1,e2,e3⟩:=h.2 i x e; ⟨b,y,e1,s _ _ e2,s _ _ e3⟩⟩
theorem Nds.app {H : Hp} {us vs : List V} {xs ys : List (Gr.HK × Nat)} (h : Nds H us xs) (h2 : Nds H vs ys) : Nds H (us ++ vs) (xs ++ ys):=by
 refine ⟨by rw [List.length_append,List.length_append,h.1,h2.1],fun i k e=>?_⟩
 by_cases hi : i < xs.length
 ·rw [List.getElem?_append_left hi] at e
  rw [List.getElem?_append_left (by rw [h.1]; exact hi)]
  exact h.2 i k e
 ·rw [List.getElem?_append_right (by omega)] at e
  rw [List.getElem?_append_right (by rw [h.1]; omega),h.1]
  exact h2.2 _ k e
theorem Nds.one {H : Hp} {b y : Addr} {k : Gr.HK} {n : Nat} (e1 : H b = some (.tup [.ref y,.int (n : Nat)])) (e2 : H y = some (.tup ((Gr.keyOf k).map kV))) : Nds H [.ref b] [(k,n)]:=by
 refine ⟨rfl,fun i x e=>?_⟩
 cases i with
 | zero=>cases e; exact ⟨b,y,rfl,e1,e2⟩
 | succ i=>cases e
theorem Nds.rev {H : Hp} {us : List V} {xs : List (Gr.HK × Nat)} (h : Nds H us xs) : Nds H us.reverse xs.reverse:=by
 refine ⟨by rw [List.length_reverse,List.length_reverse,h.1],fun i r e=>?_⟩
 have hi : i < xs.length:=by
  have:=(List.getElem?_eq_some_iff.mp e).1
  rwa [List.length_reverse] at this
 rw [List.getElem?_reverse hi] at e
 obtain ⟨b,y,e1,e2⟩:=h.2 _ r e
 refine ⟨b,y,?_,e2⟩
 rw [List.getElem?_reverse (by rw [h.1]; exact hi),h.1]
 exact e1
theorem KsL.revF {H : Hp} {us : List V} {xs : List Gr.HK} (h : KsL H us xs) : KsL H us.reverse xs.reverse:=by
 refine ⟨by rw [List.length_reverse,List.length_reverse,h.1],fun i r e=>?_⟩
 have hi : i < xs.length:=by
  have:=(List.getElem?_eq_some_iff.mp e).1
  rwa [List.length_reverse] at this
 rw [List.getElem?_reverse hi] at e
 obtain ⟨b,e1,e2⟩:=h.2 _ r e
 refine ⟨b,?_,e2⟩
 rw [List.getElem?_reverse (by rw [h.1]; exact hi),h.1]
 exact e1
/-- one list for each job,none of them there before -/
structure OwnN (H : Hp) (D : Addr) (J : List Gr.HK) (kv : List (List Key × V)) (Lf : Gr.HK→Addr) (cur : Gr.HK→List (Gr.HK × Nat)) (G : Hp) : Prop where
 keys : kv.map (·.1) = J.map Gr.keyOf
 dict : G D = some (.dT kv)
 val : ∀ j∈J,valV kv (Gr.keyOf j) = some (.ref (Lf j))
 inj : ∀ j∈J,∀ i∈J,Lf j = Lf i→j = i
 new : ∀ j∈J,H (Lf j) = none
 lst : ∀ j∈J,∃ us,G (Lf j) = some (.lst us)∧Nds G us (cur j)
theorem OwnN.go {H : Hp} {D : Addr} {J : List Gr.HK} {kv : List (List Key × V)} {Lf : Gr.HK→Addr} {cur : Gr.HK→List (Gr.HK × Nat)} {G G' : Hp} (h : OwnN H D J kv Lf cur G) (s : Same G G') : OwnN H D J kv Lf cur G' :=
 ⟨h.keys,s _ _ h.dict,h.val,h.inj,h.new,fun j m=>let ⟨us,e1,e2⟩:=h.lst j m; ⟨us,s _ _ e1,e2.go fun _ _ e=>s _ _ e⟩⟩
theorem OwnN.snoc {H : Hp} {D b y : Addr} {J : List Gr.HK} {kv : List (List Key × V)} {Lf : Gr.HK→Addr} {cur : Gr.HK→List (Gr.HK × Nat)} {G : Hp} {u k : Gr.HK} {n : Nat} {us : List V} (h : OwnN H D J kv Lf cur G) (mu : u∈J) (hl : G (Lf u) = some (.lst us)) (e1 : G b = some (.tup [.ref y,.int (n : Nat)])) (e2 : G y = some (.tup ((Gr.keyOf k).map kV))) :
  OwnN H D J kv Lf (fun v=>if v = u then cur v ++ [(k,n)] else cur v) (upd G (Lf u) (.lst (us ++ [.ref b]))):=by
 have tup : ∀ c ys,G c = some (.tup ys)→(upd G (Lf u) (.lst (us ++ [.ref b]))) c = some (.tup ys):=fun c ys e=>by
  rw [upd_ne (ne_of e hl (fun z=>nomatch z))]
  exact e
 refine ⟨h.keys,by rw [upd_ne (ne_of h.dict hl (fun z=>nomatch z))]; exact h.dict,h.val,h.inj,h.new,fun j m=>?_⟩
 by_cases e : j = u
 ·subst e
  rw [if_pos rfl]
  obtain ⟨us',f1,f2⟩:=h.lst j m
  rw [hl] at f1
  cases f1
  exact ⟨_,upd_same,(f2.go tup).app (.one (tup _ _ e1) (tup _ _ e2))⟩
 ·rw [if_neg e]
  obtain ⟨us',f1,f2⟩:=h.lst j m
  exact ⟨us',by rw [upd_ne fun z=>e (h.inj j m u mu z)]; exact f1,f2.go tup⟩
def topN (up : PF) (js : List Gr.HK) : List (Gr.HK × Nat):=(js.filter fun c=>decide (up c = none)).map fun c=>(c,0)
theorem OwnN.off {H : Hp} {D c : Addr} {J : List Gr.HK} {kv : List (List Key × V)} {Lf : Gr.HK→Addr} {cur : Gr.HK→List (Gr.HK × Nat)} {G : Hp} {us ws : List V} (h : OwnN H D J kv Lf cur G) (hc : G c = some (.lst us)) (nc : ∀ j∈J,Lf j≠c) : OwnN H D J kv Lf cur (upd G c (.lst ws)) :=
 ⟨h.keys,by rw [upd_ne (ne_of h.dict hc (fun z=>nomatch z))]; exact h.dict,h.val,h.inj,h.new,fun j m=>let ⟨us',f1,f2⟩:=h.lst j m; ⟨us',by rw [upd_ne (nc j m)]; exact f1,f2.go fun b xs e=>by rw [upd_ne (ne_of e hc (fun z=>nomatch z))]; exact e⟩⟩
theorem OwnN.ne {H : Hp} {D c : Addr} {J : List Gr.HK} {kv : List (List Key × V)} {Lf : Gr.HK→Addr} {cur : Gr.HK→List (Gr.HK × Nat)} {G : Hp} (h : OwnN H D J kv Lf cur G) (nc : G c = none) : ∀ j∈J,Lf j≠c:=fun j m e=>by
 obtain ⟨_,f,_⟩:=h.lst j m
 rw [e,nc] at f
 cases f
def exN (up : PF) (js : List Gr.HK) (x : Gr.HK × Nat) : List (Gr.HK × Nat):=x :: grown up js x.1 (x.2 + 1)
def chN (up : PF) (js : List Gr.HK) (j : Gr.HK) : List (Gr.HK × Nat):=(js.filter fun c=>decide (up c = some j)).map fun c=>(c,dpN up c)
/-- the whole forest -/
def forN (up : PF) (js : List Gr.HK) : List (Gr.HK × Nat):=(topN up js).flatMap (exN up js)
theorem forN_eq (up : PF) (js : List Gr.HK) : forN up js = growN up js 22 none 0:=by
 rw [growN_top]
 unfold forN topN
 rw [List.flatMap_map]
 rfl
structure ForI (H3 : Hp) (D R W : Addr) (up : PF) (js : List Gr.HK) (kv : List (List Key × V)) (Lf : Gr.HK→Addr) (m : Nat) (G : Hp) : Prop where
 s : Same H3 G
 ow : OwnN H3 D js kv Lf (chN up js) G
 ex : ∃ (wr wl : List V) (done left : List (Gr.HK × Nat)),G R = some (.lst wr)∧Nds G wr done∧G W = some (.lst wl)∧Nds G wl left∧done ++ left.reverse.flatMap (exN up js) = forN up js∧(∀ x∈left,x.1∈js∧x.2 = dpN up x.1)∧m = (left.reverse.flatMap (exN up js)).length
def sp_forest (CN CC : Addr) : Sp:=fun vs H Q E=>∃ (t l p : Addr) (hs : List Str) (ds : List PyData) (us : List V) (ps : List PrK),vs = [.ref t,.ref l,.ref p]∧ds.length≤60∧(∀ rs : List Row,Book hs rs→ds = rs.map rowD→∀ p∈ps,∃ r,Bk rs "job" r∧r.key = p.2) ∧
 (∃ (Ex : Addr→Prop) (gs : List Str) (xs : List V),Ask Ex H t l hs gs xs ds∧H p = some (.lst us)∧Pks H us ps∧ps.length≤60∧(∀ rs : List Row,Book hs rs→ds = rs.map rowD→Tel rs ps)∧Refuse CN CC H hs ds E) ∧
 ∀ (rs : List Row) (L : Addr) (ws : List V) (js : List Gr.HK) (H' : Hp),Same H H'→RowsD hs ds ds.length→NoClash ds ds.length→Book hs rs→ds = rs.map rowD→H L = none→H' L = some (.lst ws)→SrtK js→js.Nodup→(∀ k,k∈js↔TreeJ rs k)→Nds H' ws (forN (upF rs ps) js)→Q (.ref L) H'
theorem ok_forest (T : Txt K mg af fd) : FnOk P w K mg base (L2.CX P w) 9 (af 34) (fd 34) ["town", "rows", "telling"] (sp_forest (af 58) (af 60)):=by
 refine T.F_forest.okX sc_forest (fun vs H Q E h=>?_) (fun cdv A outer s H vs Q E hr h=>?_)
 ·obtain ⟨t,l,p,hs,ds,us,ps,rfl,_⟩:=h
  rfl
 ·obtain ⟨t,l,p,hs,ds,us,ps,rfl,len,kn,⟨Ex,gs,xs,hA,hp,pk,plen,tel,r⟩,q⟩:=h
  refine ⟨_,(pss_cons (ps_set (i:=3) sc_forest.nd rfl (by first | exact Or.inl rfl | exact Or.inr rfl) (pe_call (ok_gaps_of T) (hr.mono (by first | decide | omega)) (by rfl) T.g_gaps_of T.F_gaps_of.kp T.b_gaps_of .nil (passes_call (takes_of rfl rfl rfl rfl) (fun _ _ _ _ h=>h)) (pa_cons (pv 0) (pa_cons (pv 1) pa_nil))))
    (pss_cons (ps_set (i:=4) sc_forest.nd rfl (by first | exact Or.inl rfl | exact Or.inr rfl) (pe_call (ok_uppers_of T) (hr.mono (by first | decide | omega)) (by rfl) T.g_uppers_of T.F_uppers_of.kp T.b_uppers_of .nil pass0 (pa_cons (pv 3) (pa_cons (pv 2) pa_nil))))
    (pss_cons (ps_set (i:=5) sc_forest.nd rfl (by first | exact Or.inl rfl | exact Or.inr rfl) (pe_call (ok_jobs_of_trees T) (hr.mono (by first | decide | omega)) (by rfl) T.g_jobs_of_trees T.F_jobs_of_trees.kp T.b_jobs_of_trees .nil pass0 (pa_cons (pv 3) pa_nil)))
    (pss_cons (Gr.ps_setDc (i:=6) true (own:=[("job", 7)]) (g:=gName 7) (hu_of hr) (by rfl) sc_forest.nd rfl rfl (Gr.sw_trueD rfl rfl rfl (by decide +kernel)) (pi_list (pv 5)) (blkOk_by (own:=[("job", 7)]) (N:=["town", "rows", "telling", "gaps", "uppers", "jobs", "lowers", "job", "told", "left", "deep"]) (sc:=defScope s_forest) (by decide +kernel)) (fun _ _ _ _ _=>pg_name (i:=7) sc_forest.nd rfl (by first | exact Or.inl rfl | exact Or.inr rfl)) (fun _ _ _ _ _=>pts_nil) (fun _ _ _ _ _=>(pv 7)) (fun _ _ _ _ _=>(pe_lst pa_nil)))
    (pss_cons (ps_for (passes_of rfl) rfl (pi_list (pv 5)) (pg_name (i:=7) sc_forest.nd rfl (by first | exact Or.inl rfl | exact Or.inr rfl)) (pss_one (ps_if (pt_cmp (pc_din (hu_of hr) (pv 7) (pv 4))) (pss_one (ps_expr (pe_bm PySem.F.plainAttrs_list PySem.F.slot_list_append PySem.F.type_list_append mt_append (pe_dget (hu_of hr) (pv 6) (pe_dget (hu_of hr) (pv 4) (pv 7) (fun _ _=>rfl)) (fun _ _=>rfl)) (pa_cons (pe_tup (pa_cons (pv 7) (pa_cons (pe_callB call_len_seq (by rfl) T.m_len (by decide +kernel) (pa_cons (pe_call (ok_all_uppers T) (hr.mono (by first | decide | omega)) (by rfl) T.g_all_uppers T.F_all_uppers.kp T.b_all_uppers .nil pass0 (pa_cons (pv 4) (pa_cons (pv 7) pa_nil))) pa_nil)) pa_nil))) pa_nil)))) pss_nil)))
    (pss_cons (ps_set (i:=8) sc_forest.nd rfl (by first | exact Or.inl rfl | exact Or.inr rfl) (pe_lst pa_nil))
    (pss_cons (ps_setLc (i:=9) (own:=[("job", 7)]) (g:=gName 7) (by rfl) sc_forest.nd rfl rfl (sw_true rfl rfl rfl (by decide +kernel)) (pi_list (L2.pe_revL (pv 5))) (blkOk_by (own:=[("job", 7)]) (N:=["town", "rows", "telling", "gaps", "uppers", "jobs", "lowers", "job", "told", "left", "deep"]) (sc:=defScope s_forest) (by decide +kernel)) (fun _ _ _ _ _=>pg_name (i:=7) sc_forest.nd rfl (Or.inl rfl)) (fun _ _ _ _ _=>(pts_one (pt_cmp (pc_dnotin (hu_of hr) (pv 7) (pv 4))))) (fun _ _ _ _ _=>(pe_tup (pa_cons (pv 7) (pa_cons pe_int pa_nil)))))
    (pss_cons (ps_while (passes_of rfl) (pt_truth (pv 9) (by intro _; rfl)) (pss_cons (ps_asg (pe_bm0 PySem.F.plainAttrs_list PySem.F.slot_list_pop PySem.F.type_list_pop mt_pop (pv 9)) (pg_tup rfl (pgs_cons (pg_name (i:=7) sc_forest.nd rfl (by first | exact Or.inl rfl | exact Or.inr rfl)) (pgs_cons (pg_name (i:=10) sc_forest.nd rfl (by first | exact Or.inl rfl | exact Or.inr rfl)) pgs_nil))))
    (pss_cons (ps_expr (pe_bm PySem.F.plainAttrs_list PySem.F.slot_list_append PySem.F.type_list_append mt_append (pv 8) (pa_cons (pe_tup (pa_cons (pv 7) (pa_cons (pv 10) pa_nil))) pa_nil)))
    (pss_one (ps_expr (pe_bm PySem.F.plainAttrs_list PySem.F.slot_list_extend PySem.F.type_list_extend mt_extend (pv 9) (pa_cons (L2.pe_revL (pe_dget (hu_of hr) (pv 6) (pv 7) (fun _ _=>rfl))) pa_nil)))))))
    (pss_one (ps_ret (pv 8))))))))))),?_⟩
  refine ⟨_,rfl,_,rfl,Ex,t,l,hs,gs,xs,ds,rfl,hA,(fun rs x H1 s1 h1 h2 B hd G _=>?_),r⟩
  have tl:=tel rs B hd
  obtain ⟨rk,k1,k2⟩:=tl.up
  have lr : rs.length≤60:=by have:=congrArg List.length hd; rw [List.length_map] at this; omega
  refine ⟨_,rfl,_,rfl,x,p,hs,rs,us,ps,rfl,G,s1 _ _ hp,pk.same s1,by omega,tl,fun U kU H2 s2 nU dm _=>?_⟩
  refine ⟨_,rfl,x,rs,rfl,G.low.same s2,lr,fun J uj js H3 s3 nJ hJ kj srt nd mem=>?_⟩
  have ljs : js.length≤60:=by
   have two:=keysW_two Row.key (fun r=>(r.h,r.x3)) rs
   have:=Ms.nodup_sub (ks:=keysW rs "job" Row.key ++ keysW rs "ask" fun r=>(r.h,r.x3)) nd fun k m=>List.mem_append.mpr ((mem k).mp m)
   rw [List.length_append] at this
   omega
  refine ⟨_,rfl,J,rfl,⟨_,SqL.of hJ⟩,fun D nD=>?_⟩
  refine Gr.dcd_it (walk_list (K:=K) (a:=J) (xs:=uj)) (fun i G=>Same H3 G∧∃ kv Lf,OwnN H3 D (js.take i) kv Lf (fun _=>[]) G)
   ⟨same_upd nD,[],fun _=>0,⟨by rw [List.take_zero]; rfl,upd_same,(fun j m=>by rw [List.take_zero] at m; exact nomatch m),(fun j m=>by rw [List.take_zero] at m; exact nomatch m),(fun j m=>by rw [List.take_zero] at m; exact nomatch m),fun j m=>by rw [List.take_zero] at m; exact nomatch m⟩⟩ (fun i G _ h=>SqL.of (h.1 _ _ hJ)) ?_ ?_
  ·rintro i v G1 G2 hi ⟨g,kv,Lf,ow⟩ ⟨rfl,hv⟩
   have hir : i < js.length:=by rw [← kj.1]; exact hi
   have er : js[i]? = some js[i]:=List.getElem?_eq_getElem hir
   generalize js[i] = j at er
   obtain ⟨b,e1,e2⟩:=kj.2 i j er
   obtain rfl : V.ref b = v:=Option.some.inj (e1.symm.trans hv)
   have nj : j ∉ js.take i:=fun m=>by
    have nd2 : (js.take (i + 1)).Nodup:=nd.sublist (List.take_sublist _ _)
    rw [take_snoc er] at nd2
    exact (List.nodup_append.mp nd2).2.2 j m j List.mem_cons_self rfl
   refine ⟨rfl,yes_if ⟨_,rfl,Nat.zero_le _,fun L nL=>?_⟩⟩
   have vL:=same_upd (o:=.lst []) nL
   have owL:=ow.go vL
   have kl : kv.length≤60:=by
    have:=congrArg List.length ow.keys
    rw [List.length_map,List.length_map,List.length_take] at this
    omega
   have nLD : L≠D:=fun z=>by rw [z,ow.dict] at nL; cases nL
   have hLL : (upd G2 L (.lst [])) L = some (.lst []):=upd_same
   have nk : Gr.keyOf j ∉ kv.map (·.1):=by
    rw [ow.keys]
    intro m
    obtain ⟨y,my,e⟩:=List.mem_map.mp m
    exact nj (keyOf_inj e ▸ my)
   refine ⟨_,DPut.t (k:=Gr.keyOf j) owL.dict (vL _ _ (g _ _ e2)) (Nat.lt_of_le_of_lt kl (by decide)),same_mut (g.trans vL) nD,putK kv (Gr.keyOf j) (.ref L),(fun x=>if x = j then L else Lf x),?_⟩
   have keepD : ∀ {b : Addr} {o : HO},b≠D→(upd G2 L (.lst [])) b = some o→(upd (upd G2 L (.lst [])) D (.dT (putK kv (Gr.keyOf j) (.ref L)))) b = some o:=fun n e=>by rw [upd_ne n]; exact e
   have old : ∀ y∈js.take i,y≠j:=fun y m z=>nj (z ▸ m)
   have oldL : ∀ y∈js.take i,Lf y≠L:=fun y m z=>by
    obtain ⟨_,e,_⟩:=ow.lst y m
    rw [z,nL] at e
    cases e
   have spl : ∀ {y},y∈js.take (i + 1)→(y∈js.take i∧(if y = j then L else Lf y) = Lf y)∨(y = j∧(if y = j then L else Lf y) = L):=fun {y} m=>by
    rw [take_snoc er] at m
    rcases List.mem_append.mp m with m | m
    ·exact .inl ⟨m,if_neg (old y m)⟩
    ·have:=List.mem_singleton.mp m
     exact .inr ⟨this,if_pos this⟩
   refine ⟨?_,upd_same,fun y m=>?_,fun y my z mz e=>?_,fun y m=>?_,fun y m=>?_⟩
   ·rw [put_keys,if_neg nk,ow.keys,take_snoc er,List.map_append]
    rfl
   ·rw [valV_put]
    rcases spl m with ⟨m,e⟩ | ⟨rfl,e⟩
    ·rw [if_neg fun z=>old y m (keyOf_inj z),ow.val y m,e]
    ·rw [if_pos rfl,e]
   ·rcases spl my with ⟨my,ey⟩ | ⟨hy,ey⟩ <;> rcases spl mz with ⟨mz,ez⟩ | ⟨hz,ez⟩
    ·rw [ey,ez] at e
     exact ow.inj y my z mz e
    ·rw [ey,ez] at e
     exact absurd e (oldL y my)
    ·rw [ey,ez] at e
     exact absurd e.symm (oldL z mz)
    ·exact hy.trans hz.symm
   ·rcases spl m with ⟨m,e⟩ | ⟨rfl,e⟩ <;> rw [e]
    ·exact ow.new y m
    ·exact g.free nL
   ·rcases spl m with ⟨m,e⟩ | ⟨rfl,e⟩ <;> rw [e]
    ·obtain ⟨us,h1,h2⟩:=owL.lst y m
     refine ⟨us,keepD (fun z=>by rw [z,owL.dict] at h1; cases h1) h1,h2.1,fun i x e=>nomatch e⟩
    ·exact ⟨[],keepD nLD hLL,.nil⟩
  rintro H4 ⟨s4,kv,Lf,ow⟩
  rw [kj.1,List.take_length] at ow
  have hJ4:=s4 _ _ hJ
  have lkv : kv.length≤60:=by
   have:=congrArg List.length ow.keys
   rw [List.length_map,List.length_map] at this
   omega
  have dm3:=dm.go (s3 _ _ dm.at_) fun b xs e=>s3 _ _ e
  have nD3:=nD
  generalize eup : upF rs ps = up at dm3 k1
  refine ⟨_,rfl,J,rfl,⟨_,SqL.of hJ4⟩,?_⟩
  refine for_it (walk_list (K:=K) (a:=J) (xs:=uj)) (fun i σ G=>(∃ v7 : Option V,σ = [some (.ref t),some (.ref l),some (.ref p),some (.ref x),some (.ref U),some (.ref J),some (.ref D),v7,none,none,none])∧Same H3 G∧OwnN H3 D js kv Lf (chN up (js.take i)) G)
   ⟨⟨_,rfl⟩,s4,by rw [show chN up (js.take 0) = fun _=>[] from by funext u; rw [List.take_zero]; rfl]; exact ow⟩ (fun i σ G _ h=>SqL.of (h.2.1 _ _ hJ)) ?_ ?_
  ·rintro i v σ G1 G2 hi ⟨⟨v7,rfl⟩,g,ow⟩ ⟨rfl,hv⟩
   have hir : i < js.length:=by rw [← kj.1]; exact hi
   have er : js[i]? = some js[i]:=List.getElem?_eq_getElem hir
   generalize js[i] = j at er
   obtain ⟨b,e1,hb⟩:=kj.2 i j er
   obtain rfl : V.ref b = v:=Option.some.inj (e1.symm.trans hv)
   have dmG:=dm3.go (g _ _ dm3.at_) fun b xs e=>g _ _ e
   have chS : ∀ u,chN up (js.take (i + 1)) u = chN up (js.take i) u ++ (if up j = some u then [(j,dpN up j)] else []):=fun u=>by
    unfold chN
    rw [take_snoc er,List.filter_append,List.map_append]
    congr 1
    by_cases e : up j = some u
    ·rw [if_pos e,List.filter_cons_of_pos (by simpa using e)]
     rfl
    ·rw [if_neg e,List.filter_cons_of_neg (by simpa using e)]
     rfl
   rcases dmG.get (g _ _ hb) with ⟨em,gd⟩ | ⟨u,c,em,gd,hc⟩
   ·refine ⟨_,rfl,_,rfl,U,_,rfl,gd,_,rfl,iteF ⟨⟨_,rfl⟩,g,?_⟩⟩
    rw [show chN up (js.take (i + 1)) = chN up (js.take i) from funext fun u=>by rw [chS,if_neg (by rw [em]; exact fun z=>nomatch z),List.append_nil]]
    exact ow
   ·have mu : u∈js:=by
     rw [← eup] at em
     obtain ⟨q0,mq,_,e⟩:=upF_some em
     obtain ⟨r0,er0⟩:=tl.kn q0 mq
     rw [mem,e]
     exact .inr (made_mem (by unfold knB; rw [er0]; rfl))
    have gD:=DGet.t (k:=Gr.keyOf u) ow.dict hc
    rw [ow.val u mu] at gD
    obtain ⟨us0,hl0,nl0⟩:=ow.lst u mu
    refine ⟨_,rfl,_,rfl,U,_,rfl,gd,_,rfl,iteT ?_⟩
    refine ⟨_,rfl,_,rfl,_,rfl,U,_,rfl,gd,D,_,rfl,gD,.inl ⟨rfl,_,SqL.of hl0⟩,?_⟩
    refine ⟨_,rfl,_,rfl,_,rfl,U,b,j,up,_,kU,rk,rfl,dmG,g _ _ hb,k1,k2,fun A wa G3 g3 nA hA ka=>?_⟩
    refine ⟨A,wa,rfl,.inl (SqL.of hA),(by show 2≤sizeLine; decide),fun e ne=>?_⟩
    have la : (wa.length : Int) = ((dpN up j : Nat) : Int):=by rw [ka.1]; rfl
    rw [la]
    have s5 : Same G3 (upd G3 e (.tup [.ref b,.int ((dpN up j : Nat) : Int)])):=same_upd ne
    have he : (upd G3 e (.tup [.ref b,.int ((dpN up j : Nat) : Int)])) e = some (.tup [.ref b,.int ((dpN up j : Nat) : Int)]):=upd_same
    generalize upd G3 e (.tup [.ref b,.int ((dpN up j : Nat) : Int)]) = G5 at s5 he ⊢
    have g25:=g3.trans s5
    have ow5:=ow.go g25
    have hl5:=g25 _ _ hl0
    have lu : us0.length≤60:=by
     rw [nl0.1]
     unfold chN
     rw [List.length_map]
     have h1:=List.length_filter_le (fun c=>decide (up c = some u)) (js.take i)
     rw [List.length_take] at h1
     omega
    refine ⟨Lf u,us0,_,rfl,rfl,hl5,small_line (by omega),⟨_,rfl⟩,same_mut (g.trans g25) (ow.new u mu),?_⟩
    have fin:=ow5.snoc mu hl5 he ((g.trans g25) _ _ hb)
    rw [show chN up (js.take (i + 1)) = fun v=>if v = u then chN up (js.take i) v ++ [(j,dpN up j)] else chN up (js.take i) v from funext fun v=>by
     rw [chS,em]
     by_cases e : v = u
     ·subst e
      rw [if_pos rfl,if_pos rfl]
     ·rw [if_neg e,if_neg (fun z=>e (Option.some.inj z).symm),List.append_nil]]
    exact fin
  rintro σ H5 ⟨⟨v7,rfl⟩,s5,ow5⟩
  rw [kj.1,List.take_length] at ow5
  refine ⟨Nat.zero_le _,fun R nR=>?_⟩
  have s6 : Same H5 (upd H5 R (.lst [])):=same_upd nR
  have hR : (upd H5 R (.lst [])) R = some (.lst []):=upd_same
  have nR3 : H3 R = none:=s5.free nR
  generalize upd H5 R (.lst []) = H6 at s6 hR ⊢
  have s36:=s5.trans s6
  have ow6:=ow5.go s6
  refine ⟨_,rfl,J,uj,rfl,SqL.of (s36 _ _ hJ),fun Rv nRv=>?_⟩
  have s7 : Same H6 (upd H6 Rv (.lst uj.reverse)):=same_upd nRv
  have hRv : (upd H6 Rv (.lst uj.reverse)) Rv = some (.lst uj.reverse):=upd_same
  generalize upd H6 Rv (.lst uj.reverse) = H7 at s7 hRv ⊢
  have s37:=s36.trans s7
  have kr:=(kj.go fun b xs e=>s37 _ _ e).revF
  have dm7:=dm3.go (s37 _ _ dm3.at_) fun b xs e=>s37 _ _ e
  refine ⟨Rv,rfl,⟨_,SqL.of hRv⟩,fun W nW=>?_⟩
  refine lc_it (walk_list (K:=K) (a:=Rv) (xs:=uj.reverse)) (fun i G=>Same H7 G∧∃ ws,G W = some (.lst ws)∧Nds G ws (topN up (js.reverse.take i)))
   ⟨same_upd nW,[],upd_same,.nil⟩ (fun i G _ h=>SqL.of (h.1 _ _ hRv)) ?_ ?_
  ·rintro i v G1 G2 hi ⟨g,ws,hW,nw⟩ ⟨rfl,hv⟩
   have hir : i < js.reverse.length:=by rw [← kr.1]; exact hi
   have er : js.reverse[i]? = some js.reverse[i]:=List.getElem?_eq_getElem hir
   generalize js.reverse[i] = j at er
   obtain ⟨b,e1,hb⟩:=kr.2 i j er
   obtain rfl : V.ref b = v:=Option.some.inj (e1.symm.trans hv)
   have dmG:=dm7.go (g _ _ dm7.at_) fun b xs e=>g _ _ e
   have lw : ws.length≤60:=by
    rw [nw.1]
    unfold topN
    rw [List.length_map]
    have h1:=List.length_filter_le (fun c=>decide (up c = none)) (js.reverse.take i)
    rw [List.length_take,List.length_reverse] at h1
    omega
   have out : topN up (js.reverse.take (i + 1)) = topN up (js.reverse.take i) ++ (if up j = none then [(j,0)] else []):=by
    unfold topN
    rw [take_snoc er,List.filter_append,List.map_append]
    congr 1
    by_cases e : up j = none
    ·rw [if_pos e,List.filter_cons_of_pos (by simpa using e)]
     rfl
    ·rw [if_neg e,List.filter_cons_of_neg (by simpa using e)]
     rfl
   rcases dmG.get (g _ _ hb) with ⟨em,gd⟩ | ⟨u,c,em,gd,hc⟩
   ·refine ⟨rfl,_,rfl,_,rfl,U,_,rfl,gd,_,rfl,iteT ?_⟩
    refine ⟨_,rfl,(by show 2≤sizeLine; decide),fun e ne=>?_⟩
    have s8 : Same G2 (upd G2 e (.tup [.ref b,.int 0])):=same_upd ne
    have he : (upd G2 e (.tup [.ref b,.int 0])) e = some (.tup [.ref b,.int 0]):=upd_same
    generalize upd G2 e (.tup [.ref b,.int 0]) = G3 at s8 he ⊢
    have hW3:=s8 _ _ hW
    refine ⟨ws,hW3,small_line (by omega),same_mut (g.trans s8) nW,_,upd_same,?_⟩
    have tup : ∀ c ys,G3 c = some (.tup ys)→(upd G3 W (.lst (ws ++ [.ref e]))) c = some (.tup ys):=fun c ys e=>by
     rw [upd_ne (ne_of e hW3 (fun z=>nomatch z))]
     exact e
    rw [out,if_pos em]
    exact ((nw.go fun b xs e=>s8 _ _ e).go tup).app (.one (n:=0) (tup _ _ he) (tup _ _ ((g.trans s8) _ _ hb)))
   ·refine ⟨rfl,_,rfl,_,rfl,U,_,rfl,gd,_,rfl,iteF ⟨g,ws,hW,?_⟩⟩
    rw [out,if_neg (by rw [em]; exact fun z=>nomatch z),List.append_nil]
    exact nw
  rintro H8 ⟨s8,ws,hW,nw⟩
  rw [kr.1,List.take_length] at nw
  have s38:=s37.trans s8
  have hR8:=(s7.trans s8) _ _ hR
  have ow8:=ow6.go (s7.trans s8)
  have nW3 : H3 W = none:=s37.free nW
  have nRW : R≠W:=fun z=>by rw [← z,s7 _ _ hR] at nW; cases nW
  have nLR:=ow5.ne nR
  have nLW:=(ow6.go s7).ne nW
  clear ow ow5 ow6 dm3 dm7
  have R0 : Rk up rk:=⟨k1,k2⟩
  have I0 : ForI H3 D R W up js kv Lf ((topN up js).flatMap (exN up js)).length H8:=by
   have er : topN up js.reverse = (topN up js).reverse:=by
    unfold topN
    rw [List.filter_reverse,List.map_reverse]
   refine ⟨s38,ow8,[],ws,[],topN up js.reverse,hR8,.nil,hW,nw,?_,fun x m=>?_,?_⟩
   ·rw [er,List.reverse_reverse,List.nil_append]
    unfold forN
    rfl
   ·obtain ⟨c,mc,rfl⟩:=List.mem_map.mp m
    obtain ⟨c1,c2⟩:=List.mem_filter.mp mc
    exact ⟨List.mem_reverse.mp c1,(dpN_none (of_decide_eq_true c2)).symm⟩
   ·rw [er,List.reverse_reverse]
  refine ⟨fun m σ G=>(∃ v7 v10 : Option V,σ = [some (.ref t),some (.ref l),some (.ref p),some (.ref x),some (.ref U),some (.ref J),some (.ref D),v7,some (.ref R),some (.ref W),v10])∧ForI H3 D R W up js kv Lf m G,⟨_,⟨_,_,rfl⟩,I0⟩,?_⟩
  rintro m σ G9 ⟨⟨v7,v10,rfl⟩,g,ow,wr,wl,done,left,hR,nr,hW,nl,tt,dl,rfl⟩
  have lt : (forN up js).length≤60:=by rw [forN_eq]; exact Nat.le_trans (growN_len R0 nd 22 none 0) ljs
  refine ⟨_,rfl,!wl.isEmpty,.inl ⟨wl,SqL.of hW,rfl⟩,?_⟩
  by_cases eb : left = []
  ·subst eb
   have e0 : wl = []:=List.length_eq_zero_iff.mp nl.1
   subst e0
   refine iteF ⟨_,rfl,?_⟩
   rw [List.reverse_nil,List.flatMap_nil,List.append_nil] at tt
   rw [tt] at nr
   exact q rs R wr js G9 (((s1.trans s2).trans s3).trans g) h1 h2 B hd (((s1.trans s2).trans s3).free nR3) hR srt nd mem (by rw [eup]; exact nr)
  obtain ⟨l0,jd,rfl⟩ : ∃ l0 jd,left = l0 ++ [jd]:=⟨left.dropLast,left.getLast eb,(List.dropLast_concat_getLast eb).symm⟩
  obtain ⟨j,d⟩:=jd
  have lwl : wl.length = l0.length + 1:=by rw [nl.1,List.length_append]; rfl
  obtain ⟨b,y,e1,hb,hy⟩:=nl.2 l0.length (j,d) (by rw [List.getElem?_append_right (Nat.le_refl _),Nat.sub_self]; rfl)
  have bt : (!wl.isEmpty) = true:=by
   cases wl with
   | nil=>cases lwl
   | cons _ _=>rfl
  obtain ⟨mj,ed⟩:=dl (j,d) (List.mem_append_right _ (List.mem_singleton.mpr rfl))
  have split : (l0 ++ [(j,d)]).reverse.flatMap (exN up js) = (j,d) :: ((chN up js j ++ l0.reverse).flatMap (exN up js)):=by
   rw [List.reverse_append,List.reverse_singleton,List.singleton_append,List.flatMap_cons,List.flatMap_append]
   show ((j,d) :: grown up js j (d + 1)) ++ _ = _
   rw [grown_eq R0,List.cons_append]
   congr 2
   unfold chN
   rw [List.flatMap_map]
   refine flatMap_same fun c mc=>?_
   have ec:=of_decide_eq_true (List.mem_filter.mp mc).2
   have e2:=dpN_some R0 ec
   have ed : d = dpN up j:=ed
   show (c,d + 1) :: grown up js c (d + 1 + 1) = (c,dpN up c) :: grown up js c (dpN up c + 1)
   rw [e2,ed]
  rw [split] at tt ⊢
  have lrest : (done.length + ((chN up js j ++ l0.reverse).flatMap (exN up js)).length + 1)≤60:=by
   have:=congrArg List.length tt
   rw [List.length_append,List.length_cons] at this
   omega
  have lex : ∀ l : List (Gr.HK × Nat),l.length≤(l.flatMap (exN up js)).length:=fun l=>by
   induction l with
   | nil=>exact Nat.le_refl _
   | cons a l ih =>
    rw [List.flatMap_cons,List.length_append,List.length_cons]
    unfold exN at ih ⊢
    rw [List.length_cons]
    omega
  have lch:=lex (chN up js j ++ l0.reverse)
  rw [List.length_append,List.length_reverse] at lch
  rw [bt]
  refine iteT ⟨_,fun σ' H' h=>⟨_,Nat.lt_succ_self _,h⟩,?_⟩
  refine ⟨_,rfl,.inl ⟨rfl,_,SqL.of hW⟩,W,wl,_,rfl,rfl,hW,(by rw [lwl]; exact e1),?_⟩
  have g1 : Same H3 (upd G9 W (.lst wl.dropLast)):=same_mut g nW3
  have hW1 : (upd G9 W (.lst wl.dropLast)) W = some (.lst wl.dropLast):=upd_same
  have hR1 : (upd G9 W (.lst wl.dropLast)) R = some (.lst wr):=by rw [upd_ne nRW]; exact hR
  have tup1 : ∀ c ys,G9 c = some (.tup ys)→(upd G9 W (.lst wl.dropLast)) c = some (.tup ys):=fun c ys e=>by
   rw [upd_ne (ne_of e hW (fun z=>nomatch z))]
   exact e
  have ow1:=ow.off (ws:=wl.dropLast) hW nLW
  have nl1 : Nds (upd G9 W (.lst wl.dropLast)) wl.dropLast l0:=by
   refine ⟨by rw [List.length_dropLast,lwl]; rfl,fun i x e=>?_⟩
   have li:=(List.getElem?_eq_some_iff.mp e).1
   obtain ⟨b',y',e2,h2,h3⟩:=nl.2 i x (by rw [List.getElem?_append_left li]; exact e)
   exact ⟨b',y',by rw [List.getElem?_dropLast,if_pos (by rw [lwl]; omega)]; exact e2,tup1 _ _ h2,tup1 _ _ h3⟩
  have nr1:=nr.go tup1
  have hb1:=tup1 _ _ hb
  have hy1:=tup1 _ _ hy
  have lw1 : wl.dropLast.length = l0.length:=nl1.1
  generalize upd G9 W (.lst wl.dropLast) = G1 at g1 hW1 hR1 ow1 nl1 nr1 hb1 hy1 ⊢
  have hj1:=hy1
  refine ⟨b,_,rfl,SqT.of hb1,rfl,_,_,rfl,_,_,rfl,rfl,?_⟩
  refine ⟨_,rfl,.inl ⟨rfl,_,SqL.of hR1⟩,_,rfl,_,rfl,(by show 2≤sizeLine; decide),fun e ne=>?_⟩
  have s2' : Same G1 (upd G1 e (.tup [.ref y,.int (d : Nat)])):=same_upd ne
  have he : (upd G1 e (.tup [.ref y,.int (d : Nat)])) e = some (.tup [.ref y,.int (d : Nat)]):=upd_same
  have nLe:=ow1.ne ne
  generalize upd G1 e (.tup [.ref y,.int (d : Nat)]) = G2 at s2' he ⊢
  have hR2:=s2' _ _ hR1
  have hW2:=s2' _ _ hW1
  have lwr : wr.length = done.length:=nr.1
  refine ⟨R,wr,_,rfl,rfl,hR2,small_line (by omega),?_⟩
  have ow2:=(ow1.go s2').off (ws:=wr ++ [.ref e]) hR2 nLR
  have g2 : Same H3 (upd G2 R (.lst (wr ++ [.ref e]))):=same_mut (g1.trans s2') nR3
  have tup2 : ∀ c ys,G2 c = some (.tup ys)→(upd G2 R (.lst (wr ++ [.ref e]))) c = some (.tup ys):=fun c ys e=>by
   rw [upd_ne (ne_of e hR2 (fun z=>nomatch z))]
   exact e
  have nr2:=((nr1.go fun b xs e=>s2' _ _ e).go tup2).app (.one (tup2 _ _ he) (tup2 _ _ (s2' _ _ hy1)))
  have nl2:=(nl1.go fun b xs e=>s2' _ _ e).go tup2
  have hR3 : (upd G2 R (.lst (wr ++ [.ref e]))) R = some (.lst (wr ++ [.ref e])):=upd_same
  have hW3 : (upd G2 R (.lst (wr ++ [.ref e]))) W = some (.lst wl.dropLast):=by rw [upd_ne nRW.symm]; exact hW2
  have hy3:=tup2 _ _ (s2' _ _ hy1)
  generalize upd G2 R (.lst (wr ++ [.ref e])) = G3 at ow2 g2 nr2 nl2 hR3 hW3 hy3 ⊢
  have gD:=DGet.t (k:=Gr.keyOf j) ow2.dict hy3
  rw [ow2.val j mj] at gD
  obtain ⟨us0,hl0,nl0⟩:=ow2.lst j mj
  refine ⟨_,rfl,.inl ⟨rfl,_,SqL.of hW3⟩,_,rfl,_,rfl,D,_,rfl,gD,Lf j,us0,rfl,SqL.of hl0,fun P nP=>?_⟩
  have s4' : Same G3 (upd G3 P (.lst us0.reverse)):=same_upd nP
  have hP : (upd G3 P (.lst us0.reverse)) P = some (.lst us0.reverse):=upd_same
  have nr4:=nl0.rev.go fun b xs e=>s4' _ _ e
  generalize upd G3 P (.lst us0.reverse) = G4 at s4' hP nr4 ⊢
  have hW4:=s4' _ _ hW3
  have lu0 : us0.length = (chN up js j).length:=nl0.1
  refine ⟨W,P,_,_,rfl,rfl,hW4,hP,Nat.le_of_lt (small_line (by rw [List.length_reverse]; omega)),⟨_,_,rfl⟩,same_mut (g2.trans s4') nW3,(ow2.go s4').off hW4 nLW,?_⟩
  have tup4 : ∀ c ys,G4 c = some (.tup ys)→(upd G4 W (.lst (wl.dropLast ++ us0.reverse))) c = some (.tup ys):=fun c ys e=>by
   rw [upd_ne (ne_of e hW4 (fun z=>nomatch z))]
   exact e
  refine ⟨_,_,done ++ [(j,d)],l0 ++ (chN up js j).reverse,by rw [upd_ne nRW]; exact s4' _ _ hR3,(nr2.go fun b xs e=>s4' _ _ e).go tup4,upd_same,((nl2.go fun b xs e=>s4' _ _ e).go tup4).app (nr4.go tup4),?_,fun x m=>?_,?_⟩
  ·rw [List.append_assoc,List.singleton_append,List.reverse_append,List.reverse_reverse]
   exact tt
  ·rcases List.mem_append.mp m with m | m
   ·exact dl x (List.mem_append_left _ m)
   ·obtain ⟨c,mc,rfl⟩:=List.mem_map.mp (List.mem_reverse.mp m)
    exact ⟨(List.mem_filter.mp mc).1,rfl⟩
  ·rw [List.reverse_append,List.reverse_reverse]
def rkOf (js : List WJ) (k : Gr.HK) : Nat:=((List.range js.length).find? fun i=>decide (keyJ js i = k)).getD 0
theorem rkOf_key {js : List WJ} {i : Nat} (h : i < js.length) : rkOf js (keyJ js i) = i:=by
 unfold rkOf
 cases e : (List.range js.length).find? fun k=>decide (keyJ js k = keyJ js i) with
 | none=>exact absurd (decide_eq_true rfl) (List.find?_eq_none.mp e i (List.mem_range.mpr h))
 | some k =>
  have h1:=List.mem_range.mp (List.mem_of_find?_eq_some e)
  have h2:=of_decide_eq_true (List.find?_some (p:=fun k=>decide (keyJ js k = keyJ js i)) e)
  exact keyJ_inj h1 h h2
theorem rkOf_le (js : List WJ) (k : Gr.HK) : rkOf js k≤js.length:=by
 unfold rkOf
 cases e : (List.range js.length).find? fun i=>decide (keyJ js i = k) with
 | none=>exact Nat.zero_le _
 | some i=>exact Nat.le_of_lt (List.mem_range.mp (List.mem_of_find?_eq_some e))
theorem was_row {hs : List Str} {js : List WJ} {as : List WA} {bs : Str→Int} {rs : List Row} {p : PrK} (w : WOk hs js as) (BW : Book hs (wRows hs js as bs)) (sub : ∀ r∈rs,r∈wRows hs js as bs) (h : WasP js as rs p) :
  ∃ i x,as[i]? = some x∧p = (keyA js as i,keyJ js x.ch)∧(∃ r,rowOf rs "ask" p.1 = some r)∧madeIn rs p.1 = keyJ js x.pl∧x.pl < x.ch∧x.ch < js.length:=by
 obtain ⟨⟨i,x,e,rfl⟩,⟨r,hr,kr⟩,_⟩:=h
 have ax:=w.ab x (List.mem_of_getElem? e)
 obtain ⟨j,ej,p1,p2,p3⟩:=ax.par
 obtain ⟨c1,c2,k,ek,k1,k2,k3⟩:=ax.ch
 rw [Nat.sub_zero] at ej ek
 have er : r = .ask j.h x.g (rkA js as i : Nat) (rkJ js x.pl : Nat) (bs j.h + x.o) (bs j.h + x.k):=by
  refine BW.uniq (.inl rfl) r _ ⟨sub r hr.1,hr.2⟩ (ask_in e ej) ?_
  rw [kr]
  show (hoA js as i,_) = _
  rw [hoA_at e ej]
  rfl
 have B : Book hs rs:=BW.sub sub
 have eo : rowOf rs "ask" (keyA js as i) = some r:=by
  have:=rowOf_is (B.uniq (.inl rfl)) hr
  rwa [kr] at this
 refine ⟨i,x,e,rfl,⟨r,eo⟩,?_,c2,(List.getElem?_eq_some_iff.mp ek).1⟩
 show madeIn rs (keyA js as i) = _
 unfold madeIn
 rw [eo,er]
 show (j.h,((rkJ js x.pl : Nat) : Int)) = (hoJ js x.pl,_)
 rw [hoJ_at ej]
structure TreeAt (H : Hp) (p t l L : Addr) (hs gs : List Str) (xs us : List V) (rws : List Row) (ps : List PrK) : Prop where
 hand : Hand H t l hs gs xs rws
 few : rws.length≤40
 lst : H L = some (.lst us)
 prs : Pks H us ps
 tel : Tel rws ps
 known : ∀ p∈ps,(∃ r,Bk rws "job" r∧r.key = p.2)
 len : ps.length≤14
 lp : l≠p
 Lp : L≠p
def sp_tree : Sp:=fun vs H Q _=>∃ (p c : Addr) (houses most fewer : Nat),vs = [.ref p,.int houses,.int most,.int fewer]∧Pen H p c∧1≤houses∧houses≤6∧most≤14∧fewer≤10 ∧
 ∀ (Tp t l L : Addr) (hs gs : List Str) (xs us : List V) (rws : List Row) (ps : List PrK) (H' : Hp),Stp p c H H'→H' Tp = some (.tup [.ref t,.ref l,.ref L])→TreeAt H' p t l L hs gs xs us rws ps→Q (.ref Tp) H'
theorem ok_l_tree_book (T : Txt K mg af fd) : FnOk P w K mg base CX0 9 (af 50) (fd 50) ["pen", "houses", "most", "fewer"] sp_tree:=by
 refine T.F_l_tree_book.ok sc_l_tree_book (fun vs H Q E h=>?_) (fun cdv A outer s H vs Q E hr h=>?_)
 ·obtain ⟨p,c,houses,most,fewer,rfl,_⟩:=h
  rfl
 ·obtain ⟨p,c,houses,most,fewer,rfl,hP,m1,m6,m14,f10,q⟩:=h
  refine ⟨_,(pss_cons (ps_set (i:=4) sc_l_tree_book.nd rfl (by first | exact Or.inl rfl | exact Or.inr rfl) (pe_call (ok_l_gated T) (hr.mono (by first | decide | omega)) (by rfl) T.g_l_gated T.F_l_gated.kp T.b_l_gated .nil pass0 (pa_cons (pv 0) (pa_cons (pv 1) pa_nil))))
    (pss_cons (ps_set (i:=5) sc_l_tree_book.nd rfl (by first | exact Or.inl rfl | exact Or.inr rfl) (pe_call (ok_l_world T) (hr.mono (by first | decide | omega)) (by rfl) T.g_l_world T.F_l_world.kp T.b_l_world .nil pass0 (pa_cons (pv 0) (pa_cons (pv 4) (pa_cons pe_int (pa_cons pe_int (pa_cons (pv 2) (pa_cons pe_int pa_nil))))))))
    (pss_cons (ps_set (i:=6) sc_l_tree_book.nd rfl (by first | exact Or.inl rfl | exact Or.inr rfl) (pe_call (ok_l_left T) (hr.mono (by first | decide | omega)) (by rfl) T.g_l_left T.F_l_left.kp T.b_l_left .nil pass0 (pa_cons (pv 0) (pa_cons (pe_call (ok_l_all_rows T) (hr.mono (by first | decide | omega)) (by rfl) T.g_l_all_rows T.F_l_all_rows.kp T.b_l_all_rows .nil pass0 (pa_cons (pv 4) (pa_cons (pv 5) (pa_cons (pe_call (ok_l_bases T) (hr.mono (by first | decide | omega)) (by rfl) T.g_l_bases T.F_l_bases.kp T.b_l_bases .nil pass0 (pa_cons (pv 0) (pa_cons (pv 4) (pa_cons pe_int pa_nil)))) pa_nil)))) (pa_cons (pv 3) pa_nil)))))
    (pss_one (ps_ret (pe_tup (pa_cons (pv 4) (pa_cons (pv 6) (pa_cons (pe_call (ok_l_true_pairs T) (hr.mono (by first | decide | omega)) (by rfl) T.g_l_true_pairs T.F_l_true_pairs.kp T.b_l_true_pairs .nil pass0 (pa_cons (pv 4) (pa_cons (pv 5) (pa_cons (pv 6) pa_nil)))) pa_nil))))))))),?_⟩
  refine ⟨_,rfl,_,rfl,p,c,houses,rfl,hP,m1,m6,fun t hs gs H2 s2 ht hg=>?_⟩
  have P2:=s2.1
  have l6 : hs.length≤6:=Nat.le_trans hg.few m6
  have hok : ∀ h∈hs,PyData.strOk h = true:=fun h m=>(hg.hou h m).ok
  refine ⟨_,rfl,_,rfl,_,rfl,p,c,t,hs,gs,3,most,0,rfl,P2,ht,hg.one,l6,hg.sub,hg.hou,by decide,by decide,by omega,by omega,fun w lj la rs qs js as H5 s5 nw W ap wok lm=>?_⟩
  have P5:=s5.1
  have ht5:=s5.town P2 ht
  have lena : as.length≤js.length:=wok.len
  refine ⟨_,rfl,_,rfl,_,rfl,_,rfl,_,rfl,p,c,t,hs,gs,1,rfl,P5,ht5,l6,by decide,by decide,fun d bs kB H7 s7 nd hd hbd heq=>?_⟩
  have P7:=s7.1
  have ht7:=s7.town P5 ht5
  have W7:=W.stp P5 s7 ap
  refine ⟨t,w,d,lj,la,hs,gs,rs,qs,js,as,most,bs,kB,rfl,ht7,W7,wok,by omega,l6,hd,hbd,fun l0 us H8 s8 nl0 hl0 hrw=>?_⟩
  have BW:=world_book (bs:=bs) wok (fun h m=>(hbd h m).2) hok
  have lw : (wRows hs js as bs).length≤34:=by
   unfold wRows
   rw [List.length_append,List.length_append,List.length_map,List.length_range,List.length_map,List.length_range,List.length_map]
   omega
  have th : ∀ r∈wRows hs js as bs,Th 3 3000 (rowD r):=fun r m=>(th_tup (row_th hg.hou (BW.wf r m) (BW.inn r m)) (row_len7 r).2).mono (by decide) (by decide)
  have P8:=P7.sm s8
  have nlp8 : l0≠p:=fun e=>P7.neP nl0 e.symm
  refine ⟨_,rfl,p,c,l0,fewer,us,(wRows hs js as bs).map rowD,rfl,P8,nlp8,hl0,dqs_rows hrw,(fun x m=>?_),(fun x m=>?_),by omega,by omega,(by rw [List.length_map]; omega),fun l ys es H9 s9 nl hl dq9 sub9 len9=>?_⟩
  ·obtain ⟨r,mr,rfl⟩:=List.mem_map.mp m
   exact th r mr
  ·obtain ⟨r,mr,rfl⟩:=List.mem_map.mp m
   exact ⟨r,rfl,BW.wf r mr⟩
  obtain ⟨rws,rfl,hsub⟩:=rows_of (P:=fun r=>r∈wRows hs js as bs) (ds:=es) fun x m=>by
   obtain ⟨r,mr,rfl⟩:=List.mem_map.mp (sub9 x m)
   exact ⟨r,rfl,mr⟩
  rw [List.length_map,List.length_map] at len9
  have st8 : Stp p c H7 H8:=⟨P8,fun b o _ e=>s8 b o e⟩
  have st79:=st8.trans s9
  have P9:=s9.1
  have ht9:=st79.town P7 ht7
  have W9:=W7.stp P7 st79 ap
  have Br : Book hs rws:=BW.sub hsub
  have hd9 : Hand H9 t l hs gs ys rws:=⟨ht9,hg.up,hg.nd,hok,l6,hl,rws_of dq9,Br,(fun x m=>by obtain ⟨r,mr,rfl⟩:=List.mem_map.mp m; exact th r (hsub r mr)),by omega⟩
  have nlp : l≠p:=fun e=>P8.neP nl e.symm
  refine ⟨_,rfl,_,rfl,_,rfl,_,rfl,_,rfl,t,w,l,lj,la,hs,gs,rs,qs,js,as,most,ys,rws,rfl,ht9,W9,wok,by omega,l6,hok,hl,hd9.rows,by omega,Br,fun L us2 ps H10 s10 nL hL pk hw hlen hnd=>?_⟩
  have P10:=P9.sm s10
  refine ⟨(by show 3≤sizeLine; decide),fun Tp nT=>?_⟩
  have sT : Same H10 (upd H10 Tp (.tup [.ref t,.ref l,.ref L])):=same_upd nT
  have s911:=s10.trans sT
  have nLp : L≠p:=fun e=>P9.neP nL e.symm
  have st9 : Stp p c H9 (upd H10 Tp (.tup [.ref t,.ref l,.ref L])):=⟨P9.sm s911,fun b o _ e=>s911 b o e⟩
  have tel : Tel rws ps:=by
   refine ⟨fun p m=>?_,hnd,rkOf js,fun p m=>?_,fun k=>Nat.le_trans (rkOf_le js k) (by omega)⟩
   ·obtain ⟨i,x,e1,e2,e3,_⟩:=was_row wok BW hsub (hw p m)
    exact e3
   ·obtain ⟨i,x,e1,e2,e3,e4,e5,e6⟩:=was_row wok BW hsub (hw p m)
    rw [e4,rkOf_key (by omega),show p.2 = keyJ js x.ch from by rw [e2],rkOf_key e6]
    exact e5
  exact q Tp t l L hs gs ys us2 rws ps _ ((((s2.trans s5).trans s7).trans st79).trans st9) upd_same ⟨hd9.same s911,by omega,sT _ _ hL,pk.same sT,tel,fun p m=>(hw p m).kj,by omega,nlp,nLp⟩
theorem cut_drop (xs : List V) (n : Nat) (h : n≤xs.length) : cutV xs (some (n : Int)) none = xs.drop n:=by
 unfold cutV
 rw [HT.sIx_none,HT.sIx_nat,Nat.min_eq_left h,List.take_of_length_le]
 rw [List.length_drop]
 omega
theorem vals_47 (r : Row) : 4≤r.vals.length∧r.vals.length≤7:=by
 cases r
 ·exact ⟨(by decide : 4≤7),(by decide : 7≤7)⟩
 ·exact ⟨(by decide : 4≤5),(by decide : 5≤7)⟩
 ·exact ⟨(by decide : 4≤4),(by decide : 4≤7)⟩
theorem drop3 (r : Row) : cutV r.vals (some 3) none = r.vals.drop 3:=by
 rw [show (3 : Int) = ((3 : Nat) : Int) from rfl,cut_drop _ _ (by have:=(vals_47 r).1; omega)]
theorem not_whole3 (r : Row) : ¬ (HT.sIx r.vals.length 0 (some 3) = 0∧HT.sIx r.vals.length r.vals.length none = r.vals.length):=by
 rintro ⟨h,_⟩
 rw [show (3 : Int) = ((3 : Nat) : Int) from rfl,HT.sIx_nat] at h
 have:=(vals_47 r).1
 omega
structure DKn (H : Hp) (P : Row→Prop) (kvs : List (Key × V)) : Prop where
 own : ∀ kv∈kvs,∃ b r,kv.2 = .ref b∧H b = some (.tup (r.vals.drop 3))∧P r∧kv.1 = .inl r.k
 all : ∀ r,P r→∃ v,((.inl r.k : Key),v)∈kvs
 nd : (kvs.map (·.1)).Nodup
theorem DKn.go {H H' : Hp} {P : Row→Prop} {kvs : List (Key × V)} (h : DKn H P kvs) (s : ∀ b xs,H b = some (.tup xs)→H' b = some (.tup xs)) : DKn H' P kvs :=
 ⟨fun kv m=>let ⟨b,r,e1,e2,e3,e4⟩:=h.own kv m; ⟨b,r,e1,s _ _ e2,e3,e4⟩,h.all,h.nd⟩
theorem DKn.iff {H : Hp} {P P' : Row→Prop} {kvs : List (Key × V)} (h : DKn H P kvs) (e : ∀ r,P r↔P' r) : DKn H P' kvs:=by
 have : P = P':=funext fun r=>propext (e r)
 subst this
 exact h
theorem DKn.put {H : Hp} {P : Row→Prop} {kvs : List (Key × V)} {b : Addr} {r : Row} (h : DKn H P kvs) (hb : H b = some (.tup (r.vals.drop 3))) : DKn H (fun x=>P x∨x = r) (putK kvs (.inl r.k) (.ref b)) where
 own:=fun kv m=>by
  rcases put_mem m with ⟨m,_⟩ | e
  ·obtain ⟨b,t,e1,e2,e3,e4⟩:=h.own kv m
   exact ⟨b,t,e1,e2,.inl e3,e4⟩
  ·exact ⟨b,r,by rw [e],hb,.inr rfl,by rw [e]⟩
 all:=fun x hx=>by
  rcases hx with hx | rfl
  ·obtain ⟨v,m⟩:=h.all x hx
   exact put_keep m
  ·exact ⟨_,put_self _ _ _⟩
 nd:=put_nd h.nd
def sp_l_known : Sp:=fun vs H Q _=>∃ (l : Addr) (wd h : Str) (xs : List V) (rs : List Row),vs = [.ref l,.str wd,.str h]∧H l = some (.lst xs)∧Rws H xs rs∧rs.length≤1000 ∧
 ∀ (D : Addr) (kvs : List (Key × V)) (H' : Hp),Same H H'→H D = none→H' D = some (.dK kvs)→DKn H' (fun r=>Bk rs wd r∧r.h = h) kvs→kvs.length≤1000→Q (.ref D) H'
theorem ok_l_known (T : Txt K mg af fd) : FnOk P w K mg base CX0 1 (af 51) (fd 51) ["rows", "word", "house"] sp_l_known:=by
 refine T.F_l_known.ok sc_l_known (fun vs H Q E h=>?_) (fun cdv A outer s H vs Q E hr h=>?_)
 ·obtain ⟨l,wd,h,xs,rs,rfl,_⟩:=h
  rfl
 ·obtain ⟨l,wd,hh,xs,rs,rfl,hl,hrs,hlen,q⟩:=h
  refine ⟨_,(pss_cons (ps_set (i:=3) sc_l_known.nd rfl (by first | exact Or.inl rfl | exact Or.inr rfl) pe_dnewK)
    (pss_cons (ps_for PassesOwn.never rfl (pi_list (pv 0)) (pg_name (i:=4) sc_l_known.nd rfl (by first | exact Or.inl rfl | exact Or.inr rfl)) (pss_one (ps_if (PW.pt (pw_and (pt_cmpR op_eq (pe_ix ix_tup (pv 4) pe_int (fun _ _=>rfl)) (pv 1) (nomark _)) (pw_and1 (pt_cmpR op_eq (pe_ix ix_tup (pv 4) pe_int (fun _ _=>rfl)) (pv 2) (nomark _))))) (pss_one (ps_dput (hu_of hr) (pv 3) (pe_ix ix_tup (pv 4) pe_int (fun _ _=>rfl)) (pe_slice sl_tup (pv 4) (po_some pe_int) po_none) rfl)) pss_nil)))
    (pss_one (ps_ret (pv 3))))),?_⟩
  intro D nD
  have s0 : Same H (upd H D (.dK [])):=same_upd nD
  have hD0 : (upd H D (.dK [])) D = some (.dK []):=upd_same
  generalize upd H D (.dK []) = H0 at s0 hD0 ⊢
  refine ⟨_,rfl,l,rfl,⟨_,SqL.of (s0 _ _ hl)⟩,?_⟩
  refine for_it (walk_list (K:=K) (a:=l) (xs:=xs)) (fun i σ H'=>(∃ v4 : Option V,σ = [some (.ref l),some (.str wd),some (.str hh),some (.ref D),v4])∧Same H H'∧∃ kvs : List (Key × V),H' D = some (.dK kvs)∧DKn H' (fun r=>(r∈rs.take i∧r.word = wd)∧r.h = hh) kvs∧kvs.length≤i)
   ⟨⟨none,rfl⟩,s0,[],hD0,⟨fun _ m=>(nomatch m),(fun r h=>by rw [List.take_zero] at h; exact nomatch h.1.1),List.nodup_nil⟩,Nat.le_refl _⟩ (fun i σ H' _ h=>SqL.of (h.2.1 _ _ hl)) ?_ ?_
  ·rintro i v σ H1 H2 hi ⟨⟨v4,rfl⟩,g1,kvs,hD,dk,hk⟩ ⟨rfl,hv⟩
   have hir : i < rs.length:=by rw [← hrs.1]; exact hi
   have er : rs[i]? = some rs[i]:=List.getElem?_eq_getElem hir
   generalize rs[i] = r at er
   obtain ⟨a,ea,ha⟩:=hrs.2 i r er
   obtain rfl : V.ref a = v:=Option.some.inj (ea.symm.trans hv)
   have ha1:=g1 _ _ ha
   have skip : ¬ (r.word = wd∧r.h = hh)→(∃ v4 : Option V,[some (V.ref l),some (V.str wd),some (V.str hh),some (V.ref D),some (V.ref a)] = [some (V.ref l),some (V.str wd),some (V.str hh),some (V.ref D),v4])∧Same H H2∧∃ kvs : List (Key × V),H2 D = some (.dK kvs)∧DKn H2 (fun x=>(x∈rs.take (i + 1)∧x.word = wd)∧x.h = hh) kvs∧kvs.length≤i + 1:=fun n=>by
    refine ⟨⟨_,rfl⟩,g1,kvs,hD,dk.iff fun x=>?_,Nat.le_succ_of_le hk⟩
    rw [of_take er]
    constructor
    ·exact fun z=>⟨⟨.inl z.1.1,z.1.2⟩,z.2⟩
    ·rintro ⟨⟨z | rfl,z2⟩,z3⟩
     ·exact ⟨⟨z,z2⟩,z3⟩
     ·exact absurd ⟨z2,z3⟩ n
   refine ⟨_,rfl,a,_,0,_,rfl,rfl,SqT.of ha1,at0 r,_,rfl,rfl,_,rfl,ite2 (fun e1=>?_) (fun e1=>iteF (skip fun z=>by rw [z.1] at e1; simp at e1))⟩
   have e1 : r.word = wd:=by simpa using e1
   refine ⟨_,rfl,a,_,1,_,rfl,rfl,SqT.of ha1,at1 r,_,rfl,rfl,_,rfl,ite2 (fun e2=>?_) (fun e2=>(skip fun z=>by rw [z.2] at e2; simp at e2))⟩
   have e2 : r.h = hh:=by simpa using e2
   refine ⟨_,rfl,_,rfl,?_⟩
   dsimp only [tNoPart]
   refine ⟨a,_,rfl,SqT.of ha1,not_whole3 r,fun b nb=>?_⟩
   rw [drop3]
   have sb : Same H2 (upd H2 b (.tup (r.vals.drop 3))):=same_upd nb
   have hb : (upd H2 b (.tup (r.vals.drop 3))) b = some (.tup (r.vals.drop 3)):=upd_same
   generalize upd H2 b (.tup (r.vals.drop 3)) = H3 at sb hb ⊢
   have hD3:=sb _ _ hD
   refine ⟨_,rfl,_,rfl,a,_,2,_,rfl,rfl,SqT.of (sb _ _ ha1),at2 r,D,_,rfl,DPut.k (k:=Sum.inl r.k) hD3 (small_line (by omega)),⟨_,rfl⟩,same_mut (g1.trans sb) nD,_,upd_same,?_,put_len hk⟩
   refine ((((dk.go fun c ys e=>sb _ _ e).put hb).go fun c ys e=>?_).iff fun x=>?_)
   ·rw [upd_ne (ne_of e hD3 (fun z=>nomatch z))]
    exact e
   ·rw [of_take er]
    constructor
    ·rintro (z | rfl)
     ·exact ⟨⟨.inl z.1.1,z.1.2⟩,z.2⟩
     ·exact ⟨⟨.inr rfl,e1⟩,e2⟩
    ·rintro ⟨⟨z | rfl,z2⟩,z3⟩
     ·exact .inl ⟨⟨z,z2⟩,z3⟩
     ·exact .inr rfl
  ·rintro σ H1 ⟨⟨v4,rfl⟩,g1,kvs,hD,dk,hk⟩
   rw [hrs.1,List.take_length] at dk
   rw [hrs.1] at hk
   exact ⟨_,rfl,q D kvs H1 g1 nD hD dk (by omega)⟩
theorem book_uq {hs : List Str} {rs : List Row} (B : Book hs rs) {wd h : Str} (hw : wd = "ask" ∨ wd = "job") : ∀ r t,(Bk rs wd r∧r.h = h)→(Bk rs wd t∧t.h = h)→r.k = t.k→r = t:=fun r t hr ht e=>B.uniq hw r t hr.1 ht.1 (by
 show (r.h,r.k) = (t.h,t.k)
 rw [hr.2,ht.2,e])
theorem dkn_get {H : Hp} {P : Row→Prop} {kvs : List (Key × V)} (d : DKn H P kvs) (un : ∀ r t,P r→P t→r.k = t.k→r = t) {r : Row} (h : P r) : ∃ b,valV kvs (.inl r.k) = some (.ref b)∧H b = some (.tup (r.vals.drop 3)):=by
 obtain ⟨v,m⟩:=d.all r h
 obtain ⟨b,t,e1,e2,e3,e4⟩:=d.own _ m
 have e4 : (Sum.inl r.k : Key) = Sum.inl t.k:=e4
 have e1 : v = .ref b:=e1
 subst e1
 obtain rfl:=un r t h e3 (Sum.inl.inj e4)
 exact ⟨b,val_of_in d.nd m,e2⟩
structure TelL (H : Hp) (l p : Addr) (hs : List Str) (xs us : List V) (rs : List Row) (ps : List PrK) : Prop where
 lst : H l = some (.lst xs)
 rows : Rws H xs rs
 few : rs.length≤1000
 book : Book hs rs
 plst : H p = some (.lst us)
 prs : Pks H us ps
 plen : ps.length≤1000
 kn : ∀ p∈ps,∃ r,rowOf rs "ask" p.1 = some r
 ok : ∀ p∈ps,PyData.strOk p.2.1 = true
theorem TelL.same {H H' : Hp} {l p : Addr} {hs : List Str} {xs us : List V} {rs : List Row} {ps : List PrK} (h : TelL H l p hs xs us rs ps) (s : Same H H') : TelL H' l p hs xs us rs ps :=
 ⟨s _ _ h.lst,h.rows.same s,h.few,h.book,s _ _ h.plst,h.prs.same s,h.plen,h.kn,h.ok⟩
def sp_l_above : Sp:=fun vs H Q _=>∃ (l p b : Addr) (hs : List Str) (xs us : List V) (rs : List Row) (ps : List PrK) (j : Gr.HK),vs = [.ref l,.ref p,.ref b]∧TelL H l p hs xs us rs ps∧H b = some (.tup ((Gr.keyOf j).map kV))∧PyData.strOk j.1 = true ∧
 ∀ (v : V) (H' : Hp),Same H H'→CurV H' v (upF rs ps j)→Q v H'
theorem ok_l_above (T : Txt K mg af fd) : FnOk P w K mg base CX0 2 (af 52) (fd 52) ["rows", "telling", "job"] sp_l_above:=by
 refine T.F_l_above.ok sc_l_above (fun vs H Q E h=>?_) (fun cdv A outer s H vs Q E hr h=>?_)
 ·obtain ⟨l,p,b,hs,xs,us,rs,ps,j,rfl,_⟩:=h
  rfl
 ·obtain ⟨l,p,b,hs,xs,us,rs,ps,j,rfl,t,hb,okj,q⟩:=h
  refine ⟨_,(pss_cons (ps_for PassesOwn.never rfl (pi_list (pv 1)) (pg_tup rfl (pgs_cons (pg_name (i:=3) sc_l_above.nd rfl (by first | exact Or.inl rfl | exact Or.inr rfl)) (pgs_cons (pg_name (i:=4) sc_l_above.nd rfl (by first | exact Or.inl rfl | exact Or.inr rfl)) pgs_nil))) (pss_one (ps_if (pt_cmpR (op_eqD hr.units) (pv 4) (pv 2) (nomark _)) (pss_one (ps_ret (pe_tup (pa_cons (pe_ix ix_tup (pv 3) pe_int (fun _ _=>rfl)) (pa_cons (pe_ix ix_tup (pe_dget (hu_of hr) (pe_call (ok_l_known T) (hr.mono (by first | decide | omega)) (by rfl) T.g_l_known T.F_l_known.kp T.b_l_known .nil pass0 (pa_cons (pv 0) (pa_cons pe_str (pa_cons (pe_ix ix_tup (pv 3) pe_int (fun _ _=>rfl)) pa_nil)))) (pe_ix ix_tup (pv 3) pe_int (fun _ _=>rfl)) (fun _ _=>rfl)) pe_int (fun _ _=>rfl)) pa_nil))))) pss_nil)))
    (pss_one (ps_ret pe_non))),?_⟩
  refine ⟨_,rfl,p,rfl,⟨_,SqL.of t.plst⟩,?_⟩
  refine for_it (walk_list (K:=K) (a:=p) (xs:=us)) (fun i σ H'=>(∃ v3 v4 : Option V,σ = [some (.ref l),some (.ref p),some (.ref b),v3,v4])∧Same H H'∧∀ q0∈ps.take i,q0.2≠j)
   ⟨⟨none,none,rfl⟩,Same.refl H,fun q0 m=>nomatch (show q0∈[] from m)⟩ (fun i σ H' _ h=>SqL.of (h.2.1 _ _ t.plst)) ?_ ?_
  ·rintro i v σ H3 H4 hi ⟨⟨v3,v4,rfl⟩,g1,no⟩ ⟨rfl,hv⟩
   have hir : i < ps.length:=by rw [← t.prs.1]; exact hi
   have er : ps[i]? = some ps[i]:=List.getElem?_eq_getElem hir
   generalize ps[i] = pr at er
   obtain ⟨c,y,z,e1,e2,e3,e4⟩:=t.prs.2 i pr er
   obtain rfl : V.ref c = v:=Option.some.inj (e1.symm.trans hv)
   have mp:=List.mem_of_getElem? er
   obtain ⟨R,eR⟩:=t.kn pr mp
   obtain ⟨bR,kR⟩:=rowOf_some eR
   have t3:=t.same g1
   refine ⟨c,_,rfl,SqT.of (g1 _ _ e2),rfl,_,_,rfl,_,_,rfl,rfl,?_⟩
   refine ⟨_,rfl,_,rfl,hkD pr.2,hkD j,hkD_dp (g1 _ _ e4),hkD_dp (g1 _ _ hb),hkD_shaped (t.ok pr mp),hkD_shaped okj,_,rfl,?_⟩
   rw [hkD_eqv]
   by_cases e : pr.2 = j
   ·rw [decide_eq_true e]
    refine iteT ?_
    refine ⟨_,rfl,y,_,0,_,rfl,rfl,SqT.of (g1 _ _ e3),rfl,?_⟩
    refine ⟨_,rfl,_,rfl,y,_,0,_,rfl,rfl,SqT.of (g1 _ _ e3),rfl,l, "ask", pr.1.1,xs,rs,rfl,t3.lst,t3.rows,t.few,fun D kvs H5 s5 nD hD dk _=>?_⟩
    obtain ⟨b1,va,hb1⟩:=dkn_get dk (book_uq t.book (.inl rfl)) (r:=R) ⟨bR,by rw [← kR]; rfl⟩
    have ga:=DGet.k (k:=Sum.inl R.k) hD
    rw [va] at ga
    have ek : R.k = pr.1.2:=by rw [← kR]; rfl
    rw [ek] at ga
    have g5:=g1.trans s5
    have eh : R.h = pr.1.1:=by rw [← kR]; rfl
    have em : madeIn rs pr.1 = (pr.1.1,R.x3):=by unfold madeIn; rw [eR]; show (R.h,R.x3) = _; rw [eh]
    have a0 : atI (R.vals.drop 3) 0 = some (.int R.x3):=by
     cases R with
     | job _ _ _ _=>exact absurd bR.2 w_ja'
     | all _ _ _=>exact absurd bR.2 w_la
     | ask _ _ _ _ _ _=>rfl
    refine ⟨_,rfl,y,_,1,_,rfl,rfl,SqT.of (g5 _ _ e3),rfl,D,_,rfl,ga,b1,_,0,_,rfl,rfl,SqT.of hb1,a0,(by show 2≤sizeLine; decide),fun f nf=>?_⟩
    refine q _ _ (g5.trans (same_upd nf)) ⟨some (.ref f),?_,rfl⟩
    have : upF rs ps j = some (madeIn rs pr.1):=by
     unfold upF
     have ef : (ps.find? fun p=>decide (p.2 = j)) = some pr:=by
      have es : ps = ps.take i ++ pr :: ps.drop (i + 1):=by
       obtain ⟨l1,l2⟩:=List.getElem?_eq_some_iff.mp er
       rw [← l2,← List.drop_eq_getElem_cons l1,List.take_append_drop]
      rw [es,List.find?_append,List.find?_eq_none.mpr fun x m=>by simpa using no x m]
      show (List.find? (fun p : PrK=>decide (p.2 = j)) (pr :: ps.drop (i + 1))) = some pr
      rw [List.find?_cons,decide_eq_true e]
     rw [ef]
     rfl
    rw [this,em]
    exact ⟨f,rfl,upd_same⟩
   ·rw [decide_eq_false e]
    refine iteF ?_
    refine ⟨⟨_,_,rfl⟩,g1,fun q0 m=>?_⟩
    rw [take_snoc er] at m
    rcases List.mem_append.mp m with m | m
    ·exact no q0 m
    ·rw [List.mem_singleton.mp m]
     exact e
  ·rintro σ H4 ⟨⟨v3,v4,rfl⟩,g1,no⟩
   rw [t.prs.1,List.take_length] at no
   refine q _ H4 g1 ⟨none,?_,rfl⟩
   have : upF rs ps j = none:=by
    cases e : upF rs ps j with
    | none=>rfl
    | some u =>
     obtain ⟨p0,m,e1,_⟩:=upF_some e
     exact absurd e1 (no p0 m)
   rw [this]
   rfl
theorem set_of_ks {H : Hp} {us : List V} {ks : List Gr.HK} (h : KsL H us ks) : ∃ ls : List (Addr × List Key),us = ls.map (fun p=>V.ref p.1)∧(∀ p∈ls,SqT K H p.1 (p.2.map kV))∧ls.map Prod.snd = ks.map Gr.keyOf:=by
 have key : ∀ (us : List V) (ks : List Gr.HK),KsL H us ks→∃ ls : List (Addr × List Key),us = ls.map (fun p=>V.ref p.1)∧(∀ p∈ls,SqT K H p.1 (p.2.map kV))∧ls.map Prod.snd = ks.map Gr.keyOf:=by
  intro us
  induction us with
  | nil =>
   intro ks h
   cases ks with
   | nil=>exact ⟨[],rfl,(fun p m=>nomatch m),rfl⟩
   | cons k ks=>cases h.1
  | cons u us ih =>
   intro ks h
   cases ks with
   | nil=>cases h.1
   | cons k ks =>
    obtain ⟨b,e1,e2⟩:=h.2 0 k rfl
    obtain rfl:=Option.some.inj e1
    obtain ⟨ls,e3,e4,e5⟩:=ih ks ⟨Nat.succ.inj h.1,fun i x e=>h.2 (i + 1) x e⟩
    refine ⟨(b,Gr.keyOf k) :: ls,by rw [e3]; rfl,fun p m=>?_,by rw [List.map_cons,e5]; rfl⟩
    rcases List.mem_cons.mp m with rfl | m
    ·exact SqT.of e2
    ·exact e4 p m
 exact key us ks h
theorem fewer_of {ls : List (Addr × List Key)} {ks J : List Gr.HK} (e : ls.map Prod.snd = ks.map Gr.keyOf) (sub : ∀ k∈ks,k∈J) (lJ : J.length < 64) : Ms.Fewer ls:=fun L nd h=>by
 refine Nat.lt_of_le_of_lt (Ms.nodup_sub (ks:=J.map Gr.keyOf) nd fun k m=>?_) (by rw [List.length_map]; exact lJ)
 have m2:=h k m
 rw [e] at m2
 obtain ⟨x,mx,rfl⟩:=List.mem_map.mp m2
 exact List.mem_map.mpr ⟨x,sub x mx,rfl⟩
theorem lc_keysW {l D : Addr} {xs : List V} {rs : List Row} {σ : L2.St} {i : Nat} {tt : TT} {te : TE} {H0 : Hp} {Qd : Hp→Prop} (wd : Str) (f : Row→Gr.HK) (hl : H0 l = some (.lst xs)) (hr : Rws H0 xs rs) (lr : rs.length≤1000) (nD : H0 D = none)
  (htt : ∀ a r H2 (Kt : Bool→Hp→Prop),RowAt H2 a r→Kt (decide (r.word = wd)) H2→tt ((wipe σ [i]).set i (some (.ref a))) H2 Kt)
  (hte : ∀ a r H2 (Ke : V→Hp→Prop),RowAt H2 a r→r.word = wd→(∀ b,H2 b = none→Ke (.ref b) (upd H2 b (.tup ((Gr.keyOf (f r)).map kV))))→te ((wipe σ [i]).set i (some (.ref a))) H2 Ke)
  (hq : ∀ (us : List V) (H' : Hp),Same H0 H'→H' D = some (.lst us)→KsL H' us (keysW rs wd f)→Qd H') :
  ∃ W : Nat→Nat→Hp→Prop,(∃ m,W 0 m (upd H0 D (.lst [])))∧∀ k m H,W k m H →
   ((Itl K l).stop k H∧Qd H)∨((Itl K l).go k H∧∃ Nx : Hp→Prop,(∀ H',Nx H'→∃ m',m' < m∧W (k + 1) m' H')∧∀ x H',(Itl K l).yld k H x H'→gName i x (wipe σ [i]) H' fun σ2 H2=>wipe σ2 [i] = wipe σ [i]∧tt σ2 H2 fun b H3 =>
    if b = true then te σ2 H3 fun y H4=>∃ acc,H4 D = some (.lst acc)∧acc.length < sizeLine∧Nx (upd H4 D (.lst (acc ++ [y]))) else Nx H3):=by
 refine lc_it (walk_list (K:=K) (a:=l) (xs:=xs)) (g:=gName i) (fun k H'=>Same H0 H'∧∃ us,H' D = some (.lst us)∧KsL H' us (keysW (rs.take k) wd f))
  ⟨same_upd nD,[],upd_same,rfl,fun j b e=>nomatch e⟩ (fun k H' _ h=>SqL.of (h.1 _ _ hl)) ?_ ?_
 ·rintro k v G1 G2 hk ⟨g,us,hD,ks⟩ ⟨rfl,ev⟩
  have hkr : k < rs.length:=by rw [← hr.1]; exact hk
  have er : rs[k]? = some rs[k]:=List.getElem?_eq_getElem hkr
  generalize rs[k] = r at er
  obtain ⟨a,ea,ha⟩:=hr.2 k r er
  obtain rfl : V.ref a = v:=Option.some.inj (ea.symm.trans ev)
  have out : keysW (rs.take (k + 1)) wd f = keysW (rs.take k) wd f ++ (if r.word = wd then [f r] else []):=by
   unfold keysW
   rw [take_snoc er,List.filter_append,List.map_append]
   congr 1
   by_cases e : r.word = wd
   ·rw [if_pos e,List.filter_cons,if_pos (decide_eq_true e)]
    rfl
   ·rw [if_neg e,List.filter_cons,if_neg (by simpa using e)]
    rfl
  have lu : us.length≤k:=by
   rw [ks.1]
   refine Nat.le_trans (keysW_len _ _ _) ?_
   rw [List.length_take]
   exact Nat.min_le_left _ _
  refine ⟨wipe_one σ i _,htt a r G2 _ (g _ _ ha) ?_⟩
  by_cases e : r.word = wd
  ·rw [decide_eq_true e]
   refine iteT (hte a r G2 _ (g _ _ ha) e fun b nb=>?_)
   have sb : Same G2 (upd G2 b (.tup ((Gr.keyOf (f r)).map kV))):=same_upd nb
   have hb' : (upd G2 b (.tup ((Gr.keyOf (f r)).map kV))) b = some (.tup ((Gr.keyOf (f r)).map kV)):=upd_same
   generalize upd G2 b (.tup ((Gr.keyOf (f r)).map kV)) = G3 at sb hb' ⊢
   have hD3:=sb _ _ hD
   have tup : ∀ c ys,G3 c = some (.tup ys)→(upd G3 D (.lst (us ++ [.ref b]))) c = some (.tup ys):=fun c ys e=>by
    rw [upd_ne (ne_of e hD3 (fun z=>nomatch z))]
    exact e
   refine ⟨us,hD3,small_line (by omega),same_mut (g.trans sb) nD,us ++ [.ref b],upd_same,?_⟩
   rw [out,if_pos e]
   exact (ks.go fun c ys e=>tup _ _ (sb _ _ e)).snoc (tup _ _ hb')
  ·rw [decide_eq_false e]
   refine iteF ⟨g,us,hD,?_⟩
   rw [out,if_neg e,List.append_nil]
   exact ks
 ·rintro G ⟨g,us,hD,ks⟩
  rw [hr.1,List.take_length] at ks
  exact hq us G g hD ks
theorem KsL.app2 {H : Hp} {us vs : List V} {ks ls : List Gr.HK} (h : KsL H us ks) (h2 : KsL H vs ls) : KsL H (us ++ vs) (ks ++ ls):=by
 refine ⟨by rw [List.length_append,List.length_append,h.1,h2.1],fun i k e=>?_⟩
 by_cases hi : i < ks.length
 ·rw [List.getElem?_append_left hi] at e
  rw [List.getElem?_append_left (by rw [h.1]; exact hi)]
  exact h.2 i k e
 ·rw [List.getElem?_append_right (by omega)] at e
  rw [List.getElem?_append_right (by rw [h.1]; omega),h.1]
  exact h2.2 _ k e
def sp_tree_jobs : Sp:=fun vs H Q _=>∃ (l : Addr) (xs : List V) (rs : List Row),vs = [.ref l]∧H l = some (.lst xs)∧Rws H xs rs∧rs.length≤60∧(∀ r∈rs,PyData.strOk r.h = true) ∧
 ∀ (L : Addr) (us : List V) (ks : List Gr.HK) (H' : Hp),Same H H'→H L = none→H' L = some (.lst us)→KsL H' us ks→(∀ k∈ks,PyData.strOk k.1 = true)→ks.length≤60→((∃ r∈rs,r.word = "job")→1≤ks.length)→SrtK ks→ks.Nodup→(∀ k,k∈ks↔TreeJ rs k)→Q (.ref L) H'
theorem ok_l_tree_jobs (T : Txt K mg af fd) : FnOk P w K mg base CX0 1 (af 53) (fd 53) ["rows"] sp_tree_jobs:=by
 refine T.F_l_tree_jobs.ok sc_l_tree_jobs (fun vs H Q E h=>?_) (fun cdv A outer s H vs Q E hr h=>?_)
 ·obtain ⟨l,xs,rs,rfl,_⟩:=h
  rfl
 ·obtain ⟨l,xs,rs,rfl,hl,hrs,hlen,ok,q⟩:=h
  refine ⟨_,(pss_cons (ps_set (i:=1) sc_l_tree_jobs.nd rfl (by first | exact Or.inl rfl | exact Or.inr rfl) (pe_op op_cat (pe_lc (own:=[("row", 2)]) (g:=gName 2) (by rfl) sc_l_tree_jobs.nd (pi_list (pv 0)) (blkOk_by (own:=[("row", 2)]) (N:=["rows", "found", "row"]) (sc:=defScope s_l_tree_jobs) (by decide +kernel)) (fun _ _ _ _ _=>pg_name (i:=2) sc_l_tree_jobs.nd rfl (Or.inl rfl)) (fun _ _ _ _ _=>(pts_one (pt_cmpR op_eq (pe_ix (show IxR _ (rIxT K) from ix_tup) (pv 2) pe_int (fun _ _=>rfl)) pe_str (nomark _)))) (fun _ _ _ _ _=>(pe_slice (show SlR _ (rSlT K) from sl_tup) (pv 2) (po_some pe_int) (po_some pe_int)))) (pe_lc (own:=[("row", 2)]) (g:=gName 2) (by rfl) sc_l_tree_jobs.nd (pi_list (pv 0)) (blkOk_by (own:=[("row", 2)]) (N:=["rows", "found", "row"]) (sc:=defScope s_l_tree_jobs) (by decide +kernel)) (fun _ _ _ _ _=>pg_name (i:=2) sc_l_tree_jobs.nd rfl (Or.inl rfl)) (fun _ _ _ _ _=>(pts_one (pt_cmpR op_eq (pe_ix (show IxR _ (rIxT K) from ix_tup) (pv 2) pe_int (fun _ _=>rfl)) pe_str (nomark _)))) (fun _ _ _ _ _=>(pe_tup (pa_cons (pe_ix (show IxR _ (rIxT K) from ix_tup) (pv 2) pe_int (fun _ _=>rfl)) (pa_cons (pe_ix (show IxR _ (rIxT K) from ix_tup) (pv 2) pe_int (fun _ _=>rfl)) pa_nil)))))))
    (pss_one (ps_ret (pe_callB (Ms.cr_sortM rfl hr.units) (by rfl) T.m_sorted (by decide +kernel) (pa_cons (pe_callTy (Ms.cr_setM rfl (un3 hr.units)) (by rfl) T.m_set (by decide +kernel) (pa_cons (pv 1) pa_nil)) pa_nil))))),?_⟩
  refine ⟨_,rfl,l,rfl,⟨_,SqL.of hl⟩,fun D nD=>?_⟩
  refine lc_keysW (K:=K) "job" Row.key hl hrs (by omega) nD (fun a r H2 Kt ha k=>?_) (fun a r H2 Ke ha ew k=>?_) (fun us H2 s2 hD ku=>?_)
  ·exact ⟨_,rfl,a,_,0,_,rfl,rfl,SqT.of ha,at0 r,rfl,_,rfl,by rw [show decide (V.str r.word = V.str "job") = decide (r.word = ("job" : Str)) from by simp]; exact k⟩
  ·refine ⟨_,rfl,?_⟩
   dsimp only [tNoPart]
   refine ⟨_,rfl,_,rfl,a,_,rfl,SqT.of ha,nw13 r,fun b nb=>?_⟩
   rw [cut13]
   exact k b nb
  refine ⟨_,rfl,l,rfl,⟨_,SqL.of (s2 _ _ hl)⟩,fun D2 nD2=>?_⟩
  refine lc_keysW (K:=K) "ask" (fun r=>(r.h,r.x3)) (s2 _ _ hl) (hrs.same s2) (by omega) nD2 (fun a r H2 Kt ha k=>?_) (fun a r H2 Ke ha ew k=>?_) (fun vs H3 s3 hD3 kv=>?_)
  ·exact ⟨_,rfl,a,_,0,_,rfl,rfl,SqT.of ha,at0 r,rfl,_,rfl,by rw [show decide (V.str r.word = V.str "ask") = decide (r.word = ("ask" : Str)) from by simp]; exact k⟩
  ·exact ⟨_,rfl,a,_,1,_,rfl,rfl,SqT.of ha,at1 r,_,rfl,a,_,3,_,rfl,rfl,SqT.of ha,at3 r,(by show 2≤sizeLine; decide),fun b nb=>k b nb⟩
  have s23:=s2.trans s3
  have l1:=keysW_len rs "job" Row.key
  have l2:=keysW_len rs "ask" fun r=>(r.h,r.x3)
  have l3 : us.length + vs.length≤60:=by
   rw [ku.1,kv.1]
   unfold keysW
   rw [List.length_map,List.length_map]
   have : ∀ l : List Row,(l.filter fun r : Row=>decide (r.word = ("job" : Str))).length + (l.filter fun r : Row=>decide (r.word = ("ask" : Str))).length≤l.length:=by
    intro l
    induction l with
    | nil=>exact Nat.le_refl _
    | cons r l ih =>
     rw [List.filter_cons,List.filter_cons,List.length_cons]
     by_cases e : r.word = ("job" : Str)
     ·have n : r.word≠("ask" : Str):=fun z=>w_ja' (e.symm.trans z)
      rw [if_pos (decide_eq_true e),if_neg (by simpa using n),List.length_cons]
      omega
     ·rw [if_neg (by simpa using e)]
      by_cases e2 : r.word = ("ask" : Str)
      ·rw [if_pos (decide_eq_true e2),List.length_cons]
       omega
      ·rw [if_neg (by simpa using e2)]
       omega
   exact Nat.le_trans (this rs) hlen
  refine ⟨D,D2,us,vs,rfl,rfl,s3 _ _ hD,hD3,Nat.le_trans l3 (by show 60≤sizeLine; decide),fun F nF=>?_⟩
  have s4 : Same H3 (upd H3 F (.lst (us ++ vs))):=same_upd nF
  have hF : (upd H3 F (.lst (us ++ vs))) F = some (.lst (us ++ vs)):=upd_same
  have kall:=((ku.go fun b xs e=>s3 _ _ e).app2 kv).go fun b xs e=>s4 _ _ e
  generalize upd H3 F (.lst (us ++ vs)) = H4 at s4 hF kall ⊢
  have okall : ∀ k∈keysW rs "job" Row.key ++ keysW rs "ask" (fun r=>(r.h,r.x3)),PyData.strOk k.1 = true:=fun k m=>by
   rcases List.mem_append.mp m with m | m
   ·obtain ⟨r,mr,rfl⟩:=List.mem_map.mp m
    exact ok r (List.mem_filter.mp mr).1
   ·obtain ⟨r,mr,rfl⟩:=List.mem_map.mp m
    exact ok r (List.mem_filter.mp mr).1
  have lall : (keysW rs "job" Row.key ++ keysW rs "ask" (fun r=>(r.h,r.x3))).length≤60:=by
   rw [← kall.1,List.length_append]
   exact l3
  have ne : (∃ r∈rs,r.word = "job")→∃ k,k∈keysW rs "job" Row.key ++ keysW rs "ask" (fun r=>(r.h,r.x3)):=fun ⟨r,mr,e⟩ =>
   ⟨r.key,List.mem_append_left _ (List.mem_map.mpr ⟨r,List.mem_filter.mpr ⟨mr,decide_eq_true e⟩,rfl⟩)⟩
  have tj : ∀ k,k∈keysW rs "job" Row.key ++ keysW rs "ask" (fun r=>(r.h,r.x3))↔TreeJ rs k:=fun k=>List.mem_append
  generalize keysW rs "job" Row.key ++ keysW rs "ask" (fun r=>(r.h,r.x3)) = ks at kall okall lall ne tj
  obtain ⟨ls,el,hls,esn⟩:=set_of_ks (K:=K) kall
  refine ⟨_,rfl,F,ls,rfl,SqL.of (by rw [← el]; exact hF),hls,fewer_of esn (fun k m=>m) (by omega),fun S L nS sub un=>?_⟩
  show Ms.rSortM K P w [V.ref S] (upd H4 S (Ms.SetM P w S L)) Q
  have s5 : Same H4 (upd H4 S (Ms.SetM P w S L)):=same_upd nS
  have hS : (upd H4 S (Ms.SetM P w S L)) S = some (Ms.SetM P w S L):=upd_same
  generalize upd H4 S (Ms.SetM P w S L) = H5 at s5 hS ⊢
  have at5 : ∀ p∈L,∃ k∈ks,p.2 = Gr.keyOf k∧H5 p.1 = some (.tup ((Gr.keyOf k).map kV)):=fun p m=>by
   obtain ⟨i,hi⟩:=List.getElem?_of_mem (sub p m)
   have e1 : (us ++ vs)[i]? = some (V.ref p.1):=by rw [el,List.getElem?_map,hi]; rfl
   have e2 : (ks.map Gr.keyOf)[i]? = some p.2:=by rw [← esn,List.getElem?_map,hi]; rfl
   rw [List.getElem?_map] at e2
   obtain ⟨k,ek,ep⟩:=Option.map_eq_some_iff.mp e2
   obtain ⟨b,eb,hb⟩:=kall.2 i k ek
   obtain rfl : b = p.1:=V.ref.inj (Option.some.inj (eb.symm.trans e1))
   exact ⟨k,List.mem_of_getElem? ek,ep.symm,s5 _ _ hb⟩
  have eL : L.map (fun p=>hkD (hkInv p.2)) = (L.map fun p=>hkInv p.2).map hkD:=by rw [List.map_map]; rfl
  refine ⟨S,L,fun p=>hkD (hkInv p.2),rfl,hS,fun p m=>?_,by rw [eL]; exact alike_hk _,by rw [eL]; exact sortable_hk _,fun p m=>(by show 1≤50; decide),fun bs p pm up np=>?_⟩
  ·obtain ⟨k,mk,e,hb⟩:=at5 p m
   dsimp only
   rw [e,hkInv_keyOf]
   exact hkD_dp hb
  ·have s6 : Same H5 (upd H5 p (.lst (bs.map fun b=>V.ref b.1))):=same_upd np
   have s1:=(s23.trans s4).trans s5
   have sz : L.length≤60:=by
    have h1:=Ms.nodup_sub un.1 fun k m=>(un.2 k).mp m
    rw [esn,List.length_map,List.length_map] at h1
    omega
   refine q p _ (bs.map fun b=>hkInv b.2) _ (s1.trans s6) (s1.free np) upd_same ⟨by rw [List.length_map,List.length_map],fun i k e=>?_⟩ (fun k m=>?_) (by rw [List.length_map,pm.length_eq]; exact sz) (fun h=>?_) ?_ ?_ fun k=>?_
   ·rw [List.getElem?_map] at e
    obtain ⟨x,ex,rfl⟩:=Option.map_eq_some_iff.mp e
    obtain ⟨k2,mk,e2,hb⟩:=at5 x (pm.mem_iff.mp (List.mem_of_getElem? ex))
    refine ⟨x.1,by rw [List.getElem?_map,ex]; rfl,s6 _ _ ?_⟩
    rw [e2,hkInv_keyOf]
    exact hb
   ·obtain ⟨x,mx,rfl⟩:=List.mem_map.mp m
    obtain ⟨k2,mk,e2,hb⟩:=at5 x (pm.mem_iff.mp mx)
    rw [e2,hkInv_keyOf]
    exact okall k2 mk
   ·obtain ⟨k0,m0⟩:=ne h
    have m1:=(un.2 (Gr.keyOf k0)).mpr (by rw [esn]; exact List.mem_map_of_mem m0)
    rw [List.length_map,pm.length_eq,← List.length_map (f:=Prod.snd)]
    exact List.length_pos_of_mem m1
   ·unfold SrtK
    rw [List.pairwise_map]
    refine up.imp fun {a b} h=>?_
    rw [← hkD_lt]
    exact h
   ·have:=(pm.map Prod.snd).nodup_iff.mpr un.1
    rw [List.nodup_iff_pairwise_ne,List.pairwise_map] at this ⊢
    refine this.imp_of_mem fun {a b} ma mb n e=>n ?_
    obtain ⟨y,_,e1,_⟩:=at5 a (pm.mem_iff.mp ma)
    obtain ⟨z,_,e2,_⟩:=at5 b (pm.mem_iff.mp mb)
    rw [e1,e2,hkInv_keyOf,hkInv_keyOf] at e
    rw [e1,e2,e]
   ·rw [← tj,List.mem_map]
    constructor
    ·rintro ⟨b,mb,rfl⟩
     obtain ⟨y,my,e2,_⟩:=at5 b (pm.mem_iff.mp mb)
     rw [e2,hkInv_keyOf]
     exact my
    ·intro mk
     obtain ⟨b,mb,e⟩:=List.mem_map.mp ((un.2 (Gr.keyOf k)).mpr (by rw [esn]; exact List.mem_map_of_mem mk))
     exact ⟨b,pm.mem_iff.mpr mb,by rw [e,hkInv_keyOf]⟩
def sp_same (n : Nat) : Sp:=fun vs H Q _=>∃ (Ex Ey : Addr→Prop) (v u : V) (d : PyData),vs = [v,u]∧Dq Ex H v d∧Dq Ey H u d∧d.depth < n∧∀ H',Same H H'→Q (.bl true) H'
theorem depth_mem : ∀ {ds : List PyData} {d : PyData},d∈ds→d.depth≤PyData.depthAll ds
 | x :: xs,d,h=>by
  show d.depth≤max x.depth (PyData.depthAll xs)
  rcases List.mem_cons.mp h with e | m
  ·rw [e]
   exact Nat.le_max_left _ _
  ·exact Nat.le_trans (depth_mem m) (Nat.le_max_right _ _)
theorem ok_same_n (T : Txt K mg af fd) : ∀ n : Nat,FnOk P w K mg base CX0 (n + 1) (af 54) (fd 54) ["found", "due"] (sp_same n):=by
 intro n
 induction n with
 | zero=>exact ⟨fun vs H Q E ⟨_,_,_,_,_,_,_,_,h,_⟩=>absurd h (Nat.not_lt_zero _),fun A outer s H args us vs Q E hr he hb hv ⟨_,_,_,_,_,_,_,_,h,_⟩=>absurd h (Nat.not_lt_zero _)⟩
 | succ n ih =>
  refine T.F_l_same.ok sc_l_same (fun vs H Q E h=>?_) (fun cdv A outer s H vs Q E hr h=>?_)
  ·obtain ⟨Ex,Ey,v,u,d,rfl,_⟩:=h
   rfl
  ·obtain ⟨Ex,Ey,v,u,d,rfl,hv,hu,hdep,q⟩:=h
   refine ⟨_,(pss_cons (ps_if (pt_cmpR op_isN (pv 1) pe_non (nomark _)) (pss_one (ps_ret (pe_cmpR op_isN (pv 0) pe_non (nomark _)))) pss_nil)
    (pss_cons (ps_if (pt_cmpR (op_isB true) (pv 1) pe_bl (nomark _)) (pss_one (ps_ret (pe_cmpR (op_isB true) (pv 0) pe_bl (nomark _)))) pss_nil)
    (pss_cons (ps_if (pt_cmpR (op_isB false) (pv 1) pe_bl (nomark _)) (pss_one (ps_ret (pe_cmpR (op_isB false) (pv 0) pe_bl (nomark _)))) pss_nil)
    (pss_cons (ps_if (pt_val (pe_callB call_isi (by rfl) T.m_isinstance (by decide +kernel) (pa_cons (pv 1) (pa_cons (pe_bltn (v:=.ty "int") (by rfl) T.m_int (by decide +kernel) rfl) pa_nil)))) (pss_one (ps_ret (pe_and (pe_callB call_isi (by rfl) T.m_isinstance (by decide +kernel) (pa_cons (pv 0) (pa_cons (pe_bltn (v:=.ty "int") (by rfl) T.m_int (by decide +kernel) rfl) pa_nil))) (pe_and (pe_not (pe_callB call_isi (by rfl) T.m_isinstance (by decide +kernel) (pa_cons (pv 0) (pa_cons (pe_bltn (v:=.ty "bool") (by rfl) T.m_bool (by decide +kernel) rfl) pa_nil)))) (pe_one (pe_cmpR op_eq (pv 0) (pv 1) (nomark _))))))) pss_nil)
    (pss_cons (ps_if (pt_val (pe_callB call_isi (by rfl) T.m_isinstance (by decide +kernel) (pa_cons (pv 1) (pa_cons (pe_bltn (v:=.ty "str") (by rfl) T.m_str (by decide +kernel) rfl) pa_nil)))) (pss_one (ps_ret (pe_and (pe_callB call_isi (by rfl) T.m_isinstance (by decide +kernel) (pa_cons (pv 0) (pa_cons (pe_bltn (v:=.ty "str") (by rfl) T.m_str (by decide +kernel) rfl) pa_nil))) (pe_one (pe_cmpR op_eq (pv 0) (pv 1) (nomark _)))))) pss_nil)
    (pss_cons (ps_if (PW.pt (pw_or (pt_cmpR op_ne (pe_callB call_isi (by rfl) T.m_isinstance (by decide +kernel) (pa_cons (pv 1) (pa_cons (pe_bltn (v:=.ty "tuple") (by rfl) T.m_tuple (by decide +kernel) rfl) pa_nil))) (pe_callB call_isi (by rfl) T.m_isinstance (by decide +kernel) (pa_cons (pv 0) (pa_cons (pe_bltn (v:=.ty "tuple") (by rfl) T.m_tuple (by decide +kernel) rfl) pa_nil))) (nomark _)) (pw_or1 (pt_cmpR op_ne (pe_callB call_isi (by rfl) T.m_isinstance (by decide +kernel) (pa_cons (pv 1) (pa_cons (pe_bltn (v:=.ty "list") (by rfl) T.m_list (by decide +kernel) rfl) pa_nil))) (pe_callB call_isi (by rfl) T.m_isinstance (by decide +kernel) (pa_cons (pv 0) (pa_cons (pe_bltn (v:=.ty "list") (by rfl) T.m_list (by decide +kernel) rfl) pa_nil))) (nomark _))))) (pss_one (ps_ret pe_bl)) pss_nil)
    (pss_cons (ps_if (pt_cmpR op_ne (pe_callB call_len_seq (by rfl) T.m_len (by decide +kernel) (pa_cons (pv 0) pa_nil)) (pe_callB call_len_seq (by rfl) T.m_len (by decide +kernel) (pa_cons (pv 1) pa_nil)) (nomark _)) (pss_one (ps_ret pe_bl)) pss_nil)
    (pss_cons (ps_for PassesOwn.never rfl (RZ.pi_zipA (by rfl) T.m_zip (pa_cons (pv 0) (pa_cons (pv 1) pa_nil))) (pg_tup rfl (pgs_cons (pg_name (i:=2) sc_l_same.nd rfl (by first | exact Or.inl rfl | exact Or.inr rfl)) (pgs_cons (pg_name (i:=3) sc_l_same.nd rfl (by first | exact Or.inl rfl | exact Or.inr rfl)) pgs_nil))) (pss_one (ps_if (pt_not (pt_val (pe_call ih (hr.mono (by omega)) (by rfl) T.g_l_same T.F_l_same.kp T.b_l_same .nil pass0 (pa_cons (pv 2) (pa_cons (pv 3) pa_nil))))) (pss_one (ps_ret pe_bl)) pss_nil)))
    (pss_one (ps_ret pe_bl)))))))))),?_⟩
   refine ⟨_,rfl,rfl,_,rfl,?_⟩
   cases hu with
   | non =>
    cases hv
    exact iteTd rfl ⟨_,rfl,rfl,by rw [decide_eq_true rfl]; exact q H (Same.refl H)⟩
   | bl b =>
    cases hv
    refine iteFd (fun z=>by cases z) ⟨_,rfl,rfl,_,rfl,?_⟩
    cases b with
    | true=>exact iteTd rfl ⟨_,rfl,rfl,by rw [decide_eq_true rfl]; exact q H (Same.refl H)⟩
    | false=>exact iteFd (fun z=>by cases z) ⟨_,rfl,rfl,_,rfl,iteTd rfl ⟨_,rfl,rfl,by rw [decide_eq_true rfl]; exact q H (Same.refl H)⟩⟩
   | int i =>
    cases hv
    refine iteFd (fun z=>by cases z) ⟨_,rfl,rfl,_,rfl,iteFd (fun z=>by cases z) ⟨_,rfl,rfl,_,rfl,iteFd (fun z=>by cases z) ?_⟩⟩
    have hd : Dq Ex H (.int i) (.int i):=.int i
    refine ⟨_,rfl,_,_,_,_,_,rfl,.ty "int", hd.ty,isi_kit hd n_int,_,rfl,iteT ?_⟩
    refine ⟨_,rfl,_,_,_,_,_,rfl,.ty "int", hd.ty,isi_kit hd n_int,_,rfl,iteT ?_⟩
    refine ⟨_,rfl,_,_,_,_,_,rfl,.ty "bool", hd.ty,isi_kit hd n_bool,_,rfl,_,rfl,iteT ?_⟩
    exact ⟨_,rfl,_,rfl,rfl,by rw [decide_eq_true rfl]; exact q H (Same.refl H)⟩
   | str x =>
    cases hv
    refine iteFd (fun z=>by cases z) ⟨_,rfl,rfl,_,rfl,iteFd (fun z=>by cases z) ⟨_,rfl,rfl,_,rfl,iteFd (fun z=>by cases z) ?_⟩⟩
    have hd : Dq Ex H (.str x) (.str x):=.str x
    refine ⟨_,rfl,_,_,_,_,_,rfl,.ty "int", hd.ty,isi_kit hd n_int,_,rfl,iteF ?_⟩
    refine ⟨_,rfl,_,_,_,_,_,rfl,.ty "str", hd.ty,isi_kit hd n_str,_,rfl,iteT ?_⟩
    refine ⟨_,rfl,_,_,_,_,_,rfl,.ty "str", hd.ty,isi_kit hd n_str,_,rfl,iteT ?_⟩
    exact ⟨_,rfl,_,rfl,rfl,by rw [decide_eq_true rfl]; exact q H (Same.refl H)⟩
   | @lst b ys ds nb hb hds =>
    cases hv with
    | @lst a xs _ na ha hxs =>
     have hdu : Dq Ey H (.ref b) (.list ds):=.lst nb hb hds
     have hdv : Dq Ex H (.ref a) (.list ds):=.lst na ha hxs
     refine iteFd (fun z=>by cases z) ⟨_,rfl,rfl,_,rfl,iteFd (fun z=>by cases z) ⟨_,rfl,rfl,_,rfl,iteFd (fun z=>by cases z) ?_⟩⟩
     refine ⟨_,rfl,_,_,_,_,_,rfl,.ty "int", hdu.ty,isi_kit hdu n_int,_,rfl,iteF ?_⟩
     refine ⟨_,rfl,_,_,_,_,_,rfl,.ty "str", hdu.ty,isi_kit hdu n_str,_,rfl,iteF ?_⟩
     refine ⟨_,rfl,_,_,_,_,_,rfl,.ty "tuple", hdu.ty,isi_kit hdu n_tuple,_,rfl,_,_,_,_,_,rfl,.ty "tuple", hdv.ty,isi_kit hdv n_tuple,rfl,_,rfl,iteNS rfl ?_⟩
     refine ⟨_,rfl,_,_,_,_,_,rfl,.ty "list", hdu.ty,isi_kit hdu n_list,_,rfl,_,_,_,_,_,rfl,.ty "list", hdv.ty,isi_kit hdv n_list,rfl,_,rfl,iteNS rfl ?_⟩
     have hl : xs.length = ys.length:=by rw [hxs.len,hds.len]
     refine ⟨_,rfl,a,_,rfl,.inl (SqL.of ha),_,rfl,b,_,rfl,.inl (SqL.of hb),rfl,_,rfl,iteNS (by rw [hl]) ?_⟩
     have hdp : PyData.depthAll ds < n:=Nat.lt_of_succ_lt_succ hdep
     refine ⟨_,rfl,_,rfl,a,b,xs,ys,rfl,.inl ⟨SqL.of ha,SqL.of hb,RZ.for_zipL hl (fun i σ H'=>(∃ v2 v3 : Option V,σ = [some (.ref a),some (.ref b),v2,v3])∧Same H H') ⟨⟨none,none,rfl⟩,Same.refl H⟩ (fun i σ H' h=>⟨SqL.of (h.2 _ _ ha),SqL.of (h.2 _ _ hb)⟩) ?_ ?_⟩⟩
     ·rintro i x y Tp σ H1 hx hy ⟨⟨v2,v3,rfl⟩,g1⟩ nT
      have hid : i < ds.length:=by rw [← hxs.len]; exact (List.getElem?_eq_some_iff.mp hx).1
      obtain ⟨x',hx',dx⟩:=hxs.get (List.getElem?_eq_getElem hid)
      obtain ⟨y',hy',dy⟩:=hds.get (List.getElem?_eq_getElem hid)
      obtain rfl : x' = x:=Option.some.inj (hx'.symm.trans hx)
      obtain rfl : y' = y:=Option.some.inj (hy'.symm.trans hy)
      have g2 : Same H (upd H1 Tp (.tup [x',y'])):=same_mut g1 (g1.free nT)
      refine ⟨Tp,_,rfl,SqT.of upd_same,rfl,_,_,rfl,_,_,rfl,rfl,?_⟩
      generalize upd H1 Tp (.tup [x',y']) = H2 at g2 ⊢
      refine ⟨_,rfl,_,rfl,Ex,Ey,x',y',ds[i],rfl,dx.same g2,dy.same g2,Nat.lt_of_le_of_lt (depth_mem (List.getElem_mem hid)) hdp,fun H3 g3=>⟨true,rfl,iteF ⟨⟨_,_,rfl⟩,g2.trans g3⟩⟩⟩
     ·rintro σ H1 ⟨⟨v2,v3,rfl⟩,g1⟩
      exact q H1 g1
   | @tup b ys ds hb hds =>
    cases hv with
    | @tup a xs _ ha hxs =>
     have hdu : Dq Ey H (.ref b) (.tuple ds):=.tup hb hds
     have hdv : Dq Ex H (.ref a) (.tuple ds):=.tup ha hxs
     refine iteFd (fun z=>by cases z) ⟨_,rfl,rfl,_,rfl,iteFd (fun z=>by cases z) ⟨_,rfl,rfl,_,rfl,iteFd (fun z=>by cases z) ?_⟩⟩
     refine ⟨_,rfl,_,_,_,_,_,rfl,.ty "int", hdu.ty,isi_kit hdu n_int,_,rfl,iteF ?_⟩
     refine ⟨_,rfl,_,_,_,_,_,rfl,.ty "str", hdu.ty,isi_kit hdu n_str,_,rfl,iteF ?_⟩
     refine ⟨_,rfl,_,_,_,_,_,rfl,.ty "tuple", hdu.ty,isi_kit hdu n_tuple,_,rfl,_,_,_,_,_,rfl,.ty "tuple", hdv.ty,isi_kit hdv n_tuple,rfl,_,rfl,iteNS rfl ?_⟩
     refine ⟨_,rfl,_,_,_,_,_,rfl,.ty "list", hdu.ty,isi_kit hdu n_list,_,rfl,_,_,_,_,_,rfl,.ty "list", hdv.ty,isi_kit hdv n_list,rfl,_,rfl,iteNS rfl ?_⟩
     have hl : xs.length = ys.length:=by rw [hxs.len,hds.len]
     refine ⟨_,rfl,a,_,rfl,.inr (SqT.of ha),_,rfl,b,_,rfl,.inr (SqT.of hb),rfl,_,rfl,iteNS (by rw [hl]) ?_⟩
     have hdp : PyData.depthAll ds < n:=Nat.lt_of_succ_lt_succ hdep
     refine ⟨_,rfl,_,rfl,a,b,xs,ys,rfl,.inr ⟨SqT.of ha,SqT.of hb,RZ.for_zipT hl (fun i σ H'=>(∃ v2 v3 : Option V,σ = [some (.ref a),some (.ref b),v2,v3])∧Same H H') ⟨⟨none,none,rfl⟩,Same.refl H⟩ (fun i σ H' h=>⟨SqT.of (h.2 _ _ ha),SqT.of (h.2 _ _ hb)⟩) ?_ ?_⟩⟩
     ·rintro i x y Tp σ H1 hx hy ⟨⟨v2,v3,rfl⟩,g1⟩ nT
      have hid : i < ds.length:=by rw [← hxs.len]; exact (List.getElem?_eq_some_iff.mp hx).1
      obtain ⟨x',hx',dx⟩:=hxs.get (List.getElem?_eq_getElem hid)
      obtain ⟨y',hy',dy⟩:=hds.get (List.getElem?_eq_getElem hid)
      obtain rfl : x' = x:=Option.some.inj (hx'.symm.trans hx)
      obtain rfl : y' = y:=Option.some.inj (hy'.symm.trans hy)
      have g2 : Same H (upd H1 Tp (.tup [x',y'])):=same_mut g1 (g1.free nT)
      refine ⟨Tp,_,rfl,SqT.of upd_same,rfl,_,_,rfl,_,_,rfl,rfl,?_⟩
      generalize upd H1 Tp (.tup [x',y']) = H2 at g2 ⊢
      refine ⟨_,rfl,_,rfl,Ex,Ey,x',y',ds[i],rfl,dx.same g2,dy.same g2,Nat.lt_of_le_of_lt (depth_mem (List.getElem_mem hid)) hdp,fun H3 g3=>⟨true,rfl,iteF ⟨⟨_,_,rfl⟩,g2.trans g3⟩⟩⟩
     ·rintro σ H1 ⟨⟨v2,v3,rfl⟩,g1⟩
      exact q H1 g1
theorem ok_l_same (T : Txt K mg af fd) : FnOk P w K mg base CX0 6 (af 54) (fd 54) ["found", "due"] (sp_same 5):=ok_same_n T 5
def oD : Option Gr.HK→PyData
 | none=>.none
 | some k=>hkD k
theorem CurV.dq {H : Hp} {v : V} {cur : Option Gr.HK} (h : CurV H v cur) : Dq (fun _=>False) H v (oD cur):=by
 obtain ⟨o,d,rfl⟩:=h
 cases cur with
 | none =>
  obtain rfl : o = none:=d
  exact .non
 | some u =>
  obtain ⟨c,rfl,hc⟩:=d
  exact .tup hc (.cons (.str _) (.cons (.int _) .nil))
def prD (p : PrK) : PyData:=.tuple [hkD p.1,hkD p.2]
theorem Pks.dq3 {H : Hp} : ∀ {us : List V} {ps : List PrK},Pks H us ps→Dqs (fun _=>False) H us (ps.map prD)
 | [],[],_=>.nil
 | [],_ :: _,h=>nomatch h.1
 | _ :: _,[],h=>nomatch h.1
 | v :: us,p :: ps,h=>by
  obtain ⟨b,x,y,e,h1,h2,h3⟩:=h.2 0 p rfl
  obtain rfl : v = .ref b:=Option.some.inj e
  exact .cons (.tup h1 (.cons (.tup h2 (.cons (.str _) (.cons (.int _) .nil))) (.cons (.tup h3 (.cons (.str _) (.cons (.int _) .nil))) .nil))) (Pks.dq3 ⟨Nat.succ.inj h.1,fun i t e=>h.2 (i + 1) t e⟩)
def Shn (n : Nat) (d : PyData) : Prop:=d.canLay0 = true∧d.depth≤n
theorem shn_lst {n : Nat} {ds : List PyData} (h : ∀ d∈ds,Shn n d) : Shn (n + 1) (.list ds):=by
 have key : PyData.canLayAll0 ds = true∧PyData.depthAll ds≤n:=by
  induction ds with
  | nil=>exact ⟨rfl,Nat.zero_le _⟩
  | cons d ds ih =>
   obtain ⟨i1,i2⟩:=ih fun x m=>h x (List.mem_cons_of_mem _ m)
   obtain ⟨j1,j2⟩:=h d List.mem_cons_self
   refine ⟨?_,?_⟩
   ·show (d.canLay0 && PyData.canLayAll0 ds) = true
    rw [j1,i1]
    rfl
   ·show max d.depth (PyData.depthAll ds)≤n
    omega
 exact ⟨key.1,Nat.succ_le_succ key.2⟩
theorem shn_pr {p : PrK} (h1 : PyData.strOk p.1.1 = true) (h2 : PyData.strOk p.2.1 = true) : Shn 2 (prD p):=by
 refine ⟨?_,Nat.le_refl 2⟩
 show ((PyData.strOk p.1.1 && (true && true)) && ((PyData.strOk p.2.1 && (true && true)) && true)) = true
 rw [h1,h2]
 rfl
theorem srtK_eq {a b : List Gr.HK} (ha : SrtK a) (hb : SrtK b) (h : a.Perm b) : a = b:=List.Perm.eq_of_pairwise (fun _ _ _ _ x y=>hk_anti x y) ha hb h
theorem oD_shaped {o : Option Gr.HK} (h : ∀ k,o = some k→PyData.strOk k.1 = true) : SeqAt.shaped (oD o) = true:=by
 cases o with
 | none=>decide
 | some k=>exact hkD_shaped (h k rfl)
theorem oD_eqv {a b : Option Gr.HK} : PyData.eqv (oD a) (oD b) = decide (a = b):=by
 cases a with
 | none =>
  cases b with
  | none=>rfl
  | some k=>rfl
 | some k =>
  cases b with
  | none=>rfl
  | some j =>
   show PyData.eqv (hkD k) (hkD j) = _
   rw [hkD_eqv]
   simp
def sp_grown (n : Nat) : Sp:=fun vs H Q _=>∃ (l p J : Addr) (top : V) (d : Nat) (hs : List Str) (xs us uj : List V) (rs : List Row) (ps : List PrK) (js : List Gr.HK) (o : Option Gr.HK) (rk : Gr.HK→Nat),vs = [.ref l,.ref p,.ref J,top,.int (d : Nat)]∧TelL H l p hs xs us rs ps∧H J = some (.lst uj)∧KsL H uj js∧(∀ j∈js,PyData.strOk j.1 = true)∧(∀ h∈hs,PyData.strOk h = true)∧js.length≤60∧js.Nodup∧Rk (upF rs ps) rk∧CurV H top o∧(∀ k,o = some k→PyData.strOk k.1 = true∧21≤rk k + n)∧(o = none→22≤n) ∧
 ∀ (L : Addr) (ws : List V) (H' : Hp),Same H H'→H' L = some (.lst ws)→Nds H' ws (growN (upF rs ps) js n o d)→Q (.ref L) H'
theorem ok_grown_n (T : Txt K mg af fd) : ∀ n : Nat,FnOk P w K mg base CX0 (n + 3) (af 55) (fd 55) ["rows", "telling", "jobs", "top", "deep"] (sp_grown n):=by
 intro n
 induction n with
 | zero =>
  have no : ∀ {vs H Q} {E : XK},¬ sp_grown 0 vs H Q E:=fun ⟨l,p,J,top,d,hs,xs,us,uj,rs,ps,js,o,rk,_,_,_,_,_,_,_,_,R,_,h1,h2,_⟩=>by
   cases o with
   | none=>exact absurd (h2 rfl) (by decide)
   | some k=>have:=(h1 k rfl).2; have:=R.le k; omega
  exact ⟨fun vs H Q E h=>absurd h no,fun A outer s H args us vs Q E hr he hb hv h=>absurd h no⟩
 | succ n ih =>
  refine T.F_l_grown.ok sc_l_grown (fun vs H Q E h=>?_) (fun cdv A outer s H vs Q E hr h=>?_)
  ·obtain ⟨l,p,J,top,d,hs,xs,us,uj,rs,ps,js,o,rk,rfl,_⟩:=h
   rfl
  ·obtain ⟨l,p,J,top,d,hs,xs,us,uj,rs,ps,js,o,rk,rfl,t,hJ,kj,okj,okh,lj,nd,R,cv,h1,h2,q⟩:=h
   refine ⟨_,(pss_cons (ps_set (i:=5) sc_l_grown.nd rfl (by first | exact Or.inl rfl | exact Or.inr rfl) (pe_lst pa_nil))
    (pss_cons (ps_for PassesOwn.never rfl (pi_list (pv 2)) (pg_name (i:=6) sc_l_grown.nd rfl (by first | exact Or.inl rfl | exact Or.inr rfl)) (pss_one (ps_if (pt_cmpR (show OpR _ _ (rEqD K) from op_eqD hr.units) (pe_call (ok_l_above T) (hr.mono (by first | decide | omega)) (by rfl) T.g_l_above T.F_l_above.kp T.b_l_above .nil pass0 (pa_cons (pv 0) (pa_cons (pv 1) (pa_cons (pv 6) pa_nil)))) (pv 3) (nomark _)) (pss_one (ps_set (i:=5) sc_l_grown.nd rfl (by first | exact Or.inl rfl | exact Or.inr rfl) (pe_op op_cat (pe_op op_cat (pv 5) (pe_lst (pa_cons (pe_tup (pa_cons (pv 6) (pa_cons (pv 4) pa_nil))) pa_nil))) (pe_call ih (hr.mono (by omega)) (by rfl) T.g_l_grown T.F_l_grown.kp T.b_l_grown .nil pass0 (pa_cons (pv 0) (pa_cons (pv 1) (pa_cons (pv 2) (pa_cons (pv 6) (pa_cons (pe_op op_add (pv 4) pe_int) pa_nil))))))))) pss_nil)))
    (pss_one (ps_ret (pv 5))))),?_⟩
   refine ⟨Nat.zero_le _,fun F0 nF0=>?_⟩
   have s1:=same_upd (o:=.lst []) nF0
   have hF0 : (upd H F0 (.lst [])) F0 = some (.lst []):=upd_same
   generalize upd H F0 (.lst []) = H1 at s1 hF0 ⊢
   have okup : ∀ j u,upF rs ps j = some u→PyData.strOk u.1 = true:=fun j u e=>by
    obtain ⟨pr,mp,_,rfl⟩:=upF_some e
    obtain ⟨r,er⟩:=t.kn pr mp
    unfold madeIn
    rw [er]
    exact okh _ (book_h t.book (rowOf_some er).1.1)
   generalize eup : upF rs ps = up at R q okup
   have lall : (growN up js (n + 1) o d).length≤60:=Nat.le_trans (growN_len R nd _ _ _) lj
   refine ⟨_,rfl,J,rfl,⟨_,SqL.of (s1 _ _ hJ)⟩,?_⟩
   refine for_it (walk_list (K:=K) (a:=J) (xs:=uj)) (fun i σ G=>(∃ (F : Addr) (ws : List V) (v6 : Option V),σ = [some (.ref l),some (.ref p),some (.ref J),some top,some (.int (d : Nat)),some (.ref F),v6]∧G F = some (.lst ws)∧Nds G ws (((js.take i).filter fun j=>decide (up j = o)).flatMap fun j=>(j,d) :: growN up js n (some j) (d + 1)))∧Same H G)
    ⟨⟨F0,[],_,rfl,hF0,.nil⟩,s1⟩ (fun i σ G _ h=>SqL.of (h.2 _ _ hJ)) ?_ ?_
   ·rintro i v σ G1 G2 hi ⟨⟨F,ws,v6,rfl,hF,nw⟩,g⟩ ⟨rfl,hv⟩
    have hir : i < js.length:=by rw [← kj.1]; exact hi
    have er : js[i]? = some js[i]:=List.getElem?_eq_getElem hir
    generalize js[i] = j at er
    obtain ⟨b,e1,hb⟩:=kj.2 i j er
    obtain rfl : V.ref b = v:=Option.some.inj (e1.symm.trans hv)
    have mj:=List.mem_of_getElem? er
    have out : ((js.take (i + 1)).filter fun j=>decide (up j = o)).flatMap (fun j=>(j,d) :: growN up js n (some j) (d + 1)) =
      ((js.take i).filter fun j=>decide (up j = o)).flatMap (fun j=>(j,d) :: growN up js n (some j) (d + 1)) ++ (if up j = o then (j,d) :: growN up js n (some j) (d + 1) else []):=by
     rw [take_snoc er,List.filter_append,List.flatMap_append]
     congr 1
     by_cases e : up j = o
     ·rw [if_pos e,List.filter_cons_of_pos (by simpa using e),List.filter_nil,List.flatMap_cons,List.flatMap_nil,List.append_nil]
     ·rw [if_neg e,List.filter_cons_of_neg (by simpa using e)]
      rfl
    refine ⟨_,rfl,_,rfl,_,rfl,l,p,b,hs,xs,us,rs,ps,j,rfl,t.same g,g _ _ hb,okj j mj,fun v2 G3 g3 cv2=>?_⟩
    have g03:=g.trans g3
    rw [eup] at cv2
    refine ⟨_,rfl,oD (up j),oD o,(cv2.dq).dp,((cv.go fun b xs e=>g03 _ _ e).dq).dp,oD_shaped fun k e=>okup j k e,oD_shaped fun k e=>(h1 k e).1,_,rfl,?_⟩
    rw [oD_eqv]
    by_cases e : up j = o
    ·rw [decide_eq_true e]
     refine iteT ?_
     have pre : ((js.take i).filter fun j=>decide (up j = o)).flatMap (fun j=>(j,d) :: growN up js n (some j) (d + 1)) ++ ((j,d) :: growN up js n (some j) (d + 1)) ++ ((js.drop (i + 1)).filter fun j=>decide (up j = o)).flatMap (fun j=>(j,d) :: growN up js n (some j) (d + 1)) = growN up js (n + 1) o d:=by
      have h:=out
      rw [if_pos e] at h
      rw [← h,← List.flatMap_append,← List.filter_append,List.take_append_drop]
      rfl
     have lpre:=congrArg List.length pre
     rw [List.length_append,List.length_append,List.length_cons] at lpre
     refine ⟨_,rfl,_,rfl,_,rfl,(by show 2≤sizeLine; decide),fun f nf=>⟨(by show 1≤sizeLine; decide),fun M nM=>?_⟩⟩
     have s4:=same_upd (o:=.tup [.ref b,.int (d : Nat)]) nf
     have hf : (upd G3 f (.tup [.ref b,.int (d : Nat)])) f = some (.tup [.ref b,.int (d : Nat)]):=upd_same
     generalize upd G3 f (.tup [.ref b,.int (d : Nat)]) = G4 at s4 hf nM ⊢
     have s5:=same_upd (o:=.lst [.ref f]) nM
     have hM : (upd G4 M (.lst [.ref f])) M = some (.lst [.ref f]):=upd_same
     generalize upd G4 M (.lst [.ref f]) = G5 at s5 hM ⊢
     have s35:=(g3.trans s4).trans s5
     have s05:=g.trans s35
     have lw : ws.length = _:=nw.1
     refine ⟨F,M,ws,[.ref f],rfl,rfl,s35 _ _ hF,hM,Nat.le_of_lt (small_line (by show ws.length + 1≤5000; omega)),fun C nC=>?_⟩
     have s6:=same_upd (o:=.lst (ws ++ [.ref f])) nC
     have hC : (upd G5 C (.lst (ws ++ [.ref f]))) C = some (.lst (ws ++ [.ref f])):=upd_same
     generalize upd G5 C (.lst (ws ++ [.ref f])) = G6 at s6 hC ⊢
     have s06:=s05.trans s6
     have nC6:=(nw.go fun b xs e=>(s35.trans s6) _ _ e).app (.one ((s5.trans s6) _ _ hf) (s06 _ _ hb))
     refine ⟨_,rfl,_,rfl,_,rfl,_,rfl,_,rfl,_,_,rfl,rfl,l,p,J,.ref b,d + 1,hs,xs,us,uj,rs,ps,js,some j,rk,rfl,t.same s06,s06 _ _ hJ,kj.go fun b xs e=>s06 _ _ e,okj,okh,lj,nd,by rw [eup]; exact R,⟨some (.ref b),⟨b,rfl,s06 _ _ hb⟩,rfl⟩,fun k ek=>?_,(fun z=>nomatch z),fun L wl H' sL hL nL=>?_⟩
     ·obtain rfl:=Option.some.inj ek
      refine ⟨okj _ mj,?_⟩
      cases o with
      | none=>have:=h2 rfl; omega
      | some t0 =>
       have:=(h1 t0 rfl).2
       have:=R.lt _ _ e
       omega
     ·rw [eup] at nL
      have hC':=sL _ _ hC
      refine ⟨C,L,_,_,rfl,rfl,hC',hL,Nat.le_of_lt (small_line ?_),fun Y nY=>?_⟩
      ·have:=nL.1
       rw [List.length_append]
       show ws.length + 1 + wl.length≤5000
       omega
      ·have s8:=same_upd (o:=.lst (ws ++ [.ref f] ++ wl)) nY
       refine ⟨⟨Y,_,_,rfl,upd_same,?_⟩,(s06.trans sL).trans s8⟩
       have fin:=((nC6.go fun b xs e=>sL _ _ e).app nL).go fun b xs e=>s8 _ _ e
       rw [out,if_pos e]
       rw [List.append_assoc (as:=List.flatMap _ _),List.singleton_append] at fin
       exact fin
    ·rw [decide_eq_false e]
     refine iteF ⟨⟨F,ws,_,rfl,g3 _ _ hF,?_⟩,g03⟩
     rw [out,if_neg e,List.append_nil]
     exact nw.go fun b xs e=>g3 _ _ e
   ·rintro σ G ⟨⟨F,ws,v6,rfl,hF,nw⟩,g⟩
    rw [kj.1,List.take_length] at nw
    exact ⟨_,rfl,q F ws G g hF nw⟩
theorem ok_l_grown (T : Txt K mg af fd) : FnOk P w K mg base CX0 25 (af 55) (fd 55) ["rows", "telling", "jobs", "top", "deep"] (sp_grown 22):=ok_grown_n T 22
def cJob (h : Str) (k : Nat) : Row:=.job h (k : Nat) (2 * (k : Nat)) (200 - 2 * (k : Nat))
def cAsk (h : Str) (k : Nat) : Row:=.ask h h (k : Nat) (k : Nat) (2 * (k : Nat) + 1) (199 - 2 * (k : Nat))
def cRows (h : Str) (n : Nat) : List Row:=(.all h ((n : Nat) - 1) (n : Nat) :: (List.range n).map (cJob h)) ++ (List.range (n - 1)).map (cAsk h)
inductive CR (h : Str) (n : Nat) : Row→Prop
 | all : CR h n (.all h ((n : Nat) - 1) (n : Nat))
 | job (k : Nat) : k < n→CR h n (cJob h k)
 | ask (k : Nat) : k + 1 < n→CR h n (cAsk h k)
theorem cr_of {h : Str} {n : Nat} {r : Row} (m : r∈cRows h n) : CR h n r:=by
 unfold cRows at m
 rcases List.mem_append.mp m with m | m
 ·rcases List.mem_cons.mp m with rfl | m
  ·exact .all
  ·obtain ⟨k,mk,rfl⟩:=List.mem_map.mp m
   exact .job k (List.mem_range.mp mk)
 ·obtain ⟨k,mk,rfl⟩:=List.mem_map.mp m
  have:=List.mem_range.mp mk
  exact .ask k (by omega)
theorem chain_book {h : Str} {n : Nat} (ok : PyData.strOk h = true) (n1 : 1≤n) (n2 : n≤15) : Book [h] (cRows h n):=by
 refine ⟨fun r m=>?_,fun r m=>?_,fun r m t mt=>?_⟩
 ·cases cr_of m with
  | all=>exact ⟨ok,⟨by omega,by omega⟩,by constructor <;> omega⟩
  | job k hk=>exact ⟨ok,⟨by omega,by omega⟩,⟨by omega,by omega⟩,⟨by omega,by omega⟩,by omega⟩
  | ask k hk=>exact ⟨ok,ok,⟨by omega,by omega⟩,⟨by omega,by omega⟩,⟨by omega,by omega⟩,⟨by omega,by omega⟩,by omega⟩
 ·cases cr_of m with
  | all=>exact List.mem_singleton.mpr rfl
  | job k hk=>exact List.mem_singleton.mpr rfl
  | ask k hk=>exact ⟨List.mem_singleton.mpr rfl,List.mem_singleton.mpr rfl⟩
 ·cases cr_of m with
  | all =>
   cases cr_of mt with
   | all=>exact fun c=>c.2 rfl
   | job k hk=>exact fun c=>by have:=c.2; omega
   | ask k hk=>exact fun c=>by have:=c.2; omega
  | job i hi =>
   cases cr_of mt with
   | all=>exact fun c=>by have:=c.2; omega
   | job k hk =>
    intro c
    obtain ⟨_,c1,c2⟩:=c
    by_cases e : i = k
    ·subst e
     exact c1 rfl
    ·omega
   | ask k hk=>exact fun c=>by have:=c.2; omega
  | ask i hi =>
   cases cr_of mt with
   | all=>exact fun c=>by have:=c.2; omega
   | job k hk=>exact fun c=>by have:=c.2; omega
   | ask k hk =>
    intro c
    obtain ⟨_,c1,c2⟩:=c
    by_cases e : i = k
    ·subst e
     exact c1 rfl
    ·omega
def cPs (h : Str) (m : Nat) : List PrK:=(List.range m).map fun k=>((h,((k : Nat) : Int)),(h,((k : Nat) : Int) + 1))
theorem chain_tel {h : Str} {n : Nat} {rs : List Row} (B : Book [h] rs) (all : ∀ r∈cRows h n,r∈rs) (n2 : n≤15) : Tel rs (cPs h (n - 1))∧∀ p∈cPs h (n - 1),∃ r,Bk rs "job" r∧r.key = p.2:=by
 have kn : ∀ k,k < n - 1→rowOf rs "ask" (h,((k : Nat) : Int)) = some (cAsk h k):=fun k hk=>by
  have:=rowOf_is (B.uniq (.inl rfl)) (r:=cAsk h k) ⟨all _ (List.mem_append_right _ (List.mem_map.mpr ⟨k,List.mem_range.mpr hk,rfl⟩)),rfl⟩
  exact this
 have mk : ∀ k,k < n - 1→madeIn rs (h,((k : Nat) : Int)) = (h,((k : Nat) : Int)):=fun k hk=>by
  unfold madeIn
  rw [kn k hk]
  rfl
 refine ⟨⟨fun p m=>?_,?_,fun k=>min k.2.toNat 20,fun p m=>?_,fun k=>Nat.min_le_right _ _⟩,fun p m=>?_⟩
 ·obtain ⟨k,hk,rfl⟩:=List.mem_map.mp m
  exact ⟨_,kn k (List.mem_range.mp hk)⟩
 ·unfold cPs
  rw [List.map_map]
  refine List.pairwise_map.mpr ((List.nodup_range (n:=n - 1)).imp fun {a b} ne e=>ne ?_)
  have:=congrArg Prod.snd e
  have : ((a : Nat) : Int) + 1 = (b : Nat) + 1:=this
  omega
 ·obtain ⟨k,hk,rfl⟩:=List.mem_map.mp m
  have hk:=List.mem_range.mp hk
  show min (madeIn rs (h,((k : Nat) : Int))).2.toNat 20 < min (((k : Nat) : Int) + 1).toNat 20
  rw [mk k hk]
  show min ((k : Nat) : Int).toNat 20 < _
  omega
 ·obtain ⟨k,hk,rfl⟩:=List.mem_map.mp m
  have hk:=List.mem_range.mp hk
  refine ⟨cJob h (k + 1),⟨all _ (List.mem_append_left _ (List.mem_cons_of_mem _ (List.mem_map.mpr ⟨k + 1,List.mem_range.mpr (by omega),rfl⟩))),rfl⟩,?_⟩
  show (h,((k + 1 : Nat) : Int)) = (h,_)
  rw [Int.natCast_add]
  rfl
theorem Rws.revC {H : Hp} {xs : List V} {rs : List Row} (h : Rws H xs rs) : Rws H xs.reverse rs.reverse:=by
 refine ⟨by rw [List.length_reverse,List.length_reverse,h.1],fun i r e=>?_⟩
 have hi : i < rs.length:=by
  have:=(List.getElem?_eq_some_iff.mp e).1
  rwa [List.length_reverse] at this
 rw [List.getElem?_reverse hi] at e
 obtain ⟨a,e1,e2⟩:=h.2 _ r e
 refine ⟨a,?_,e2⟩
 rw [List.getElem?_reverse (by rw [h.1]; exact hi),h.1]
 exact e1
def sp_chain : Sp:=fun vs H Q _=>∃ (p c : Addr),vs = [.ref p]∧Pen H p c ∧
 ∀ (Tp t l L : Addr) (hs gs : List Str) (xs us : List V) (rws : List Row) (ps : List PrK) (H' : Hp),Stp p c H H'→H' Tp = some (.tup [.ref t,.ref l,.ref L])→TreeAt H' p t l L hs gs xs us rws ps→(∃ r∈rws,r.word = "job")→Q (.ref Tp) H'
theorem ok_l_chain (T : Txt K mg af fd) : FnOk P w K mg base CX0 4 (af 56) (fd 56) ["pen"] sp_chain:=by
 refine T.F_l_chain.ok sc_l_chain (fun vs H Q E h=>?_) (fun cdv A outer s H vs Q E hr h=>?_)
 ·obtain ⟨p,c,rfl,_⟩:=h
  rfl
 ·obtain ⟨p,c,rfl,hP,q⟩:=h
  refine ⟨_,(pss_cons (ps_set (i:=1) sc_l_chain.nd rfl (by first | exact Or.inl rfl | exact Or.inr rfl) (pe_ix ix_list (pe_call (ok_l_names T) (hr.mono (by first | decide | omega)) (by rfl) T.g_l_names T.F_l_names.kp T.b_l_names .nil pass0 (pa_cons (pv 0) (pa_cons pe_int pa_nil))) pe_int (fun _ _=>rfl)))
    (pss_cons (ps_set (i:=2) sc_l_chain.nd rfl (by first | exact Or.inl rfl | exact Or.inr rfl) (pe_op op_add pe_int (pe_call (ok_l_take T) (hr.mono (by first | decide | omega)) (by rfl) T.g_l_take T.F_l_take.kp T.b_l_take .nil pass0 (pa_cons (pv 0) (pa_cons pe_int pa_nil)))))
    (pss_cons (ps_set (i:=3) sc_l_chain.nd rfl (by first | exact Or.inl rfl | exact Or.inr rfl) (pe_lst (pa_cons (pe_tup (pa_cons pe_str (pa_cons (pv 1) (pa_cons (pe_op op_sub (pv 2) pe_int) (pa_cons (pv 2) pa_nil))))) pa_nil)))
    (pss_cons (ps_for PassesOwn.never rfl (pi_range1 (by rfl) T.m_range (pa_cons (pv 2) pa_nil)) (pg_name (i:=4) sc_l_chain.nd rfl (by first | exact Or.inl rfl | exact Or.inr rfl)) (pss_one (ps_expr (pe_bm PySem.F.plainAttrs_list PySem.F.slot_list_append PySem.F.type_list_append mt_append (pv 3) (pa_cons (pe_tup (pa_cons pe_str (pa_cons (pv 1) (pa_cons (pv 4) (pa_cons (pe_op op_mul pe_int (pv 4)) (pa_cons (pe_op op_sub pe_int (pe_op op_mul pe_int (pv 4))) pa_nil)))))) pa_nil)))))
    (pss_cons (ps_for PassesOwn.never rfl (pi_range1 (by rfl) T.m_range (pa_cons (pe_op op_sub (pv 2) pe_int) pa_nil)) (pg_name (i:=4) sc_l_chain.nd rfl (by first | exact Or.inl rfl | exact Or.inr rfl)) (pss_one (ps_expr (pe_bm PySem.F.plainAttrs_list PySem.F.slot_list_append PySem.F.type_list_append mt_append (pv 3) (pa_cons (pe_tup (pa_cons pe_str (pa_cons (pv 1) (pa_cons (pv 4) (pa_cons (pv 4) (pa_cons (pv 1) (pa_cons (pe_op op_add (pe_op op_mul pe_int (pv 4)) pe_int) (pa_cons (pe_op op_sub pe_int (pe_op op_mul pe_int (pv 4))) pa_nil)))))))) pa_nil)))))
    (pss_cons (ps_setLc (i:=5) (own:=[("k", 4)]) (g:=gName 4) (by rfl) sc_l_chain.nd rfl rfl (sw_true rfl rfl rfl (by decide +kernel)) (pi_range1 (by rfl) T.m_range (pa_cons (pe_op op_sub (pv 2) pe_int) pa_nil)) (blkOk_by (own:=[("k", 4)]) (N:=["pen", "house", "many", "rows", "k", "telling"]) (sc:=defScope s_l_chain) (by decide +kernel)) (fun _ _ _ _ _=>pg_name (i:=4) sc_l_chain.nd rfl (Or.inl rfl)) (fun _ _ _ _ _=>pts_nil) (fun _ _ _ _ _=>(pe_tup (pa_cons (pe_tup (pa_cons (pv 1) (pa_cons (pv 4) pa_nil))) (pa_cons (pe_tup (pa_cons (pv 1) (pa_cons (pe_op op_add (pv 4) pe_int) pa_nil))) pa_nil)))))
    (pss_one (ps_ret (pe_tup (pa_cons (pe_tup (pa_cons (pe_tup (pa_cons (pv 1) pa_nil)) (pa_cons (pe_tup (pa_cons (pv 1) pa_nil)) pa_nil))) (pa_cons (L2.pe_stepL (pv 3) (pe_ix ix_list (pe_lst (pa_cons pe_int (pa_cons (pe_un un_neg pe_int) pa_nil))) (pe_call (ok_l_take T) (hr.mono (by first | decide | omega)) (by rfl) T.g_l_take T.F_l_take.kp T.b_l_take .nil pass0 (pa_cons (pv 0) (pa_cons pe_int pa_nil))) (fun _ _=>rfl))) (pa_cons (pv 5) pa_nil)))))))))))),?_⟩
  refine ⟨_,rfl,p,c,1,rfl,hP,by decide,by decide,fun f zs H1 s1 nf hf lz nz hz=>?_⟩
  have P1:=s1.1
  obtain ⟨z,rfl⟩ : ∃ z,zs = [z]:=by
   cases zs with
   | nil=>exact absurd lz (by decide)
   | cons z zs =>
    cases zs with
    | nil=>exact ⟨z,rfl⟩
    | cons _ _=>exact absurd lz (by simp; omega)
  have hH : HouseS (SX.S z):=hz z (List.mem_singleton.mpr rfl)
  have ok:=hH.ok
  have hf : H1 f = some (.lst [V.str (SX.S z)]):=hf
  refine ⟨f,_,0,_,rfl,rfl,SqL.of hf,rfl,?_⟩
  dsimp only
  generalize SX.S z = h at hf hH ok ⊢
  refine ⟨_,rfl,p,c,6,rfl,P1,by decide,by decide,fun n0 H2 n1 n2 s2=>⟨_,_,rfl,rfl,?_⟩⟩
  obtain ⟨n',rfl⟩ : ∃ n' : Nat,n0 = (n' : Int):=⟨n0.toNat,by omega⟩
  obtain ⟨n,en⟩ : ∃ n : Nat,n = 10 + n':=⟨_,rfl⟩
  have en2 : (10 : Int) + (n' : Nat) = (n : Nat):=by omega
  dsimp only
  rw [en2]
  have P2:=s2.1
  have st2:=s1.trans s2
  refine ⟨_,rfl,_,rfl,_,_,rfl,rfl,_,rfl,(by show 4≤sizeLine; decide),fun a0 na0=>?_⟩
  have s3:=(Stp.refl P2).new (o:=.tup [.str "all", .str h,.int ((n : Nat) - 1),.int (n : Nat)]) P2 na0
  have ha0 : (upd H2 a0 (.tup [.str "all", .str h,.int ((n : Nat) - 1),.int (n : Nat)])) a0 = some (.tup [.str "all", .str h,.int ((n : Nat) - 1),.int (n : Nat)]):=upd_same
  generalize upd H2 a0 (.tup [.str "all", .str h,.int ((n : Nat) - 1),.int (n : Nat)]) = H3 at s3 ha0 ⊢
  have P3:=s3.1
  refine ⟨(by show 1≤sizeLine; decide),fun R nR=>?_⟩
  have nRp : R≠p:=fun e=>P3.neP nR e.symm
  have s4:=(Stp.refl P3).new (o:=.lst [.ref a0]) P3 nR
  have hR : (upd H3 R (.lst [.ref a0])) R = some (.lst [.ref a0]):=upd_same
  have rw0 : Rws (upd H3 R (.lst [.ref a0])) [.ref a0] [.all h ((n : Nat) - 1) (n : Nat)]:=rws_nil.snoc (s4.tup P3 ha0)
  generalize upd H3 R (.lst [.ref a0]) = H4 at s4 hR rw0 ⊢
  have P4:=s4.1
  have st4:=(st2.trans s3).trans s4
  have nR0 : H R = none:=(st2.trans s3).back hP nR
  have nl : n≤15:=by omega
  refine ⟨_,rfl,(n : Nat),rfl,by omega,by omega,for_range (lo:=0) (n:=((n : Nat) : Int).toNat) (fun k σ H'=>(∃ v4 v5 : Option V,σ = [some (.ref p),some (.str h),some (.int (n : Nat)),some (.ref R),v4,v5])∧Stp p c H H'∧∃ xs,H' R = some (.lst xs)∧Rws H' xs (.all h ((n : Nat) - 1) (n : Nat) :: (List.range k).map (cJob h)))
   ⟨⟨none,none,rfl⟩,st4,_,hR,rw0⟩ ?_ ?_⟩
  ·rintro k σ H5 hk ⟨⟨v4,v5,rfl⟩,st5,xs,hR5,rw5⟩
   have hk : k < n:=by rw [Int.toNat_natCast] at hk; exact hk
   have P5:=st5.1
   refine ⟨_,rfl,.inl ⟨rfl,_,SqL.of hR5⟩,_,rfl,_,rfl,?_⟩
   refine ⟨_,rfl,_,_,rfl,rfl,.inl ⟨by decide,by decide⟩,_,rfl,_,_,rfl,rfl,.inl ⟨by decide,by decide⟩,_,_,rfl,rfl,(by show 5≤sizeLine; decide),fun b nb=>?_⟩
   have e0 : (0 : Int) + (k : Nat) = (k : Nat):=Int.zero_add _
   dsimp only
   have s6:=(Stp.refl P5).new (o:=.tup [.str "job", .str h,.int (0 + (k : Nat)),.int (2 * (0 + (k : Nat))),.int (200 - 2 * (0 + (k : Nat)))]) P5 nb
   have hb : (upd H5 b (.tup [.str "job", .str h,.int (0 + (k : Nat)),.int (2 * (0 + (k : Nat))),.int (200 - 2 * (0 + (k : Nat)))])) b = some (.tup [.str "job", .str h,.int (0 + (k : Nat)),.int (2 * (0 + (k : Nat))),.int (200 - 2 * (0 + (k : Nat)))]):=upd_same
   have hR6:=s6.2 _ _ nRp hR5
   have rw6 : Rws _ xs _:=rw5.go fun c ys e=>s6.tup P5 e
   generalize upd H5 b (.tup [.str "job", .str h,.int (0 + (k : Nat)),.int (2 * (0 + (k : Nat))),.int (200 - 2 * (0 + (k : Nat)))]) = H6 at s6 hb hR6 rw6 ⊢
   rw [e0] at hb
   refine ⟨R,xs,_,rfl,rfl,hR6,small_line (by rw [rw5.1,List.length_cons,List.length_map,List.length_range]; omega),⟨_,_,rfl⟩,(st5.trans s6).mut hP nR0,_,upd_same,?_⟩
   rw [List.range_succ,List.map_append,← List.cons_append]
   have tup : ∀ c ys,H6 c = some (.tup ys)→(upd H6 R (.lst (xs ++ [.ref b]))) c = some (.tup ys):=fun c ys e=>by rw [upd_ne (ne_of e hR6 (fun z=>nomatch z))]; exact e
   exact (rw6.go tup).snoc (r:=cJob h k) (tup _ _ hb)
  rintro σ H5 ⟨⟨v4,v5,rfl⟩,st5,xs0,hR5,rw5⟩
  rw [Int.toNat_natCast] at rw5
  have P5:=st5.1
  refine ⟨_,rfl,_,_,rfl,rfl,_,rfl,by omega,by omega,for_range (lo:=0) (n:=((n : Nat) - 1 : Int).toNat) (fun k σ H'=>(∃ v4 v5 : Option V,σ = [some (.ref p),some (.str h),some (.int (n : Nat)),some (.ref R),v4,v5])∧Stp p c H H'∧∃ xs,H' R = some (.lst xs)∧Rws H' xs ((.all h ((n : Nat) - 1) (n : Nat) :: (List.range n).map (cJob h)) ++ (List.range k).map (cAsk h)))
   ⟨⟨_,_,rfl⟩,st5,_,hR5,by rw [List.range_zero,List.map_nil,List.append_nil]; exact rw5⟩ ?_ ?_⟩
  ·rintro k σ H5 hk ⟨⟨v4,v5,rfl⟩,st5,xs,hR5,rw5⟩
   have hk : k + 1 < n:=by omega
   have P5:=st5.1
   refine ⟨_,rfl,.inl ⟨rfl,_,SqL.of hR5⟩,_,rfl,_,rfl,_,rfl,_,rfl,?_⟩
   refine ⟨_,rfl,_,_,rfl,rfl,.inl ⟨by decide,by decide⟩,_,_,rfl,rfl,_,rfl,_,_,rfl,rfl,.inl ⟨by decide,by decide⟩,_,_,rfl,rfl,(by show 7≤sizeLine; decide),fun b nb=>?_⟩
   have e0 : (0 : Int) + (k : Nat) = (k : Nat):=Int.zero_add _
   dsimp only
   have s6:=(Stp.refl P5).new (o:=.tup [.str "ask", .str h,.int (0 + (k : Nat)),.int (0 + (k : Nat)),.str h,.int (2 * (0 + (k : Nat)) + 1),.int (199 - 2 * (0 + (k : Nat)))]) P5 nb
   have hb : (upd H5 b (.tup [.str "ask", .str h,.int (0 + (k : Nat)),.int (0 + (k : Nat)),.str h,.int (2 * (0 + (k : Nat)) + 1),.int (199 - 2 * (0 + (k : Nat)))])) b = some (.tup [.str "ask", .str h,.int (0 + (k : Nat)),.int (0 + (k : Nat)),.str h,.int (2 * (0 + (k : Nat)) + 1),.int (199 - 2 * (0 + (k : Nat)))]):=upd_same
   have hR6:=s6.2 _ _ nRp hR5
   have rw6 : Rws _ xs _:=rw5.go fun c ys e=>s6.tup P5 e
   generalize upd H5 b (.tup [.str "ask", .str h,.int (0 + (k : Nat)),.int (0 + (k : Nat)),.str h,.int (2 * (0 + (k : Nat)) + 1),.int (199 - 2 * (0 + (k : Nat)))]) = H6 at s6 hb hR6 rw6 ⊢
   rw [e0] at hb
   refine ⟨R,xs,_,rfl,rfl,hR6,small_line (by rw [rw5.1,List.length_append,List.length_cons,List.length_map,List.length_range,List.length_map,List.length_range]; omega),⟨_,_,rfl⟩,(st5.trans s6).mut hP nR0,_,upd_same,?_⟩
   rw [List.range_succ,List.map_append,← List.append_assoc]
   have tup : ∀ c ys,H6 c = some (.tup ys)→(upd H6 R (.lst (xs ++ [.ref b]))) c = some (.tup ys):=fun c ys e=>by rw [upd_ne (ne_of e hR6 (fun z=>nomatch z))]; exact e
   exact (rw6.go tup).snoc (r:=cAsk h k) (tup _ _ hb)
  rintro σ H5 ⟨⟨v4,v5,rfl⟩,st5,xs,hR5,rw5⟩
  have e1 : ((n : Nat) - 1 : Int).toNat = n - 1:=by omega
  rw [e1] at rw5
  have rw5 : Rws H5 xs (cRows h n):=rw5
  have P5:=st5.1
  refine ⟨_,rfl,_,_,rfl,rfl,_,rfl,by omega,by omega,fun L nL=>?_⟩
  have nLp : L≠p:=fun e=>P5.neP nL e.symm
  have nL0 : H L = none:=st5.back hP nL
  refine lc_it (walk_range (lo:=0) (n:=((n : Nat) - 1 : Int).toNat)) (fun k G=>Same H5 G∧∃ us,G L = some (.lst us)∧Pks G us (cPs h k))
   ⟨same_upd nL,[],upd_same,Pks.nil⟩ (fun _ _ _ _=>trivial) ?_ ?_
  ·rintro k v G1 G2 hk ⟨g1,us,hL6,pk⟩ ⟨rfl,rfl⟩
   rw [e1] at hk
   have e0 : (0 : Int) + (k : Nat) = (k : Nat):=Int.zero_add _
   have lus : us.length = k:=by rw [pk.1]; unfold cPs; rw [List.length_map,List.length_range]
   refine ⟨rfl,yes_if ⟨_,rfl,_,rfl,(by show 2≤sizeLine; decide),fun x nx=>?_⟩⟩
   have u1:=same_upd (o:=.tup [.str h,.int (0 + (k : Nat))]) nx
   have hx : (upd G2 x (.tup [.str h,.int (0 + (k : Nat))])) x = some (.tup [.str h,.int (0 + (k : Nat))]):=upd_same
   generalize upd G2 x (.tup [.str h,.int (0 + (k : Nat))]) = G3 at u1 hx ⊢
   refine ⟨_,rfl,_,rfl,_,_,rfl,rfl,(by show 2≤sizeLine; decide),fun y ny=>?_⟩
   dsimp only
   have u2:=same_upd (o:=.tup [.str h,.int (0 + (k : Nat) + 1)]) ny
   have hy : (upd G3 y (.tup [.str h,.int (0 + (k : Nat) + 1)])) y = some (.tup [.str h,.int (0 + (k : Nat) + 1)]):=upd_same
   generalize upd G3 y (.tup [.str h,.int (0 + (k : Nat) + 1)]) = G4 at u2 hy ⊢
   refine ⟨(by show 2≤sizeLine; decide),fun z nz=>?_⟩
   have u3:=same_upd (o:=.tup [.ref x,.ref y]) nz
   have hz' : (upd G4 z (.tup [.ref x,.ref y])) z = some (.tup [.ref x,.ref y]):=upd_same
   generalize upd G4 z (.tup [.ref x,.ref y]) = G5 at u3 hz' ⊢
   have u:=(u1.trans u2).trans u3
   rw [e0] at hx hy
   have hL7:=u _ _ hL6
   have tup : ∀ c ys,G5 c = some (.tup ys)→(upd G5 L (.lst (us ++ [.ref z]))) c = some (.tup ys):=fun c ys e=>by rw [upd_ne (ne_of e hL7 (fun z=>nomatch z))]; exact e
   refine ⟨us,hL7,small_line (by omega),same_mut (g1.trans u) nL,_,upd_same,?_⟩
   unfold cPs
   rw [List.range_succ,List.map_append]
   exact ((pk.same u).go tup).snoc (p:=((h,((k : Nat) : Int)),(h,((k : Nat) : Int) + 1))) (tup _ _ hz') (tup _ _ ((u2.trans u3) _ _ hx)) (tup _ _ (u3 _ _ hy))
  ·rintro G ⟨g1,us,hL6,pk⟩
   rw [e1] at pk
   have stG:=st5.sm g1
   have PG:=stG.1
   have hRG:=g1 _ _ hR5
   have rwG:=rw5.same g1
   refine ⟨_,rfl,(by show 1≤sizeLine; decide),fun A nA=>?_⟩
   have u1:=(Stp.refl PG).new (o:=.tup [.str h]) PG nA
   have hA : (upd G A (.tup [.str h])) A = some (.tup [.str h]):=upd_same
   generalize upd G A (.tup [.str h]) = G1 at u1 hA ⊢
   refine ⟨_,rfl,(by show 1≤sizeLine; decide),fun B nB=>?_⟩
   have u2:=(Stp.refl u1.1).new (o:=.tup [.str h]) u1.1 nB
   have hB : (upd G1 B (.tup [.str h])) B = some (.tup [.str h]):=upd_same
   generalize upd G1 B (.tup [.str h]) = G2 at u2 hB ⊢
   refine ⟨(by show 2≤sizeLine; decide),fun t nt=>?_⟩
   have u3:=(Stp.refl u2.1).new (o:=.tup [.ref A,.ref B]) u2.1 nt
   have ht : (upd G2 t (.tup [.ref A,.ref B])) t = some (.tup [.ref A,.ref B]):=upd_same
   generalize upd G2 t (.tup [.ref A,.ref B]) = G3 at u3 ht ⊢
   have P3':=u3.1
   have twn : TownAt G3 t [h] [h]:=⟨A,B,ht,u3.tup u2.1 (u2.tup u1.1 hA),u3.tup u2.1 hB⟩
   refine ⟨_,rfl,_,rfl,(by show 2≤sizeLine; decide),fun m nm=>?_⟩
   have u4:=(Stp.refl P3').new (o:=.lst [.int 1,.int (-1)]) P3' nm
   have nmp : m≠p:=fun e=>P3'.neP nm e.symm
   have hm : (upd G3 m (.lst [.int 1,.int (-1)])) m = some (.lst [.int 1,.int (-1)]):=upd_same
   generalize upd G3 m (.lst [.int 1,.int (-1)]) = G4 at u4 hm ⊢
   refine ⟨_,rfl,p,c,2,rfl,u4.1,by decide,by decide,fun r G5 r0 r1 u5=>?_⟩
   have P5':=u5.1
   have uG5:=(((u1.trans u2).trans u3).trans u4).trans u5
   have stF:=stG.trans uG5
   have hm5:=u5.2 _ _ nmp hm
   have hR6:=uG5.2 _ _ nRp hRG
   have hL6':=uG5.2 _ _ nLp hL6
   have rw6 : Rws G5 xs (cRows h n):=rwG.go fun b ys e=>uG5.tup PG e
   have pk6 : Pks G5 us (cPs h (n - 1)):=pk.go fun b ys e=>uG5.tup PG e
   have tw6:=(u4.trans u5).town P3' twn
   have fin : ∀ (l : Addr) (ys : List V) (rws : List Row),G5 l = none→Rws G5 ys rws→(∀ r,r∈rws↔r∈cRows h n)→rws.length≤40→∀ (G6 : Hp),G6 = upd G5 l (.lst ys)→∀ Tp,G6 Tp = none→Q (.ref Tp) (upd G6 Tp (.tup [.ref t,.ref l,.ref L])):=fun l ys rws nl ry mem ll G6 e6 Tp nT=>by
    have v6:=(Stp.refl P5').new (o:=.lst ys) P5' nl
    have hl : G6 l = some (.lst ys):=by rw [e6]; exact upd_same
    rw [← e6] at v6
    have v7:=(Stp.refl v6.1).new (o:=.tup [.ref t,.ref l,.ref L]) v6.1 nT
    have v67:=v6.trans v7
    have nlp : l≠p:=fun e=>P5'.neP nl e.symm
    have Bk0 : Book [h] rws:=(chain_book ok (by omega) (by omega)).sub fun r m=>(mem r).mp m
    obtain ⟨tel,known⟩:=chain_tel (n:=n) Bk0 (fun r m=>(mem r).mpr m) (by omega)
    refine q Tp t l L [h] [h] ys us rws (cPs h (n - 1)) _ (stF.trans v67) upd_same ⟨⟨v67.town P5' tw6,rfl,List.nodup_cons.mpr ⟨(fun z=>nomatch z),List.nodup_nil⟩,(fun x m=>by rw [List.mem_singleton.mp m]; exact ok),(by decide : 1≤6),v7.2 _ _ nlp hl,ry.go (fun b ys e=>v67.tup P5' e),Bk0,(fun x m=>?_),by omega⟩,ll,v67.2 _ _ nLp hL6',pk6.go (fun b ys e=>v67.tup P5' e),tel,known,?_,nlp,nLp⟩ ?_
    ·obtain ⟨r,mr,rfl⟩:=List.mem_map.mp m
     exact (th_tup (row_th (hs:=[h]) (fun x m=>by rw [List.mem_singleton.mp m]; exact hH) (Bk0.wf r mr) (Bk0.inn r mr)) (row_len7 r).2).mono (by decide) (by decide)
    ·unfold cPs
     rw [List.length_map,List.length_range]
     omega
    ·exact ⟨cJob h 0,(mem _).mpr (List.mem_append_left _ (List.mem_cons_of_mem _ (List.mem_map.mpr ⟨0,List.mem_range.mpr (by omega),rfl⟩))),rfl⟩
   have lrows : (cRows h n).length≤40:=by
    unfold cRows
    rw [List.length_append,List.length_cons,List.length_map,List.length_range,List.length_map,List.length_range]
    omega
   have two : r = 0∨r = 1:=by omega
   rcases two with rfl | rfl
   ·refine ⟨m,_,0,_,rfl,rfl,SqL.of hm5,rfl,_,rfl,R,xs,1,rfl,SqL.of hR6,rfl,.inl ⟨rfl,fun l nl=>?_⟩⟩
    exact ⟨_,rfl,(by show 3≤sizeLine; decide),fun Tp nT=>fin l xs _ nl rw6 (fun _=>Iff.rfl) lrows _ rfl Tp nT⟩
   ·refine ⟨m,_,1,_,rfl,rfl,SqL.of hm5,rfl,_,rfl,R,xs,-1,rfl,SqL.of hR6,rfl,.inr ⟨rfl,fun l nl=>?_⟩⟩
    exact ⟨_,rfl,(by show 3≤sizeLine; decide),fun Tp nT=>fin l xs.reverse _ nl rw6.revC (fun _=>List.mem_reverse) (by rw [List.length_reverse]; exact lrows) _ rfl Tp nT⟩
def ndD (x : Gr.HK × Nat) : PyData:=.tuple [hkD x.1,.int (x.2 : Nat)]
theorem Nds.dq {H : Hp} : ∀ {us : List V} {xs : List (Gr.HK × Nat)},Nds H us xs→Dqs (fun _=>False) H us (xs.map ndD)
 | [],[],_=>.nil
 | [],_ :: _,h=>nomatch h.1
 | _ :: _,[],h=>nomatch h.1
 | v :: us,k :: ks,h=>by
  obtain ⟨b,y,e,hb,hy⟩:=h.2 0 k rfl
  obtain rfl : v = .ref b:=Option.some.inj e
  exact .cons (.tup hb (.cons (.tup hy (.cons (.str _) (.cons (.int _) .nil))) (.cons (.int _) .nil))) (Nds.dq ⟨Nat.succ.inj h.1,fun i t e=>h.2 (i + 1) t e⟩)
theorem nds_depth (xs : List (Gr.HK × Nat)) : (PyData.list (xs.map ndD)).depth < 5:=by
 have : PyData.depthAll (xs.map ndD)≤2:=by
  induction xs with
  | nil=>exact Nat.zero_le _
  | cons k ks ih =>
   show max (ndD k).depth (PyData.depthAll (ks.map ndD))≤2
   have : (ndD k).depth = 2:=rfl
   omega
 exact Nat.lt_of_le_of_lt (Nat.succ_le_succ this) (by decide)
def sp_law (K : PySem.W.Frag) : Sp:=fun vs H Q _=>∃ (a : Addr) (ns : List Int),vs = [.ref a]∧SqL K H a (ns.map V.int)∧ns.length≤63∧∀ H',Q (.bl true) H'
theorem TreeAt.okp {H : Hp} {p t l L : Addr} {hs gs : List Str} {xs us : List V} {rws : List Row} {ps : List PrK} (h : TreeAt H p t l L hs gs xs us rws ps) : ∀ q∈ps,PyData.strOk q.2.1 = true∧PyData.strOk q.1.1 = true:=fun q m=>by
 obtain ⟨r,hr,e⟩:=h.known q m
 obtain ⟨r2,er⟩:=h.tel.kn q m
 obtain ⟨b2,k2⟩:=rowOf_some er
 rw [← e,← k2]
 exact ⟨h.hand.ok _ (book_h h.hand.book hr.1),h.hand.ok _ (book_h h.hand.book b2.1)⟩
theorem TreeAt.same {H H' : Hp} {p t l L : Addr} {hs gs : List Str} {xs us : List V} {rws : List Row} {ps : List PrK} (h : TreeAt H p t l L hs gs xs us rws ps) (s : Same H H') : TreeAt H' p t l L hs gs xs us rws ps :=
 ⟨h.hand.same s,h.few,s _ _ h.lst,h.prs.same s,h.tel,h.known,h.len,h.lp,h.Lp⟩
theorem ok_law (T : Txt K mg af fd) : FnOk P w K mg base CX0 26 (af 57) (fd 57) ["script"] (sp_law K):=by
 refine T.F_law.ok sc_law (fun vs H Q E h=>?_) (fun cdv A outer s H vs Q E hr h=>?_)
 ·obtain ⟨a,ns,rfl,_⟩:=h
  rfl
 ·obtain ⟨a,ns,rfl,hS,hlen,q⟩:=h
  refine ⟨_,(pss_cons (ps_set (i:=1) sc_law.nd rfl (by first | exact Or.inl rfl | exact Or.inr rfl) (pe_call (ok_l_open T) (hr.mono (by first | decide | omega)) (by rfl) T.g_l_open T.F_l_open.kp T.b_l_open .nil pass0 (pa_cons (pv 0) pa_nil)))
    (pss_cons (ps_for PassesOwn.never rfl (pi_range1 (by rfl) T.m_range (pa_cons pe_int pa_nil)) (pg_name (i:=2) sc_law.nd rfl (by first | exact Or.inl rfl | exact Or.inr rfl)) (pss_cons (ps_asg (pe_call (ok_l_tree_book T) (hr.mono (by first | decide | omega)) (by rfl) T.g_l_tree_book T.F_l_tree_book.kp T.b_l_tree_book .nil pass0 (pa_cons (pe_call (ok_l_anew T) (hr.mono (by first | decide | omega)) (by rfl) T.g_l_anew T.F_l_anew.kp T.b_l_anew .nil pass0 (pa_cons (pv 1) pa_nil)) (pa_cons pe_int (pa_cons pe_int (pa_cons pe_int pa_nil))))) (pg_tup rfl (pgs_cons (pg_name (i:=3) sc_law.nd rfl (by first | exact Or.inl rfl | exact Or.inr rfl)) (pgs_cons (pg_name (i:=4) sc_law.nd rfl (by first | exact Or.inl rfl | exact Or.inr rfl)) (pgs_cons (pg_name (i:=5) sc_law.nd rfl (by first | exact Or.inl rfl | exact Or.inr rfl)) pgs_nil)))))
    (C8.pss_cut (ps_if (pt_cmpR op_eq (pv 2) pe_int (nomark _)) (pss_one (ps_asg (pe_call (ok_l_chain T) (hr.mono (by first | decide | omega)) (by rfl) T.g_l_chain T.F_l_chain.kp T.b_l_chain .nil pass0 (pa_cons (pv 1) pa_nil)) (pg_tup rfl (pgs_cons (pg_name (i:=3) sc_law.nd rfl (by first | exact Or.inl rfl | exact Or.inr rfl)) (pgs_cons (pg_name (i:=4) sc_law.nd rfl (by first | exact Or.inl rfl | exact Or.inr rfl)) (pgs_cons (pg_name (i:=5) sc_law.nd rfl (by first | exact Or.inl rfl | exact Or.inr rfl)) pgs_nil)))))) pss_nil)
    (pss_cons (ps_set (i:=6) sc_law.nd rfl (by first | exact Or.inl rfl | exact Or.inr rfl) (pe_call (ok_l_grown T) (hr.mono (by first | decide | omega)) (by rfl) T.g_l_grown T.F_l_grown.kp T.b_l_grown .nil pass0 (pa_cons (pv 4) (pa_cons (pv 5) (pa_cons (pe_call (ok_l_tree_jobs T) (hr.mono (by first | decide | omega)) (by rfl) T.g_l_tree_jobs T.F_l_tree_jobs.kp T.b_l_tree_jobs .nil pass0 (pa_cons (pv 4) pa_nil)) (pa_cons pe_non (pa_cons pe_int pa_nil)))))))
    (pss_cons (ps_set (i:=7) sc_law.nd rfl (by first | exact Or.inl rfl | exact Or.inr rfl) (pe_lst (pa_cons (pe_callTy call_list_of (by rfl) T.m_list (by decide +kernel) (pa_cons (pv 4) pa_nil)) (pa_cons (pe_callTy call_list_of (by rfl) T.m_list (by decide +kernel) (pa_cons (pv 5) pa_nil)) pa_nil))))
    (pss_cons (ps_set (i:=8) sc_law.nd rfl (by first | exact Or.inl rfl | exact Or.inr rfl) (pe_call (ok_forest T) (hr.mono (by first | decide | omega)) (by rfl) T.g_forest T.F_forest.kp T.b_forest .nil passL (pa_cons (pv 3) (pa_cons (pe_ix ix_list (pv 7) pe_int (fun _ _=>rfl)) (pa_cons (pe_ix ix_list (pv 7) pe_int (fun _ _=>rfl)) pa_nil)))))
    (pss_cons (ps_if (PW.pt (pw_or (pt_not (pt_val (pe_call (ok_l_same T) (hr.mono (by first | decide | omega)) (by rfl) T.g_l_same T.F_l_same.kp T.b_l_same .nil pass0 (pa_cons (pv 8) (pa_cons (pv 6) pa_nil))))) (pw_or1 (pt_cmpR (op_neD hr.units) (pv 7) (pe_lst (pa_cons (pv 4) (pa_cons (pv 5) pa_nil))) (nomark _))))) (pss_one (ps_ret pe_bl)) pss_nil)
    (pss_cons (ps_expr (pe_bm PySem.F.plainAttrs_list PySem.F.slot_list_append PySem.F.type_list_append mt_append (pv 8) (pa_cons (pe_tup (pa_cons (pe_tup (pa_cons pe_str (pa_cons pe_int pa_nil))) (pa_cons pe_int pa_nil))) pa_nil)))
    (pss_one (ps_if (pt_not (pt_val (pe_call (ok_l_same T) (hr.mono (by first | decide | omega)) (by rfl) T.g_l_same T.F_l_same.kp T.b_l_same .nil pass0 (pa_cons (pe_call (ok_forest T) (hr.mono (by first | decide | omega)) (by rfl) T.g_forest T.F_forest.kp T.b_forest .nil passL (pa_cons (pv 3) (pa_cons (pe_ix ix_list (pv 7) pe_int (fun _ _=>rfl)) (pa_cons (pe_ix ix_list (pv 7) pe_int (fun _ _=>rfl)) pa_nil)))) (pa_cons (pv 6) pa_nil))))) (pss_one (ps_ret pe_bl)) pss_nil))))))))))
    (pss_one (ps_ret (pe_call (ok_l_same T) (hr.mono (by first | decide | omega)) (by rfl) T.g_l_same T.F_l_same.kp T.b_l_same .nil pass0 (pa_cons (pe_call (ok_forest T) (hr.mono (by first | decide | omega)) (by rfl) T.g_forest T.F_forest.kp T.b_forest .nil passL (pa_cons (pe_tup (pa_cons (pe_tup (pa_cons pe_str pa_nil)) (pa_cons (pe_tup pa_nil) pa_nil))) (pa_cons (pe_lst pa_nil) (pa_cons (pe_lst pa_nil) pa_nil)))) (pa_cons (pe_lst pa_nil) pa_nil))))))),?_⟩
  refine ⟨_,rfl,a,ns,rfl,hS,hlen,fun p c H1 s1 np nc hP=>?_⟩
  refine ⟨5,rfl,by decide,by decide,for_range (lo:=0) (n:=5) (fun i σ H'=>(∃ v2 v3 v4 v5 v6 v7 v8 : Option V,σ = [some (.ref a),some (.ref p),v2,v3,v4,v5,v6,v7,v8])∧Pen H' p c)
   ⟨⟨none,none,none,none,none,none,none,rfl⟩,hP⟩ ?_ ?_⟩
  ·rintro i σ H2 hi ⟨⟨v2,v3,v4,v5,v6,v7,v8,rfl⟩,P2⟩
   refine ⟨_,rfl,p,c,rfl,P2,fun H3 s3=>?_⟩
   have P3:=s3.1
   refine ⟨p,c,4,14,2,rfl,P3,by decide,by decide,by decide,by decide,fun Tp t l L hs gs xs us rws ps H4 s4 hT C=>?_⟩
   have P4:=s4.1
   refine ⟨Tp,_,rfl,SqT.of hT,rfl,_,_,rfl,_,_,rfl,_,_,rfl,rfl,?_⟩
   refine ⟨fun σ G=>∃ (t l L : Addr) (hs gs : List Str) (xs us : List V) (rws : List Row) (ps : List PrK),σ = [some (.ref a),some (.ref p),some (.int (0 + (i : Nat))),some (.ref t),some (.ref l),some (.ref L),v6,v7,v8]∧Pen G p c∧TreeAt G p t l L hs gs xs us rws ps,?_,?_⟩
   ·refine ⟨_,rfl,rfl,_,rfl,ite2 (fun _=>?_) (fun _=>⟨t,l,L,hs,gs,xs,us,rws,ps,rfl,P4,C⟩)⟩
    refine ⟨_,rfl,p,c,rfl,P4,fun Tp t l L hs gs xs us rws ps H5 s5 hT C _=>?_⟩
    exact ⟨Tp,_,rfl,SqT.of hT,rfl,_,_,rfl,_,_,rfl,_,_,rfl,rfl,t,l,L,hs,gs,xs,us,rws,ps,rfl,s5.1,C⟩
   clear C P4 hT s4
   rintro σ H4 ⟨t,l,L,hs,gs,xs,us,rws,ps,rfl,P4,C⟩
   have lx : xs.length≤1000:=by have:=C.hand.len; have:=C.few; have:=C.hand.rows.1; omega
   refine ⟨_,rfl,_,rfl,_,rfl,l,xs,rws,rfl,C.hand.lst,C.hand.rows,by have:=C.few; omega,(fun r m=>C.hand.ok _ (book_h C.hand.book m)),fun J uj js H5 s5 nJ hJ kj okk lk _ srt nd mem=>?_⟩
   have C5:=C.same s5
   obtain ⟨rk,k1,k2⟩:=C.tel.up
   have R0 : Rk (upF rws ps) rk:=⟨k1,k2⟩
   have telL : TelL H5 l L hs xs us rws ps:=⟨C5.hand.lst,C5.hand.rows,by have:=C.few; omega,C.hand.book,C5.lst,C5.prs,by have:=C.len; omega,C.tel.kn,fun p m=>(C.okp p m).1⟩
   refine ⟨l,L,J,.non,0,hs,xs,us,uj,rws,ps,js,none,rk,rfl,telL,hJ,kj,okk,C.hand.ok,lk,nd,R0,⟨none,rfl,rfl⟩,(fun k e=>nomatch e),fun _=>Nat.le_refl _,fun Du wd H6 s6 hDu nDu=>?_⟩
   rw [← forN_eq] at nDu
   have C6:=C5.same s6
   refine ⟨_,rfl,l,xs,rfl,.inl (SqL.of C6.hand.lst),fun l1 nl1=>?_⟩
   have u1 : Same H6 (upd H6 l1 (.lst xs)):=same_upd nl1
   have h1 : (upd H6 l1 (.lst xs)) l1 = some (.lst xs):=upd_same
   have nl1' : H5 l1 = none:=s6.free nl1
   generalize upd H6 l1 (.lst xs) = H7 at u1 h1 ⊢
   refine ⟨_,rfl,L,us,rfl,.inl (SqL.of (u1 _ _ C6.lst)),fun p1 np1=>?_⟩
   have u2 : Same H7 (upd H7 p1 (.lst us)):=same_upd np1
   have h2 : (upd H7 p1 (.lst us)) p1 = some (.lst us):=upd_same
   generalize upd H7 p1 (.lst us) = H8 at u2 h2 ⊢
   refine ⟨(by show 2≤sizeLine; decide),fun g ng=>?_⟩
   have u3 : Same H8 (upd H8 g (.lst [.ref l1,.ref p1])):=same_upd ng
   have h3 : (upd H8 g (.lst [.ref l1,.ref p1])) g = some (.lst [.ref l1,.ref p1]):=upd_same
   generalize upd H8 g (.lst [.ref l1,.ref p1]) = H9 at u3 h3 ⊢
   have u69:=(u1.trans u2).trans u3
   have hl1:=(u2.trans u3) _ _ h1
   have hp1:=u3 _ _ h2
   have C9:=C6.same u69
   have hDu9:=u69 _ _ hDu
   have nDu9:=nDu.go fun b xs e=>u69 _ _ e
   have fr : ∀ {E : XK} {G : Hp},Same H9 G→∃ (Ex : Addr→Prop) (gs : List Str) (xs : List V),Ask Ex G t l1 hs gs xs (rws.map rowD)∧G p1 = some (.lst us)∧Pks G us ps∧ps.length≤60∧(∀ rs : List Row,Book hs rs→rws.map rowD = rs.map rowD→Tel rs ps)∧Refuse (af 58) (af 60) G hs (rws.map rowD) E:=fun {E G} sg =>
    ⟨fun _=>False,gs,xs,(C9.hand.same sg).ask (sg _ _ hl1),sg _ _ hp1,C9.prs.same sg,by have:=C.len; omega,fun rs' _ e'=>rowD_inj e' ▸ C.tel,C.hand.book.refuse⟩
   have kn : ∀ rs : List Row,Book hs rs→rws.map rowD = rs.map rowD→∀ p∈ps,∃ r,Bk rs "job" r∧r.key = p.2:=fun rs' _ e'=>rowD_inj e' ▸ C.known
   have lr : (rws.map rowD).length≤60:=by rw [List.length_map]; have:=C.few; omega
   have same_js : ∀ {js1 : List Gr.HK},SrtK js1→js1.Nodup→(∀ k,k∈js1↔TreeJ rws k)→js1 = js:=fun a b c=>srtK_eq a srt ((List.perm_ext_iff_of_nodup b nd).mpr fun k=>(c k).trans (mem k).symm)
   refine ⟨_,rfl,_,rfl,g,_,0,_,rfl,rfl,SqL.of h3,rfl,_,rfl,g,_,1,_,rfl,rfl,SqL.of h3,rfl,t,l1,p1,hs,rws.map rowD,us,ps,rfl,lr,kn,fr (Same.refl H9),fun rs1 F wf js1 H10 s10 _ _ _ e1 nF hF srt1 nd1 mem1 nfF=>?_⟩
   obtain rfl:=rowD_inj e1
   obtain rfl:=same_js srt1 nd1 mem1
   have dqF:=fun (G : Hp) (sg : Same H10 G)=>(Dq.lst (Ex:=fun _=>False) (fun z=>z) (sg _ _ hF) (nfF.go fun b xs e=>sg _ _ e).dq)
   have dqD:=fun (G : Hp) (sg : Same H9 G)=>(Dq.lst (Ex:=fun _=>False) (fun z=>z) (sg _ _ hDu9) (nDu9.go fun b xs e=>sg _ _ e).dq)
   refine ⟨_,rfl,_,rfl,fun _=>False,fun _=>False,.ref F,.ref Du,_,rfl,dqF H10 (Same.refl H10),dqD H10 s10,nds_depth _,fun H11 s11=>⟨true,rfl,iteF ?_⟩⟩
   have s911:=s10.trans s11
   refine ⟨_,rfl,_,rfl,_,rfl,(by show 2≤sizeLine; decide),fun N nN=>?_⟩
   have u4 : Same H11 (upd H11 N (.lst [.ref l,.ref L])):=same_upd nN
   have hN : (upd H11 N (.lst [.ref l,.ref L])) N = some (.lst [.ref l,.ref L]):=upd_same
   generalize upd H11 N (.lst [.ref l,.ref L]) = H12 at u4 hN ⊢
   have s912:=s911.trans u4
   have C12:=C9.same s912
   have rowsD : ∀ {a : Addr},H12 a = some (.lst xs)→Dp K H12 (.ref a) (.list (rws.map rowD)):=fun e=>Dp.lst (SqL.of e) (dqs_rows (Ex:=fun _=>False) C12.hand.rows).dp
   have prsD : ∀ {a : Addr},H12 a = some (.lst us)→Dp K H12 (.ref a) (.list (ps.map prD)):=fun e=>Dp.lst (SqL.of e) C12.prs.dq3.dp
   have shn : Shn 4 (.list [.list (rws.map rowD),.list (ps.map prD)]):=shn_lst (n:=3) fun d m=>by
    rcases List.mem_cons.mp m with rfl | m
    ·refine ⟨C.hand.lay,?_⟩
     have:=(shn_lst (n:=1) (ds:=rws.map rowD) fun d m=>by
      refine ⟨((C.hand.ths d m).sh (by decide)).1,?_⟩
      obtain ⟨r,_,rfl⟩:=List.mem_map.mp m
      cases r <;> exact Nat.le_refl _).2
     omega
    ·rw [List.mem_singleton.mp m]
     exact shn_lst fun d m=>by
      obtain ⟨p,mp,rfl⟩:=List.mem_map.mp m
      exact shn_pr (C.okp p mp).2 (C.okp p mp).1
   have sh : SeqAt.shaped (.list [.list (rws.map rowD),.list (ps.map prD)]) = true:=Sh.shaped ⟨shn.1,Nat.le_trans shn.2 (by decide)⟩
   refine ⟨.list [.list (rws.map rowD),.list (ps.map prD)],.list [.list (rws.map rowD),.list (ps.map prD)],Dp.lst (SqL.of (s912 _ _ h3)) (.cons (rowsD (s912 _ _ hl1)) (.cons (prsD (s912 _ _ hp1)) .nil)),Dp.lst (SqL.of hN) (.cons (rowsD C12.hand.lst) (.cons (prsD C12.lst) .nil)),sh,sh,?_⟩
   rw [PySem.SeqAt.eqv_refl _ shn.1]
   refine ⟨_,rfl,iteF ?_⟩
   have hF12:=(s11.trans u4) _ _ hF
   refine ⟨_,rfl,.inl ⟨rfl,_,SqL.of hF12⟩,?_⟩
   have lwf : wf.length≤60:=by
    rw [nfF.1,forN_eq]
    exact Nat.le_trans (growN_len R0 nd _ _ _) lk
   refine ⟨(by show 2≤sizeLine; decide),fun z1 nz1=>?_⟩
   have w1:=same_upd (o:=.tup [.str "z", .int 0]) nz1
   generalize upd H12 z1 (.tup [.str "z", .int 0]) = H13 at w1 ⊢
   refine ⟨(by show 2≤sizeLine; decide),fun z2 nz2=>?_⟩
   have w2:=same_upd (o:=.tup [.ref z1,.int 0]) nz2
   generalize upd H13 z2 (.tup [.ref z1,.int 0]) = H14 at w2 ⊢
   have w12:=w1.trans w2
   refine ⟨F,wf,_,rfl,rfl,w12 _ _ hF12,small_line (by omega),?_⟩
   have m1 : Same H9 (upd H14 F (.lst (wf ++ [.ref z2]))):=same_mut (s912.trans w12) nF
   generalize upd H14 F (.lst (wf ++ [.ref z2])) = H15 at m1 ⊢
   refine ⟨_,rfl,_,rfl,g,_,0,_,rfl,rfl,SqL.of (m1 _ _ h3),rfl,_,rfl,g,_,1,_,rfl,rfl,SqL.of (m1 _ _ h3),rfl,t,l1,p1,hs,rws.map rowD,us,ps,rfl,lr,kn,fr m1,fun rs2 F2 wf2 js2 H16 s16 _ _ _ e2 nF2 hF2 srt2 nd2 mem2 nfF2=>?_⟩
   obtain rfl:=rowD_inj e2
   obtain rfl:=same_js srt2 nd2 mem2
   have s916:=m1.trans s16
   refine ⟨_,rfl,fun _=>False,fun _=>False,.ref F2,.ref Du,_,rfl,Dq.lst (fun z=>z) hF2 nfF2.dq,dqD H16 s916,nds_depth _,fun H17 s17=>⟨true,rfl,iteF ?_⟩⟩
   exact ⟨⟨_,_,_,_,_,_,_,rfl⟩,((((P4.sm s5).sm s6).sm u69).sm (s916.trans s17))⟩
  ·rintro σ H2 ⟨⟨v2,v3,v4,v5,v6,v7,v8,rfl⟩,P2⟩
   refine ⟨(by show 1≤sizeLine; decide),fun a1 na1=>?_⟩
   have w1:=same_upd (o:=.tup [.str "a"]) na1
   have h1 : (upd H2 a1 (.tup [.str "a"])) a1 = some (.tup [.str "a"]):=upd_same
   generalize upd H2 a1 (.tup [.str "a"]) = H3 at w1 h1 ⊢
   refine ⟨Nat.zero_le _,fun a2 na2=>?_⟩
   have w2:=same_upd (o:=.tup []) na2
   have h2 : (upd H3 a2 (.tup [])) a2 = some (.tup []):=upd_same
   generalize upd H3 a2 (.tup []) = H4 at w2 h2 ⊢
   refine ⟨(by show 2≤sizeLine; decide),fun t nt=>?_⟩
   have w3:=same_upd (o:=.tup [.ref a1,.ref a2]) nt
   have h3 : (upd H4 t (.tup [.ref a1,.ref a2])) t = some (.tup [.ref a1,.ref a2]):=upd_same
   generalize upd H4 t (.tup [.ref a1,.ref a2]) = H5 at w3 h3 ⊢
   refine ⟨Nat.zero_le _,fun l nl=>?_⟩
   have w4:=same_upd (o:=.lst []) nl
   have h4 : (upd H5 l (.lst [])) l = some (.lst []):=upd_same
   generalize upd H5 l (.lst []) = H6 at w4 h4 ⊢
   refine ⟨Nat.zero_le _,fun L nL=>?_⟩
   have w5:=same_upd (o:=.lst []) nL
   have h5 : (upd H6 L (.lst [])) L = some (.lst []):=upd_same
   generalize upd H6 L (.lst []) = H7 at w5 h5 ⊢
   have town : TownAt H7 t ["a"] []:=⟨a1,a2,(w4.trans w5) _ _ h3,(((w2.trans w3).trans w4).trans w5) _ _ h1,((w3.trans w4).trans w5) _ _ h2⟩
   have B0 : Book ["a"] []:=⟨(fun r m=>nomatch m),(fun r m=>nomatch m),fun r m=>nomatch m⟩
   have tel0 : Tel [] []:=⟨(fun p m=>nomatch m),List.nodup_nil,fun _=>0,(fun p m=>nomatch m),fun _=>Nat.zero_le _⟩
   have ask0 : Ask (fun _=>False) H7 t l ["a"] [] [] []:=⟨town,(fun h m=>by rw [List.mem_singleton.mp m]; decide +kernel),w5 _ _ h4,⟨.nil,fun d m=>nomatch m⟩,Nat.zero_le _,by decide,List.nodup_cons.mpr ⟨(fun m=>nomatch m),List.nodup_nil⟩⟩
   have emp : ∀ {rs : List Row},([] : List PyData) = rs.map rowD→rs = []:=fun {rs} e=>by
    cases rs with
    | nil=>rfl
    | cons r rs=>cases e
   refine ⟨t,l,L,["a"],[],[],[],rfl,Nat.zero_le _,(fun rs _ _ p m=>nomatch m),⟨fun _=>False,[],[],ask0,h5,⟨rfl,fun i p e=>nomatch e⟩,Nat.zero_le _,(fun rs _ e=>by rw [emp e]; exact tel0),B0.refuse⟩,fun rs F wf js H8 s8 _ _ _ e nF hF _ _ mem nf=>?_⟩
   obtain rfl:=emp e
   have ej : js = []:=by
    cases js with
    | nil=>rfl
    | cons k js =>
     rcases (mem k).mp List.mem_cons_self with m | m
     ·obtain ⟨r,⟨m,_⟩,_⟩:=mem_keysW.mp m
      cases m
     ·obtain ⟨r,⟨m,_⟩,_⟩:=mem_keysW.mp m
      cases m
   subst ej
   have e0 : wf = []:=List.length_eq_zero_iff.mp nf.1
   subst e0
   refine ⟨Nat.zero_le _,fun D nD=>?_⟩
   have w6:=same_upd (o:=.lst []) nD
   exact ⟨fun _=>False,fun _=>False,.ref F,.ref D,.list [],rfl,.lst (fun z=>z) (w6 _ _ hF) .nil,.lst (fun z=>z) upd_same .nil,by decide,fun H9 s9=>q H9⟩
end
theorem all_mk {l : PySem.W.OpenLaw} {w : World} {K : PySem.W.Frag} {h : Heap} {mg : Str→Option Value} {fa : Addr} (X : K.In h) (G : h.Ns mainGlobals mg) (hfa : mg "law" = some (.ref fa))
  {f0 f1 f2 f3 f4 f5 f6 f7 f8 f9 f10 f11 f12 f13 f14 f15 f16 f17 f18 f19 f20 f21 f22 f23 f24 f25 f26 f27 f28 f29 f30 f31 f32 f33 f34 f35 f36 f37 f38 f39 f40 f41 f42 f43 f44 f45 f46 f47 f48 f49 f50 f51 f52 f53 f54 f55 f56 f57 : Addr}
  {od0 an0 od1 an1 od2 an2 od3 an3 od4 an4 od5 an5 od6 an6 od7 an7 od8 an8 od9 an9 od10 an10 od11 an11 od12 an12 od13 an13 od14 an14 od15 an15 od16 an16 od17 an17 od18 an18 od19 an19 od20 an20 od21 an21 od22 an22 od23 an23 od24 an24 od25 an25 od26 an26 od27 an27 od28 an28 od29 an29 od30 an30 od31 an31 od32 an32 od33 an33 od34 an34 od35 an35 od36 an36 od37 an37 od38 an38 od39 an39 od40 an40 od41 an41 od42 an42 od43 an43 od44 an44 od45 an45 od46 an46 od47 an47 od48 an48 od49 an49 od50 an50 od51 an51 od52 an52 od53 an53 od54 an54 od55 an55 od56 an56 od57 an57 : Option Addr} {sl0 sl1 sl2 sl3 sl4 sl5 sl6 sl7 sl8 sl9 sl10 sl11 sl12 sl13 sl14 sl15 sl16 sl17 sl18 sl19 sl20 sl21 sl22 sl23 sl24 sl25 sl26 sl27 sl28 sl29 sl30 sl31 sl32 sl33 sl34 sl35 sl36 sl37 sl38 sl39 sl40 sl41 sl42 sl43 sl44 sl45 sl46 sl47 sl48 sl49 sl50 sl51 sl52 sl53 sl54 sl55 sl56 sl57 : Array (Option Value)} {oc0 kV0 dc0 pm0 ct0 cd0 oc1 kV1 dc1 pm1 ct1 cd1 oc2 kV2 dc2 pm2 ct2 cd2 oc3 kV3 dc3 pm3 ct3 cd3 oc4 kV4 dc4 pm4 ct4 cd4 oc5 kV5 dc5 pm5 ct5 cd5 oc6 kV6 dc6 pm6 ct6 cd6 oc7 kV7 dc7 pm7 ct7 cd7 oc8 kV8 dc8 pm8 ct8 cd8 oc9 kV9 dc9 pm9 ct9 cd9 oc10 kV10 dc10 pm10 ct10 cd10 oc11 kV11 dc11 pm11 ct11 cd11 oc12 kV12 dc12 pm12 ct12 cd12 oc13 kV13 dc13 pm13 ct13 cd13 oc14 kV14 dc14 pm14 ct14 cd14 oc15 kV15 dc15 pm15 ct15 cd15 oc16 kV16 dc16 pm16 ct16 cd16 oc17 kV17 dc17 pm17 ct17 cd17 oc18 kV18 dc18 pm18 ct18 cd18 oc19 kV19 dc19 pm19 ct19 cd19 oc20 kV20 dc20 pm20 ct20 cd20 oc21 kV21 dc21 pm21 ct21 cd21 oc22 kV22 dc22 pm22 ct22 cd22 oc23 kV23 dc23 pm23 ct23 cd23 oc24 kV24 dc24 pm24 ct24 cd24 oc25 kV25 dc25 pm25 ct25 cd25 oc26 kV26 dc26 pm26 ct26 cd26 oc27 kV27 dc27 pm27 ct27 cd27 oc28 kV28 dc28 pm28 ct28 cd28 oc29 kV29 dc29 pm29 ct29 cd29 oc30 kV30 dc30 pm30 ct30 cd30 oc31 kV31 dc31 pm31 ct31 cd31 oc32 kV32 dc32 pm32 ct32 cd32 oc33 kV33 dc33 pm33 ct33 cd33 oc34 kV34 dc34 pm34 ct34 cd34 oc35 kV35 dc35 pm35 ct35 cd35 oc36 kV36 dc36 pm36 ct36 cd36 oc37 kV37 dc37 pm37 ct37 cd37 oc38 kV38 dc38 pm38 ct38 cd38 oc39 kV39 dc39 pm39 ct39 cd39 oc40 kV40 dc40 pm40 ct40 cd40 oc41 kV41 dc41 pm41 ct41 cd41 oc42 kV42 dc42 pm42 ct42 cd42 oc43 kV43 dc43 pm43 ct43 cd43 oc44 kV44 dc44 pm44 ct44 cd44 oc45 kV45 dc45 pm45 ct45 cd45 oc46 kV46 dc46 pm46 ct46 cd46 oc47 kV47 dc47 pm47 ct47 cd47 oc48 kV48 dc48 pm48 ct48 cd48 oc49 kV49 dc49 pm49 ct49 cd49 oc50 kV50 dc50 pm50 ct50 cd50 oc51 kV51 dc51 pm51 ct51 cd51 oc52 kV52 dc52 pm52 ct52 cd52 oc53 kV53 dc53 pm53 ct53 cd53 oc54 kV54 dc54 pm54 ct54 cd54 oc55 kV55 dc55 pm55 ct55 cd55 oc56 kV56 dc56 pm56 ct56 cd56 oc57 kV57 dc57 pm57 ct57 cd57 : Value}
  (a0 : PySem.W.nsIn K mainGlobals "is_whole_from" = some (some (.ref f0))) (l0 : K.lookup f0 = some ⟨oc0,od0,.func (PySem.W.fnOf "is_whole_from" "is_whole_from" (defArgs s_is_whole_from) (defBody s_is_whole_from) (defScope s_is_whole_from) .none kV0 dc0 pm0 an0 cd0 ct0),sl0⟩) (c0 : PySem.W.codeIn K cd0 "is_whole_from" = true) (k0 : PySem.W.keepIn K (.ref f0) = true)
  (a1 : PySem.W.nsIn K mainGlobals "is_time" = some (some (.ref f1))) (l1 : K.lookup f1 = some ⟨oc1,od1,.func (PySem.W.fnOf "is_time" "is_time" (defArgs s_is_time) (defBody s_is_time) (defScope s_is_time) .none kV1 dc1 pm1 an1 cd1 ct1),sl1⟩) (c1 : PySem.W.codeIn K cd1 "is_time" = true) (k1 : PySem.W.keepIn K (.ref f1) = true)
  (a2 : PySem.W.nsIn K mainGlobals "is_number" = some (some (.ref f2))) (l2 : K.lookup f2 = some ⟨oc2,od2,.func (PySem.W.fnOf "is_number" "is_number" (defArgs s_is_number) (defBody s_is_number) (defScope s_is_number) .none kV2 dc2 pm2 an2 cd2 ct2),sl2⟩) (c2 : PySem.W.codeIn K cd2 "is_number" = true) (k2 : PySem.W.keepIn K (.ref f2) = true)
  (a3 : PySem.W.nsIn K mainGlobals "is_count" = some (some (.ref f3))) (l3 : K.lookup f3 = some ⟨oc3,od3,.func (PySem.W.fnOf "is_count" "is_count" (defArgs s_is_count) (defBody s_is_count) (defScope s_is_count) .none kV3 dc3 pm3 an3 cd3 ct3),sl3⟩) (c3 : PySem.W.codeIn K cd3 "is_count" = true) (k3 : PySem.W.keepIn K (.ref f3) = true)
  (a4 : PySem.W.nsIn K mainGlobals "is_span" = some (some (.ref f4))) (l4 : K.lookup f4 = some ⟨oc4,od4,.func (PySem.W.fnOf "is_span" "is_span" (defArgs s_is_span) (defBody s_is_span) (defScope s_is_span) .none kV4 dc4 pm4 an4 cd4 ct4),sl4⟩) (c4 : PySem.W.codeIn K cd4 "is_span" = true) (k4 : PySem.W.keepIn K (.ref f4) = true)
  (a5 : PySem.W.nsIn K mainGlobals "is_ask_row" = some (some (.ref f5))) (l5 : K.lookup f5 = some ⟨oc5,od5,.func (PySem.W.fnOf "is_ask_row" "is_ask_row" (defArgs s_is_ask_row) (defBody s_is_ask_row) (defScope s_is_ask_row) .none kV5 dc5 pm5 an5 cd5 ct5),sl5⟩) (c5 : PySem.W.codeIn K cd5 "is_ask_row" = true) (k5 : PySem.W.keepIn K (.ref f5) = true)
  (a6 : PySem.W.nsIn K mainGlobals "is_job_row" = some (some (.ref f6))) (l6 : K.lookup f6 = some ⟨oc6,od6,.func (PySem.W.fnOf "is_job_row" "is_job_row" (defArgs s_is_job_row) (defBody s_is_job_row) (defScope s_is_job_row) .none kV6 dc6 pm6 an6 cd6 ct6),sl6⟩) (c6 : PySem.W.codeIn K cd6 "is_job_row" = true) (k6 : PySem.W.keepIn K (.ref f6) = true)
  (a7 : PySem.W.nsIn K mainGlobals "is_all_row" = some (some (.ref f7))) (l7 : K.lookup f7 = some ⟨oc7,od7,.func (PySem.W.fnOf "is_all_row" "is_all_row" (defArgs s_is_all_row) (defBody s_is_all_row) (defScope s_is_all_row) .none kV7 dc7 pm7 an7 cd7 ct7),sl7⟩) (c7 : PySem.W.codeIn K cd7 "is_all_row" = true) (k7 : PySem.W.keepIn K (.ref f7) = true)
  (a8 : PySem.W.nsIn K mainGlobals "is_row" = some (some (.ref f8))) (l8 : K.lookup f8 = some ⟨oc8,od8,.func (PySem.W.fnOf "is_row" "is_row" (defArgs s_is_row) (defBody s_is_row) (defScope s_is_row) .none kV8 dc8 pm8 an8 cd8 ct8),sl8⟩) (c8 : PySem.W.codeIn K cd8 "is_row" = true) (k8 : PySem.W.keepIn K (.ref f8) = true)
  (a9 : PySem.W.nsIn K mainGlobals "is_out_of_order" = some (some (.ref f9))) (l9 : K.lookup f9 = some ⟨oc9,od9,.func (PySem.W.fnOf "is_out_of_order" "is_out_of_order" (defArgs s_is_out_of_order) (defBody s_is_out_of_order) (defScope s_is_out_of_order) .none kV9 dc9 pm9 an9 cd9 ct9),sl9⟩) (c9 : PySem.W.codeIn K cd9 "is_out_of_order" = true) (k9 : PySem.W.keepIn K (.ref f9) = true)
  (a10 : PySem.W.nsIn K mainGlobals "do_asks_clash" = some (some (.ref f10))) (l10 : K.lookup f10 = some ⟨oc10,od10,.func (PySem.W.fnOf "do_asks_clash" "do_asks_clash" (defArgs s_do_asks_clash) (defBody s_do_asks_clash) (defScope s_do_asks_clash) .none kV10 dc10 pm10 an10 cd10 ct10),sl10⟩) (c10 : PySem.W.codeIn K cd10 "do_asks_clash" = true) (k10 : PySem.W.keepIn K (.ref f10) = true)
  (a11 : PySem.W.nsIn K mainGlobals "do_jobs_clash" = some (some (.ref f11))) (l11 : K.lookup f11 = some ⟨oc11,od11,.func (PySem.W.fnOf "do_jobs_clash" "do_jobs_clash" (defArgs s_do_jobs_clash) (defBody s_do_jobs_clash) (defScope s_do_jobs_clash) .none kV11 dc11 pm11 an11 cd11 ct11),sl11⟩) (c11 : PySem.W.codeIn K cd11 "do_jobs_clash" = true) (k11 : PySem.W.keepIn K (.ref f11) = true)
  (a12 : PySem.W.nsIn K mainGlobals "do_job_and_ask_clash" = some (some (.ref f12))) (l12 : K.lookup f12 = some ⟨oc12,od12,.func (PySem.W.fnOf "do_job_and_ask_clash" "do_job_and_ask_clash" (defArgs s_do_job_and_ask_clash) (defBody s_do_job_and_ask_clash) (defScope s_do_job_and_ask_clash) .none kV12 dc12 pm12 an12 cd12 ct12),sl12⟩) (c12 : PySem.W.codeIn K cd12 "do_job_and_ask_clash" = true) (k12 : PySem.W.keepIn K (.ref f12) = true)
  (a13 : PySem.W.nsIn K mainGlobals "does_all_row_clash" = some (some (.ref f13))) (l13 : K.lookup f13 = some ⟨oc13,od13,.func (PySem.W.fnOf "does_all_row_clash" "does_all_row_clash" (defArgs s_does_all_row_clash) (defBody s_does_all_row_clash) (defScope s_does_all_row_clash) .none kV13 dc13 pm13 an13 cd13 ct13),sl13⟩) (c13 : PySem.W.codeIn K cd13 "does_all_row_clash" = true) (k13 : PySem.W.keepIn K (.ref f13) = true)
  (a14 : PySem.W.nsIn K mainGlobals "do_alike_sorts_clash" = some (some (.ref f14))) (l14 : K.lookup f14 = some ⟨oc14,od14,.func (PySem.W.fnOf "do_alike_sorts_clash" "do_alike_sorts_clash" (defArgs s_do_alike_sorts_clash) (defBody s_do_alike_sorts_clash) (defScope s_do_alike_sorts_clash) .none kV14 dc14 pm14 an14 cd14 ct14),sl14⟩) (c14 : PySem.W.codeIn K cd14 "do_alike_sorts_clash" = true) (k14 : PySem.W.keepIn K (.ref f14) = true)
  (a15 : PySem.W.nsIn K mainGlobals "do_clash" = some (some (.ref f15))) (l15 : K.lookup f15 = some ⟨oc15,od15,.func (PySem.W.fnOf "do_clash" "do_clash" (defArgs s_do_clash) (defBody s_do_clash) (defScope s_do_clash) .none kV15 dc15 pm15 an15 cd15 ct15),sl15⟩) (c15 : PySem.W.codeIn K cd15 "do_clash" = true) (k15 : PySem.W.keepIn K (.ref f15) = true)
  (a16 : PySem.W.nsIn K mainGlobals "need_rows" = some (some (.ref f16))) (l16 : K.lookup f16 = some ⟨oc16,od16,.func (PySem.W.fnOf "need_rows" "need_rows" (defArgs s_need_rows) (defBody s_need_rows) (defScope s_need_rows) .none kV16 dc16 pm16 an16 cd16 ct16),sl16⟩) (c16 : PySem.W.codeIn K cd16 "need_rows" = true) (k16 : PySem.W.keepIn K (.ref f16) = true)
  (a17 : PySem.W.nsIn K mainGlobals "need_book" = some (some (.ref f17))) (l17 : K.lookup f17 = some ⟨oc17,od17,.func (PySem.W.fnOf "need_book" "need_book" (defArgs s_need_book) (defBody s_need_book) (defScope s_need_book) .none kV17 dc17 pm17 an17 cd17 ct17),sl17⟩) (c17 : PySem.W.codeIn K cd17 "need_book" = true) (k17 : PySem.W.keepIn K (.ref f17) = true)
  (a18 : PySem.W.nsIn K mainGlobals "gaps_of" = some (some (.ref f18))) (l18 : K.lookup f18 = some ⟨oc18,od18,.func (PySem.W.fnOf "gaps_of" "gaps_of" (defArgs s_gaps_of) (defBody s_gaps_of) (defScope s_gaps_of) .none kV18 dc18 pm18 an18 cd18 ct18),sl18⟩) (c18 : PySem.W.codeIn K cd18 "gaps_of" = true) (k18 : PySem.W.keepIn K (.ref f18) = true)
  (a19 : PySem.W.nsIn K mainGlobals "rows_by_number" = some (some (.ref f19))) (l19 : K.lookup f19 = some ⟨oc19,od19,.func (PySem.W.fnOf "rows_by_number" "rows_by_number" (defArgs s_rows_by_number) (defBody s_rows_by_number) (defScope s_rows_by_number) .none kV19 dc19 pm19 an19 cd19 ct19),sl19⟩) (c19 : PySem.W.codeIn K cd19 "rows_by_number" = true) (k19 : PySem.W.keepIn K (.ref f19) = true)
  (a20 : PySem.W.nsIn K mainGlobals "numbers_below" = some (some (.ref f20))) (l20 : K.lookup f20 = some ⟨oc20,od20,.func (PySem.W.fnOf "numbers_below" "numbers_below" (defArgs s_numbers_below) (defBody s_numbers_below) (defScope s_numbers_below) .none kV20 dc20 pm20 an20 cd20 ct20),sl20⟩) (c20 : PySem.W.codeIn K cd20 "numbers_below" = true) (k20 : PySem.W.keepIn K (.ref f20) = true)
  (a21 : PySem.W.nsIn K mainGlobals "asks_of_house" = some (some (.ref f21))) (l21 : K.lookup f21 = some ⟨oc21,od21,.func (PySem.W.fnOf "asks_of_house" "asks_of_house" (defArgs s_asks_of_house) (defBody s_asks_of_house) (defScope s_asks_of_house) .none kV21 dc21 pm21 an21 cd21 ct21),sl21⟩) (c21 : PySem.W.codeIn K cd21 "asks_of_house" = true) (k21 : PySem.W.keepIn K (.ref f21) = true)
  (a22 : PySem.W.nsIn K mainGlobals "jobs_of_house" = some (some (.ref f22))) (l22 : K.lookup f22 = some ⟨oc22,od22,.func (PySem.W.fnOf "jobs_of_house" "jobs_of_house" (defArgs s_jobs_of_house) (defBody s_jobs_of_house) (defScope s_jobs_of_house) .none kV22 dc22 pm22 an22 cd22 ct22),sl22⟩) (c22 : PySem.W.codeIn K cd22 "jobs_of_house" = true) (k22 : PySem.W.keepIn K (.ref f22) = true)
  (a23 : PySem.W.nsIn K mainGlobals "count_asks" = some (some (.ref f23))) (l23 : K.lookup f23 = some ⟨oc23,od23,.func (PySem.W.fnOf "count_asks" "count_asks" (defArgs s_count_asks) (defBody s_count_asks) (defScope s_count_asks) .none kV23 dc23 pm23 an23 cd23 ct23),sl23⟩) (c23 : PySem.W.codeIn K cd23 "count_asks" = true) (k23 : PySem.W.keepIn K (.ref f23) = true)
  (a24 : PySem.W.nsIn K mainGlobals "count_jobs" = some (some (.ref f24))) (l24 : K.lookup f24 = some ⟨oc24,od24,.func (PySem.W.fnOf "count_jobs" "count_jobs" (defArgs s_count_jobs) (defBody s_count_jobs) (defScope s_count_jobs) .none kV24 dc24 pm24 an24 cd24 ct24),sl24⟩) (c24 : PySem.W.codeIn K cd24 "count_jobs" = true) (k24 : PySem.W.keepIn K (.ref f24) = true)
  (a25 : PySem.W.nsIn K mainGlobals "earliest" = some (some (.ref f25))) (l25 : K.lookup f25 = some ⟨oc25,od25,.func (PySem.W.fnOf "earliest" "earliest" (defArgs s_earliest) (defBody s_earliest) (defScope s_earliest) .none kV25 dc25 pm25 an25 cd25 ct25),sl25⟩) (c25 : PySem.W.codeIn K cd25 "earliest" = true) (k25 : PySem.W.keepIn K (.ref f25) = true)
  (a26 : PySem.W.nsIn K mainGlobals "latest" = some (some (.ref f26))) (l26 : K.lookup f26 = some ⟨oc26,od26,.func (PySem.W.fnOf "latest" "latest" (defArgs s_latest) (defBody s_latest) (defScope s_latest) .none kV26 dc26 pm26 an26 cd26 ct26),sl26⟩) (c26 : PySem.W.codeIn K cd26 "latest" = true) (k26 : PySem.W.keepIn K (.ref f26) = true)
  (a27 : PySem.W.nsIn K mainGlobals "span_of_ask" = some (some (.ref f27))) (l27 : K.lookup f27 = some ⟨oc27,od27,.func (PySem.W.fnOf "span_of_ask" "span_of_ask" (defArgs s_span_of_ask) (defBody s_span_of_ask) (defScope s_span_of_ask) .none kV27 dc27 pm27 an27 cd27 ct27),sl27⟩) (c27 : PySem.W.codeIn K cd27 "span_of_ask" = true) (k27 : PySem.W.keepIn K (.ref f27) = true)
  (a28 : PySem.W.nsIn K mainGlobals "span_of_job" = some (some (.ref f28))) (l28 : K.lookup f28 = some ⟨oc28,od28,.func (PySem.W.fnOf "span_of_job" "span_of_job" (defArgs s_span_of_job) (defBody s_span_of_job) (defScope s_span_of_job) .none kV28 dc28 pm28 an28 cd28 ct28),sl28⟩) (c28 : PySem.W.codeIn K cd28 "span_of_job" = true) (k28 : PySem.W.keepIn K (.ref f28) = true)
  (a29 : PySem.W.nsIn K mainGlobals "more_of" = some (some (.ref f29))) (l29 : K.lookup f29 = some ⟨oc29,od29,.func (PySem.W.fnOf "more_of" "more_of" (defArgs s_more_of) (defBody s_more_of) (defScope s_more_of) .none kV29 dc29 pm29 an29 cd29 ct29),sl29⟩) (c29 : PySem.W.codeIn K cd29 "more_of" = true) (k29 : PySem.W.keepIn K (.ref f29) = true)
  (a30 : PySem.W.nsIn K mainGlobals "made_in" = some (some (.ref f30))) (l30 : K.lookup f30 = some ⟨oc30,od30,.func (PySem.W.fnOf "made_in" "made_in" (defArgs s_made_in) (defBody s_made_in) (defScope s_made_in) .none kV30 dc30 pm30 an30 cd30 ct30),sl30⟩) (c30 : PySem.W.codeIn K cd30 "made_in" = true) (k30 : PySem.W.keepIn K (.ref f30) = true)
  (a31 : PySem.W.nsIn K mainGlobals "jobs_of_trees" = some (some (.ref f31))) (l31 : K.lookup f31 = some ⟨oc31,od31,.func (PySem.W.fnOf "jobs_of_trees" "jobs_of_trees" (defArgs s_jobs_of_trees) (defBody s_jobs_of_trees) (defScope s_jobs_of_trees) .none kV31 dc31 pm31 an31 cd31 ct31),sl31⟩) (c31 : PySem.W.codeIn K cd31 "jobs_of_trees" = true) (k31 : PySem.W.keepIn K (.ref f31) = true)
  (a32 : PySem.W.nsIn K mainGlobals "uppers_of" = some (some (.ref f32))) (l32 : K.lookup f32 = some ⟨oc32,od32,.func (PySem.W.fnOf "uppers_of" "uppers_of" (defArgs s_uppers_of) (defBody s_uppers_of) (defScope s_uppers_of) .none kV32 dc32 pm32 an32 cd32 ct32),sl32⟩) (c32 : PySem.W.codeIn K cd32 "uppers_of" = true) (k32 : PySem.W.keepIn K (.ref f32) = true)
  (a33 : PySem.W.nsIn K mainGlobals "all_uppers" = some (some (.ref f33))) (l33 : K.lookup f33 = some ⟨oc33,od33,.func (PySem.W.fnOf "all_uppers" "all_uppers" (defArgs s_all_uppers) (defBody s_all_uppers) (defScope s_all_uppers) .none kV33 dc33 pm33 an33 cd33 ct33),sl33⟩) (c33 : PySem.W.codeIn K cd33 "all_uppers" = true) (k33 : PySem.W.keepIn K (.ref f33) = true)
  (a34 : PySem.W.nsIn K mainGlobals "forest" = some (some (.ref f34))) (l34 : K.lookup f34 = some ⟨oc34,od34,.func (PySem.W.fnOf "forest" "forest" (defArgs s_forest) (defBody s_forest) (defScope s_forest) .none kV34 dc34 pm34 an34 cd34 ct34),sl34⟩) (c34 : PySem.W.codeIn K cd34 "forest" = true) (k34 : PySem.W.keepIn K (.ref f34) = true)
  (a35 : PySem.W.nsIn K mainGlobals "_law_spread" = some (some (.ref f35))) (l35 : K.lookup f35 = some ⟨oc35,od35,.func (PySem.W.fnOf "_law_spread" "_law_spread" (defArgs s_l_spread) (defBody s_l_spread) (defScope s_l_spread) .none kV35 dc35 pm35 an35 cd35 ct35),sl35⟩) (c35 : PySem.W.codeIn K cd35 "_law_spread" = true) (k35 : PySem.W.keepIn K (.ref f35) = true)
  (a36 : PySem.W.nsIn K mainGlobals "_law_open" = some (some (.ref f36))) (l36 : K.lookup f36 = some ⟨oc36,od36,.func (PySem.W.fnOf "_law_open" "_law_open" (defArgs s_l_open) (defBody s_l_open) (defScope s_l_open) .none kV36 dc36 pm36 an36 cd36 ct36),sl36⟩) (c36 : PySem.W.codeIn K cd36 "_law_open" = true) (k36 : PySem.W.keepIn K (.ref f36) = true)
  (a37 : PySem.W.nsIn K mainGlobals "_law_anew" = some (some (.ref f37))) (l37 : K.lookup f37 = some ⟨oc37,od37,.func (PySem.W.fnOf "_law_anew" "_law_anew" (defArgs s_l_anew) (defBody s_l_anew) (defScope s_l_anew) .none kV37 dc37 pm37 an37 cd37 ct37),sl37⟩) (c37 : PySem.W.codeIn K cd37 "_law_anew" = true) (k37 : PySem.W.keepIn K (.ref f37) = true)
  (a38 : PySem.W.nsIn K mainGlobals "_law_take" = some (some (.ref f38))) (l38 : K.lookup f38 = some ⟨oc38,od38,.func (PySem.W.fnOf "_law_take" "_law_take" (defArgs s_l_take) (defBody s_l_take) (defScope s_l_take) .none kV38 dc38 pm38 an38 cd38 ct38),sl38⟩) (c38 : PySem.W.codeIn K cd38 "_law_take" = true) (k38 : PySem.W.keepIn K (.ref f38) = true)
  (a39 : PySem.W.nsIn K mainGlobals "_law_names" = some (some (.ref f39))) (l39 : K.lookup f39 = some ⟨oc39,od39,.func (PySem.W.fnOf "_law_names" "_law_names" (defArgs s_l_names) (defBody s_l_names) (defScope s_l_names) .none kV39 dc39 pm39 an39 cd39 ct39),sl39⟩) (c39 : PySem.W.codeIn K cd39 "_law_names" = true) (k39 : PySem.W.keepIn K (.ref f39) = true)
  (a40 : PySem.W.nsIn K mainGlobals "_law_town" = some (some (.ref f40))) (l40 : K.lookup f40 = some ⟨oc40,od40,.func (PySem.W.fnOf "_law_town" "_law_town" (defArgs s_l_town) (defBody s_l_town) (defScope s_l_town) .none kV40 dc40 pm40 an40 cd40 ct40),sl40⟩) (c40 : PySem.W.codeIn K cd40 "_law_town" = true) (k40 : PySem.W.keepIn K (.ref f40) = true)
  (a41 : PySem.W.nsIn K mainGlobals "_law_room" = some (some (.ref f41))) (l41 : K.lookup f41 = some ⟨oc41,od41,.func (PySem.W.fnOf "_law_room" "_law_room" (defArgs s_l_room) (defBody s_l_room) (defScope s_l_room) .none kV41 dc41 pm41 an41 cd41 ct41),sl41⟩) (c41 : PySem.W.codeIn K cd41 "_law_room" = true) (k41 : PySem.W.keepIn K (.ref f41) = true)
  (a42 : PySem.W.nsIn K mainGlobals "_law_job" = some (some (.ref f42))) (l42 : K.lookup f42 = some ⟨oc42,od42,.func (PySem.W.fnOf "_law_job" "_law_job" (defArgs s_l_job) (defBody s_l_job) (defScope s_l_job) .none kV42 dc42 pm42 an42 cd42 ct42),sl42⟩) (c42 : PySem.W.codeIn K cd42 "_law_job" = true) (k42 : PySem.W.keepIn K (.ref f42) = true)
  (a43 : PySem.W.nsIn K mainGlobals "_law_world" = some (some (.ref f43))) (l43 : K.lookup f43 = some ⟨oc43,od43,.func (PySem.W.fnOf "_law_world" "_law_world" (defArgs s_l_world) (defBody s_l_world) (defScope s_l_world) .none kV43 dc43 pm43 an43 cd43 ct43),sl43⟩) (c43 : PySem.W.codeIn K cd43 "_law_world" = true) (k43 : PySem.W.keepIn K (.ref f43) = true)
  (a44 : PySem.W.nsIn K mainGlobals "_law_called" = some (some (.ref f44))) (l44 : K.lookup f44 = some ⟨oc44,od44,.func (PySem.W.fnOf "_law_called" "_law_called" (defArgs s_l_called) (defBody s_l_called) (defScope s_l_called) .none kV44 dc44 pm44 an44 cd44 ct44),sl44⟩) (c44 : PySem.W.codeIn K cd44 "_law_called" = true) (k44 : PySem.W.keepIn K (.ref f44) = true)
  (a45 : PySem.W.nsIn K mainGlobals "_law_bases" = some (some (.ref f45))) (l45 : K.lookup f45 = some ⟨oc45,od45,.func (PySem.W.fnOf "_law_bases" "_law_bases" (defArgs s_l_bases) (defBody s_l_bases) (defScope s_l_bases) .none kV45 dc45 pm45 an45 cd45 ct45),sl45⟩) (c45 : PySem.W.codeIn K cd45 "_law_bases" = true) (k45 : PySem.W.keepIn K (.ref f45) = true)
  (a46 : PySem.W.nsIn K mainGlobals "_law_all_rows" = some (some (.ref f46))) (l46 : K.lookup f46 = some ⟨oc46,od46,.func (PySem.W.fnOf "_law_all_rows" "_law_all_rows" (defArgs s_l_all_rows) (defBody s_l_all_rows) (defScope s_l_all_rows) .none kV46 dc46 pm46 an46 cd46 ct46),sl46⟩) (c46 : PySem.W.codeIn K cd46 "_law_all_rows" = true) (k46 : PySem.W.keepIn K (.ref f46) = true)
  (a47 : PySem.W.nsIn K mainGlobals "_law_left" = some (some (.ref f47))) (l47 : K.lookup f47 = some ⟨oc47,od47,.func (PySem.W.fnOf "_law_left" "_law_left" (defArgs s_l_left) (defBody s_l_left) (defScope s_l_left) .none kV47 dc47 pm47 an47 cd47 ct47),sl47⟩) (c47 : PySem.W.codeIn K cd47 "_law_left" = true) (k47 : PySem.W.keepIn K (.ref f47) = true)
  (a48 : PySem.W.nsIn K mainGlobals "_law_true_pairs" = some (some (.ref f48))) (l48 : K.lookup f48 = some ⟨oc48,od48,.func (PySem.W.fnOf "_law_true_pairs" "_law_true_pairs" (defArgs s_l_true_pairs) (defBody s_l_true_pairs) (defScope s_l_true_pairs) .none kV48 dc48 pm48 an48 cd48 ct48),sl48⟩) (c48 : PySem.W.codeIn K cd48 "_law_true_pairs" = true) (k48 : PySem.W.keepIn K (.ref f48) = true)
  (a49 : PySem.W.nsIn K mainGlobals "_law_gated" = some (some (.ref f49))) (l49 : K.lookup f49 = some ⟨oc49,od49,.func (PySem.W.fnOf "_law_gated" "_law_gated" (defArgs s_l_gated) (defBody s_l_gated) (defScope s_l_gated) .none kV49 dc49 pm49 an49 cd49 ct49),sl49⟩) (c49 : PySem.W.codeIn K cd49 "_law_gated" = true) (k49 : PySem.W.keepIn K (.ref f49) = true)
  (a50 : PySem.W.nsIn K mainGlobals "_law_tree_book" = some (some (.ref f50))) (l50 : K.lookup f50 = some ⟨oc50,od50,.func (PySem.W.fnOf "_law_tree_book" "_law_tree_book" (defArgs s_l_tree_book) (defBody s_l_tree_book) (defScope s_l_tree_book) .none kV50 dc50 pm50 an50 cd50 ct50),sl50⟩) (c50 : PySem.W.codeIn K cd50 "_law_tree_book" = true) (k50 : PySem.W.keepIn K (.ref f50) = true)
  (a51 : PySem.W.nsIn K mainGlobals "_law_known" = some (some (.ref f51))) (l51 : K.lookup f51 = some ⟨oc51,od51,.func (PySem.W.fnOf "_law_known" "_law_known" (defArgs s_l_known) (defBody s_l_known) (defScope s_l_known) .none kV51 dc51 pm51 an51 cd51 ct51),sl51⟩) (c51 : PySem.W.codeIn K cd51 "_law_known" = true) (k51 : PySem.W.keepIn K (.ref f51) = true)
  (a52 : PySem.W.nsIn K mainGlobals "_law_above" = some (some (.ref f52))) (l52 : K.lookup f52 = some ⟨oc52,od52,.func (PySem.W.fnOf "_law_above" "_law_above" (defArgs s_l_above) (defBody s_l_above) (defScope s_l_above) .none kV52 dc52 pm52 an52 cd52 ct52),sl52⟩) (c52 : PySem.W.codeIn K cd52 "_law_above" = true) (k52 : PySem.W.keepIn K (.ref f52) = true)
  (a53 : PySem.W.nsIn K mainGlobals "_law_tree_jobs" = some (some (.ref f53))) (l53 : K.lookup f53 = some ⟨oc53,od53,.func (PySem.W.fnOf "_law_tree_jobs" "_law_tree_jobs" (defArgs s_l_tree_jobs) (defBody s_l_tree_jobs) (defScope s_l_tree_jobs) .none kV53 dc53 pm53 an53 cd53 ct53),sl53⟩) (c53 : PySem.W.codeIn K cd53 "_law_tree_jobs" = true) (k53 : PySem.W.keepIn K (.ref f53) = true)
  (a54 : PySem.W.nsIn K mainGlobals "_law_same" = some (some (.ref f54))) (l54 : K.lookup f54 = some ⟨oc54,od54,.func (PySem.W.fnOf "_law_same" "_law_same" (defArgs s_l_same) (defBody s_l_same) (defScope s_l_same) .none kV54 dc54 pm54 an54 cd54 ct54),sl54⟩) (c54 : PySem.W.codeIn K cd54 "_law_same" = true) (k54 : PySem.W.keepIn K (.ref f54) = true)
  (a55 : PySem.W.nsIn K mainGlobals "_law_grown" = some (some (.ref f55))) (l55 : K.lookup f55 = some ⟨oc55,od55,.func (PySem.W.fnOf "_law_grown" "_law_grown" (defArgs s_l_grown) (defBody s_l_grown) (defScope s_l_grown) .none kV55 dc55 pm55 an55 cd55 ct55),sl55⟩) (c55 : PySem.W.codeIn K cd55 "_law_grown" = true) (k55 : PySem.W.keepIn K (.ref f55) = true)
  (a56 : PySem.W.nsIn K mainGlobals "_law_chain" = some (some (.ref f56))) (l56 : K.lookup f56 = some ⟨oc56,od56,.func (PySem.W.fnOf "_law_chain" "_law_chain" (defArgs s_l_chain) (defBody s_l_chain) (defScope s_l_chain) .none kV56 dc56 pm56 an56 cd56 ct56),sl56⟩) (c56 : PySem.W.codeIn K cd56 "_law_chain" = true) (k56 : PySem.W.keepIn K (.ref f56) = true)
  (a57 : PySem.W.nsIn K mainGlobals "law" = some (some (.ref f57))) (l57 : K.lookup f57 = some ⟨oc57,od57,.func (PySem.W.fnOf "law" "law" (defArgs s_law) (defBody s_law) (defScope s_law) .none kV57 dc57 pm57 an57 cd57 ct57),sl57⟩) (c57 : PySem.W.codeIn K cd57 "law" = true) (k57 : PySem.W.keepIn K (.ref f57) = true)
  {xC0 xI0 xB0 : Addr} {xnm0 xq0 : Str} {xN0 : Addr} {xbs0 : List Value} {xsn0 : List Str} {xsub0 : List Value} {xab0 : Bool} {xcol0 : Option Bool} {xdd0 : Option Addr} {xm00 xm10 xm20 xm30 xm50 : Option Value} {xod0 xan0 : Option Addr} {xsl0 : Array (Option Value)} {xoc0 xkV0 xdc0 xpm0 xcd0 xct0 : Value}
  (ea0 : PySem.W.nsIn K mainGlobals "NoRow" = some (some (.ref xC0))) (eb0 : K.lookup xC0 = some (excClassObj xnm0 xq0 xC0 xN0 xbs0 [.ref xB0,.type "ValueError", .type "Exception", .type "BaseException", .type "object"] true xsn0 xsub0 xab0 xcol0 xdd0 xm00 xm10 xm20 xm30 xm50 "ValueError.__new__"))
  (ec0 : PySem.W.findIn K (.ref xC0) "__setattr__" = some (some (.builtin "object.__setattr__"))) (ed0 : PySem.W.findIn K (.ref xC0) "__getattribute__" = some (some (.builtin "BaseException.__getattribute__"))) (ee0 : PySem.W.findIn K (.ref xC0) "__getattr__" = some none)
  (ef0 : PySem.W.findIn K (.ref xC0) "__init__" = some (some (.ref xI0))) (eg0 : PySem.W.typeIn K (.ref xI0) = some (.type "function"))
  (eh0 : K.lookup xI0 = some ⟨xoc0,xod0,.func (PySem.W.fnOf "__init__" "NoRow.__init__" (defArgs s_i_NoRow) (defBody s_i_NoRow) (defScope s_i_NoRow) .none xkV0 xdc0 xpm0 xan0 xcd0 xct0),xsl0⟩) (ei0 : PySem.W.codeIn K xcd0 "NoRow.__init__" = true) (ej0 : PySem.W.keepIn K (.ref xI0) = true)
  (ek0 : PySem.W.keepIn K (.ref xC0) = true) (el0 : PySem.W.subIn K (.ref xC0) (.type "BaseException") = some true) (em0 : PySem.W.typeIn K (.ref xC0) = some (.type "type")) (en0 : PySem.W.hasDictIn K xC0 = true) (eo0 : PySem.W.isClsIn K xC0 = true)
  (ep0_0 : PySem.W.findIn K (.ref xC0) "number" = some none)
  {xC1 xI1 xB1 : Addr} {xnm1 xq1 : Str} {xN1 : Addr} {xbs1 : List Value} {xsn1 : List Str} {xsub1 : List Value} {xab1 : Bool} {xcol1 : Option Bool} {xdd1 : Option Addr} {xm01 xm11 xm21 xm31 xm51 : Option Value} {xod1 xan1 : Option Addr} {xsl1 : Array (Option Value)} {xoc1 xkV1 xdc1 xpm1 xcd1 xct1 : Value}
  (ea1 : PySem.W.nsIn K mainGlobals "Clash" = some (some (.ref xC1))) (eb1 : K.lookup xC1 = some (excClassObj xnm1 xq1 xC1 xN1 xbs1 [.ref xB1,.type "ValueError", .type "Exception", .type "BaseException", .type "object"] true xsn1 xsub1 xab1 xcol1 xdd1 xm01 xm11 xm21 xm31 xm51 "ValueError.__new__"))
  (ec1 : PySem.W.findIn K (.ref xC1) "__setattr__" = some (some (.builtin "object.__setattr__"))) (ed1 : PySem.W.findIn K (.ref xC1) "__getattribute__" = some (some (.builtin "BaseException.__getattribute__"))) (ee1 : PySem.W.findIn K (.ref xC1) "__getattr__" = some none)
  (ef1 : PySem.W.findIn K (.ref xC1) "__init__" = some (some (.ref xI1))) (eg1 : PySem.W.typeIn K (.ref xI1) = some (.type "function"))
  (eh1 : K.lookup xI1 = some ⟨xoc1,xod1,.func (PySem.W.fnOf "__init__" "Clash.__init__" (defArgs s_i_Clash) (defBody s_i_Clash) (defScope s_i_Clash) .none xkV1 xdc1 xpm1 xan1 xcd1 xct1),xsl1⟩) (ei1 : PySem.W.codeIn K xcd1 "Clash.__init__" = true) (ej1 : PySem.W.keepIn K (.ref xI1) = true)
  (ek1 : PySem.W.keepIn K (.ref xC1) = true) (el1 : PySem.W.subIn K (.ref xC1) (.type "BaseException") = some true) (em1 : PySem.W.typeIn K (.ref xC1) = some (.type "type")) (en1 : PySem.W.hasDictIn K xC1 = true) (eo1 : PySem.W.isClsIn K xC1 = true)
  (ep1_0 : PySem.W.findIn K (.ref xC1) "first" = some none)
  (ep1_1 : PySem.W.findIn K (.ref xC1) "second" = some none)
  {yC0 yI0 : Addr} {yod0 yan0 : Option Addr} {ysl0 : Array (Option Value)} {yoc0 ykV0 ydc0 ypm0 ycd0 yct0 : Value}
  (oa0 : PySem.W.nsIn K mainGlobals "Gaps" = some (some (.ref yC0))) (ob0 : PySem.W.findIn K (.ref yC0) "__init__" = some (some (.ref yI0))) (oc0_ : PySem.W.isFn K (.ref yI0) = true) (od0_ : K.lookup yI0 = some ⟨yoc0,yod0,.func (PySem.W.fnOf "__init__" "Gaps.__init__" (defArgs s_i_Gaps) (defBody s_i_Gaps) (defScope s_i_Gaps) .none ykV0 ydc0 ypm0 yan0 ycd0 yct0),ysl0⟩) (oe0 : PySem.W.codeIn K ycd0 "Gaps.__init__" = true) (of0 : PySem.W.keepIn K (.ref yI0) = true)
  (og0 : PySem.W.plainGet K yC0 Str.empty = true) (oh0 : PySem.W.hasDictIn K yC0 = true) (oi0 : PySem.W.plainOver K yC0 = true) (oj0 : PySem.W.findIn K (.ref yC0) "__setattr__" = some (some (.builtin "object.__setattr__"))) (ok0 : PySem.W.makesIn K yC0 = true) (ol0 : PySem.W.keepIn K (.ref yC0) = true)
  (on0_0 : PySem.W.findIn K (.ref yC0) "town" = some none)
  (on0_1 : PySem.W.findIn K (.ref yC0) "ask_rows" = some none)
  (on0_2 : PySem.W.findIn K (.ref yC0) "job_rows" = some none)
  (on0_3 : PySem.W.findIn K (.ref yC0) "all_rows" = some none)
  (on0_4 : PySem.W.findIn K (.ref yC0) "asks" = some none)
  (on0_5 : PySem.W.findIn K (.ref yC0) "jobs" = some none)
  (on0_6 : PySem.W.findIn K (.ref yC0) "ask_spans" = some none)
  (on0_7 : PySem.W.findIn K (.ref yC0) "job_spans" = some none)
  (on0_8 : PySem.W.findIn K (.ref yC0) "more_times" = some none)
  (es0 : PySem.W.subIn K (.ref xC0) (.ref xC0) = some true)
  (es1 : PySem.W.subIn K (.ref xC0) (.ref xC1) = some false)
  (es2 : PySem.W.subIn K (.ref xC1) (.ref xC0) = some false)
  (es3 : PySem.W.subIn K (.ref xC1) (.ref xC1) = some true)
  (z0 : PySem.W.nsIn K mainGlobals "bool" = some none)
  (z1 : PySem.W.nsIn K mainGlobals "dict" = some none)
  (z2 : PySem.W.nsIn K mainGlobals "enumerate" = some none)
  (z3 : PySem.W.nsIn K mainGlobals "int" = some none)
  (z4 : PySem.W.nsIn K mainGlobals "isinstance" = some none)
  (z5 : PySem.W.nsIn K mainGlobals "len" = some none)
  (z6 : PySem.W.nsIn K mainGlobals "list" = some none)
  (z7 : PySem.W.nsIn K mainGlobals "max" = some none)
  (z8 : PySem.W.nsIn K mainGlobals "min" = some none)
  (z9 : PySem.W.nsIn K mainGlobals "range" = some none)
  (z10 : PySem.W.nsIn K mainGlobals "set" = some none)
  (z11 : PySem.W.nsIn K mainGlobals "sorted" = some none)
  (z12 : PySem.W.nsIn K mainGlobals "str" = some none)
  (z13 : PySem.W.nsIn K mainGlobals "tuple" = some none)
  (z14 : PySem.W.nsIn K mainGlobals "zip" = some none)
  {w0 : _} (q0 : PySem.W.nsIn K mainGlobals "MOST_COUNT" = some (some (.int (15)  w0)))
  {w1 : _} (q1 : PySem.W.nsIn K mainGlobals "MOST_NUMBER" = some (some (.int (14)  w1)))
  {w2 : _} (q2 : PySem.W.nsIn K mainGlobals "MOST_TIME" = some (some (.int (1000000000000)  w2)))
  : ∃ fd : FuncData,(∀ (s : Shared) (v : Value),BindsTo s fd ⟨[v],[]⟩ [("script", v)])∧∀ base : Heap,K.In base→base.Ns mainGlobals mg→FnOk l.prog w K mg base CX0 26 fa fd ["script"] (sp_law K):=by
 have e:=hfa.symm.trans (PySem.W.mg_of X G a57)
 cases e
 have F0:=fun_mk (st:=s_is_whole_from) l0 c0 k0
 have b0:=F0.binds (ps:=["thing", "low", "high"]) fun _ _ _ _ _ _ us hl=>match us,hl with | [_,_,_],_=>rfl
 have F1:=fun_mk (st:=s_is_time) l1 c1 k1
 have b1:=F1.binds (ps:=["thing"]) fun _ _ _ _ _ _ us hl=>match us,hl with | [_],_=>rfl
 have F2:=fun_mk (st:=s_is_number) l2 c2 k2
 have b2:=F2.binds (ps:=["thing"]) fun _ _ _ _ _ _ us hl=>match us,hl with | [_],_=>rfl
 have F3:=fun_mk (st:=s_is_count) l3 c3 k3
 have b3:=F3.binds (ps:=["thing"]) fun _ _ _ _ _ _ us hl=>match us,hl with | [_],_=>rfl
 have F4:=fun_mk (st:=s_is_span) l4 c4 k4
 have b4:=F4.binds (ps:=["low", "high"]) fun _ _ _ _ _ _ us hl=>match us,hl with | [_,_],_=>rfl
 have F5:=fun_mk (st:=s_is_ask_row) l5 c5 k5
 have b5:=F5.binds (ps:=["houses", "thing"]) fun _ _ _ _ _ _ us hl=>match us,hl with | [_,_],_=>rfl
 have F6:=fun_mk (st:=s_is_job_row) l6 c6 k6
 have b6:=F6.binds (ps:=["houses", "thing"]) fun _ _ _ _ _ _ us hl=>match us,hl with | [_,_],_=>rfl
 have F7:=fun_mk (st:=s_is_all_row) l7 c7 k7
 have b7:=F7.binds (ps:=["houses", "thing"]) fun _ _ _ _ _ _ us hl=>match us,hl with | [_,_],_=>rfl
 have F8:=fun_mk (st:=s_is_row) l8 c8 k8
 have b8:=F8.binds (ps:=["town", "thing"]) fun _ _ _ _ _ _ us hl=>match us,hl with | [_,_],_=>rfl
 have F9:=fun_mk (st:=s_is_out_of_order) l9 c9 k9
 have b9:=F9.binds (ps:=["number", "time", "other_number", "other_time"]) fun _ _ _ _ _ _ us hl=>match us,hl with | [_,_,_,_],_=>rfl
 have F10:=fun_mk (st:=s_do_asks_clash) l10 c10 k10
 have b10:=F10.binds (ps:=["one", "other"]) fun _ _ _ _ _ _ us hl=>match us,hl with | [_,_],_=>rfl
 have F11:=fun_mk (st:=s_do_jobs_clash) l11 c11 k11
 have b11:=F11.binds (ps:=["one", "other"]) fun _ _ _ _ _ _ us hl=>match us,hl with | [_,_],_=>rfl
 have F12:=fun_mk (st:=s_do_job_and_ask_clash) l12 c12 k12
 have b12:=F12.binds (ps:=["job", "ask"]) fun _ _ _ _ _ _ us hl=>match us,hl with | [_,_],_=>rfl
 have F13:=fun_mk (st:=s_does_all_row_clash) l13 c13 k13
 have b13:=F13.binds (ps:=["all_row", "other"]) fun _ _ _ _ _ _ us hl=>match us,hl with | [_,_],_=>rfl
 have F14:=fun_mk (st:=s_do_alike_sorts_clash) l14 c14 k14
 have b14:=F14.binds (ps:=["one", "other"]) fun _ _ _ _ _ _ us hl=>match us,hl with | [_,_],_=>rfl
 have F15:=fun_mk (st:=s_do_clash) l15 c15 k15
 have b15:=F15.binds (ps:=["one", "other"]) fun _ _ _ _ _ _ us hl=>match us,hl with | [_,_],_=>rfl
 have F16:=fun_mk (st:=s_need_rows) l16 c16 k16
 have b16:=F16.binds (ps:=["town", "rows"]) fun _ _ _ _ _ _ us hl=>match us,hl with | [_,_],_=>rfl
 have F17:=fun_mk (st:=s_need_book) l17 c17 k17
 have b17:=F17.binds (ps:=["town", "rows"]) fun _ _ _ _ _ _ us hl=>match us,hl with | [_,_],_=>rfl
 have F18:=fun_mk (st:=s_gaps_of) l18 c18 k18
 have b18:=F18.binds (ps:=["town", "rows"]) fun _ _ _ _ _ _ us hl=>match us,hl with | [_,_],_=>rfl
 have F19:=fun_mk (st:=s_rows_by_number) l19 c19 k19
 have b19:=F19.binds (ps:=["rows", "word"]) fun _ _ _ _ _ _ us hl=>match us,hl with | [_,_],_=>rfl
 have F20:=fun_mk (st:=s_numbers_below) l20 c20 k20
 have b20:=F20.binds (ps:=["town", "counts"]) fun _ _ _ _ _ _ us hl=>match us,hl with | [_,_],_=>rfl
 have F21:=fun_mk (st:=s_asks_of_house) l21 c21 k21
 have b21:=F21.binds (ps:=["gaps", "house"]) fun _ _ _ _ _ _ us hl=>match us,hl with | [_,_],_=>rfl
 have F22:=fun_mk (st:=s_jobs_of_house) l22 c22 k22
 have b22:=F22.binds (ps:=["gaps", "house"]) fun _ _ _ _ _ _ us hl=>match us,hl with | [_,_],_=>rfl
 have F23:=fun_mk (st:=s_count_asks) l23 c23 k23
 have b23:=F23.binds (ps:=["gaps", "house"]) fun _ _ _ _ _ _ us hl=>match us,hl with | [_,_],_=>rfl
 have F24:=fun_mk (st:=s_count_jobs) l24 c24 k24
 have b24:=F24.binds (ps:=["gaps", "house"]) fun _ _ _ _ _ _ us hl=>match us,hl with | [_,_],_=>rfl
 have F25:=fun_mk (st:=s_earliest) l25 c25 k25
 have b25:=F25.binds (ps:=["times"]) fun _ _ _ _ _ _ us hl=>match us,hl with | [_],_=>rfl
 have F26:=fun_mk (st:=s_latest) l26 c26 k26
 have b26:=F26.binds (ps:=["times"]) fun _ _ _ _ _ _ us hl=>match us,hl with | [_],_=>rfl
 have F27:=fun_mk (st:=s_span_of_ask) l27 c27 k27
 have b27:=F27.binds (ps:=["gaps", "ask"]) fun _ _ _ _ _ _ us hl=>match us,hl with | [_,_],_=>rfl
 have F28:=fun_mk (st:=s_span_of_job) l28 c28 k28
 have b28:=F28.binds (ps:=["gaps", "job"]) fun _ _ _ _ _ _ us hl=>match us,hl with | [_,_],_=>rfl
 have F29:=fun_mk (st:=s_more_of) l29 c29 k29
 have b29:=F29.binds (ps:=["gaps", "house"]) fun _ _ _ _ _ _ us hl=>match us,hl with | [_,_],_=>rfl
 have F30:=fun_mk (st:=s_made_in) l30 c30 k30
 have b30:=F30.binds (ps:=["gaps", "ask"]) fun _ _ _ _ _ _ us hl=>match us,hl with | [_,_],_=>rfl
 have F31:=fun_mk (st:=s_jobs_of_trees) l31 c31 k31
 have b31:=F31.binds (ps:=["gaps"]) fun _ _ _ _ _ _ us hl=>match us,hl with | [_],_=>rfl
 have F32:=fun_mk (st:=s_uppers_of) l32 c32 k32
 have b32:=F32.binds (ps:=["gaps", "telling"]) fun _ _ _ _ _ _ us hl=>match us,hl with | [_,_],_=>rfl
 have F33:=fun_mk (st:=s_all_uppers) l33 c33 k33
 have b33:=F33.binds (ps:=["uppers", "job"]) fun _ _ _ _ _ _ us hl=>match us,hl with | [_,_],_=>rfl
 have F34:=fun_mk (st:=s_forest) l34 c34 k34
 have b34:=F34.binds (ps:=["town", "rows", "telling"]) fun _ _ _ _ _ _ us hl=>match us,hl with | [_,_,_],_=>rfl
 have F35:=fun_mk (st:=s_l_spread) l35 c35 k35
 have b35:=F35.binds (ps:=["cell", "at"]) fun _ _ _ _ _ _ us hl=>match us,hl with | [_,_],_=>rfl
 have F36:=fun_mk (st:=s_l_open) l36 c36 k36
 have b36:=F36.binds (ps:=["script"]) fun _ _ _ _ _ _ us hl=>match us,hl with | [_],_=>rfl
 have F37:=fun_mk (st:=s_l_anew) l37 c37 k37
 have b37:=F37.binds (ps:=["pen"]) fun _ _ _ _ _ _ us hl=>match us,hl with | [_],_=>rfl
 have F38:=fun_mk (st:=s_l_take) l38 c38 k38
 have b38:=F38.binds (ps:=["pen", "many"]) fun _ _ _ _ _ _ us hl=>match us,hl with | [_,_],_=>rfl
 have F39:=fun_mk (st:=s_l_names) l39 c39 k39
 have b39:=F39.binds (ps:=["pen", "many"]) fun _ _ _ _ _ _ us hl=>match us,hl with | [_,_],_=>rfl
 have F40:=fun_mk (st:=s_l_town) l40 c40 k40
 have b40:=F40.binds (ps:=["pen", "most"]) fun _ _ _ _ _ _ us hl=>match us,hl with | [_,_],_=>rfl
 have F41:=fun_mk (st:=s_l_room) l41 c41 k41
 have b41:=F41.binds (ps:=["world", "house", "goal"]) fun _ _ _ _ _ _ us hl=>match us,hl with | [_,_,_],_=>rfl
 have F42:=fun_mk (st:=s_l_job) l42 c42 k42
 have b42:=F42.binds (ps:=["pen", "world", "town", "house", "start", "deep"]) fun _ _ _ _ _ _ us hl=>match us,hl with | [_,_,_,_,_,_],_=>rfl
 have F43:=fun_mk (st:=s_l_world) l43 c43 k43
 have b43:=F43.binds (ps:=["pen", "town", "tops", "deep", "most", "stray"]) fun _ _ _ _ _ _ us hl=>match us,hl with | [_,_,_,_,_,_],_=>rfl
 have F44:=fun_mk (st:=s_l_called) l44 c44 k44
 have b44:=F44.binds (ps:=["town", "world"]) fun _ _ _ _ _ _ us hl=>match us,hl with | [_,_],_=>rfl
 have F45:=fun_mk (st:=s_l_bases) l45 c45 k45
 have b45:=F45.binds (ps:=["pen", "town", "many"]) fun _ _ _ _ _ _ us hl=>match us,hl with | [_,_,_],_=>rfl
 have F46:=fun_mk (st:=s_l_all_rows) l46 c46 k46
 have b46:=F46.binds (ps:=["town", "world", "bases"]) fun _ _ _ _ _ _ us hl=>match us,hl with | [_,_,_],_=>rfl
 have F47:=fun_mk (st:=s_l_left) l47 c47 k47
 have b47:=F47.binds (ps:=["pen", "rows", "fewer"]) fun _ _ _ _ _ _ us hl=>match us,hl with | [_,_,_],_=>rfl
 have F48:=fun_mk (st:=s_l_true_pairs) l48 c48 k48
 have b48:=F48.binds (ps:=["town", "world", "rows"]) fun _ _ _ _ _ _ us hl=>match us,hl with | [_,_,_],_=>rfl
 have F49:=fun_mk (st:=s_l_gated) l49 c49 k49
 have b49:=F49.binds (ps:=["pen", "most"]) fun _ _ _ _ _ _ us hl=>match us,hl with | [_,_],_=>rfl
 have F50:=fun_mk (st:=s_l_tree_book) l50 c50 k50
 have b50:=F50.binds (ps:=["pen", "houses", "most", "fewer"]) fun _ _ _ _ _ _ us hl=>match us,hl with | [_,_,_,_],_=>rfl
 have F51:=fun_mk (st:=s_l_known) l51 c51 k51
 have b51:=F51.binds (ps:=["rows", "word", "house"]) fun _ _ _ _ _ _ us hl=>match us,hl with | [_,_,_],_=>rfl
 have F52:=fun_mk (st:=s_l_above) l52 c52 k52
 have b52:=F52.binds (ps:=["rows", "telling", "job"]) fun _ _ _ _ _ _ us hl=>match us,hl with | [_,_,_],_=>rfl
 have F53:=fun_mk (st:=s_l_tree_jobs) l53 c53 k53
 have b53:=F53.binds (ps:=["rows"]) fun _ _ _ _ _ _ us hl=>match us,hl with | [_],_=>rfl
 have F54:=fun_mk (st:=s_l_same) l54 c54 k54
 have b54:=F54.binds (ps:=["found", "due"]) fun _ _ _ _ _ _ us hl=>match us,hl with | [_,_],_=>rfl
 have F55:=fun_mk (st:=s_l_grown) l55 c55 k55
 have b55:=F55.binds (ps:=["rows", "telling", "jobs", "top", "deep"]) fun _ _ _ _ _ _ us hl=>match us,hl with | [_,_,_,_,_],_=>rfl
 have F56:=fun_mk (st:=s_l_chain) l56 c56 k56
 have b56:=F56.binds (ps:=["pen"]) fun _ _ _ _ _ _ us hl=>match us,hl with | [_],_=>rfl
 have F57:=fun_mk (st:=s_law) l57 c57 k57
 have b57:=F57.binds (ps:=["script"]) fun _ _ _ _ _ _ us hl=>match us,hl with | [_],_=>rfl
 have FX0:=fun_mk (st:=s_i_NoRow) eh0 ei0 ej0
 have bX0:=FX0.binds (ps:=["self", "number"]) fun _ _ _ _ _ _ us hl=>match us,hl with | [_,_],_=>rfl
 have FX1:=fun_mk (st:=s_i_Clash) eh1 ei1 ej1
 have bX1:=FX1.binds (ps:=["self", "first", "second"]) fun _ _ _ _ _ _ us hl=>match us,hl with | [_,_,_],_=>rfl
 have FY0:=fun_mk (st:=s_i_Gaps) od0_ oe0 of0
 have bY0:=FY0.binds (ps:=["self", "town", "rows"]) fun _ _ _ _ _ _ us hl=>match us,hl with | [_,_,_],_=>rfl
 let af : Nat→Addr:=fun i=>match i with | 0=>f0 | 1=>f1 | 2=>f2 | 3=>f3 | 4=>f4 | 5=>f5 | 6=>f6 | 7=>f7 | 8=>f8 | 9=>f9 | 10=>f10 | 11=>f11 | 12=>f12 | 13=>f13 | 14=>f14 | 15=>f15 | 16=>f16 | 17=>f17 | 18=>f18 | 19=>f19 | 20=>f20 | 21=>f21 | 22=>f22 | 23=>f23 | 24=>f24 | 25=>f25 | 26=>f26 | 27=>f27 | 28=>f28 | 29=>f29 | 30=>f30 | 31=>f31 | 32=>f32 | 33=>f33 | 34=>f34 | 35=>f35 | 36=>f36 | 37=>f37 | 38=>f38 | 39=>f39 | 40=>f40 | 41=>f41 | 42=>f42 | 43=>f43 | 44=>f44 | 45=>f45 | 46=>f46 | 47=>f47 | 48=>f48 | 49=>f49 | 50=>f50 | 51=>f51 | 52=>f52 | 53=>f53 | 54=>f54 | 55=>f55 | 56=>f56 | 57=>fa | 58=>xC0 | 59=>xI0 | 60=>xC1 | 61=>xI1 | 62=>yC0 | 63=>yI0 | _=>f0
 let fd : Nat→FuncData:=fun i=>match i with | 0=>PySem.W.fnOf "is_whole_from" "is_whole_from" (defArgs s_is_whole_from) (defBody s_is_whole_from) (defScope s_is_whole_from) .none kV0 dc0 pm0 an0 cd0 ct0 | 1=>PySem.W.fnOf "is_time" "is_time" (defArgs s_is_time) (defBody s_is_time) (defScope s_is_time) .none kV1 dc1 pm1 an1 cd1 ct1 | 2=>PySem.W.fnOf "is_number" "is_number" (defArgs s_is_number) (defBody s_is_number) (defScope s_is_number) .none kV2 dc2 pm2 an2 cd2 ct2 | 3=>PySem.W.fnOf "is_count" "is_count" (defArgs s_is_count) (defBody s_is_count) (defScope s_is_count) .none kV3 dc3 pm3 an3 cd3 ct3 | 4=>PySem.W.fnOf "is_span" "is_span" (defArgs s_is_span) (defBody s_is_span) (defScope s_is_span) .none kV4 dc4 pm4 an4 cd4 ct4 | 5=>PySem.W.fnOf "is_ask_row" "is_ask_row" (defArgs s_is_ask_row) (defBody s_is_ask_row) (defScope s_is_ask_row) .none kV5 dc5 pm5 an5 cd5 ct5 | 6=>PySem.W.fnOf "is_job_row" "is_job_row" (defArgs s_is_job_row) (defBody s_is_job_row) (defScope s_is_job_row) .none kV6 dc6 pm6 an6 cd6 ct6 | 7=>PySem.W.fnOf "is_all_row" "is_all_row" (defArgs s_is_all_row) (defBody s_is_all_row) (defScope s_is_all_row) .none kV7 dc7 pm7 an7 cd7 ct7 | 8=>PySem.W.fnOf "is_row" "is_row" (defArgs s_is_row) (defBody s_is_row) (defScope s_is_row) .none kV8 dc8 pm8 an8 cd8 ct8 | 9=>PySem.W.fnOf "is_out_of_order" "is_out_of_order" (defArgs s_is_out_of_order) (defBody s_is_out_of_order) (defScope s_is_out_of_order) .none kV9 dc9 pm9 an9 cd9 ct9 | 10=>PySem.W.fnOf "do_asks_clash" "do_asks_clash" (defArgs s_do_asks_clash) (defBody s_do_asks_clash) (defScope s_do_asks_clash) .none kV10 dc10 pm10 an10 cd10 ct10 | 11=>PySem.W.fnOf "do_jobs_clash" "do_jobs_clash" (defArgs s_do_jobs_clash) (defBody s_do_jobs_clash) (defScope s_do_jobs_clash) .none kV11 dc11 pm11 an11 cd11 ct11 | 12=>PySem.W.fnOf "do_job_and_ask_clash" "do_job_and_ask_clash" (defArgs s_do_job_and_ask_clash) (defBody s_do_job_and_ask_clash) (defScope s_do_job_and_ask_clash) .none kV12 dc12 pm12 an12 cd12 ct12 | 13=>PySem.W.fnOf "does_all_row_clash" "does_all_row_clash" (defArgs s_does_all_row_clash) (defBody s_does_all_row_clash) (defScope s_does_all_row_clash) .none kV13 dc13 pm13 an13 cd13 ct13 | 14=>PySem.W.fnOf "do_alike_sorts_clash" "do_alike_sorts_clash" (defArgs s_do_alike_sorts_clash) (defBody s_do_alike_sorts_clash) (defScope s_do_alike_sorts_clash) .none kV14 dc14 pm14 an14 cd14 ct14 | 15=>PySem.W.fnOf "do_clash" "do_clash" (defArgs s_do_clash) (defBody s_do_clash) (defScope s_do_clash) .none kV15 dc15 pm15 an15 cd15 ct15 | 16=>PySem.W.fnOf "need_rows" "need_rows" (defArgs s_need_rows) (defBody s_need_rows) (defScope s_need_rows) .none kV16 dc16 pm16 an16 cd16 ct16 | 17=>PySem.W.fnOf "need_book" "need_book" (defArgs s_need_book) (defBody s_need_book) (defScope s_need_book) .none kV17 dc17 pm17 an17 cd17 ct17 | 18=>PySem.W.fnOf "gaps_of" "gaps_of" (defArgs s_gaps_of) (defBody s_gaps_of) (defScope s_gaps_of) .none kV18 dc18 pm18 an18 cd18 ct18 | 19=>PySem.W.fnOf "rows_by_number" "rows_by_number" (defArgs s_rows_by_number) (defBody s_rows_by_number) (defScope s_rows_by_number) .none kV19 dc19 pm19 an19 cd19 ct19 | 20=>PySem.W.fnOf "numbers_below" "numbers_below" (defArgs s_numbers_below) (defBody s_numbers_below) (defScope s_numbers_below) .none kV20 dc20 pm20 an20 cd20 ct20 | 21=>PySem.W.fnOf "asks_of_house" "asks_of_house" (defArgs s_asks_of_house) (defBody s_asks_of_house) (defScope s_asks_of_house) .none kV21 dc21 pm21 an21 cd21 ct21 | 22=>PySem.W.fnOf "jobs_of_house" "jobs_of_house" (defArgs s_jobs_of_house) (defBody s_jobs_of_house) (defScope s_jobs_of_house) .none kV22 dc22 pm22 an22 cd22 ct22 | 23=>PySem.W.fnOf "count_asks" "count_asks" (defArgs s_count_asks) (defBody s_count_asks) (defScope s_count_asks) .none kV23 dc23 pm23 an23 cd23 ct23 | 24=>PySem.W.fnOf "count_jobs" "count_jobs" (defArgs s_count_jobs) (defBody s_count_jobs) (defScope s_count_jobs) .none kV24 dc24 pm24 an24 cd24 ct24 | 25=>PySem.W.fnOf "earliest" "earliest" (defArgs s_earliest) (defBody s_earliest) (defScope s_earliest) .none kV25 dc25 pm25 an25 cd25 ct25 | 26=>PySem.W.fnOf "latest" "latest" (defArgs s_latest) (defBody s_latest) (defScope s_latest) .none kV26 dc26 pm26 an26 cd26 ct26 | 27=>PySem.W.fnOf "span_of_ask" "span_of_ask" (defArgs s_span_of_ask) (defBody s_span_of_ask) (defScope s_span_of_ask) .none kV27 dc27 pm27 an27 cd27 ct27 | 28=>PySem.W.fnOf "span_of_job" "span_of_job" (defArgs s_span_of_job) (defBody s_span_of_job) (defScope s_span_of_job) .none kV28 dc28 pm28 an28 cd28 ct28 | 29=>PySem.W.fnOf "more_of" "more_of" (defArgs s_more_of) (defBody s_more_of) (defScope s_more_of) .none kV29 dc29 pm29 an29 cd29 ct29 | 30=>PySem.W.fnOf "made_in" "made_in" (defArgs s_made_in) (defBody s_made_in) (defScope s_made_in) .none kV30 dc30 pm30 an30 cd30 ct30 | 31=>PySem.W.fnOf "jobs_of_trees" "jobs_of_trees" (defArgs s_jobs_of_trees) (defBody s_jobs_of_trees) (defScope s_jobs_of_trees) .none kV31 dc31 pm31 an31 cd31 ct31 | 32=>PySem.W.fnOf "uppers_of" "uppers_of" (defArgs s_uppers_of) (defBody s_uppers_of) (defScope s_uppers_of) .none kV32 dc32 pm32 an32 cd32 ct32 | 33=>PySem.W.fnOf "all_uppers" "all_uppers" (defArgs s_all_uppers) (defBody s_all_uppers) (defScope s_all_uppers) .none kV33 dc33 pm33 an33 cd33 ct33 | 34=>PySem.W.fnOf "forest" "forest" (defArgs s_forest) (defBody s_forest) (defScope s_forest) .none kV34 dc34 pm34 an34 cd34 ct34 | 35=>PySem.W.fnOf "_law_spread" "_law_spread" (defArgs s_l_spread) (defBody s_l_spread) (defScope s_l_spread) .none kV35 dc35 pm35 an35 cd35 ct35 | 36=>PySem.W.fnOf "_law_open" "_law_open" (defArgs s_l_open) (defBody s_l_open) (defScope s_l_open) .none kV36 dc36 pm36 an36 cd36 ct36 | 37=>PySem.W.fnOf "_law_anew" "_law_anew" (defArgs s_l_anew) (defBody s_l_anew) (defScope s_l_anew) .none kV37 dc37 pm37 an37 cd37 ct37 | 38=>PySem.W.fnOf "_law_take" "_law_take" (defArgs s_l_take) (defBody s_l_take) (defScope s_l_take) .none kV38 dc38 pm38 an38 cd38 ct38 | 39=>PySem.W.fnOf "_law_names" "_law_names" (defArgs s_l_names) (defBody s_l_names) (defScope s_l_names) .none kV39 dc39 pm39 an39 cd39 ct39 | 40=>PySem.W.fnOf "_law_town" "_law_town" (defArgs s_l_town) (defBody s_l_town) (defScope s_l_town) .none kV40 dc40 pm40 an40 cd40 ct40 | 41=>PySem.W.fnOf "_law_room" "_law_room" (defArgs s_l_room) (defBody s_l_room) (defScope s_l_room) .none kV41 dc41 pm41 an41 cd41 ct41 | 42=>PySem.W.fnOf "_law_job" "_law_job" (defArgs s_l_job) (defBody s_l_job) (defScope s_l_job) .none kV42 dc42 pm42 an42 cd42 ct42 | 43=>PySem.W.fnOf "_law_world" "_law_world" (defArgs s_l_world) (defBody s_l_world) (defScope s_l_world) .none kV43 dc43 pm43 an43 cd43 ct43 | 44=>PySem.W.fnOf "_law_called" "_law_called" (defArgs s_l_called) (defBody s_l_called) (defScope s_l_called) .none kV44 dc44 pm44 an44 cd44 ct44 | 45=>PySem.W.fnOf "_law_bases" "_law_bases" (defArgs s_l_bases) (defBody s_l_bases) (defScope s_l_bases) .none kV45 dc45 pm45 an45 cd45 ct45 | 46=>PySem.W.fnOf "_law_all_rows" "_law_all_rows" (defArgs s_l_all_rows) (defBody s_l_all_rows) (defScope s_l_all_rows) .none kV46 dc46 pm46 an46 cd46 ct46 | 47=>PySem.W.fnOf "_law_left" "_law_left" (defArgs s_l_left) (defBody s_l_left) (defScope s_l_left) .none kV47 dc47 pm47 an47 cd47 ct47 | 48=>PySem.W.fnOf "_law_true_pairs" "_law_true_pairs" (defArgs s_l_true_pairs) (defBody s_l_true_pairs) (defScope s_l_true_pairs) .none kV48 dc48 pm48 an48 cd48 ct48 | 49=>PySem.W.fnOf "_law_gated" "_law_gated" (defArgs s_l_gated) (defBody s_l_gated) (defScope s_l_gated) .none kV49 dc49 pm49 an49 cd49 ct49 | 50=>PySem.W.fnOf "_law_tree_book" "_law_tree_book" (defArgs s_l_tree_book) (defBody s_l_tree_book) (defScope s_l_tree_book) .none kV50 dc50 pm50 an50 cd50 ct50 | 51=>PySem.W.fnOf "_law_known" "_law_known" (defArgs s_l_known) (defBody s_l_known) (defScope s_l_known) .none kV51 dc51 pm51 an51 cd51 ct51 | 52=>PySem.W.fnOf "_law_above" "_law_above" (defArgs s_l_above) (defBody s_l_above) (defScope s_l_above) .none kV52 dc52 pm52 an52 cd52 ct52 | 53=>PySem.W.fnOf "_law_tree_jobs" "_law_tree_jobs" (defArgs s_l_tree_jobs) (defBody s_l_tree_jobs) (defScope s_l_tree_jobs) .none kV53 dc53 pm53 an53 cd53 ct53 | 54=>PySem.W.fnOf "_law_same" "_law_same" (defArgs s_l_same) (defBody s_l_same) (defScope s_l_same) .none kV54 dc54 pm54 an54 cd54 ct54 | 55=>PySem.W.fnOf "_law_grown" "_law_grown" (defArgs s_l_grown) (defBody s_l_grown) (defScope s_l_grown) .none kV55 dc55 pm55 an55 cd55 ct55 | 56=>PySem.W.fnOf "_law_chain" "_law_chain" (defArgs s_l_chain) (defBody s_l_chain) (defScope s_l_chain) .none kV56 dc56 pm56 an56 cd56 ct56 | 57=>PySem.W.fnOf "law" "law" (defArgs s_law) (defBody s_law) (defScope s_law) .none kV57 dc57 pm57 an57 cd57 ct57 | 59=>PySem.W.fnOf "__init__" "NoRow.__init__" (defArgs s_i_NoRow) (defBody s_i_NoRow) (defScope s_i_NoRow) .none xkV0 xdc0 xpm0 xan0 xcd0 xct0 | 61=>PySem.W.fnOf "__init__" "Clash.__init__" (defArgs s_i_Clash) (defBody s_i_Clash) (defScope s_i_Clash) .none xkV1 xdc1 xpm1 xan1 xcd1 xct1 | 63=>PySem.W.fnOf "__init__" "Gaps.__init__" (defArgs s_i_Gaps) (defBody s_i_Gaps) (defScope s_i_Gaps) .none ykV0 ydc0 ypm0 yan0 ycd0 yct0 | _=>PySem.W.fnOf "law" "law" (defArgs s_law) (defBody s_law) (defScope s_law) .none kV57 dc57 pm57 an57 cd57 ct57
 have T : Txt K mg af fd:={ g_is_whole_from:=PySem.W.mg_of X G a0,F_is_whole_from:=F0,b_is_whole_from:=b0,g_is_time:=PySem.W.mg_of X G a1,F_is_time:=F1,b_is_time:=b1,g_is_number:=PySem.W.mg_of X G a2,F_is_number:=F2,b_is_number:=b2,g_is_count:=PySem.W.mg_of X G a3,F_is_count:=F3,b_is_count:=b3,g_is_span:=PySem.W.mg_of X G a4,F_is_span:=F4,b_is_span:=b4,g_is_ask_row:=PySem.W.mg_of X G a5,F_is_ask_row:=F5,b_is_ask_row:=b5,g_is_job_row:=PySem.W.mg_of X G a6,F_is_job_row:=F6,b_is_job_row:=b6,g_is_all_row:=PySem.W.mg_of X G a7,F_is_all_row:=F7,b_is_all_row:=b7,g_is_row:=PySem.W.mg_of X G a8,F_is_row:=F8,b_is_row:=b8,g_is_out_of_order:=PySem.W.mg_of X G a9,F_is_out_of_order:=F9,b_is_out_of_order:=b9,g_do_asks_clash:=PySem.W.mg_of X G a10,F_do_asks_clash:=F10,b_do_asks_clash:=b10,g_do_jobs_clash:=PySem.W.mg_of X G a11,F_do_jobs_clash:=F11,b_do_jobs_clash:=b11,g_do_job_and_ask_clash:=PySem.W.mg_of X G a12,F_do_job_and_ask_clash:=F12,b_do_job_and_ask_clash:=b12,g_does_all_row_clash:=PySem.W.mg_of X G a13,F_does_all_row_clash:=F13,b_does_all_row_clash:=b13,g_do_alike_sorts_clash:=PySem.W.mg_of X G a14,F_do_alike_sorts_clash:=F14,b_do_alike_sorts_clash:=b14,g_do_clash:=PySem.W.mg_of X G a15,F_do_clash:=F15,b_do_clash:=b15,g_need_rows:=PySem.W.mg_of X G a16,F_need_rows:=F16,b_need_rows:=b16,g_need_book:=PySem.W.mg_of X G a17,F_need_book:=F17,b_need_book:=b17,g_gaps_of:=PySem.W.mg_of X G a18,F_gaps_of:=F18,b_gaps_of:=b18,g_rows_by_number:=PySem.W.mg_of X G a19,F_rows_by_number:=F19,b_rows_by_number:=b19,g_numbers_below:=PySem.W.mg_of X G a20,F_numbers_below:=F20,b_numbers_below:=b20,g_asks_of_house:=PySem.W.mg_of X G a21,F_asks_of_house:=F21,b_asks_of_house:=b21,g_jobs_of_house:=PySem.W.mg_of X G a22,F_jobs_of_house:=F22,b_jobs_of_house:=b22,g_count_asks:=PySem.W.mg_of X G a23,F_count_asks:=F23,b_count_asks:=b23,g_count_jobs:=PySem.W.mg_of X G a24,F_count_jobs:=F24,b_count_jobs:=b24,g_earliest:=PySem.W.mg_of X G a25,F_earliest:=F25,b_earliest:=b25,g_latest:=PySem.W.mg_of X G a26,F_latest:=F26,b_latest:=b26,g_span_of_ask:=PySem.W.mg_of X G a27,F_span_of_ask:=F27,b_span_of_ask:=b27,g_span_of_job:=PySem.W.mg_of X G a28,F_span_of_job:=F28,b_span_of_job:=b28,g_more_of:=PySem.W.mg_of X G a29,F_more_of:=F29,b_more_of:=b29,g_made_in:=PySem.W.mg_of X G a30,F_made_in:=F30,b_made_in:=b30,g_jobs_of_trees:=PySem.W.mg_of X G a31,F_jobs_of_trees:=F31,b_jobs_of_trees:=b31,g_uppers_of:=PySem.W.mg_of X G a32,F_uppers_of:=F32,b_uppers_of:=b32,g_all_uppers:=PySem.W.mg_of X G a33,F_all_uppers:=F33,b_all_uppers:=b33,g_forest:=PySem.W.mg_of X G a34,F_forest:=F34,b_forest:=b34,g_l_spread:=PySem.W.mg_of X G a35,F_l_spread:=F35,b_l_spread:=b35,g_l_open:=PySem.W.mg_of X G a36,F_l_open:=F36,b_l_open:=b36,g_l_anew:=PySem.W.mg_of X G a37,F_l_anew:=F37,b_l_anew:=b37,g_l_take:=PySem.W.mg_of X G a38,F_l_take:=F38,b_l_take:=b38,g_l_names:=PySem.W.mg_of X G a39,F_l_names:=F39,b_l_names:=b39,g_l_town:=PySem.W.mg_of X G a40,F_l_town:=F40,b_l_town:=b40,g_l_room:=PySem.W.mg_of X G a41,F_l_room:=F41,b_l_room:=b41,g_l_job:=PySem.W.mg_of X G a42,F_l_job:=F42,b_l_job:=b42,g_l_world:=PySem.W.mg_of X G a43,F_l_world:=F43,b_l_world:=b43,g_l_called:=PySem.W.mg_of X G a44,F_l_called:=F44,b_l_called:=b44,g_l_bases:=PySem.W.mg_of X G a45,F_l_bases:=F45,b_l_bases:=b45,g_l_all_rows:=PySem.W.mg_of X G a46,F_l_all_rows:=F46,b_l_all_rows:=b46,g_l_left:=PySem.W.mg_of X G a47,F_l_left:=F47,b_l_left:=b47,g_l_true_pairs:=PySem.W.mg_of X G a48,F_l_true_pairs:=F48,b_l_true_pairs:=b48,g_l_gated:=PySem.W.mg_of X G a49,F_l_gated:=F49,b_l_gated:=b49,g_l_tree_book:=PySem.W.mg_of X G a50,F_l_tree_book:=F50,b_l_tree_book:=b50,g_l_known:=PySem.W.mg_of X G a51,F_l_known:=F51,b_l_known:=b51,g_l_above:=PySem.W.mg_of X G a52,F_l_above:=F52,b_l_above:=b52,g_l_tree_jobs:=PySem.W.mg_of X G a53,F_l_tree_jobs:=F53,b_l_tree_jobs:=b53,g_l_same:=PySem.W.mg_of X G a54,F_l_same:=F54,b_l_same:=b54,g_l_grown:=PySem.W.mg_of X G a55,F_l_grown:=F55,b_l_grown:=b55,g_l_chain:=PySem.W.mg_of X G a56,F_l_chain:=F56,b_l_chain:=b56,g_law:=PySem.W.mg_of X G a57,F_law:=F57,b_law:=b57,e_NoRow:=⟨PySem.W.mg_of X G ea0,⟨⟨_,_,_,_,_,_,_,_,_,_,_,_,_,_,_,eb0,rfl⟩,ec0,el0,em0,ek0⟩,ef0,eg0,FX0,bX0,fun f hf=>by simp only [List.mem_cons,List.not_mem_nil,or_false] at hf; rcases hf with rfl <;> assumption,⟨ed0,ee0,el0,en0⟩⟩,e_Clash:=⟨PySem.W.mg_of X G ea1,⟨⟨_,_,_,_,_,_,_,_,_,_,_,_,_,_,_,eb1,rfl⟩,ec1,el1,em1,ek1⟩,ef1,eg1,FX1,bX1,fun f hf=>by simp only [List.mem_cons,List.not_mem_nil,or_false] at hf; rcases hf with rfl | rfl <;> assumption,⟨ed1,ee1,el1,en1⟩⟩,o_Gaps:=⟨PySem.W.mg_of X G oa0,⟨ok0,ob0,oc0_,ol0⟩,⟨og0,oh0,oi0,oj0⟩,FY0,bY0,fun f hf=>by simp only [List.mem_cons,List.not_mem_nil,or_false] at hf; rcases hf with rfl | rfl | rfl | rfl | rfl | rfl | rfl | rfl | rfl <;> assumption⟩,x_NoRow_NoRow:=Xc.exm_two el0 eo0 em0 es0,x_NoRow_Clash:=Xc.exm_two el1 eo1 em1 es1,x_Clash_NoRow:=Xc.exm_two el0 eo0 em0 es2,x_Clash_Clash:=Xc.exm_two el1 eo1 em1 es3,m_bool:=PySem.W.mg_none_of X G z0,m_dict:=PySem.W.mg_none_of X G z1,m_enumerate:=PySem.W.mg_none_of X G z2,m_int:=PySem.W.mg_none_of X G z3,m_isinstance:=PySem.W.mg_none_of X G z4,m_len:=PySem.W.mg_none_of X G z5,m_list:=PySem.W.mg_none_of X G z6,m_max:=PySem.W.mg_none_of X G z7,m_min:=PySem.W.mg_none_of X G z8,m_range:=PySem.W.mg_none_of X G z9,m_set:=PySem.W.mg_none_of X G z10,m_sorted:=PySem.W.mg_none_of X G z11,m_str:=PySem.W.mg_none_of X G z12,m_tuple:=PySem.W.mg_none_of X G z13,m_zip:=PySem.W.mg_none_of X G z14,c_MOST_COUNT:=⟨_,PySem.W.mg_of X G q0⟩,c_MOST_NUMBER:=⟨_,PySem.W.mg_of X G q1⟩,c_MOST_TIME:=⟨_,PySem.W.mg_of X G q2⟩ }
 exact ⟨fd 57,fun s v=>.of_eq rfl,fun base _ _=>ok_law T⟩
end Gp
open PySem PySem.W PyProof.Rows
set_option maxHeartbeats 0 in
theorem PySem.Challenge.cw_gapcalls_k54_forests_holds : PySem.Challenge.rw_gapcalls_k54_forests.Holds := by
 w_on; o_law
 refine HandSHeadRun.head_any (r:=Gp.rL) (q:=Gp.qL) (H:=Gp.hkL) (ob:=Gp.obL) (M:=5678) (loose:=Gp.nmL) (d:=Gp.dL) (kwd:=[]) Gp.obL_eq
  (by kernel_rfl) (fun s=>by kernel_rfl) Gp.runL (by kernel_rfl) (by kernel_rfl) (by kernel_rfl) (by rfl) (by first | assumption | decide +kernel) (by decide +kernel) ⟨rfl,rfl,rfl,rfl,rfl,by decide +kernel⟩ ?hw ?hc
 case hw=>w_witness2
 case hc =>
  delta Gp.hkL
  k_fill
  refine L2.walk_of (l:=PySem.Challenge.rw_gapcalls_k54_forests) (n:=63) (k:=26) (x := "script") (CX:=fun _=>L2.CX0) (sp:=fun w=>Gp.sp_law _) rfl (by decide) rfl ⟨rfl,by decide,by decide⟩ (fun w h Y=>PySem.W.km_in_of Y) ?F (fun _ _ a ns hl _ hS=>⟨a,ns,rfl,hS,hl,fun _=>rfl⟩) (fun _ _ _ _ _ h=>h)
  case F =>
   intro w mg fa h KX G hmg0
   have hmg : mg ("law" : PySem.Str) = some (.ref fa):=by
    rw [← Gp.dL_name]
    exact hmg0
   refine' Gp.all_mk KX G hmg ?a0 ?l0 ?c0 ?k0 ?a1 ?l1 ?c1 ?k1 ?a2 ?l2 ?c2 ?k2 ?a3 ?l3 ?c3 ?k3 ?a4 ?l4 ?c4 ?k4 ?a5 ?l5 ?c5 ?k5 ?a6 ?l6 ?c6 ?k6 ?a7 ?l7 ?c7 ?k7 ?a8 ?l8 ?c8 ?k8 ?a9 ?l9 ?c9 ?k9 ?a10 ?l10 ?c10 ?k10 ?a11 ?l11 ?c11 ?k11 ?a12 ?l12 ?c12 ?k12 ?a13 ?l13 ?c13 ?k13 ?a14 ?l14 ?c14 ?k14 ?a15 ?l15 ?c15 ?k15 ?a16 ?l16 ?c16 ?k16 ?a17 ?l17 ?c17 ?k17 ?a18 ?l18 ?c18 ?k18 ?a19 ?l19 ?c19 ?k19 ?a20 ?l20 ?c20 ?k20 ?a21 ?l21 ?c21 ?k21 ?a22 ?l22 ?c22 ?k22 ?a23 ?l23 ?c23 ?k23 ?a24 ?l24 ?c24 ?k24 ?a25 ?l25 ?c25 ?k25 ?a26 ?l26 ?c26 ?k26 ?a27 ?l27 ?c27 ?k27 ?a28 ?l28 ?c28 ?k28 ?a29 ?l29 ?c29 ?k29 ?a30 ?l30 ?c30 ?k30 ?a31 ?l31 ?c31 ?k31 ?a32 ?l32 ?c32 ?k32 ?a33 ?l33 ?c33 ?k33 ?a34 ?l34 ?c34 ?k34 ?a35 ?l35 ?c35 ?k35 ?a36 ?l36 ?c36 ?k36 ?a37 ?l37 ?c37 ?k37 ?a38 ?l38 ?c38 ?k38 ?a39 ?l39 ?c39 ?k39 ?a40 ?l40 ?c40 ?k40 ?a41 ?l41 ?c41 ?k41 ?a42 ?l42 ?c42 ?k42 ?a43 ?l43 ?c43 ?k43 ?a44 ?l44 ?c44 ?k44 ?a45 ?l45 ?c45 ?k45 ?a46 ?l46 ?c46 ?k46 ?a47 ?l47 ?c47 ?k47 ?a48 ?l48 ?c48 ?k48 ?a49 ?l49 ?c49 ?k49 ?a50 ?l50 ?c50 ?k50 ?a51 ?l51 ?c51 ?k51 ?a52 ?l52 ?c52 ?k52 ?a53 ?l53 ?c53 ?k53 ?a54 ?l54 ?c54 ?k54 ?a55 ?l55 ?c55 ?k55 ?a56 ?l56 ?c56 ?k56 ?a57 ?l57 ?c57 ?k57 ?ea0 ?eb0 ?ec0 ?ed0 ?ee0 ?ef0 ?eg0 ?eh0 ?ei0 ?ej0 ?ek0 ?el0 ?em0 ?en0 ?eo0 ?ep0_0 ?ea1 ?eb1 ?ec1 ?ed1 ?ee1 ?ef1 ?eg1 ?eh1 ?ei1 ?ej1 ?ek1 ?el1 ?em1 ?en1 ?eo1 ?ep1_0 ?ep1_1 ?oa0 ?ob0 ?oc0_ ?od0_ ?oe0 ?of0 ?og0 ?oh0 ?oi0 ?oj0 ?ok0 ?ol0 ?on0_0 ?on0_1 ?on0_2 ?on0_3 ?on0_4 ?on0_5 ?on0_6 ?on0_7 ?on0_8 ?es0 ?es1 ?es2 ?es3 ?z0 ?z1 ?z2 ?z3 ?z4 ?z5 ?z6 ?z7 ?z8 ?z9 ?z10 ?z11 ?z12 ?z13 ?z14 ?q0 ?q1 ?q2
   (case a0=>k_is)
   (case l0=>k_is)
   (case c0=>k_is)
   (case k0=>k_is)
   (case a1=>k_is)
   (case l1=>k_is)
   (case c1=>k_is)
   (case k1=>k_is)
   (case a2=>k_is)
   (case l2=>k_is)
   (case c2=>k_is)
   (case k2=>k_is)
   (case a3=>k_is)
   (case l3=>k_is)
   (case c3=>k_is)
   (case k3=>k_is)
   (case a4=>k_is)
   (case l4=>k_is)
   (case c4=>k_is)
   (case k4=>k_is)
   (case a5=>k_is)
   (case l5=>k_is)
   (case c5=>k_is)
   (case k5=>k_is)
   (case a6=>k_is)
   (case l6=>k_is)
   (case c6=>k_is)
   (case k6=>k_is)
   (case a7=>k_is)
   (case l7=>k_is)
   (case c7=>k_is)
   (case k7=>k_is)
   (case a8=>k_is)
   (case l8=>k_is)
   (case c8=>k_is)
   (case k8=>k_is)
   (case a9=>k_is)
   (case l9=>k_is)
   (case c9=>k_is)
   (case k9=>k_is)
   (case a10=>k_is)
   (case l10=>k_is)
   (case c10=>k_is)
   (case k10=>k_is)
   (case a11=>k_is)
   (case l11=>k_is)
   (case c11=>k_is)
   (case k11=>k_is)
   (case a12=>k_is)
   (case l12=>k_is)
   (case c12=>k_is)
   (case k12=>k_is)
   (case a13=>k_is)
   (case l13=>k_is)
   (case c13=>k_is)
   (case k13=>k_is)
   (case a14=>k_is)
   (case l14=>k_is)
   (case c14=>k_is)
   (case k14=>k_is)
   (case a15=>k_is)
   (case l15=>k_is)
   (case c15=>k_is)
   (case k15=>k_is)
   (case a16=>k_is)
   (case l16=>k_is)
   (case c16=>k_is)
   (case k16=>k_is)
   (case a17=>k_is)
   (case l17=>k_is)
   (case c17=>k_is)
   (case k17=>k_is)
   (case a18=>k_is)
   (case l18=>k_is)
   (case c18=>k_is)
   (case k18=>k_is)
   (case a19=>k_is)
   (case l19=>k_is)
   (case c19=>k_is)
   (case k19=>k_is)
   (case a20=>k_is)
   (case l20=>k_is)
   (case c20=>k_is)
   (case k20=>k_is)
   (case a21=>k_is)
   (case l21=>k_is)
   (case c21=>k_is)
   (case k21=>k_is)
   (case a22=>k_is)
   (case l22=>k_is)
   (case c22=>k_is)
   (case k22=>k_is)
   (case a23=>k_is)
   (case l23=>k_is)
   (case c23=>k_is)
   (case k23=>k_is)
   (case a24=>k_is)
   (case l24=>k_is)
   (case c24=>k_is)
   (case k24=>k_is)
   (case a25=>k_is)
   (case l25=>k_is)
   (case c25=>k_is)
   (case k25=>k_is)
   (case a26=>k_is)
   (case l26=>k_is)
   (case c26=>k_is)
   (case k26=>k_is)
   (case a27=>k_is)
   (case l27=>k_is)
   (case c27=>k_is)
   (case k27=>k_is)
   (case a28=>k_is)
   (case l28=>k_is)
   (case c28=>k_is)
   (case k28=>k_is)
   (case a29=>k_is)
   (case l29=>k_is)
   (case c29=>k_is)
   (case k29=>k_is)
   (case a30=>k_is)
   (case l30=>k_is)
   (case c30=>k_is)
   (case k30=>k_is)
   (case a31=>k_is)
   (case l31=>k_is)
   (case c31=>k_is)
   (case k31=>k_is)
   (case a32=>k_is)
   (case l32=>k_is)
   (case c32=>k_is)
   (case k32=>k_is)
   (case a33=>k_is)
   (case l33=>k_is)
   (case c33=>k_is)
   (case k33=>k_is)
   (case a34=>k_is)
   (case l34=>k_is)
   (case c34=>k_is)
   (case k34=>k_is)
   (case a35=>k_is)
   (case l35=>k_is)
   (case c35=>k_is)
   (case k35=>k_is)
   (case a36=>k_is)
   (case l36=>k_is)
   (case c36=>k_is)
   (case k36=>k_is)
   (case a37=>k_is)
   (case l37=>k_is)
   (case c37=>k_is)
   (case k37=>k_is)
   (case a38=>k_is)
   (case l38=>k_is)
   (case c38=>k_is)
   (case k38=>k_is)
   (case a39=>k_is)
   (case l39=>k_is)
   (case c39=>k_is)
   (case k39=>k_is)
   (case a40=>k_is)
   (case l40=>k_is)
   (case c40=>k_is)
   (case k40=>k_is)
   (case a41=>k_is)
   (case l41=>k_is)
   (case c41=>k_is)
   (case k41=>k_is)
   (case a42=>k_is)
   (case l42=>k_is)
   (case c42=>k_is)
   (case k42=>k_is)
   (case a43=>k_is)
   (case l43=>k_is)
   (case c43=>k_is)
   (case k43=>k_is)
   (case a44=>k_is)
   (case l44=>k_is)
   (case c44=>k_is)
   (case k44=>k_is)
   (case a45=>k_is)
   (case l45=>k_is)
   (case c45=>k_is)
   (case k45=>k_is)
   (case a46=>k_is)
   (case l46=>k_is)
   (case c46=>k_is)
   (case k46=>k_is)
   (case a47=>k_is)
   (case l47=>k_is)
   (case c47=>k_is)
   (case k47=>k_is)
   (case a48=>k_is)
   (case l48=>k_is)
   (case c48=>k_is)
   (case k48=>k_is)
   (case a49=>k_is)
   (case l49=>k_is)
   (case c49=>k_is)
   (case k49=>k_is)
   (case a50=>k_is)
   (case l50=>k_is)
   (case c50=>k_is)
   (case k50=>k_is)
   (case a51=>k_is)
   (case l51=>k_is)
   (case c51=>k_is)
   (case k51=>k_is)
   (case a52=>k_is)
   (case l52=>k_is)
   (case c52=>k_is)
   (case k52=>k_is)
   (case a53=>k_is)
   (case l53=>k_is)
   (case c53=>k_is)
   (case k53=>k_is)
   (case a54=>k_is)
   (case l54=>k_is)
   (case c54=>k_is)
   (case k54=>k_is)
   (case a55=>k_is)
   (case l55=>k_is)
   (case c55=>k_is)
   (case k55=>k_is)
   (case a56=>k_is)
   (case l56=>k_is)
   (case c56=>k_is)
   (case k56=>k_is)
   (case a57=>k_is)
   (case l57=>k_is)
   (case c57=>k_is)
   (case k57=>k_is)
   (case ea0=>k_is)
   (case eb0=>k_is)
   (case ec0=>k_is)
   (case ed0=>k_is)
   (case ee0=>k_is)
   (case ef0=>k_is)
   (case eg0=>k_is)
   (case eh0=>k_is)
   (case ei0=>k_is)
   (case ej0=>k_is)
   (case ek0=>k_is)
   (case el0=>k_is)
   (case em0=>k_is)
   (case en0=>k_is)
   (case eo0=>k_is)
   (case ep0_0=>k_is)
   (case ea1=>k_is)
   (case eb1=>k_is)
   (case ec1=>k_is)
   (case ed1=>k_is)
   (case ee1=>k_is)
   (case ef1=>k_is)
   (case eg1=>k_is)
   (case eh1=>k_is)
   (case ei1=>k_is)
   (case ej1=>k_is)
   (case ek1=>k_is)
   (case el1=>k_is)
   (case em1=>k_is)
   (case en1=>k_is)
   (case eo1=>k_is)
   (case ep1_0=>k_is)
   (case ep1_1=>k_is)
   (case oa0=>k_is)
   (case ob0=>k_is)
   (case oc0_=>k_is)
   (case od0_=>k_is)
   (case oe0=>k_is)
   (case of0=>k_is)
   (case og0=>k_is)
   (case oh0=>k_is)
   (case oi0=>k_is)
   (case oj0=>k_is)
   (case ok0=>k_is)
   (case ol0=>k_is)
   (case on0_0=>k_is)
   (case on0_1=>k_is)
   (case on0_2=>k_is)
   (case on0_3=>k_is)
   (case on0_4=>k_is)
   (case on0_5=>k_is)
   (case on0_6=>k_is)
   (case on0_7=>k_is)
   (case on0_8=>k_is)
   (case es0=>first | k_is | rfl)
   (case es1=>first | k_is | rfl)
   (case es2=>first | k_is | rfl)
   (case es3=>first | k_is | rfl)
   (case z0=>k_is)
   (case z1=>k_is)
   (case z2=>k_is)
   (case z3=>k_is)
   (case z4=>k_is)
   (case z5=>k_is)
   (case z6=>k_is)
   (case z7=>k_is)
   (case z8=>k_is)
   (case z9=>k_is)
   (case z10=>k_is)
   (case z11=>k_is)
   (case z12=>k_is)
   (case z13=>k_is)
   (case z14=>k_is)
   (case q0=>k_is)
   (case q1=>k_is)
   (case q2=>k_is)
