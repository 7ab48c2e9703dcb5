import PyProof.Rows.All
import Wide.All
import OpenK.AllK
import Wide.FinOn
import PyProof.EqAt
import PyProof.EqKinds
import PyProof.TupleCall
import KE.BitLaws
import Open.SpecLaws
import KE.OsHead
import KE.OsGo
import PySem.Challenge.RW_windcourses_s01_answers
set_option Elab.async false
set_option linter.all false
set_option maxRecDepth 1000000
set_option maxHeartbeats 4000000
namespace L2
open PySem
def inClass(s:Stmt)(j:Nat):Stmt:=match s with
 | .ClassDef _ _ _ body _ _ _ _ _ _ _=>body.getD j (.Pass ⟨0,0,0,0⟩)
 | _=>.Pass ⟨0,0,0,0⟩
def mW(s:Stmt):Arguments:=match s with
 | .FunctionDef _ a _ _ _ _ _ _ _ _=>a
 | _=>{ posonlyargs:=[],args:=[],vararg:=none,kwonlyargs:=[],kw_defaults:=[],kwarg:=none,defaults:=[] }
def kn(s:Stmt):List Stmt:=match s with
 | .FunctionDef _ _ b _ _ _ _ _ _ _=>b
 | _=>[]
def aq(s:Stmt):Scope:=match s with
 | .FunctionDef _ _ _ _ _ _ sc _ _ _=>sc
 | _=>{ kind:=.function,names:=[],isGenerator:=false,isCoroutine:=false }
end L2
noncomputable section
namespace WT
open PySem PySem.W PySem.Calls PyProof.Rows
abbrev pw:Program:=PySem.Challenge.pw_windcourses_s01_answers
def keep:List Nat:=(List.range 143).filter fun i=>!([0,25,34,45,62,68,79,89,99].contains i)
def q(p:Program):Program:=PySem.W.view p keep
def loose:List Str:=["HANDLERS"]
def p0:Pos:=⟨0,0,0,0⟩
def env(p:Program):Env:={ scope:=p.main.scope,locals:=mainNs,globals:=mainNs,cells:=[],code:=.ref 13,frame:=some 14 }
def o1:Obj:={ cls:=Value.type "tuple",data:=Data.seq #[] }
def o2:Obj:={ cls:=Value.none,data:=Data.fields #[] }
def o3:Obj:={ cls:=Value.type "code",data:=Data.fields #[Value.str (Str.ofString "<module>") 182,Value.str (Str.ofString "<module>") 183,Value.str (Str.ofString "/claim/cut.py") 184,Value.int 1 0,Value.int 0 0,Value.int 0 0,Value.int 0 0,Value.int 0 0,Value.ref 11,Value.bool false,Value.int 181 0,Value.ref 12,Value.none,Value.none,Value.none,Value.none,Value.int 185 0,Value.int 1 0,Value.str (Str.ofString "/claim/cut.py") 186] }
def o4:Obj:={ cls:=Value.type "frame",slots:=#[some (Value.ref 13),some (Value.ref 3),some (Value.ref 3),none,some (Value.str (Str.ofString "__main__") 164),none,some (Value.ref 0)] }
def lf(o:Obj):BT:=.node o .nil .nil
def tree(P:Params):BT:=.node (boot_o_0 P) (.node (boot_o_1 P) (.node (boot_o_3 P) (lf (boot_o_7 P)) (lf o1)) (.node (boot_o_5 P) (lf (boot_o_9 P)) (lf o3))) (.node (boot_o_2 P) (.node (boot_o_4 P) (lf (boot_o_8 P)) (lf o2)) (.node (boot_o_6 P) (lf (boot_o_10 P)) (lf o4)))
def body(p:Program):List Stmt:=behindTheImports p
def st(T:Params→BT)(w:World)(os:OsState):SharedT:=⟨T w.params,15,{},Array.mk [],{},187,os⟩
def cE(p:Program):Code:=.body (body p) (env p)
abbrev Rs:=Flow×SharedT×Code×Pos
def run(p:Program)(T:Params→BT)(w:World)(os:OsState):Option Rs:=segRunT treeTable p w 11 (some (.ref 6)) 1 6000 (st T w os) (piecesOf (body p) (env p) (cE p) p0 [topFrame p0])
def Xt(p:Program)(s:Shared):Bool:=xlAt (q p) [] s&&recOk [] s
def mods(p:Program):List Str:=importedModules p.main.body
def checks(p:Program)(h:Heap)(s:Shared):Bool:=staticsOk (mods p) h s.heap&&namesBound p s.heap&&gensDone s&&laidKept h s.heap
def l0(p:Program)(T:Params→BT)(w:World)(os:OsState):=(run p T w os).map fun r=>(r.1,r.2.2.1,r.2.2.2)
def g0(p:Program):=(Flow.next,cE p,(⟨610,0,620,15⟩:Pos))
def l1(p:Program)(H:Params→Heap)(T:Params→BT)(w:World)(os:OsState):=(run p T w os).map fun r=>checks p (H w.params) r.2.1.abs
def l2(p:Program)(T:Params→BT)(w:World)(os:OsState):=(run p T w os).map fun r=>seen ((recsOf (q p)).map (·.name)) (ownsOf (q p)) [] { r.2.1.abs with gens:=#[] }
def g2(p:Program):=expectedOf (q p)
def l3(p:Program)(T:Params→BT)(w:World)(os:OsState):=(run p T w os).map fun r=>r.2.1.abs.heap.bltView
def l4(p:Program)(T:Params→BT)(w:World)(os:OsState):=(run p T w os).map fun r=>r.2.1.abs.heap.keysOk (looseW (q p) loose) ((recsOf (q p)).map (·.name)) ((litsOf (q p)).map (·.1)) ((clssOf (q p) (looseW (q p) loose)).map (·.name))
def l5(p:Program)(T:Params→BT)(w:World)(os:OsState):=(run p T w os).map fun r=>(r.2.1.abs.heap.accountedOkI (mods p),r.2.1.abs.heap.isNs mainGlobals,r.2.1.abs.heap.isNs builtinsNs)
def l6(p:Program)(T:Params→BT)(w:World)(os:OsState):=(run p T w os).map fun r=>(tablesOk (q p) r.2.1.abs.heap,Xt p r.2.1.abs,r.2.1.abs.gens.size==0)
def l7(p:Program)(T:Params→BT)(w:World)(os:OsState):=(run p T w os).map fun r=>tabsOk (q p) r.2.1.abs
def l8(p:Program)(T:Params→BT)(w:World)(os:OsState):=(run p T w os).map fun r=>(pinSeenD (q p) (drecsOf (q p)) r.2.1.abs,plainSeenE (q p) (looseW (q p) loose) r.2.1.abs)
def g8(p:Program):=(pinGoodD (drecsOf (q p)),plainGoodE (q p) (looseW (q p) loose))
def l9(p:Program)(T:Params→BT)(w:World)(os:OsState):=(run p T w os).map fun r=>(plainSeenD (q p) loose r.2.1.abs,wideSeen (q p) r.2.1.abs)
def g9(p:Program):=(plainGoodD (q p) loose,wideGood (q p))
def lA(p:Program)(T:Params→BT)(w:World)(os:OsState):=(run p T w os).map fun r=>clsSeenW (q p) loose r.2.1.abs
def gA(p:Program):=clsGoodW (q p) loose
abbrev e3(x:Str)(i a:Nat):Str×Nat×Addr:=(x,i,a)
abbrev e2(x:Str)(i:Int):Str×Int:=(x,i)
def aList:List Addr:=[3,19,18,26,25,33,32,38,37,45,44,52,51,59,58,66,65,73,72,80,79,87,86,94,93,122,121,129,128,136,135,143,142,150,149,157,156,164,163,192,191,199,198,206,205,213,212,220,219,227,226,232,231,239,238,244,243,251,250,258,257,265,264,272,271,321,320,328,327,335,334,363,362,370,369,377,376,384,383,391,390,398,397,405,404,410,409,417,416,424,423,431,430,438,437,445,444,452,451,459,458,466,465,473,472,480,479,487,486,494,493,501,500,508,507,515,514,522,521,529,528,536,535,583,582,588,587,595,594,602,601,609,608,616,615,623,622,630,629,637,636,644,643,651,650,658,657,665,664,672,671,679,678,686,685,693,692,700,699,707,706,714,713,721,720,728,727,735,734,742,741,749,748,756,755,766,765,773,772,111,110,108,107,181,180,178,177,289,288,286,285,310,309,307,306,352,351,349,348,553,552,550,549,574,573,571,570,757,758,759]
def fT:List (Str×Nat×Addr):=[e3 "bytes_of" 13 19,e3 "split_at" 14 26,e3 "lines_of" 15 33,e3 "words_of" 16 38,e3 "is_readable" 17 45,e3 "is_digit" 18 52,e3 "is_name_sign" 19 59,e3 "is_name" 20 66,e3 "read_number" 21 73,e3 "read_signed" 22 80,e3 "read_within" 23 87,e3 "line_of" 24 94,e3 "greatest_divisor" 27 122,e3 "whole" 28 129,e3 "add_ratios" 29 136,e3 "multiply_ratios" 30 143,e3 "divide_ratios" 31 150,e3 "is_less" 32 157,e3 "tell_ratio" 33 164,e3 "is_calm" 36 192,e3 "square_of" 37 199,e3 "heading_of" 38 206,e3 "station_wind" 39 213,e3 "wind_between" 40 220,e3 "wind_at" 41 227,e3 "speaking" 42 232,e3 "strongest_at" 43 239,e3 "mean_wind" 44 244,e3 "all_within" 58 251,e3 "are_places" 59 258,e3 "are_times" 60 265,e3 "are_strengths" 61 272,e3 "saw_at" 65 321,e3 "is_full" 66 328,e3 "add_sight" 67 335,e3 "read_weather" 71 363,e3 "take_line" 72 370,e3 "take_station" 73 377,e3 "take_wind" 74 384,e3 "find_station" 75 391,e3 "write_weather" 76 398,e3 "write_station" 77 405,e3 "write_sight" 78 410,e3 "way_time" 80 417,e3 "least_time" 81 424,e3 "is_sooner" 82 431,e3 "lesser" 83 438,e3 "compare_times" 84 445,e3 "time_by_one" 85 452,e3 "time_by_two" 86 459,e3 "course_moments" 87 466,e3 "least_repeats" 88 473,e3 "across" 90 480,e3 "along" 91 487,e3 "sign_code" 92 494,e3 "sine_square" 93 501,e3 "is_turned_beyond" 94 508,e3 "least_steps" 95 515,e3 "port_end" 96 522,e3 "lead_against" 97 529,e3 "lead_square" 98 536,e3 "pairs_of" 112 583,e3 "load" 113 588,e3 "printed" 114 595,e3 "is_station" 115 602,e3 "observe" 116 609,e3 "wind_there" 117 616,e3 "tell_wind" 118 623,e3 "speak" 119 630,e3 "is_table" 120 637,e3 "lay_table" 121 644,e3 "is_way_in_range" 122 651,e3 "tell_time" 123 658,e3 "is_course" 124 665,e3 "course" 125 672,e3 "set_leg" 126 679,e3 "refusal_by" 127 686,e3 "lay_line" 128 693,e3 "bias" 129 700,e3 "both_winds" 130 707,e3 "shift" 131 714,e3 "is_tangent" 132 721,e3 "turned" 133 728,e3 "strongest" 134 735,e3 "mean" 135 742,e3 "between" 136 749,e3 "list_stations" 137 756,e3 "take_call" 141 766,e3 "answers" 142 773]
def cT:List (Str×Str×Nat×Nat×Addr×Addr):=[(("Ratio" : Str),("Ratio.__init__" : Str),26,0,111,108),(("Wind" : Str),("Wind.__init__" : Str),35,0,181,178),(("Sight" : Str),("Sight.__init__" : Str),63,0,289,286),(("Station" : Str),("Station.__init__" : Str),64,0,310,307),(("Reading" : Str),("Reading.__init__" : Str),70,0,352,349),(("Sea" : Str),("Sea.__init__" : Str),110,0,553,550),(("Call" : Str),("Call.__init__" : Str),111,0,574,571)]
def nT:List (Addr×Str):=[(111,("top" : Str)),(111,("bottom" : Str)),(181,("east" : Str)),(181,("north" : Str)),(289,("moment" : Str)),(289,("east" : Str)),(289,("north" : Str)),(310,("name" : Str)),(310,("x" : Str)),(310,("y" : Str)),(310,("seen" : Str)),(352,("stations" : Str)),(352,("wrong_line" : Str)),(553,("stations" : Str)),(553,("table" : Str)),(574,("number" : Str)),(574,("numbers" : Str)),(574,("row" : Str)),(574,("behind" : Str))]
def iT:List (Str×Int):=[e2 "LINE_END" (10),e2 "BLANK" (32),e2 "LAST_SIGN" (126),e2 "MINUS" (45),e2 "DIGIT_ZERO" (48),e2 "DIGIT_NINE" (57),e2 "UPPER_A" (65),e2 "UPPER_Z" (90),e2 "LOWER_A" (97),e2 "LOWER_Z" (122),e2 "MOST_DIGITS" (7),e2 "LONGEST_NAME" (12),e2 "FAR" (100000),e2 "LAST_TIME" (100000),e2 "STRONG" (1000),e2 "FAST" (3000),e2 "MOST_STATIONS" (6),e2 "MOST_SIGHTS" (20),e2 "MOST_BYTES" (4000),e2 "MOST_VELOCITIES" (12),e2 "MOST_SECONDS" (1000000),e2 "LONGEST_LINE" (100000),e2 "FARTHEST_END" (1000000000),e2 "STEEPEST" (1000),e2 "COMMENT" (35),e2 "NO_STATION" (-2),e2 "NO_ROOM" (-4),e2 "SEEN_ALREADY" (-5),e2 "NO_WIND" (-6),e2 "NEVER" (-7),e2 "TOO_LONG" (-8),e2 "WRONG_LIST" (-9),e2 "OUT_OF_RANGE" (-10),e2 "TOO_FAR" (-11),e2 "WRONG_TEXT" (-1000)]
def tT:List (Str×Addr×List Value):=[(("HANDLERS" : Str),757,[.ref 588,.ref 595,.ref 609,.ref 623,.ref 630,.ref 644,.ref 658,.ref 672,.ref 679,.ref 693,.ref 700,.ref 714,.ref 728,.ref 735,.ref 742,.ref 749,.ref 756]),(("SIZES" : Str),758,[.int (0) 0,.int (0) 0,.int (4) 0,.int (3) 0,.int (1) 0,.int (0) 0,.int (5) 0,.int (1) 0,.int (6) 0,.int (4) 0,.int (5) 0,.int (4) 0,.int (6) 0,.int (1) 0,.int (3) 0,.int (5) 0,.int (0) 0]),(("WITH_ROW" : Str),759,[.int (0) 0,.int (5) 0,.int (7) 0,.int (15) 0])]
def bT:List Str:=["len", "ord", "str", "abs", "range", "enumerate", "zip", "sum"]
def topP(p:Program)(i:Nat):Stmt:=p.main.body.getD i (.Pass ⟨0,0,0,0⟩)
def pick(r:SharedT)(a:Addr):Option (Addr×Obj):=match Nat.blt a r.n,r.tree.get a with
 | true,some o=>(alive o).map fun o=>(a,o)
 | _,_=>none
def frag(r:SharedT):Frag:=aList.filterMap (pick r)
def fnV(K:Frag)(f:Addr)(qn:Str):=match K.lookup f with
 | some ⟨_,_,.func fd,_⟩=>some (fd.name,fd.qualname,fd.params,fd.body,fd.scope,fd.globals,fd.closure,fd.defaults,fd.builtins,codeIn K fd.code qn)
 | _=>none
def fnG(x qn:Str)(s:Stmt):=some (x,qn,L2.mW s,FuncBody.stmts (L2.kn s),L2.aq s,mainGlobals,([]:List (Str×Addr)),Value.none,builtinsNs,true)
def ns(K:Frag)(x:Str):Option (Option Value):=nsIn K mainGlobals x
def er:Value→Value
 | .int i _=>.int i 0
 | v=>v
def intV:Option (Option Value)→Option Int
 | some (some (.int i _))=>some i
 | _=>none
def tupV(K:Frag)(a:Addr):Option (Value×List Value):=match K.lookup a with
 | some ⟨c,_,.seq its _,_⟩=>some (c,its.toList.map er)
 | _=>none
def fF(K:Frag):=fT.map fun e=>(ns K e.1,fnV K e.2.2 e.1)
def gB(p:Program):=fT.map fun e=>(some (some (Value.ref e.2.2)),fnG e.1 e.1 (topP p e.2.1))
def fC(K:Frag):=(cT.map fun e=>(ns K e.1,fnV K e.2.2.2.2.2 e.2.1),iT.map fun e=>intV (ns K e.1),tT.map fun e=>(ns K e.1,tupV K e.2.1),bT.map (ns K))
def gC(p:Program):=(cT.map fun e=>(some (some (Value.ref e.2.2.2.2.1)),fnG "__init__" e.2.1 (L2.inClass (topP p e.2.2.1) e.2.2.2.1)),iT.map fun e=>some e.2,tT.map fun e=>(some (some (Value.ref e.2.1)),some (Value.type "tuple",e.2.2)),bT.map fun _=>some (none:Option Value))
def fD(K:Frag):=(cT.map fun e=>(findIn K (.ref e.2.2.2.2.1) "__init__",findIn K (.ref e.2.2.2.2.1) "__setattr__",isFn K (.ref e.2.2.2.2.2)&&plainGet K e.2.2.2.2.1 Str.empty&&hasDictIn K e.2.2.2.2.1&&plainOver K e.2.2.2.2.1&&makesIn K e.2.2.2.2.1&&keepIn K (.ref e.2.2.2.2.1)),nT.map fun e=>findIn K (.ref e.1) e.2)
def gD:=(cT.map fun e=>(some (some (Value.ref e.2.2.2.2.2)),some (some (Value.builtin "object.__setattr__")),true),nT.map fun _=>some (none:Option Value))
def lB(p:Program)(T:Params→BT)(w:World)(os:OsState):=(run p T w os).map fun r=>fF (frag r.2.1)
def lC(p:Program)(T:Params→BT)(w:World)(os:OsState):=(run p T w os).map fun r=>fC (frag r.2.1)
def lD(p:Program)(T:Params→BT)(w:World)(os:OsState):=(run p T w os).map fun r=>fD (frag r.2.1)
def lE(p:Program)(H:Params→Heap)(T:Params→BT)(w:World)(os:OsState):=(run p T w os).map fun r=>((r.1,r.2.2.1,r.2.2.2),checks p (H w.params) r.2.1.abs,r.2.1.abs.heap.bltView,(r.2.1.abs.heap.accountedOkI (mods p),r.2.1.abs.heap.isNs mainGlobals,r.2.1.abs.heap.isNs builtinsNs),clsSeenW (q p) loose r.2.1.abs,fC (frag r.2.1))
def gE(p:Program):=(g0 p,true,bltViewBooted,(true,true,true),gA p,gC p)
def lF(p:Program)(T:Params→BT)(w:World)(os:OsState):=(run p T w os).map fun r=>((tablesOk (q p) r.2.1.abs.heap,Xt p r.2.1.abs,r.2.1.abs.gens.size==0),fF (frag r.2.1))
def gF(p:Program):=((true,true,true),gB p)
end WT
lay_quick WT.lE WT.lF WT.l2 WT.l4 WT.l7 WT.l8 WT.l9 WT.gE WT.gF WT.g2 WT.g8 WT.g9
namespace WT
open PySem PySem.W PySem.Calls PyProof.Rows
theorem by4{A:Type}{f g:Program→(Params→BT)→World→OsState→Option A}(e:f=g){w:World}{os:OsState}{x:Option A}(h:g pw tree w os=x):f pw tree w os=x:=by rw[e]; exact h
theorem by5{A:Type}{f g:Program→(Params→Heap)→(Params→BT)→World→OsState→Option A}(e:f=g){w:World}{os:OsState}{x:Option A}(h:g pw boot_heap tree w os=x):f pw boot_heap tree w os=x:=by rw[e]; exact h
theorem byG{A:Type}{f g:Program→A}(e:f=g){x:Option A}(h:x=some (g pw)):x=some (f pw):=by rw[e]; exact h
theorem QE(w:World)(os:OsState):PySem.W.Fast.tw828737069554590292 pw boot_heap tree w os=some (PySem.W.Fast.tw15816763337910418007 pw):=by kernel_rfl
theorem RE(w:World)(os:OsState):lE pw boot_heap tree w os=some (gE pw):=byG PySem.W.Fast.te15816763337910418007 (by5 PySem.W.Fast.te828737069554590292 (QE w os))
theorem QF(w:World)(os:OsState):PySem.W.Fast.tw7988125369187406506 pw tree w os=some (PySem.W.Fast.tw3942074143227766595 pw):=by kernel_rfl
theorem RF(w:World)(os:OsState):lF pw tree w os=some (gF pw):=byG PySem.W.Fast.te3942074143227766595 (by4 PySem.W.Fast.te7988125369187406506 (QF w os))
theorem Q2(w:World)(os:OsState):PySem.W.Fast.tw10160478335482297953 pw tree w os=some (PySem.W.Fast.tw17827636986993674771 pw):=by kernel_rfl
theorem R2(w:World)(os:OsState):l2 pw tree w os=some (g2 pw):=byG PySem.W.Fast.te17827636986993674771 (by4 PySem.W.Fast.te10160478335482297953 (Q2 w os))
theorem Q4(w:World)(os:OsState):PySem.W.Fast.tw6297208177762718316 pw tree w os=some (true):=by kernel_rfl
theorem R4(w:World)(os:OsState):l4 pw tree w os=some (true):=by4 PySem.W.Fast.te6297208177762718316 (Q4 w os)
theorem Q7(w:World)(os:OsState):PySem.W.Fast.tw16036941198494645728 pw tree w os=some (true):=by kernel_rfl
theorem R7(w:World)(os:OsState):l7 pw tree w os=some (true):=by4 PySem.W.Fast.te16036941198494645728 (Q7 w os)
theorem Q8(w:World)(os:OsState):PySem.W.Fast.tw10693941428379931865 pw tree w os=some (PySem.W.Fast.tw15531297209124547597 pw):=by kernel_rfl
theorem R8(w:World)(os:OsState):l8 pw tree w os=some (g8 pw):=byG PySem.W.Fast.te15531297209124547597 (by4 PySem.W.Fast.te10693941428379931865 (Q8 w os))
theorem Q9(w:World)(os:OsState):PySem.W.Fast.tw8455699813365111060 pw tree w os=some (PySem.W.Fast.tw10878015254445075619 pw):=by kernel_rfl
theorem R9(w:World)(os:OsState):l9 pw tree w os=some (g9 pw):=byG PySem.W.Fast.te10878015254445075619 (by4 PySem.W.Fast.te8455699813365111060 (Q9 w os))
theorem QD(w:World)(os:OsState):(PySem.W.Fast.tw12762397477378200934 pw tree w os).map (fun r=>fD (frag r.2.1))=some gD:=by kernel_rfl
theorem RD(w:World)(os:OsState):lD pw tree w os=some gD:=by unfold lD; rw[PySem.W.Fast.te12762397477378200934]; exact QD w os
theorem prj{A B:Type}{x:Option Rs}{f:Rs→A}{a:A}(h:x.map f=some a)(g:A→B):x.map (fun r=>g (f r))=some (g a):=by cases x with | none=>cases h | some r=>cases h; rfl
theorem R0(w:World)(os:OsState):l0 pw tree w os=some (g0 pw):=prj (RE w os) (·.1)
theorem R1(w:World)(os:OsState):l1 pw boot_heap tree w os=some (true):=prj (RE w os) (·.2.1)
theorem R3(w:World)(os:OsState):l3 pw tree w os=some (bltViewBooted):=prj (RE w os) (·.2.2.1)
theorem R5(w:World)(os:OsState):l5 pw tree w os=some ((true,true,true)):=prj (RE w os) (·.2.2.2.1)
theorem RA(w:World)(os:OsState):lA pw tree w os=some (gA pw):=prj (RE w os) (·.2.2.2.2.1)
theorem RC(w:World)(os:OsState):lC pw tree w os=some (gC pw):=prj (RE w os) (·.2.2.2.2.2)
theorem R6(w:World)(os:OsState):l6 pw tree w os=some ((true,true,true)):=prj (RF w os) (·.1)
theorem RB(w:World)(os:OsState):lB pw tree w os=some (gB pw):=prj (RF w os) (·.2)
theorem pre_(w:World)(os:OsState):topGo treeTable pw w 11 (some (.ref 6)) 12 ⟨boot_heap w.params,Array.mk [],boot_drawn,boot_toks,os⟩ (topStub pw)=some ((st tree w os).abs,⟨denote treeTable (cE pw),cE pw,p0,[topFrame p0]⟩):=by kernel_rfl
theorem block_(w:World)(os:OsState):segRun treeTable pw w 11 (some (.ref 6)) 1 1 (st tree w os).abs (blockOf (body pw) (env pw) (cE pw) p0 [topFrame p0])=some (.next,(st tree w os).abs,cE pw,p0):=by kernel_rfl
theorem fin_(w:World)(s:SharedT)(c:Code)(p:Pos):topRun treeTable pw w 11 (some (.ref 6)) 2 s.abs ⟨doneF .next,c,p,[topFrame p0]⟩=some s.abs:=by kernel_rfl
theorem size_(w:World):((boot_heap w.params).isNs mainGlobals&&(Array.mk []:Array GenState).size==0,(boot_heap w.params).objs.size,(boot_heap w.params).nsMap mainGlobals "__annotations__")=(true,11,some (.ref 6)):=by kernel_rfl
theorem pair2{A B:Type}{a a':A}{b b':B}(x:a=a')(y:b=b'):(a,b)=(a',b'):=by rw[x,y]
theorem same{a b:Rs}{x:Option Rs}(h:x=some a)(k:x=some b):b=a:=Option.some.inj (k.symm.trans h)
abbrev S0(w:World)(os:OsState):Shared:=⟨boot_heap w.params,Array.mk [],boot_drawn,boot_toks,os⟩
theorem top_{w:World}{os:OsState}{s:SharedT}{p:Pos}(hr:run pw tree w os=some (.next,s,cE pw,p)):topRun treeTable pw w 11 (some (.ref 6)) 9872 (S0 w os) (topStub pw)=some s.abs :=
 topRun_mono 3857 6015 _ _ _ (go_top (n:=12) (N:=6003) (pre_ w os) (piece_block (n:=1) (N:=6002) (block_ w os) ((congrArg (fun l=>topRun treeTable pw w 11 (some (.ref 6)) 6002 (st tree w os).abs (restOf l (env pw) (cE pw) p0 [topFrame p0])) (List.append_nil (body pw))).symm.trans (piece_app (n:=6000) (N:=2) (rest:=[]) (segRun_of hr) (piece_nil (fin_ w s _ _))))))
theorem from_{w:World}{os:OsState}{s:SharedT}(rr:topRun treeTable pw w 11 (some (.ref 6)) 9872 (S0 w os) (topStub pw)=some s.abs)(h1:checks pw (boot_heap w.params) s.abs=true):topFrom treeTable pw w 9872 (S0 w os)=some s.abs:=by
 obtain⟨z1,z2,z3⟩:_∧_∧_:=by simpa only[Prod.mk.injEq] using size_ w
 unfold topFrom
 dsimp only
 rw[z1,z2,z3]
 dsimp only
 rw[rr]
 show(match checks pw (boot_heap w.params) s.abs with | true=>_ | false=>_)=_
 rw[h1]
theorem open_{w:World}{os:OsState}{s:SharedT}(e:fencedOpening treeTable pw w 9872=some (S0 w os))(t:topFrom treeTable pw w 9872 (S0 w os)=some s.abs):openEnds treeTable pw w 9872=some s.abs:=by
 unfold openEnds
 exact Option.bind_eq_some_iff.mpr ⟨_,e,t⟩
theorem seen_{s:Shared}(h2:seen ((recsOf (q pw)).map (·.name)) (ownsOf (q pw)) [] { s with gens:=#[] } = expectedOf (q pw))(h3:s.heap.bltView=bltViewBooted)
 (h4:s.heap.keysOk (looseW (q pw) loose) ((recsOf (q pw)).map (·.name)) ((litsOf (q pw)).map (·.1)) ((clssOf (q pw) (looseW (q pw) loose)).map (·.name))=true)(b1:s.heap.accountedOkI (importedModules pw.main.body)=true)(b2:s.heap.isNs mainGlobals=true)(b3:s.heap.isNs builtinsNs=true)(c1:tablesOk (q pw) s.heap=true)(c2:Xt pw s=true)(c3:(s.gens.size==0)=true)
 (h7:tabsOk (q pw) s=true)(d1:pinSeenD (q pw) (drecsOf (q pw)) s=pinGoodD (drecsOf (q pw)))(d2:plainSeenE (q pw) (looseW (q pw) loose) s=plainGoodE (q pw) (looseW (q pw) loose))(f1:plainSeenD (q pw) loose s=plainGoodD (q pw) loose)(f2:wideSeen (q pw) s=wideGood (q pw))(hA:clsSeenW (q pw) loose s=clsGoodW (q pw) loose) :
  openSeen (q pw) loose (importedModules pw.main.body) (Xt pw) true s=openGood (q pw) loose:=by
 unfold openSeen openGood
 rw[h2,h3,h4,b1,b2,b3,c1,c2,h7,d1,d2,f1,f2,hA]
 simp only[if_true,c3,Bool.and_self]
theorem at_{B:Type}{x:Option Rs}{f:Rs→B}{b:B}{r:Rs}(h:x.map f=some b)(hr:x=some r):f r=b:=by
 subst hr
 exact Option.some.inj h
theorem left_{al:Type}{Yf:Shared→al}{Ya:World→al}(HY:∀ w os r,run pw tree w os=some r→Yf r.2.1.abs=Ya w):LeftO pw (q pw) loose (Xt pw) Yf Ya 9872:=fun w=>by
 obtain⟨⟨h,gs,d,k,os⟩,e,e'⟩:=Option.map_eq_some_iff.mp (boot_open (p:=pw) (N:=9872) (by kernel_rfl) (by rfl) (fun _=>by kernel_rfl) w)
 obtain⟨rfl,rfl,rfl,rfl⟩:h=boot_heap w.params∧gs=Array.mk []∧d=boot_drawn∧k=boot_toks:=by simpa only[Prod.mk.injEq] using e'
 obtain⟨r,hr,h0⟩:=Option.map_eq_some_iff.mp (R0 w os)
 have h1:=at_ (R1 w os) hr
 have h2:=at_ (R2 w os) hr
 have h3:=at_ (R3 w os) hr
 have h4:=at_ (R4 w os) hr
 have h5:=at_ (R5 w os) hr
 have h6:=at_ (R6 w os) hr
 have h7:=at_ (R7 w os) hr
 have h8:=at_ (R8 w os) hr
 have h9:=at_ (R9 w os) hr
 have hA:=at_ (RA w os) hr
 have hy:=HY w os r hr
 obtain⟨f,s,c,p⟩:=r
 obtain⟨e1,e4⟩:=Prod.mk.inj h0
 obtain⟨e2,e3⟩:=Prod.mk.inj e4
 dsimp only at e1 e2 e3
 subst e1 e2 e3
 rw[open_ e (from_ (top_ hr) h1)]
 obtain⟨b1,b4⟩:=Prod.mk.inj h5
 obtain⟨b2,b3⟩:=Prod.mk.inj b4
 obtain⟨c1,c4⟩:=Prod.mk.inj h6
 obtain⟨c2,c3⟩:=Prod.mk.inj c4
 obtain⟨d1,d2⟩:=Prod.mk.inj h8
 obtain⟨f1,f2⟩:=Prod.mk.inj h9
 exact congrArg some (pair2 (seen_ h2 h3 h4 b1 b2 b3 c1 c2 c3 h7 d1 d2 f1 f2 hA) hy)
def Facts(K:Frag):Prop:=fF K=gB pw∧fC K=gC pw∧fD K=gD
def Has(h:Heap):Prop:=∃ K:Frag,K.In h∧Facts K
theorem r8{r:SharedT}{a:Addr}{o:Obj}:∀ {l:List Addr},(l.filterMap (pick r)).lookup a=some o→pick r a=some (a,o)
 | [],h=>nomatch h
 | b::l,h=>by
  rw[List.filterMap_cons] at h
  cases hp:pick r b with
  | none=>rw[hp] at h; exact r8 h
  | some x =>
   rw[hp] at h
   have hx:x.1=b:=by
    unfold pick at hp
    split at hp
    ·obtain⟨o',_,rfl⟩:=Option.map_eq_some_iff.mp hp
     rfl
    ·cases hp
   obtain⟨c,y⟩:=x
   simp only[List.lookup] at h
   split at h
   ·rename_i e
    cases h
    rw[beq_iff_eq] at e
    subst e
    cases hx
    exact hp
   ·exact r8 h
theorem frag_in(r:SharedT):(frag r).In r.abs.heap:=fun a o h=>by
 have h:=r8 h
 unfold pick at h
 split at h
 ·rename_i o' hb hg
  obtain⟨o2,h2,h3⟩:=Option.map_eq_some_iff.mp h
  cases h3
  exact(abs_get (Nat.blt_eq.mp hb) hg).trans h2
 ·cases h
def hook:Hook:=⟨Prop,fun s=>Has s.heap,fun _=>True,fun _ h=>Has h,fun _ _ e=>of_eq_true e,fun _ _ _ ⟨K,a,b⟩ k=>⟨K,a.keeps k,b⟩⟩
theorem left:LeftO pw (q pw) loose (Xt pw) hook.obs hook.val 9872:=left_ fun w os _ hr=>eq_true ⟨_,frag_in _,at_ (RB w os) hr,at_ (RC w os) hr,at_ (RD w os) hr⟩
def dA:DefRec:=⟨"answers",L2.mW (topP pw 142),L2.kn (topP pw 142),L2.aq (topP pw 142),⟨610,0,620,15⟩⟩
theorem holds(call:WalkOS (q pw) loose (XL (q pw) []) hook.says PySem.Challenge.rw_windcourses_s01_answers dA [] fun f vs=>PySem.call f vs):PySem.Challenge.rw_windcourses_s01_answers.Holds :=
 holds_os (q:=q pw) (loose:=loose) (Xt:=Xt pw) (XP:=XL (q pw) []) (Yf:=hook.obs) (Ya:=hook.val) (YP:=hook.says) (d:=dA) (kwd:=[]) (N:=9872) left hook.of hook.keeps (fun s e=>xl_of s (Bool.and_eq_true_iff.mp e).1) XL.keeps (by kernel_rfl) (by kernel_rfl) (by kernel_rfl) (fun s e=>recFacts_of (Bool.and_eq_true_iff.mp e).2) os_shapes (by decide +kernel) (by decide +kernel) ⟨rfl,rfl,rfl,rfl,rfl,by decide +kernel⟩ ⟨[.list [.int 1]],by decide +kernel,by decide +kernel⟩ call
end WT
end
set_option maxRecDepth 100000
namespace L2
open PySem PySem.Spec PyProof.Rows
abbrev Key:=Sum Int Str
def keyIs:Key→Value→Bool
 | .inl k,v=>Value.isInt k v
 | .inr x,v=>Value.isStrOf x v
def keyH(w:World):Key→Int
 | .inl k=>hashInt k
 | .inr x=>hashStr w x
theorem dq:∀ {k:Key} {v:Value},keyIs k v=true→(∃ i t,k=Sum.inl i∧v=Value.int i t)∨(∃ x t,k=Sum.inr x∧v=Value.str x t)
 | .inl i,v,h=>by
  obtain⟨t,e⟩:=Value.isInt_shape (k:=i) (v:=v) h
  exact .inl ⟨i,t,rfl,e⟩
 | .inr x,v,h=>by
  obtain⟨t,e⟩:=Value.isStrOf_shape (x:=x) (v:=v) h
  exact .inr ⟨x,t,rfl,e⟩
theorem key_ll(a b:Int):decide ((Sum.inl a:Key)=Sum.inl b)=(a==b):=by
 by_cases e:a=b
 ·subst e; simp
 ·have h:¬ (Sum.inl a:Key)=Sum.inl b:=fun q=>e (Sum.inl.inj q)
  rw[decide_eq_false h]
  exact(beq_eq_false_iff_ne.mpr e).symm
theorem key_rr(a b:Str):decide ((Sum.inr a:Key)=Sum.inr b)=decide (a=b):=by
 by_cases e:a=b
 ·subst e; simp
 ·have h:¬ (Sum.inr a:Key)=Sum.inr b:=fun q=>e (Sum.inr.inj q)
  rw[decide_eq_false h,decide_eq_false e]
theorem key_lr(a:Int)(b:Str):decide ((Sum.inl a:Key)=Sum.inr b)=false:=decide_eq_false (fun q=>nomatch q)
theorem key_rl(a:Str)(b:Int):decide ((Sum.inr a:Key)=Sum.inl b)=false:=decide_eq_false (fun q=>nomatch q)
def mixKind(prog:Program)(w:World):PySem.KeyKind prog w Key where
 is:=keyIs
 hash:=keyH w
 inj:=fun v a b ha hb=>by
  rcases dq ha with⟨i,t,rfl,rfl⟩ | ⟨x,t,rfl,rfl⟩
  ·rcases dq hb with⟨j,u,rfl,e⟩ | ⟨y,u,rfl,e⟩
   ·injection e with e1 _; rw[e1]
   ·exact nomatch e
  ·rcases dq hb with⟨j,u,rfl,e⟩ | ⟨y,u,rfl,e⟩
   ·exact nomatch e
   ·injection e with e1 _; rw[e1]
 byValue:=fun k v h=>by
  rcases dq h with⟨i,t,rfl,rfl⟩ | ⟨x,t,rfl,rfl⟩<;>rfl
 pyHash:=fun hv h=>by
  rcases dq hv with⟨i,t,rfl,rfl⟩ | ⟨x,t,rfl,rfl⟩
  ·exact wpAny_pyHash_int h
  ·exact wpAny_pyHash_str h
 eqBool:=fun hu hv h=>by
  rcases dq hu with⟨i,t,rfl,rfl⟩ | ⟨x,t,rfl,rfl⟩
  ·rcases dq hv with⟨j,u,rfl,rfl⟩ | ⟨y,u,rfl,rfl⟩
   ·rw[key_ll] at h; exact wpAny_eqBool_int h
   ·rw[key_lr] at h; exact SeqAt.EqAt.int_str i t y u _ _ _ _ h
  ·rcases dq hv with⟨j,u,rfl,rfl⟩ | ⟨y,u,rfl,rfl⟩
   ·rw[key_rl] at h; exact SeqAt.EqAt.str_int x t j u _ _ _ _ h
   ·rw[key_rr] at h; exact wpAny_eqBool_str h
 «strs»:=fun k x t v h=>by
  rcases dq h with⟨i,u,rfl,e⟩ | ⟨y,u,rfl,e⟩
  ·exact nomatch e
  ·injection e with e1 _
   subst e1
   cases v<;>rfl
end L2
namespace L2
open PySem PySem.Spec PyProof.Rows
inductive V where
 | non | bl (b:Bool) | int (i:Int) | str (x:Str) | byt (b:Array UInt8) | flt (b:UInt64) | ref (a:Addr) | ty (n:String)
 deriving DecidableEq
def RelV:V→Value→Prop
 | .non,u=>u=Value.none
 | .bl b,u=>u=Value.bool b
 | .int i,u=>∃ t,u=Value.int i t
 | .str x,u=>∃ t,u=Value.str x t
 | .byt b,u=>∃ t,u=Value.bytes b t
 | .flt b,u=>∃ t,u=Value.float b t
 | .ref a,u=>u=Value.ref a
 | .ty n,u=>u=Value.type n
abbrev Vals:List V→List Value→Prop:=Paired RelV
theorem Vals.length{xs:List V}{us:List Value}(r:Vals xs us):xs.length=us.length:=Paired.length r
theorem Vals.get:∀ {xs:List V} {us:List Value} {i:Nat} {x:V},Vals xs us→xs[i]? = some x→∃ u,us[i]? = some u∧RelV x u
 | _,_,_,_,.nil,e=>by simp at e
 | _,_,0,_,.cons r _,e=>by simp at e; subst e; exact⟨_,rfl,r⟩
 | _,_,i+1,x,.cons _ t,e=>by
  obtain⟨u,h1,h2⟩:=Vals.get (i:=i) (x:=x) t (by simpa using e)
  exact⟨u,by simpa using h1,h2⟩
theorem Vals.append:∀ {xs ys:List V} {us ws:List Value},Vals xs us→Vals ys ws→Vals (xs++ys) (us++ws)
 | _,_,_,_,.nil,s=>s
 | _,_,_,_,.cons r t,s=>.cons r (Vals.append t s)
theorem Vals.take:∀ {xs:List V} {us:List Value} (n:Nat),Vals xs us→Vals (xs.take n) (us.take n)
 | _,_,0,_=>.nil
 | _,_,_+1,.nil=>.nil
 | _,_,n+1,.cons r t=>.cons r (Vals.take n t)
theorem Vals.drop:∀ {xs:List V} {us:List Value} (n:Nat),Vals xs us→Vals (xs.drop n) (us.drop n)
 | _,_,0,r=>r
 | _,_,_+1,.nil=>.nil
 | _,_,n+1,.cons _ t=>Vals.drop n t
def RelO:Option V→Option Value→Prop
 | some v,some u=>RelV v u
 | none,none=>True
 | _,_=>False
def KV{κ:Type}:List (κ×V)→List (κ×Value)→Prop:=Paired fun(p:κ×V) (q:κ×Value)=>p.1=q.1∧RelV p.2 q.2
def kV:Key→V
 | .inl i=>.int i
 | .inr x=>.str x
inductive HO where
 | lst (xs:List V)
 | tup (xs:List V)
 | dK (kvs:List (Key×V)) | dT (kvs:List (List Key×V))
 | set (S:Int→Bool) (n:Nat)
 | ins (C dx:Addr) (fs:List (Str×V))
 | own (x:Addr)
 | xd (fs:List (Str×V))
 | met (f x:Addr)
 | rng (lo hi:Int)
 | frz (o:Obj) (u:HO)
 | tbl (ps:Array Value)
 | ext (φ:Heap→Prop)
abbrev Hp:=Addr→Option HO
def upd(H:Hp)(a:Addr)(o:HO):Hp:=fun b=>if b=a then some o else H b
theorem ai{H:Hp}{a:Addr}{o:HO}:upd H a o a=some o:=by unfold upd; rw[if_pos rfl]
theorem ay{H:Hp}{a b:Addr}{o:HO}(h:b≠a):upd H a o b=H b:=by unfold upd; rw[if_neg h]
theorem mL{H:Hp}{a b:Addr}{o u:HO}(h:H a=some o)(h':H b=some u)(d:o≠u):a≠b:=by
 intro e; subst e; rw[h] at h'; exact d (Option.some.inj h')
theorem aC{H:Hp}{a b:Addr}{o:HO}(h:H a=some o)(h':H b=none):a≠b:=by
 intro e; subst e; rw[h] at h'; cases h'
section
variable (P:Program)(w:World)
def gr(H:Hp)(h:Heap)(a:Addr):HO→Prop
 | .lst xs=>xs.length≤sizeLine∧∃ (its:List Value) (n:Nat),Vals xs its∧h.get? a=some { cls:=.type "list",data:=.seq its.toArray n }
 | .tup xs=>xs.length≤sizeLine∧∃ its:List Value,Vals xs its∧IsTup h a its.toArray
 | .dK kvs=>kvs.length≤sizeLine∧(a==sysModules)=false∧∃ vs,KV kvs vs∧h.DictOf (mixKind P w) a vs
 | .dT kvs=>kvs.length≤sizeLine∧(a==sysModules)=false∧∃ xs:List (List Key×Addr×Value),
   Paired (fun(p:List Key×V) (q:List Key×Addr×Value)=>p.1=q.1∧H q.2.1=some (.tup (p.1.map kV))∧RelV p.2 q.2.2) kvs xs ∧
   ∃ o es ep,h.get? a=some o∧o.ExactDict∧o.data = .dict es ep∧es.toList=xs.map (entryOfKey (tupleKind (mixKind P w)))∧(xs.map (·.1)).Nodup
 | .set S n=>h.SetOf (intKind P w) a S n
 | .ins C dx fs=>H dx=some (.own a)∧fs.length≤1000∧dx≠a∧h.get? a=some (PySem.W.instObj C dx) ∧
   ∃ mA,h.Ns1 dx mA∧(∀ f,RelO (fs.lookup f) (mA f))∧PySem.Within mA (fs.map (·.1))
 | .own _=>∃ o,h.get? a=some o
 | .xd fs=>∃ mA,h.Ns1 a mA∧∀ f,RelO (fs.lookup f) (mA f)
 | .rng lo hi=>∃ t u v,h.get? a=some { cls:=.type "range",data:=.fields #[.int lo t,.int hi u,.int 1 v] }
 | .frz o u=>h.get? a=some o∧gr H h a u
 | .tbl ps=>h.get? a=some { cls:=.none,data:=.fields ps }
 | .met f x=>h.get? a=some (PySem.W.methodObj (.ref f) (.ref x))
 | .ext φ=>φ h∧(∃ o,h.get? a=some o)∧∀ h1 h2:Heap,φ h1→(∀ o,h1.get? a=some o→h2.get? a=some o)→φ h2
def HOk(H:Hp)(h:Heap):Prop:=∀ a o,H a=some o→gr P w H h a o
end
section
variable {P:Program}{w:World}{H H':Hp}{h h':Heap}{a:Addr}{o:HO}
theorem gr.lt(x:gr P w H h a o):a<h.objs.size:=by
 cases o with
 | lst xs=>obtain⟨_,_,_,_,e⟩:=x; exact Heap.lt_size e
 | tup xs=>obtain⟨_,_,_,p⟩:=x; exact p.lt
 | dK kvs=>obtain⟨_,_,_,_,o,_,_,e,_⟩:=x; exact Heap.lt_size e
 | dT kvs=>obtain⟨_,_,_,_,o,_,_,e,_⟩:=x; exact Heap.lt_size e
 | set S n=>obtain⟨o,_,_,_,e,_⟩:=x; exact Heap.lt_size e
 | ins C dx fs=>obtain⟨_,_,_,e,_⟩:=x; exact Heap.lt_size e
 | own y=>obtain⟨_,e⟩:=x; exact Heap.lt_size e
 | xd fs=>obtain⟨_,⟨_,_,_,e,_⟩,_⟩:=x; exact Heap.lt_size e
 | rng lo hi=>obtain⟨_,_,_,e⟩:=x; exact Heap.lt_size e
 | frz ob u=>obtain⟨e,_⟩:=x; exact Heap.lt_size e
 | tbl ps=>exact Heap.lt_size (show h.get? a=some _ from x)
 | met f y=>exact Heap.lt_size (show h.get? a=some _ from x)
 | ext φ=>obtain⟨_,⟨_,e⟩,_⟩:=x; exact Heap.lt_size e
theorem Paired.mapP{α β:Type}{F G:α→β→Prop}:∀ {l₁:List α} {l₂:List β},Paired F l₁ l₂→(∀ a b,F a b→G a b)→Paired G l₁ l₂
 | _,_,.nil,_=>.nil
 | _,_,.cons r t,f=>.cons (f _ _ r) (Paired.mapP t f)
theorem gr.stay(x:gr P w H h a o)(k:∀ b u,(b=a∨H b=some (.own a))→h.get? b=some u→h'.get? b=some u)
 (ho:∀ b,H b=some (.own a)→H' b=some (.own a))(ht:∀ b xs,H b=some (.tup xs)→H' b=some (.tup xs)):gr P w H' h' a o:=by
 induction o with
 | lst xs=>obtain⟨z,its,n,r,e⟩:=x; exact⟨z,its,n,r,k _ _ (.inl rfl) e⟩
 | tup xs=>obtain⟨z,its,r,ob,e,c⟩:=x; exact⟨z,its,r,ob,k _ _ (.inl rfl) e,c⟩
 | dK kvs=>obtain⟨z,y,vs,r,ob,es,ep,e,c⟩:=x; exact⟨z,y,vs,r,ob,es,ep,k _ _ (.inl rfl) e,c⟩
 | dT kvs =>
  obtain⟨z,y,xs,r,ob,es,ep,e,c⟩:=x
  exact⟨z,y,xs,Paired.mapP r fun p q z=>⟨z.1,ht _ _ z.2.1,z.2.2⟩,ob,es,ep,k _ _ (.inl rfl) e,c⟩
 | set S n=>obtain⟨ob,es,ep,t,e,c⟩:=x; exact⟨ob,es,ep,t,k _ _ (.inl rfl) e,c⟩
 | ins C dx fs =>
  obtain⟨d,z,ne,e,mA,⟨od,es,ep,e2,c⟩,r⟩:=x
  exact⟨ho _ d,z,ne,k _ _ (.inl rfl) e,mA,⟨od,es,ep,k _ _ (.inr d) e2,c⟩,r⟩
 | own y=>obtain⟨ob,e⟩:=x; exact⟨ob,k _ _ (.inl rfl) e⟩
 | xd fs=>obtain⟨mA,⟨od,es,ep,e,c⟩,r⟩:=x; exact⟨mA,⟨od,es,ep,k _ _ (.inl rfl) e,c⟩,r⟩
 | rng lo hi=>obtain⟨t,u,v,e⟩:=x; exact⟨t,u,v,k _ _ (.inl rfl) e⟩
 | frz ob u ih=>obtain⟨e,q⟩:=x; exact⟨k _ _ (.inl rfl) e,ih q⟩
 | tbl ps =>
  have e:h.get? a=some { cls:=.none,data:=.fields ps }:=x
  show h'.get? a=some { cls:=.none,data:=.fields ps }
  exact k a _ (.inl rfl) e
 | met f y =>
  have e:h.get? a=some (PySem.W.methodObj (.ref f) (.ref y)):=x
  show h'.get? a=some (PySem.W.methodObj (.ref f) (.ref y))
  exact k a _ (.inl rfl) e
 | ext φ=>obtain⟨p,⟨o,e⟩,st⟩:=x; exact⟨st _ _ p fun o q=>k _ _ (.inl rfl) q,⟨o,k _ _ (.inl rfl) e⟩,st⟩
theorem HOk.lt(x:HOk P w H h)(e:H a=some o):a<h.objs.size:=(x a o e).lt
theorem HOk.fresh(x:HOk P w H h)(e:h.objs.size≤a):H a=none:=by
 cases q:H a with
 | none=>rfl
 | some u=>exact absurd (Nat.lt_of_lt_of_le (x.lt q) e) (Nat.lt_irrefl _)
theorem HOk.kept(x:HOk P w H h)(k:∀ b u,h.get? b=some u→h'.get? b=some u):HOk P w H h':=fun a o e =>
 (x a o e).stay (fun b u _ q=>k b u q) (fun _ q=>q) fun _ _ q=>q
theorem HOk.laid(x:HOk P w H h)(k:∀ b u,h.get? b=some u→h'.get? b=some u)(hp:h.objs.size≤a)(new:gr P w (upd H a o) h' a o):HOk P w (upd H a o) h':=fun b u e=>by
 have hn:=x.fresh hp
 by_cases hb:b=a
 ·subst hb; rw[ai] at e; cases e; exact new
 ·rw[ay hb] at e
  exact(x b u e).stay (fun c v _ q=>k c v q) (fun c q=>by rw[ay (aC q hn)]; exact q) fun c xs q=>by rw[ay (aC q hn)]; exact q
end
def Rd(H:Hp)(a:Addr)(u:HO):Prop:=H a=some u∨∃ o,H a=some (.frz o u)
theorem Rd.ok{P:Program}{w:World}{H:Hp}{h:Heap}{a:Addr}{u:HO}(r:Rd H a u)(x:HOk P w H h):gr P w H h a u:=by
 rcases r with r | ⟨o,r⟩
 ·exact x a u r
 ·obtain⟨_,q⟩:=x a _ r
  exact q
def Mut:Option HO→Prop
 | some (.lst _)=>True
 | some (.dK _)=>True
 | some (.dT _)=>True
 | some (.set _ _)=>True
 | some (.ins _ _ _)=>True
 | some (.ext _)=>True
 | _=>False
section
variable {P:Program}{w:World}{H:Hp}{h h':Heap}{x e:Addr}{o':HO}
theorem HOk.write(ok:HOk P w H h)(mu:Mut (H x))(he:e=x∨H e=some (.own x))(k:∀ b u,b≠e→h.get? b=some u→h'.get? b=some u)(heo:∃ u,h'.get? e=some u)
 (new:gr P w (upd H x o') h' x o'):HOk P w (upd H x o') h':=fun b u q=>by
 have nown:∀ c y,H c=some (.own y)→c≠x:=fun c y r z=>by subst z; rw[r] at mu; exact mu
 have ntup:∀ c xs,H c=some (.tup xs)→c≠x:=fun c xs r z=>by subst z; rw[r] at mu; exact mu
 by_cases hb:b=x
 ·subst hb; rw[ai] at q; cases q; exact new
 ·rw[ay hb] at q
  by_cases hbe:b=e
  ·have q':H b=some (.own x):=by
    rcases he with z | z
    ·exact absurd (hbe.trans z) hb
    ·rw[hbe]; exact z
   rw[q] at q'; cases q'
   obtain⟨v,hv⟩:=heo
   exact⟨v,by rw[hbe]; exact hv⟩
  ·refine(ok b u q).stay (fun c v hc r=>k c v ?_ r) (fun c r=>by rw[ay (nown c b r)]; exact r) fun c xs r=>by rw[ay (ntup c xs r)]; exact r
   rcases hc with rfl | hc
   ·exact hbe
   ·rintro rfl
    rcases he with z | z
    ·exact nown c b hc z
    ·rw[hc] at z; cases z; exact hb rfl
end
structure Un (fs ex:List Addr) (H H':Hp) (h h':Heap):Prop where
 keep:∀ b o,h.get? b=some o→H b=none→b∉fs→b∉ex→h'.get? b=some o
 slot:∀ b o,h.get? b=some o→H b=none→b∈fs→b∉ex→∃ sl,h'.get? b=some { o with slots:=sl }
 free:∀ b o,h.get? b=some o→H b=none→b∉ex→H' b=none
 there:∀ b o,h.get? b=some o→b∉ex→∃ o',h'.get? b=some o'
 tups:∀ b xs,H b=some (.tup xs)→H' b=some (.tup xs)
 frzs:∀ b o u,H b=some (.frz o u)→H' b=some (.frz o u)
 tbls:∀ b ps,H b=some (.tbl ps)→∃ more,H' b=some (.tbl (ps++more))
section
variable {fs fs' ex ex':List Addr}{H H1 H2:Hp}{h h1 h2 h':Heap}{a x e:Addr}{o:HO}
theorem Un.any(u:Un fs ex H H1 h h1){b:Addr}{ob:Obj}(q:h.get? b=some ob)(n:H b=none)(hx:b∉ex):∃ sl,h1.get? b=some { ob with slots:=sl }:=by
 by_cases hb:b∈fs
 ·exact u.slot b ob q n hb hx
 ·exact⟨ob.slots,u.keep b ob q n hb hx⟩
theorem Un.kept(k:∀ b u,h.get? b=some u→h'.get? b=some u):Un fs ex H H h h' :=
 ⟨fun b ob q _ _ _=>k b ob q,fun b ob q _ _ _=>⟨ob.slots,k b ob q⟩,fun _ _ _ n _=>n,fun b ob q _=>⟨ob,k b ob q⟩,fun _ _ q=>q,fun _ _ _ q=>q,fun _ ps q=>⟨#[],by rw[q]; simp⟩⟩
theorem Un.refl:Un fs ex H H h h:=Un.kept fun _ _ q=>q
theorem Un.laid(k:∀ b u,h.get? b=some u→h'.get? b=some u)(hp:h.objs.size≤a)(hn:H a=none):Un fs ex H (upd H a o) h h' where
 keep:=fun b u q _ _ _=>k b u q
 slot:=fun b u q _ _ _=>⟨u.slots,k b u q⟩
 free:=fun b u q n _=>by rw[ay (Nat.ne_of_lt (Nat.lt_of_lt_of_le (Heap.lt_size q) hp))]; exact n
 there:=fun b u q _=>⟨u,k b u q⟩
 tups:=fun b xs q=>by rw[ay (aC q hn)]; exact q
 frzs:=fun b u xs q=>by rw[ay (aC q hn)]; exact q
 tbls:=fun b ps q=>⟨#[],by rw[ay (aC q hn),q]; simp⟩
theorem Un.write(mu:Mut (H x))(he:e=x∨H e=some (.own x))(k:∀ b u,b≠e→h.get? b=some u→h'.get? b=some u)(heo:∃ u,h'.get? e=some u):Un fs ex H (upd H x o) h h':=by
 have hx:∀ b,H b=none→b≠x:=fun b n z=>by subst z; rw[n] at mu; exact mu
 have hb:∀ b,H b=none→b≠e:=fun b n z=>by
  subst z
  rcases he with r | r
  ·exact hx b n r
  ·rw[n] at r; cases r
 have hm:∀ b u,H b=some u→¬ Mut (some u)→b≠x:=fun b u q nm z=>by subst z; rw[q] at mu; exact nm mu
 refine⟨fun b u q n _ _=>k b u (hb b n) q,fun b u q n _ _=>⟨u.slots,k b u (hb b n) q⟩,fun b u q n _=>by rw[ay (hx b n)]; exact n,fun b u q _=>?_,
  fun b xs q=>by rw[ay (hm b _ q fun z=>z)]; exact q,fun b u xs q=>by rw[ay (hm b _ q fun z=>z)]; exact q,fun b ps q=>⟨#[],by rw[ay (hm b _ q fun z=>z),q]; simp⟩⟩
 by_cases hbe:b=e
 ·subst hbe; exact heo
 ·exact⟨u,k b u hbe q⟩
end
def trk(h:Heap)(H:Hp):List Addr:=(List.range h.objs.size).filter fun a=>(H a).isSome
def hidT(h:Heap)(H:Hp):Heap:=PySem.W.hideAll h (trk h H)
theorem hidT_size(h:Heap)(H:Hp):(hidT h H).objs.size=h.objs.size:=PySem.W.hideAll_size _ _
theorem hidT_get{h:Heap}{H:Hp}{b:Addr}{o:Obj}(e:h.get? b=some o)(n:H b=none):(hidT h H).get? b=some o :=
 PySem.W.hideAll_get _ e fun hm=>by
  have q:(H b).isSome=true:=(List.mem_filter.mp hm).2
  rw[n] at q; simp at q
theorem of_hidT{h:Heap}{H:Hp}{b:Addr}{o:Obj}(e:(hidT h H).get? b=some o):h.get? b=some o∧H b=none:=by
 have e':h.get? b=some o:=PySem.W.of_hideAll (trk h H) e
 refine⟨e',?_⟩
 cases q:H b with
 | none=>rfl
 | some x =>
  have hm:b∈trk h H:=List.mem_filter.mpr ⟨List.mem_range.mpr (Heap.lt_size e'),by simp[q]⟩
  have z:(hidT h H).get? b=none:=PySem.W.hideAll_none (trk h H) hm
  rw[z] at e; cases e
end L2
namespace L2
open PySem PySem.Spec PyProof.Rows
structure Mod (K:PySem.W.Frag) (mg:Str→Option Value) (base:Heap):Prop where
 kin:K.In base
 glob:base.Ns mainGlobals mg
 blt:∃ mb,base.Ns builtinsNs mb∧∀ x:Str,x ≠ "__name__" → mb x=bootBuiltins x
 nolimit:base.NoLimit
 digits:∃ mc,base.Ns cStatics mc∧mc "sys.int_max_str_digits" = none
structure Cx where
 prog:Program
 w:World
 K:PySem.W.Frag
 mg:Str→Option Value
 base:Heap
 A:Around
 N:List Str
 s_0:Shared
 H_0:Hp
 env:Env
 outer:List Env
 stack:List Env
 ex:List Addr
 fn:Str→Bool
 calm:Bool
 pn:List (Addr×Obj)
 xe:Value→Shared→Prop
def frs(l:List Env):List Addr:=l.filterMap (·.frame)
abbrev Cx.fs(X:Cx):List Addr:=frs X.outer
def Vis(sc:Scope)(x:Str):Prop:=sc.names.lookup x=some .local∨sc.names.lookup x=some .cell∨sc.names.lookup x=some .free
def Loc(sc:Scope)(x:Str):Prop:=sc.names.lookup x=some .local∨sc.names.lookup x=some .cell
def Look(env:Env)(h:Heap)(m:Str→Option Value)(x:Str)(u:Value):Prop :=
 (env.kindOf x=some .local∧m x=some u)∨((env.kindOf x=some .cell∨env.kindOf x=some .free)∧∃ c,env.cells.lookup x=some c∧h.IsCell c (some u))
structure Cx.Ok (X:Cx):Prop where
 mod:Mod X.K X.mg X.base
 kind:X.env.scope.kind = .function
 glob:X.env.globals=mainGlobals
 blt:X.env.builtins=builtinsNs
 above:X.s_0.heap.objs.size≤X.env.locals
 inj:∀ x y c,X.env.cells.lookup x=some c→X.env.cells.lookup y=some c→x=y
 has:∀ x,(X.env.kindOf x=some .cell∨X.env.kindOf x=some .free)→∃ c,X.env.cells.lookup x=some c
 cab:∀ x c,X.fn x=true→X.env.cells.lookup x=some c→X.s_0.heap.objs.size≤c
 hd:X.calm=true→X.A.handled=none
 frames:X.A.frames=some X.stack
 stk:X.stack=X.outer∨(X.stack=X.env::X.outer∧X.env.frame=some X.env.locals)
 exf:∀ b∈X.ex,b≠X.env.locals∧∀ x c,X.env.cells.lookup x=some c→c≠b
 bs:∀ b o,X.base.get? b=some o→X.s_0.heap.get? b=some o∧X.H_0 b=none
 bsz:X.base.objs.size≤X.s_0.heap.objs.size
 noex:∀ b o,X.base.get? b=some o→b∉X.ex
 exfs:∀ b∈X.ex,b∉X.fs
 funs:X.s_0.heap.FunFrames X.base X.outer
 frf:∀ b∈X.fs,X.H_0 b=none
structure Inv (X:Cx) (pins:List (Addr×Obj)) (σ:List (Option V)) (H:Hp) (s:Shared):Prop where
 ok:X.Ok
 os:s.os=X.s_0.os
 bare:AllBare s.gens
 base:Un X.fs X.ex X.H_0 H X.s_0.heap s.heap
 loc:∃ m,s.heap.Ns X.env.locals m∧∀ (i:Nat) (x:Str) (v:V),X.N[i]? = some x→σ[i]? = some (some v)→Vis X.env.scope x→∃ u,RelV v u∧Look X.env s.heap m x u
 cell:∀ x c,X.env.cells.lookup x=some c→∃ v,s.heap.IsCell c v
 free:H X.env.locals=none
 oH:∀ x c,X.env.cells.lookup x=some c→H c=none
 pin:∀ p∈X.pn++pins,s.heap.get? p.1=some p.2∧H p.1=none∧p.1≠X.env.locals∧p.1∉X.fs∧∀ v,p.2.data≠.cell v
 hok:HOk X.prog X.w H s.heap
 len:σ.length=X.N.length
section
variable {X:Cx}{pins:List (Addr×Obj)}{σ:List (Option V)}{H H':Hp}{s:Shared}{h':Heap}
theorem Cx.Ok.nofr(ok:X.Ok){b:Addr}{o:Obj}(e:X.base.get? b=some o):b∉X.fs:=fun hb=>by
 have:=(ok.funs.mem hb).1
 rw[e] at this; cases this
theorem Inv.bs(I:Inv X pins σ H s):∀ b o,X.base.get? b=some o→s.heap.get? b=some o∧H b=none:=fun b o e =>
 ⟨I.base.keep b o (I.ok.bs b o e).1 (I.ok.bs b o e).2 (I.ok.nofr e) (I.ok.noex b o e),I.base.free b o (I.ok.bs b o e).1 (I.ok.bs b o e).2 (I.ok.noex b o e)⟩
theorem Inv.bk(I:Inv X pins σ H s):∀ b o,X.base.get? b=some o→s.heap.get? b=some o:=fun b o e=>(I.bs b o e).1
theorem Inv.mod(I:Inv X pins σ H s):Mod X.K X.mg X.base:=I.ok.mod
theorem Inv.kIn(I:Inv X pins σ H s):X.K.In s.heap:=I.ok.mod.kin.keeps I.bk
theorem Inv.lt(I:Inv X pins σ H s):X.env.locals<s.heap.objs.size:=let ⟨_,hn,_⟩:=I.loc; hn.lt
theorem Inv.sz(I:Inv X pins σ H s):X.s_0.heap.objs.size≤s.heap.objs.size:=Nat.le_trans I.ok.above (Nat.le_of_lt I.lt)
theorem Inv.nofs(I:Inv X pins σ H s){a:Addr}(h:s.heap.objs.size≤a):a∉X.fs:=fun hb=>by
 obtain⟨_,o,ho,_⟩:=I.ok.funs.mem hb
 exact absurd (Nat.lt_of_lt_of_le (Heap.lt_size ho) (Nat.le_trans I.sz h)) (Nat.lt_irrefl _)
theorem Inv.cne(I:Inv X pins σ H s):∀ x c,X.env.cells.lookup x=some c→c≠X.env.locals:=fun x c e z=>by
 obtain⟨v,o,ho,hd⟩:=I.cell x c e
 obtain⟨m,⟨o',es,ep,ho',hd',_⟩,_⟩:=I.loc
 rw[z,ho'] at ho; cases ho; rw[hd'] at hd; cases hd
theorem Inv.funs(I:Inv X pins σ H s):s.heap.FunFrames X.base X.outer:=by
 have all:∀ (l:List Env),(∀ b∈frs l,b∈X.fs)→X.s_0.heap.FunFrames X.base l→s.heap.FunFrames X.base l:=by
  intro l
  induction l with
  | nil=>intro _ _; trivial
  | cons env r ih =>
   intro hs hl
   obtain⟨hk,⟨L,o,hf,hn,ho,hd⟩,hr⟩:=hl
   have hL:L∈X.fs:=hs L (by unfold frs; rw[List.filterMap_cons,hf]; exact List.mem_cons_self)
   obtain⟨sl,e⟩:=I.base.slot L o ho (I.ok.frf L hL) hL fun z=>I.ok.exfs L z hL
   exact⟨hk,⟨L,_,hf,hn,e,hd⟩,ih (fun b hb=>hs b (by unfold frs; rw[List.filterMap_cons,hf]; exact List.mem_cons_of_mem _ hb)) hr⟩
 exact all X.outer (fun _ hb=>hb) I.ok.funs
theorem Inv.stack(I:Inv X pins σ H s):s.heap.FunFrames X.base X.stack:=by
 rcases I.ok.stk with e | ⟨e,hf⟩
 ·rw[e]; exact I.funs
 ·rw[e]
  obtain⟨m,hn,_⟩:=I.loc
  refine .cons (by rw[I.ok.kind]; decide) hf hn ?_ I.funs
  exact Heap.get?_none_of_le (Nat.le_trans I.ok.bsz I.ok.above)
theorem Inv.stkSub(I:Inv X pins σ H s):∀ b∈frs X.stack,b∈X.env.locals::X.fs:=fun b hb=>by
 rcases I.ok.stk with e | ⟨e,hf⟩
 ·rw[e] at hb; exact List.mem_cons_of_mem _ hb
 ·rw[e] at hb
  unfold frs at hb
  rw[List.filterMap_cons,hf] at hb
  exact hb
theorem Inv.stkFree(I:Inv X pins σ H s):∀ b∈frs X.stack,H b=none:=fun b hb=>by
 rcases List.mem_cons.mp (I.stkSub b hb) with e | hb
 ·rw[e]; exact I.free
 ·obtain⟨_,o,ho,_⟩:=I.ok.funs.mem hb
  exact I.base.free b o ho (I.ok.frf b hb) fun z=>I.ok.exfs b z hb
theorem Inv.step{g':Array GenState}{t':Nat}{d':Drawn}{ch:List Addr}(I:Inv X pins σ H s)
 (hch:∀ b∈ch,(b∈X.ex∨X.s_0.heap.objs.size≤b)∧b≠X.env.locals∧(∀ x c,X.env.cells.lookup x=some c→c≠b)∧∀ p∈X.pn++pins,p.1≠b)
 (keep:∀ b o,b≠X.env.locals→b∉X.fs→b∉ch→s.heap.get? b=some o→H b=none→h'.get? b=some o)
 (slot:∀ b o,b≠X.env.locals→b∈X.fs→b∉ch→s.heap.get? b=some o→H b=none→∃ sl,h'.get? b=some { o with slots:=sl })(free:∀ b o,b∉ch→s.heap.get? b=some o→H b=none→H' b=none)
 (there:∀ b o,b∉ch→s.heap.get? b=some o→∃ o',h'.get? b=some o')
 (tups:∀ b xs,H b=some (.tup xs)→H' b=some (.tup xs))(frzs:∀ b o u,H b=some (.frz o u)→H' b=some (.frz o u))(tbls:∀ b ps,H b=some (.tbl ps)→∃ more,H' b=some (.tbl (ps++more)))
 (ns:∀ m,s.heap.Ns X.env.locals m→h'.Ns X.env.locals m)(hok:HOk X.prog X.w H' h')(hg:AllBare g') :
  Inv X pins σ H' { s with heap:=h',gens:=g',drawn:=d',toks:=t' }:=by
 have neL:∀ b o,X.s_0.heap.get? b=some o→b≠X.env.locals:=fun b o e=>Nat.ne_of_lt (Nat.lt_of_lt_of_le (Heap.lt_size e) I.ok.above)
 have neC:∀ b o,X.s_0.heap.get? b=some o→b∉X.ex→b∉ch:=fun b o e hx hb=>by
  rcases(hch b hb).1 with z | z
  ·exact hx z
  ·exact absurd (Nat.lt_of_lt_of_le (Heap.lt_size e) z) (Nat.lt_irrefl _)
 have cellK:∀ x c,X.env.cells.lookup x=some c→∀ v,s.heap.IsCell c v→h'.IsCell c v:=fun x c e v ⟨o,ho,hd⟩=>by
  have nch:c∉ch:=fun z=>(hch c z).2.2.1 x c e rfl
  by_cases hc:c∈X.fs
  ·obtain⟨sl,q⟩:=slot c o (I.cne x c e) hc nch ho (I.oH x c e)
   exact⟨_,q,hd⟩
  ·exact⟨o,keep c o (I.cne x c e) hc nch ho (I.oH x c e),hd⟩
 refine⟨I.ok,I.os,hg,⟨fun b o e n hb hx=>?_,fun b o e n hb hx=>?_,fun b o e n hx=>?_,fun b o e hx=>?_,fun b xs e=>tups b xs (I.base.tups b xs e),fun b o xs e=>frzs b o xs (I.base.frzs b o xs e),fun b ps e=>?_⟩,?_,fun x c e=>?_,?_,fun x c e=>?_,fun p hp=>?_,hok,I.len⟩
 ·exact keep b o (neL b o e) hb (neC b o e hx) (I.base.keep b o e n hb hx) (I.base.free b o e n hx)
 ·obtain⟨sl,e1⟩:=I.base.slot b o e n hb hx
  obtain⟨sl',e2⟩:=slot b _ (neL b o e) hb (neC b o e hx) e1 (I.base.free b o e n hx)
  exact⟨sl',e2⟩
 ·obtain⟨o',e1⟩:=I.base.there b o e hx
  exact free b o' (neC b o e hx) e1 (I.base.free b o e n hx)
 ·obtain⟨o',e1⟩:=I.base.there b o e hx
  exact there b o' (neC b o e hx) e1
 ·obtain⟨m1,e1⟩:=I.base.tbls b ps e
  obtain⟨m2,e2⟩:=tbls b _ e1
  exact⟨m1++m2,by rw[e2,Array.append_assoc]⟩
 ·obtain⟨m,hn,hl⟩:=I.loc
  refine⟨m,ns m hn,fun i x v e1 e2 e3=>?_⟩
  obtain⟨u,r,l⟩:=hl i x v e1 e2 e3
  refine⟨u,r,?_⟩
  rcases l with l | ⟨k,c,e,z⟩
  ·exact .inl l
  ·exact .inr ⟨k,c,e,cellK x c e _ z⟩
 ·obtain⟨v,z⟩:=I.cell x c e
  exact⟨v,cellK x c e v z⟩
 ·obtain⟨m,⟨o,_,_,ho,_⟩,_⟩:=I.loc
  exact free _ o (fun z=>(hch _ z).2.1 rfl) ho I.free
 ·obtain⟨v,o,ho,hd⟩:=I.cell x c e
  exact free c o (fun z=>(hch c z).2.2.1 x c e rfl) ho (I.oH x c e)
 ·obtain⟨e,n,ne,nf,d⟩:=I.pin p hp
  have nch:p.1∉ch:=fun z=>(hch p.1 z).2.2.2 p hp rfl
  exact⟨keep p.1 p.2 ne nf nch e n,free p.1 p.2 nch e n,ne,nf,d⟩
theorem Inv.un{t':Nat}(I:Inv X pins σ H s)(u:Un X.fs [] H H' s.heap h')(hok:HOk X.prog X.w H' h'):Inv X pins σ H' { s with heap:=h',toks:=t' }:=by
 obtain⟨m,⟨o,es,ep,ho,r⟩,_⟩:=id I.loc
 obtain⟨sl,hL⟩:=u.any ho I.free (by simp)
 exact I.step (g':=s.gens) (d':=s.drawn) (ch:=[]) (fun _ z=>nomatch z) (fun b o _ hb _ e n=>u.keep b o e n hb (by simp)) (fun b o _ hb _ e n=>u.slot b o e n hb (by simp)) (fun b o _ e n=>u.free b o e n (by simp)) (fun b o _ e=>u.there b o e (by simp)) u.tups u.frzs u.tbls (fun m' hm=>by
  obtain⟨o',es',ep',ho',r'⟩:=hm
  rw[ho] at ho'; cases ho'
  exact⟨_,es',ep',hL,r'⟩) hok I.bare
theorem Inv.call{g':Array GenState}{t':Nat}{d':Drawn}{ch:List Addr}(I:Inv X pins σ H s)(u:Un (frs X.stack) ch H H' s.heap h')(hok:HOk X.prog X.w H' h')(hg:AllBare g')
 (hch:∀ b∈ch,(b∈X.ex∨X.s_0.heap.objs.size≤b)∧b≠X.env.locals∧(∀ x c,X.env.cells.lookup x=some c→c≠b)∧∀ p∈X.pn++pins,p.1≠b) :
  Inv X pins σ H' { s with heap:=h',gens:=g',drawn:=d',toks:=t' }:=by
 obtain⟨m,⟨o,es,ep,ho,r⟩,_⟩:=id I.loc
 obtain⟨sl,hL⟩:=u.any ho I.free fun z=>(hch _ z).2.1 rfl
 exact I.step (ch:=ch) hch (fun b o hL hb hc e n=>u.keep b o e n (fun z=>(List.mem_cons.mp (I.stkSub b z)).elim hL hb) hc) (fun b o _ _ hc e n=>u.any e n hc) (fun b o hc e n=>u.free b o e n hc) (fun b o hc e=>u.there b o e hc) u.tups u.frzs u.tbls (fun m' hm=>by
  obtain⟨o',es',ep',ho',r'⟩:=hm
  rw[ho] at ho'; cases ho'
  exact⟨_,es',ep',hL,r'⟩) hok hg
theorem Inv.turned{t':Nat}{it:Addr}(I:Inv X pins σ H s)(k:∀ b o,b≠it→s.heap.get? b=some o→h'.get? b=some o)(hn:H it=none)(hL:it≠X.env.locals)
 (h1:it∈X.ex∨X.s_0.heap.objs.size≤it)(h2:∀ x c,X.env.cells.lookup x=some c→c≠it)(h3:∀ p∈X.pn++pins,p.1≠it):Inv X pins σ H { s with heap:=h',toks:=t' }:=by
 have nit:∀ b u,H b=some u→b≠it:=fun b u e z=>by rw[z,hn] at e; cases e
 refine I.step (g':=s.gens) (d':=s.drawn) (ch:=[it]) (fun b hb=>?_) (fun b o _ _ hc e _=>k b o (fun z=>hc (by simp[z])) e) (fun b o _ _ hc e _=>⟨o.slots,k b o (fun z=>hc (by simp[z])) e⟩) (fun _ _ _ _ n=>n)
  (fun b o hc e=>⟨o,k b o (fun z=>hc (by simp[z])) e⟩) (fun _ _ e=>e) (fun _ _ _ e=>e) (fun b ps e=>⟨#[],by rw[e]; simp⟩) (fun m hm=>?_) (fun b u e=>?_) I.bare
 ·have e:b=it:=by simpa using hb
  subst e
  exact⟨h1,hL,h2,h3⟩
 ·obtain⟨o,es,ep,ho,r⟩:=hm
  exact⟨o,es,ep,k _ o (Ne.symm hL) ho,r⟩
 ·refine(I.hok b u e).stay (fun c v hc q=>k c v ?_ q) (fun _ q=>q) fun _ _ q=>q
  rcases hc with z | z
  ·rw[z]; exact nit b u e
  ·exact nit c _ z
theorem Inv.tok(I:Inv X pins σ H s)(t:Nat):Inv X pins σ H { s with toks:=t }:=I.un (h':=s.heap) (t':=t) Un.refl I.hok
theorem Inv.kept{t':Nat}(I:Inv X pins σ H s)(k:∀ b u,s.heap.get? b=some u→h'.get? b=some u):Inv X pins σ H { s with heap:=h',toks:=t' }:=I.un (Un.kept k) (I.hok.kept k)
theorem Inv.laid{a:Addr}{o:HO}{t':Nat}(I:Inv X pins σ H s)(k:∀ b u,s.heap.get? b=some u→h'.get? b=some u)(hp:s.heap.objs.size≤a)(new:gr X.prog X.w (upd H a o) h' a o) :
  Inv X pins σ (upd H a o) { s with heap:=h',toks:=t' }:=I.un (Un.laid k hp (I.hok.fresh hp)) (I.hok.laid k hp new)
theorem Inv.write{x e:Addr}{o:HO}{t':Nat}(I:Inv X pins σ H s)(mu:Mut (H x))(he:e=x∨H e=some (.own x))(k:∀ b u,b≠e→s.heap.get? b=some u→h'.get? b=some u)(heo:∃ u,h'.get? e=some u)
 (new:gr X.prog X.w (upd H x o) h' x o):Inv X pins σ (upd H x o) { s with heap:=h',toks:=t' }:=I.un (Un.write mu he k heo) (I.hok.write mu he k heo new)
theorem Inv.weak{σ':List (Option V)}(I:Inv X pins σ H s)(hl:σ'.length=σ.length)(w:∀ (i:Nat) v,σ'[i]? = some (some v)→σ[i]? = some (some v)):Inv X pins σ' H s :=
 ⟨I.ok,I.os,I.bare,I.base,let ⟨m,hn,hl'⟩:=I.loc; ⟨m,hn,fun i x v e1 e2 e3=>hl' i x v e1 (w i v e2) e3⟩,I.cell,I.free,I.oH,I.pin,I.hok,hl.trans I.len⟩
theorem Inv.pins_of{pins':List (Addr×Obj)}(I:Inv X pins σ H s)(h:∀ p∈pins',s.heap.get? p.1=some p.2∧H p.1=none∧p.1≠X.env.locals∧p.1∉X.fs∧∀ v,p.2.data≠.cell v):Inv X pins' σ H s :=
 ⟨I.ok,I.os,I.bare,I.base,I.loc,I.cell,I.free,I.oH,fun p hp=>(List.mem_append.mp hp).elim (fun z=>I.pin p (List.mem_append_left _ z)) (h p),I.hok,I.len⟩
theorem nodup_ix{N:List Str}(hN:N.Nodup){i j:Nat}{x:Str}(a:N[i]? = some x)(b:N[j]? = some x):i=j:=by
 obtain⟨h1,e1⟩:=List.getElem?_eq_some_iff.mp a
 obtain⟨h2,e2⟩:=List.getElem?_eq_some_iff.mp b
 exact(List.getElem_inj hN).mp (e1.trans e2.symm)
theorem store_ok2{M:Model}{A:Around}{E:Value→Shared→Prop}{i:Nat}{x:Str}{v:V}{u:Value}{Q:Unit→Shared→Prop}(I:Inv X pins σ H s)(hN:X.N.Nodup)(hi:X.N[i]? = some x)(hx:Loc X.env.scope x)(r:RelV v u)
 (h:∀ s',Inv X pins (σ.set i (some v)) H s'→(∃ a,Heap.SameBut a s.heap s'.heap∧(a=X.env.locals∨X.env.cells.lookup x=some a))→Q () s')(hf:X.fn x=true∨X.env.scope.names.lookup x=some .local:=by first | exact .inl rfl | exact .inr rfl | assumption):wpAny M A (storeName X.env x u) Q E s:=by
 obtain⟨m,hn,hl⟩:=id I.loc
 have hcls:(X.env.scope.kind==.class || (X.env.scope.kind==.module&&X.env.locals != X.env.globals))=false:=by rw[I.ok.kind]; rfl
 have hiσ:i<σ.length:=by rw[I.len]; exact(List.getElem?_eq_some_iff.mp hi).1
 have cne:=I.cne
 have tracked:∀ {a:Addr} {h':Heap},(∃ o,s.heap.get? a=some o∧H a=none)→Heap.SameBut a s.heap h'→HOk X.prog X.w H h':=fun {a h'} ha hs b ob e=>by
  obtain⟨_,_,hfree⟩:=ha
  refine(I.hok b ob e).stay (fun c w' hc q=>(hs.2 c ?_).trans q) (fun _ q=>q) fun _ _ q=>q
  rintro rfl
  rcases hc with rfl | hc
  ·rw[hfree] at e; cases e
  ·rw[hfree] at hc; cases hc
 rcases hx with hk | hk
 ·refine wpAny_storeName_local hk hn (fun h' hn' hs=>?_) hcls
  obtain⟨oL,_,_,hoL,_⟩:=id hn
  refine h _ ⟨I.ok,I.os,I.bare,⟨fun b o e n hb hx=>?_,fun b o e n hb hx=>?_,I.base.free,fun b o e hx=>?_,I.base.tups,I.base.frzs,I.base.tbls⟩,⟨_,hn',fun j y v' e1 e2 e3=>?_⟩,fun y c e=>?_,I.free,I.oH,fun p hp=>?_,tracked ⟨oL,hoL,I.free⟩ hs,by simpa using I.len⟩ ⟨_,hs,.inl rfl⟩
  ·exact(hs.2 b (Nat.ne_of_lt (Nat.lt_of_lt_of_le (Heap.lt_size e) I.ok.above))).trans (I.base.keep b o e n hb hx)
  ·obtain⟨sl,e1⟩:=I.base.slot b o e n hb hx
   exact⟨sl,(hs.2 b (Nat.ne_of_lt (Nat.lt_of_lt_of_le (Heap.lt_size e) I.ok.above))).trans e1⟩
  ·obtain⟨o',e1⟩:=I.base.there b o e hx
   exact⟨o',(hs.2 b (Nat.ne_of_lt (Nat.lt_of_lt_of_le (Heap.lt_size e) I.ok.above))).trans e1⟩
  ·by_cases hj:j=i
   ·subst hj
    rw[hi] at e1; cases e1
    rw[List.getElem?_set_self hiσ] at e2
    cases e2
    exact⟨u,r,.inl ⟨hk,by simp⟩⟩
   ·rw[List.getElem?_set_ne (Ne.symm hj)] at e2
    obtain⟨u',r',q⟩:=hl j y v' e1 e2 e3
    refine⟨u',r',?_⟩
    rcases q with⟨k,e⟩ | ⟨k,c,e,z⟩
    ·refine .inl ⟨k,?_⟩
     have:y≠x:=fun e=>hj (nodup_ix hN e1 (e▸hi))
     simp[this,e]
    ·exact .inr ⟨k,c,e,z.sameBut hs (cne y c e)⟩
  ·obtain⟨w',z⟩:=I.cell y c e
   exact⟨w',z.sameBut hs (cne y c e)⟩
  ·obtain⟨e,n,ne,nf,d⟩:=I.pin p hp
   exact⟨(hs.2 p.1 ne).trans e,n,ne,nf,d⟩
 ·have hfn:X.fn x=true:=by
   rcases hf with z | z
   ·exact z
   ·rw[z] at hk; cases hk
  obtain⟨c,hc⟩:=I.ok.has x (.inl hk)
  obtain⟨w',z⟩:=I.cell x c hc
  refine wpAny_storeName_cell I.ok.kind hk hc z (fun h' hc' hs=>?_)
  obtain⟨oc,hoc,hocd⟩:=id z
  refine h { s with heap:=h' } ⟨I.ok,I.os,I.bare,⟨fun b o e n hb hx=>?_,fun b o e n hb hx=>?_,I.base.free,fun b o e hx=>?_,I.base.tups,I.base.frzs,I.base.tbls⟩,⟨m,hn.sameBut hs (Ne.symm (cne x c hc)),fun j y v' e1 e2 e3=>?_⟩,fun y c' e=>?_,I.free,I.oH,fun p hp=>?_,tracked ⟨oc,hoc,I.oH x c hc⟩ hs,by simpa using I.len⟩ ⟨c,hs,.inr hc⟩
  ·exact(hs.2 b (Nat.ne_of_lt (Nat.lt_of_lt_of_le (Heap.lt_size e) (I.ok.cab x c hfn hc)))).trans (I.base.keep b o e n hb hx)
  ·obtain⟨sl,e1⟩:=I.base.slot b o e n hb hx
   exact⟨sl,(hs.2 b (Nat.ne_of_lt (Nat.lt_of_lt_of_le (Heap.lt_size e) (I.ok.cab x c hfn hc)))).trans e1⟩
  ·obtain⟨o',e1⟩:=I.base.there b o e hx
   exact⟨o',(hs.2 b (Nat.ne_of_lt (Nat.lt_of_lt_of_le (Heap.lt_size e) (I.ok.cab x c hfn hc)))).trans e1⟩
  ·by_cases hj:j=i
   ·subst hj
    rw[hi] at e1; cases e1
    rw[List.getElem?_set_self hiσ] at e2
    cases e2
    exact⟨u,r,.inr ⟨.inl hk,c,hc,hc'⟩⟩
   ·rw[List.getElem?_set_ne (Ne.symm hj)] at e2
    obtain⟨u',r',q⟩:=hl j y v' e1 e2 e3
    refine⟨u',r',?_⟩
    rcases q with q | ⟨k,c',e,z'⟩
    ·exact .inl q
    ·refine .inr ⟨k,c',e,z'.sameBut hs ?_⟩
     rintro rfl
     exact hj (nodup_ix hN e1 (I.ok.inj _ _ _ e hc▸hi))
  ·by_cases hcc:c' = c
   ·subst hcc; exact⟨_,hc'⟩
   ·obtain⟨w2,z2⟩:=I.cell y c' e
    exact⟨w2,z2.sameBut hs hcc⟩
  ·obtain⟨e,n,ne,nf,d⟩:=I.pin p hp
   refine⟨(hs.2 p.1 ?_).trans e,n,ne,nf,d⟩
   intro q
   rw[q,hoc] at e
   have q':oc=p.2:=Option.some.inj e
   exact d w' (by rw[← q']; exact hocd)
theorem store_ok{M:Model}{A:Around}{E:Value→Shared→Prop}{i:Nat}{x:Str}{v:V}{u:Value}{Q:Unit→Shared→Prop}(I:Inv X pins σ H s)(hN:X.N.Nodup)(hi:X.N[i]? = some x)(hx:Loc X.env.scope x)(r:RelV v u)
 (h:∀ s',Inv X pins (σ.set i (some v)) H s'→Q () s')(hf:X.fn x=true∨X.env.scope.names.lookup x=some .local:=by first | exact .inl rfl | exact .inr rfl | assumption):wpAny M A (storeName X.env x u) Q E s :=
 store_ok2 I hN hi hx r (fun s' I' _=>h s' I') hf
theorem Inv.call'{s':Shared}{ch:List Addr}(I:Inv X pins σ H s)(ho:s'.os=s.os)(u:Un (frs X.stack) ch H H' s.heap s'.heap)(hok:HOk X.prog X.w H' s'.heap)(hg:AllBare s'.gens)
 (hch:∀ b∈ch,(b∈X.ex∨X.s_0.heap.objs.size≤b)∧b≠X.env.locals∧(∀ x c,X.env.cells.lookup x=some c→c≠b)∧∀ p∈X.pn++pins,p.1≠b):Inv X pins σ H' s':=by
 obtain⟨h',g',d',t',o'⟩:=s'
 have e:o' = s.os:=ho
 subst e
 exact I.call (g':=g') (t':=t') (d':=d') u hok hg hch
end
abbrev XK:=Value→Option Addr→Hp→Prop
abbrev St:=List (Option V)
abbrev VK:=V→Hp→Prop
abbrev TE:=St→Hp→VK→Prop
abbrev TT:=St→Hp→(Bool→Hp→Prop)→Prop
abbrev TA:=St→Hp→(List V→Hp→Prop)→Prop
structure Ends where
 nx:St→Hp→Prop
 rt:VK
 bk:St→Hp→Prop:=fun _ _=>False
 ct:St→Hp→Prop:=fun _ _=>False
abbrev TS:=Ends→St→Hp→Prop
def EP(X:Cx)(pins:List (Addr×Obj))(σ:St)(Q:VK)(u:Value)(s':Shared):Prop:=∃ v H',Inv X pins σ H' s'∧RelV v u∧Q v H'
def TP(X:Cx)(pins:List (Addr×Obj))(σ:St)(Q:Bool→Hp→Prop)(b:Bool)(s':Shared):Prop:=∃ H',Inv X pins σ H' s'∧Q b H'
def AP(X:Cx)(pins:List (Addr×Obj))(σ:St)(Q:List V→Hp→Prop)(us:List Value)(s':Shared):Prop:=∃ vs H',Inv X pins σ H' s'∧Vals vs us∧Q vs H'
def SP(X:Cx)(pins:List (Addr×Obj))(D:Ends)(f:Flow)(s':Shared):Prop :=
 match f with
 | .next=>∃ σ' H',Inv X pins σ' H' s'∧D.nx σ' H'
 | .brk=>∃ σ' H',Inv X pins σ' H' s'∧D.bk σ' H'
 | .cont=>∃ σ' H',Inv X pins σ' H' s'∧D.ct σ' H'
 | .ret u=>∃ v σ' H',Inv X pins σ' H' s'∧RelV v u∧D.rt v H'
def PE(X:Cx)(e:Expr)(t:TE):Prop :=
 ∀ (pins:List (Addr×Obj)) (s:Shared) (σ:St) (H:Hp) (Q:VK),Inv X pins σ H s→t σ H Q→wpAny (model X.prog X.w) X.A (eval e X.env) (EP X pins σ Q) X.xe s
def PT(X:Cx)(e:Expr)(t:TT):Prop :=
 ∀ (pins:List (Addr×Obj)) (s:Shared) (σ:St) (H:Hp) (Q:Bool→Hp→Prop),Inv X pins σ H s→t σ H Q→wpAny (model X.prog X.w) X.A (isTrue e X.env (eval e X.env)) (TP X pins σ Q) X.xe s
def PW(X:Cx)(e:Expr)(t:TT):Prop :=
 ∀ (whole:Sem Value) (pins:List (Addr×Obj)) (s:Shared) (σ:St) (H:Hp) (Q:Bool→Hp→Prop),Inv X pins σ H s→t σ H Q→wpAny (model X.prog X.w) X.A (isTrue e X.env whole) (TP X pins σ Q) X.xe s
theorem PW.pt{X:Cx}{e:Expr}{t:TT}(h:PW X e t):PT X e t:=h _
def PA(X:Cx)(es:List Expr)(t:TA):Prop :=
 ∀ (pos:Pos) (pins:List (Addr×Obj)) (s:Shared) (σ:St) (H:Hp) (Q:List V→Hp→Prop),Inv X pins σ H s→t σ H Q→wpAny (model X.prog X.w) X.A (spliced (backTo pos (starEach es X.env))) (AP X pins σ Q) X.xe s
def PS(X:Cx)(st:Stmt)(t:TS):Prop :=
 ∀ (pins:List (Addr×Obj)) (s:Shared) (σ:St) (H:Hp) (D:Ends),Inv X pins σ H s→t D σ H→wpAny (model X.prog X.w) X.A (exec st X.env) (SP X pins D) X.xe s
def PSs(X:Cx)(st:List Stmt)(t:TS):Prop :=
 ∀ (pins:List (Addr×Obj)) (s:Shared) (σ:St) (H:Hp) (D:Ends),Inv X pins σ H s→t D σ H→wpAny (model X.prog X.w) X.A (execs st X.env) (SP X pins D) X.xe s
theorem thn{α:Type}{t:Sem α}{Q Q':α→Shared→Prop}{M:Model}{A:Around}{E:Value→Shared→Prop}{s:Shared}(h:wpAny M A t Q E s)(hQ:∀ a s,Q a s→Q' a s):wpAny M A t Q' E s:=wpAny_mono h hQ fun _ _ x=>x
end L2
namespace L2
open PySem PySem.Spec PyProof.Rows
section
variable {X:Cx}
def fM(i:Nat):TE:=fun σ H Q=>∃ v,σ[i]? = some (some v)∧Q v H
def tC(v:V):TE:=fun _ H Q=>Q v H
theorem pe_var{i:Nat}{x:Str}{pos:Pos}(hN:X.N[i]? = some x)(hv:Vis X.env.scope x)(hd:(x==("__debug__" : Str))=false:=by decide)(hcd:(x==("__classdict__" : Str))=false:=by decide):PE X (.Name x pos) (fM i):=by
 intro pins s σ H Q I h
 obtain⟨v,e,h⟩:=h
 obtain⟨m,hn,hl⟩:=I.loc
 obtain⟨u,r,l⟩:=hl i x v hN e hv
 have fin:EP X pins σ Q u s:=⟨v,H,I,r,h⟩
 rcases l with⟨hk,hm⟩ | ⟨hk,c,hc,hcell⟩
 ·exact wpAny_Name (wpAny_loadName_local I.ok.kind hk hn hm fin) hd
 ·rcases hk with hk | hk
  ·exact wpAny_Name (wpAny_loadName_cell I.ok.kind hk hc hcell fin) hd
  ·exact wpAny_Name (wpAny_loadName_free I.ok.kind hk hc hcell fin hcd) hd
theorem aj{i j pos}:PE X (.Constant (.int i) j pos) (tC (.int i)):=fun _ _ _ H _ I h=>wpAny_Constant_int ⟨.int i,H,I.tok _,⟨_,rfl⟩,h⟩
theorem fc{b j pos}:PE X (.Constant (.bool b) j pos) (tC (.bl b)):=fun _ _ _ H _ I h=>Constant_bool ⟨.bl b,H,I,rfl,h⟩
theorem ek{j pos}:PE X (.Constant .none j pos) (tC .non):=fun _ _ _ H _ I h=>Constant_none ⟨.non,H,I,rfl,h⟩
theorem pe_str{x j pos}:PE X (.Constant (.str x) j pos) (tC (.str x)):=fun _ _ _ H _ I h=>Calls.Constant_str ⟨.str x,H,I.tok _,⟨_,rfl⟩,h⟩
def Gl(X:Cx)(x:Str):Prop:=X.env.kindOf x=some .globalImplicit
theorem ld_glob{E:Value→Shared→Prop}{pins:List (Addr×Obj)}{s:Shared}{σ:St}{H:Hp}{x:Str}{u:Value}{pos:Pos}{Q:Value→Shared→Prop}(I:Inv X pins σ H s)(hg:Gl X x)(hm:X.mg x=some u)(h:Q u s)
 (hd:(x==("__debug__" : Str))=false:=by decide):wpAny (model X.prog X.w) X.A (eval (.Name x pos) X.env) Q E s :=
 Calls.Name_function_global I.ok.kind hg (Calls.loadGlobal_global (by rw[I.ok.glob]; exact I.mod.glob.keeps I.bk) hm h) hd
theorem ld_blt{E:Value→Shared→Prop}{pins:List (Addr×Obj)}{s:Shared}{σ:St}{H:Hp}{x:Str}{u:Value}{pos:Pos}{Q:Value→Shared→Prop}(I:Inv X pins σ H s)(hg:Gl X x)(hm:X.mg x=none)(hv:bootBuiltins x=some u)(h:Q u s)
 (hn:x ≠ "__name__" := by decide)(hd:(x==("__debug__" : Str))=false:=by decide):wpAny (model X.prog X.w) X.A (eval (.Name x pos) X.env) Q E s:=by
 obtain⟨mb,h1,h2⟩:=I.mod.blt
 exact Calls.Name_function_global I.ok.kind hg (Calls.loadGlobal_builtin (by rw[I.ok.glob]; exact I.mod.glob.keeps I.bk) hm (by rw[I.ok.blt]; exact h1.keeps I.bk) ((h2 x hn).trans hv) h) hd
theorem pe_glob{x:Str}{v:V}{u:Value}{pos:Pos}(hg:Gl X x)(hm:X.mg x=some u)(r:RelV v u)(hd:(x==("__debug__" : Str))=false:=by decide):PE X (.Name x pos) (tC v) :=
 fun _ _ _ H _ I h=>ld_glob I hg hm ⟨v,H,I,r,h⟩ hd
variable {a b:Expr}{ta tb:TE}{pos:Pos}
def PC(X:Cx)(op:CmpOp)(a b:Expr)(t:TE):Prop :=
 ∀ (pins:List (Addr×Obj)) (s:Shared) (σ:St) (H:Hp) (Q:VK),Inv X pins σ H s→t σ H Q →
  wpAny (model X.prog X.w) X.A (eval a X.env) (fun v s₁=>wpAny (model X.prog X.w) X.A (eval b X.env) (fun u s₂=>wpAny (model X.prog X.w) X.A (compareOp op v u) (EP X pins σ Q) X.xe s₂) X.xe s₁) X.xe s
theorem nobehind(b:Expr){op:CmpOp}(h:op≠.In)(h2:op≠.NotIn):behindInMarks op b=false:=by
 have e1:(op==CmpOp.In)=false:=by cases op<;>first | rfl | exact absurd rfl h
 have e2:(op==CmpOp.NotIn)=false:=by cases op<;>first | rfl | exact absurd rfl h2
 cases b<;>simp[behindInMarks,e1,e2]
def tIsN(ta:TE):TE:=fun σ H Q=>ta σ H fun x H1=>Q (.bl (decide (x = .non))) H1
def tNotN(ta:TE):TE:=fun σ H Q=>ta σ H fun x H1=>Q (.bl (!decide (x = .non))) H1
theorem RelV.none_iff{x:V}{v:Value}(r:RelV x v):(v==Value.none)=decide (x = .non):=by
 cases x with
 | non=>cases r; rfl
 | bl _=>cases r; rfl
 | int _=>obtain⟨t,rfl⟩:=r; rfl
 | str _=>obtain⟨t,rfl⟩:=r; rfl
 | byt _=>obtain⟨t,rfl⟩:=r; rfl
 | flt _=>obtain⟨t,rfl⟩:=r; rfl
 | ref _=>cases r; rfl
 | ty _=>cases r; rfl
theorem cV{j pos'}(ha:PE X a ta):PC X .Is a (.Constant .none j pos') (tIsN ta):=by
 intro pins s σ H Q I h
 refine thn (ha pins s σ H _ I h) fun v s1 ⟨x,H1,I1,r1,q1⟩=>?_
 exact Constant_none (is_none_gen ⟨.bl _,H1,I1,by rw[r1.none_iff]; rfl,q1⟩)
theorem pc_notN{j pos'}(ha:PE X a ta):PC X .IsNot a (.Constant .none j pos') (tNotN ta):=by
 intro pins s σ H Q I h
 refine thn (ha pins s σ H _ I h) fun v s1 ⟨x,H1,I1,r1,q1⟩=>?_
 exact Constant_none (isnot_none_gen ⟨.bl _,H1,I1,by rw[r1.none_iff]; rfl,q1⟩)
def tB(t:TE):TT:=fun σ H Q=>t σ H fun x H1=>∃ c,x = .bl c∧Q c H1
theorem pe_cmp{op:CmpOp}{t:TE}(h:PC X op a b t)(h1:behindInMarks op b=false:=by first | exact nobehind _ (by decide) (by decide) | rfl):PE X (.Compare a [op] [b] pos) t:=fun pins s σ H Q I hw=>wpAny_Compare1 (h pins s σ H Q I hw) h1
theorem cN{op:CmpOp}{t:TE}(h:PC X op a b t)(h1:behindInMarks op b=false:=by first | exact nobehind _ (by decide) (by decide) | rfl):PT X (.Compare a [op] [b] pos) (tB t):=by
 intro pins s σ H Q I hw
 refine wpAny_isTrue_Compare1 (thn (h pins s σ H _ I hw) fun v s1 h1=>thn h1 fun u s2 h2=>thn h2 fun c s3 ⟨x,H1,I1,r1,q1⟩=>?_) h1
 obtain⟨d,rfl,q⟩:=q1
 cases r1
 exact wpAny_truthy_bool ⟨H1,I1,q⟩
theorem br{e:Expr}{t:TE}(h:PE X e t)(he:∀ whole,isTrue e X.env whole=(do let v ← whole; standAt e.pos; holding [v] (truthy v)):=by intro _; rfl):PT X e (tB t):=by
 intro pins s σ H Q I hw
 refine isTrue_plain (thn (h pins s σ H _ I hw) fun v s1 ⟨x,H1,I1,r1,q1⟩=>?_) (he _)
 obtain⟨d,rfl,q⟩:=q1
 cases r1
 exact wpAny_truthy_bool ⟨H1,I1,q⟩
variable {tA tB':TT}{rest:List Expr}
def tAnd(t u:TT):TT:=fun σ H Q=>t σ H fun c H1=>if c=true then u σ H1 Q else Q false H1
def tOr(t u:TT):TT:=fun σ H Q=>t σ H fun c H1=>if c=true then Q true H1 else u σ H1 Q
def tNot(t:TT):TT:=fun σ H Q=>t σ H fun c H1=>Q (!c) H1
theorem pw_and1(ha:PT X a tA):PW X (.BoolOp .And [a] pos) tA:=by
 intro wh pins s σ H Q I h
 refine isTrue_and (thn (ha pins s σ H Q I h) fun c s1 e=>?_)
 cases c with
 | true=>exact isTrue_and_nil e
 | false=>exact e
theorem dw(ha:PT X a tA):PW X (.BoolOp .Or [a] pos) tA:=by
 intro wh pins s σ H Q I h
 refine isTrue_or (thn (ha pins s σ H Q I h) fun c s1 e=>?_)
 cases c with
 | false=>exact isTrue_or_nil e
 | true=>exact e
theorem pw_and(ha:PT X a tA)(hb:PW X (.BoolOp .And (b::rest) pos) tB'):PW X (.BoolOp .And (a::b::rest) pos) (tAnd tA tB'):=by
 intro wh pins s σ H Q I h
 refine isTrue_and (thn (ha pins s σ H _ I h) fun c s1 ⟨H1,I1,q1⟩=>?_)
 cases c with
 | true=>exact hb wh pins s1 σ H1 Q I1 q1
 | false=>exact⟨H1,I1,q1⟩
theorem dJ(ha:PT X a tA)(hb:PW X (.BoolOp .Or (b::rest) pos) tB'):PW X (.BoolOp .Or (a::b::rest) pos) (tOr tA tB'):=by
 intro wh pins s σ H Q I h
 refine isTrue_or (thn (ha pins s σ H _ I h) fun c s1 ⟨H1,I1,q1⟩=>?_)
 cases c with
 | true=>exact⟨H1,I1,q1⟩
 | false=>exact hb wh pins s1 σ H1 Q I1 q1
theorem bR(ha:PT X a tA):PT X (.UnaryOp .Not a pos) (tNot tA):=by
 intro pins s σ H Q I h
 exact isTrue_not (ha pins s σ H (fun c H1=>Q (!c) H1) I h)
def tAndV(ta tb:TE):TE:=fun σ H Q=>ta σ H fun x H1=>∃ c,x = .bl c∧if c=true then tb σ H1 Q else Q (.bl false) H1
def tOrV(ta tb:TE):TE:=fun σ H Q=>ta σ H fun x H1=>∃ c,x = .bl c∧if c=true then Q (.bl true) H1 else tb σ H1 Q
theorem qR{op}{t:TE}(h:PE X a t):PE X (.BoolOp op [a] pos) t:=fun pins s σ H Q I hw=>BoolOp_one (h pins s σ H Q I hw)
theorem pe_and(ha:PE X a ta)(hb:PE X (.BoolOp .And (b::rest) pos) tb):PE X (.BoolOp .And (a::b::rest) pos) (tAndV ta tb):=by
 intro pins s σ H Q I h
 refine BoolOp_and (thn (ha pins s σ H _ I h) fun v s1 ⟨x,H1,I1,r1,q1⟩=>?_)
 obtain⟨c,rfl,q1⟩:=q1
 cases r1
 refine wpAny_truthy_bool ?_
 cases c with
 | true=>exact hb pins s1 σ H1 Q I1 q1
 | false=>exact⟨.bl false,H1,I1,rfl,q1⟩
theorem pe_or(ha:PE X a ta)(hb:PE X (.BoolOp .Or (b::rest) pos) tb):PE X (.BoolOp .Or (a::b::rest) pos) (tOrV ta tb):=by
 intro pins s σ H Q I h
 refine BoolOp_or (thn (ha pins s σ H _ I h) fun v s1 ⟨x,H1,I1,r1,q1⟩=>?_)
 obtain⟨c,rfl,q1⟩:=q1
 cases r1
 refine wpAny_truthy_bool ?_
 cases c with
 | false=>exact hb pins s1 σ H1 Q I1 q1
 | true=>exact⟨.bl true,H1,I1,rfl,q1⟩
end
end L2
namespace L2
open PySem PySem.Spec PyProof.Rows
def SqL(K:PySem.W.Frag)(H:Hp)(a:Addr)(xs:List V):Prop :=
 Rd H a (.lst xs) ∨
  ∃ (o:Obj) (its:Array Value) (n:Nat),K.lookup a=some o∧o.cls = .type "list" ∧ o.dict=none∧o.data = .seq its n∧its.size≤sizeLine∧Vals xs its.toList
def SqT(K:PySem.W.Frag)(H:Hp)(a:Addr)(xs:List V):Prop :=
 Rd H a (.tup xs) ∨
  ∃ (o:Obj) (its:Array Value) (n:Nat),K.lookup a=some o∧o.cls = .type "tuple" ∧ o.data = .seq its n∧its.size≤sizeLine∧Vals xs its.toList
def absV:Value→Option V
 | .none=>some .non
 | .bool b=>some (.bl b)
 | .int i _=>some (.int i)
 | .str x _=>some (.str x)
 | .bytes b _=>some (.byt b)
 | .float b _=>some (.flt b)
 | .ref a=>some (.ref a)
 | .type n=>some (.ty n)
 | _=>none
theorem RelV.abs{x:V}{u:Value}(r:RelV x u):absV u=some x:=by
 cases x with
 | non=>cases r; rfl
 | bl _=>cases r; rfl
 | int _=>obtain⟨t,rfl⟩:=r; rfl
 | str _=>obtain⟨t,rfl⟩:=r; rfl
 | byt _=>obtain⟨t,rfl⟩:=r; rfl
 | flt _=>obtain⟨t,rfl⟩:=r; rfl
 | ref _=>cases r; rfl
 | ty _=>cases r; rfl
theorem RelV.inj{x y:V}{u:Value}(r:RelV x u)(q:RelV y u):x=y:=Option.some.inj (r.abs.symm.trans q.abs)
theorem Vals.inj:∀ {xs ys:List V} {us:List Value},Vals xs us→Vals ys us→xs=ys
 | _,_,_,.nil,.nil=>rfl
 | _,_,_,.cons r t,.cons r' t'=>by rw[r.inj r',Vals.inj t t']
section
variable {X:Cx}{pins:List (Addr×Obj)}{σ:St}{H:Hp}{s:Shared}{a:Addr}{xs ys:List V}
theorem SqL.of{K:PySem.W.Frag}(h:H a=some (.lst xs)):SqL K H a xs:=.inl (.inl h)
theorem SqT.of{K:PySem.W.Frag}(h:H a=some (.tup xs)):SqT K H a xs:=.inl (.inl h)
theorem Inv.list(I:Inv X pins σ H s)(h:SqL X.K H a xs):∃ its:List Value,Vals xs its∧PlainL s.heap a its.toArray∧xs.length≤sizeLine:=by
 rcases h with h | ⟨o,its,n,hk,hc,hd,hs,hz,r⟩
 ·obtain⟨z,its,n,r,e⟩:=h.ok I.hok
  exact⟨its,r,⟨_,n,e,rfl,rfl,rfl⟩,z⟩
 ·refine⟨its.toList,r,⟨o,n,I.kIn a o hk,hc,hd,by simpa using hs⟩,?_⟩
  have e:=r.length
  simp only[Array.length_toList] at e
  omega
theorem Inv.tuple(I:Inv X pins σ H s)(h:SqT X.K H a xs):∃ its:List Value,Vals xs its∧IsTup s.heap a its.toArray∧xs.length≤sizeLine:=by
 rcases h with h | ⟨o,its,n,hk,hc,hs,hz,r⟩
 ·obtain⟨z,its,r,p⟩:=h.ok I.hok
  exact⟨its,r,p,z⟩
 ·refine⟨its.toList,r,⟨o,I.kIn a o hk,hc,n,by simpa using hs⟩,?_⟩
  have e:=r.length
  simp only[Array.length_toList] at e
  omega
theorem Inv.mx(I:Inv X pins σ H s)(h:SqL X.K H a xs)(h':SqL X.K H a ys):xs=ys:=by
 obtain⟨its,r,⟨o,n,e,_,_,d⟩,_⟩:=I.list h
 obtain⟨its',r',⟨o',n',e',_,_,d'⟩,_⟩:=I.list h'
 rw[e] at e'; cases e'
 rw[d] at d'
 injection d' with d1 _
 have:its=its':=by simpa using congrArg Array.toList d1
 subst this
 exact r.inj r'
theorem Inv.tuple_inj(I:Inv X pins σ H s)(h:SqT X.K H a xs)(h':SqT X.K H a ys):xs=ys:=by
 obtain⟨its,r,⟨o,e,_,n,d⟩,_⟩:=I.tuple h
 obtain⟨its',r',⟨o',e',_,n',d'⟩,_⟩:=I.tuple h'
 rw[e] at e'; cases e'
 rw[d] at d'
 injection d' with d1 _
 have:its=its':=by simpa using congrArg Array.toList d1
 subst this
 exact r.inj r'
end
abbrev Cx.wish(X:Cx)(E:Value→Shared→Prop):Cx:={ X with xe:=E }
abbrev Cx.nox(X:Cx):Cx:=X.wish fun _ _=>False
theorem Cx.Ok.wish{X:Cx}(ok:X.Ok)(E:Value→Shared→Prop):(X.wish E).Ok :=
 ⟨ok.mod,ok.kind,ok.glob,ok.blt,ok.above,ok.inj,ok.has,ok.cab,ok.hd,ok.frames,ok.stk,ok.exf,ok.bs,ok.bsz,ok.noex,ok.exfs,ok.funs,ok.frf⟩
theorem Cx.Ok.mX{X:Cx}{E:Value→Shared→Prop}(ok:(X.wish E).Ok):X.Ok :=
 ⟨ok.mod,ok.kind,ok.glob,ok.blt,ok.above,ok.inj,ok.has,ok.cab,ok.hd,ok.frames,ok.stk,ok.exf,ok.bs,ok.bsz,ok.noex,ok.exfs,ok.funs,ok.frf⟩
section
variable {X:Cx}{pins:List (Addr×Obj)}{σ:St}{H:Hp}{s:Shared}{E:Value→Shared→Prop}
theorem Inv.wish(I:Inv X pins σ H s)(E:Value→Shared→Prop):Inv (X.wish E) pins σ H s:=⟨I.ok.wish E,I.os,I.bare,I.base,I.loc,I.cell,I.free,I.oH,I.pin,I.hok,I.len⟩
theorem Inv.mX(I:Inv (X.wish E) pins σ H s):Inv X pins σ H s:=⟨I.ok.mX,I.os,I.bare,I.base,I.loc,I.cell,I.free,I.oH,I.pin,I.hok,I.len⟩
theorem SP.mX{D:Ends}{f:Flow}{s':Shared}(h:SP (X.wish E) pins D f s'):SP X pins D f s':=by
 cases f with
 | next=>obtain⟨σ',H',I,q⟩:=h; exact⟨σ',H',I.mX,q⟩
 | brk=>obtain⟨σ',H',I,q⟩:=h; exact⟨σ',H',I.mX,q⟩
 | cont=>obtain⟨σ',H',I,q⟩:=h; exact⟨σ',H',I.mX,q⟩
 | ret u=>obtain⟨v,σ',H',I,r,q⟩:=h; exact⟨v,σ',H',I.mX,r,q⟩
theorem PSs.nox{st:List Stmt}{t:TS}(h:PSs X.nox st t):PSs X st t:=fun pins s σ H D I hw =>
 wpAny_mono (h pins s σ H D (I.wish _) hw) (fun _ _ q=>q.mX) fun _ _ z=>False.elim z
end
section
variable {X:Cx}{st:Stmt}{rest:List Stmt}{t u:TS}{e:Expr}{te:TE}{pos:Pos}
def tNext:TS:=fun D σ H=>D.nx σ H
def tSeq(t u:TS):TS:=fun D σ H=>t { D with nx:=u D } σ H
theorem aA:PSs X [] tNext:=fun _ _ σ H _ I h=>wpAny_execs_nil ⟨σ,H,I,h⟩
theorem ae(h1:PS X st t)(h2:PSs X rest u):PSs X (st::rest) (tSeq t u):=by
 intro pins s σ H D I h
 refine wpAny_execs_cons (thn (h1 pins s σ H { D with nx:=u D } I h) fun f s1 q=>?_)
 cases f with
 | next =>
  obtain⟨σ',H',I',q⟩:=q
  exact h2 pins s1 σ' H' D I' q
 | ret v=>exact q
 | brk=>exact q
 | cont=>exact q
theorem ah(h1:PS X st t):PSs X [st] t:=by
 intro pins s σ H D I h
 refine wpAny_execs_cons (thn (h1 pins s σ H D I h) fun f s1 q=>?_)
 cases f with
 | next=>exact wpAny_execs_nil q
 | ret v=>exact q
 | brk=>exact q
 | cont=>exact q
theorem Inv.quiet{pins:List (Addr×Obj)}{σ:St}{H:Hp}{s:Shared}(I:Inv X pins σ H s):interactive X.env=false:=by simp[interactive,I.ok.kind]
def tDrop(te:TE):TS:=fun D σ H=>te σ H fun _ H1=>D.nx σ H1
theorem dk(he:PE X e te)(hs:swapsWith e none pos.line X.env=pure false:=by rfl):PS X (.Expr e pos) (tDrop te):=by
 intro pins s σ H D I h
 exact wpAny_Expr_any (thn (he pins s σ H _ I h) fun v s1 ⟨x,H1,I1,r1,q1⟩=>⟨σ,H1,I1,q1⟩) I.quiet hs
def tRet(te:TE):TS:=fun D σ H=>te σ H D.rt
theorem ao(he:PE X e te):PS X (.Return (some e) pos) (tRet te):=by
 intro pins s σ H D I h
 exact wpAny_Return_some (thn (he pins s σ H _ I h) fun v s1 ⟨x,H1,I1,r1,q1⟩=>⟨x,σ,H1,I1,r1,q1⟩)
def tIfS(c:TT)(t u:TS):TS:=fun D σ H=>c σ H fun b H1=>if b=true then t D σ H1 else u D σ H1
theorem aP{c:Expr}{a b:List Stmt}{tc:TT}(hc:PT X c tc)(ha:PSs X a t)(hb:PSs X b u):PS X (.If c a b pos) (tIfS tc t u):=by
 intro pins s σ H D I h
 refine wpAny_If (thn (hc pins s σ H _ I h) fun d s1 ⟨H1,I1,q1⟩=>?_)
 cases d with
 | true=>exact ha pins s1 σ H1 D I1 q1
 | false=>exact hb pins s1 σ H1 D I1 q1
end
abbrev TG:=V→St→Hp→(St→Hp→Prop)→Prop
abbrev TGs:=List V→St→Hp→(St→Hp→Prop)→Prop
def PG(X:Cx)(target:Expr)(t:TG):Prop :=
 ∀ (pins:List (Addr×Obj)) (s:Shared) (σ:St) (H:Hp) (v:V) (u:Value) (Q:St→Hp→Prop),Inv X pins σ H s→RelV v u→t v σ H Q →
  wpAny (model X.prog X.w) X.A (assign target X.env u) (fun _ s'=>∃ σ' H',Inv X pins σ' H' s'∧Q σ' H') X.xe s
def PGs(X:Cx)(ts:List Expr)(t:TGs):Prop :=
 ∀ (pins:List (Addr×Obj)) (s:Shared) (σ:St) (H:Hp) (vs:List V) (us:List Value) (Q:St→Hp→Prop),Inv X pins σ H s→Vals vs us→t vs σ H Q →
  wpAny (model X.prog X.w) X.A (assignInOrder ((assignEach ts X.env).map (·.2)) us) (fun _ s'=>∃ σ' H',Inv X pins σ' H' s'∧Q σ' H') X.xe s
section
variable {X:Cx}{pos:Pos}
def gName(i:Nat):TG:=fun v σ H Q=>Q (σ.set i (some v)) H
theorem aZ{i:Nat}{x:Str}(hN:X.N.Nodup)(hi:X.N[i]? = some x)(hx:Loc X.env.scope x)(hf:X.fn x=true∨X.env.scope.names.lookup x=some .local:=by first | exact .inl rfl | exact .inr rfl | assumption):PG X (.Name x pos) (gName i):=by
 intro pins s σ H v u Q I r h
 exact wpAny_assign_Name (store_ok I hN hi hx r (fun s' I'=>⟨_,H,I',h⟩) hf)
def gNil:TGs:=fun vs σ H Q=>vs=[]∧Q σ H
def gCons(t:TG)(u:TGs):TGs:=fun vs σ H Q=>∃ v r,vs=v::r∧t v σ H fun σ' H'=>u r σ' H' Q
theorem rC:PGs X [] gNil:=by
 intro pins s σ H vs us Q I r h
 obtain⟨e,h⟩:=h
 subst e
 cases r
 exact assignInOrder_nil ⟨σ,H,I,h⟩
theorem eY{e:Expr}{es:List Expr}{t:TG}{u:TGs}(h1:PG X e t)(h2:PGs X es u)
 (hs:(assignEach (e::es) X.env).map (·.2)=assign e X.env::(assignEach es X.env).map (·.2):=by rfl):PGs X (e::es) (gCons t u):=by
 intro pins s σ H vs us Q I r h
 obtain⟨v,vr,e1,h⟩:=h
 subst e1
 cases r with
 | cons r rr =>
  rw[hs]
  refine assignInOrder_cons (thn (h1 pins s σ H _ _ _ I r h) fun _ s1 ⟨σ1,H1,I1,q1⟩=>?_)
  exact h2 pins s1 σ1 H1 _ _ Q I1 rr q1
def gTup(K:PySem.W.Frag)(n:Nat)(t:TGs):TG:=fun v σ H Q=>∃ a xs,v = .ref a∧SqT K H a xs∧xs.length=n∧t xs σ H Q
theorem pg_tup{es:List Expr}{k:Nat}{t:TGs}{n:Nat}(hc:X.calm=true)(h:PGs X es t)
 (hn:(assignEach es X.env).length=n:=by rfl)(hst:(assignEach es X.env).findIdx? (·.1)=none:=by rfl):PG X (.Tuple es k pos) (gTup X.K n t):=by
 intro pins s σ H v u Q I r hw
 obtain⟨a,xs,e1,hq,hl,hw⟩:=hw
 subst e1
 cases r
 obtain⟨its,rv,ht,hz⟩:=I.tuple hq
 refine assign_Tuple_tuple (I.ok.hd hc) ht (by simp[hn,← hl,rv.length]) hst fun h' hx=>?_
 have I1:Inv X pins σ H { s with heap:=h' }:=I.kept (t':=s.toks) fun b o e=>hx b o (Nat.ne_of_lt (Heap.lt_size e)) e
 exact h pins _ σ H xs _ Q I1 (by simpa using rv) hw
def tAsg(te:TE)(g:TG):TS:=fun D σ H=>te σ H fun x H1=>g x σ H1 D.nx
theorem az{i:Nat}{x:Str}{e:Expr}{te:TE}{pos':Pos}(hN:X.N.Nodup)(hi:X.N[i]? = some x)(hx:Loc X.env.scope x)(he:PE X e te)(hs:swapsWith e (some (.Name x pos')) pos.line X.env=pure false:=by rfl)(hf:X.fn x=true∨X.env.scope.names.lookup x=some .local:=by first | exact .inl rfl | exact .inr rfl | assumption) :
  PS X (.Assign [.Name x pos'] e pos) (tAsg te (gName i)):=by
 intro pins s σ H D I h
 refine wpAny_Assign_Name (thn (he pins s σ H _ I h) fun v s1 ⟨y,H1,I1,r1,q1⟩=>?_) hs
 exact store_ok I1 hN hi hx r1 (fun s2 I2=>⟨_,H1,I2,q1⟩) hf
end
section
variable {X:Cx}{pos:Pos}
def tWhile(c:TT)(tb:TS):TS:=fun D σ H=>∃ W:Nat→St→Hp→Prop,(∃ m,W m σ H)∧∀ m σ H,W m σ H →
 c σ H fun b H1=>if b=true then ∃ N:St→Hp→Prop,(∀ σ' H',N σ' H'→∃ m',m' < m∧W m' σ' H')∧tb { D with nx:=N,ct:=N,bk:=D.nx } σ H1 else D.nx σ H1
theorem qX{c:Expr}{body:List Stmt}{tc:TT}{tb:TS}(hp:PassesOwn (model X.prog X.w) X.A X.env X.xe)(hc:PT X c tc)(hb:PSs X body tb):PS X (.While c body [] pos) (tWhile tc tb):=by
 intro pins s σ H D I h
 obtain⟨W,⟨m0,w0⟩,turn⟩:=h
 refine wpAny_While (codeAny_whileLoop (fun n s'=>∃ σ' H',Inv X pins σ' H' s'∧W n σ' H') ?_ m0 ⟨σ,H,I,w0⟩)
 rintro n s1 ⟨σ1,H1,I1,w1⟩
 refine wpAny_passesOwn hp (thn (hc pins s1 σ1 H1 _ I1 (turn n σ1 H1 w1)) fun b s2 ⟨H2,I2,q2⟩=>?_)
 cases b with
 | true =>
  obtain⟨N,hN,q2⟩:=q2
  rw[if_pos rfl]
  refine wpAny_passesOwn hp (thn (hb pins s2 σ1 H2 _ I2 q2) fun f s3 q3=>?_)
  cases f with
  | next =>
   obtain⟨σ3,H3,I3,n3⟩:=q3
   obtain⟨m',hm,w3⟩:=hN σ3 H3 n3
   exact⟨m',hm,σ3,H3,I3,w3⟩
  | cont =>
   obtain⟨σ3,H3,I3,n3⟩:=q3
   obtain⟨m',hm,w3⟩:=hN σ3 H3 n3
   exact⟨m',hm,σ3,H3,I3,w3⟩
  | brk=>exact q3
  | ret v=>exact q3
 | false =>
  rw[if_neg Bool.false_ne_true]
  exact wpAny_execs_nil ⟨σ1,H2,I2,q2⟩
end
structure It where
 go:Nat→Hp→Prop
 yld:Nat→Hp→V→Hp→Prop
 stop:Nat→Hp→Prop
def FpOk(X:Cx)(pins:List (Addr×Obj))(H:Hp)(b:Addr):Prop :=
 H b=none∧b≠X.env.locals∧b∉X.fs∧(b∈X.ex∨X.s_0.heap.objs.size≤b)∧(∀ x c,X.env.cells.lookup x=some c→c≠b)∧∀ p∈X.pn++pins,p.1≠b
theorem Inv.fpOk{X:Cx}{pins:List (Addr×Obj)}{σ:St}{H H':Hp}{s:Shared}{b:Addr}(I:Inv X pins σ H s)(hb:s.heap.objs.size≤b)(hn:H' b=none):FpOk X pins H' b:=by
 refine⟨hn,Nat.ne_of_gt (Nat.lt_of_lt_of_le I.lt hb),I.nofs hb,.inr (Nat.le_trans I.sz hb),fun x c e z=>?_,fun p hp z=>?_⟩
 ·obtain⟨v,q⟩:=I.cell x c e
  exact absurd (Nat.lt_of_lt_of_le q.lt (by rw[z]; exact hb)) (Nat.lt_irrefl _)
 ·exact absurd (Nat.lt_of_lt_of_le (Heap.lt_size (I.pin p hp).1) (by rw[z]; exact hb)) (Nat.lt_irrefl _)
structure Turn (P:Program) (w:World) (K:PySem.W.Frag) (tg:Expr) (J:It) (fp:List Addr) (it:Addr) (tn:Nat→Heap→Prop):Prop where
 mem:it∈fp
 obj:∀ i h,tn i h→∀ b∈fp,∃ o,h.get? b=some o∧∀ v,o.data≠.cell v
 keep:∀ i h h',tn i h→(∀ b∈fp,∀ o,h.get? b=some o→h'.get? b=some o)→tn i h'
 item:∀ (X:Cx),X.prog=P→X.w=w→X.K=K→X.calm=true→∀ (i:Nat) (pins:List (Addr×Obj)) (s:Shared) (σ:St) (H:Hp) (E:Value→Shared→Prop),Inv X pins σ H s→(∀ b∈fp,FpOk X pins H b)→tn i s.heap→J.go i H →
  wpAny (model P w) X.A (pyNext (.ref it)) (fun r s1=>∃ u,r=some u ∧
   wpAny (model P w) X.A (letOwnedTupleGo tg (.ref it) u) (fun _ s2=>∃ x H',Inv X pins σ H' s2∧RelV x u∧J.yld i H x H'∧tn (i+1) s2.heap∧∀ b∈fp,H' b=none) E s1) E s
 done:∀ (X:Cx),X.prog=P→X.w=w→X.K=K→X.calm=true→∀ (i:Nat) (pins:List (Addr×Obj)) (s:Shared) (σ:St) (H:Hp) (E:Value→Shared→Prop),Inv X pins σ H s→(∀ b∈fp,FpOk X pins H b)→tn i s.heap→J.stop i H →
  wpAny (model P w) X.A (pyNext (.ref it)) (fun r s1=>r=none∧Inv X pins σ H s1) E s
 self:∀ (A:Around) (i:Nat) (s:Shared) (Q:Value→Shared→Prop) (E:Value→Shared→Prop),tn i s.heap→Q (.ref it) s→wpAny (model P w) A (pyIter (.ref it)) Q E s
abbrev TI:=St→Hp→(It→Hp→Prop)→Prop
def PIE(X:Cx)(pins:List (Addr×Obj))(σ:St)(tg:Expr)(R:It→Hp→Prop)(itv:Value)(s2:Shared):Prop :=
 ∃ (it:Addr) (fp:List Addr) (tn:Nat→Heap→Prop) (J:It) (H':Hp),itv = .ref it∧Inv X pins σ H' s2∧Turn X.prog X.w X.K tg J fp it tn∧tn 0 s2.heap∧(∀ b∈fp,FpOk X pins H' b)∧R J H'
def PI(X:Cx)(tg iter:Expr)(wi:TI):Prop :=
 ∀ (pins:List (Addr×Obj)) (s:Shared) (σ:St) (H:Hp) (R:It→Hp→Prop),Inv X pins σ H s→wi σ H R →
  wpAny (model X.prog X.w) X.A (eval iter X.env) (fun v s1=>wpAny (model X.prog X.w) X.A (pyIter v) (PIE X pins σ tg R) X.xe s1) X.xe s
theorem go_of {M : Model} {A : Around} {E : Value → Shared → Prop} {s : Shared} {tg : Expr} {it : Addr} {u : Value} {o : Obj} {n : String} {vs : Array Value} {Q : Unit → Shared → Prop} (ho : s.heap.get? it = some o) (hc : o.cls = .type n) (hd : o.data = .fields vs)
    (hn : ["enumerate", "zip", "dict_itemiterator", "dict_reverseitemiterator", "odict_iterator", "itertools.zip_longest", "itertools.pairwise"].contains n = false) (hQ : Q () s) : wpAny M A (letOwnedTupleGo tg (.ref it) u) Q E s := by
  unfold letOwnedTupleGo
  cases tg <;> first
    | exact wpAny_pure hQ
    | (cases u <;> first
        | exact wpAny_pure hQ
        | (refine wpAny_bind (wpAny_load ho ?_)
           rw [hc, hd]
           show wpAny M A (if (["enumerate", "zip", "dict_itemiterator", "dict_reverseitemiterator", "odict_iterator", "itertools.zip_longest", "itertools.pairwise"].contains n && vs[0]? == some (rawInt _)) = true then _ else _) Q E s
           rw [if_neg (by intro h; rw [hn, Bool.false_and] at h; cases h)]
           exact wpAny_pure hQ))
def Itl(K:PySem.W.Frag)(a:Addr):It :=
 ⟨fun i H=>∃ xs x,SqL K H a xs∧xs[i]? = some x,fun i H x H'=>H' = H∧∀ xs,SqL K H a xs→xs[i]? = some x,fun i H=>∃ xs,SqL K H a xs∧xs.length≤i⟩
def Itt(K:PySem.W.Frag)(a:Addr):It :=
 ⟨fun i H=>∃ xs x,SqT K H a xs∧xs[i]? = some x,fun i H x H'=>H' = H∧∀ xs,SqT K H a xs→xs[i]? = some x,fun i H=>∃ xs,SqT K H a xs∧xs.length≤i⟩
theorem turn_list{P:Program}{w:World}{K:PySem.W.Frag}{tg:Expr}(a it:Addr):Turn P w K tg (Itl K a) [it] it (fun i h=>h.IsListIter it a i) where
 mem:=by simp
 obj:=fun i h st b hb=>by
  have e:b=it:=by simpa using hb
  subst e
  obtain⟨o,e,c,d⟩:=st
  exact⟨o,e,fun v z=>by rw[d] at z; cases z⟩
 keep:=fun i h h' st k=>st.at fun o e=>k it (by simp) o e
 item:=by
  intro X hP hw hK hc i pins s σ H E I hf st hg
  subst hP hw hK
  obtain⟨xs,x,hq,hx⟩:=hg
  obtain⟨its,rv,p,hz⟩:=I.list hq
  obtain⟨u,hu,ru⟩:=rv.get hx
  obtain⟨f0,f1,f2,f3,f4,f5⟩:=hf it (by simp)
  refine wpAny_pyNext_list_item st p.isList (x:=u) (by simpa using hu) fun h' st' sb=>?_
  have I1:Inv X pins σ H { s with heap:=h' }:=I.turned (t':=s.toks) (fun b o hb e=>(sb.2 b hb).trans e) f0 f1 f3 f4 f5
  obtain⟨o,e,c,d⟩:=id st'
  exact⟨u,rfl,go_of (s:={ s with heap:=h' }) e c d (by decide) ⟨x,H,I1,ru,⟨rfl,fun ys hy=>by rw[I.mx hy hq]; exact hx⟩,st',fun b hb=>(hf b hb).1⟩⟩
 done:=by
  intro X hP hw hK hc i pins s σ H E I hf st hg
  subst hP hw hK
  obtain⟨xs,hq,hx⟩:=hg
  obtain⟨its,rv,p,hz⟩:=I.list hq
  obtain⟨f0,f1,f2,f3,f4,f5⟩:=hf it (by simp)
  have hl:=rv.length
  exact wpAny_pyNext_list_end (I.ok.hd hc) st p.isList (by simp; omega) fun h' eb=>⟨rfl,I.turned (t':=s.toks) (fun b o hb e=>eb b o hb e) f0 f1 f3 f4 f5⟩
 self:=fun _ _ _ _ _ st h=>wpAny_pyIter_listiter st h
theorem turn_tuple{P:Program}{w:World}{K:PySem.W.Frag}{tg:Expr}(a it:Addr):Turn P w K tg (Itt K a) [it] it (fun i h=>h.IsTupleIter it a i) where
 mem:=by simp
 obj:=fun i h st b hb=>by
  have e:b=it:=by simpa using hb
  subst e
  obtain⟨o,e,c,d⟩:=st
  exact⟨o,e,fun v z=>by rw[d] at z; cases z⟩
 keep:=fun i h h' st k=>st.at fun o e=>k it (by simp) o e
 item:=by
  intro X hP hw hK hc i pins s σ H E I hf st hg
  subst hP hw hK
  obtain⟨xs,x,hq,hx⟩:=hg
  obtain⟨its,rv,p,hz⟩:=I.tuple hq
  obtain⟨u,hu,ru⟩:=rv.get hx
  obtain⟨f0,f1,f2,f3,f4,f5⟩:=hf it (by simp)
  refine wpAny_pyNext_tuple_item st (show s.heap.IsTuple a its.toArray from p) (x:=u) (by simpa using hu) fun h' st' sb=>?_
  have I1:Inv X pins σ H { s with heap:=h' }:=I.turned (t':=s.toks) (fun b o hb e=>(sb.2 b hb).trans e) f0 f1 f3 f4 f5
  obtain⟨o,e,c,d⟩:=id st'
  exact⟨u,rfl,go_of (s:={ s with heap:=h' }) e c d (by decide) ⟨x,H,I1,ru,⟨rfl,fun ys hy=>by rw[I.tuple_inj hy hq]; exact hx⟩,st',fun b hb=>(hf b hb).1⟩⟩
 done:=by
  intro X hP hw hK hc i pins s σ H E I hf st hg
  subst hP hw hK
  obtain⟨xs,hq,hx⟩:=hg
  obtain⟨its,rv,p,hz⟩:=I.tuple hq
  obtain⟨f0,f1,f2,f3,f4,f5⟩:=hf it (by simp)
  have hl:=rv.length
  exact wpAny_pyNext_tuple_end (I.ok.hd hc) st (show s.heap.IsTuple a its.toArray from p) (by simp; omega) fun h' eb=>⟨rfl,I.turned (t':=s.toks) (fun b o hb e=>eb b o hb e) f0 f1 f3 f4 f5⟩
 self:=fun _ _ _ _ _ st h=>wpAny_pyIter_tupleiter st h
end L2
namespace L2
open PySem PySem.Spec PyProof.Rows
section
variable {X:Cx}{tg:Expr}
def iList(K:PySem.W.Frag)(tl:TE):TI:=fun σ H R=>tl σ H fun x H1=>∃ a,x = .ref a∧(∃ xs,SqL K H1 a xs)∧R (Itl K a) H1
def iTup(K:PySem.W.Frag)(tl:TE):TI:=fun σ H R=>tl σ H fun x H1=>∃ a,x = .ref a∧(∃ xs,SqT K H1 a xs)∧R (Itt K a) H1
theorem pi_list{l:Expr}{tl:TE}(hl:PE X l tl):PI X tg l (iList X.K tl):=by
 intro pins s σ H R I h
 refine thn (hl pins s σ H _ I h) fun v s1 ⟨x,H1,I1,r1,q1⟩=>?_
 obtain⟨a,e,⟨xs,hq⟩,q⟩:=q1
 subst e
 cases r1
 obtain⟨its,rv,p,hz⟩:=I1.list hq
 refine wpAny_pyIter_list p.isList ?_
 refine⟨s1.heap.objs.size,[s1.heap.objs.size],_,_,H1,rfl,I1.kept (t':=s1.toks) fun b o e=>Heap.get?_push_of_some _ e,turn_list a _,⟨_,Heap.get?_push_size _ rfl,rfl,rfl⟩,fun b hb=>?_,q⟩
 have e:b=s1.heap.objs.size:=by simpa using hb
 subst e
 exact I1.fpOk (Nat.le_refl _) (I1.hok.fresh (Nat.le_refl _))
theorem pi_tup{l:Expr}{tl:TE}(hl:PE X l tl):PI X tg l (iTup X.K tl):=by
 intro pins s σ H R I h
 refine thn (hl pins s σ H _ I h) fun v s1 ⟨x,H1,I1,r1,q1⟩=>?_
 obtain⟨a,e,⟨xs,hq⟩,q⟩:=q1
 subst e
 cases r1
 obtain⟨its,rv,p,hz⟩:=I1.tuple hq
 refine wpAny_pyIter_tuple (show s1.heap.IsTuple a its.toArray from p) ?_
 refine⟨s1.heap.objs.size,[s1.heap.objs.size],_,_,H1,rfl,I1.kept (t':=s1.toks) fun b o e=>Heap.get?_push_of_some _ e,turn_tuple a _,⟨_,Heap.get?_push_size _ rfl,rfl,rfl⟩,fun b hb=>?_,q⟩
 have e:b=s1.heap.objs.size:=by simpa using hb
 subst e
 exact I1.fpOk (Nat.le_refl _) (I1.hok.fresh (Nat.le_refl _))
def tFor(wi:TI)(g:TG)(tb:TS):TS:=fun D σ H=>wi σ H fun J H1=>∃ W:Nat→Nat→St→Hp→Prop,(∃ m,W 0 m σ H1)∧∀ i m σ H,W i m σ H →
 (J.stop i H∧D.nx σ H)∨(J.go i H∧∃ N:St→Hp→Prop,(∀ σ' H',N σ' H'→∃ m',m' < m∧W (i+1) m' σ' H')∧∀ x H',J.yld i H x H'→g x σ H' fun σ2 H2=>tb { D with nx:=N,ct:=N,bk:=D.nx } σ2 H2)
def pinsAt(fp:List Addr)(h:Heap):List (Addr×Obj):=fp.filterMap fun b=>(h.get? b).map fun o=>(b,o)
theorem oI{fp:List Addr}{h:Heap}{b:Addr}{o:Obj}(hb:b∈fp)(e:h.get? b=some o):(b,o)∈pinsAt fp h:=List.mem_filterMap.mpr ⟨b,hb,by rw[e]; rfl⟩
theorem of_pinsAt{fp:List Addr}{h:Heap}{p:Addr×Obj}(hp:p∈pinsAt fp h):p.1∈fp∧h.get? p.1=some p.2:=by
 obtain⟨b,hb,e⟩:=List.mem_filterMap.mp hp
 cases q:h.get? b with
 | none=>rw[q] at e; cases e
 | some o =>
  rw[q] at e
  have e':(b,o)=p:=Option.some.inj e
  subst e'
  exact⟨hb,q⟩
theorem Inv.pinned{pins:List (Addr×Obj)}{σ:St}{H:Hp}{s:Shared}{fp:List Addr}(I:Inv X pins σ H s)(hf:∀ b∈fp,FpOk X pins H b)(ho:∀ b∈fp,∃ o,s.heap.get? b=some o∧∀ v,o.data≠.cell v):Inv X (pins++pinsAt fp s.heap) σ H s :=
 I.pins_of fun p hp=>(List.mem_append.mp hp).elim (fun z=>I.pin p (List.mem_append_right _ z)) fun z=>by
  obtain⟨hb,e⟩:=of_pinsAt z
  obtain⟨f0,f1,f2,_⟩:=hf p.1 hb
  obtain⟨o,e',d⟩:=ho p.1 hb
  rw[e] at e'; cases e'
  exact⟨e,f0,f1,f2,d⟩
theorem Inv.qY{pins pl:List (Addr×Obj)}{σ:St}{H:Hp}{s:Shared}(I:Inv X (pins++pl) σ H s):Inv X pins σ H s:=I.pins_of fun p hp=>I.pin p (List.mem_append_right _ (List.mem_append_left _ hp))
theorem cW{iter:Expr}{body:List Stmt}{wi:TI}{g:TG}{tb:TS}{pos:Pos}(hp:PassesOwn (model X.prog X.w) X.A X.env X.xe)(hc:X.calm=true)(hi:PI X tg iter wi)(hg:PG X tg g)(hb:PSs X body tb)
 (hs:∀ x,foldedSetIterable iter X.env x=pure x:=by intro _; rfl):PS X (.For tg iter body [] pos) (tFor wi g tb):=by
 intro pins s σ H D I h
 refine wpAny_For (thn (hi pins s σ H _ I h) fun v s1 h1=>thn h1 fun itv s2 h2=>?_) hs
 obtain⟨it,fp,tn,J,H2,e,I2,T,st2,f2,W,⟨m0,w0⟩,turn⟩:=h2
 subst e
 have stat:∀ {H':Hp},(∀ b∈fp,H' b=none)→∀ b∈fp,FpOk X pins H' b:=fun hn b hb=>⟨hn b hb,(f2 b hb).2⟩
 refine codeAny_forLoop_any (fun n s'=>∃ i σ' H',Inv X pins σ' H' s'∧tn i s'.heap∧(∀ b∈fp,H' b=none)∧W i n σ' H') ?_ m0 ⟨0,σ,H2,I2,st2,fun b hb=>(f2 b hb).1,w0⟩
 rintro n s3 ⟨i,σ3,H3,I3,st3,fr3,w3⟩
 rcases turn i n σ3 H3 w3 with⟨stop,qn⟩ | ⟨go,N,hN,step⟩
 ·refine wpAny_passesOwn hp (thn (T.done X rfl rfl rfl hc i pins s3 σ3 H3 X.xe I3 (stat fr3) st3 stop) fun r s4 ⟨hr,I4⟩=>?_)
  subst hr
  exact wpAny_execs_nil ⟨σ3,H3,I4,qn⟩
 ·refine wpAny_passesOwn hp (thn (T.item X rfl rfl rfl hc i pins s3 σ3 H3 X.xe I3 (stat fr3) st3 go) fun r s4 ⟨u,hr,h4⟩=>?_)
  subst hr
  refine wpAny_passesOwn hp (thn h4 fun _ s5 ⟨x,H5,I5,r5,y5,st5,fr5⟩=>?_)
  have I5':=I5.pinned (stat fr5) (T.obj _ _ st5)
  refine wpAny_passesOwn hp (thn (hg _ s5 σ3 H5 x u _ I5' r5 (step x H5 y5)) fun _ s6 ⟨σ6,H6,I6,q6⟩=>?_)
  refine wpAny_passesOwn hp (thn (hb _ s6 σ6 H6 _ I6 q6) fun f s7 q7=>?_)
  have again:∀ {σ7:St} {H7:Hp},Inv X (pins++pinsAt fp s5.heap) σ7 H7 s7→N σ7 H7→∃ m,m<n∧∃ i σ' H',Inv X pins σ' H' s7∧tn i s7.heap∧(∀ b∈fp,H' b=none)∧W i m σ' H':=fun {σ7 H7} I7 n7=>by
   obtain⟨m',hm,w7⟩:=hN σ7 H7 n7
   refine⟨m',hm,i+1,σ7,H7,I7.qY,T.keep _ _ _ st5 fun b hb o e=>(I7.pin (b,o) (List.mem_append_right _ (List.mem_append_right _ (oI hb e)))).1,fun b hb=>?_,w7⟩
   obtain⟨o,e,d⟩:=T.obj _ _ st5 b hb
   exact(I7.pin (b,o) (List.mem_append_right _ (List.mem_append_right _ (oI hb e)))).2.1
  cases f with
  | next=>obtain⟨σ7,H7,I7,n7⟩:=q7; exact again I7 n7
  | cont=>obtain⟨σ7,H7,I7,n7⟩:=q7; exact again I7 n7
  | brk=>obtain⟨σ7,H7,I7,q7⟩:=q7; exact⟨σ7,H7,I7.qY,q7⟩
  | ret v=>obtain⟨x7,σ7,H7,I7,r7,q7⟩:=q7; exact⟨x7,σ7,H7,I7.qY,r7,q7⟩
end
theorem bQ{K:PySem.W.Frag}{a:Addr}{xs:List V}{g:TG}{tb:TS}{D:Ends}{σ:St}{H:Hp}(Pv:Nat→St→Hp→Prop)(h0:Pv 0 σ H)(hl:∀ i σ H,i≤xs.length→Pv i σ H→SqL K H a xs)
 (hs:∀ i x σ H,xs[i]? = some x→Pv i σ H→g x σ H fun σ2 H2=>tb { D with nx:=Pv (i+1),ct:=Pv (i+1),bk:=D.nx } σ2 H2)(hd:∀ σ H,Pv xs.length σ H→D.nx σ H) :
  ∃ W:Nat→Nat→St→Hp→Prop,(∃ m,W 0 m σ H)∧∀ i m σ H,W i m σ H →
   ((Itl K a).stop i H∧D.nx σ H)∨((Itl K a).go i H∧∃ N:St→Hp→Prop,(∀ σ' H',N σ' H'→∃ m',m' < m∧W (i+1) m' σ' H')∧∀ x H',(Itl K a).yld i H x H'→g x σ H' fun σ2 H2=>tb { D with nx:=N,ct:=N,bk:=D.nx } σ2 H2):=by
 refine⟨fun i m σ H=>m=xs.length-i∧i≤xs.length∧Pv i σ H,⟨xs.length,by simp,Nat.zero_le _,h0⟩,?_⟩
 rintro i m σ H ⟨rfl,hi,p⟩
 have q:=hl i σ H hi p
 by_cases hlt:i<xs.length
 ·refine .inr ⟨⟨xs,xs[i],q,by simp[hlt]⟩,Pv (i+1),fun σ' H' p'=>⟨xs.length-(i+1),by omega,rfl,hlt,p'⟩,fun x H' y=>?_⟩
  obtain⟨e,y⟩:=y
  subst e
  exact hs i x σ _ (y xs q) p
 ·have e:i=xs.length:=by omega
  subst e
  exact .inl ⟨⟨xs,q,Nat.le_refl _⟩,hd σ H p⟩
theorem for_tup{K:PySem.W.Frag}{a:Addr}{xs:List V}{g:TG}{tb:TS}{D:Ends}{σ:St}{H:Hp}(Pv:Nat→St→Hp→Prop)(h0:Pv 0 σ H)(hl:∀ i σ H,i≤xs.length→Pv i σ H→SqT K H a xs)
 (hs:∀ i x σ H,xs[i]? = some x→Pv i σ H→g x σ H fun σ2 H2=>tb { D with nx:=Pv (i+1),ct:=Pv (i+1),bk:=D.nx } σ2 H2)(hd:∀ σ H,Pv xs.length σ H→D.nx σ H) :
  ∃ W:Nat→Nat→St→Hp→Prop,(∃ m,W 0 m σ H)∧∀ i m σ H,W i m σ H →
   ((Itt K a).stop i H∧D.nx σ H)∨((Itt K a).go i H∧∃ N:St→Hp→Prop,(∀ σ' H',N σ' H'→∃ m',m' < m∧W (i+1) m' σ' H')∧∀ x H',(Itt K a).yld i H x H'→g x σ H' fun σ2 H2=>tb { D with nx:=N,ct:=N,bk:=D.nx } σ2 H2):=by
 refine⟨fun i m σ H=>m=xs.length-i∧i≤xs.length∧Pv i σ H,⟨xs.length,by simp,Nat.zero_le _,h0⟩,?_⟩
 rintro i m σ H ⟨rfl,hi,p⟩
 have q:=hl i σ H hi p
 by_cases hlt:i<xs.length
 ·refine .inr ⟨⟨xs,xs[i],q,by simp[hlt]⟩,Pv (i+1),fun σ' H' p'=>⟨xs.length-(i+1),by omega,rfl,hlt,p'⟩,fun x H' y=>?_⟩
  obtain⟨e,y⟩:=y
  subst e
  exact hs i x σ _ (y xs q) p
 ·have e:i=xs.length:=by omega
  subst e
  exact .inl ⟨⟨xs,q,Nat.le_refl _⟩,hd σ H p⟩
end L2
namespace L2
open PySem PySem.Spec PyProof.Rows
abbrev R2:=V→V→Hp→VK→Prop
def OpR(X:Cx)(f:Value→Value→Sem Value)(r:R2):Prop :=
 ∀ (pins:List (Addr×Obj)) (s:Shared) (σ:St) (H:Hp) (x y:V) (v u:Value) (Q:VK),Inv X pins σ H s→RelV x v→RelV y u→r x y H Q →
  wpAny (model X.prog X.w) X.A (f v u) (EP X pins σ Q) X.xe s
def UnR(X:Cx)(f:Value→Sem Value)(r:V→Hp→VK→Prop):Prop :=
 ∀ (pins:List (Addr×Obj)) (s:Shared) (σ:St) (H:Hp) (x:V) (v:Value) (Q:VK),Inv X pins σ H s→RelV x v→r x H Q →
  wpAny (model X.prog X.w) X.A (f v) (EP X pins σ Q) X.xe s
def mM(X:Cx)(f:Value)(r:List V→Hp→VK→Prop):Prop :=
 ∀ (pins:List (Addr×Obj)) (s:Shared) (σ:St) (H:Hp) (xs:List V) (us:List Value) (Q:VK),Inv X pins σ H s→Vals xs us→r xs H Q →
  wpAny (model X.prog X.w) X.A (call f us) (EP X pins σ Q) X.xe s
def tOp(r:R2)(ta tb:TE):TE:=fun σ H Q=>ta σ H fun x H1=>tb σ H1 fun y H2=>r x y H2 Q
def tUn(r:V→Hp→VK→Prop)(ta:TE):TE:=fun σ H Q=>ta σ H fun x H1=>r x H1 Q
def rI(C:Int→Int→Prop)(g:Int→Int→V):R2:=fun x y H Q=>∃ i j,x = .int i∧y = .int j∧C i j∧Q (g i j) H
def rI0(g:Int→Int→V):R2:=fun x y H Q=>∃ i j,x = .int i∧y = .int j∧Q (g i j) H
def rU(g:Int→V):V→Hp→VK→Prop:=fun x H Q=>∃ i,x = .int i∧Q (g i) H
section
variable {X:Cx}{a b c:Expr}{ta tb tc:TE}{pos:Pos}
theorem binT(ha:PE X a ta)(hb:PE X b tb){pins:List (Addr×Obj)}{s:Shared}{σ:St}{H:Hp}{R:V→V→Hp→Prop}(I:Inv X pins σ H s)
 (h:ta σ H fun x H1=>tb σ H1 fun y H2=>R x y H2){Q:Value→Shared→Prop}{f:Value→Value→Sem Value}
 (hf:∀ v u s2 x y H2,Inv X pins σ H2 s2→RelV x v→RelV y u→R x y H2→wpAny (model X.prog X.w) X.A (f v u) Q X.xe s2) :
  wpAny (model X.prog X.w) X.A (eval a X.env) (fun v s₁=>wpAny (model X.prog X.w) X.A (eval b X.env) (fun u s₂=>wpAny (model X.prog X.w) X.A (f v u) Q X.xe s₂) X.xe s₁) X.xe s:=by
 refine thn (ha pins s σ H _ I h) fun v s1 ⟨x,H1,I1,r1,q1⟩=>?_
 refine thn (hb pins s1 σ H1 _ I1 q1) fun u s2 ⟨y,H2,I2,r2,q2⟩=>?_
 exact hf v u s2 x y H2 I2 r1 r2 q2
theorem aF{op:Operator}{r:R2}(ho:OpR X (binaryOp op) r)(ha:PE X a ta)(hb:PE X b tb):PE X (.BinOp a op b pos) (tOp r ta tb):=by
 intro pins s σ H Q I h
 exact wpAny_BinOp (binT ha hb I h fun v u s2 x y H2 I2 rx ry q=>ho pins s2 σ H2 x y v u Q I2 rx ry q)
theorem oJ{op:UnaryOp}{r:V→Hp→VK→Prop}(ho:UnR X (unaryOp op) r)(ha:PE X a ta):PE X (.UnaryOp op a pos) (tUn r ta):=by
 intro pins s σ H Q I h
 exact UnaryOp_ (thn (ha pins s σ H _ I h) fun v s1 ⟨x,H1,I1,r1,q1⟩=>ho pins s1 σ H1 x v Q I1 r1 q1)
theorem opI{f:Value→Value→Sem Value}{C:Int→Int→Prop}{g:Int→Int→Int}
 (rule:∀ (i j:Int) (t u:Tok) (s:Shared) (Q:Value→Shared→Prop) (E:Value→Shared→Prop),C i j→Q (.int (g i j) s.toks) { s with toks:=s.toks+1 }→wpAny (model X.prog X.w) X.A (f (.int i t) (.int j u)) Q E s) :
  OpR X f (rI C fun i j=>.int (g i j)):=by
 intro pins s σ H x y v u Q I rx ry h
 obtain⟨i,j,rfl,rfl,hc,q⟩:=h
 obtain⟨t,rfl⟩:=rx
 obtain⟨t',rfl⟩:=ry
 exact rule i j t t' s _ _ hc ⟨.int (g i j),H,I.tok _,⟨_,rfl⟩,q⟩
theorem opI0{f:Value→Value→Sem Value}{g:Int→Int→Int}
 (rule:∀ (i j:Int) (t u:Tok) (s:Shared) (Q:Value→Shared→Prop) (E:Value→Shared→Prop),Q (.int (g i j) s.toks) { s with toks:=s.toks+1 }→wpAny (model X.prog X.w) X.A (f (.int i t) (.int j u)) Q E s) :
  OpR X f (rI0 fun i j=>.int (g i j)):=by
 intro pins s σ H x y v u Q I rx ry h
 obtain⟨i,j,rfl,rfl,q⟩:=h
 obtain⟨t,rfl⟩:=rx
 obtain⟨t',rfl⟩:=ry
 exact rule i j t t' s _ _ ⟨.int (g i j),H,I.tok _,⟨_,rfl⟩,q⟩
theorem opB0{f:Value→Value→Sem Value}{g:Int→Int→Bool}
 (rule:∀ (i j:Int) (t u:Tok) (s:Shared) (Q:Value→Shared→Prop) (E:Value→Shared→Prop),Q (.bool (g i j)) s→wpAny (model X.prog X.w) X.A (f (.int i t) (.int j u)) Q E s) :
  OpR X f (rI0 fun i j=>.bl (g i j)):=by
 intro pins s σ H x y v u Q I rx ry h
 obtain⟨i,j,rfl,rfl,q⟩:=h
 obtain⟨t,rfl⟩:=rx
 obtain⟨t',rfl⟩:=ry
 exact rule i j t t' s _ _ ⟨.bl (g i j),H,I,rfl,q⟩
def CPow(i j:Int):Prop:=0≤j∧j≤1000000∧i.natAbs<2^64
theorem dM:OpR X (binaryOp .Add) (rI0 fun i j=>.int (i+j)):=opI0 fun _ _ _ _ _ _ _ q=>add_int q
theorem cX:OpR X (binaryOp .Sub) (rI0 fun i j=>.int (i-j)):=opI0 fun _ _ _ _ _ _ _ q=>sub_int q
theorem op_mod:OpR X (binaryOp .Mod) (rI (fun _ j=>0<j) fun i j=>.int (i % j)):=opI fun i j _ _ _ _ _ hc q=>by
 have h1:(0:Int)<j:=hc
 exact mod_int' (by omega) (by rw[Int.fmod_eq_emod_of_nonneg i (by omega)]; exact q)
theorem op_pow:OpR X (binaryOp .Pow) (rI CPow fun i j=>.int (i^j.toNat)):=opI fun _ _ _ _ _ _ _ hc q=>pow_int_small hc.1 hc.2.1 hc.2.2 q
theorem unI{f:Value→Sem Value}{g:Int→Int}
 (rule:∀ (i:Int) (t:Tok) (s:Shared) (Q:Value→Shared→Prop) (E:Value→Shared→Prop),Q (.int (g i) s.toks) { s with toks:=s.toks+1 }→wpAny (model X.prog X.w) X.A (f (.int i t)) Q E s) :
  UnR X f (rU fun i=>.int (g i)):=by
 intro pins s σ H x v Q I rx h
 obtain⟨i,rfl,q⟩:=h
 obtain⟨t,rfl⟩:=rx
 exact rule i t s _ _ ⟨.int (g i),H,I.tok _,⟨_,rfl⟩,q⟩
theorem iO:UnR X (unaryOp .USub) (rU fun i=>.int (-i)):=unI fun _ _ _ _ _ q=>neg_int q
end
def scal:V→V→Bool
 | .non,.non=>true | .non,.int _=>true | .int _,.non=>true | .non,.bl _=>true | .bl _,.non=>true | .non,.str _=>true | .str _,.non=>true
 | .int _,.int _=>true | .bl _,.bl _=>true | .str _,.str _=>true | .byt _,.byt _=>true
 | .int _,.str _=>true | .str _,.int _=>true | .bl _,.str _=>true | .str _,.bl _=>true
 | _,_=>false
def rEq:R2:=fun x y H Q=>scal x y=true∧Q (.bl (decide (x=y))) H
def rNe:R2:=fun x y H Q=>scal x y=true∧Q (.bl (!decide (x=y))) H
theorem dec_int{i j:Int}:decide (V.int i=V.int j)=(i==j):=by
 rw[Bool.eq_iff_iff]
 simp
theorem dec_bl{i j:Bool}:decide (V.bl i=V.bl j)=(i==j):=by
 rw[Bool.eq_iff_iff]
 simp
theorem dec_str{i j:Str}:decide (V.str i=V.str j)=(i==j):=by
 rw[Bool.eq_iff_iff]
 simp
theorem dec_byt{i j:Array UInt8}:decide (V.byt i=V.byt j)=(i.toList==j.toList):=by
 rw[Bool.eq_iff_iff]
 cases i
 cases j
 simp
section
variable {X:Cx}{a b c:Expr}{ta tb tc:TE}{pos:Pos}
theorem cf{pins:List (Addr×Obj)}{σ:St}{H:Hp}{s:Shared}{Q:VK}{k k':Bool}(I:Inv X pins σ H s)(q:Q (.bl k) H)(e:k=k'):EP X pins σ Q (.bool k') s:=by
 subst e
 exact⟨.bl k,H,I,rfl,q⟩
theorem fU:OpR X (compareOp .Eq) rEq:=by
 intro pins s σ H x y v u Q I rx ry h
 obtain⟨hs,q⟩:=h
 cases x with
 | non =>
  cases rx
  cases y with
  | non=>cases ry; exact PySem.EqNone.eq_none_none (cf I q (by simp))
  | bl j=>cases ry; exact PySem.EqNone.eq_none_bool (cf I q (by simp))
  | int j=>obtain⟨t',rfl⟩:=ry; exact PySem.EqNone.eq_none_int (cf I q (by simp))
  | str j=>obtain⟨t',rfl⟩:=ry; exact PySem.EqNone.eq_none_str (cf I q (by simp))
  | _=>exact absurd (show false=true from hs) Bool.false_ne_true
 | bl i =>
  cases rx
  cases y with
  | non=>cases ry; exact PySem.EqNone.eq_bool_none (cf I q (by simp))
  | bl j=>cases ry; exact eq_bool (cf I q dec_bl)
  | str j=>obtain⟨t',rfl⟩:=ry; exact PySem.EqMixed.eq_bool_str (cf I q (by simp))
  | _=>exact absurd (show false=true from hs) Bool.false_ne_true
 | int i =>
  obtain⟨t,rfl⟩:=rx
  cases y with
  | non=>cases ry; exact PySem.EqNone.eq_int_none (cf I q (by simp))
  | int j=>obtain⟨t',rfl⟩:=ry; exact eq_int (cf I q dec_int)
  | str j=>obtain⟨t',rfl⟩:=ry; exact PySem.EqMixed.eq_int_str (cf I q (by simp))
  | _=>exact absurd (show false=true from hs) Bool.false_ne_true
 | str i =>
  obtain⟨t,rfl⟩:=rx
  cases y with
  | non=>cases ry; exact PySem.EqNone.eq_str_none (cf I q (by simp))
  | bl j=>cases ry; exact PySem.EqMixed.eq_str_bool (cf I q (by simp))
  | int j=>obtain⟨t',rfl⟩:=ry; exact PySem.EqMixed.eq_str_int (cf I q (by simp))
  | str j=>obtain⟨t',rfl⟩:=ry; exact eq_str (cf I q dec_str)
  | _=>exact absurd (show false=true from hs) Bool.false_ne_true
 | byt i =>
  obtain⟨t,rfl⟩:=rx
  cases y with
  | byt j=>obtain⟨t',rfl⟩:=ry; exact PySem.W.eq_bytes (cf I q dec_byt)
  | _=>exact absurd (show false=true from hs) Bool.false_ne_true
 | _=>cases y<;>exact absurd (show false=true from hs) Bool.false_ne_true
theorem qZ:OpR X (compareOp .NotEq) rNe:=by
 intro pins s σ H x y v u Q I rx ry h
 obtain⟨hs,q⟩:=h
 cases x with
 | non =>
  cases rx
  cases y with
  | non=>cases ry; exact PySem.EqNone.ne_none_none (cf I q (by simp))
  | bl j=>cases ry; exact PySem.EqNone.ne_none_bool (cf I q (by simp))
  | int j=>obtain⟨t',rfl⟩:=ry; exact PySem.EqNone.ne_none_int (cf I q (by simp))
  | str j=>obtain⟨t',rfl⟩:=ry; exact PySem.EqNone.ne_none_str (cf I q (by simp))
  | _=>exact absurd (show false=true from hs) Bool.false_ne_true
 | bl i =>
  cases rx
  cases y with
  | non=>cases ry; exact PySem.EqNone.ne_bool_none (cf I q (by simp))
  | bl j=>cases ry; exact ne_bool (cf I q (congrArg not dec_bl))
  | str j=>obtain⟨t',rfl⟩:=ry; exact PySem.EqMixed.ne_bool_str (cf I q (by simp))
  | _=>exact absurd (show false=true from hs) Bool.false_ne_true
 | int i =>
  obtain⟨t,rfl⟩:=rx
  cases y with
  | non=>cases ry; exact PySem.EqNone.ne_int_none (cf I q (by simp))
  | int j=>obtain⟨t',rfl⟩:=ry; exact ne_int (cf I q (congrArg not dec_int))
  | str j=>obtain⟨t',rfl⟩:=ry; exact PySem.EqMixed.ne_int_str (cf I q (by simp))
  | _=>exact absurd (show false=true from hs) Bool.false_ne_true
 | str i =>
  obtain⟨t,rfl⟩:=rx
  cases y with
  | non=>cases ry; exact PySem.EqNone.ne_str_none (cf I q (by simp))
  | bl j=>cases ry; exact PySem.EqMixed.ne_str_bool (cf I q (by simp))
  | int j=>obtain⟨t',rfl⟩:=ry; exact PySem.EqMixed.ne_str_int (cf I q (by simp))
  | str j=>obtain⟨t',rfl⟩:=ry; exact ne_str (cf I q (congrArg not dec_str))
  | _=>exact absurd (show false=true from hs) Bool.false_ne_true
 | byt i =>
  obtain⟨t,rfl⟩:=rx
  cases y with
  | byt j=>obtain⟨t',rfl⟩:=ry; exact PySem.W.ne_bytes (cf I q (congrArg not dec_byt))
  | _=>exact absurd (show false=true from hs) Bool.false_ne_true
 | _=>cases y<;>exact absurd (show false=true from hs) Bool.false_ne_true
theorem iA:OpR X (compareOp .Lt) (rI0 fun i j=>.bl (decide (i<j))):=opB0 fun _ _ _ _ _ _ _ q=>lt_int q
theorem oK:OpR X (compareOp .LtE) (rI0 fun i j=>.bl (decide (i≤j))):=opB0 fun _ _ _ _ _ _ _ q=>le_int q
theorem i7:OpR X (compareOp .Gt) (rI0 fun i j=>.bl (decide (j<i))):=opB0 fun _ _ _ _ _ _ _ q=>gt_int q
theorem op_ge:OpR X (compareOp .GtE) (rI0 fun i j=>.bl (decide (j≤i))):=opB0 fun _ _ _ _ _ _ _ q=>ge_int q
theorem aM(b:Expr){op:CmpOp}(h:op≠.In:=by decide)(h2:op≠.NotIn:=by decide):behindInMarks op b=false:=by
 have e1:(op==CmpOp.In)=false:=by cases op<;>first | rfl | exact absurd rfl h
 have e2:(op==CmpOp.NotIn)=false:=by cases op<;>first | rfl | exact absurd rfl h2
 cases b<;>simp[behindInMarks,e1,e2]
theorem ko{op:CmpOp}{r:R2}(ho:OpR X (compareOp op) r)(ha:PE X a ta)(hb:PE X b tb)(hm:behindInMarks op b=false):PE X (.Compare a [op] [b] pos) (tOp r ta tb):=by
 intro pins s σ H Q I h
 exact wpAny_Compare1 (binT ha hb I h fun v u s2 x y H2 I2 rx ry q=>ho pins s2 σ H2 x y v u Q I2 rx ry q) hm
def tTest(t:TE):TT:=fun σ H Q=>t σ H fun x H'=>∃ k,x = .bl k∧Q k H'
theorem aH{op:CmpOp}{r:R2}(ho:OpR X (compareOp op) r)(ha:PE X a ta)(hb:PE X b tb)(hm:behindInMarks op b=false):PT X (.Compare a [op] [b] pos) (tTest (tOp r ta tb)):=by
 intro pins s σ H Q I h
 refine wpAny_isTrue_Compare1 (thn (ha pins s σ H _ I h) fun v s1 ⟨x,H1,I1,r1,q1⟩=>thn (hb pins s1 σ H1 _ I1 q1) fun u s2 ⟨y,H2,I2,r2,q2⟩ =>
  thn (ho pins s2 σ H2 x y v u _ I2 r1 r2 q2) fun c s3 ⟨z,H3,I3,r3,k,e,q3⟩=>?_) hm
 subst e
 cases r3
 exact wpAny_truthy_bool ⟨H3,I3,q3⟩
def tChain(r r':R2)(ta tb tc:TE):TE:=fun σ H Q=>ta σ H fun x H1=>tb σ H1 fun y H2=>r x y H2 fun z H3=>∃ k,z = .bl k ∧
 (if k=true then tc σ H3 fun w' H4=>r' y w' H4 Q else Q (.bl false) H3)
theorem rb{op op':CmpOp}{r r':R2}(ho:OpR X (compareOp op) r)(ho':OpR X (compareOp op') r')(ha:PE X a ta)(hb:PE X b tb)(hc:PE X c tc)
 (hm:lastMarks [op,op'] [b,c]=false:=by with_unfolding_all rfl):PE X (.Compare a [op,op'] [b,c] pos) (tChain r r' ta tb tc):=by
 intro pins s σ H Q I h
 refine Compare_chain (thn (ha pins s σ H _ I h) fun v s1 ⟨x,H1,I1,r1,q1⟩=>chain_link (thn (hb pins s1 σ H1 _ I1 q1) fun u s2 ⟨y,H2,I2,r2,q2⟩ =>
  thn (ho pins s2 σ H2 x y v u _ I2 r1 r2 q2) fun d s3 ⟨z,H3,I3,r3,k,e,q3⟩=>?_)) hm
 subst e
 cases r3
 refine wpAny_truthy_bool ?_
 cases k with
 | false=>exact ite_ff ⟨.bl false,H3,I3,rfl,q3⟩
 | true=>exact ite_tt (chain_last (thn (hc pins s3 σ H3 _ I3 q3) fun w' s4 ⟨z',H4,I4,r4,q4⟩=>ho' pins s4 σ H4 y z' u w' Q I4 r2 r4 q4))
theorem pt_chain{op op':CmpOp}{r r':R2}(ho:OpR X (compareOp op) r)(ho':OpR X (compareOp op') r')(ha:PE X a ta)(hb:PE X b tb)(hc:PE X c tc)
 (hm:lastMarks [op,op'] [b,c]=false:=by with_unfolding_all rfl):PT X (.Compare a [op,op'] [b,c] pos) (tTest (tChain r r' ta tb tc)):=by
 intro pins s σ H Q I h
 refine isTrue_chain (thn (ha pins s σ H _ I h) fun v s1 ⟨x,H1,I1,r1,q1⟩=>test_link (thn (hb pins s1 σ H1 _ I1 q1) fun u s2 ⟨y,H2,I2,r2,q2⟩ =>
  thn (ho pins s2 σ H2 x y v u _ I2 r1 r2 q2) fun d s3 ⟨z,H3,I3,r3,k,e,q3⟩=>?_)) hm
 subst e
 cases r3
 refine wpAny_truthy_bool ?_
 cases k with
 | false =>
  obtain⟨k',e',q'⟩:=q3
  cases e'
  exact ite_ff ⟨H3,I3,q'⟩
 | true =>
  refine ite_tt (test_last (thn (hc pins s3 σ H3 _ I3 q3) fun w' s4 ⟨z',H4,I4,r4,q4⟩=>thn (ho' pins s4 σ H4 y z' u w' _ I4 r2 r4 q4) fun d' s5 ⟨z2,H5,I5,r5,k2,e2,q5⟩=>?_))
  subst e2
  cases r5
  exact wpAny_truthy_bool ⟨H5,I5,q5⟩
theorem line63:(sizeLine:Nat)<2^63:=by rw[sizeLine_eq]; decide
theorem op_add_str:OpR X (binaryOp .Add) (fun x y H Q=>∃ i j,x = .str i∧y = .str j∧i.length+j.length≤sizeLine∧Q (.str (i++j)) H):=by
 intro pins s σ H x y v u Q I rx ry h
 obtain⟨i,j,rfl,rfl,hz,q⟩:=h
 obtain⟨t,rfl⟩:=rx
 obtain⟨t',rfl⟩:=ry
 exact add_str (fun t' tk=>⟨.str (i++j),H,I.tok _,⟨_,rfl⟩,q⟩) hz
theorem vals1{x:V}{us:List Value}(r:Vals [x] us):∃ u,us=[u]∧RelV x u:=by
 cases r with
 | cons r1 r2=>cases r2; exact⟨_,rfl,r1⟩
theorem call_abs:mM X (.builtin "abs") (fun xs H Q=>∃ i,xs=[.int i]∧Q (.int (if i<0 then -i else i)) H):=by
 intro pins s σ H xs us Q I r h
 obtain⟨i,rfl,q⟩:=h
 obtain⟨u,rfl,t,rfl⟩:=vals1 r
 exact call_abs_int fun u tk=>⟨.int (if i<0 then -i else i),H,I.tok _,⟨_,rfl⟩,q⟩
theorem call_ord:mM X (.builtin "ord") (fun xs H Q=>∃ x,xs=[.str x]∧x.length=1∧Q (.int (x.cps.getD 0 0:Nat)) H):=by
 intro pins s σ H xs us Q I r h
 obtain⟨x,rfl,hz,q⟩:=h
 obtain⟨u,rfl,t,rfl⟩:=vals1 r
 exact ord_of_one hz ⟨.int _,H,I.tok _,⟨_,rfl⟩,q⟩
end
end L2
namespace L2
open PySem PySem.Spec PyProof.Rows
structure ObjM (h:Heap) (x dx C:Addr) (mA:Str→Option Value):Prop where
 obj:h.get? x=some (PySem.W.instObj C dx)
 ns:h.Ns1 dx mA
 ne:dx≠x
theorem lookIn_ns{h:Heap}{dx:Addr}{mA:Str→Option Value}(n:h.Ns1 dx mA):∃ od,h.get? dx=some od∧∀ name,PySem.W.lookIn name od=some (mA name):=by
 obtain⟨o,es,ep,ho,hd,hk,_,hm⟩:=n
 refine⟨o,ho,fun name=>?_⟩
 have e:=hm name
 unfold nsFind findBy at e
 rw[← Array.find?_toList] at e
 unfold PySem.W.lookIn
 rw[hd]
 dsimp only
 split
 ·rename_i y q
  rw[q] at e
  exact congrArg some e
 ·rename_i q
  rw[q] at e
  have a:es.toList.any (·.refKey)=false:=by
   rw[List.any_eq_false]
   intro y hy
   obtain⟨z,t,hkey⟩:=hk y (Array.mem_toList_iff.mp hy)
   simp[DictEntry.refKey,hkey]
  have a':¬ es.toList.any (·.refKey)=true:=by rw[a]; exact Bool.false_ne_true
  rw[if_neg a']
  exact congrArg some e
theorem ObjM.look{h:Heap}{x dx C:Addr}{mA:Str→Option Value}(I:ObjM h x dx C mA):∃ od,PySem.W.InstAt h x (PySem.W.instObj C dx) C (some od)∧∀ name,PySem.W.lookIn name od=some (mA name) :=
 let ⟨od,ho,hl⟩:=lookIn_ns I.ns
 ⟨od,⟨I.obj,rfl,rfl,ho⟩,hl⟩
section
variable {prog:Program}{w:World}{A:Around}{E:Value→Shared→Prop}{s:Shared}{K:PySem.W.Frag}{x dx C f:Addr}{mA:Str→Option Value}{name:Str}{v:Value}
theorem get_map{expr:Bool}{Q:Value→Shared→Prop}(X:K.In s.heap)(I:ObjM s.heap x dx C mA)(hg:PySem.W.plainGet K C name=true)(hh:PySem.W.hasDictIn K C=true)
 (ha:PySem.W.findIn K (.ref C) name=some none)(hv:mA name=some v)(hv':PySem.W.handedIn v=true)(h:Q v { s with toks:=s.toks+1 }) :
  wpAny (model prog w) A (getAttr (.ref x) name expr) Q E s:=by
 obtain⟨od,J,hl⟩:=I.look
 exact PySem.W.get_value X J (PySem.W.plainGet_of hg).1 (PySem.W.findObj_own hh ha rfl (by rw[hl,hv])) hv' h
theorem set_map{ns:List Str}{Q:Unit→Shared→Prop}(X:K.In s.heap)(I:ObjM s.heap x dx C mA)
 (hs:PySem.W.findIn K (.ref C) "__setattr__" = some (some (.builtin "object.__setattr__")))(hp:PySem.W.plainOver K C=true)(ht:PySem.W.takerIn K C name=some none)(hh:PySem.W.hasDictIn K C=true)
 (hw:PySem.Within mA ns)(hsz:ns.length≤sizeLine)
 (h:∀ h',ObjM h' x dx C (fun y=>if y=name then some v else mA y)→Heap.SameBut dx s.heap h'→Q () { s with heap:=h',toks:=s.toks+2 }) :
  wpAny (model prog w) A (setAttr (.ref x) name v) Q E s:=by
 obtain⟨od,J,hl⟩:=I.look
 refine PySem.W.set_plain X J hs (PySem.W.osa_open (s:={ s with toks:=s.toks+1 }) (r:=none) X J hp ht fun b=>?_)
 obtain⟨cd,hc,hd'⟩:=PySem.W.any_some hh
 have hx:s.heap.get? x=some ⟨.ref C,some dx,.plain,#[]⟩:=I.obj
 refine wpAny_bind (wpAny_pure (wpAny_bind (wpAny_bind (wpAny_loadPart hx (wpAny_bind (PySem.W.Looks.here (s:={ s with toks:=s.toks+1 }) (PySem.W.looks_clsIn X hc) ?_))))))
 rw[hd']
 refine wpAny_pure (a:=some dx) (wpAny_bind (wpAny_pure (wpAny_bind ?_)))
 refine wpAny_nsSet1 (s:={ s with toks:=s.toks+1 }) I.ns fun h' hn2 hs2=>?_
 obtain⟨oD,esD,epD,hoD,hdD,hcD⟩:=hn2.count (PySem.Within.cons name v hw)
 refine wpAny_bind (wpAny_lookBehind hoD (by rw[hdD]; exact pastItsLine_dict (Nat.le_trans hcD (by rw[List.length_cons]; omega))) ?_)
 exact wpAny_pure (h _ ⟨(hs2.2 _ (Ne.symm I.ne)).trans I.obj,hn2,I.ne⟩ hs2)
theorem make_map{R:Result→Shared→Prop}{vs:List Value}{kw:List (Str×Value)}(X:K.In s.heap)(hm:PySem.W.makesIn K C=true)
 (hi:PySem.W.findIn K (.ref C) "__init__" = some (some (.ref f)))(hf:PySem.W.typeIn K (.ref f)=some (.type "function"))
 (h:codeAny (model prog w) (A.under (.builtin "type.__call__" ⟨.ref C::vs,kw⟩)) (.call (.ref f) ⟨.ref (s.heap.objs.size+1)::vs,kw⟩) (PySem.W.InitBack (s.heap.objs.size+1) R)
   { s with heap:=(s.heap.push PySem.W.emptyDict).push (PySem.W.instObj C s.heap.objs.size) }) :
  codeAny (model prog w) A (.call (.ref C) ⟨vs,kw⟩) R s:=by
 obtain⟨hh,g,d,t,os⟩:=s
 exact PySem.W.make_core (PySem.W.makes_of X hm) (PySem.W.looks_findIn X hi) (fun self=>PySem.W.bind_fn X self hf) (.inl rfl) h
end
def eD(f:Str)(v:V):List (Str×V)→List (Str×V)
 | []=>[(f,v)]
 | (g,x)::r=>if g=f then(g,v)::r else(g,x)::eD f v r
theorem iB(f g:Str)(v:V):∀ fs:List (Str×V),(eD f v fs).lookup g=if g=f then some v else fs.lookup g
 | []=>by
  show List.lookup g [(f,v)]=_
  by_cases h:g=f
  ·have hb:(g==f)=true:=beq_iff_eq.mpr h
   simp only[List.lookup,hb,if_pos h]
  ·have hb:(g==f)=false:=beq_eq_false_iff_ne.mpr h
   simp only[List.lookup,hb,if_neg h]
 | (k,x)::r=>by
  have ih:=iB f g v r
  rw[show eD f v ((k,x)::r)=(if k=f then(k,v)::r else(k,x)::eD f v r) from rfl]
  by_cases hk:k=f
  ·rw[if_pos hk]
   by_cases h:g=k
   ·have hb:(g==k)=true:=beq_iff_eq.mpr h
    simp only[List.lookup,hb,if_pos (h.trans hk)]
   ·have hb:(g==k)=false:=beq_eq_false_iff_ne.mpr h
    simp only[List.lookup,hb,if_neg (fun e:g=f=>h (e.trans hk.symm))]
  ·rw[if_neg hk]
   by_cases h:g=k
   ·have hb:(g==k)=true:=beq_iff_eq.mpr h
    simp only[List.lookup,hb,if_neg (fun e:g=f=>hk (h.symm.trans e))]
   ·have hb:(g==k)=false:=beq_eq_false_iff_ne.mpr h
    simp only[List.lookup,hb]
    exact ih
theorem r9(f:Str)(v:V):∀ fs:List (Str×V),f∈(eD f v fs).map (·.1)∧∀ g,g∈fs.map (·.1)→g∈(eD f v fs).map (·.1)
 | []=>⟨by simp[eD],fun g h=>by simp at h⟩
 | (k,x)::r=>by
  obtain⟨i1,i2⟩:=r9 f v r
  rw[show eD f v ((k,x)::r)=(if k=f then(k,v)::r else(k,x)::eD f v r) from rfl]
  by_cases hk:k=f
  ·rw[if_pos hk]
   subst hk
   exact⟨by simp,fun g h=>by simpa using h⟩
  ·rw[if_neg hk]
   refine⟨?_,fun g h=>?_⟩
   ·rw[List.map_cons]
    exact List.mem_cons_of_mem _ i1
   ·rw[List.map_cons] at h ⊢
    rcases List.mem_cons.mp h with e | e
    ·exact List.mem_cons.mpr (.inl e)
    ·exact List.mem_cons_of_mem _ (i2 g e)
theorem length_putF(f:Str)(v:V):∀ fs:List (Str×V),(eD f v fs).length≤fs.length+1
 | []=>by simp[eD]
 | (k,x)::r=>by
  have ih:=length_putF f v r
  rw[show eD f v ((k,x)::r)=(if k=f then(k,v)::r else(k,x)::eD f v r) from rfl]
  by_cases hk:k=f
  ·rw[if_pos hk,List.length_cons,List.length_cons]; omega
  ·rw[if_neg hk,List.length_cons,List.length_cons]; omega
theorem RelO.some_of{v:V}{o:Option Value}(r:RelO (some v) o):∃ u,o=some u∧RelV v u:=by
 cases o with
 | none=>exact(show False from r).elim
 | some u=>exact⟨u,rfl,r⟩
theorem handed_of{v:V}{u:Value}(r:RelV v u):PySem.W.handedIn u=true:=by
 cases v with
 | non=>cases(show u=Value.none from r); rfl
 | bl b=>cases(show u=Value.bool b from r); rfl
 | int i=>obtain⟨t,e⟩:=(show ∃ t,u=Value.int i t from r); cases e; rfl
 | str x=>obtain⟨t,e⟩:=(show ∃ t,u=Value.str x t from r); cases e; rfl
 | byt b=>obtain⟨t,e⟩:=(show ∃ t,u=Value.bytes b t from r); cases e; rfl
 | flt b=>obtain⟨t,e⟩:=(show ∃ t,u=Value.float b t from r); cases e; rfl
 | ref a=>cases(show u=Value.ref a from r); rfl
 | ty n=>cases(show u=Value.type n from r); rfl
section
variable {P:Program}{w:World}{H H':Hp}{h h':Heap}{a C dx:Addr}{fs fs':List (Str×V)}
theorem ins_get(hok:HOk P w H h)(e:H a=some (.ins C dx fs)):∃ mA,ObjM h a dx C mA∧(∀ f,RelO (fs.lookup f) (mA f))∧PySem.Within mA (fs.map (·.1))∧fs.length≤1000∧H dx=some (.own a):=by
 obtain⟨d,z,ne,ob,mA,n,r,q⟩:=(show gr P w H h a (.ins C dx fs) from hok a _ e)
 exact⟨mA,⟨ob,n,ne⟩,r,q,z,d⟩
end
structure Cls (K:PySem.W.Frag) (C:Addr):Prop where
 pg:PySem.W.plainGet K C Str.empty=true
 hd:PySem.W.hasDictIn K C=true
 po:PySem.W.plainOver K C=true
 sa:PySem.W.findIn K (.ref C) "__setattr__" = some (some (.builtin "object.__setattr__"))
theorem Cls.get{K:PySem.W.Frag}{C:Addr}(c:Cls K C)(f:Str):PySem.W.plainGet K C f=true:=c.pg
def cg(K:PySem.W.Frag)(C:Addr)(f:Str):Prop:=PySem.W.findIn K (.ref C) f=some none
theorem cg.taker{K:PySem.W.Frag}{C:Addr}{f:Str}(n:cg K C f):PySem.W.takerIn K C f=some none:=by
 unfold PySem.W.takerIn
 rw[show PySem.W.findIn K (.ref C) f=some none from n]
 rfl
section
variable {X:Cx}{pins:List (Addr×Obj)}{σ:St}{H:Hp}{s:Shared}{a C dx:Addr}{fs:List (Str×V)}{f:Str}{v:V}{A:Around}{E:Value→Shared→Prop}
theorem getattr_ok{b:Bool}{Q:Value→Shared→Prop}(I:Inv X pins σ H s)(e:H a=some (.ins C dx fs))(c:Cls X.K C)(n:cg X.K C f)(l:fs.lookup f=some v)
 (h:∀ u s',Inv X pins σ H s'→RelV v u→Q u s'):wpAny (model X.prog X.w) A (getAttr (.ref a) f b) Q E s:=by
 obtain⟨mA,O,r,_,_,_⟩:=ins_get I.hok e
 obtain⟨u,hu,ru⟩:=RelO.some_of (v:=v) (o:=mA f) (by rw[← l]; exact r f)
 exact get_map I.kIn O (c.get f) c.hd n hu (handed_of ru) (h u _ (I.tok _) ru)
theorem setattr_ok{y:V}{u:Value}{Q:Unit→Shared→Prop}(I:Inv X pins σ H s)(e:H a=some (.ins C dx fs))(c:Cls X.K C)(n:cg X.K C f)(hl:fs.length<1000)(ry:RelV y u)
 (h:∀ s',Inv X pins σ (upd H a (.ins C dx (eD f y fs))) s'→Q () s'):wpAny (model X.prog X.w) A (setAttr (.ref a) f u) Q E s:=by
 obtain⟨mA,O,r,wi,_,ho⟩:=ins_get I.hok e
 have hz:(fs.map (·.1)).length≤sizeLine:=by rw[List.length_map,sizeLine_eq]; omega
 refine set_map I.kIn O c.sa c.po n.taker c.hd wi hz fun h' O' sb=>h _ ?_
 have hd:∃ o,h'.get? dx=some o:=let ⟨o,_,_,e',_⟩:=O'.ns; ⟨o,e'⟩
 refine I.write (x:=a) (e:=dx) (by rw[e]; exact True.intro) (.inr ho) (fun b q hb z=>(sb.2 b hb).trans z) hd ?_
 refine⟨by rw[ay O.ne]; exact ho,?_,O.ne,O'.obj,_,O'.ns,fun g=>?_,fun g hg=>?_⟩
 ·have:=length_putF f y fs; omega
 ·show RelO ((eD f y fs).lookup g) (if g=f then some u else mA g)
  rw[iB]
  by_cases q:g=f
  ·rw[if_pos q,if_pos q]; exact ry
  ·rw[if_neg q,if_neg q]; exact r g
 ·by_cases q:g=f
  ·rw[q]; exact(r9 f y fs).1
  ·refine(r9 f y fs).2 g (wi g fun z=>hg ?_)
   show(if g=f then some u else mA g)=none
   rw[if_neg q]; exact z
theorem Inv.made(I:Inv X pins σ H s):Inv X pins σ (upd (upd H s.heap.objs.size (.own (s.heap.objs.size+1))) (s.heap.objs.size+1) (.ins C s.heap.objs.size []))
  { s with heap:=(s.heap.push PySem.W.emptyDict).push (PySem.W.instObj C s.heap.objs.size) }:=by
 have e1:(s.heap.push PySem.W.emptyDict).get? s.heap.objs.size=some PySem.W.emptyDict:=Heap.get?_push_size s.heap rfl
 have e2:((s.heap.push PySem.W.emptyDict).push (PySem.W.instObj C s.heap.objs.size)).get? (s.heap.objs.size+1)=some (PySem.W.instObj C s.heap.objs.size):=by
  have:=Heap.get?_push_size (s.heap.push PySem.W.emptyDict) (o:=PySem.W.instObj C s.heap.objs.size) rfl
  rwa [Heap.size_push] at this
 have e3:(s.heap.push PySem.W.emptyDict).Ns s.heap.objs.size (fun _=>none):=⟨PySem.W.emptyDict,#[],_,e1,rfl,(fun e he=>absurd he (by simp)),fun _=>rfl⟩
 have I1:=I.laid (a:=s.heap.objs.size) (o:=.own (s.heap.objs.size+1)) (h':=s.heap.push PySem.W.emptyDict) (t':=s.toks) (fun b u q=>Heap.get?_push_of_some _ q) (Nat.le_refl _) ⟨_,e1⟩
 refine I1.laid (a:=s.heap.objs.size+1) (o:=.ins C s.heap.objs.size []) (t':=s.toks) (fun b u q=>Heap.get?_push_of_some _ q) (Nat.le_of_eq (Heap.size_push _ _)) ?_
 have ne:s.heap.objs.size≠s.heap.objs.size+1:=Nat.ne_of_lt (Nat.lt_succ_self _)
 refine⟨by rw[ay ne,ai],Nat.zero_le _,ne,e2,fun _=>none,(Heap.Ns1.of_empty e3).at fun o q=>Heap.get?_push_of_some _ q,fun _=>True.intro,fun y hy=>absurd rfl hy⟩
theorem attr_of{prog:Program}{w:World}{env:Env}{e:Expr}{f:Str}{pos:Pos}{s:Shared}{Q:Value→Shared→Prop}(hb:attributeBase e f env (eval e env)=eval e env)
 (h:wpAny (model prog w) A (eval e env) (fun o s₁=>wpAny (model prog w) A (getAttr o f true) Q E s₁) E s):wpAny (model prog w) A (eval (.Attribute e f pos) env) Q E s :=
 Attribute_any_ h (by rw[arm_eval_Attribute,hb])
end
def tFld(K:PySem.W.Frag)(ta:TE)(f:Str):TE:=fun σ H Q=>ta σ H fun x H1=>∃ a C dx fs v,x = .ref a∧H1 a=some (.ins C dx fs)∧Cls K C∧cg K C f∧fs.lookup f=some v∧Q v H1
def sFld(K:PySem.W.Frag)(ta tv:TE)(f:Str):TS:=fun D σ H=>tv σ H fun y H1=>ta σ H1 fun x H2=>∃ a C dx fs,x = .ref a∧H2 a=some (.ins C dx fs)∧Cls K C∧cg K C f∧fs.length<1000 ∧
 D.nx σ (upd H2 a (.ins C dx (eD f y fs)))
section
variable {X:Cx}{o e value:Expr}{f:Str}{pos pos' tpos:Pos}{ta tv:TE}
theorem pe_fld(he:PE X e ta)(hb:attributeBase e f X.env (eval e X.env)=eval e X.env):PE X (.Attribute e f pos) (tFld X.K ta f):=by
 intro pins s σ H Q I h
 refine attr_of hb (thn (he pins s σ H _ I h) fun u s1 ⟨x,H1,I1,rx,a,C,dx,fs,v,ex,ea,c,n,l,q⟩=>?_)
 subst ex
 obtain rfl:u=Value.ref a:=rx
 exact getattr_ok I1 ea c n l fun u' s2 I2 ru=>⟨v,H1,I2,ru,q⟩
theorem ps_fld(ha:PE X o ta)(hv:PE X value tv)(hs:swapsWith value (some (.Attribute o f pos')) pos.line X.env=pure false):PS X (.Assign [.Attribute o f pos'] value pos) (sFld X.K ta tv f):=by
 intro pins s σ H D I h
 refine plainObj_wpAny_Assign_Attribute (thn (hv pins s σ H _ I h) fun u s1 ⟨y,H1,I1,ry,q⟩=>thn (ha pins s1 σ H1 _ I1 q) fun ov s2 ⟨x,H2,I2,rx,a,C,dx,fs,ex,ea,c,n,l,q2⟩=>?_) hs
 subst ex
 obtain rfl:ov=Value.ref a:=rx
 exact setattr_ok I2 ea c n l ry fun s3 I3=>⟨σ,_,I3,q2⟩
end
section
variable {X:Cx}{pins:List (Addr×Obj)}{σ:St}{H:Hp}{s:Shared}{A:Around}{E:Value→Shared→Prop}{Q:Value→Shared→Prop}{c:Value}{b:Bool}
end
end L2
namespace L2
open PySem PySem.Spec PyProof.Rows
structure iP (k:Nat) (A:Around):Prop where
 hd:A.handled=none
 dp:A.depth+3*k+5<recursionLimit
 un:A.units+16*k+200<cLine
theorem iP.mono{j k:Nat}{A:Around}(r:iP k A)(h:j≤k):iP j A:=⟨r.hd,by have:=r.dp; omega,by have:=r.un; omega⟩
theorem iP.deeper{k:Nat}{A:Around}(r:iP (k+1) A)(env:Env):iP k (A.deeper env) :=
 ⟨r.hd,by have:=r.dp; show A.depth+1+3*k+5<_; omega,by have:=r.un; show A.units+3+16*k+200<_; omega⟩
theorem make_depth{A:Around}{C:Addr}{us:List Value}{kw:List (Str×Value)}:(A.under (.builtin "type.__call__" ⟨.ref C::us,kw⟩)).depth=A.depth+1:=by
 first | rfl | simp[Around.under,Code.weight,Code.isCreation,Code.isGuard,Code.isCaller,Code.frames,Code.isFrame,guardIds]
theorem make_units{A:Around}{C:Addr}{us:List Value}{kw:List (Str×Value)}:(A.under (.builtin "type.__call__" ⟨.ref C::us,kw⟩)).units=A.units+1:=by
 first | rfl | simp[Around.under,Code.cUnits,Code.frames,Code.isFrame]
theorem iP.make{k:Nat}{A:Around}(r:iP (k+1) A)(C:Addr)(us:List Value)(kw:List (Str×Value)):iP k (A.under (.builtin "type.__call__" ⟨.ref C::us,kw⟩)) :=
 ⟨r.hd,by have:=r.dp; rw[make_depth]; omega,by have:=r.un; rw[make_units]; omega⟩
theorem iP.depth{k:Nat}{A:Around}(r:iP k A):A.depth<recursionLimit:=by have:=r.dp; omega
theorem iP.units{k:Nat}{A:Around}(r:iP k A):A.units+64<cLine:=by have:=r.un; omega
def tNil:TA:=fun _ H Q=>Q [] H
def eK(ta:TE)(tr:TA):TA:=fun σ H Q=>ta σ H fun x H1=>tr σ H1 fun xs H2=>Q (x::xs) H2
section
variable {X:Cx}{e:Expr}{es:List Expr}{te:TE}{t:TA}{pos:Pos}
theorem af:PA X [] tNil:=fun _ _ _ _ H Q I h=>Calls.spliced_nil ⟨[],H,I,.nil,h⟩
theorem ab(ha:PE X e te)(hr:PA X es t)(hs:starEach (e::es) X.env=(false,eval e X.env)::starEach es X.env:=by rfl):PA X (e::es) (eK te t):=by
 intro pos pins s σ H Q I h
 rw[hs]
 show wpAny _ _ (spliced ((false,eval e X.env)::backTo pos (starEach es X.env))) _ _ s
 refine Calls.spliced_cons (thn (ha pins s σ H _ I h) fun u s1 ⟨x,H1,I1,r1,q1⟩=>?_)
 exact thn (hr pos pins s1 σ H1 _ I1 q1) fun us s2 ⟨xs,H2,I2,r2,q2⟩=>⟨x::xs,H2,I2,.cons r1 r2,q2⟩
def tTup(t:TA):TE:=fun σ H Q=>t σ H fun xs H1=>xs.length≤sizeLine∧∀ p,H1 p=none→Q (.ref p) (upd H1 p (.tup xs))
def tLst(t:TA):TE:=fun σ H Q=>t σ H fun xs H1=>xs.length≤sizeLine∧∀ p,H1 p=none→Q (.ref p) (upd H1 p (.lst xs))
theorem ku{x1}(h:PA X es t):PE X (.Tuple es x1 pos) (tTup t):=by
 intro pins s σ H Q I hq
 refine wpAny_Tuple_spliced (thn (h pos pins s σ H _ I hq) fun us s1 ⟨xs,H1,I1,r,z,q⟩=>⟨by rw[← r.length]; exact z,?_⟩)
 have hf:H1 s1.heap.objs.size=none:=I1.hok.fresh (Nat.le_refl _)
 refine⟨.ref s1.heap.objs.size,upd H1 s1.heap.objs.size (.tup xs),I1.laid (t':=s1.toks) (fun b u e=>Heap.get?_push_of_some _ e) (Nat.le_refl _) ?_,rfl,q _ hf⟩
 exact⟨z,us,r,⟨_,Heap.get?_push_size _ rfl,rfl,_,rfl⟩⟩
theorem aJ(h:PA X es t):PE X (.List es pos) (tLst t):=by
 intro pins s σ H Q I hq
 refine wpAny_List_spliced (thn (h pos pins s σ H _ I hq) fun us s1 ⟨xs,H1,I1,r,z,q⟩=>⟨by rw[← r.length]; exact z,?_⟩)
 have hf:H1 s1.heap.objs.size=none:=I1.hok.fresh (Nat.le_refl _)
 refine⟨.ref s1.heap.objs.size,upd H1 s1.heap.objs.size (.lst xs),I1.laid (t':=s1.toks) (fun b u e=>Heap.get?_push_of_some _ e) (Nat.le_refl _) ?_,rfl,q _ hf⟩
 exact⟨z,us,0,r,Heap.get?_push_size _ rfl⟩
end
abbrev Sp:=List V→Hp→VK→XK→Prop
abbrev CXT:=List Env→Hp→Shared→XK→Value→Shared→Prop
structure Env0 (P:Program) (w:World) (K:PySem.W.Frag) (mg:Str→Option Value) (base:Heap) (A:Around) (outer:List Env) (s:Shared) (H:Hp):Prop where
 frames:A.frames=some outer
 mod:Mod K mg base
 bs:∀ b o,base.get? b=some o→s.heap.get? b=some o∧H b=none
 bsz:base.objs.size≤s.heap.objs.size
 funs:s.heap.FunFrames base outer
 frf:∀ b∈frs outer,H b=none
 hok:HOk P w H s.heap
 bare:AllBare s.gens
def CE(outer:List Env)(P:Program)(w:World)(H:Hp)(s:Shared)(Q:VK)(u:Value)(s':Shared):Prop :=
 ∃ v H',s'.os=s.os∧AllBare s'.gens∧Un (frs outer) [] H H' s.heap s'.heap∧HOk P w H' s'.heap∧RelV v u∧Q v H'
def CR(CX:CXT)(outer:List Env)(P:Program)(w:World)(H:Hp)(s:Shared)(Q:VK)(E:XK)(r:Result)(s':Shared):Prop :=
 match r with
 | .ok (.ret u)=>CE outer P w H s Q u s'
 | .ok _=>False
 | .error e=>CX outer H s E e s'
structure a9 (P:Program) (w:World) (K:PySem.W.Frag) (mg:Str→Option Value) (base:Heap) (CX:CXT) (k:Nat) (f:Addr) (fd:FuncData) (ps:List Str) (sp:Sp):Prop where
 len:∀ vs H Q E,sp vs H Q E→vs.length=ps.length
 run:∀ (A:Around) (outer:List Env) (s:Shared) (H:Hp) (args:Args) (us:List Value) (vs:List V) (Q:VK) (E:XK),iP k A→Env0 P w K mg base A outer s H→BindsTo s fd args (ps.zip us)→Vals vs us→sp vs H Q E →
  codeAny (model P w) A (.call (.ref f) args) (CR CX outer P w H s Q E) s
theorem Env0.make{P:Program}{w:World}{K:PySem.W.Frag}{mg:Str→Option Value}{base:Heap}{A:Around}{outer:List Env}{s:Shared}{H:Hp}(e:Env0 P w K mg base A outer s H)(C:Addr)(us:List Value)(kw:List (Str×Value)) :
  Env0 P w K mg base (A.under (.builtin "type.__call__" ⟨.ref C::us,kw⟩)) outer s H:=⟨by first | exact e.frames | (simpa [Around.under,Code.envs,Code.isFrame,pushEnvs] using e.frames),e.mod,e.bs,e.bsz,e.funs,e.frf,e.hok,e.bare⟩
section
variable {X:Cx}{pins:List (Addr×Obj)}{σ:St}{H:Hp}{s s':Shared}
theorem Inv.env0(I:Inv X pins σ H s):Env0 X.prog X.w X.K X.mg X.base X.A X.stack s H :=
 ⟨I.ok.frames,I.ok.mod,I.bs,Nat.le_trans I.ok.bsz I.sz,I.stack,I.stkFree,I.hok,I.bare⟩
theorem Inv.after{Q:VK}{u:Value}(I:Inv X pins σ H s)(h:CE X.stack X.prog X.w H s Q u s'):EP X pins σ Q u s':=by
 obtain⟨v,H',os,bare,un,hok,r,q⟩:=h
 obtain⟨hh,g,d,t,os'⟩:=s'
 obtain rfl:os' = s.os:=os
 exact⟨v,H',I.call (h':=hh) (g':=g) (d':=d) (t':=t) (ch:=[]) un hok bare (fun b z=>absurd z (by simp)),r,q⟩
end
def oM(sp:Sp)(dvs:List V)(E:XK)(t:TA):TE:=fun σ H Q=>t σ H fun vs H1=>sp (vs++dvs) H1 Q E
def tMake(C:Addr)(sp:Sp)(dvs:List V)(E:XK)(t:TA):TE:=fun σ H Q=>t σ H fun vs H1=>∀ x dx,H1 x=none→H1 dx=none→dx≠x →
 sp (.ref x::(vs++dvs)) (upd (upd H1 dx (.own x)) x (.ins C dx [])) (fun v H2=>v = .non∧Q (.ref x) H2) E
def Binds(K:PySem.W.Frag)(fd:FuncData)(ps:List Str)(ds:List Value):Prop :=
 ∀ (s:Shared) (us:List Value),K.In s.heap→(us++ds).length=ps.length→BindsTo s fd ⟨us,[]⟩ (ps.zip (us++ds))
theorem Binds.all{K:PySem.W.Frag}{fd:FuncData}{ps:List Str}(h:∀ us:List Value,us.length=ps.length→bindArgs fd ⟨us,[]⟩=pure (ps.zip us)):Binds K fd ps []:=fun s us _ hl=>by
 rw[List.append_nil] at hl ⊢
 exact .of_eq (h us hl)
def Passes(CX:CXT)(X:Cx)(E:XK):Prop:=∀ (pins:List (Addr×Obj)) (σ:St) (H:Hp) (s:Shared) (e:Value) (s':Shared),Inv X pins σ H s→CX X.stack H s E e s'→X.xe e s'
section
variable {X:Cx}{CX:CXT}{k:Nat}{f C:Addr}{fd:FuncData}{ps:List Str}{sp:Sp}{dvs:List V}{ds:List Value}{E:XK}{x m:Str}{p pos apos:Pos}{e o:Expr}{es:List Expr}{ta:TE}{t:TA}
theorem run_fn{pins:List (Addr×Obj)}{σ:St}{H:Hp}{s:Shared}{Q:VK}{us:List Value}{vs:List V}(F:a9 X.prog X.w X.K X.mg X.base CX k f fd ps sp)(hr:iP k X.A)(hb:Binds X.K fd ps ds)(hd:Vals dvs ds)(hx:Passes CX X E)
 (I:Inv X pins σ H s)(r:Vals vs us)(h:sp (vs++dvs) H Q E):wpAny (model X.prog X.w) X.A (call (.ref f) us) (EP X pins σ Q) X.xe s:=by
 have r2:Vals (vs++dvs) (us++ds):=r.append hd
 have hl:(us++ds).length=ps.length:=by rw[← r2.length]; exact F.len _ _ _ _ h
 refine wpAny_call (codeAny_mono (F.run X.A X.stack s H ⟨us,[]⟩ (us++ds) (vs++dvs) Q E hr I.env0 (hb s us I.kIn hl) r2 h) fun r s' hq=>?_)
 cases r with
 | error e=>exact hx pins σ H s e s' I hq
 | ok fl =>
  cases fl with
  | ret u=>exact I.after hq
  | next=>exact False.elim hq
  | brk=>exact False.elim hq
  | cont=>exact False.elim hq
theorem pe_call(F:a9 X.prog X.w X.K X.mg X.base CX k f fd ps sp)(hr:iP k X.A)(hg:Gl X x)(hm:X.mg x=some (.ref f))(hk:PySem.W.keepIn X.K (.ref f)=true)(hb:Binds X.K fd ps ds)(hd:Vals dvs ds)(hx:Passes CX X E)
 (ha:PA X (e::es) t)(hdb:(x==("__debug__" : Str))=false:=by decide)(he:starEach (e::es) X.env=(false,eval e X.env)::starEach es X.env:=by rfl)(hpl:(backTo pos (starEach es X.env)).any (·.1)=false:=by rfl) :
  PE X (.Call (.Name x p) (e::es) [] pos) (oM sp dvs E t):=by
 intro pins s σ H Q I h
 refine wpAny_Call_Name_kw (ld_glob I hg hm ?_ hdb)
 refine PySem.W.callWith_K (h₀:=X.base) I.ok.mod.kin hk (thn (ha pos pins s σ H _ I h) fun us s1 ⟨vs,H1,I1,r,q⟩=>⟨I1.kIn,?_⟩) he hpl
 exact run_fn F hr hb hd hx I1 r q
structure Mk (K:PySem.W.Frag) (C f:Addr):Prop where
 makes:PySem.W.makesIn K C=true
 init:PySem.W.findIn K (.ref C) "__init__" = some (some (.ref f))
 fn:PySem.W.isFn K (.ref f)=true
 kp:PySem.W.keepIn K (.ref C)=true
theorem run_make{pins:List (Addr×Obj)}{σ:St}{H:Hp}{s:Shared}{Q:VK}{us:List Value}{vs:List V}(M:Mk X.K C f)(F:a9 X.prog X.w X.K X.mg X.base CX k f fd ps sp)(hr:iP (k+1) X.A)(hb:Binds X.K fd ps ds)(hd:Vals dvs ds)
 (hx:Passes CX X E)(I:Inv X pins σ H s)(r:Vals vs us)
 (h:∀ x dx,H x=none→H dx=none→dx≠x→sp (.ref x::(vs++dvs)) (upd (upd H dx (.own x)) x (.ins C dx [])) (fun v H2=>v = .non∧Q (.ref x) H2) E) :
  wpAny (model X.prog X.w) X.A (call (.ref C) us) (EP X pins σ Q) X.xe s:=by
 have hq:=h (s.heap.objs.size+1) s.heap.objs.size (I.hok.fresh (Nat.le_succ _)) (I.hok.fresh (Nat.le_refl _)) (Nat.ne_of_lt (Nat.lt_succ_self _))
 have I2:=Inv.made (C:=C) I
 have r2:Vals (V.ref (s.heap.objs.size+1)::(vs++dvs)) (Value.ref (s.heap.objs.size+1)::(us++ds)):=.cons rfl (r.append hd)
 have hl:(Value.ref (s.heap.objs.size+1)::us++ds).length=ps.length:=by
  have e:=r2.length
  rw[F.len _ _ _ _ hq] at e
  exact e.symm
 refine wpAny_call (make_map (f:=f) I.kIn M.makes M.init (beq_iff_eq.mp M.fn) (codeAny_mono (F.run _ X.stack _ _ ⟨Value.ref (s.heap.objs.size+1)::us,[]⟩ (Value.ref (s.heap.objs.size+1)::(us++ds)) _ _ E (hr.make C us [])
  (I2.env0.make C us []) (hb _ (Value.ref (s.heap.objs.size+1)::us) I2.kIn hl) r2 hq) fun r s' hq'=>?_))
 cases r with
 | error e=>exact hx pins σ _ _ e s' I2 hq'
 | ok fl =>
  cases fl with
  | ret u =>
   obtain⟨v,H',I3,rv,ev,q3⟩:=I2.after hq'
   subst ev
   exact⟨rv,⟨V.ref (s.heap.objs.size+1),H',I3,rfl,q3⟩⟩
  | next=>exact False.elim hq'
  | brk=>exact False.elim hq'
  | cont=>exact False.elim hq'
theorem ck(M:Mk X.K C f)(F:a9 X.prog X.w X.K X.mg X.base CX k f fd ps sp)(hr:iP (k+1) X.A)(hg:Gl X x)(hm:X.mg x=some (.ref C))(hb:Binds X.K fd ps ds)(hd:Vals dvs ds)(hx:Passes CX X E)
 (ha:PA X (e::es) t)(hdb:(x==("__debug__" : Str))=false:=by decide)(he:starEach (e::es) X.env=(false,eval e X.env)::starEach es X.env:=by rfl)(hpl:(backTo pos (starEach es X.env)).any (·.1)=false:=by rfl) :
  PE X (.Call (.Name x p) (e::es) [] pos) (tMake C sp dvs E t):=by
 intro pins s σ H Q I h
 refine wpAny_Call_Name_kw (ld_glob I hg hm ?_ hdb)
 refine PySem.W.callWith_K (h₀:=X.base) I.ok.mod.kin M.kp (thn (ha pos pins s σ H _ I h) fun us s1 ⟨vs,H1,I1,r,q⟩=>⟨I1.kIn,?_⟩) he hpl
 exact run_make M F hr hb hd hx I1 r q
theorem pe_make0(M:Mk X.K C f)(F:a9 X.prog X.w X.K X.mg X.base CX k f fd ps sp)(hr:iP (k+1) X.A)(hg:Gl X x)(hm:X.mg x=some (.ref C))(hb:Binds X.K fd ps ds)(hd:Vals dvs ds)(hx:Passes CX X E)
 (hdb:(x==("__debug__" : Str))=false:=by decide):PE X (.Call (.Name x p) [] [] pos) (tMake C sp dvs E tNil):=by
 intro pins s σ H Q I h
 refine wpAny_Call_Name_kw (ld_glob I hg hm ?_ hdb)
 exact PySem.W.callWith_K0 I.kIn M.kp (run_make (us:=[]) M F hr hb hd hx I .nil h)
end
section
variable {X:Cx}{CX:CXT}{k:Nat}{f C:Addr}{fd:FuncData}{ps ks:List Str}{sp:Sp}{E:XK}{x m:Str}{p pos apos kpos:Pos}{e o:Expr}{es:List Expr}{kws:List Keyword}{te ta:TE}{t tk:TA}{nm:Option Str}
variable {g:List Value→List Value→List Value}{gV:List V→List V→List V}
end
structure au (N P:List Str) (sc:Scope):Prop where
 kind:sc.kind = .function
 co:sc.isCoroutine=false
 gen:sc.isGenerator=false
 nd:N.Nodup
 pre:N.take P.length=P
 par:∀ x∈P,sc.names.lookup x=some .local∨sc.names.lookup x=some .cell
 nofree:∀ y∈sc.names,y.2≠.free
theorem bindL_out{kindOf:Str→Option NameKind}{x:Str}:∀ {binds:List (Str×Value)} {m:Str→Option Value},(∀ v,(x,v)∉binds)→bindL kindOf binds m x=m x
 | [],_,_=>rfl
 | (n,v)::r,m,h=>by
  unfold bindL
  rw[bindL_out fun w hw=>h w (List.mem_cons_of_mem _ hw)]
  split
  ·have:x≠n:=by rintro rfl; exact h v List.mem_cons_self
   simp[this]
  ·rfl
theorem bindC_out{kindOf:Str→Option NameKind}{x:Str}:∀ {binds:List (Str×Value)} {m:Str→Option Value},(∀ v,(x,v)∉binds)→bindC kindOf binds m x=m x
 | [],_,_=>rfl
 | (n,v)::r,m,h=>by
  unfold bindC
  rw[bindC_out fun w hw=>h w (List.mem_cons_of_mem _ hw)]
  split
  ·rfl
  ·have:x≠n:=by rintro rfl; exact h v List.mem_cons_self
   simp[this]
theorem bindL_get{kindOf:Str→Option NameKind}{x:Str}{v:Value}:∀ {P:List Str} {vs:List Value} {i:Nat} {m:Str→Option Value},P.Nodup→P[i]? = some x→vs[i]? = some v→kindOf x=some .local →
  bindL kindOf (P.zip vs) m x=some v
 | [],_,_,_,_,h,_,_=>by simp at h
 | _::_,[],_,_,_,_,h,_=>by simp at h
 | p::P,w::vs,0,m,nd,h1,h2,hk=>by
  simp at h1 h2; subst h1; subst h2
  show bindL kindOf ((p,w)::P.zip vs) m p=_
  unfold bindL
  rw[bindL_out fun v hv=>(List.nodup_cons.mp nd).1 (List.of_mem_zip hv).1,if_pos hk]
  simp
 | p::P,w::vs,i+1,m,nd,h1,h2,hk=>by
  show bindL kindOf ((p,w)::P.zip vs) m x=_
  unfold bindL
  exact bindL_get (i:=i) (List.nodup_cons.mp nd).2 (by simpa using h1) (by simpa using h2) hk
theorem bindC_get{kindOf:Str→Option NameKind}{x:Str}{v:Value}:∀ {P:List Str} {vs:List Value} {i:Nat} {m:Str→Option Value},P.Nodup→P[i]? = some x→vs[i]? = some v→kindOf x≠some .local →
  bindC kindOf (P.zip vs) m x=some v
 | [],_,_,_,_,h,_,_=>by simp at h
 | _::_,[],_,_,_,_,h,_=>by simp at h
 | p::P,w::vs,0,m,nd,h1,h2,hk=>by
  simp at h1 h2; subst h1; subst h2
  show bindC kindOf ((p,w)::P.zip vs) m p=_
  unfold bindC
  rw[bindC_out fun v hv=>(List.nodup_cons.mp nd).1 (List.of_mem_zip hv).1,if_neg hk]
  simp
 | p::P,w::vs,i+1,m,nd,h1,h2,hk=>by
  show bindC kindOf ((p,w)::P.zip vs) m x=_
  unfold bindC
  exact bindC_get (i:=i) (List.nodup_cons.mp nd).2 (by simpa using h1) (by simpa using h2) hk
def start(N:List Str)(vs:List V):St:=vs.map some++List.replicate (N.length-vs.length) none
def cxOf(CX:CXT)(P:Program)(w:World)(K:PySem.W.Frag)(mg:Str→Option Value)(base:Heap)(N:List Str)(qual:Str)(scope:Scope)(f:Addr)(cd:Value)(A:Around)(outer:List Env)(s:Shared)(H:Hp)(E:XK):Cx where
 prog:=P
 w:=w
 K:=K
 mg:=mg
 base:=base
 A:=A.deeper (envOfC qual scope s.heap.objs.size f cd)
 N:=N
 s_0:=s
 H_0:=H
 env:=envOfC qual scope s.heap.objs.size f cd
 outer:=outer
 stack:=envOfC qual scope s.heap.objs.size f cd::outer
 ex:=[]
 calm:=true
 fn:=fun _=>true
 pn:=[]
 xe:=fun e s'=>wpAny (model P w) (A.deeper (envOfC qual scope s.heap.objs.size f cd)) (leaving (envOfC qual scope s.heap.objs.size f cd) e) (fun _ s''=>CX outer H s E e s'') (fun e' s''=>CX outer H s E e' s'') s'
theorem cell_has{sc:Scope}{n:Nat}{x:Str}(h:sc.names.lookup x=some .cell):∃ c,(cellsFrom n sc.names []).lookup x=some c:=by
 have q:=PySem.W.cellsFrom_some sc.names n [] (.inl h)
 exact Option.isSome_iff_exists.mp q
theorem inv_start{CX:CXT}{P:Program}{w:World}{K:PySem.W.Frag}{mg:Str→Option Value}{base:Heap}{N ps:List Str}{qual:Str}{scope:Scope}{f:Addr}{cd:Value}{A:Around}{outer:List Env}{s s1:Shared}{H:Hp}{E:XK}{us:List Value}{vs:List V}
 (S:au N ps scope)(hd:A.handled=none)(e0:Env0 P w K mg base A outer s H)(hl:vs.length=ps.length)(r:Vals vs us)
 (x:InCallC s s.heap.objs.size (bindL (envOfC qual scope s.heap.objs.size f cd).kindOf (ps.zip us) fun _=>none) (cellsFrom (s.heap.objs.size+1) scope.names []) (bindC (envOfC qual scope s.heap.objs.size f cd).kindOf (ps.zip us) fun _=>none) s1) :
  Inv (cxOf CX P w K mg base N qual scope f cd A outer s H E) [] (start N vs) H s1:=by
 have hpl:ps.length≤N.length:=by have:=congrArg List.length S.pre; rw[List.length_take] at this; omega
 obtain⟨h1,tk,rfl,hk⟩:=x.done
 have noA:∀ b:Addr,b∉(cxOf CX P w K mg base N qual scope f cd A outer s H E).ex:=fun b z=>absurd (show b∈([]:List Addr) from z) (by simp)
 refine⟨⟨e0.mod,S.kind,rfl,rfl,Nat.le_refl _,fun y z c h1 h2=>?_,fun y hy=>?_,fun y c _ h=>?_,fun _=>hd,Around.frames_deeper e0.frames,.inr ⟨rfl,rfl⟩,fun b z=>absurd z (noA b),e0.bs,e0.bsz,fun b _ _=>noA b,fun b z=>absurd z (noA b),e0.funs,e0.frf⟩,
  rfl,e0.bare,Un.kept hk,⟨_,x.toInCall.ns,fun i y v h1 h2 h3=>?_⟩,fun y c h=>⟨_,x.cell y c h⟩,e0.hok.fresh (Nat.le_refl _),fun y c h=>?_,fun p hp=>absurd (show p∈([]:List (Addr×Obj)) from hp) (by simp),e0.hok.kept hk,?_⟩
 ·exact name_of_addr x.apart (PySem.mem_of_lookup h1) (PySem.mem_of_lookup h2)
 ·have hy:scope.names.lookup y=some .cell∨scope.names.lookup y=some .free:=hy
  rcases hy with hy | hy
  ·exact cell_has hy
  ·exact absurd rfl (S.nofree _ (PySem.mem_of_lookup hy))
 ·exact Nat.le_of_lt (x.above y c (PySem.mem_of_lookup h))
 ·have hi:i<vs.length:=by
   unfold start at h2
   by_cases hi:i<vs.length
   ·exact hi
   ·rw[List.getElem?_append_right (by simpa using hi)] at h2
    rw[List.getElem?_replicate] at h2
    split at h2<;>cases h2
  have ha:vs[i]? = some v:=by
   unfold start at h2
   rw[List.getElem?_append_left (by simpa using hi),List.getElem?_map] at h2
   cases e:vs[i]? with
   | none=>rw[e] at h2; cases h2
   | some a=>rw[e] at h2; cases h2; rfl
  obtain⟨u,hu,rv⟩:=r.get ha
  have hp:ps[i]? = some y:=by
   rw[← S.pre,List.getElem?_take_of_lt (by omega)]; exact h1
  have ndP:ps.Nodup:=by rw[← S.pre]; exact S.nd.sublist (List.take_sublist _ _)
  refine⟨u,rv,?_⟩
  rcases S.par y (List.mem_of_getElem? hp) with k | k
  ·exact .inl ⟨k,bindL_get ndP hp hu k⟩
  ·obtain⟨c,e⟩:=cell_has (n:=s.heap.objs.size+1) k
   refine .inr ⟨.inl k,c,e,?_⟩
   have q:=x.cell y c e
   rw[bindC_get ndP hp hu (by show scope.names.lookup y≠_; rw[k]; decide)] at q
   exact q
 ·exact e0.hok.fresh (Nat.le_of_lt (x.above y c (PySem.mem_of_lookup h)))
 ·unfold start
  show _=N.length
  rw[List.length_append,List.length_map,List.length_replicate]
  omega
theorem fn_of{CX:CXT}{P:Program}{w:World}{K:PySem.W.Frag}{mg:Str→Option Value}{base:Heap}{k:Nat}{f:Addr}{name qual:Str}{params:Arguments}{body:List Stmt}{scope:Scope}{dV kV doc pm cdv ct oc:Value}{an od:Option Addr}
 {osl:Array (Option Value)}{N ps:List Str}{sp:Sp}(lk:K.lookup f=some ⟨oc,od,.func (PySem.W.fnOf name qual params body scope dV kV doc pm an cdv ct),osl⟩)(hcd:PySem.W.codeIn K cdv qual=true)(S:au N ps scope)
 (len:∀ vs H Q E,sp vs H Q E→vs.length=ps.length)
 (hbody:∀ (A:Around) (outer:List Env) (s:Shared) (H:Hp) (vs:List V) (Q:VK) (E:XK),iP k (A.deeper (envOfC qual scope s.heap.objs.size f cdv))→sp vs H Q E →
   ∃ t,PSs (cxOf CX P w K mg base N qual scope f cdv A outer s H E) body t∧t { nx:=fun _ H'=>Q .non H',rt:=Q } (start N vs) H) :
  a9 P w K mg base CX (k+1) f (PySem.W.fnOf name qual params body scope dV kV doc pm an cdv ct) ps sp:=by
 refine⟨len,fun A outer s H args us vs Q E hr e0 hb r hsp=>?_⟩
 have hl:=len _ _ _ _ hsp
 have KX:K.In s.heap:=e0.mod.kin.keeps fun b o e=>(e0.bs b o e).1
 have lim:s.heap.NoLimit:=e0.mod.nolimit.keeps fun b o e=>(e0.bs b o e).1
 have hkind:∀ y∈ps.zip us,scope.names.lookup y.1=some .local∨(scope.names.lookup y.1=some .cell∧((cellsFrom (s.heap.objs.size+1) scope.names []).lookup y.1).isSome=true):=fun⟨n,v⟩ hy=>by
  rcases S.par n (List.of_mem_zip hy).1 with q | q
  ·exact .inl q
  ·exact .inr ⟨q,PySem.W.cellsFrom_some _ _ _ (.inl q)⟩
 refine codeAny_call_function hr.depth (KX _ _ lk) rfl S.co S.gen rfl (PySem.W.codeRec_of KX hcd) (hb _ _ _ _ ?_)
 refine wpAny_newFunctionEnv_cells S.kind hkind fun env he s1 x=>?_
 subst he
 refine⟨lim.keeps x.toInCall.keep,codeAny_func ?_⟩
 obtain⟨t,ht,hq⟩:=hbody A outer s H vs Q E (hr.deeper _) hsp
 have I:Inv (cxOf CX P w K mg base N qual scope f cdv A outer s H E) [] (start N vs) H s1:=inv_start S hr.hd e0 hl r x
 refine wpAny_mono (ht [] s1 (start N vs) H _ I hq) (fun fl s' hs=>?_) fun e s' hs=>hs
 have fin:∀ {σ':St} {H':Hp} {v:V} {u:Value},Inv (cxOf CX P w K mg base N qual scope f cdv A outer s H E) [] σ' H' s'→RelV v u→Q v H'→CE outer P w H s Q u s' :=
  fun {σ' H' v u} J rv q=>⟨v,H',J.os,J.bare,J.base,J.hok,rv,q⟩
 cases fl with
 | ret u =>
  obtain⟨v,σ',H',J,rv,q⟩:=hs
  exact fin J rv q
 | next =>
  obtain⟨σ',H',J,q⟩:=hs
  exact fin (v:=V.non) (u:=Value.none) J rfl q
 | brk =>
  obtain⟨_,_,_,q⟩:=hs
  exact False.elim q
 | cont =>
  obtain⟨_,_,_,q⟩:=hs
  exact False.elim q
end L2
namespace L2
open PySem PySem.Spec PyProof.Rows
section
variable {X:Cx}{x:Str}{p pos:Pos}{e:Expr}{es:List Expr}{t:TA}{id T:String}{r:List V→Hp→VK→Prop}
def tCB(r:List V→Hp→VK→Prop)(t:TA):TE:=fun σ H Q=>t σ H fun vs H1=>r vs H1 Q
theorem aT(hc:mM X (.builtin id) r)(hg:Gl X x)(hm:X.mg x=none)(hv:bootBuiltins x=some (.builtin id))(ha:PA X (e::es) t)(hn:x ≠ "__name__" := by decide)(hdb:(x==("__debug__" : Str))=false:=by decide)
 (he:starEach (e::es) X.env=(false,eval e X.env)::starEach es X.env:=by rfl)(hpl:(backTo pos (starEach es X.env)).any (·.1)=false:=by rfl):PE X (.Call (.Name x p) (e::es) [] pos) (tCB r t):=by
 intro pins s σ H Q I h
 refine wpAny_Call_Name_kw (ld_blt I hg hm hv ?_ hn hdb)
 exact PyProof.Rows.callWith_builtin1 (thn (ha pos pins s σ H _ I h) fun us s1 ⟨vs,H1,I1,r1,q1⟩=>hc pins s1 σ H1 vs us Q I1 r1 q1) he hpl
theorem i8(hc:mM X (.type T) r)(hg:Gl X x)(hm:X.mg x=none)(hv:bootBuiltins x=some (.type T))(ha:PA X (e::es) t)(hn:x ≠ "__name__" := by decide)(hdb:(x==("__debug__" : Str))=false:=by decide)
 (he:starEach (e::es) X.env=(false,eval e X.env)::starEach es X.env:=by rfl)(hpl:(backTo pos (starEach es X.env)).any (·.1)=false:=by rfl):PE X (.Call (.Name x p) (e::es) [] pos) (tCB r t):=by
 intro pins s σ H Q I h
 refine wpAny_Call_Name_kw (ld_blt I hg hm hv ?_ hn hdb)
 exact PyProof.Rows.callWith_type1 (thn (ha pos pins s σ H _ I h) fun us s1 ⟨vs,H1,I1,r1,q1⟩=>hc pins s1 σ H1 vs us Q I1 r1 q1) he hpl
end
end L2
namespace HT
open PySem PyProof.Rows
section
open PySem.SeqAt
open PySem.AutoSeq1 (wpAny_loadPart')
open PySem.MeetsSeq PySem.MeetsSeq2 PySem.MeetsSeq3
end
section
variable {prog:Program}{w:World}{A:Around}{E:Value→Shared→Prop}{s:Shared}
def sIx(n d:Nat):Option Int→Nat
 | none=>d
 | some v=>if v<0 then(v+(n:Int)).toNat else min v.toNat n
theorem sIx_none(n d:Nat):sIx n d none=d:=rfl
theorem sIx_nat(n d k:Nat):sIx n d (some (k:Int))=min k n:=by
 show(if (k:Int)<0 then((k:Int)+(n:Int)).toNat else min (k:Int).toNat n)=min k n
 rw[if_neg (by omega),Int.toNat_natCast]
end
end HT
namespace L2
open PySem PySem.Spec PyProof.Rows
abbrev TO:=St→Hp→(Option Int→Hp→Prop)→Prop
def PO(X:Cx)(e:Option Expr)(t:TO):Prop :=
 ∀ (pins:List (Addr×Obj)) (s:Shared) (σ:St) (H:Hp) (Q:Option Int→Hp→Prop),Inv X pins σ H s→t σ H Q →
  wpAny (model X.prog X.w) X.A (evalPart e X.env) (fun u s'=>∃ o H',Inv X pins σ H' s'∧IsPart u o∧Q o H') X.xe s
def tNoPart:TO:=fun _ H Q=>Q none H
def tPart(t:TE):TO:=fun σ H Q=>t σ H fun x H1=>∃ i,x = .int i∧Q (some i) H1
section
variable {X:Cx}{e:Expr}{te:TE}{lo hi:Option Expr}{tl th:TO}{pos p2:Pos}
theorem cD:PO X none tNoPart:=by
 intro pins s σ H Q I h
 rw[evalPart_none]
 exact wpAny_pure ⟨none,H,I,.none,h⟩
theorem bc(h:PE X e te):PO X (some e) (tPart te):=by
 intro pins s σ H Q I hw
 rw[evalPart_some]
 refine thn (h pins s σ H _ I hw) fun u s1 ⟨x,H1,I1,r1,q1⟩=>?_
 obtain⟨i,rfl,q⟩:=q1
 obtain⟨t,rfl⟩:=r1
 exact⟨some i,H1,I1,.int i t,q⟩
def SlR(X:Cx)(r:V→Option Int→Option Int→Hp→VK→Prop):Prop :=
 ∀ (pins:List (Addr×Obj)) (s:Shared) (σ:St) (H:Hp) (x:V) (v vl vu:Value) (lo hi:Option Int) (sl:Addr) (Q:VK),Inv X pins σ H s→RelV x v→s.heap.IsSliceOf sl vl vu .none→IsPart vl lo→IsPart vu hi→r x lo hi H Q →
  ∃ T id,typeLookup (.type T) "__getitem__" = pure (some (.builtin id))∧s.TypeIs v T∧wpAny (model X.prog X.w) X.A (getItem v (.ref sl)) (EP X pins σ Q) X.xe s
def tSl(r:V→Option Int→Option Int→Hp→VK→Prop)(te:TE)(tl th:TO):TE:=fun σ H Q=>te σ H fun x H1=>tl σ H1 fun l H2=>th σ H2 fun u H3=>r x l u H3 Q
theorem bg{r:V→Option Int→Option Int→Hp→VK→Prop}(hr:SlR X r)(he:PE X e te)(hl:PO X lo tl)(hu:PO X hi th):PE X (.Subscript e (.Slice lo hi none p2) pos) (tSl r te tl th):=by
 intro pins s σ H Q I h
 refine Subscript_ (thn (he pins s σ H _ I h) fun v s1 ⟨x,H1,I1,r1,q1⟩=>?_)
 refine wpAny_Slice (thn (hl pins s1 σ H1 _ I1 q1) fun vl s2 ⟨l,H2,I2,pl,q2⟩=>thn (hu pins s2 σ H2 _ I2 q2) fun vu s3 ⟨u,H3,I3,pu,q3⟩=>?_)
 rw[evalPart_none]
 refine wpAny_pure ?_
 have I4:Inv X pins σ H3 { s3 with heap:=s3.heap.push { cls:=.type "slice",data:=.fields #[vl,vu,.none] } }:=I3.kept (t':=s3.toks) fun b ob q=>Heap.get?_push_of_some _ q
 obtain⟨T,id,hT,ht,hg⟩:=hr pins { s3 with heap:=s3.heap.push { cls:=.type "slice",data:=.fields #[vl,vu,.none] } } σ H3 x v vl vu l u s3.heap.objs.size Q I4 r1 (Heap.IsSliceOf.new ..) pl pu q3
 show wpAny (model X.prog X.w) X.A (subscriptTail e (.Slice lo hi none p2) v (.ref s3.heap.objs.size)) (EP X pins σ Q) X.xe { s3 with heap:=s3.heap.push { cls:=.type "slice",data:=.fields #[vl,vu,.none] } }
 exact tail_any (ops:=[.ref s3.heap.objs.size,v]) ht hT hg (by with_unfolding_all rfl)
def fN(xs:List V)(lo hi:Option Int):List V:=(xs.drop (HT.sIx xs.length 0 lo)).take (HT.sIx xs.length xs.length hi-HT.sIx xs.length 0 lo)
theorem cutV_length(xs:List V)(lo hi:Option Int):(fN xs lo hi).length≤xs.length:=by
 unfold fN
 rw[List.length_take,List.length_drop]
 omega
end
end L2
namespace L2
open PySem PySem.Spec PyProof.Rows
def ixN(n:Nat)(i:Int):Option Nat:=if 0≤i then(if i<n then some i.toNat else none) else if -(n:Int)≤i then some (i+n).toNat else none
def atI{α:Type}(xs:List α)(i:Int):Option α:=(ixN xs.length i).bind fun j=>xs[j]?
theorem ixN_seq{n:Nat}{i:Int}{j:Nat}(h:ixN n i=some j):seqIndex? i n=some j∧j<n∧-(n:Int)≤i∧i<n:=by
 unfold ixN at h
 by_cases h0:0≤i
 ·rw[if_pos h0] at h
  by_cases h1:i<n
  ·rw[if_pos h1] at h
   have e:i.toNat=j:=Option.some.inj h
   exact⟨by rw[seqIndex_of h0 h1,e],by omega,by omega,h1⟩
  ·rw[if_neg h1] at h; cases h
 ·rw[if_neg h0] at h
  by_cases h1:-(n:Int)≤i
  ·rw[if_pos h1] at h
   have e:(i+n).toNat=j:=Option.some.inj h
   exact⟨by rw[seqIndex_neg (by omega) h1,e],by omega,h1,by omega⟩
  ·rw[if_neg h1] at h; cases h
theorem atI_get{α:Type}{xs:List α}{i:Int}{v:α}(h:atI xs i=some v):∃ j,seqIndex? i xs.length=some j∧xs[j]? = some v∧j<xs.length∧-(xs.length:Int)≤i∧i<xs.length:=by
 unfold atI at h
 cases e:ixN xs.length i with
 | none=>rw[e] at h; cases h
 | some j =>
  rw[e] at h
  obtain⟨h1,h2,h3,h4⟩:=ixN_seq e
  exact⟨j,h1,h,h2,h3,h4⟩
theorem aE{α:Type}{xs:List α}{j:Nat}{v:α}(h:xs[j]? = some v):atI xs (j:Int)=some v:=by
 have hj:j<xs.length:=(List.getElem?_eq_some_iff.mp h).1
 have e:ixN xs.length (j:Int)=some j:=by
  unfold ixN
  rw[if_pos (by omega),if_pos (by omega)]; simp
 unfold atI; rw[e]; exact h
theorem atI_last{α:Type}(xs:List α)(v:α):atI (xs++[v]) (-1)=some v:=by
 have hl:(xs++[v]).length=xs.length+1:=by simp
 have e:ixN (xs++[v]).length (-1)=some xs.length:=by
  unfold ixN
  rw[hl,if_neg (by decide),if_pos (by omega)]
  congr 1
  omega
 unfold atI
 rw[e]
 show(xs++[v])[xs.length]? = some v
 simp
def PlainIx(b:Expr):Prop:=∀ o i,subscripted b false o i=operate [o,i] (getItem o i)
def IxR(X:Cx)(r:R2):Prop :=
 ∀ (value slice:Expr) (pins:List (Addr×Obj)) (s:Shared) (σ:St) (H:Hp) (x y:V) (v u:Value) (Q:VK),Inv X pins σ H s→RelV x v→RelV y u→r x y H Q →
  subscripted slice false v u=operate [v,u] (getItem v u)→wpAny (model X.prog X.w) X.A (subscriptTail value slice v u) (EP X pins σ Q) X.xe s
def MtR(X:Cx)(id:String)(r:V→List V→Hp→VK→Prop):Prop :=
 ∀ (pins:List (Addr×Obj)) (s:Shared) (σ:St) (H:Hp) (x:V) (xs:List V) (v:Value) (us:List Value) (Q:VK),Inv X pins σ H s→RelV x v→Vals xs us→r x xs H Q →
  wpAny (model X.prog X.w) X.A (call (.builtin id) (v::us)) (EP X pins σ Q) X.xe s
section
variable {X:Cx}{a b:Expr}{ta tb:TE}{pos:Pos}
theorem aI{r:R2}(hr:IxR X r)(ha:PE X a ta)(hb:PE X b tb)(hs:PlainIx b):PE X (.Subscript a b pos) (tOp r ta tb):=by
 intro pins s σ H Q I h
 exact Subscript_ (binT ha hb I h fun v u s2 x y H2 I2 rx ry q=>hr a b pins s2 σ H2 x y v u Q I2 rx ry q (hs _ _))
def rIxL(K:PySem.W.Frag):R2:=fun x y H Q=>∃ p xs i v,x = .ref p∧y = .int i∧SqL K H p xs∧atI xs i=some v∧Q v H
def rIxT(K:PySem.W.Frag):R2:=fun x y H Q=>∃ p xs i v,x = .ref p∧y = .int i∧SqT K H p xs∧atI xs i=some v∧Q v H
theorem ix_list:IxR X (rIxL X.K):=by
 intro value slice pins s σ H x y v u Q I rx ry h hs
 obtain⟨p,xs,i,z,rfl,rfl,hq,he,q⟩:=h
 cases rx
 obtain⟨t,rfl⟩:=ry
 obtain⟨its,r,pl,hz⟩:=I.list hq
 obtain⟨j,h1,h2,h3,h4,h5⟩:=atI_get he
 obtain⟨w,ew,rw'⟩:=r.get h2
 have hl:=r.length
 have hn:=line63
 have fin:EP X pins σ Q w s:=⟨z,H,I,rw',q⟩
 by_cases h0:0≤i
 ·have hj:i.toNat=j:=by
   rw[seqIndex_of h0 h5] at h1
   exact Option.some.inj h1
  exact item_listR pl.isList h0 (by omega) (by rw[hj]; simpa using ew) fin hs
 ·have hj:(i+(its.toArray.size:Int)).toNat=j:=by
   rw[seqIndex_neg (by omega) h4] at h1
   rw[List.size_toArray,← hl]
   exact Option.some.inj h1
  exact subscriptTail_builtinR (x:=w) pl.isList.typeIs slot_list_getitem.lookup
   (wpAny_getItem_list_neg (Q:=fun r s'=>r=w∧EP X pins σ Q r s') pl.isList (by omega) (by rw[List.size_toArray]<;>omega) (by omega) (by rw[hj]; simpa using ew) ⟨rfl,fin⟩) hs
theorem ix_tup:IxR X (rIxT X.K):=by
 intro value slice pins s σ H x y v u Q I rx ry h hs
 obtain⟨p,xs,i,z,rfl,rfl,hq,he,q⟩:=h
 cases rx
 obtain⟨t,rfl⟩:=ry
 obtain⟨its,r,pl,hz⟩:=I.tuple hq
 obtain⟨j,h1,h2,h3,h4,h5⟩:=atI_get he
 obtain⟨w,ew,rw'⟩:=r.get h2
 have hl:=r.length
 have hn:=line63
 have fin:EP X pins σ Q w s:=⟨z,H,I,rw',q⟩
 exact subscriptTail_builtinR (x:=w) pl.typeIs slot_tuple_getitem.lookup
  (getItem_tuple (j:=j) (Q:=fun r s'=>r=w∧EP X pins σ Q r s') pl (by omega) (by omega) (by rw[List.size_toArray,← hl]; exact h1) (by simpa using ew) ⟨rfl,fin⟩) hs
theorem slice_bounds(lo hi:Option Int)(n:Nat):(sliceBounds lo hi none n).1=((HT.sIx n 0 lo:Nat):Int)∧(sliceBounds lo hi none n).2.1=((HT.sIx n n hi:Nat):Int)∧(sliceBounds lo hi none n).2.2=1:=by
 refine⟨?_,?_,rfl⟩
 ·cases lo with
  | none=>simp[sliceBounds,HT.sIx]
  | some i =>
   simp only[sliceBounds,HT.sIx,Option.getD_none,show(1:Int) > 0 by decide,if_true]
   by_cases h:i<0
   ·simp only[h,if_true]<;>omega
   ·simp only[h,if_false]<;>omega
 ·cases hi with
  | none=>simp[sliceBounds,HT.sIx]
  | some i =>
   simp only[sliceBounds,HT.sIx,Option.getD_none,show(1:Int) > 0 by decide,if_true]
   by_cases h:i<0
   ·simp only[h,if_true]<;>omega
   ·simp only[h,if_false]<;>omega
theorem slicePick_cut(its:List Value)(lo hi:Option Int):slicePick its.toArray lo hi none=((its.drop (HT.sIx its.length 0 lo)).take (HT.sIx its.length its.length hi-HT.sIx its.length 0 lo)).toArray:=by
 obtain⟨h1,h2,h3⟩:=slice_bounds lo hi its.toArray.size
 unfold slicePick
 rw[h1,h2,h3]
 simp only[sliceRange_one,pick_run,List.size_toArray]<;>rfl
def rSlL(K:PySem.W.Frag):V→Option Int→Option Int→Hp→VK→Prop:=fun x lo hi H Q=>∃ a xs,x = .ref a∧SqL K H a xs∧∀ p,H p=none→Q (.ref p) (upd H p (.lst (fN xs lo hi)))
theorem sl_list:SlR X (rSlL X.K):=by
 intro pins s σ H x v vl vu lo hi sl Q I rx hs pl pu h
 obtain⟨a,xs,rfl,hx,q⟩:=h
 cases rx
 obtain⟨its,r,ht,hz⟩:=I.list hx
 have hlen:=r.length
 refine⟨"list",_,slot_list_getitem.lookup,ht.isList.typeIs,?_⟩
 refine wpAny_getItem_list_slice ht.isList hs pl pu .none (by simp) ?_ (by rw[List.size_toArray]<;>omega)
 rw[slicePick_cut,← hlen]
 refine⟨.ref s.heap.objs.size,_,I.laid (t':=s.toks) (o:=.lst (fN xs lo hi)) (fun b ob q=>Heap.get?_push_of_some _ q) (Nat.le_refl _) ?_,rfl,q _ (I.hok.fresh (Nat.le_refl _))⟩
 exact⟨Nat.le_trans (cutV_length xs lo hi) hz,_,0,(r.drop (HT.sIx xs.length 0 lo)).take (HT.sIx xs.length xs.length hi-HT.sIx xs.length 0 lo),Heap.get?_push_size _ rfl⟩
def flatV:V→Bool
 | .non=>true
 | .bl _=>true
 | .int _=>true
 | .str _=>true
 | _=>false
def eqV:V→V→Bool
 | .non,.non=>true
 | .bl a,.bl b=>a==b
 | .bl a,.int b=>(if a then 1 else 0)==b
 | .int a,.bl b=>a==(if b then 1 else 0)
 | .int a,.int b=>a==b
 | .str a,.str b=>a==b
 | _,_=>false
theorem eqAt_V{A:Around}{s:Shared}{y x:V}{u v:Value}(ry:RelV y u)(rx:RelV x v)(fy:flatV y=true)(fx:flatV x=true):SeqAt.EqAt A s u v (eqV y x):=by
 cases y with
 | non =>
  cases ry
  cases x with
  | non=>cases rx; exact SeqAt.EqAt.same _
  | bl b=>cases rx; exact SeqAt.EqAt.none_bool b
  | int b=>obtain⟨t,rfl⟩:=rx; exact SeqAt.EqAt.none_int b t
  | str b=>obtain⟨t,rfl⟩:=rx; exact SeqAt.EqAt.none_str b t
  | _=>exact absurd (show false=true from fx) Bool.false_ne_true
 | bl a =>
  cases ry
  cases x with
  | non=>cases rx; exact SeqAt.EqAt.bool_none a
  | bl b=>cases rx; exact SeqAt.EqAt.bool_bool a b
  | int b=>obtain⟨t,rfl⟩:=rx; exact SeqAt.EqAt.bool_int a b t
  | str b=>obtain⟨t,rfl⟩:=rx; exact SeqAt.EqAt.bool_str a b t
  | _=>exact absurd (show false=true from fx) Bool.false_ne_true
 | int a =>
  obtain⟨t',rfl⟩:=ry
  cases x with
  | non=>cases rx; exact SeqAt.EqAt.int_none a t'
  | bl b=>cases rx; exact SeqAt.EqAt.int_bool a t' b
  | int b=>obtain⟨t,rfl⟩:=rx; exact SeqAt.EqAt.int_int a t' b t
  | str b=>obtain⟨t,rfl⟩:=rx; exact SeqAt.EqAt.int_str a t' b t
  | _=>exact absurd (show false=true from fx) Bool.false_ne_true
 | str a =>
  obtain⟨t',rfl⟩:=ry
  cases x with
  | non=>cases rx; exact SeqAt.EqAt.str_none a t'
  | bl b=>cases rx; exact SeqAt.EqAt.str_bool a t' b
  | int b=>obtain⟨t,rfl⟩:=rx; exact SeqAt.EqAt.str_int a t' b t
  | str b=>obtain⟨t,rfl⟩:=rx; exact SeqAt.EqAt.str_str a t' b t
  | _=>exact absurd (show false=true from fx) Bool.false_ne_true
 | _=>exact absurd (show false=true from fy) Bool.false_ne_true
def eqU(x:V)(u:Value):Bool:=match u with
 | .none=>eqV .non x
 | .bool b=>eqV (.bl b) x
 | .int i _=>eqV (.int i) x
 | .str z _=>eqV (.str z) x
 | _=>false
theorem eqU_of{x y:V}{u:Value}(r:RelV y u)(f:flatV y=true):eqU x u=eqV y x:=by
 cases y with
 | non=>cases r; rfl
 | bl b=>cases r; rfl
 | int i=>obtain⟨t,rfl⟩:=r; rfl
 | str z=>obtain⟨t,rfl⟩:=r; rfl
 | _=>exact absurd (show false=true from f) Bool.false_ne_true
theorem rD{x:V}:∀ {xs:List V} {us:List Value},Vals xs us→xs.all flatV=true→us.any (eqU x)=xs.any fun y=>eqV y x
 | _,_,.nil,_=>rfl
 | y::xs,u::us,.cons r t,f=>by
  rw[List.all_cons,Bool.and_eq_true] at f
  rw[List.any_cons,List.any_cons,eqU_of r f.1,rD t f.2]
theorem my{A:Around}{s:Shared}{x:V}{v:Value}(rx:RelV x v)(fx:flatV x=true):∀ {xs:List V} {us:List Value},Vals xs us→xs.all flatV=true→∀ u∈us,SeqAt.EqAt A s u v (eqU x u)
 | _,_,.nil,_=>fun u hu=>by cases hu
 | y::xs,u::us,.cons r t,f=>fun u' hu=>by
  rw[List.all_cons,Bool.and_eq_true] at f
  rcases List.mem_cons.mp hu with rfl | hu
  ·rw[eqU_of r f.1]; exact eqAt_V r rx f.1 fx
  ·exact my rx fx t f.2 u' hu
def inV(x:V)(xs:List V):Bool:=xs.any fun y=>eqV y x
def rIn(K:PySem.W.Frag)(neg:Bool):R2:=fun x y H Q=>∃ p xs,y = .ref p∧(SqL K H p xs∨SqT K H p xs)∧flatV x=true∧xs.all flatV=true∧Q (.bl (if neg then !inV x xs else inV x xs)) H
theorem op_in_seq:OpR X (compareOp .In) (rIn X.K false):=by
 intro pins s σ H x y v u Q I rx ry h
 obtain⟨p,xs,rfl,hq,fx,fs,q⟩:=h
 cases ry
 rcases hq with hq | hq
 ·obtain⟨its,r,pl,hz⟩:=I.list hq
  refine SeqAt.in_listAt (eqU x) pl.isList (fun w hw=>my rx fx r fs w (by simpa using hw)) ⟨.bl _,H,I,rfl,?_⟩
  rw[show its.toArray.any (eqU x)=its.any (eqU x) by simp,rD r fs]
  exact q
 ·obtain⟨its,r,pl,hz⟩:=I.tuple hq
  refine SeqAt.in_tupleAt (eqU x) pl (fun w hw=>my rx fx r fs w (by simpa using hw)) ⟨.bl _,H,I,rfl,?_⟩
  rw[show its.toArray.any (eqU x)=its.any (eqU x) by simp,rD r fs]
  exact q
theorem op_notIn_seq:OpR X (compareOp .NotIn) (rIn X.K true):=by
 intro pins s σ H x y v u Q I rx ry h
 obtain⟨p,xs,rfl,hq,fx,fs,q⟩:=h
 cases ry
 rcases hq with hq | hq
 ·obtain⟨its,r,pl,hz⟩:=I.list hq
  refine SeqAt.notIn_listAt (eqU x) pl.isList (fun w hw=>my rx fx r fs w (by simpa using hw)) ⟨.bl _,H,I,rfl,?_⟩
  rw[show its.toArray.any (eqU x)=its.any (eqU x) by simp,rD r fs]
  exact q
 ·obtain⟨its,r,pl,hz⟩:=I.tuple hq
  refine SeqAt.notIn_tupleAt (eqU x) pl (fun w hw=>my rx fx r fs w (by simpa using hw)) ⟨.bl _,H,I,rfl,?_⟩
  rw[show its.toArray.any (eqU x)=its.any (eqU x) by simp,rD r fs]
  exact q
theorem call_len_seq:mM X (.builtin "len") (fun xs H Q=>∃ p ys,xs=[.ref p]∧(SqL X.K H p ys∨SqT X.K H p ys)∧Q (.int ys.length) H):=by
 intro pins s σ H xs us Q I r h
 obtain⟨p,ys,rfl,hq,q⟩:=h
 obtain⟨u,rfl,rx⟩:=vals1 r
 cases rx
 have hn:=line63
 rcases hq with hq | hq
 ·obtain⟨its,r',pl,hz⟩:=I.list hq
  have hlen:=r'.length
  exact Calls.call_len_list pl.isList (by simp only[List.size_toArray]<;>omega) ⟨.int ys.length,H,I.tok _,⟨s.toks+1,by rw[List.size_toArray,hlen]⟩,q⟩
 ·obtain⟨its,r',pl,hz⟩:=I.tuple hq
  have hlen:=r'.length
  exact len_tuple pl (by simp only[List.size_toArray]<;>omega) ⟨.int ys.length,H,I.tok _,⟨s.toks+1,by rw[List.size_toArray,hlen]⟩,q⟩
def tyV(K:PySem.W.Frag)(T:String)(x:V)(H:Hp):Prop:=match x with
 | .str _=>T = "str"
 | .int _=>T = "int"
 | .ref p=>(T = "list" ∧ ∃ xs,SqL K H p xs)∨(T = "tuple" ∧ ∃ o,K.lookup p=some o∧o.cls = .type "tuple" ∧ o.dict=none) ∨
   (T = "dict" ∧ ((∃ kvs,H p=some (.dK kvs))∨∃ kvs,H p=some (.dT kvs)))∨(T = "set" ∧ ∃ S n,H p=some (.set S n))
 | _=>False
theorem tyV_is{pins:List (Addr×Obj)}{σ:St}{H:Hp}{s:Shared}{T:String}{x:V}{v:Value}(I:Inv X pins σ H s)(r:RelV x v)(ty:tyV X.K T x H) :
  s.TypeIs v T∧∀ a,v = .ref a→∃ ob,s.heap.get? a=some ob∧ob.dict=none:=by
 cases x with
 | str z =>
  obtain⟨t,rfl⟩:=r
  cases(show T = "str" from ty)
  exact⟨typeIs_str s z t,fun _ e=>nomatch e⟩
 | int i =>
  obtain⟨t,rfl⟩:=r
  cases(show T = "int" from ty)
  exact⟨typeIs_int s i t,fun _ e=>nomatch e⟩
 | ref p =>
  cases r
  rcases ty with⟨rfl,xs,hq⟩ | ⟨rfl,o,hk,hc,hd⟩ | ⟨rfl,hk⟩ | ⟨rfl,S,n,hk⟩
  ·obtain⟨its,_,pl,_⟩:=I.list hq
   refine⟨pl.isList.typeIs,fun a e=>?_⟩
   cases e
   obtain⟨o,n,e,c,hd,_⟩:=pl
   exact⟨o,e,hd⟩
  ·refine⟨⟨o,I.kIn p o hk,hc⟩,fun a e=>?_⟩
   cases e
   exact⟨o,I.kIn _ o hk,hd⟩
  ·have z:∃ o,s.heap.get? p=some o∧o.ExactDict:=by
    rcases hk with⟨kvs,hk⟩ | ⟨kvs,hk⟩
    ·obtain⟨_,_,_,_,o,_,_,e,ex,_⟩:=I.hok p _ hk
     exact⟨o,e,ex⟩
    ·obtain⟨_,_,_,_,o,_,_,e,ex,_⟩:=I.hok p _ hk
     exact⟨o,e,ex⟩
   obtain⟨o,e,ex⟩:=z
   refine⟨⟨o,e,ex.1⟩,fun a e2=>?_⟩
   cases e2
   exact⟨o,e,ex.2.1⟩
  ·obtain⟨o,_,_,_,e,ex,_⟩:=I.hok p _ hk
   refine⟨⟨o,e,ex.1⟩,fun a e2=>?_⟩
   cases e2
   exact⟨o,e,ex.2.1⟩
 | _=>exact False.elim ty
def tBM0(K:PySem.W.Frag)(T:String)(r:V→List V→Hp→VK→Prop)(to:TE):TE:=fun σ H Q=>to σ H fun x H1=>tyV K T x H1∧r x [] H1 Q
def tBM(K:PySem.W.Frag)(T:String)(r:V→List V→Hp→VK→Prop)(to:TE)(t:TA):TE:=fun σ H Q=>to σ H fun x H1=>tyV K T x H1∧t σ H1 fun xs H2=>r x xs H2 Q
variable {o e:Expr}{es:List Expr}{to:TE}{t:TA}{name:Str}{apos cpos:Pos}{T id:String}{r:V→List V→Hp→VK→Prop}
theorem pe_bm0(pa:PlainAttrs T)(slot:Slot T name id)(hty:typeOf (.builtin id)=pure (.type "method_descriptor"))(hm:MtR X id r)(ho:PE X o to)
 (hbase:attributeBase o name X.env (eval o X.env)=eval o X.env:=by rfl)(hline:(apos.endLine==cpos.line)=true:=by rfl):PE X (.Call (.Attribute o name apos) [] [] cpos) (tBM0 X.K T r to):=by
 intro pins s σ H Q I h
 refine wpAny_Call_method0_late hbase hline (thn (ho pins s σ H _ I h) fun v s1 ⟨x,H1,I1,r1,ty,q1⟩=>?_)
 obtain⟨h1,h2⟩:=tyV_is I1 r1 ty
 exact⟨T,id,pa,slot,hty,h1,h2,Calls.callWith_builtin rfl (PySem.evalArgs_none (hm pins s1 σ H1 x [] v [] Q I1 r1 .nil q1))⟩
theorem pe_bm(pa:PlainAttrs T)(slot:Slot T name id)(hty:typeOf (.builtin id)=pure (.type "method_descriptor"))(hm:MtR X id r)(ho:PE X o to)(ha:PA X (e::es) t)
 (hbase:attributeBase o name X.env (eval o X.env)=eval o X.env:=by rfl)
 (hfew:((backTo cpos (starEach (e::es) X.env)).all (fun x=>!x.1)&&(backToKw cpos (keywordEach [] X.env)).all (fun x=>x.1.isSome)
   && decide ((e::es).length+([]:List Keyword).length+(if ([]:List Keyword).isEmpty then 0 else 1)<30))=true:=by rfl)
 (hline:(apos.endLine==cpos.line)=true:=by rfl)(hs:starEach (e::es) X.env=(false,eval e X.env)::starEach es X.env:=by rfl)(hplain:(backTo cpos (starEach es X.env)).any (·.1)=false:=by rfl) :
  PE X (.Call (.Attribute o name apos) (e::es) [] cpos) (tBM X.K T r to t):=by
 intro pins s σ H Q I h
 refine wpAny_Call_method_late hbase hfew hline rfl (thn (ho pins s σ H _ I h) fun v s1 ⟨x,H1,I1,r1,ty,q1⟩=>?_)
 obtain⟨h1,h2⟩:=tyV_is I1 r1 ty
 refine⟨T,id,pa,slot,hty,h1,h2,?_⟩
 have hA:=ha cpos pins s1 σ H1 _ I1 q1
 rw[hs] at hA ⊢
 refine Calls.callWith_builtin (by show(false || (backTo cpos (starEach es X.env)).any (·.1))=false; rw[hplain]<;>rfl) (Calls.evalArgs_plain ?_)
 exact thn hA fun us s2 ⟨vs,H2,I2,r2,q2⟩=>hm pins s2 σ H2 x vs v us Q I2 r1 r2 q2
end
end L2
namespace L2
open PySem PySem.Spec PyProof.Rows
def MtM(X:Cx)(id:String)(r:V→List V→Hp→VK→Prop):Prop :=
 ∀ (pins:List (Addr×Obj)) (s:Shared) (σ:St) (H:Hp) (x:V) (xs:List V) (v:Value) (us:List Value) (Q:VK),Inv X pins σ H s→RelV x v→Vals xs us→r x xs H Q →
  wpAny (model X.prog X.w) X.A (call (.builtin id) (v::us)) (EP X pins σ Q) X.xe s
theorem Vals.one:∀ {x:V} {us:List Value},Vals [x] us→∃ u,us=[u]∧RelV x u
 | _,_,.cons r .nil=>⟨_,rfl,r⟩
theorem Vals.two:∀ {x y:V} {us:List Value},Vals [x,y] us→∃ u v,us=[u,v]∧RelV x u∧RelV y v
 | _,_,_,.cons r (.cons q .nil)=>⟨_,_,rfl,r,q⟩
theorem Vals.zero:∀ {us:List Value},Vals [] us→us=[]
 | _,.nil=>rfl
theorem Vals.dropLast{xs:List V}{us:List Value}(h:Vals xs us):Vals xs.dropLast us.dropLast:=by
 induction h with
 | nil=>exact .nil
 | cons r t ih =>
  cases t with
  | nil=>exact .nil
  | cons q t'=>exact .cons r ih
theorem erase_last{α:Type}(l:List α):l.eraseIdx (l.length-1)=l.dropLast:=by
 induction l with
 | nil=>rfl
 | cons a r ih =>
  cases r with
  | nil=>rfl
  | cons b r =>
   have e:(a::b::r).length-1=((b::r).length-1)+1:=by
    have h1:(a::b::r).length=r.length+2:=rfl
    have h2:(b::r).length=r.length+1:=rfl
    omega
   rw[e,List.eraseIdx_cons_succ,ih]
   all_goals rfl
section
variable {X:Cx}{pins:List (Addr×Obj)}{σ:St}{H:Hp}{s:Shared}{l b:Addr}{xs ys zs:List V}
theorem Inv.lset{its its':List Value}{n:Nat}{f:Array Value→Array Value}{t':Nat}(I:Inv X pins σ H s)(hH:H l=some (.lst xs))
 (e:s.heap.get? l=some { cls:=.type "list",data:=.seq its.toArray n })(hf:f its.toArray=its'.toArray)(hv:Vals ys its')(hz:ys.length≤sizeLine) :
  Inv X pins σ (upd H l (.lst ys)) { s with heap:=s.heap.update l (Obj.mapSeq f),toks:=t' }:=by
 have q:=PySem.IsL.update e f
 rw[hf] at q
 refine I.write (x:=l) (e:=l) (by rw[hH]; exact trivial) (.inl rfl) (fun b' u hb hu=>(Heap.get?_update_other s.heap (Obj.mapSeq f) (Ne.symm hb)).trans hu) ⟨_,q⟩ ?_
 exact⟨hz,its',_,hv,q⟩
theorem Inv.lnew{its:List Value}{t':Nat}(I:Inv X pins σ H s)(hv:Vals ys its)(hz:ys.length≤sizeLine) :
  Inv X pins σ (upd H s.heap.objs.size (.lst ys)) { s with heap:=s.heap.push { cls:=.type "list",data:=.seq its.toArray },toks:=t' } :=
 I.laid (fun _ _ q=>Heap.get?_push_of_some _ q) (Nat.le_refl _) ⟨hz,its,0,hv,Heap.get?_push_size _ rfl⟩
theorem Inv.fresh(I:Inv X pins σ H s):H s.heap.objs.size=none:=I.hok.fresh (Nat.le_refl _)
theorem Inv.lstM(I:Inv X pins σ H s)(hH:H l=some (.lst xs)):xs.length≤sizeLine∧∃ (its:List Value) (n:Nat),Vals xs its∧xs.length=its.length∧s.heap.get? l=some { cls:=.type "list",data:=.seq its.toArray n }:=by
 obtain⟨z,its,n,r,e⟩:=I.hok l _ hH
 exact⟨z,its,n,r,r.length,e⟩
theorem notLongL{n:Nat}(h:n≤sizeLine):Builtin.List.listTooLong n=false:=by
 unfold Builtin.List.listTooLong
 exact decide_eq_false (by omega)
end
section
variable {X:Cx}
def rAppend:V→List V→Hp→VK→Prop:=fun x vs H Q=>∃ l xs y,x = .ref l∧vs=[y]∧H l=some (.lst xs)∧xs.length<sizeLine∧Q .non (upd H l (.lst (xs++[y])))
theorem fm:MtM X "list.append" rAppend:=by
 intro pins s σ H x vs v us Q I rx rv h
 obtain⟨l,xs,y,rfl,rfl,hH,hz,q⟩:=h
 cases rx
 obtain⟨u,rfl,ru⟩:=rv.one
 obtain⟨z,its,n,r,hl,e⟩:=I.lstM hH
 refine call_meets F.slot_list_append ⟨_,e,rfl⟩ F.entry_list_append (F.args_list_append_2 _ _) (PySem.list_append l its.toArray n u (by rw[List.size_toArray]; omega)) ⟨e,?_⟩
 refine⟨.non,_,I.lset (its':=its++[u]) hH e (by simp) (r.append (.cons ru .nil)) ?_,rfl,q⟩
 rw[List.length_append,List.length_singleton]
 omega
def rExtend:V→List V→Hp→VK→Prop:=fun x vs H Q=>∃ l b xs zs,x = .ref l∧vs=[.ref b]∧H l=some (.lst xs)∧H b=some (.lst zs)∧xs.length+zs.length≤sizeLine∧Q .non (upd H l (.lst (xs++zs)))
theorem g7:MtM X "list.extend" rExtend:=by
 intro pins s σ H x vs v us Q I rx rv h
 obtain⟨l,b,xs,zs,rfl,rfl,hH,hB,hz,q⟩:=h
 cases rx
 obtain⟨u,rfl,ru⟩:=rv.one
 cases ru
 obtain⟨z,its,n,r,hl,e⟩:=I.lstM hH
 obtain⟨z2,its2,n2,r2,hl2,e2⟩:=I.lstM hB
 have hsz:its.toArray.size+its2.toArray.size≤sizeLine:=by rw[List.size_toArray,List.size_toArray]; omega
 have hlong:¬ (!its.toArray.isEmpty&&Builtin.List.listTooLong (its.toArray.size+its2.toArray.size))=true:=by
  rw[notLongL hsz,Bool.and_false]
  exact Bool.false_ne_true
 refine call_meets F.slot_list_extend ⟨_,e,rfl⟩ F.entry_list_extend (F.args_list_extend_2 _ _)
  (AutoSeq1.list_extend_list_list_0 l its.toArray n b its2.toArray n2 hlong (by rw[List.size_toArray]; omega) (by omega)) ⟨e,e2,?_⟩
 refine⟨.non,_,I.lset (its':=its++its2) hH e (by simp) (r.append r2) ?_,rfl,q⟩
 rw[List.length_append]
 omega
def rPop:V→List V→Hp→VK→Prop:=fun x vs H Q=>∃ l xs y,x = .ref l∧vs=[]∧H l=some (.lst xs)∧xs[xs.length-1]? = some y∧Q y (upd H l (.lst xs.dropLast))
theorem mt_pop:MtM X "list.pop" rPop:=by
 intro pins s σ H x vs v us Q I rx rv h
 obtain⟨l,xs,y,rfl,rfl,hH,hy,q⟩:=h
 cases rx
 have hus:=rv.zero
 subst hus
 obtain⟨z,its,n,r,hl,e⟩:=I.lstM hH
 obtain⟨u,hu,ru⟩:=r.get hy
 have hy':its.toArray[its.toArray.size-1]? = some u:=by
  show its.toArray[its.length-1]? = some u
  rw[← Array.getElem?_toList,← hl]
  exact hu
 refine call_meets F.slot_list_pop ⟨_,e,rfl⟩ F.entry_list_pop (F.args_list_pop_1 _) (MeetsSeq.list_pop_last l its.toArray n u hy' (by rw[List.size_toArray]; omega)) ⟨e,?_⟩
 refine⟨y,_,I.lset (its':=its.dropLast) hH e ?_ r.dropLast ?_,ru,q⟩
 ·show its.toArray.eraseIdxIfInBounds (its.toArray.size-1)=its.dropLast.toArray
  rw[List.size_toArray,List.eraseIdxIfInBounds_toArray,erase_last]
 ·rw[List.length_dropLast]
  omega
def rCat:R2:=fun x y H Q=>∃ l b xs zs,x = .ref l∧y = .ref b∧H l=some (.lst xs)∧H b=some (.lst zs)∧xs.length+zs.length≤sizeLine∧∀ p,H p=none→Q (.ref p) (upd H p (.lst (xs++zs)))
theorem jf:OpR X (binaryOp .Add) rCat:=by
 intro pins s σ H x y v u Q I rx ry h
 obtain⟨l,b,xs,zs,rfl,rfl,hH,hB,hz,q⟩:=h
 cases rx
 cases ry
 obtain⟨z,its,n,r,hl,e⟩:=I.lstM hH
 obtain⟨z2,its2,n2,r2,hl2,e2⟩:=I.lstM hB
 refine PySem.P.add_list e e2 ?_ (by rw[List.size_toArray,List.size_toArray]; omega)
 have ea:its.toArray++its2.toArray=(its++its2).toArray:=by simp
 rw[ea]
 exact⟨.ref _,_,I.lnew (t':=s.toks) (r.append r2) (by rw[List.length_append]; omega),rfl,q _ I.fresh⟩
end
section
variable {prog:Program}{w:World}{A:Around}{E:Value→Shared→Prop}{s:Shared}
end
section
variable {X:Cx}
end
end L2
namespace L2
open PySem PySem.Spec PyProof.Rows
theorem Vals.ints:∀ {ns:List Int} {us:List Value},Vals (ns.map V.int) us→IntsAre us ns
 | [],us,h=>by
  rw[List.map_nil] at h
  cases h
  exact IntsAre.nil
 | n::ns,us,h=>by
  rw[List.map_cons] at h
  cases h with
  | cons r t =>
   obtain⟨k,rfl⟩:=r
   exact IntsAre.cons n k (Vals.ints t)
theorem Vals.ref1{a:Addr}{us:List Value}(r:Vals [V.ref a] us):us=[Value.ref a]:=by
 cases r with
 | cons r t =>
  cases t
  cases r
  rfl
section
variable {prog:Program}{w:World}{A:Around}{E:Value→Shared→Prop}{s:Shared}{l:Addr}{its:List Value}{ns:List Int}{Q:Value→Shared→Prop}
theorem sum_raw(hh:A.handled=none)(hl:s.heap.IsList l its.toArray)(hi:IntsAre its ns)
 (h:∀ h' tk t',(∀ b o,s.heap.get? b=some o→h'.get? b=some o)→Q (.int ns.sum t') { s with heap:=h',toks:=tk }):wpAny (model prog w) A (call (.builtin "sum") [.ref l]) Q E s:=by
 obtain⟨xs,e⟩:=hi.allInts.items
 have hn:numsOf (intItems xs).toList=ns:=by rw[← e]; exact hi.numsOf
 rw[nums_intItems] at hn
 rw[e] at hl
 refine PySem.sum_intListG hh hl fun h' tk t' hk=>?_
 have:=h h' tk t' hk
 rw[preSum_eq,List.take_of_length_le (by simp),hn]; exact this
end
section
variable {X:Cx}
def rSum(K:PySem.W.Frag):List V→Hp→VK→Prop:=fun vs H Q=>∃ (a:Addr) (ns:List Int),vs=[V.ref a]∧SqL K H a (ns.map V.int)∧Q (.int ns.sum) H
theorem cr_sum(hc:X.calm=true):mM X (.builtin "sum") (rSum X.K):=by
 intro pins s σ H vs us Q I r h
 obtain⟨a,ns,rfl,hs,q⟩:=h
 obtain⟨its,rv,hl,_⟩:=I.list hs
 rw[Vals.ref1 r]
 exact sum_raw (I.ok.hd hc) hl.isList rv.ints fun h' tk t' hk=>⟨.int _,H,I.kept hk,⟨_,rfl⟩,q⟩
end
section
variable {X:Cx}
end
section
variable {X:Cx}
end
section
variable {X:Cx}
end
mutual
inductive Dp (K:PySem.W.Frag) (H:Hp):V→PyData→Prop
 | non:Dp K H .non .none
 | bl (b:Bool):Dp K H (.bl b) (.bool b)
 | int (i:Int):Dp K H (.int i) (.int i)
 | str (x:Str):Dp K H (.str x) (.str x)
 | lst {a:Addr} {xs:List V} {ds:List PyData}:SqL K H a xs→DpAll K H xs ds→Dp K H (.ref a) (.list ds)
 | tup {a:Addr} {xs:List V} {ds:List PyData}:SqT K H a xs→DpAll K H xs ds→Dp K H (.ref a) (.tuple ds)
inductive DpAll (K:PySem.W.Frag) (H:Hp):List V→List PyData→Prop
 | nil:DpAll K H [] []
 | cons {v:V} {vs:List V} {d:PyData} {ds:List PyData}:Dp K H v d→DpAll K H vs ds→DpAll K H (v::vs) (d::ds)
end
section
variable {X:Cx}{pins:List (Addr×Obj)}{σ:St}{H:Hp}{s:Shared}
mutual
theorem Dp.reads(I:Inv X pins σ H s):∀ (d:PyData) (v:V) (u:Value),Dp X.K H v d→RelV v u→∃ as,Reads s.heap u d as
 | .none,_,_,h,r=>by
  cases h
  cases r
  exact⟨_,Reads.none⟩
 | .bool b,_,_,h,r=>by
  cases h
  cases r
  exact⟨_,Reads.bool b⟩
 | .int i,_,_,h,r=>by
  cases h
  obtain⟨t,rfl⟩:=r
  exact⟨_,Reads.int i t⟩
 | .str x,_,_,h,r=>by
  cases h
  obtain⟨t,rfl⟩:=r
  exact⟨_,Reads.str x t⟩
 | .list ds,_,_,h,r=>by
  cases h with
  | lst hs ha =>
   cases r
   obtain⟨its,rv,⟨o,n,ho,hc,_,hd⟩,_⟩:=I.list hs
   obtain⟨as,hr⟩:=Dp.readsAll I ds _ its ha rv
   exact⟨_,Reads.list ho hc hd hr⟩
 | .tuple ds,_,_,h,r=>by
  cases h with
  | tup hs ha =>
   cases r
   obtain⟨its,rv,⟨o,ho,hc,n,hd⟩,_⟩:=I.tuple hs
   obtain⟨as,hr⟩:=Dp.readsAll I ds _ its ha rv
   exact⟨_,Reads.tuple ho hc hd hr⟩
 | .dict _,_,_,h,_=>by cases h
theorem Dp.readsAll(I:Inv X pins σ H s):∀ (ds:List PyData) (vs:List V) (us:List Value),DpAll X.K H vs ds→Vals vs us→∃ as,ReadsAll s.heap us ds as
 | [],_,_,h,r=>by
  cases h
  cases r
  exact⟨_,ReadsAll.nil⟩
 | d::ds,_,_,h,r=>by
  cases h with
  | cons h1 h2 =>
   cases r with
   | cons r1 r2 =>
    obtain⟨as,q1⟩:=Dp.reads I d _ _ h1 r1
    obtain⟨bs,q2⟩:=Dp.readsAll I ds _ _ h2 r2
    exact⟨_,ReadsAll.cons q1 q2⟩
end
end
section
variable {X:Cx}
def rEqD(K:PySem.W.Frag):R2:=fun x y H Q=>∃ d e,Dp K H x d∧Dp K H y e∧SeqAt.shaped d=true∧SeqAt.shaped e=true∧Q (.bl (PyData.eqv d e)) H
theorem op_eqD(hu:X.A.units+64<cLine):OpR X (compareOp .Eq) (rEqD X.K):=by
 intro pins s σ H x y v u Q I rx ry h
 obtain⟨d,e,hd,he,sd,se,q⟩:=h
 obtain⟨as,r1⟩:=Dp.reads I d x v hd rx
 obtain⟨bs,r2⟩:=Dp.reads I e y u he ry
 exact SeqAt.compareEq_shaped r1 r2 sd se hu ⟨.bl _,H,I,rfl,q⟩
end
end L2
namespace L2
open PySem PySem.Spec PyProof.Rows
abbrev CellAt(h:Heap)(c:Addr)(v:Option Value):Prop:=h.IsCell c v
def relS(scope sc:Scope):Scope :=
 { scope with names:=scope.names.map fun(n,k)=>if (k==.free&&sc.kind==.function&&sc.names.lookup n==some .cell) then(n,.cell) else(n,k) }
def cF(cells:List (Str×Addr)):List (Str×NameKind)→List (Str×Addr)→List (Str×Addr)
 | [],acc=>acc
 | (n,k)::r,acc=>if k==.free then cF cells r ((n,(cells.lookup n).getD 0)::acc) else cF cells r acc
theorem pJ(env:Env)(f:Str×NameKind→List (Str×Addr)→Sem (ForInStep (List (Str×Addr))))
 (hf:∀ n k c,f (n,k) c=if k==.free then(do let a ← cellOf env n; pure (.yield ((n,a)::c))) else pure (.yield c)) :
  ∀ (names:List (Str×NameKind)) (acc:List (Str×Addr)),(∀ y∈names,y.2 = .free→∃ c,env.cells.lookup y.1=some c)→forIn names acc f=pure (cF env.cells names acc)
 | [],acc,_=>by rw[List.forIn_nil]; rfl
 | (n,k)::r,acc,h=>by
  rw[List.forIn_cons,hf]
  have ih:=fun acc=>pJ env f hf r acc fun y hy=>h y (List.mem_cons_of_mem _ hy)
  unfold cF
  by_cases hk:(k==NameKind.free)=true
  ·rw[if_pos hk,if_pos hk]
   obtain⟨c,hc⟩:=h (n,k) List.mem_cons_self (by simpa using hk)
   have e:cellOf env n=pure c:=by unfold cellOf; rw[hc]
   rw[e]
   have e2:(env.cells.lookup n).getD 0=c:=by rw[hc]; rfl
   rw[e2]
   exact ih _
  ·rw[if_neg hk,if_neg hk]
   exact ih _
theorem closure_ok{scope:Scope}{env:Env}(h:∀ y∈scope.names,y.2 = .free→∃ c,env.cells.lookup y.1=some c):closureFor scope env=pure (cF env.cells scope.names []):=by
 simp only[closureFor]
 rw[pJ env _ (fun n k c=>rfl) scope.names [] h]
 rfl
theorem mem_lookup{α:Type}:∀ {l:List (Str×α)} {n:Str} {c:α},(n,c)∈l→∃ c',l.lookup n=some c'
 | (k,v)::r,n,c,h=>by
  rw[List.lookup_cons]
  cases hb:n==k with
  | true=>exact⟨_,rfl⟩
  | false =>
   rcases List.mem_cons.mp h with e | h
   ·cases e; simp at hb
   ·exact mem_lookup h
theorem iC{cells:List (Str×Addr)}:∀ {names:List (Str×NameKind)} {acc:List (Str×Addr)} {n:Str} {c:Addr},(n,c)∈cF cells names acc→(n,c)∈acc∨((n,.free)∈names∧c=(cells.lookup n).getD 0)
 | [],_,_,_,h=>.inl h
 | (m,k)::r,acc,n,c,h=>by
  unfold cF at h
  split at h
  ·rename_i hk
   have hk:k = .free:=by simpa using hk
   rcases iC h with h | ⟨h1,h2⟩
   ·rcases List.mem_cons.mp h with e | h
    ·cases e; exact .inr ⟨hk▸List.mem_cons_self,rfl⟩
    ·exact .inl h
   ·exact .inr ⟨List.mem_cons_of_mem _ h1,h2⟩
  ·rcases iC h with h | ⟨h1,h2⟩
   ·exact .inl h
   ·exact .inr ⟨List.mem_cons_of_mem _ h1,h2⟩
theorem lS{cells:List (Str×Addr)}:∀ {names:List (Str×NameKind)} {acc:List (Str×Addr)} {p:Str×Addr},p∈acc→p∈cF cells names acc
 | [],_,_,h=>h
 | (m,k)::r,acc,p,h=>by
  unfold cF
  split
  ·exact lS (List.mem_cons_of_mem _ h)
  ·exact lS h
theorem lT{cells:List (Str×Addr)}:∀ {names:List (Str×NameKind)} {acc:List (Str×Addr)} {n:Str},(n,.free)∈names→(n,(cells.lookup n).getD 0)∈cF cells names acc
 | (m,k)::r,acc,n,h=>by
  unfold cF
  rcases List.mem_cons.mp h with e | h
  ·cases e
   exact lS List.mem_cons_self
  ·split
   ·exact lT h
   ·exact lT h
theorem i9:∀ {names:List (Str×NameKind)} {h:Heap} {acc:List (Str×Addr)} {x:Str} {c:Addr},(x,c)∈cellsFrom h.objs.size names acc →
  (x,c)∈acc∨((x,.cell)∈names∧h.objs.size≤c∧CellAt (pushCells h names) c none)
 | [],_,_,_,_,h=>.inl h
 | (n,k)::r,h,acc,x,c,hm=>by
  unfold cellsFrom at hm
  unfold pushCells
  split at hm
  ·rename_i hk
   rw[if_pos hk]
   have hk:k = .cell:=by simpa using hk
   rw[← Heap.size_push h { cls:=.type "cell",data:=.cell none }] at hm
   rcases i9 hm with hm | ⟨h1,h2,h3⟩
   ·rcases List.mem_cons.mp hm with e | hm
    ·cases e
     exact .inr ⟨hk▸List.mem_cons_self,Nat.le_refl _,_,pushCells_keeps r _ _ _ (Heap.get?_push_size _ rfl),rfl⟩
    ·exact .inl hm
   ·rw[Heap.size_push] at h2
    exact .inr ⟨List.mem_cons_of_mem _ h1,Nat.le_of_succ_le h2,h3⟩
  ·rename_i hk
   rw[if_neg hk]
   rcases i9 hm with hm | ⟨h1,h2,h3⟩
   ·exact .inl hm
   ·exact .inr ⟨List.mem_cons_of_mem _ h1,h2,h3⟩
theorem mN:∀ {names:List (Str×NameKind)} {n:Nat} {acc:List (Str×Addr)} {p:Str×Addr},p∈acc→p∈cellsFrom n names acc
 | [],_,_,_,h=>h
 | (m,k)::r,n,acc,p,h=>by
  unfold cellsFrom
  split
  ·exact mN (List.mem_cons_of_mem _ h)
  ·exact mN h
theorem sf:∀ {names:List (Str×NameKind)} {n:Nat} {acc:List (Str×Addr)} {x:Str},(x,.cell)∈names→∃ c,(x,c)∈cellsFrom n names acc
 | (m,k)::r,n,acc,x,h=>by
  unfold cellsFrom
  rcases List.mem_cons.mp h with e | h
  ·cases e
   exact⟨n,mN List.mem_cons_self⟩
  ·split
   ·exact sf h
   ·exact sf h
theorem sg:∀ {names:List (Str×NameKind)} {h:Heap} {acc:List (Str×Addr)} {x y:Str} {c:Addr},(∀ p∈acc,p.2<h.objs.size)→(∀ x y c,(x,c)∈acc→(y,c)∈acc→x=y) →
  (x,c)∈cellsFrom h.objs.size names acc→(y,c)∈cellsFrom h.objs.size names acc→x=y
 | [],_,_,_,_,_,_,hi,h1,h2=>hi _ _ _ h1 h2
 | (n,k)::r,h,acc,x,y,c,hl,hi,h1,h2=>by
  unfold cellsFrom at h1 h2
  split at h1
  ·rename_i hk
   rw[if_pos hk] at h2
   rw[← Heap.size_push h { cls:=.type "cell",data:=.cell none }] at h1 h2
   refine sg (h:=h.push _) (fun p hp=>?_) (fun x y c a b=>?_) h1 h2
   ·rw[Heap.size_push]
    rcases List.mem_cons.mp hp with rfl | hp
    ·exact Nat.lt_succ_self _
    ·exact Nat.lt_succ_of_lt (hl p hp)
   ·rcases List.mem_cons.mp a with e | a<;>rcases List.mem_cons.mp b with e' | b
    ·cases e; cases e'; rfl
    ·cases e; exact absurd (hl _ b) (Nat.lt_irrefl _)
    ·cases e'; exact absurd (hl _ a) (Nat.lt_irrefl _)
    ·exact hi _ _ _ a b
  ·rename_i hk
   rw[if_neg hk] at h2
   exact sg hl hi h1 h2
theorem newEnv_comp{M:Model}{A:Around}{E:Value→Shared→Prop}{s:Shared}{scope:Scope}{globals:Addr}{closure:List (Str×Addr)}{qual:Str}{func:Option Addr}{code:Value}{around:Env}{builtins:Addr}{Q:Env→Shared→Prop}
 (h:Q (newEnv scope s.heap.objs.size globals (cellsFrom (s.heap.objs.size+1) scope.names closure) qual func code (some around) builtins)
   { s with heap:=pushCells (s.heap.push { cls:=.type "dict",data:=.dict #[] }) scope.names }) :
  wpAny M A (newFunctionEnv scope globals closure [] qual func code (some around) builtins) Q E s:=by
 simp only[newFunctionEnv,Option.isSome_some,if_true]
 refine wpAny_bind (wpAny_alloc ?_)
 refine wpAny_bind (wpAny_layCells _ (fun n k c=>rfl) scope.names closure _ _ ?_)
 rw[show({ s with heap:=s.heap.push { cls:=.type "dict",data:=.dict #[] } }:Shared).heap.objs.size=s.heap.objs.size+1 from Heap.size_push ..]
 rw[List.forIn_nil]
 exact wpAny_bind (wpAny_pure (wpAny_pure h))
theorem lU{sc:Scope}:∀ {names:List (Str×NameKind)} {x:Str} {k:NameKind},
  (names.map fun(n,k)=>if (k==NameKind.free&&sc.kind==.function&&sc.names.lookup n==some .cell) then(n,NameKind.cell) else(n,k)).lookup x=some k →
  ∃ k',names.lookup x=some k'∧(k=k'∨(k' = .free∧k = .cell))
 | [],_,_,h=>by simp at h
 | (n,k₀)::r,x,k,h=>by
  have ih:=@lU sc r x k
  have h':List.lookup x ((if (k₀==NameKind.free&&sc.kind==.function&&sc.names.lookup n==some .cell)=true then(n,NameKind.cell) else(n,k₀))::(r.map _))=some k:=h
  cases hx:x==n with
  | true =>
   simp only[List.lookup_cons,hx]
   by_cases hc:(k₀==NameKind.free&&sc.kind==.function&&sc.names.lookup n==some .cell)=true
   ·rw[if_pos hc] at h'
    simp only[List.lookup_cons,hx] at h'
    cases h'
    simp only[Bool.and_eq_true,beq_iff_eq] at hc
    exact⟨k₀,rfl,.inr ⟨hc.1.1,rfl⟩⟩
   ·rw[if_neg hc] at h'
    simp only[List.lookup_cons,hx] at h'
    cases h'
    exact⟨_,rfl,.inl rfl⟩
  | false =>
   simp only[List.lookup_cons,hx]
   by_cases hc:(k₀==NameKind.free&&sc.kind==.function&&sc.names.lookup n==some .cell)=true
   ·rw[if_pos hc] at h'
    simp only[List.lookup_cons,hx] at h'
    exact ih h'
   ·rw[if_neg hc] at h'
    simp only[List.lookup_cons,hx] at h'
    exact ih h'
structure BlkOk (N:List Str) (sc scope:Scope) (own:List (Str×Nat)):Prop where
 kind:scope.kind = .function
 uniq:∀ y∈scope.names,scope.names.lookup y.1=some y.2
 ix:∀ p∈own,N[p.2]? = some p.1
 free:∀ y∈scope.names,y.2 = .free→sc.names.lookup y.1=some .cell∨sc.names.lookup y.1=some .free
 own:∀ y∈scope.names,y.2 = .local∨y.2 = .cell→y.1∈own.map (·.1)∨y.1∉N
def wipe(σ:St):List Nat→St
 | []=>σ
 | v::vs=>(wipe σ vs).set v none
theorem lV(σ:St):∀ vs:List Nat,(wipe σ vs).length=σ.length
 | []=>rfl
 | v::vs=>by unfold wipe; rw[List.length_set,lV σ vs]
theorem sj{σ:St}{i:Nat}{x:V}:∀ {vs:List Nat},(wipe σ vs)[i]? = some (some x)→σ[i]? = some (some x)∧i∉vs
 | [],h=>⟨h,by simp⟩
 | v::vs,h=>by
  unfold wipe at h
  by_cases hi:v=i
  ·subst hi
   by_cases hv:v<(wipe σ vs).length
   ·rw[List.getElem?_set_self hv] at h; cases h
   ·rw[List.getElem?_eq_none (by simpa using hv)] at h; cases h
  ·rw[List.getElem?_set_ne hi] at h
   obtain⟨h1,h2⟩:=sj h
   exact⟨h1,by simp only[List.mem_cons,not_or]; exact⟨fun e=>hi e.symm,h2⟩⟩
abbrev Cx.blk(X:Cx)(s:Shared)(H:Hp)(scope:Scope)(cenv:Env)(fp:List Addr):Cx:={ X with s_0:=s,H_0:=H,env:=cenv,outer:=X.stack,ex:=fp,fn:=fun x=>scope.names.lookup x==some .cell,pn:=[],xe:=fun _ _=>False }
section
variable {X:Cx}{pins:List (Addr×Obj)}{σ:St}{H:Hp}{s:Shared}
theorem block_start {scope : Scope} {own : List (Str × Nat)} {fp : List Addr} (I : Inv X pins σ H s) (ok : BlkOk X.N X.env.scope scope own) (hN : X.N.Nodup) (hfp : ∀ b ∈ fp, FpOk X pins H b ∧ b < s.heap.objs.size) :
    Inv (X.blk s H scope (compEnvC scope (cellsFrom (s.heap.objs.size + 1) scope.names (cF X.env.cells scope.names [])) s.heap.objs.size X.env) fp) [] (wipe σ (own.map (·.2))) H { s with heap := pushCells (s.heap.push { cls := .type "dict", data := .dict #[] }) scope.names } := by
  have hfree : ∀ y ∈ scope.names, y.2 = .free → ∃ c, X.env.cells.lookup y.1 = some c := fun y hy e => by
    rcases ok.free y hy e with k | k
    · exact I.ok.has _ (.inl k)
    · exact I.ok.has _ (.inr k)
  generalize hcenv : compEnvC scope (cellsFrom (s.heap.objs.size + 1) scope.names (cF X.env.cells scope.names [])) s.heap.objs.size X.env = cenv
  have kp : ∀ b o, s.heap.get? b = some o → (pushCells (s.heap.push { cls := .type "dict", data := .dict #[] }) scope.names).get? b = some o := fun b o e => pushCells_keeps _ _ _ _ (Heap.get?_push_of_some _ e)
  have hL : cenv.locals = s.heap.objs.size := by rw [← hcenv]; rfl
  have hcl : cenv.cells = cellsFrom (s.heap.objs.size + 1) scope.names (cF X.env.cells scope.names []) := by rw [← hcenv]; rfl
  have hsc : cenv.scope = relS scope X.env.scope := by rw [← hcenv]; rfl
  rw [← Heap.size_push s.heap { cls := .type "dict", data := .dict #[] }] at hcl
  have cm : ∀ {y c}, (y, c) ∈ cF X.env.cells scope.names [] → X.env.cells.lookup y = some c ∧ c < s.heap.objs.size := fun {y c} hm => by
    rcases iC hm with hm | ⟨h1, rfl⟩
    · cases hm
    · obtain ⟨c, hc⟩ := hfree _ h1 rfl
      rw [hc]
      obtain ⟨w, z⟩ := I.cell _ _ hc
      exact ⟨rfl, z.lt⟩
  have mem : ∀ {y c}, cenv.cells.lookup y = some c → (X.env.cells.lookup y = some c ∧ c < s.heap.objs.size) ∨ (s.heap.objs.size + 1 ≤ c ∧ CellAt (pushCells (s.heap.push { cls := .type "dict", data := .dict #[] }) scope.names) c none) := fun {y c} e => by
    rw [hcl] at e
    rcases i9 (PySem.mem_of_lookup e) with hm | ⟨_, h2, h3⟩
    · exact .inl (cm hm)
    · rw [Heap.size_push] at h2; exact .inr ⟨h2, h3⟩
  have look : ∀ {y}, scope.names.lookup y = some .free → ∃ c, cenv.cells.lookup y = some c ∧ X.env.cells.lookup y = some c := fun {y} hl => by
    have hy : (y, NameKind.free) ∈ scope.names := PySem.mem_of_lookup hl
    obtain ⟨c', e'⟩ := mem_lookup (mN (names := scope.names) (n := (s.heap.push { cls := .type "dict", data := .dict #[] }).objs.size) (lT (cells := X.env.cells) (acc := []) hy))
    rw [← hcl] at e'
    refine ⟨c', e', ?_⟩
    rw [hcl] at e'
    rcases i9 (PySem.mem_of_lookup e') with hm | ⟨h1, _, _⟩
    · exact (cm hm).1
    · have := ok.uniq _ h1
      rw [hl] at this; cases this
  have okB : (X.blk s H scope cenv fp).Ok := by
    refine ⟨I.ok.mod, by show cenv.scope.kind = _; rw [hsc]; exact ok.kind, by show cenv.globals = _; rw [← hcenv]; exact I.ok.glob, by show cenv.builtins = _; rw [← hcenv]; exact I.ok.blt, by show s.heap.objs.size ≤ cenv.locals; rw [hL]; exact Nat.le_refl _,
      fun y z c e1 e2 => ?_, fun y hy => ?_, fun y c z e => ?_, I.ok.hd, I.ok.frames, .inl rfl, fun b hb => ⟨?_, fun y c e z => ?_⟩, I.bs, Nat.le_trans I.ok.bsz I.sz, fun b o e hb => ?_, fun b hb z => ?_, I.stack, I.stkFree⟩
    · have e1 : cenv.cells.lookup y = some c := e1
      have e2 : cenv.cells.lookup z = some c := e2
      rw [hcl] at e1 e2
      refine sg (fun p hp => ?_) (fun y z c a b => I.ok.inj y z c (cm a).1 (cm b).1) (PySem.mem_of_lookup e1) (PySem.mem_of_lookup e2)
      rw [Heap.size_push]
      exact Nat.lt_succ_of_lt (cm (y := p.1) (c := p.2) hp).2
    · show ∃ c, cenv.cells.lookup y = some c
      have key : ∀ k, cenv.kindOf y = some k → (k = .cell ∨ k = .free) → ∃ c, cenv.cells.lookup y = some c := fun k hk hk' => by
        unfold Env.kindOf at hk
        rw [hsc] at hk
        obtain ⟨k', e, r⟩ := lU hk
        have : k' = .cell ∨ k' = .free := by
          rcases r with rfl | ⟨rfl, _⟩
          · exact hk'
          · exact .inr rfl
        rcases this with rfl | rfl
        · obtain ⟨c, hm⟩ := sf (n := (s.heap.push { cls := .type "dict", data := .dict #[] }).objs.size) (acc := cF X.env.cells scope.names []) (PySem.mem_of_lookup e)
          obtain ⟨c', e'⟩ := mem_lookup hm
          exact ⟨c', by rw [hcl]; exact e'⟩
        · obtain ⟨c, h1, _⟩ := look e
          exact ⟨c, h1⟩
      rcases hy with hy | hy
      · exact key _ hy (.inl rfl)
      · exact key _ hy (.inr rfl)
    · have z : (scope.names.lookup y == some NameKind.cell) = true := z
      have z : scope.names.lookup y = some .cell := by simpa using z
      have e : cenv.cells.lookup y = some c := e
      rw [hcl] at e
      rcases i9 (PySem.mem_of_lookup e) with hm | ⟨_, h2, _⟩
      · rcases iC hm with hm | ⟨h1, _⟩
        · cases hm
        · have q := ok.uniq _ h1
          rw [z] at q; cases q
      · rw [Heap.size_push] at h2
        exact Nat.le_of_succ_le h2
    · show b ≠ cenv.locals
      rw [hL]; exact Nat.ne_of_lt (hfp b hb).2
    · have e : cenv.cells.lookup y = some c := e
      rcases mem e with ⟨h1, _⟩ | ⟨h1, _⟩
      · exact (hfp b hb).1.2.2.2.2.1 y c h1 z
      · have h2 : s.heap.objs.size + 1 ≤ b := by rw [← z]; exact h1
        exact absurd (Nat.lt_of_lt_of_le (hfp b hb).2 (Nat.le_of_succ_le h2)) (Nat.lt_irrefl _)
    · rcases (hfp b hb).1.2.2.2.1 with z | z
      · exact I.ok.noex b o e z
      · exact absurd (Nat.lt_of_lt_of_le (Heap.lt_size e) (Nat.le_trans I.ok.bsz z)) (Nat.lt_irrefl _)
    · rcases List.mem_cons.mp (I.stkSub b z) with z | z
      · exact (hfp b hb).1.2.1 z
      · exact (hfp b hb).1.2.2.1 z
  refine ⟨okB, rfl, I.bare, Un.kept kp, ⟨fun _ => none, ?_, fun i y av e1 e2 e3 => ?_⟩, fun y c e => ?_, ?_, fun y c e => ?_, fun p hp => ?_, I.hok.kept kp, by rw [lV]; exact I.len⟩
  · show Heap.Ns _ cenv.locals _
    rw [hL]
    exact Heap.Ns.keeps (Heap.Ns.new ..) fun b o e => pushCells_keeps _ _ _ _ e
  · obtain ⟨e2, hne⟩ := sj e2
    have hfr : scope.names.lookup y = some .free ∧ (cenv.kindOf y = some .cell ∨ cenv.kindOf y = some .free) := by
      have key : ∀ k, cenv.scope.names.lookup y = some k → k = .local ∨ k = .cell ∨ k = .free → scope.names.lookup y = some .free ∧ (cenv.kindOf y = some .cell ∨ cenv.kindOf y = some .free) := fun k hk hk' => by
        have hk0 := hk
        rw [hsc] at hk
        obtain ⟨k', e, r⟩ := lU hk
        have no : ¬ (k' = .local ∨ k' = .cell) := fun hh => by
          rcases ok.own _ (PySem.mem_of_lookup e) hh with e' | e'
          · obtain ⟨p, hp, hpy⟩ := List.mem_map.mp e'
            have e3 := ok.ix p hp
            have : p.1 = y := hpy
            rw [this] at e3
            exact hne (List.mem_map.mpr ⟨p, hp, nodup_ix hN e3 e1⟩)
          · exact e' (List.mem_of_getElem? e1)
        rcases r with rfl | ⟨rfl, rfl⟩
        · rcases hk' with rfl | rfl | rfl
          · exact absurd (.inl rfl) no
          · exact absurd (.inr rfl) no
          · exact ⟨e, .inr hk0⟩
        · exact ⟨e, .inl hk0⟩
      have e3 : Vis cenv.scope y := e3
      rcases e3 with e3 | e3 | e3
      · exact key _ e3 (.inl rfl)
      · exact key _ e3 (.inr (.inl rfl))
      · exact key _ e3 (.inr (.inr rfl))
    obtain ⟨m, hn, hl⟩ := I.loc
    have hvis : Vis X.env.scope y := (ok.free _ (PySem.mem_of_lookup hfr.1) rfl).elim (fun k => .inr (.inl k)) (fun k => .inr (.inr k))
    obtain ⟨w, r, q⟩ := hl i y av e1 e2 hvis
    refine ⟨w, r, .inr ⟨hfr.2, ?_⟩⟩
    obtain ⟨c, h1, h2⟩ := look hfr.1
    rcases q with ⟨k, _⟩ | ⟨_, c', e', z⟩
    · have k : X.env.scope.names.lookup y = some .local := k
      rcases ok.free _ (PySem.mem_of_lookup hfr.1) rfl with k' | k' <;> rw [show X.env.scope.names.lookup y = _ from k'] at k <;> cases k
    · rw [h2] at e'; cases e'
      exact ⟨c, h1, z.keeps kp⟩
  · have e : cenv.cells.lookup y = some c := e
    rcases mem e with ⟨h1, _⟩ | ⟨_, z⟩
    · obtain ⟨w, z⟩ := I.cell y c h1
      exact ⟨w, z.keeps kp⟩
    · exact ⟨_, z⟩
  · show H cenv.locals = none
    rw [hL]; exact I.hok.fresh (Nat.le_refl _)
  · have e : cenv.cells.lookup y = some c := e
    rcases mem e with ⟨h1, _⟩ | ⟨h1, _⟩
    · exact I.oH y c h1
    · exact I.hok.fresh (Nat.le_of_succ_le h1)
  · exact absurd (show p ∈ ([] : List (Addr × Obj)) ++ [] from hp) (by simp)
theorem app_ok{E:Value→Shared→Prop}{D:Addr}{xs:List V}{y:V}{v:Value}{Q:Value→Shared→Prop}(I:Inv X pins σ H s)(hD:H D=some (.lst xs))(hz:xs.length<sizeLine)(r:RelV y v)
 (h:∀ s',Inv X pins σ (upd H D (.lst (xs++[y]))) s'→Q .none s'):wpAny (model X.prog X.w) X.A (call (.builtin "list.append") [.ref D,v]) Q E s:=by
 obtain⟨hz',its,n,ri,e⟩:=I.hok D _ hD
 have hl:=ri.length
 refine append_at (hsz:=by rw[List.size_toArray]; omega) e fun h' sb ho'=>?_
 refine h { s with heap:=h' } (I.write (t':=s.toks) (by rw[hD]; trivial) (.inl rfl) (fun b u hb q=>(sb.2 b hb).trans q) ⟨_,ho'⟩ ⟨by rw[List.length_append]; exact hz,its++[v],n+1,ri.append (.cons r .nil),?_⟩)
 rw[ho']
 simp
def PTs(X:Cx)(ifs:List Expr)(t:TT):Prop :=
 ∀ (pins:List (Addr×Obj)) (s:Shared) (σ:St) (H:Hp) (Q:Bool→Hp→Prop),Inv X pins σ H s→t σ H Q →
  wpAny (model X.prog X.w) X.A (forIn ifs true fun c r=>if r=true then do let ok ← isTrue c X.env (eval c X.env); pure (ForInStep.yield ok) else pure (ForInStep.yield r)) (TP X pins σ Q) X.xe s
def tYes:TT:=fun _ H Q=>Q true H
theorem pts_nil:PTs X [] tYes:=fun _ _ _ H _ I h=>wpAny_tests_nil ⟨H,I,h⟩
theorem pts_one{c:Expr}{t:TT}(h:PT X c t):PTs X [c] t:=fun pins s σ H Q I hw=>wpAny_tests_one (h pins s σ H Q I hw)
end
theorem thnF{α:Type}{t:Sem α}{Q Q':α→Shared→Prop}{M:Model}{A:Around}{E:Value→Shared→Prop}{s:Shared}(h:wpAny M A t Q (fun _ _=>False) s)(hQ:∀ a s,Q a s→Q' a s):wpAny M A t Q' E s:=wpAny_mono h hQ fun _ _ z=>False.elim z
theorem compLoop_any{prog:Program}{w:World}{A:Around}{R:Result→Shared→Prop}{s:Shared}{elt target iter:Expr}{ifs:List Expr}{scope:Scope}{pos:Pos}{it acc:Value}{env:Env}(I:Nat→Shared→Prop)
 (turn:∀ n s,I n s→wpAny (model prog w) A (pyNext it) (fun r s₁=>match r with
   | none=>R (.ok .next) s₁
   | some v=>wpAny (model prog w) A (letOwnedTupleGo target it v) (fun _ s₁'=>wpAny (model prog w) A (assign target env v) (fun _ s₂ =>
     wpAny (model prog w) A (forIn ifs true fun c r=>if r=true then do let ok ← isTrue c env (eval c env); pure (ForInStep.yield ok) else pure (ForInStep.yield r)) (fun ok s₃ =>
      if ok=true then wpAny (model prog w) A (eval elt env) (fun x s₄ =>
       wpAny (model prog w) A (call (.builtin "list.append") [acc,x]) (fun _ s₅=>∃ m,m<n∧I m s₅) (notedBy (model prog w) A env fun e s'=>R (.error e) s') s₄) (notedBy (model prog w) A env fun e s'=>R (.error e) s') s₃
      else ∃ m,m<n∧I m s₃) (notedBy (model prog w) A env fun e s'=>R (.error e) s') s₂) (notedBy (model prog w) A env fun e s'=>R (.error e) s') s₁') (notedBy (model prog w) A env fun e s'=>R (.error e) s') s₁) (notedBy (model prog w) A env fun e s'=>R (.error e) s') s)
 (n:Nat)(h:I n s) :
  codeAny (model prog w) A (.compLoop (.ListComp elt [⟨target,iter,ifs,0⟩] scope pos) 0 it acc env) R s:=by
 refine codeAny_loop rfl I (fun n s hI=>?_) n h
 show wpAny _ A ((compTurn (.ListComp elt [⟨target,iter,ifs,0⟩] scope pos) 0 it acc env).onRaise (fun x=>do noteFrame x env; theTreesLotGoes x)) _ _ s
 refine wpAny_noted ?_
 rw[compTurn_list]
 refine wpAny_bind (wpAny_standAt (wpAny_bind (wpAny_mono (turn n s hI) (fun r s₁ h₁=>?_) fun _ _ h'=>h')))
 cases r with
 | none=>exact wpAny_pure h₁
 | some v =>
  refine wpAny_bind (wpAny_mono h₁ (fun _ s₁' h₁'=>?_) fun _ _ h'=>h')
  refine wpAny_bind (wpAny_mono h₁' (fun _ s₂ h₂=>wpAny_bind (wpAny_mono h₂ (fun ok s₃ h₃=>?_) fun _ _ h'=>h')) fun _ _ h'=>h')
  cases ok with
  | false=>exact wpAny_pure ⟨rfl,h₃⟩
  | true =>
   exact wpAny_bind (wpAny_bind (wpAny_mono h₃ (fun x s₄ h₄=>wpAny_bind (wpAny_mono h₄ (fun _ s₅ h₅=>wpAny_pure (wpAny_pure ⟨rfl,h₅⟩)) fun _ _ h'=>h')) fun _ _ h'=>h'))
section
variable {X:Cx}
def tLc(wi:TI)(g:TG)(tt:TT)(te:TE)(vs:List Nat):TE:=fun σ H Q=>wi σ H fun J H1=>∀ D,H1 D=none→∃ W:Nat→Nat→Hp→Prop,(∃ m,W 0 m (upd H1 D (.lst [])))∧∀ i m H,W i m H →
 (J.stop i H∧Q (.ref D) H)∨(J.go i H∧∃ Nx:Hp→Prop,(∀ H',Nx H'→∃ m',m' < m∧W (i+1) m' H')∧∀ x H',J.yld i H x H'→g x (wipe σ vs) H' fun σ2 H2=>wipe σ2 vs=wipe σ vs∧tt σ2 H2 fun b H3 =>
  if b=true then te σ2 H3 fun y H4=>∃ acc,H4 D=some (.lst acc)∧acc.length<sizeLine∧Nx (upd H4 D (.lst (acc++[y]))) else Nx H3)
theorem lc_core{pins:List (Addr×Obj)}{s:Shared}{σ:St}{H:Hp}{Q:VK}{elt tg iter:Expr}{ifs:List Expr}{scope:Scope}{own:List (Str×Nat)}{pos pos':Pos}{wi:TI}{g:TG}{tt:TT}{te:TE}{use:Option (Value→Sem Unit)}{Qf:Value→Shared→Prop}
 (hc:X.calm=true)(hN:X.N.Nodup)(I:Inv X pins σ H s)(hi:PI X tg iter wi)(ok:BlkOk X.N X.env.scope scope own)
 (hg:∀ (s:Shared) (H:Hp) (C:Addr) (cl:List (Str×Addr)) (fp:List Addr),PG (X.blk s H scope (compEnvC scope cl C X.env) fp) tg g)(ht:∀ (s:Shared) (H:Hp) (C:Addr) (cl:List (Str×Addr)) (fp:List Addr),PTs (X.blk s H scope (compEnvC scope cl C X.env) fp) ifs tt)
 (he:∀ (s:Shared) (H:Hp) (C:Addr) (cl:List (Str×Addr)) (fp:List Addr),PE (X.blk s H scope (compEnvC scope cl C X.env) fp) elt te)(hs:∀ x,foldedSetIterable iter X.env x=pure x)
 (h:tLc wi g tt te (own.map (·.2)) σ H Q)
 (hRR:∀ D C s' m H',Inv X pins σ H' s'→Q (.ref D) H'→s'.heap.Ns C m→FpOk X pins H' C→compPost (model X.prog X.w) X.A X.xe use Qf (.ref D) C (.ok .next) s') :
  wpAny (model X.prog X.w) X.A (comprehension (.ListComp elt [⟨tg,iter,ifs,0⟩] scope pos) scope X.env pos' (newList []) false (eval iter X.env) use) Qf X.xe s:=by
 have hfree:∀ y∈scope.names,y.2 = .free→∃ c,X.env.cells.lookup y.1=some c:=fun y hy e=>by
  rcases ok.free y hy e with k | k
  ·exact I.ok.has _ (.inl k)
  ·exact I.ok.has _ (.inr k)
 refine wpAny_comprehension_free (use:=use) rfl hs (closure_ok hfree) ok.kind (fun y hy e=>by rw[ok.uniq y hy,e])
  (thn (hi pins s σ H _ I h) fun xv s1 hx=>thn hx fun itv s2 h2=>?_)
 obtain⟨it,fp,tn,J,H2,e,I2,T,st2,f2,q⟩:=h2
 subst e
 refine wpAny_newObj_type (newEnv_comp ?_) (by show 0≤sizeLine; decide)
 generalize hD:s2.heap.objs.size=D
 have hDn:H2 D=none:=I2.hok.fresh (Nat.le_of_eq hD)
 obtain⟨W,⟨m0,w0⟩,turn⟩:=q D hDn
 generalize hs3:({ s2 with heap:=s2.heap.push { cls:=.type "list",data:=.seq ([]:List Value).toArray } }:Shared)=s3
 have I3:Inv X pins σ (upd H2 D (.lst [])) s3:=by
  rw[← hs3]
  refine I2.laid (t':=s2.toks) (fun b o e=>Heap.get?_push_of_some _ e) (Nat.le_of_eq hD) ⟨Nat.zero_le _,[],0,.nil,?_⟩
  rw[← hD]
  exact Heap.get?_push_size _ rfl
 have h3:s3.heap=s2.heap.push { cls:=.type "list",data:=.seq ([]:List Value).toArray }:=by rw[← hs3]
 have sz:∀ b∈fp,b<s2.heap.objs.size:=fun b hb=>by
  obtain⟨o,e,_⟩:=T.obj _ _ st2 b hb
  exact Heap.lt_size e
 have f3:∀ b∈fp,FpOk X pins (upd H2 D (.lst [])) b∧b<s3.heap.objs.size:=fun b hb=>by
  have hlt:=sz b hb
  refine⟨⟨?_,(f2 b hb).2⟩,by rw[h3,Heap.size_push]; exact Nat.lt_succ_of_lt hlt⟩
  rw[ay (by rw[← hD]; exact Nat.ne_of_lt hlt)]
  exact(f2 b hb).1
 have st3:tn 0 s3.heap:=T.keep _ _ _ st2 fun b _ o e=>by rw[h3]; exact Heap.get?_push_of_some _ e
 have I4:=block_start I3 ok hN f3
 have pg:=hg s3 (upd H2 D (.lst [])) s3.heap.objs.size (cellsFrom (s3.heap.objs.size+1) scope.names (cF X.env.cells scope.names [])) fp
 have pt:=ht s3 (upd H2 D (.lst [])) s3.heap.objs.size (cellsFrom (s3.heap.objs.size+1) scope.names (cF X.env.cells scope.names [])) fp
 have pe:=he s3 (upd H2 D (.lst [])) s3.heap.objs.size (cellsFrom (s3.heap.objs.size+1) scope.names (cF X.env.cells scope.names [])) fp
 show codeAny _ _ (.compStart (.ListComp elt [⟨tg,iter,ifs,0⟩] scope pos) 0 (.ref it) (.ref D) (compEnvC scope (cellsFrom (s3.heap.objs.size+1) scope.names (cF X.env.cells scope.names [])) s3.heap.objs.size X.env)) (compPost (model X.prog X.w) X.A X.xe use Qf (.ref D) s3.heap.objs.size) { s3 with heap:=pushCells (s3.heap.push { cls:=.type "dict",data:=.dict #[] }) scope.names }
 have nfp:∀ b∈fp,(upd H2 D (.lst [])) b=none:=fun b hb=>(f3 b hb).1.1
 generalize hce:compEnvC scope (cellsFrom (s3.heap.objs.size+1) scope.names (cF X.env.cells scope.names [])) s3.heap.objs.size X.env=ce at I4 pg pt pe ⊢
 have cL:ce.locals=s3.heap.objs.size:=by subst hce; rfl
 generalize hH3:upd H2 D (.lst [])=H3 at I3 I4 pg pt pe w0 nfp f3
 generalize hs4:({ s3 with heap:=pushCells (s3.heap.push { cls:=.type "dict",data:=.dict #[] }) scope.names }:Shared)=s4 at I4 ⊢
 have st4:tn 0 s4.heap:=T.keep _ _ _ st3 fun b _ o e=>by rw[← hs4]; exact pushCells_keeps _ _ _ _ (Heap.get?_push_of_some _ e)
 have stat:∀ {σ':St} {H':Hp} {s':Shared},Inv (X.blk s3 H3 scope ce fp) [] σ' H' s'→(∀ b∈fp,H' b=none)→∀ b∈fp,FpOk (X.blk s3 H3 scope ce fp) [] H' b:=fun {σ' H' s'} I' hn b hb =>
  ⟨hn b hb,(I'.ok.exf b hb).1,I'.ok.exfs b hb,.inl hb,fun x c e=>(I'.ok.exf b hb).2 x c e,fun p hp=>absurd (show p∈([]:List (Addr×Obj))++[] from hp) (by simp)⟩
 have loop:codeAny (model X.prog X.w) X.A (.compLoop (.ListComp elt [⟨tg,iter,ifs,0⟩] scope pos) 0 (.ref it) (.ref D) ce) (compPost (model X.prog X.w) X.A X.xe use Qf (.ref D) s3.heap.objs.size) s4:=by
  refine compLoop_any (fun n s'=>∃ i H',Inv (X.blk s3 H3 scope ce fp) [] (wipe σ (own.map (·.2))) H' s'∧tn i s'.heap∧(∀ b∈fp,H' b=none)∧W i n H') ?_ m0 ⟨0,H3,I4,st4,nfp,w0⟩
  rintro n s5 ⟨i,H5,I5,st5,n5,w5⟩
  rcases turn i n H5 w5 with⟨stop,qq⟩ | ⟨go,Nx,hNx,step⟩
  ·have td:=T.done (X.blk s3 H3 scope ce fp) rfl rfl rfl hc i [] s5 _ H5 (fun _ _=>False) I5 (stat I5 n5) st5 stop
   refine thnF td fun r s6 ⟨hr,I6⟩=>?_
   subst hr
   have I7:Inv X pins σ H5 s6:=I3.call' (ch:=fp) I6.os I6.base I6.hok I6.bare fun b hb=>⟨(f3 b hb).1.2.2.2.1,(f3 b hb).1.2.1,(f3 b hb).1.2.2.2.2.1,(f3 b hb).1.2.2.2.2.2⟩
   have nC:H5 s3.heap.objs.size=none:=by
    have z:H5 ce.locals=none:=I6.free
    rw[cL] at z
    exact z
   obtain⟨m,hn,_⟩:=I6.loc
   have hn:s6.heap.Ns ce.locals m:=hn
   rw[cL] at hn
   exact hRR D s3.heap.objs.size s6 m H5 I7 qq hn (I3.fpOk (Nat.le_refl _) nC)
  ·have ti:=T.item (X.blk s3 H3 scope ce fp) rfl rfl rfl hc i [] s5 _ H5 (fun _ _=>False) I5 (stat I5 n5) st5 go
   refine thnF ti fun r s6 ⟨u,hr,h6⟩=>?_
   subst hr
   refine thnF h6 fun _ s7 ⟨x,H7,I7,r7,y7,st7,n7⟩=>?_
   have I7':=I7.pinned (stat I7 n7) (T.obj _ _ st7)
   refine thnF (pg _ s7 _ H7 x u _ I7' r7 (step x H7 y7)) fun _ s8 ⟨σ8,H8,I8,hw8,q8⟩=>?_
   refine thnF (pt _ s8 σ8 H8 _ I8 q8) fun b s9 ⟨H9,I9,q9⟩=>?_
   have fin:∀ {s':Shared} {H':Hp},Inv (X.blk s3 H3 scope ce fp) ([]++pinsAt fp s7.heap) σ8 H' s'→Nx H'→∃ m,m<n∧∃ i H',Inv (X.blk s3 H3 scope ce fp) [] (wipe σ (own.map (·.2))) H' s'∧tn i s'.heap∧(∀ b∈fp,H' b=none)∧W i m H':=fun {s' H'} I' nx=>by
    obtain⟨m',hm,w'⟩:=hNx H' nx
    have pin':∀ b∈fp,∀ o,s7.heap.get? b=some o→s'.heap.get? b=some o∧H' b=none:=fun b hb o e =>
     let z:=I'.pin (b,o) (List.mem_append_right _ (List.mem_append_right _ (oI hb e)))
     ⟨z.1,z.2.1⟩
    have hl:(wipe σ (own.map (·.2))).length=σ8.length:=by rw[← hw8,lV]
    refine⟨m',hm,i+1,H',(I'.qY (pins:=[])).weak hl (fun j v e=>?_),T.keep _ _ _ st7 fun b hb o e=>(pin' b hb o e).1,fun b hb=>?_,w'⟩
    ·rw[← hw8] at e
     exact(sj e).1
    ·obtain⟨o,e,_⟩:=T.obj _ _ st7 b hb
     exact(pin' b hb o e).2
   cases b with
   | false =>
    simp only[Bool.false_eq_true,if_false] at q9 ⊢
    exact fin I9 q9
   | true =>
    simp only[if_true] at q9 ⊢
    refine thnF (pe _ s9 σ8 H9 _ I9 q9) fun z s10 ⟨yv,H10,I10,r10,acc,hD10,hz10,nx⟩=>?_
    exact app_ok (X:=X.blk s3 H3 scope ce fp) I10 hD10 hz10 r10 fun s11 I11=>fin I11 nx
 exact codeAny_compStart_list loop (T.self X.A 0 _ _ _ st4 loop)
theorem pe_lc{elt tg iter:Expr}{ifs:List Expr}{scope:Scope}{own:List (Str×Nat)}{pos:Pos}{wi:TI}{g:TG}{tt:TT}{te:TE}(hc:X.calm=true)(hN:X.N.Nodup)(hi:PI X tg iter wi)(ok:BlkOk X.N X.env.scope scope own)
 (hg:∀ (s:Shared) (H:Hp) (C:Addr) (cl:List (Str×Addr)) (fp:List Addr),PG (X.blk s H scope (compEnvC scope cl C X.env) fp) tg g)(ht:∀ (s:Shared) (H:Hp) (C:Addr) (cl:List (Str×Addr)) (fp:List Addr),PTs (X.blk s H scope (compEnvC scope cl C X.env) fp) ifs tt)
 (he:∀ (s:Shared) (H:Hp) (C:Addr) (cl:List (Str×Addr)) (fp:List Addr),PE (X.blk s H scope (compEnvC scope cl C X.env) fp) elt te)(hs:∀ x,foldedSetIterable iter X.env x=pure x:=by intro _; rfl) :
  PE X (.ListComp elt [⟨tg,iter,ifs,0⟩] scope pos) (tLc wi g tt te (own.map (·.2))):=by
 intro pins s σ H Q I h
 rw[eval_ListComp]
 refine lc_core hc hN I hi ok hg ht he hs h fun D C s' m H' I' q hn f=>⟨m,hn,fun h'' sb=>?_⟩
 obtain⟨f0,f1,f2,f3,f4,f5⟩:=f
 exact⟨.ref D,H',I'.turned (t':=s'.toks) (fun b o hb e=>(sb.2 b hb).trans e) f0 f1 f3 f4 f5,rfl,q⟩
end
theorem lc_list {K : PySem.W.Frag} {a : Addr} {xs : List V} {g : TG} {tt : TT} {te : TE} {vs : List Nat} {σ : St} {H1 : Hp} {D : Addr} {Qd : Hp → Prop} (Pv : Nat → Hp → Prop) (h0 : Pv 0 (upd H1 D (.lst []))) (hl : ∀ i H, i ≤ xs.length → Pv i H → SqL K H a xs)
    (hs : ∀ i x H, xs[i]? = some x → Pv i H → g x (wipe σ vs) H fun σ2 H2 => wipe σ2 vs = wipe σ vs ∧ tt σ2 H2 fun b H3 =>
      if b = true then te σ2 H3 fun y H4 => ∃ acc, H4 D = some (.lst acc) ∧ acc.length < sizeLine ∧ Pv (i + 1) (upd H4 D (.lst (acc ++ [y]))) else Pv (i + 1) H3) (hd : ∀ H, Pv xs.length H → Qd H) :
    ∃ W : Nat → Nat → Hp → Prop, (∃ m, W 0 m (upd H1 D (.lst []))) ∧ ∀ i m H, W i m H →
      ((Itl K a).stop i H ∧ Qd H) ∨ ((Itl K a).go i H ∧ ∃ Nx : Hp → Prop, (∀ H', Nx H' → ∃ m', m' < m ∧ W (i + 1) m' H') ∧ ∀ x H', (Itl K a).yld i H x H' → g x (wipe σ vs) H' fun σ2 H2 => wipe σ2 vs = wipe σ vs ∧ tt σ2 H2 fun b H3 =>
        if b = true then te σ2 H3 fun y H4 => ∃ acc, H4 D = some (.lst acc) ∧ acc.length < sizeLine ∧ Nx (upd H4 D (.lst (acc ++ [y]))) else Nx H3) := by
  refine ⟨fun i m H => m = xs.length - i ∧ i ≤ xs.length ∧ Pv i H, ⟨xs.length, by simp, Nat.zero_le _, h0⟩, ?_⟩
  rintro i m H ⟨rfl, hi, p⟩
  have q := hl i H hi p
  by_cases hlt : i < xs.length
  · refine .inr ⟨⟨xs, xs[i], q, by simp [hlt]⟩, Pv (i + 1), fun H' p' => ⟨xs.length - (i + 1), by omega, rfl, hlt, p'⟩, fun x H' y => ?_⟩
    obtain ⟨e, y⟩ := y
    subst e
    exact hs i x _ (y xs q) p
  · have e : i = xs.length := by omega
    subst e
    exact .inl ⟨⟨xs, q, Nat.le_refl _⟩, hd H p⟩
def blkC(N:List Str)(sc scope:Scope)(own:List (Str×Nat)):Bool :=
 (match scope.kind with | .function=>true | _=>false)&&(scope.names.all fun y=>decide (scope.names.lookup y.1=some y.2))&&(own.all fun p=>decide (N[p.2]? = some p.1)) &&
  (scope.names.all fun y=>match y.2 with
   | .free=>(match sc.names.lookup y.1 with | some .cell=>true | some .free=>true | _=>false)
   | .local=>decide (y.1∈own.map (·.1)) || decide (y.1∉N)
   | .cell=>decide (y.1∈own.map (·.1)) || decide (y.1∉N)
   | _=>true)
theorem ik{N:List Str}{sc scope:Scope}{own:List (Str×Nat)}(h:blkC N sc scope own=true):BlkOk N sc scope own:=by
 unfold blkC at h
 simp only[Bool.and_eq_true,List.all_eq_true,decide_eq_true_eq] at h
 obtain⟨⟨⟨h1,h2⟩,h3⟩,h4⟩:=h
 refine⟨?_,h2,h3,fun y hy e=>?_,fun y hy e=>?_⟩
 ·split at h1
  ·assumption
  ·cases h1
 ·have q:=h4 y hy
  simp only[e] at q
  split at q<;>first | exact .inl (by assumption) | exact .inr (by assumption) | cases q
 ·have q:=h4 y hy
  rcases e with e | e<;>(simp only[e,Bool.or_eq_true,decide_eq_true_eq] at q; exact q)
end L2
namespace L2
open PySem PySem.Spec PyProof.Rows
section
variable {prog:Program}{w:World}{A:Around}{R:Result→Shared→Prop}{s:Shared}{elt t0 i0 t1 i1:Expr}{ifs0 ifs1:List Expr}{scope:Scope}{pos:Pos}{it acc:Value}{env:Env}
end
section
variable {X:Cx}
end
end L2
namespace L2
open PySem PySem.Spec PyProof.Rows
section
variable {κ:Type}[DecidableEq κ]
end
section
variable {P:Program}{w:World}{H:Hp}{h:Heap}{a:Addr}
end
section
variable {X:Cx}{pins:List (Addr×Obj)}{σ:St}{H:Hp}{s:Shared}{a:Addr}{y v:V}{u r:Value}{o:Option V}{A:Around}{E:Value→Shared→Prop}
end
section
variable {X:Cx}{pins:List (Addr×Obj)}{σ:St}{H:Hp}{s:Shared}{a:Addr}{kvs:List (Key×V)}{k:Key}{u:Value}{A:Around}{E:Value→Shared→Prop}
end
section
variable {X:Cx}{o i e value:Expr}{pos pos' tpos:Pos}{td ty tv:TE}
end
section
variable {X:Cx}{pos:Pos}
end
section
variable {X:Cx}{pins:List (Addr×Obj)}{σ:St}{H:Hp}{s:Shared}{a:Addr}{y d:V}{u r:Value}{o:Option V}{A:Around}{E:Value→Shared→Prop}
end
section
variable {X:Cx}{o e f:Expr}{apos cpos:Pos}{td ty tx:TE}
end
section
variable {X:Cx}{pins:List (Addr×Obj)}{σ:St}{H:Hp}{s:Shared}{a:Addr}{kvs:List (Key×V)}{A:Around}{E:Value→Shared→Prop}
end
section
variable {X:Cx}{pins:List (Addr×Obj)}{σ:St}{H:Hp}{s:Shared}{a:Addr}{y:V}{u:Value}{A:Around}{E:Value→Shared→Prop}
end
end L2
namespace L2
open PySem PySem.Spec PyProof.Rows
section
variable {prog:Program}{w:World}{A:Around}{E:Value→Shared→Prop}
end
section
variable {X:Cx}
end
end L2
namespace L2
open PySem PySem.Spec PyProof.Rows
section
variable {X:Cx}{pins:List (Addr×Obj)}{σ:St}{H:Hp}{s:Shared}{h':Heap}
theorem Inv.turnedL{t':Nat}{ch:List Addr}(I:Inv X pins σ H s)(k:∀ b o,b∉ch→s.heap.get? b=some o→h'.get? b=some o)(hf:∀ b∈ch,FpOk X pins H b):Inv X pins σ H { s with heap:=h',toks:=t' }:=by
 have nit:∀ b u,H b=some u→b∉ch:=fun b u e z=>by
  have q:=(hf b z).1
  rw[q] at e; cases e
 refine I.step (g':=s.gens) (d':=s.drawn) (ch:=ch) (fun b hb=>⟨(hf b hb).2.2.2.1,(hf b hb).2.1,(hf b hb).2.2.2.2.1,(hf b hb).2.2.2.2.2⟩) (fun b o _ _ hc e _=>k b o hc e) (fun b o _ _ hc e _=>⟨o.slots,k b o hc e⟩)
  (fun _ _ _ _ n=>n) (fun b o hc e=>⟨o,k b o hc e⟩) (fun _ _ e=>e) (fun _ _ _ e=>e) (fun b ps e=>⟨#[],by rw[e]; simp⟩) (fun m hm=>?_) (fun b u e=>?_) I.bare
 ·obtain⟨o,es,ep,ho,r⟩:=hm
  exact⟨o,es,ep,k _ o (fun z=>(hf _ z).2.1 rfl) ho,r⟩
 ·refine(I.hok b u e).stay (fun c v hc q=>k c v ?_ q) (fun _ q=>q) fun _ _ q=>q
  rcases hc with z | z
  ·rw[z]; exact nit b u e
  ·exact nit c _ z
theorem Inv.sm{t':Nat}{ch:List Addr}{T:Addr}{ob:HO}(I:Inv X pins σ H s)(k:∀ b o,b∉ch→s.heap.get? b=some o→h'.get? b=some o)(hf:∀ b∈ch,FpOk X pins H b)(hT:s.heap.objs.size≤T)
 (new:gr X.prog X.w (upd H T ob) h' T ob):Inv X pins σ (upd H T ob) { s with heap:=h',toks:=t' }:=by
 have hn:H T=none:=I.hok.fresh hT
 have nit:∀ b u,H b=some u→b∉ch:=fun b u e z=>by
  have q:=(hf b z).1
  rw[q] at e; cases e
 refine I.step (g':=s.gens) (d':=s.drawn) (ch:=ch) (fun b hb=>⟨(hf b hb).2.2.2.1,(hf b hb).2.1,(hf b hb).2.2.2.2.1,(hf b hb).2.2.2.2.2⟩) (fun b o _ _ hc e _=>k b o hc e) (fun b o _ _ hc e _=>⟨o.slots,k b o hc e⟩)
  (fun b o _ e n=>?_) (fun b o hc e=>⟨o,k b o hc e⟩) (fun b xs e=>?_) (fun b o u e=>?_) (fun b ps e=>⟨#[],?_⟩) (fun m hm=>?_) (fun b u e=>?_) I.bare
 ·rw[ay (Nat.ne_of_lt (Nat.lt_of_lt_of_le (Heap.lt_size e) hT))]; exact n
 ·rw[ay (aC e hn)]; exact e
 ·rw[ay (aC e hn)]; exact e
 ·rw[ay (aC e hn),e]; simp
 ·obtain⟨o,es,ep,ho,r⟩:=hm
  exact⟨o,es,ep,k _ o (fun z=>(hf _ z).2.1 rfl) ho,r⟩
 ·by_cases hb:b=T
  ·subst hb
   rw[ai] at e
   cases e
   exact new
  ·rw[ay hb] at e
   refine(I.hok b u e).stay (fun c v hc q=>k c v ?_ q) (fun c q=>by rw[ay (aC q hn)]; exact q) fun c xs q=>by rw[ay (aC q hn)]; exact q
   rcases hc with z | z
   ·rw[z]; exact nit b u e
   ·exact nit c _ z
end
section
variable {X:Cx}
theorem pi_one{tg:Expr}{pins:List (Addr×Obj)}{σ:St}{H:Hp}{s:Shared}{R:It→Hp→Prop}{J:It}{tn:Nat→Heap→Prop}{tk:Nat}(I:Inv X pins σ H s)(o:Obj)
 (T:Turn X.prog X.w X.K tg J [s.heap.objs.size] s.heap.objs.size tn)(st:tn 0 (s.heap.push o))(q:R J H):PIE X pins σ tg R (.ref s.heap.objs.size) { s with heap:=s.heap.push o,toks:=tk }:=by
 refine⟨s.heap.objs.size,[s.heap.objs.size],tn,J,H,rfl,I.kept fun b ob e=>Heap.get?_push_of_some _ e,T,st,fun b hb=>?_,q⟩
 have e:b=s.heap.objs.size:=by simpa using hb
 subst e
 exact I.fpOk (Nat.le_refl _) (I.hok.fresh (Nat.le_refl _))
end
def Itc(lo c:Int)(n:Nat):It:=⟨fun i _=>i<n,fun i H x H'=>H' = H∧x = .int (lo+(i:Nat)*c),fun i _=>n≤i⟩
theorem turn_rangeC{P:Program}{w:World}{K:PySem.W.Frag}{tg:Expr}(it:Addr)(lo c:Int)(n:Nat):Turn P w K tg (Itc lo c n) [it] it (fun i h=>IsRangeIter h it (lo+(i:Nat)*c) ((n:Int)-(i:Nat)) c) where
 mem:=by simp
 obj:=fun i h st b hb=>by
  have e:b=it:=by simpa using hb
  subst e
  exact⟨_,st,fun v z=>nomatch z⟩
 keep:=fun i h h' st k=>k it (by simp) _ st
 item:=by
  intro X hP hw hK hc i pins s σ H E I hf st hg
  subst hP hw hK
  obtain⟨f0,f1,f2,f3,f4,f5⟩:=hf it (by simp)
  have W:=Walks.range (prog:=X.prog) (w:=X.w) (I.ok.hd hc) it lo c n
  refine W.item i s _ _ hg st fun v h' tk hv st' kk=>?_
  obtain⟨t,rfl⟩:=hv
  have I1:Inv X pins σ H { s with heap:=h',toks:=tk }:=I.turned (fun b o hb e=>kk b o (by simpa using hb) e) f0 f1 f3 f4 f5
  exact⟨_,rfl,go_of (s:={ s with heap:=h',toks:=tk }) (n := "range_iterator") st' rfl rfl (by decide) ⟨.int (lo+(i:Nat)*c),H,I1,⟨t,rfl⟩,⟨rfl,rfl⟩,st',fun b hb=>(hf b hb).1⟩⟩
 done:=by
  intro X hP hw hK hc i pins s σ H E I hf st hg
  subst hP hw hK
  obtain⟨f0,f1,f2,f3,f4,f5⟩:=hf it (by simp)
  exact wpAny_pyNext_range_end (I.ok.hd hc) st (by have:n≤i:=hg; omega) fun h' eb=>⟨rfl,I.turned (t':=s.toks) (fun b o hb e=>eb b o hb e) f0 f1 f3 f4 f5⟩
 self:=fun A i s Q E st h=>wpAny_pyIter_rangeiter st h
def RgC(i j c:Int)(n:Nat):Prop:=c≠0∧c.natAbs<1073741824∧Builtin.Range.small i j c=true∧Builtin.Range.rangeSize i j c=n
def iRng3(ta:TA):TI:=fun σ H R=>ta σ H fun vs H1=>∃ (i j c:Int) (n:Nat),vs=[.int i,.int j,.int c]∧RgC i j c n∧R (Itc i c n) H1
section
variable {X:Cx}{tg:Expr}
theorem pi_range3{a b c:Expr}{ta:TA}{p pos:Pos}(hg:Gl X "range")(hm:X.mg "range" = none)(ha:PA X [a,b,c] ta)
 (hs:starEach [a,b,c] X.env=(false,eval a X.env)::starEach [b,c] X.env:=by rfl)(hpl:(backTo pos (starEach [b,c] X.env)).any (·.1)=false:=by rfl) :
  PI X tg (.Call (.Name "range" p) [a,b,c] [] pos) (iRng3 ta):=by
 intro pins s σ H R I h
 refine Call_ (ld_blt I hg hm boot_range (PyProof.Rows.callWith_type1 (thn (ha pos pins s σ H _ I h) fun us s1 ⟨vs,H1,I1,r1,q1⟩=>?_) hs hpl))
 obtain⟨i,j,k,n,e,⟨c0,c1,c2,c3⟩,q⟩:=q1
 subst e
 cases r1 with
 | cons r rr =>
  cases rr with
  | cons r' rr =>
   cases rr with
   | cons r'' rr =>
    cases rr
    obtain⟨t,rfl⟩:=r
    obtain⟨t',rfl⟩:=r'
    obtain⟨t'',rfl⟩:=r''
    refine call_range_3 c0 ?_ (.inl (PyProof.noPylong_small c1))
    refine wpAny_pyIter_range (IsRange.new ..) c2 ?_
    have I2:Inv X pins σ H1 { s1 with heap:=s1.heap.push { cls:=.type "range",data:=.fields #[.int i t,.int j t',.int k t''] } }:=I1.kept (t':=s1.toks) fun b o e=>Heap.get?_push_of_some _ e
    refine pi_one (tk:=s1.toks) I2 _ (turn_rangeC _ i k n) ?_ q
    have e1:i+((0:Nat):Int)*k=i:=by simp
    have e2:(n:Int)-((0:Nat):Int)=Builtin.Range.rangeSize i j k:=by rw[c3]; simp
    show IsRangeIter _ _ (i+((0:Nat):Int)*k) ((n:Int)-((0:Nat):Int)) k
    rw[e1,e2]
    exact Heap.get?_push_size _ rfl
end
section
variable {X:Cx}{tg:Expr}
end
def Its(x:Str):It:=⟨fun i _=>i<x.cps.size,fun i H v H'=>H' = H∧∃ c,x.cps[i]? = some c∧v = .str ⟨#[c]⟩,fun i _=>x.cps.size≤i⟩
theorem turn_str{P:Program}{w:World}{K:PySem.W.Frag}{tg:Expr}(it:Addr)(x:Str)(t:Tok)(ty:String)(hty:ty = "str_ascii_iterator" ∨ ty = "str_iterator") :
  Turn P w K tg (Its x) [it] it (fun i h=>h.IsStrIter it ty x t i) where
 mem:=by simp
 obj:=fun i h st b hb=>by
  have e:b=it:=by simpa using hb
  subst e
  obtain⟨o,e,c,d⟩:=st
  exact⟨o,e,fun v z=>by rw[d] at z; cases z⟩
 keep:=fun i h h' st k=>let ⟨o,ho,r⟩:=st; ⟨o,k it (by simp) o ho,r⟩
 item:=by
  intro X hP hw hK hc i pins s σ H E I hf st hg
  subst hP hw hK
  obtain⟨f0,f1,f2,f3,f4,f5⟩:=hf it (by simp)
  have W:Walks X.prog X.w X.A it [it] [it] x.cps.size (SignAt x) (fun i h=>h.IsStrIter it ty x t i):=by
   rcases hty with e | e
   ·rw[e]; exact Walks.strAscii (I.ok.hd hc) it x t
   ·rw[e]; exact Walks.strWide (I.ok.hd hc) it x t
  have hno:["enumerate", "zip", "dict_itemiterator", "dict_reverseitemiterator", "odict_iterator", "itertools.zip_longest", "itertools.pairwise"].contains ty=false:=by
   rcases hty with e | e
   ·rw[e]; decide
   ·rw[e]; decide
  refine W.item i s _ _ hg st fun v h' tk hv st' kk=>?_
  obtain⟨c,u,hcx,rfl⟩:=hv
  have I1:Inv X pins σ H { s with heap:=h',toks:=tk }:=I.turned (fun b o hb e=>kk b o (by simpa using hb) e) f0 f1 f3 f4 f5
  obtain⟨oi,e,cc,dd⟩:=id st'
  exact⟨_,rfl,go_of (s:={ s with heap:=h',toks:=tk }) e cc dd hno ⟨.str ⟨#[c]⟩,H,I1,⟨u,rfl⟩,⟨rfl,c,hcx,rfl⟩,st',fun b hb=>(hf b hb).1⟩⟩
 done:=by
  intro X hP hw hK hc i pins s σ H E I hf st hg
  subst hP hw hK
  obtain⟨f0,f1,f2,f3,f4,f5⟩:=hf it (by simp)
  have hx:x.cps[i]? = none:=Array.getElem?_eq_none hg
  rcases hty with e | e
  ·rw[e] at st
   exact wpAny_pyNext_ascii_end (I.ok.hd hc) st hx fun h' eb=>⟨rfl,I.turned (t':=s.toks) (fun b o hb e=>eb b o hb e) f0 f1 f3 f4 f5⟩
  ·rw[e] at st
   exact wpAny_pyNext_wide_end (I.ok.hd hc) st hx fun h' eb=>⟨rfl,I.turned (t':=s.toks) (fun b o hb e=>eb b o hb e) f0 f1 f3 f4 f5⟩
 self:=fun A i s Q E st h=>by
  rcases hty with e | e
  ·rw[e] at st; exact wpAny_pyIter_striter_ascii st h
  ·rw[e] at st; exact wpAny_pyIter_striter_wide st h
def iStr(te:TE):TI:=fun σ H R=>te σ H fun v H1=>∃ x,v = .str x∧R (Its x) H1
theorem pi_str{X:Cx}{tg e:Expr}{te:TE}(he:PE X e te):PI X tg e (iStr te):=by
 intro pins s σ H R I h
 refine thn (he pins s σ H _ I h) fun v s1 ⟨y,H1,I1,r1,x,ex,q⟩=>?_
 subst ex
 obtain⟨t,rfl⟩:=r1
 cases ha:x.cps.all (· < 128)
 ·exact wpAny_pyIter_wide ha (pi_one (tk:=s1.toks) I1 _ (turn_str _ x t "str_iterator" (.inr rfl)) ⟨_,Heap.get?_push_size _ rfl,rfl,rfl⟩ q)
 ·exact wpAny_pyIter_ascii ha (pi_one (tk:=s1.toks) I1 _ (turn_str _ x t "str_ascii_iterator" (.inl rfl)) ⟨_,Heap.get?_push_size _ rfl,rfl,rfl⟩ q)
section
variable {prog:Program}{w:World}{A:Around}{E:Value→Shared→Prop}{s:Shared}
end
section
variable {X:Cx}{pins:List (Addr×Obj)}{σ:St}{H:Hp}{s:Shared}{d:Addr}{o:Obj}
end
section
variable {P:Program}{w:World}{K:PySem.W.Frag}{tg:Expr}{d:Addr}{o:Obj}{es:Array DictEntry}{ep:Nat}
end
section
variable {X:Cx}{tg e:Expr}{td:TE}{apos cpos:Pos}
end
def Ite(K:PySem.W.Frag)(a:Addr):It :=
 ⟨fun i H=>∃ (xs:List V) (x:V),SqL K H a xs∧xs[i]? = some x,fun i H v H'=>∃ T x,v = .ref T∧H T=none∧H' = upd H T (.tup [.int (i:Nat),x])∧∀ xs,SqL K H a xs→xs[i]? = some x,fun i H=>∃ xs:List V,SqL K H a xs∧xs.length≤i⟩
theorem turn_enum{P:Program}{w:World}{K:PySem.W.Frag}{elts:List Expr}{kk:Nat}{tpos:Pos}(a e it:Addr) :
  Turn P w K (.Tuple elts kk tpos) (Ite K a) [e,it] e (fun i h=>(∃ old,IsEnum h e it ((i:Nat):Int) old)∧h.IsListIter it a i∧e≠it) where
 mem:=by simp
 obj:=fun i h st b hb=>by
  obtain⟨⟨old,he⟩,⟨o,ho,hc,hd⟩,_⟩:=st
  have e':b=e∨b=it:=by simpa using hb
  rcases e' with z | z
  ·rw[z]; exact⟨_,he,fun v q=>nomatch q⟩
  ·rw[z]; exact⟨o,ho,fun v q=>by rw[hd] at q; cases q⟩
 keep:=fun i h h' st k=>let ⟨⟨old,he⟩,hi,hne⟩:=st; ⟨⟨old,k e (by simp) _ he⟩,hi.at fun o q=>k it (by simp) o q,hne⟩
 item:=by
  intro X hP hw hK hc i pins s σ H E I hf st hg
  subst hP hw hK
  obtain⟨⟨old,he⟩,hit,hne⟩:=st
  obtain⟨xs,x,hq,hx⟩:=hg
  obtain⟨its,rv,p,hz⟩:=I.list hq
  obtain⟨u,hu,ru⟩:=rv.get hx
  have hel:e<s.heap.objs.size:=Heap.lt_size he
  have hil:it<s.heap.objs.size:=by obtain⟨_,q,_⟩:=hit; exact Heap.lt_size q
  refine wpAny_pyNext_enum_item he hit p.isList (x:=u) (by simpa using hu) hne fun h' ho hit' hT hsz hk=>?_
  refine⟨_,rfl,wpAny_letOwnedTupleGo_enum (s:={ s with heap:=h',toks:=s.toks+1 }) ho fun h'' he' sb=>?_⟩
  have hT2:h''.get? s.heap.objs.size=some { cls:=.type "tuple",data:=.seq #[.int i s.toks,u] }:=(sb.2 _ (Nat.ne_of_gt hel)).trans hT
  have new:gr X.prog X.w (upd H s.heap.objs.size (.tup [.int (i:Nat),x])) h'' s.heap.objs.size (.tup [.int (i:Nat),x]) :=
   ⟨by show 2≤sizeLine; decide,[.int i s.toks,u],.cons ⟨_,rfl⟩ (.cons ru .nil),⟨_,hT2,rfl,_,rfl⟩⟩
  have I1:Inv X pins σ (upd H s.heap.objs.size (.tup [.int (i:Nat),x])) { s with heap:=h'',toks:=s.toks+1 } :=
   I.sm (ch:=[e,it]) (fun b ob hb q=>(sb.2 b (fun z=>hb (by simp[z]))).trans (hk b ob (fun z=>hb (by simp[z])) (fun z=>hb (by simp[z])) q)) hf (Nat.le_refl _) new
  refine⟨.ref s.heap.objs.size,_,I1,rfl,⟨_,x,rfl,I.hok.fresh (Nat.le_refl _),rfl,fun ys hy=>by rw[I.mx hy hq]; exact hx⟩,⟨⟨u,?_⟩,hit'.at fun o q=>(sb.2 it (Ne.symm hne)).trans q,hne⟩,fun b hb=>?_⟩
  ·have e1:((i+1:Nat):Int)=(i:Int)+1:=by omega
   rw[e1]; exact he'
  ·have hb':b<s.heap.objs.size:=by
    have e':b=e∨b=it:=by simpa using hb
    rcases e' with z | z
    ·rw[z]; exact hel
    ·rw[z]; exact hil
   rw[ay (Nat.ne_of_lt hb')]
   exact(hf b hb).1
 done:=by
  intro X hP hw hK hc i pins s σ H E I hf st hg
  subst hP hw hK
  obtain⟨⟨old,he⟩,hit,hne⟩:=st
  obtain⟨xs,hq,hx⟩:=hg
  obtain⟨its,rv,p,hz⟩:=I.list hq
  obtain⟨f0,f1,f2,f3,f4,f5⟩:=hf it (by simp)
  have hl:=rv.length
  exact wpAny_pyNext_enum_end (I.ok.hd hc) he hit p.isList (by simp; omega) fun h' eb=>⟨rfl,I.turned (t':=s.toks) (fun b o hb q=>eb b o hb q) f0 f1 f3 f4 f5⟩
 self:=fun A i s Q E st h=>let ⟨⟨_,he⟩,_⟩:=st; wpAny_pyIter_enum he h
def iEnum(K:PySem.W.Frag)(ta:TA):TI:=fun σ H R=>ta σ H fun vs H1=>∃ a xs,vs=[.ref a]∧SqL K H1 a xs∧R (Ite K a) H1
theorem pi_enum{X:Cx}{e:Expr}{ta:TA}{p pos tpos:Pos}{elts:List Expr}{kk:Nat}(hg:Gl X "enumerate")(hm:X.mg "enumerate" = none)(ha:PA X [e] ta)(hs:starEach [e] X.env=[(false,eval e X.env)]:=by rfl) :
  PI X (.Tuple elts kk tpos) (.Call (.Name "enumerate" p) [e] [] pos) (iEnum X.K ta):=by
 intro pins s σ H R I h
 refine Call_ (ld_blt I hg hm boot_enumerate (PyProof.Rows.callWith_type1 (thn (ha pos pins s σ H _ I h) fun us s1 ⟨vs,H1,I1,r1,q1⟩=>?_) hs rfl))
 obtain⟨a,xs,ex,hq,q⟩:=q1
 subst ex
 cases r1 with
 | cons r rr =>
  cases rr
  cases r
  obtain⟨its,rv,p',hz⟩:=I1.list hq
  refine call_enumerate_list p'.isList fun h' he hit hsz hk=>wpAny_pyIter_enum he ?_
  have I2:Inv X pins σ H1 { s1 with heap:=h' }:=I1.kept (t':=s1.toks) hk
  refine⟨s1.heap.objs.size+1,[s1.heap.objs.size+1,s1.heap.objs.size],_,_,H1,rfl,I2,turn_enum a (s1.heap.objs.size+1) s1.heap.objs.size,⟨⟨.none,he⟩,hit,Nat.succ_ne_self _⟩,fun b hb=>?_,q⟩
  have e':b=s1.heap.objs.size+1∨b=s1.heap.objs.size:=by simpa using hb
  have hle:s1.heap.objs.size≤b:=by
   rcases e' with z | z
   ·rw[z]; exact Nat.le_add_right _ _
   ·rw[z]; exact Nat.le_refl _
  exact I1.fpOk hle (I1.hok.fresh hle)
theorem boot_zip5:bootBuiltins "zip" = some (.type "zip"):=by decide +kernel
def Itz(K:PySem.W.Frag)(a b:Addr):It :=
 ⟨fun i H=>∃ (xs ys:List V) (x y:V),SqL K H a xs∧SqL K H b ys∧xs[i]? = some x∧ys[i]? = some y,
  fun i H v H'=>∃ T x y,v = .ref T∧H T=none∧H' = upd H T (.tup [x,y])∧(∀ xs,SqL K H a xs→xs[i]? = some x)∧∀ ys,SqL K H b ys→ys[i]? = some y,
  fun i H=>∃ xs ys:List V,SqL K H a xs∧SqL K H b ys∧(xs.length≤i∨ys.length≤i)⟩
theorem turn_zip{P:Program}{w:World}{K:PySem.W.Frag}{elts:List Expr}{kk:Nat}{tpos:Pos}{a b z TI TO i1 i2:Addr}(D:ZipApart z TI TO i1 i2 a b) :
  Turn P w K (.Tuple elts kk tpos) (Itz K a b) [z,TI,TO,i1,i2] z (fun i h=>IsZip h z TI TO .none∧IsPair h TI (.ref i1) (.ref i2)∧(∃ x y,IsPair h TO x y)∧h.IsListIter i1 a i∧h.IsListIter i2 b i) where
 mem:=by simp
 obj:=fun i h st c hc=>by
  obtain⟨hz,hTI,⟨x,y,hTO⟩,⟨o1,e1,_,d1⟩,⟨o2,e2,_,d2⟩⟩:=st
  have e':c=z∨c=TI∨c=TO∨c=i1∨c=i2:=by simpa using hc
  rcases e' with q | q | q | q | q
  ·rw[q]; exact⟨_,hz,fun v q=>nomatch q⟩
  ·rw[q]; exact⟨_,hTI,fun v q=>nomatch q⟩
  ·rw[q]; exact⟨_,hTO,fun v q=>nomatch q⟩
  ·rw[q]; exact⟨o1,e1,fun v q=>by rw[d1] at q; cases q⟩
  ·rw[q]; exact⟨o2,e2,fun v q=>by rw[d2] at q; cases q⟩
 keep:=fun i h h' st k=>by
  obtain⟨hz,hTI,⟨x,y,hTO⟩,h1,h2⟩:=st
  exact⟨k z (by simp) _ hz,k TI (by simp) _ hTI,⟨x,y,k TO (by simp) _ hTO⟩,h1.at fun o q=>k i1 (by simp) o q,h2.at fun o q=>k i2 (by simp) o q⟩
 item:=by
  intro X hP hw hK hc i pins s σ H E I hf st hg
  subst hP hw hK
  obtain⟨hz,hTI,⟨x0,y0,hTO⟩,h1,h2⟩:=st
  obtain⟨xs,ys,x,y,hqx,hqy,hx,hy⟩:=hg
  obtain⟨its,rv,p,_⟩:=I.list hqx
  obtain⟨its2,rv2,p2,_⟩:=I.list hqy
  obtain⟨u,hu,ru⟩:=rv.get hx
  obtain⟨u2,hu2,ru2⟩:=rv2.get hy
  have hzl:z<s.heap.objs.size:=Heap.lt_size hz
  refine wpAny_pyNext_zip_item D hz hTI hTO h1 h2 p.isList p2.isList (x:=u) (y:=u2) (by simpa using hu) (by simpa using hu2) fun h' z' TO' h1' h2' hT hsz hk=>?_
  refine⟨_,rfl,wpAny_letOwnedTupleGo_zip (s:={ s with heap:=h' }) z' fun h'' z'' sb=>?_⟩
  have hT2:h''.get? s.heap.objs.size=some { cls:=.type "tuple",data:=.seq #[u,u2] }:=(sb.2 _ (Nat.ne_of_gt hzl)).trans hT
  have new:gr X.prog X.w (upd H s.heap.objs.size (.tup [x,y])) h'' s.heap.objs.size (.tup [x,y]) :=
   ⟨by show 2≤sizeLine; decide,[u,u2],.cons ru (.cons ru2 .nil),⟨_,hT2,rfl,_,rfl⟩⟩
  have I1:Inv X pins σ (upd H s.heap.objs.size (.tup [x,y])) { s with heap:=h'' } :=
   I.sm (t':=s.toks) (ch:=[z,TI,TO,i1,i2]) (fun c o hb q=>(sb.2 c (fun q'=>hb (by simp[q']))).trans (hk c o (fun q'=>hb (by simp[q'])) (fun q'=>hb (by simp[q'])) (fun q'=>hb (by simp[q'])) (fun q'=>hb (by simp[q'])) q)) hf (Nat.le_refl _) new
  refine⟨.ref s.heap.objs.size,_,I1,rfl,⟨_,x,y,rfl,I.hok.fresh (Nat.le_refl _),rfl,fun l hl=>by rw[I.mx hl hqx]; exact hx,fun l hl=>by rw[I.mx hl hqy]; exact hy⟩,⟨z'',?_,⟨u,u2,?_⟩,?_,?_⟩,fun c hcm=>?_⟩
  ·exact(sb.2 _ D.TIz).trans (hk _ _ D.TIz D.TITO D.TIi1 D.TIi2 hTI)
  ·exact(sb.2 _ D.TOz).trans TO'
  ·exact h1'.at fun o q=>(sb.2 _ D.i1z).trans q
  ·exact h2'.at fun o q=>(sb.2 _ D.i2z).trans q
  ·have hlt:c<s.heap.objs.size:=by
    have e':c=z∨c=TI∨c=TO∨c=i1∨c=i2:=by simpa using hcm
    rcases e' with q | q | q | q | q
    ·rw[q]; exact hzl
    ·rw[q]; exact Heap.lt_size hTI
    ·rw[q]; exact Heap.lt_size hTO
    ·rw[q]; obtain⟨_,e1,_⟩:=h1; exact Heap.lt_size e1
    ·rw[q]; obtain⟨_,e2,_⟩:=h2; exact Heap.lt_size e2
   rw[ay (Nat.ne_of_lt hlt)]
   exact(hf c hcm).1
 done:=by
  intro X hP hw hK hc i pins s σ H E I hf st hg
  subst hP hw hK
  obtain⟨hz,hTI,⟨x0,y0,hTO⟩,h1,h2⟩:=st
  obtain⟨xs,ys,hqx,hqy,hend⟩:=hg
  obtain⟨its,rv,p,_⟩:=I.list hqx
  obtain⟨its2,rv2,p2,_⟩:=I.list hqy
  have l1:=rv.length
  have l2:=rv2.length
  have he:its.toArray[i]? = none∨its2.toArray[i]? = none:=by
   rcases hend with q | q
   ·exact .inl (by simp; omega)
   ·exact .inr (by simp; omega)
  exact wpAny_pyNext_zip_end (I.ok.hd hc) D hz hTI hTO h1 h2 p.isList p2.isList he fun h' hk=>⟨rfl,I.turnedL (t':=s.toks) (ch:=[z,TI,TO,i1,i2]) (fun c o hb q =>
   hk c o (fun q'=>hb (by simp[q'])) (fun q'=>hb (by simp[q'])) (fun q'=>hb (by simp[q'])) (fun q'=>hb (by simp[q'])) q) hf⟩
 self:=fun A i s Q E st h=>wpAny_pyIter_zip st.1 h
def iZip(K:PySem.W.Frag)(ta:TA):TI:=fun σ H R=>ta σ H fun vs H1=>∃ a b xs ys,vs=[.ref a,.ref b]∧SqL K H1 a xs∧SqL K H1 b ys∧R (Itz K a b) H1
theorem pi_zip{X:Cx}{e e2:Expr}{ta:TA}{p pos tpos:Pos}{elts:List Expr}{kk:Nat}(hg:Gl X "zip")(hm:X.mg "zip" = none)(ha:PA X [e,e2] ta)
 (hs:starEach [e,e2] X.env=(false,eval e X.env)::starEach [e2] X.env:=by rfl)(hpl:(backTo pos (starEach [e2] X.env)).any (·.1)=false:=by rfl) :
  PI X (.Tuple elts kk tpos) (.Call (.Name "zip" p) [e,e2] [] pos) (iZip X.K ta):=by
 intro pins s σ H R I h
 refine Call_ (ld_blt I hg hm boot_zip5 (PyProof.Rows.callWith_type1 (thn (ha pos pins s σ H _ I h) fun us s1 ⟨vs,H1,I1,r1,q1⟩=>?_) hs hpl))
 obtain⟨a,b,xs,ys,ex,hqx,hqy,q⟩:=q1
 subst ex
 cases r1 with
 | cons r rr =>
  cases rr with
  | cons r' rr =>
   cases rr
   cases r
   cases r'
   obtain⟨its,rv,p1,_⟩:=I1.list hqx
   obtain⟨its2,rv2,p2,_⟩:=I1.list hqy
   have la:a<s1.heap.objs.size:=p1.lt
   have lb:b<s1.heap.objs.size:=p2.lt
   refine call_zip_2 p1.isList p2.isList fun h' hz hTI hTO h1 h2 hsz hk=>wpAny_pyIter_zip hz ?_
   have I2:Inv X pins σ H1 { s1 with heap:=h' }:=I1.kept (t':=s1.toks) hk
   refine⟨s1.heap.objs.size+4,[s1.heap.objs.size+4,s1.heap.objs.size+2,s1.heap.objs.size+3,s1.heap.objs.size,s1.heap.objs.size+1],_,_,H1,rfl,I2,turn_zip (PySem.W.ktu_apart s1.heap.objs.size a b la lb),⟨hz,hTI,⟨_,_,hTO⟩,h1,h2⟩,fun c hcm=>?_,q⟩
   have e':c=s1.heap.objs.size+4∨c=s1.heap.objs.size+2∨c=s1.heap.objs.size+3∨c=s1.heap.objs.size∨c=s1.heap.objs.size+1:=by simpa using hcm
   have hle:s1.heap.objs.size≤c:=by
    rcases e' with z | z | z | z | z
    ·rw[z]; exact Nat.le_add_right _ _
    ·rw[z]; exact Nat.le_add_right _ _
    ·rw[z]; exact Nat.le_add_right _ _
    ·rw[z]; exact Nat.le_refl _
    ·rw[z]; exact Nat.le_add_right _ _
   exact I1.fpOk hle (I1.hok.fresh hle)
end L2
section
namespace Bits
open PySem PyProof.Rows
end Bits
end
section
namespace TL
open PySem PySem.Builtin PySem.Builtin.Str PySem.StrLaws
abbrev tl(x:Str):List Nat:=x.cps.toList
theorem len_tl(x:Str):x.length=(tl x).length:=by simp[tl,Str.length]
theorem tl_append(x y:Str):tl (x++y)=tl x++tl y:=by
 show(x++y).cps.toList=_
 rw[Str.cps_append,Array.toList_append]
theorem lW(s:String):tl (Str.ofString s)=s.toList.map Char.toNat:=PyProof.Rows.signs_ofString s
end TL
end
namespace L2
open PySem PySem.Spec PyProof.Rows
section
variable {X:Cx}{pins:List (Addr×Obj)}{σ:St}{H:Hp}{s:Shared}{Q:VK}
end
section
variable {X:Cx}
end
section
variable {X:Cx}{o e:Expr}{to te:TE}
end
end L2
namespace L2
open PySem PySem.Spec PyProof.Rows
section
variable {X:Cx}
end
end L2
namespace L2
open PySem PySem.Spec PyProof.Rows
abbrev CX0:CXT:=fun _ _ _ _ _ _=>False
abbrev E0:XK:=fun _ _ _=>False
theorem eA{X:Cx}:Passes CX0 X E0:=fun _ _ _ _ _ _ _ h=>h.elim
structure Fun (K:PySem.W.Frag) (x qual:Str) (st:Stmt) (f:Addr) (fd:FuncData):Prop where
 ex:∃ (oc:Value) (od:Option Addr) (kV doc pm:Value) (an:Option Addr) (cdv ct:Value) (osl:Array (Option Value)),
  fd=PySem.W.fnOf x qual (mW st) (kn st) (aq st) .none kV doc pm an cdv ct∧K.lookup f=some ⟨oc,od,.func fd,osl⟩∧PySem.W.codeIn K cdv qual=true
 kp:PySem.W.keepIn K (.ref f)=true
section
variable {P:Program}{w:World}{K:PySem.W.Frag}{mg:Str→Option Value}{base:Heap}
theorem Fun.ok{x qual:Str}{st:Stmt}{f:Addr}{fd:FuncData}{N ps:List Str}{k:Nat}{sp:Sp}(F:Fun K x qual st f fd)(S:au N ps (aq st))(len:∀ vs H Q E,sp vs H Q E→vs.length=ps.length)
 (hbody:∀ (cdv:Value) (A:Around) (outer:List Env) (s:Shared) (H:Hp) (vs:List V) (Q:VK) (E:XK),iP k (A.deeper (envOfC qual (aq st) s.heap.objs.size f cdv))→sp vs H Q E →
   ∃ t,PSs (cxOf CX0 P w K mg base N qual (aq st) f cdv A outer s H E).nox (kn st) t∧t { nx:=fun _ H'=>Q .non H',rt:=Q } (start N vs) H):a9 P w K mg base CX0 (k+1) f fd ps sp:=by
 obtain⟨oc,od,kV,doc,pm,an,cdv,ct,osl,rfl,lk,hcd⟩:=F.ex
 refine fn_of lk hcd S len fun A outer s H vs Q E hr hsp=>?_
 obtain⟨t,h,q⟩:=hbody cdv A outer s H vs Q E hr hsp
 exact⟨t,h.nox,q⟩
theorem Fun.binds{x qual:Str}{st:Stmt}{f:Addr}{fd:FuncData}{ps:List Str}(F:Fun K x qual st f fd)
 (h:∀ (kV doc pm:Value) (an:Option Addr) (cdv ct:Value) (us:List Value),us.length=ps.length→bindArgs (PySem.W.fnOf x qual (mW st) (kn st) (aq st) .none kV doc pm an cdv ct) ⟨us,[]⟩=pure (ps.zip us)):Binds K fd ps []:=by
 obtain⟨oc,od,kV,doc,pm,an,cdv,ct,osl,rfl,lk,hcd⟩:=F.ex
 exact .all (h kV doc pm an cdv ct)
end
section
variable {X:Cx}
theorem pv(i:Nat){x:Str}{pos:Pos}(hN:X.N[i]? = some x:=by rfl)(hv:Vis X.env.scope x:=by first | exact Or.inl rfl | exact Or.inr (Or.inl rfl) | exact Or.inr (Or.inr rfl))(hd:(x==("__debug__" : Str))=false:=by decide)
 (hcd:(x==("__classdict__" : Str))=false:=by decide):PE X (.Name x pos) (fM i):=pe_var hN hv hd hcd
end
def ax(H H':Hp):Prop:=∀ b o,H b=some o→H' b=some o
theorem ax.refl(H:Hp):ax H H:=fun _ _ h=>h
theorem ax.trans{H H1 H2:Hp}(a:ax H H1)(b:ax H1 H2):ax H H2:=fun c o h=>b c o (a c o h)
theorem ax.free{H H':Hp}(e:ax H H'){l:Addr}(h:H' l=Option.none):H l=Option.none:=by
 cases q:H l with
 | none=>rfl
 | some o =>
  rw[e l o q] at h
  cases h
section
variable {κ:Type}[DecidableEq κ]
end
theorem nd_ix{α:Type}{l:List α}(hN:l.Nodup){i j:Nat}{x:α}(a:l[i]? = some x)(b:l[j]? = some x):i=j:=by
 obtain⟨h1,e1⟩:=List.getElem?_eq_some_iff.mp a
 obtain⟨h2,e2⟩:=List.getElem?_eq_some_iff.mp b
 exact(List.getElem_inj hN).mp (e1.trans e2.symm)
end L2
set_option maxHeartbeats 2000000
namespace L2
open PySem PySem.Spec PyProof.Rows
open PySem.W (WData Codec OpenSpec Well WellAll ReadsW ReadsAllW)
mutual
inductive Dw (K:PySem.W.Frag) (H:Hp):V→WData→Prop
 | non:Dw K H .non .none
 | bl (b:Bool):Dw K H (.bl b) (.bool b)
 | int (i:Int):Dw K H (.int i) (.int i)
 | str (x:Str):Dw K H (.str x) (.str x)
 | byt (b:Array UInt8):Dw K H (.byt b) (.bytes b.toList)
 | lst {a:Addr} {xs:List V} {ds:List WData}:SqL K H a xs→oN K H xs ds→Dw K H (.ref a) (.list ds)
 | tup {a:Addr} {xs:List V} {ds:List WData}:SqT K H a xs→oN K H xs ds→Dw K H (.ref a) (.tuple ds)
inductive oN (K:PySem.W.Frag) (H:Hp):List V→List WData→Prop
 | nil:oN K H [] []
 | cons {v:V} {vs:List V} {d:WData} {ds:List WData}:Dw K H v d→oN K H vs ds→oN K H (v::vs) (d::ds)
end
theorem dw_ints{K:PySem.W.Frag}{H:Hp}:∀ ns:List Int,oN K H (ns.map V.int) (ns.map WData.int)
 | []=>.nil
 | n::r=>.cons (.int n) (dw_ints r)
theorem ints_dw{K:PySem.W.Frag}{H:Hp}:∀ (ns:List Int) (xs:List V),oN K H xs (ns.map WData.int)→xs=ns.map V.int
 | [],xs,h=>by
  cases h
  rfl
 | n::r,xs,h=>by
  cases h with
  | cons h1 h2 =>
   cases h1
   rw[ints_dw r _ h2]<;>rfl
section
variable {P:Program}{w:World}{K:PySem.W.Frag}{H:Hp}{h:Heap}{R:PySem.W.WRecords}{cl:Str→Option Addr}
theorem sqL_at{a:Addr}{xs:List V}(hok:HOk P w H h)(KX:K.In h)(q:SqL K H a xs):∃ (its:List Value) (o:Obj) (n:Nat),Vals xs its∧h.get? a=some o∧o.cls = .type "list" ∧ o.data = .seq its.toArray n:=by
 rcases q with q | ⟨o,its,n,e,hc,_,hd,_,hv⟩
 ·obtain⟨_,its,n,hv,e⟩:=(show gr P w H h a (.lst xs) from q.ok hok)
  exact⟨its,_,n,hv,e,rfl,rfl⟩
 ·exact⟨its.toList,o,n,hv,KX _ _ e,hc,by simp[hd]⟩
theorem sqT_at{a:Addr}{xs:List V}(hok:HOk P w H h)(KX:K.In h)(q:SqT K H a xs):∃ (its:List Value) (o:Obj) (n:Nat),Vals xs its∧h.get? a=some o∧o.cls = .type "tuple" ∧ o.data = .seq its.toArray n:=by
 rcases q with q | ⟨o,its,n,e,hc,hd,_,hv⟩
 ·obtain⟨_,its,hv,o,e,hc,n,hd⟩:=(show gr P w H h a (.tup xs) from q.ok hok)
  exact⟨its,o,n,hv,e,hc,hd⟩
 ·exact⟨its.toList,o,n,hv,KX _ _ e,hc,by simp[hd]⟩
mutual
theorem Dw.reads(hok:HOk P w H h)(KX:K.In h):∀ (d:WData) (v:V) (u:Value),Dw K H v d→RelV v u→∃ as,ReadsW R cl h u d as
 | .none,_,_,x,r=>by
  cases x
  cases r
  exact⟨_,ReadsW.none⟩
 | .bool b,_,_,x,r=>by
  cases x
  cases r
  exact⟨_,ReadsW.bool b⟩
 | .int i,_,_,x,r=>by
  cases x
  obtain⟨t,rfl⟩:=r
  exact⟨_,ReadsW.int i t⟩
 | .str s,_,_,x,r=>by
  cases x
  obtain⟨t,rfl⟩:=r
  exact⟨_,ReadsW.str s t⟩
 | .bytes b,_,_,x,r=>by
  cases x
  obtain⟨t,rfl⟩:=r
  exact⟨_,ReadsW.bytes _ t⟩
 | .list ds,_,_,x,r=>by
  cases x with
  | lst hs ha =>
   cases r
   obtain⟨its,o,n,rv,ho,hc,hd⟩:=sqL_at hok KX hs
   obtain⟨as,hr⟩:=Dw.readsAll hok KX ds _ its ha rv
   exact⟨_,ReadsW.list ho hc hd hr⟩
 | .tuple ds,_,_,x,r=>by
  cases x with
  | tup hs ha =>
   cases r
   obtain⟨its,o,n,rv,ho,hc,hd⟩:=sqT_at hok KX hs
   obtain⟨as,hr⟩:=Dw.readsAll hok KX ds _ its ha rv
   exact⟨_,ReadsW.tuple ho hc hd hr⟩
 | .float _,_,_,x,_=>by cases x
 | .dict _,_,_,x,_=>by cases x
 | .bytearray _,_,_,x,_=>by cases x
 | .set _,_,_,x,_=>by cases x
 | .frozenset _,_,_,x,_=>by cases x
 | .obj _ _,_,_,x,_=>by cases x
theorem Dw.readsAll(hok:HOk P w H h)(KX:K.In h):∀ (ds:List WData) (vs:List V) (us:List Value),oN K H vs ds→Vals vs us→∃ as,ReadsAllW R cl h us ds as
 | [],_,_,x,r=>by
  cases x
  cases r
  exact⟨_,ReadsAllW.nil⟩
 | d::ds,_,_,x,r=>by
  cases x with
  | cons h1 h2 =>
   cases r with
   | cons r1 r2 =>
    obtain⟨as,q1⟩:=Dw.reads hok KX d _ _ h1 r1
    obtain⟨bs,q2⟩:=Dw.readsAll hok KX ds _ _ h2 r2
    exact⟨_,ReadsAllW.cons q1 q2⟩
end
end
mutual
def plW:WData→Bool
 | .none=>true
 | .bool _=>true
 | .int _=>true
 | .str _=>true
 | .bytes _=>true
 | .list xs=>plWs xs
 | .tuple xs=>plWs xs
 | _=>false
def plWs:List WData→Bool
 | []=>true
 | x::r=>plW x&&plWs r
end
theorem plWs_map{α:Type}{f:α→WData}(h:∀ a,plW (f a)=true):∀ l:List α,plWs (l.map f)=true
 | []=>rfl
 | x::r=>by
  show(plW (f x)&&plWs (r.map f))=true
  rw[h x,plWs_map h r]<;>rfl
theorem mY:∀ (c:Codec) (a:c.denote),plW (c.enc a)=true
 | .unit,_=>rfl
 | .bool,_=>rfl
 | .int _ _,_=>rfl
 | .nat _ _,_=>rfl
 | .u8,_=>rfl
 | .bytes _ _,_=>rfl
 | .text _ _ _ _,_=>rfl
 | .list _ _ c,a=>plWs_map (fun x=>mY c x) a
 | .pair c d,a=>by
  show(plW (c.enc a.1)&&(plW (d.enc a.2)&&true))=true
  rw[mY c a.1,mY d a.2]<;>rfl
 | .triple c d e,a=>by
  show(plW (c.enc a.1)&&(plW (d.enc a.2.1)&&(plW (e.enc a.2.2)&&true)))=true
  rw[mY c a.1,mY d a.2.1,mY e a.2.2]<;>rfl
 | .option c,none=>rfl
 | .option c,some x=>mY c x
theorem pl_encAll:∀ (cs:List Codec) (a:Codec.denoteAll cs),plWs (Codec.encAll cs a)=true
 | [],_=>rfl
 | c::cs,a=>by
  show(plW (c.enc a.1)&&plWs (Codec.encAll cs a.2))=true
  rw[mY c a.1,pl_encAll cs a.2]<;>rfl
theorem oO:∀ {xs:List WData} {d:WData},d∈xs→d.weight≤WData.weightAll xs
 | [],d,h=>absurd h (by simp)
 | x::r,d,h=>by
  show d.weight≤x.weight+1+WData.weightAll r
  rcases List.mem_cons.mp h with e | m
  ·rw[e]
   omega
  ·have z:=oO m
   omega
def toV:Value→V
 | .none=>.non
 | .bool b=>.bl b
 | .int i _=>.int i
 | .str x _=>.str x
 | .bytes b _=>.byt b
 | .ref a=>.ref a
 | _=>.non
def OkU(A:List Addr):Value→Prop
 | .none=>True
 | .bool _=>True
 | .int _ _=>True
 | .str _ _=>True
 | .bytes _ _=>True
 | .ref a=>a∈A
 | _=>False
theorem OkU.mono{A B:List Addr}(h:∀ a∈A,a∈B):∀ {u:Value},OkU A u→OkU B u:=fun {u} x=>by
 cases u with
 | ref a=>exact h a x
 | none=>trivial
 | bool b=>trivial
 | int i t=>trivial
 | str s t=>trivial
 | bytes b t=>trivial
 | _=>exact False.elim x
theorem relV_toV{A:List Addr}{u:Value}(x:OkU A u):RelV (toV u) u:=by
 cases u with
 | ref a=>rfl
 | none=>rfl
 | bool b=>rfl
 | int i t=>exact⟨t,rfl⟩
 | str s t=>exact⟨t,rfl⟩
 | bytes b t=>exact⟨t,rfl⟩
 | _=>exact False.elim x
theorem jg{A:List Addr}:∀ {vs:List Value},(∀ u∈vs,OkU A u)→Vals (vs.map toV) vs
 | [],_=>.nil
 | u::r,h=>.cons (relV_toV (h u (List.mem_cons_self ..))) (jg fun x hx=>h x (List.mem_cons_of_mem _ hx))
def mO(h:Heap)(A:List Addr)(a:Addr):Prop:=∃ vs:List Value,vs.length≤sizeLine∧(∀ u∈vs,OkU A u) ∧
 (h.get? a=some { cls:=.type "list",data:=.seq vs.toArray }∨h.get? a=some { cls:=.type "tuple",data:=.seq vs.toArray })
theorem mO.mono{h:Heap}{A B:List Addr}{a:Addr}(k:∀ a∈A,a∈B)(x:mO h A a):mO h B a:=by
 obtain⟨vs,h1,h2,h3⟩:=x
 exact⟨vs,h1,fun u hu=>(h2 u hu).mono k,h3⟩
theorem iD{P:Params}{h:Heap}:∀ {vs:List Value} {ds:List WData},WellAll P h vs ds→vs.length=ds.length
 | _,_,.nil=>rfl
 | _,_,.cons _ b=>by
  show _+1=_+1
  rw[iD b]
theorem well_list{P:Params}{h:Heap}{v:Value}{ds:List WData}(x:Well P h v (.list ds)):∃ (a:Addr) (vs:List Value),v = .ref a∧h.get? a=some { cls:=.type "list",data:=.seq vs.toArray }∧WellAll P h vs ds:=by
 cases x with
 | list ho hall=>exact⟨_,_,rfl,ho,hall⟩
theorem well_tuple{P:Params}{h:Heap}{v:Value}{ds:List WData}(x:Well P h v (.tuple ds)):∃ (a:Addr) (vs:List Value),v = .ref a∧h.get? a=some { cls:=.type "tuple",data:=.seq vs.toArray }∧WellAll P h vs ds:=by
 cases x with
 | tuple ho hall=>exact⟨_,_,rfl,ho,hall⟩
theorem well_cons{P:Params}{h:Heap}{us:List Value}{d:WData}{ds:List WData}(x:WellAll P h us (d::ds)):∃ (v:Value) (vs:List Value),us=v::vs∧Well P h v d∧WellAll P h vs ds:=by
 cases x with
 | cons a b=>exact⟨_,_,rfl,a,b⟩
theorem line_of{n:Nat}(h:n≤1048576):n≤sizeLine:=Nat.le_trans h (by decide)
section
variable {P:Params}{h:Heap}
mutual
theorem area_one:∀ (d:WData) (v:Value),Well P h v d→plW d=true→d.weight≤1048576→∃ A:List Addr,OkU A v∧∀ a∈A,mO h A a
 | .none,_,x,_,_=>by
  cases x
  exact⟨[],trivial,fun a m=>absurd m (by simp)⟩
 | .bool b,_,x,_,_=>by
  cases x
  exact⟨[],trivial,fun a m=>absurd m (by simp)⟩
 | .int i,_,x,_,_=>by
  cases x
  exact⟨[],trivial,fun a m=>absurd m (by simp)⟩
 | .str s,_,x,_,_=>by
  cases x
  exact⟨[],trivial,fun a m=>absurd m (by simp)⟩
 | .bytes b,_,x,_,_=>by
  cases x
  exact⟨[],trivial,fun a m=>absurd m (by simp)⟩
 | .list ds,_,x,p,z=>by
  obtain⟨a,vs,rfl,ho,hall⟩:=well_list x
  have z2:WData.weightAll ds≤1048576:=z
  obtain⟨A,h1,h2⟩:=rd ds _ hall p fun d hd=>Nat.le_trans (oO hd) z2
  have k:∀ b∈A,b∈a::A:=fun b hb=>List.mem_cons_of_mem _ hb
  refine⟨a::A,List.mem_cons_self ..,fun b hb=>?_⟩
  rcases List.mem_cons.mp hb with e | m
  ·rw[e]
   exact⟨vs,line_of (by rw[iD hall]; exact Nat.le_trans (PySem.W.length_le_weightAllW ds) z2),fun u hu=>(h1 u hu).mono k,.inl ho⟩
  ·exact(h2 b m).mono k
 | .tuple ds,_,x,p,z=>by
  obtain⟨a,vs,rfl,ho,hall⟩:=well_tuple x
  have z2:WData.weightAll ds≤1048576:=z
  obtain⟨A,h1,h2⟩:=rd ds _ hall p fun d hd=>Nat.le_trans (oO hd) z2
  have k:∀ b∈A,b∈a::A:=fun b hb=>List.mem_cons_of_mem _ hb
  refine⟨a::A,List.mem_cons_self ..,fun b hb=>?_⟩
  rcases List.mem_cons.mp hb with e | m
  ·rw[e]
   exact⟨vs,line_of (by rw[iD hall]; exact Nat.le_trans (PySem.W.length_le_weightAllW ds) z2),fun u hu=>(h1 u hu).mono k,.inr ho⟩
  ·exact(h2 b m).mono k
 | .float _,_,_,p,_=>Bool.noConfusion (show false=true from p)
 | .dict _,_,_,p,_=>Bool.noConfusion (show false=true from p)
 | .bytearray _,_,_,p,_=>Bool.noConfusion (show false=true from p)
 | .set _,_,_,p,_=>Bool.noConfusion (show false=true from p)
 | .frozenset _,_,_,p,_=>Bool.noConfusion (show false=true from p)
 | .obj _ _,_,_,p,_=>Bool.noConfusion (show false=true from p)
theorem rd:∀ (ds:List WData) (vs:List Value),WellAll P h vs ds→plWs ds=true→(∀ d∈ds,d.weight≤1048576)→∃ A:List Addr,(∀ u∈vs,OkU A u)∧∀ a∈A,mO h A a
 | [],_,x,_,_=>by
  cases x
  exact⟨[],fun u m=>absurd m (by simp),fun a m=>absurd m (by simp)⟩
 | d::ds,_,x,p,z=>by
  obtain⟨v,vs,rfl,x1,x2⟩:=well_cons x
  have q:plW d=true∧plWs ds=true:=Bool.and_eq_true_iff.mp p
  obtain⟨A,a1,a2⟩:=area_one d v x1 q.1 (z d (List.mem_cons_self ..))
  obtain⟨B,b1,b2⟩:=rd ds vs x2 q.2 fun e he=>z e (List.mem_cons_of_mem _ he)
  have kA:∀ b∈A,b∈A++B:=fun b hb=>List.mem_append.mpr (.inl hb)
  have kB:∀ b∈B,b∈A++B:=fun b hb=>List.mem_append.mpr (.inr hb)
  refine⟨A++B,fun u hu=>?_,fun b hb=>?_⟩
  ·rcases List.mem_cons.mp hu with e | m
   ·rw[e]
    exact a1.mono kA
   ·exact(b1 u m).mono kB
  ·rcases List.mem_append.mp hb with m | m
   ·exact(a2 b m).mono kA
   ·exact(b2 b m).mono kB
end
end
def hoOf(o:Obj):Option HO:=match o.data with
 | .seq vs _=>if (o.cls==Value.type "list")=true then some (.frz o (.lst (vs.toList.map toV))) else some (.frz o (.tup (vs.toList.map toV)))
 | _=>none
def oP(K:PySem.W.Frag)(h:Heap)(A:List Addr):Hp:=fun b=>if b∈A then(if (K.lookup b).isNone=true then(h.get? b).bind hoOf else none) else none
def OnlyF(H:Hp):Prop:=∀ b,H b=none∨∃ o u,H b=some (.frz o u)
theorem hoOf_lst(vs:List Value):hoOf { cls:=.type "list",data:=.seq vs.toArray } = some (.frz { cls:=.type "list",data:=.seq vs.toArray } (.lst (vs.map toV))):=by
 show(if (Value.type "list" == Value.type "list")=true then some (HO.frz { cls:=.type "list",data:=.seq vs.toArray } (.lst (vs.toArray.toList.map toV))) else some (HO.frz { cls:=.type "list",data:=.seq vs.toArray } (.tup (vs.toArray.toList.map toV))))=_
 rw[if_pos (beq_self_eq_true _)]
theorem hoOf_tup(vs:List Value):hoOf { cls:=.type "tuple",data:=.seq vs.toArray } = some (.frz { cls:=.type "tuple",data:=.seq vs.toArray } (.tup (vs.map toV))):=by
 show(if (Value.type "tuple" == Value.type "list")=true then some (HO.frz { cls:=.type "tuple",data:=.seq vs.toArray } (.lst (vs.toArray.toList.map toV))) else some (HO.frz { cls:=.type "tuple",data:=.seq vs.toArray } (.tup (vs.toArray.toList.map toV))))=_
 rw[if_neg (by decide)]
section
variable {P:Program}{w:World}{K:PySem.W.Frag}{h:Heap}{A:List Addr}
theorem argH_at{b:Addr}{o:Obj}(hb:b∈A)(hk:K.lookup b=none)(e:h.get? b=some o):oP K h A b=hoOf o:=by
 unfold oP
 rw[if_pos hb,hk,if_pos (show(none:Option Obj).isNone=true from rfl),e]<;>rfl
theorem of_argH{b:Addr}{u:HO}(q:oP K h A b=some u):b∈A∧K.lookup b=none:=by
 unfold oP at q
 by_cases hb:b∈A
 ·rw[if_pos hb] at q
  cases hk:K.lookup b with
  | none=>exact⟨hb,rfl⟩
  | some o =>
   rw[hk,if_neg (by simp)] at q
   cases q
 ·rw[if_neg hb] at q
  cases q
theorem argH_is (ar : ∀ a ∈ A, mO h A a) {b : Addr} {u : HO} (q : oP K h A b = some u) : K.lookup b = none ∧ ∃ vs : List Value, vs.length ≤ sizeLine ∧ (∀ u ∈ vs, OkU A u) ∧
    ((h.get? b = some { cls := .type "list", data := .seq vs.toArray } ∧ u = .frz { cls := .type "list", data := .seq vs.toArray } (.lst (vs.map toV))) ∨
     (h.get? b = some { cls := .type "tuple", data := .seq vs.toArray } ∧ u = .frz { cls := .type "tuple", data := .seq vs.toArray } (.tup (vs.map toV)))) := by
  obtain ⟨hb, hk⟩ := of_argH q
  obtain ⟨vs, h1, h2, h3⟩ := ar b hb
  refine ⟨hk, vs, h1, h2, ?_⟩
  rcases h3 with e | e
  · rw [argH_at hb hk e, hoOf_lst] at q
    exact .inl ⟨e, (Option.some.inj q).symm⟩
  · rw [argH_at hb hk e, hoOf_tup] at q
    exact .inr ⟨e, (Option.some.inj q).symm⟩
theorem argH_only(ar:∀ a∈A,mO h A a):OnlyF (oP K h A):=fun b=>by
 cases q:oP K h A b with
 | none=>exact .inl rfl
 | some u =>
  obtain⟨_,vs,_,_,⟨_,e⟩ | ⟨_,e⟩⟩:=argH_is ar q
  ·exact .inr ⟨_,_,by rw[e]⟩
  ·exact .inr ⟨_,_,by rw[e]⟩
theorem argH_ok(ar:∀ a∈A,mO h A a):HOk P w (oP K h A) h:=fun b u q=>by
 obtain⟨_,vs,h1,h2,⟨e,rfl⟩ | ⟨e,rfl⟩⟩:=argH_is ar q
 ·exact⟨e,by rw[List.length_map]; exact h1,vs,_,jg h2,e⟩
 ·exact⟨e,by rw[List.length_map]; exact h1,vs,jg h2,_,e,rfl,_,rfl⟩
theorem seq_inj{c c':Value}{vs us:List Value}(e:(some { cls:=c,data:=.seq vs.toArray }:Option Obj)=some { cls:=c',data:=.seq us.toArray }):c=c'∧vs=us:=by
 have e1:=Option.some.inj e
 have e2:c=c':=congrArg Obj.cls e1
 have e3:Data.seq vs.toArray=Data.seq us.toArray:=congrArg Obj.data e1
 injection e3 with e4
 refine⟨e2,?_⟩
 have e5:=congrArg Array.toList e4
 simpa using e5
theorem argL(KX:K.In h)(ar:∀ a∈A,mO h A a){a:Addr}{vs:List Value}(ha:a∈A)(e:h.get? a=some { cls:=.type "list",data:=.seq vs.toArray }):(∀ u∈vs,OkU A u)∧SqL K (oP K h A) a (vs.map toV):=by
 obtain⟨us,h1,h2,h3⟩:=ar a ha
 have hu:us=vs:=by
  rcases h3 with q | q
  ·rw[e] at q
   exact(seq_inj q).2.symm
  ·rw[e] at q
   exact absurd (Value.type.inj (seq_inj q).1) (by decide)
 subst hu
 refine⟨h2,?_⟩
 cases hk:K.lookup a with
 | none=>exact .inl (.inr ⟨_,by rw[argH_at ha hk e,hoOf_lst]⟩)
 | some o =>
  have e2:=KX a o hk
  rw[e] at e2
  obtain rfl:=Option.some.inj e2
  exact .inr ⟨_,us.toArray,_,hk,rfl,rfl,rfl,by rw[List.size_toArray]; exact h1,by simpa using jg h2⟩
theorem argT(KX:K.In h)(ar:∀ a∈A,mO h A a){a:Addr}{vs:List Value}(ha:a∈A)(e:h.get? a=some { cls:=.type "tuple",data:=.seq vs.toArray }):(∀ u∈vs,OkU A u)∧SqT K (oP K h A) a (vs.map toV):=by
 obtain⟨us,h1,h2,h3⟩:=ar a ha
 have hu:us=vs:=by
  rcases h3 with q | q
  ·rw[e] at q
   exact absurd (Value.type.inj (seq_inj q).1) (by decide)
  ·rw[e] at q
   exact(seq_inj q).2.symm
 subst hu
 refine⟨h2,?_⟩
 cases hk:K.lookup a with
 | none=>exact .inl (.inr ⟨_,by rw[argH_at ha hk e,hoOf_tup]⟩)
 | some o =>
  have e2:=KX a o hk
  rw[e] at e2
  obtain rfl:=Option.some.inj e2
  exact .inr ⟨_,us.toArray,_,hk,rfl,rfl,by rw[List.size_toArray]; exact h1,by simpa using jg h2⟩
mutual
theorem dw_one{Pm:Params}(KX:K.In h)(ar:∀ a∈A,mO h A a):∀ (d:WData) (v:Value),Well Pm h v d→plW d=true→OkU A v→Dw K (oP K h A) (toV v) d
 | .none,_,x,_,_=>by
  cases x
  exact .non
 | .bool b,_,x,_,_=>by
  cases x
  exact .bl b
 | .int i,_,x,_,_=>by
  cases x
  exact .int i
 | .str s,_,x,_,_=>by
  cases x
  exact .str s
 | .bytes b,_,x,_,_=>by
  cases x
  have z:=Dw.byt (K:=K) (H:=oP K h A) b.toArray
  exact z
 | .list ds,_,x,p,hu=>by
  obtain⟨a,vs,rfl,ho,hall⟩:=well_list x
  obtain⟨h2,hs⟩:=argL KX ar hu ho
  exact .lst hs (dw_all KX ar ds _ hall p h2)
 | .tuple ds,_,x,p,hu=>by
  obtain⟨a,vs,rfl,ho,hall⟩:=well_tuple x
  obtain⟨h2,hs⟩:=argT KX ar hu ho
  exact .tup hs (dw_all KX ar ds _ hall p h2)
 | .float _,_,_,p,_=>Bool.noConfusion (show false=true from p)
 | .dict _,_,_,p,_=>Bool.noConfusion (show false=true from p)
 | .bytearray _,_,_,p,_=>Bool.noConfusion (show false=true from p)
 | .set _,_,_,p,_=>Bool.noConfusion (show false=true from p)
 | .frozenset _,_,_,p,_=>Bool.noConfusion (show false=true from p)
 | .obj _ _,_,_,p,_=>Bool.noConfusion (show false=true from p)
theorem dw_all{Pm:Params}(KX:K.In h)(ar:∀ a∈A,mO h A a):∀ (ds:List WData) (vs:List Value),WellAll Pm h vs ds→plWs ds=true→(∀ u∈vs,OkU A u)→oN K (oP K h A) (vs.map toV) ds
 | [],_,x,_,_=>by
  cases x
  exact .nil
 | d::ds,_,x,p,hu=>by
  obtain⟨v,vs,rfl,x1,x2⟩:=well_cons x
  have q:plW d=true∧plWs ds=true:=Bool.and_eq_true_iff.mp p
  exact .cons (dw_one KX ar d v x1 q.1 (hu _ (List.mem_cons_self ..))) (dw_all KX ar ds vs x2 q.2 fun u m=>hu u (List.mem_cons_of_mem _ m))
end
end
theorem spec_call{P:Program}{w:World}{K:PySem.W.Frag}{mg mb:Str→Option Value}{CX:CXT}{k:Nat}{fa:Addr}{fd:FuncData}{ps:List Str}{sp:Sp}{s₁:Shared}{vals:List Value}{ds:List WData}{R:PySem.W.WRecords}{cl:Str→Option Addr}{d0:WData}
 (KX:K.In s₁.heap)(hns:s₁.heap.Ns mainGlobals mg)(hb:s₁.heap.Ns builtinsNs mb)(hbb:∀ x:Str,x ≠ "__name__" → mb x=bootBuiltins x)(hlim:s₁.heap.NoLimit)(hdig:∃ mc,s₁.heap.Ns cStatics mc∧mc "sys.int_max_str_digits" = none)(hg:s₁.gens = #[])
 (hwl:WellAll w.params s₁.heap vals ds)(hpl:plWs ds=true)(hwt:∀ d∈ds,d.weight≤1048576)(hr:iP k callerA)
 (F:∀ base:Heap,K.In base→base.Ns mainGlobals mg→a9 P w K mg base CX k fa fd ps sp)(hbind:∀ (s:Shared) (us:List Value),us.length=ps.length→BindsTo s fd ⟨us,[]⟩ (ps.zip us))(hlen:ds.length=ps.length)
 (hsp:∀ (H:Hp) (xs:List V),OnlyF H→oN K H xs ds→sp xs H (fun v H'=>Dw K H' v d0) fun _ _ _=>False)
 (hCX:∀ H e s',CX [] H s₁ (fun _ _ _=>False) e s'→False) :
  codeAny (model P w) callerA (.call (.ref fa) ⟨vals,[]⟩) (fun r s'=>∃ u as,r = .ok (.ret u)∧ReadsW R cl s'.heap u d0 as∧OldK s₁.heap s'.heap∧s'.os=s₁.os∧AllBare s'.gens) s₁:=by
 obtain⟨A,ho,ar⟩:=rd ds vals hwl hpl hwt
 have hO:OnlyF (oP K s₁.heap A):=argH_only ar
 have hok:HOk P w (oP K s₁.heap A) s₁.heap:=argH_ok ar
 have hS:=dw_all KX ar ds vals hwl hpl ho
 have hV:=jg ho
 have hK:∀ b u,oP K s₁.heap A b=some u→K.lookup b=none:=fun b u q=>(argH_is ar q).1
 have noA:∀ {b:Addr} {o:Obj} {es:Array DictEntry} {ep:Nat},s₁.heap.get? b=some o→o.data = .dict es ep→oP K s₁.heap A b=none:=fun {b o es ep} e d=>by
  cases q:oP K s₁.heap A b with
  | none=>rfl
  | some u =>
   obtain⟨_,vs,_,_,⟨e2,_⟩ | ⟨e2,_⟩⟩:=argH_is ar q
   ·rw[e2] at e
    cases e
    have d':Data.seq vs.toArray _=Data.dict es ep:=d
    cases d'
   ·rw[e2] at e
    cases e
    have d':Data.seq vs.toArray _=Data.dict es ep:=d
    cases d'
 generalize oP K s₁.heap A=H at hO hok hS hK noA
 have base_of:∀ {b:Addr} {o:Obj},s₁.heap.get? b=some o→H b=none→(hidT s₁.heap H).get? b=some o:=fun e n=>hidT_get e n
 have nsK:∀ {b:Addr} {m:Str→Option Value},s₁.heap.Ns b m→(hidT s₁.heap H).Ns b m:=fun {b m} ⟨o,es,ep,e,d,r⟩=>⟨o,es,ep,base_of e (noA e d),d,r⟩
 have nK:∀ b o,K.lookup b=some o→H b=none:=fun b o e=>by
  cases q:H b with
  | none=>rfl
  | some u =>
   rw[hK b u q] at e
   cases e
 have hKb:K.In (hidT s₁.heap H):=fun b o e=>base_of (KX b o e) (nK b o e)
 have hM:Mod K mg (hidT s₁.heap H):=⟨hKb,nsK hns,⟨mb,nsK hb,hbb⟩,(let ⟨mc,h1,h2⟩:=hlim; ⟨mc,nsK h1,h2⟩),(let ⟨mc,h1,h2⟩:=hdig; ⟨mc,nsK h1,h2⟩)⟩
 have e0:Env0 P w K mg (hidT s₁.heap H) callerA [] s₁ H:=⟨rfl,hM,fun b o e=>of_hidT e,Nat.le_of_eq (hidT_size _ _),trivial,fun b hb=>absurd (show b∈([]:List Addr) from hb) (by simp),hok,.of_eq hg⟩
 have hl:vals.length=ps.length:=by rw[iD hwl]; exact hlen
 refine codeAny_mono ((F _ hKb (nsK hns)).run callerA [] s₁ H ⟨vals,[]⟩ vals (vals.map toV) _ _ hr e0 (hbind s₁ vals hl) hV (hsp H _ hO hS)) fun r s' x=>?_
 cases r with
 | error e=>exact(hCX H e s' x).elim
 | ok fl =>
  cases fl with
  | next=>exact False.elim x
  | brk=>exact False.elim x
  | cont=>exact False.elim x
  | ret u =>
   obtain⟨v,H',os,bare,un,hok',r',q⟩:=x
   have kept:∀ b o,s₁.heap.get? b=some o→s'.heap.get? b=some o:=fun b o e=>by
    cases q2:H b with
    | none=>exact un.keep b o e q2 (by intro z; exact absurd (show b∈([]:List Addr) from z) (by simp)) (by simp)
    | some u2 =>
     rcases hO b with z | ⟨ob,u3,z⟩
     ·rw[q2] at z
      cases z
     ·have z2:=un.frzs b ob _ z
      obtain⟨e1,_⟩:=hok b _ z
      obtain⟨e2,_⟩:=hok' b _ z2
      rw[e] at e1
      cases e1
      exact e2
   have KX':K.In s'.heap:=fun b o e=>kept b o (KX b o e)
   obtain⟨as,hrd⟩:=Dw.reads (R:=R) (cl:=cl) hok' KX' d0 v u q r'
   exact⟨u,as,rfl,hrd,OldK.of_keep kept,os,bare⟩
theorem layable_weight{ds:List WData}(h:WData.layableAll ds=true):∀ d∈ds,d.weight≤1048576:=fun d hd =>
 (PySem.W.layableW_iff.mp (List.all_eq_true.mp h d hd)).2.2
theorem encAll_len:∀ (cs:List Codec) (a:Codec.denoteAll cs),(Codec.encAll cs a).length=cs.length
 | [],_=>rfl
 | c::cs,a=>by
  show(Codec.encAll cs a.2).length+1=cs.length+1
  rw[encAll_len cs a.2]
end L2
set_option exponentiation.threshold 100000
namespace L2
open PySem PySem.Spec PyProof.Rows
section
variable {X:Cx}
theorem aN:OpR X (binaryOp .Mult) (rI IntMulOk fun i j=>.int (i*j)):=opI fun _ _ _ _ _ _ _ hc q=>mul_int q hc
def CDivB(i j:Int):Prop:=j≠0∧j.natAbs.log2<9000
theorem jh:OpR X (binaryOp .FloorDiv) (rI CDivB fun i j=>.int (i.fdiv j)):=opI fun _ _ _ _ _ _ _ hc q=>floordiv_int hc.1 q (.inl (PyProof.noPylong_of_log2 hc.2))
theorem bM{x:Str}{v:V}{pos:Pos}(h:∃ u,X.mg x=some u∧RelV v u)(hg:Gl X x:=by rfl)(hd:(x==("__debug__" : Str))=false:=by decide):PE X (.Name x pos) (tC v):=by
 obtain⟨u,h1,h2⟩:=h
 exact pe_glob hg h1 h2 hd
end
section
variable {σ:St}{H:Hp}{D:Ends}
theorem bB{t:TS}{σ':St}(h:t D σ' H)(e:σ=σ'):t D σ H:=by rw[e]; exact h
theorem w_seq{t u:TS}(h:t { D with nx:=u D } σ H):tSeq t u D σ H:=h
theorem w_asg{te:TE}{g:TG}(h:te σ H fun x H1=>g x σ H1 D.nx):tAsg te g D σ H:=h
theorem w_name{i:Nat}{v:V}{Q:St→Hp→Prop}(h:Q (σ.set i (some v)) H):gName i v σ H Q:=h
theorem w_ret{te:TE}(h:te σ H D.rt):tRet te D σ H:=h
theorem w_next(h:D.nx σ H):tNext D σ H:=h
theorem w_drop{te:TE}(h:te σ H fun _ H1=>D.nx σ H1):tDrop te D σ H:=h
theorem w_if{c:TT}{t u:TS}(h:c σ H fun b H1=>if b=true then t D σ H1 else u D σ H1):tIfS c t u D σ H:=h
variable {Q:VK}{QB:Bool→Hp→Prop}
theorem w_var{i:Nat}{v:V}(e:σ[i]? = some (some v))(h:Q v H):fM i σ H Q:=⟨v,e,h⟩
theorem w_c{v:V}(h:Q v H):tC v σ H Q:=h
theorem w_test{t:TE}(h:t σ H fun x H'=>∃ k,x = .bl k∧QB k H'):tTest t σ H QB:=h
theorem w_tB{t:TE}(h:t σ H fun x H'=>∃ k,x = .bl k∧QB k H'):tB t σ H QB:=h
theorem w_bl{b:Bool}{P:Bool→Prop}(h:P b):∃ k,V.bl b = .bl k∧P k:=⟨b,rfl,h⟩
theorem w_and{t u:TT}(h:t σ H fun c H1=>if c=true then u σ H1 QB else QB false H1):tAnd t u σ H QB:=h
theorem w_or{t u:TT}(h:t σ H fun c H1=>if c=true then QB true H1 else u σ H1 QB):tOr t u σ H QB:=h
theorem w_not{t:TT}(h:t σ H fun c H1=>QB (!c) H1):tNot t σ H QB:=h
theorem w_andV{t u:TE}(h:t σ H fun x H1=>∃ c,x = .bl c∧if c=true then u σ H1 Q else Q (.bl false) H1):tAndV t u σ H Q:=h
theorem w_orV{t u:TE}(h:t σ H fun x H1=>∃ c,x = .bl c∧if c=true then Q (.bl true) H1 else u σ H1 Q):tOrV t u σ H Q:=h
theorem w_isN{t:TE}(h:t σ H fun x H1=>Q (.bl (decide (x = .non))) H1):tIsN t σ H Q:=h
theorem w_notN{t:TE}(h:t σ H fun x H1=>Q (.bl (!decide (x = .non))) H1):tNotN t σ H Q:=h
theorem w_op{r:R2}{ta tb:TE}(h:ta σ H fun x H1=>tb σ H1 fun y H2=>r x y H2 Q):tOp r ta tb σ H Q:=h
theorem w_un{r:V→Hp→VK→Prop}{ta:TE}(h:ta σ H fun x H1=>r x H1 Q):tUn r ta σ H Q:=h
theorem w_chain{r r':R2}{ta tb tc:TE}(h:ta σ H fun x H1=>tb σ H1 fun y H2=>r x y H2 fun z H3=>∃ k,z = .bl k∧(if k=true then tc σ H3 fun w' H4=>r' y w' H4 Q else Q (.bl false) H3)):tChain r r' ta tb tc σ H Q:=h
theorem w_rI0{g:Int→Int→V}{i j:Int}(h:Q (g i j) H):rI0 g (.int i) (.int j) H Q:=⟨i,j,rfl,rfl,h⟩
theorem cn{C:Int→Int→Prop}{g:Int→Int→V}{i j:Int}(hc:C i j)(h:Q (g i j) H):rI C g (.int i) (.int j) H Q:=⟨i,j,rfl,rfl,hc,h⟩
theorem w_rU{g:Int→V}{i:Int}(h:Q (g i) H):rU g (.int i) H Q:=⟨i,rfl,h⟩
theorem w_eqI{i j:Int}(h:Q (.bl (decide (i=j))) H):rEq (.int i) (.int j) H Q:=by
 refine⟨rfl,?_⟩
 rw[show decide (V.int i=V.int j)=decide (i=j) by simp]
 exact h
theorem w_neI{i j:Int}(h:Q (.bl (!decide (i=j))) H):rNe (.int i) (.int j) H Q:=by
 refine⟨rfl,?_⟩
 rw[show decide (V.int i=V.int j)=decide (i=j) by simp]
 exact h
theorem w_ite{p A B:Prop}[Decidable p](h1:p→A)(h2:¬ p→B):if decide p=true then A else B:=by
 by_cases h:p
 ·rw[if_pos (decide_eq_true h)]; exact h1 h
 ·rw[if_neg (by simpa using h)]; exact h2 h
theorem cG{p A B:Prop}[Decidable p](h1:¬ p→A)(h2:p→B):if (!decide p)=true then A else B:=by
 by_cases h:p
 ·rw[if_neg (by simpa using h)]; exact h2 h
 ·rw[if_pos (by simpa using h)]; exact h1 h
theorem w_nil{Q:List V→Hp→Prop}(h:Q [] H):tNil σ H Q:=h
theorem w_cons{ta:TE}{tr:TA}{Q:List V→Hp→Prop}(h:ta σ H fun x H1=>tr σ H1 fun xs H2=>Q (x::xs) H2):eK ta tr σ H Q:=h
theorem w_call{sp:Sp}{E:XK}{t:TA}(h:t σ H fun vs H1=>sp vs H1 Q E):oM sp [] E t σ H Q:=by
 show t σ H fun vs H1=>sp (vs++[]) H1 Q E
 simp only[List.append_nil]
 exact h
theorem w_make{C:Addr}{sp:Sp}{E:XK}{t:TA}(h:t σ H fun vs H1=>∀ x dx,H1 x=none→H1 dx=none→dx≠x →
  sp (.ref x::vs) (upd (upd H1 dx (.own x)) x (.ins C dx [])) (fun v H2=>v = .non∧Q (.ref x) H2) E):tMake C sp [] E t σ H Q:=by
 show t σ H fun vs H1=>∀ x dx,H1 x=none→H1 dx=none→dx≠x→sp (.ref x::(vs++[])) (upd (upd H1 dx (.own x)) x (.ins C dx [])) (fun v H2=>v = .non∧Q (.ref x) H2) E
 simp only[List.append_nil]
 exact h
theorem w_cb{r:List V→Hp→VK→Prop}{t:TA}(h:t σ H fun vs H1=>r vs H1 Q):tCB r t σ H Q:=h
def Fld(K:PySem.W.Frag)(x:V)(f:Str)(H:Hp)(Q:VK):Prop:=∃ a C dx fs v,x = .ref a∧H a=some (.ins C dx fs)∧Cls K C∧cg K C f∧fs.lookup f=some v∧Q v H
theorem w_fld{K:PySem.W.Frag}{ta:TE}{f:Str}(h:ta σ H fun x H1=>Fld K x f H1 Q):tFld K ta f σ H Q:=h
def Sto(K:PySem.W.Frag)(x:V)(f:Str)(y:V)(H:Hp)(Q:Hp→Prop):Prop:=∃ a C dx fs,x = .ref a∧H a=some (.ins C dx fs)∧Cls K C∧cg K C f∧fs.length<1000∧Q (upd H a (.ins C dx (eD f y fs)))
theorem w_sto{K:PySem.W.Frag}{ta tv:TE}{f:Str}(h:tv σ H fun y H1=>ta σ H1 fun x H2=>Sto K x f y H2 fun H3=>D.nx σ H3):sFld K ta tv f D σ H:=h
end
theorem ax.new{H:Hp}{p:Addr}{o:HO}(h:H p=none):ax H (upd H p o):=fun b u e=>by
 rw[ay (aC e h)]; exact e
theorem dZ{f:Str}{v:V}{fs:List (Str×V)}:(eD f v fs).lookup f=some v:=by rw[iB,if_pos rfl]
theorem bF{f g:Str}{v:V}{fs:List (Str×V)}{o:Option V}(h:¬ g=f)(e:fs.lookup g=o):(eD f v fs).lookup g=o:=by rw[iB,if_neg h]; exact e
theorem boot_ord_:bootBuiltins "ord" = some (.builtin "ord"):=by decide +kernel
theorem sq:bootBuiltins "abs" = some (.builtin "abs"):=by decide +kernel
theorem boot_sum_:bootBuiltins "sum" = some (.builtin "sum"):=by decide +kernel
theorem ja:bootBuiltins "str" = some (.type "str"):=by decide +kernel
def rAbs:List V→Hp→VK→Prop:=fun xs H Q=>∃ i,xs=[.int i]∧Q (.int (if i<0 then -i else i)) H
theorem su{X:Cx}:mM X (.builtin "abs") rAbs:=call_abs
theorem w_abs{i:Int}{H:Hp}{Q:VK}(h:Q (.int (i.natAbs:Int)) H):rAbs [V.int i] H Q:=by
 refine⟨i,rfl,?_⟩
 have e:(if i<0 then -i else i)=(i.natAbs:Int):=by split<;>omega
 rw[e]; exact h
def rLen(K:PySem.W.Frag):List V→Hp→VK→Prop:=fun xs H Q=>∃ p ys,xs=[.ref p]∧(SqL K H p ys∨SqT K H p ys)∧Q (.int ys.length) H
theorem call_lenN{X:Cx}:mM X (.builtin "len") (rLen X.K):=call_len_seq
theorem bV{K:PySem.W.Frag}{p:Addr}{ys:List V}{H:Hp}{Q:VK}(e:SqL K H p ys)(h:Q (.int ys.length) H):rLen K [.ref p] H Q:=⟨p,ys,rfl,.inl e,h⟩
def rOrd:List V→Hp→VK→Prop:=fun xs H Q=>∃ x:Str,xs=[.str x]∧x.length=1∧Q (.int (x.cps.getD 0 0:Nat)) H
theorem call_ordN{X:Cx}:mM X (.builtin "ord") rOrd:=call_ord
theorem w_ord{c:Nat}{H:Hp}{Q:VK}(h:Q (.int c) H):rOrd [.str ⟨#[c]⟩] H Q:=⟨_,rfl,rfl,h⟩
theorem aD{A B:Prop}(h:A):if true=true then A else B:=by rw[if_pos rfl]; exact h
theorem aG{A B:Prop}(h:B):if false=true then A else B:=by rw[if_neg Bool.false_ne_true]; exact h
theorem d4{K:PySem.W.Frag}{a C dx:Addr}{fs:List (Str×V)}{f:Str}{v:V}{H:Hp}{Q:VK}(h:H a=some (.ins C dx fs))(c:Cls K C)(n:cg K C f)(l:fs.lookup f=some v)(q:Q v H):Fld K (.ref a) f H Q:=⟨a,C,dx,fs,v,rfl,h,c,n,l,q⟩
theorem dh{K:PySem.W.Frag}{a C dx:Addr}{fs:List (Str×V)}{f:Str}{y:V}{H:Hp}{Q:Hp→Prop}(h:H a=some (.ins C dx fs))(c:Cls K C)(n:cg K C f)(l:fs.length<1000)(q:Q (upd H a (.ins C dx (eD f y fs)))):Sto K (.ref a) f y H Q:=⟨a,C,dx,fs,rfl,h,c,n,l,q⟩
theorem bO{H:Hp}{a:Addr}{o u:HO}:upd (upd H a o) a u=upd H a u:=by
 funext b
 unfold upd
 split<;>rfl
def wN(Pv:St→Hp→Prop)(μ:St→Hp→Nat)(m:Nat):St→Hp→Prop:=fun σ' H'=>Pv σ' H'∧μ σ' H' < m
theorem while_w{c:TT}{tb:TS}{D:Ends}{σ:St}{H:Hp}(Pv:St→Hp→Prop)(μ:St→Hp→Nat)(h0:Pv σ H)
 (hs:∀ σ H,Pv σ H→c σ H fun b H1=>if b=true then ∃ N:St→Hp→Prop,(∀ σ' H',N σ' H'→∃ m',m' < μ σ H∧(m' = μ σ' H'∧Pv σ' H'))∧tb { D with nx:=N,ct:=N,bk:=D.nx } σ H1 else D.nx σ H1):tWhile c tb D σ H :=
 ⟨fun m σ H=>m=μ σ H∧Pv σ H,⟨_,rfl,h0⟩,by
  rintro m σ H ⟨rfl,p⟩
  exact hs σ H p⟩
theorem w_turn{Pv:St→Hp→Prop}{μ:St→Hp→Nat}{m:Nat}{tb:TS}{D:Ends}{σ:St}{H1:Hp}(h:tb { D with nx:=wN Pv μ m,ct:=wN Pv μ m,bk:=D.nx } σ H1) :
  ∃ N:St→Hp→Prop,(∀ σ' H',N σ' H'→∃ m',m' < m∧(m' = μ σ' H'∧Pv σ' H'))∧tb { D with nx:=N,ct:=N,bk:=D.nx } σ H1 :=
 ⟨_,fun σ' H' ⟨p,l⟩=>⟨_,l,rfl,p⟩,h⟩
def ixI(σ:List (Option V))(i:Nat):Nat:=match σ[i]? with
 | some (some (.int y))=>y.natAbs
 | _=>0
end L2
namespace L2
open PySem PySem.Spec PyProof.Rows
open Builtin Builtin.Str Builtin.Int
def NoDig(h:Heap):Prop:=∃ mc,h.Ns cStatics mc∧mc "sys.int_max_str_digits" = none
section
variable {prog:Program}{w:World}{A:Around}{E:Value→Shared→Prop}{s:Shared}
theorem over_big{M:Model}{A:Around}{E:Value→Shared→Prop}{s:Shared}{a:Int}{Q:Option Nat→Shared→Prop}(ha:a.natAbs.log2<12900)(hd:NoDig s.heap)(h:Q none s):wpAny M A (overDigitLimit? a) Q E s:=by
 unfold overDigitLimit?
 by_cases h1:a.natAbs.log2<1920
 ·rw[if_pos h1]
  exact wpAny_pure h
 ·rw[if_neg h1]
  obtain⟨mc,hn,hm⟩:=hd
  refine wpAny_bind (m:=intMaxStrDigits) ?_
  unfold intMaxStrDigits
  refine wpAny_bind (wpAny_nsGet hn ?_)
  rw[hm]
  refine wpAny_pure ?_
  have h2:¬ a.natAbs.log2 / 30+1 > 1000:=by omega
  show wpAny M A (if a.natAbs.log2 / 30+1 > 1000 then _ else _) Q E s
  rw[if_neg h2]
  have h3:((4300:Nat)==0 || decide (a.natAbs.log2<3*4300))=true:=by
   have:a.natAbs.log2<3*4300:=by omega
   simp[this]
  show wpAny M A (if ((4300:Nat)==0 || decide (a.natAbs.log2<3*4300))=true then _ else _) Q E s
  rw[if_pos h3]
  exact wpAny_pure h
theorem meets_int_repr(a:Int)(t:Tok)(ha:a.natAbs.log2<12900)(hx:(Str.ofString (toString a)).length≤sizeLine) :
  Meets («int.__repr__» ⟨[.int a t],[]⟩) (fun _ R s=>NoDig s.heap∧R (.ok (.ret (.str (toString a) s.toks))) { s with toks:=s.toks+1 }):=by
 refine Meets.of_wp fun prog w A R s h=>?_
 obtain⟨hd,h⟩:=h
 unfold «int.__repr__»
 show wpAny _ _ (do let r ← overDigitLimit? a; _) _ _ s
 refine wpAny_bind (over_big ha hd ?_)
 exact wpAny_bind (wpAny_mkStr (wpAny_pure ⟨_,rfl,h⟩) hx)
theorem object_str_int{a:Int}{t:Tok}{Q:Value→Shared→Prop}(ha:a.natAbs.log2<12900)(hx:(Str.ofString (toString a)).length≤sizeLine)(hd:NoDig s.heap)(h:Q (.str (toString a) s.toks) { s with toks:=s.toks+1 }) :
  wpAny (model prog w) A (call (.builtin "object.__str__") [.int a t]) Q E s:=by
 have hv:[Value.int a t].any Value.onHeap=false:=rfl
 refine wpAny_call_entry F.slot_int_str (typeIs_int s a t) F.entry_object_str ?_ (args_object_str _)
 unfold Builtin.«object.__str__»
 refine wpAny_bind (m:=slotArgs "__str__" 0 _) (wpAny_pure ?_)
 simp only[cRoomFor,hv,Bool.false_eq_true,if_false,pure_bind]
 refine wpAny_bind (m:=callSpecialIfBound? (.int a t) (Str.ofString "__repr__")) (wpAny_callSpecialIfBound?_slot (name:=Str.ofString "__repr__") (typeIs_int s a t) F.slot_int_repr
  (call_meets F.slot_int_repr (typeIs_int s a t) F.entry_int_repr (F.args_int_repr_1 _) (meets_int_repr a t ha hx) ⟨hd,?_⟩))
 exact wpAny_pure ⟨_,rfl,h⟩
theorem strOf_int{a:Int}{t:Tok}{Q:Value→Shared→Prop}(ha:a.natAbs.log2<12900)(hx:(Str.ofString (toString a)).length≤sizeLine)(hd:NoDig s.heap)(h:Q (.str (toString a) s.toks) { s with toks:=s.toks+1 }) :
  wpAny (model prog w) A (strOf (.int a t)) Q E s:=by
 have hv:[Value.int a t].any Value.onHeap=false:=rfl
 have he:isExactStr (.int a t)=false:=rfl
 unfold Builtin.Str.strOf
 rw[he]
 simp only[cRoomFor,hv,Bool.false_eq_true,if_false,pure_bind]
 refine wpAny_bind (m:=callSpecial? (.int a t) (Str.ofString "__str__")) (wpAny_callSpecial?_slot (name:=Str.ofString "__str__") (typeIs_int s a t) F.slot_int_str (object_str_int ha hx hd ?_))
 exact wpAny_pure h
theorem str_of_int_big{a:Int}{t:Tok}{Q:Value→Shared→Prop}(ha:a.natAbs.log2<12900)(hx:(Str.ofString (toString a)).length≤sizeLine)(hd:NoDig s.heap)(h:Q (.str (toString a) s.toks) { s with toks:=s.toks+1 }) :
  wpAny (model prog w) A (call (.type "str") [.int a t]) Q E s :=
 callType_new F.called_str (by decide) (F.typeCall_str_1 _) (F.newCall_str_1 _) (fun obj=>F.args_object_init_2 obj _) F.entry_str_new
  (meets_str_new (S:=fun _ R s=>NoDig s.heap∧R (.ok (.ret (.str (toString a) s.toks))) { s with toks:=s.toks+1 }) fun _ _ _ _ s hq =>
   strOf_int ha hx hq.1 hq.2) ⟨hd,typeIs_str _ _ _,h⟩
end
theorem mz{a:Int}{k:Nat}(h:a.natAbs<2^k):(Str.ofString (toString a)).length≤k+2:=by
 rw[PySem.ofString_length]
 have e:=int_text_length_le10 (k:=k+1) (by omega) (show a.natAbs<10^(k+1) from by
  refine Nat.lt_of_lt_of_le h (Nat.le_trans (Nat.pow_le_pow_left (by omega:2≤10) k) (Nat.pow_le_pow_right (by omega) (by omega))))
 omega
def rStr:List V→Hp→VK→Prop:=fun xs H Q=>∃ i:Int,xs=[.int i]∧i.natAbs<2^12900∧Q (.str (toString i)) H
theorem fB{X:Cx}:mM X (.type "str") rStr:=by
 intro pins s σ H xs us Q I r h
 obtain⟨i,rfl,hz,q⟩:=h
 obtain⟨u,rfl,t,rfl⟩:=vals1 r
 have hlog:i.natAbs.log2<12900:=by
  rcases Nat.eq_zero_or_pos i.natAbs with h0 | hp
  ·rw[h0]; decide
  ·exact(Nat.log2_lt (Nat.ne_of_gt hp)).mpr hz
 have hl:=mz hz
 have hsz:(Str.ofString (toString i)).length≤sizeLine:=by
  have:sizeLine=16777216:=sizeLine_eq
  omega
 obtain⟨mc,h1,h2⟩:=I.ok.mod.digits
 exact str_of_int_big hlog hsz ⟨mc,h1.keeps I.bk,h2⟩ ⟨.str _,H,I.tok _,⟨_,rfl⟩,q⟩
theorem w_str{i:Int}{H:Hp}{Q:VK}(hz:i.natAbs<2^12900)(h:Q (.str (toString i)) H):rStr [.int i] H Q:=⟨i,rfl,hz,h⟩
end L2
namespace PySem
open Sem (wp)
open AutoSeq1 (wpAny_loadPart')
section
variable {prog:Program}{w:World}{A:Around}{E:Value→Shared→Prop}{s:Shared}
theorem callType_meetsK{T newId initId:String}{Bn Bi:Builtin}{args:List Value}{kw:List (Str×Value)}{S:Spec}{Q Q₁:Value→Shared→Prop}(ft:TypeCalled T newId initId)
 (hct:checkTypeCall T ⟨args,kw⟩=pure ())(hcn:checkBuiltinCall newId ⟨.type T::args,kw⟩=pure ())
 (entryN:entryFor table newId=some Bn)(entryI:entryFor table initId=some Bi)(g:Meets (Bn ⟨.type T::args,kw⟩) S)
 (h:S A.in1 (wants Q₁ E) s)
 (hnext:∀ obj s₁,Q₁ obj s₁→s₁.TypeIs obj T∧argsOk initId ⟨obj::args,kw⟩∧∃ Si,Meets (Bi ⟨obj::args,kw⟩) Si∧Si A.in1 (wants (fun r s₂=>r = .none∧Q obj s₂) E) s₁) :
  wpAny (model prog w) A (call (.type T) args kw) Q E s:=by
 obtain⟨c,tl,hmro⟩:=ft.mro
 have hmade:=ft.made
 have hsub:=ft.sub
 refine wpAny_call (codeAny_of_tree ?_)
 show wpAny _ _ (callAny (.type T) _) _ _ _
 refine wpAny_pure ⟨Code.quiet_builtin _ (by decide +kernel),codeAny_builtin F.entry_type_call ?_⟩
 rw[Around.under_plain (weight_type_call_type T args kw) (units_type_call_type T args kw)]
 have h1:=ft.notType
 have h2:=ft.canCreate
 repeat (any_goals (first | assumption | wp_step))
 refine codeAny_mono (codeAny_call_builtin ft.plain entryN (wpAny_of_eq hcn (g prog w A.in1 _ s h))) fun r s₁ hr=>?_
 cases r with
 | error e=>exact hr
 | ok fl =>
  cases fl with
  | ret obj =>
   obtain⟨hT,hok,Si,gi,hsi⟩:=hnext _ _ hr
   have hli:=ft.init.lookup
   have hbi:=ft.init.bind obj
   repeat (any_goals (first | assumption | wp_step))
   refine codeAny_mono (codeAny_call_builtin ft.init.plain entryI (ft.init.check _ _ _ _ _ _ _ _ hT hok (gi prog w A.in1 _ s₁ hsi))) fun r₂ s₂ hr₂=>?_
   cases r₂ with
   | error e=>exact hr₂
   | ok fl₂ =>
    cases fl₂ with
    | ret r =>
     obtain⟨rfl,hq⟩:=hr₂
     repeat (any_goals (first | assumption | wp_step))
    | _=>exact hr₂.elim
  | _=>exact hr.elim
theorem oC{T newId:String}{self a:Value}{kw:List (Str×Value)}(hl:typeLookup (.type T) "__init__" = pure (some (.builtin "object.__init__")))
 (hm:Bind.madeBy (.type T)=pure (some newId))(hne:(some newId != some "object.__new__")=true) :
  Meets (Builtin.«object.__init__» ⟨[self,a],kw⟩) (fun _ R s=>s.TypeIs self T∧R (.ok (.ret .none)) s):=by
 refine Meets.of_wp fun prog w A R s hs=>?_
 obtain⟨hT,hq⟩:=hs
 repeat (any_goals (first | assumption | wp_step))
 exact⟨_,rfl,hq⟩
end
theorem kv(a b:Value):checkTypeCall "enumerate" ⟨[a],[("start",b)]⟩=pure ():=by kernel_rfl
theorem mB(a b:Value):checkBuiltinCall "enumerate.__new__" ⟨[.type "enumerate",a],[("start",b)]⟩=pure ():=by kernel_rfl
theorem kx(l:Addr)(items:Array Value)(n:Nat)(dct:Option Addr)(sl:Array (Option Value))(t:Tok) :
  Meets (Builtin.«enumerate.__new__» ⟨[.type "enumerate",.ref l],[("start",.int 1 t)]⟩) (fun _ R s=>s.heap.get? l=some { cls:=.type "list",dict:=dct,data:=.seq items n,slots:=sl } ∧
   R (.ok (.ret (.ref (s.heap.push { cls:=.type "list_iterator",data:=.fields #[.ref l,.int 0 0] }).objs.size)))
    { s with heap:=(s.heap.push { cls:=.type "list_iterator",data:=.fields #[.ref l,.int 0 0] }).push { cls:=.type "enumerate",data:=.fields #[.none,.bool false,.ref s.heap.objs.size,rawInt 1,.none,.none] } }) :=
 .of_wp fun prog w A R s h=>by
  obtain⟨hp,g,d,tk,os⟩:=s; obtain⟨hl,h⟩:=h
  have hsub:=sub_enumerate
  have hL:Heap.IsList (Shared.heap ⟨hp,g,d,tk,os⟩) l items:=⟨_,hl,rfl,n,rfl⟩
  have f1:=AutoSeq1.idx_int
  wp_walk using wpAny_loadPart' hl
  refine wpAny_stack_any fun st=>wpAny_pure ?_
  split
  ·rename_i c _ _ _ _ _
   cases(c==Value.type "enumerate")
   ·wp_walk using wpAny_loadPart' hl,wpAny_pyIter_list hL
    exact⟨_,rfl,h⟩
   ·wp_walk using wpAny_loadPart' hl,wpAny_pyIter_list hL
    exact⟨_,rfl,h⟩
  ·wp_walk using wpAny_loadPart' hl,wpAny_pyIter_list hL
   exact⟨_,rfl,h⟩
end PySem
namespace L2
open PySem PySem.Spec PyProof.Rows
section
variable {prog:Program}{w:World}{A:Around}{E:Value→Shared→Prop}{s:Shared}
theorem callWith_typeK{M:Model}{A:Around}{E:Value→Shared→Prop}{s:Shared}{pos:Pos}{T:String}{args:List (Bool×Sem Value)}{kws:List (Option Str×Sem Value)}{Q:Value→Shared→Prop}
 (hplain:(args.any (·.1) || kws.any (·.1.isNone))=false)
 (h:wpAny M A (evalArgs (.type T) true args kws) (fun a s₁=>wpAny M A (call (.type T) a.pos a.kw) Q E s₁) E s) :
  wpAny M A (callWith pos (.type T) [] args kws) Q E s:=by
 unfold callWith
 refine wpAny_bind (wpAny_holding (wpAny_mono h (fun a s₁ h₁=>wpAny_bind (wpAny_standAt ?_)) fun _ _ x=>x))
 simp only[hplain,List.nil_append]
 refine wpAny_bind (wpAny_pure ?_)
 exact wpAny_bind (wpAny_mono h₁ (fun r s₂ hr=>wpAny_bind (wpAny_holding (wpAny_point (wpAny_pure hr)))) fun _ _ x=>x)
theorem ky{l:Addr}{items:Array Value}{t:Tok}{Q:Value→Shared→Prop}(hL:s.heap.IsList l items)
 (h:∀ h',IsEnum h' (s.heap.objs.size+1) s.heap.objs.size 1 .none→h'.IsListIter s.heap.objs.size l 0→h'.objs.size=s.heap.objs.size+2 →
   (∀ b o,s.heap.get? b=some o→h'.get? b=some o)→Q (.ref (s.heap.objs.size+1)) { s with heap:=h' }) :
  wpAny (model prog w) A (call (.type "enumerate") [.ref l] [("start",.int 1 t)]) Q E s:=by
 obtain⟨⟨c,dct,dt,sl⟩,hl,hc,n,hd⟩:=hL
 replace hc:c = .type "list" := hc
 replace hd:dt = .seq items n:=hd
 subst hc hd
 have hargs:∀ obj,argsOk "object.__init__" ⟨[obj,.ref l],[("start",.int 1 t)]⟩:=fun obj=>by
  unfold argsOk
  kernel_rfl
 refine callType_meetsK F.called_enumerate (kv _ _) (mB _ _) F.entry_enumerate_new F.entry_object_init (kx l items n dct sl t)
  (Q₁:=fun obj s₁=>s₁.TypeIs obj "enumerate" ∧ Q obj s₁) ⟨hl,?_⟩ fun obj _ hq=>⟨hq.1,hargs obj,_,oC F.called_enumerate.init.lookup F.called_enumerate.made (by decide),hq.1,rfl,hq.2⟩
 have hz:(s.heap.push { cls:=.type "list_iterator",data:=.fields #[.ref l,.int 0 0] }).objs.size=s.heap.objs.size+1:=Heap.size_push ..
 show _∧_
 rw[hz]
 have he:IsEnum ((s.heap.push { cls:=.type "list_iterator",data:=.fields #[.ref l,.int 0 0] }).push
   { cls:=.type "enumerate",data:=.fields #[.none,.bool false,.ref s.heap.objs.size,rawInt 1,.none,.none] }) (s.heap.objs.size+1) s.heap.objs.size 1 .none:=by
  have:=Heap.get?_push_size (s.heap.push { cls:=.type "list_iterator",data:=.fields #[.ref l,.int 0 0] })
   (o:={ cls:=.type "enumerate",data:=.fields #[.none,.bool false,.ref s.heap.objs.size,rawInt 1,.none,.none] }) rfl
  rw[hz] at this; exact this
 refine⟨⟨_,he,rfl⟩,h _ he ⟨_,Heap.get?_push_of_some _ (Heap.get?_push_size _ rfl),rfl,rfl⟩ (by rw[Heap.size_push,hz]) fun b o x=>Heap.get?_push_of_some _ (Heap.get?_push_of_some _ x)⟩
end
theorem Draws.shift{prog:Program}{w:World}{A:Around}{it:Addr}{fp:List Addr}{n:Nat}{P:Nat→Value→Prop}{St:Nat→Heap→Prop}(D:Draws prog w A it fp n P St) :
  Draws prog w A it fp (n+1) (fun j x=>∃ i,j=i+1∧P i x) (fun j h=>∃ i,j=i+1∧St i h) where
 live:=fun j h ⟨i,_,st⟩=>D.live i h st
 frame:=fun j h h' ⟨i,e,st⟩ k=>⟨i,e,D.frame i h h' st k⟩
 item:=fun j s Q E hj ⟨i,e,st⟩ hQ=>D.item i s Q E (by omega) st fun x h' tk hp st' sb=>hQ x h' tk ⟨i,e,hp⟩ ⟨i+1,by omega,st'⟩ sb
 done:=fun s Q E ⟨i,e,st⟩ hE=>by
  have h:i=n:=by omega
  subst h
  exact D.done s Q E st hE
def Ite1(K:PySem.W.Frag)(a:Addr):It :=
 ⟨fun i H=>∃ (xs:List V) (x:V),SqL K H a xs∧xs[i]? = some x,fun i H v H'=>∃ T x,v = .ref T∧H T=none∧H' = upd H T (.tup [.int (i+1:Nat),x])∧∀ xs,SqL K H a xs→xs[i]? = some x,fun i H=>∃ xs:List V,SqL K H a xs∧xs.length=i⟩
theorem turn_enum1{P:Program}{w:World}{K:PySem.W.Frag}{elts:List Expr}{kk:Nat}{tpos:Pos}(a e it:Addr) :
  Turn P w K (.Tuple elts kk tpos) (Ite1 K a) [e,it] e (fun i h=>(∃ old,IsEnum h e it ((i+1:Nat):Int) old)∧h.IsListIter it a i∧e≠it) where
 mem:=by simp
 obj:=fun i h st b hb=>by
  obtain⟨⟨old,he⟩,⟨o,ho,hc,hd⟩,_⟩:=st
  have e':b=e∨b=it:=by simpa using hb
  rcases e' with z | z
  ·rw[z]; exact⟨_,he,fun v q=>nomatch q⟩
  ·rw[z]; exact⟨o,ho,fun v q=>by rw[hd] at q; cases q⟩
 keep:=fun i h h' st k=>let ⟨⟨old,he⟩,hi,hne⟩:=st; ⟨⟨old,k e (by simp) _ he⟩,hi.at fun o q=>k it (by simp) o q,hne⟩
 item:=by
  intro X hP hw hK hc i pins s σ H E I hf st hg
  subst hP hw hK
  obtain⟨⟨old,he⟩,hit,hne⟩:=st
  obtain⟨xs,x,hq,hx⟩:=hg
  obtain⟨its,rv,p,hz⟩:=I.list hq
  obtain⟨u,hu,ru⟩:=rv.get hx
  have hel:e<s.heap.objs.size:=Heap.lt_size he
  have hil:it<s.heap.objs.size:=by obtain⟨_,q,_⟩:=hit; exact Heap.lt_size q
  have hne2:e≠a:=fun q=>by
   obtain⟨oa,ea,ca,_⟩:=p.isList
   rw[← q,he] at ea
   cases ea
   have ca':Value.type "enumerate" = Value.type "list" := ca
   injection ca' with q'
   exact absurd q' (by decide)
  have hni:a≠it:=fun q=>by
   obtain⟨oa,ea,ca,_⟩:=p.isList
   obtain⟨oi,ei,ci,_⟩:=hit
   rw[q,ei] at ea
   cases ea
   rw[ci] at ca
   injection ca with q'
   exact absurd q' (by decide)
  have hlen:=rv.length
  have hxi:i<its.toArray.size:=by
   have:=(List.getElem?_eq_some_iff.mp hx).1
   rw[List.size_toArray]; omega
  refine wpAny_pyNext_enum_itemD (L2.Draws.shift (Draws.list (A:=X.A.in1) (I.ok.hd hc) it a hni its.toArray)) he ⟨i,rfl,hit,p.isList⟩ (by omega) hne (by simp[hne,hne2]) fun u' h' tk hP ho hit' hT hsz hk=>?_
  obtain⟨i',ei',hPx⟩:=hP
  obtain⟨i2,ei2,hit',hl'⟩:=hit'
  have hii:i' = i:=by omega
  subst hii
  have hi2:i2=i' + 1:=by omega
  subst hi2
  have huu:u' = u:=by
   have h2:its.toArray[i']? = some u:=by simpa using hu
   have h3:its.toArray[i']? = some u':=hPx
   rw[h2] at h3
   exact(Option.some.inj h3).symm
  subst huu
  refine⟨_,rfl,wpAny_letOwnedTupleGo_enum (s:={ s with heap:=h',toks:=tk+1 }) ho fun h'' he' sb=>?_⟩
  have hT2:h''.get? s.heap.objs.size=some { cls:=.type "tuple",data:=.seq #[.int ((i' + 1:Nat):Int) tk,u'] }:=(sb.2 _ (Nat.ne_of_gt hel)).trans hT
  have new:gr X.prog X.w (upd H s.heap.objs.size (.tup [.int (i' + 1:Nat),x])) h'' s.heap.objs.size (.tup [.int (i' + 1:Nat),x]) :=
   ⟨by show 2≤sizeLine; decide,[.int ((i' + 1:Nat):Int) tk,u'],.cons ⟨_,rfl⟩ (.cons ru .nil),⟨_,hT2,rfl,_,rfl⟩⟩
  have I1:Inv X pins σ (upd H s.heap.objs.size (.tup [.int (i' + 1:Nat),x])) { s with heap:=h'',toks:=tk+1 } :=
   I.sm (ch:=[e,it]) (fun b ob hb q=>(sb.2 b (fun z=>hb (by simp[z]))).trans (hk b ob (fun z=>hb (by simp[z])) (fun z=>hb (by simp[z])) q)) hf (Nat.le_refl _) new
  refine⟨.ref s.heap.objs.size,_,I1,rfl,⟨_,x,rfl,I.hok.fresh (Nat.le_refl _),rfl,fun ys hy=>by rw[I.mx hy hq]; exact hx⟩,⟨⟨u',?_⟩,hit'.at fun o q=>(sb.2 it (Ne.symm hne)).trans q,hne⟩,fun b hb=>?_⟩
  ·have e1:((i' + 1+1:Nat):Int)=((i' + 1:Nat):Int)+1:=by omega
   rw[e1]; exact he'
  ·have hb':b<s.heap.objs.size:=by
    have e':b=e∨b=it:=by simpa using hb
    rcases e' with z | z
    ·rw[z]; exact hel
    ·rw[z]; exact hil
   rw[ay (Nat.ne_of_lt hb')]
   exact(hf b hb).1
 done:=by
  intro X hP hw hK hc i pins s σ H E I hf st hg
  subst hP hw hK
  obtain⟨⟨old,he⟩,hit,hne⟩:=st
  obtain⟨xs,hq,hx⟩:=hg
  obtain⟨its,rv,p,hz⟩:=I.list hq
  obtain⟨f0,f1,f2,f3,f4,f5⟩:=hf it (by simp)
  have hl:=rv.length
  have hni:a≠it:=fun q=>by
   obtain⟨oa,ea,ca,_⟩:=p.isList
   obtain⟨oi,ei,ci,_⟩:=hit
   rw[q,ei] at ea
   cases ea
   rw[ci] at ca
   injection ca with q'
   exact absurd q' (by decide)
  have hie:i=its.toArray.size:=by rw[List.size_toArray]; omega
  subst hie
  exact wpAny_pyNext_enum_endD (L2.Draws.shift (Draws.list (A:=X.A.in1) (I.ok.hd hc) it a hni its.toArray)) he ⟨_,rfl,hit,p.isList⟩ fun h' eb=>⟨rfl,I.turned (t':=s.toks) (fun b o hb q=>eb b o hb q) f0 f1 f3 f4 f5⟩
 self:=fun A i s Q E st h=>let ⟨⟨_,he⟩,_⟩:=st; wpAny_pyIter_enum he h
def iEnum1(K:PySem.W.Frag)(ta:TA):TI:=fun σ H R=>ta σ H fun vs H1=>∃ a xs,vs=[.ref a]∧SqL K H1 a xs∧R (Ite1 K a) H1
theorem pi_enum1{X:Cx}{e:Expr}{ta:TA}{p pos tpos kpos cp:Pos}{ci:Nat}{elts:List Expr}{kk:Nat}(hg:Gl X "enumerate")(hm:X.mg "enumerate" = none)(ha:PA X [e] ta)(hs:starEach [e] X.env=[(false,eval e X.env)]:=by rfl)(hpl:((backTo pos (starEach [e] X.env)).any (·.1) || (backToKw pos (keywordEach [⟨some "start",.Constant (.int 1) ci cp,kpos⟩] X.env)).any (·.1.isNone))=false:=by rfl) :
  PI X (.Tuple elts kk tpos) (.Call (.Name "enumerate" p) [e] [⟨some "start",.Constant (.int 1) ci cp,kpos⟩] pos) (iEnum1 X.K ta):=by
 intro pins s σ H R I h
 refine wpAny_Call_Name_kw (ld_blt I hg hm boot_enumerate (callWith_typeK hpl (PyProof.Rows.evalArgs_kw2 rfl (thn (ha pos pins s σ H _ I h) fun us s1 ⟨vs,H1,I1,r1,q1⟩=>?_) hs)))
 refine wpAny_evalAll_cons (wpAny_bind (wpAny_Constant_int (wpAny_bind (wpAny_standAt (wpAny_pure (wpAny_evalAll_nil ?_))))))
 obtain⟨a,xs,ex,hq,q⟩:=q1
 subst ex
 cases r1 with
 | cons r rr =>
  cases rr
  cases r
  have I1:=I1.tok (s1.toks+1)
  obtain⟨its,rv,p',hz⟩:=I1.list hq
  refine ky p'.isList fun h' he hit hsz hk=>wpAny_pyIter_enum he ?_
  have I2:Inv X pins σ H1 { s1 with heap:=h',toks:=s1.toks+1 }:=I1.kept (t':=s1.toks+1) hk
  refine⟨s1.heap.objs.size+1,[s1.heap.objs.size+1,s1.heap.objs.size],_,_,H1,rfl,I2,turn_enum1 a (s1.heap.objs.size+1) s1.heap.objs.size,⟨⟨.none,he⟩,hit,Nat.succ_ne_self _⟩,fun b hb=>?_,q⟩
  have e':b=s1.heap.objs.size+1∨b=s1.heap.objs.size:=by simpa using hb
  have hle:s1.heap.objs.size≤b:=by
   rcases e' with z | z
   ·rw[z]; exact Nat.le_add_right _ _
   ·rw[z]; exact Nat.le_refl _
  exact I1.fpOk hle (I1.hok.fresh hle)
def rInsert:V→List V→Hp→VK→Prop:=fun x vs H Q=>∃ l xs y,∃ i:Nat,x = .ref l∧vs=[.int i,y]∧H l=some (.lst xs)∧i≤xs.length∧xs.length<1000000∧Q .non (upd H l (.lst (xs.take i++y::xs.drop i)))
theorem Vals.dropN:∀ {xs:List V} {us:List Value} (n:Nat),Vals xs us→Vals (xs.drop n) (us.drop n)
 | _,_,0,r=>r
 | _,_,_+1,.nil=>.nil
 | _,_,n+1,.cons _ t=>Vals.dropN n t
theorem mt_insert{X:Cx}:MtM X "list.insert" rInsert:=by
 intro pins s σ H x vs v us Q I rx rv h
 obtain⟨l,xs,y,i,rfl,rfl,hH,hi,hz1,q⟩:=h
 cases rx
 obtain⟨u,w2,rfl,⟨t,rfl⟩,ru⟩:=rv.two
 obtain⟨z,its,n,r,hl,e⟩:=I.lstM hH
 have hsl:sizeLine=16777216:=sizeLine_eq
 have hfit:¬ (!Builtin.List.listFitsIndex ((i:Nat):Int))=true:=by
  have:Builtin.List.listFitsIndex ((i:Nat):Int)=true:=by
   unfold Builtin.List.listFitsIndex
   have h1:(-(2^63:Int)≤((i:Nat):Int)):=by omega
   have h2:(((i:Nat):Int)<2^63):=by omega
   rw[decide_eq_true h1,decide_eq_true h2]
   rfl
  simp[this]
 have hsz:its.toArray.size≤sizeLine:=by rw[List.size_toArray,← hl]; exact z
 generalize hj:((i:Nat):Int)=j at *
 have g:=AutoSeq1.list_insert_list_int_val_1 l its.toArray n j t w2 hfit hsz
 refine call_meets F.slot_list_insert ⟨_,e,rfl⟩ F.entry_list_insert (F.args_list_insert_3 _ _ _) g ⟨e,?_⟩
 subst hj
 have hv:Vals (xs.take i++y::xs.drop i) (its.take i++w2::its.drop i):=Vals.append (Vals.take i r) (Paired.cons ru (Vals.dropN i r))
 have hlen:(xs.take i++y::xs.drop i).length≤sizeLine:=by
  rw[List.length_append,List.length_take,List.length_cons,List.length_drop,hsl]
  omega
 refine⟨.non,_,I.lset (its':=its.take i++w2::its.drop i) hH e ?_ hv hlen,rfl,q⟩
 ·have hk:(if ((i:Nat):Int)<0 then(((i:Nat):Int)+((its.toArray.size:Nat):Int)).toNat else min ((i:Nat):Int).toNat its.toArray.size)=i:=by
   rw[if_neg (by omega),List.size_toArray]
   omega
  show(its.toArray.extract 0 (if ((i:Nat):Int)<0 then(((i:Nat):Int)+((its.toArray.size:Nat):Int)).toNat else min ((i:Nat):Int).toNat its.toArray.size)).push w2++its.toArray.extract (if ((i:Nat):Int)<0 then(((i:Nat):Int)+((its.toArray.size:Nat):Int)).toNat else min ((i:Nat):Int).toNat its.toArray.size)=_
  rw[hk]
  simp
  exact List.take_of_length_le (by rw[List.length_drop]; exact Nat.le_refl _)
def tCallX(R:Addr→Sp→Prop)(te:TE)(t:TA):TE:=fun σ H Q=>te σ H fun x H1=>∃ f sp,x = .ref f∧R f sp∧t σ H1 fun vs H2=>sp vs H2 Q E0
theorem pe_callX{X:Cx}{R:Addr→Sp→Prop}{fe e:Expr}{es:List Expr}{te:TE}{t:TA}{pos:Pos}
 (hR:∀ f sp,R f sp→∃ k fd ps,a9 X.prog X.w X.K X.mg X.base CX0 k f fd ps sp∧iP k X.A∧PySem.W.keepIn X.K (.ref f)=true∧Binds X.K fd ps [])
 (hf:PE X fe te)(ha:PA X (e::es) t)(hcall:∀ {Q:Value→Shared→Prop} {E:Value→Shared→Prop} {s:Shared},wpAny (model X.prog X.w) X.A (eval fe X.env) (fun f s₁=>wpAny (model X.prog X.w) X.A (callWith pos f [] (backTo pos (starEach (e::es) X.env)) (backToKw pos (keywordEach [] X.env))) Q E s₁) E s→wpAny (model X.prog X.w) X.A (eval (.Call fe (e::es) [] pos) X.env) Q E s)
 (he:starEach (e::es) X.env=(false,eval e X.env)::starEach es X.env:=by rfl)(hpl:(backTo pos (starEach es X.env)).any (·.1)=false:=by rfl) :
  PE X (.Call fe (e::es) [] pos) (tCallX R te t):=by
 intro pins s σ H Q I h
 refine hcall (thn (hf pins s σ H _ I h) fun fv s1 ⟨x,H1,I1,rx,f,sp,ex,r,q⟩=>?_)
 subst ex
 obtain rfl:fv=Value.ref f:=rx
 obtain⟨k,fd,ps,F,hr,hk,hb⟩:=hR f sp r
 refine PySem.W.callWith_K (h₀:=X.base) I1.ok.mod.kin hk (thn (ha pos pins s1 σ H1 _ I1 q) fun us s2 ⟨vs,H2,I2,rv,q2⟩=>⟨I2.kIn,?_⟩) he hpl
 have q3:sp (vs++[]) H2 Q E0:=by rw[List.append_nil]; exact q2
 exact run_fn (ds:=[]) (dvs:=[]) F hr hb .nil eA I2 rv q3
end L2
namespace L2
open PySem PySem.Spec PyProof.Rows
theorem for_gen{J:It}{n:Nat}{g:TG}{tb:TS}{D:Ends}{σ:List (Option V)}{H:Hp}(Pv:Nat→List (Option V)→Hp→Prop)(h0:Pv 0 σ H)
 (hgo:∀ i σ H,i<n→Pv i σ H→J.go i H)(hstop:∀ σ H,Pv n σ H→J.stop n H)
 (hs:∀ i σ H x H',i<n→Pv i σ H→J.yld i H x H'→g x σ H' fun σ2 H2=>tb { D with nx:=Pv (i+1),ct:=Pv (i+1),bk:=D.nx } σ2 H2)(hd:∀ σ H,Pv n σ H→D.nx σ H) :
  ∃ W:Nat→Nat→List (Option V)→Hp→Prop,(∃ m,W 0 m σ H)∧∀ i m σ H,W i m σ H →
   (J.stop i H∧D.nx σ H)∨(J.go i H∧∃ N:List (Option V)→Hp→Prop,(∀ σ' H',N σ' H'→∃ m',m' < m∧W (i+1) m' σ' H')∧∀ x H',J.yld i H x H'→g x σ H' fun σ2 H2=>tb { D with nx:=N,ct:=N,bk:=D.nx } σ2 H2):=by
 refine⟨fun i m σ H=>m=n-i∧i≤n∧Pv i σ H,⟨n,by simp,Nat.zero_le _,h0⟩,?_⟩
 rintro i m σ H ⟨rfl,hi,p⟩
 by_cases hlt:i<n
 ·exact .inr ⟨hgo i σ H hlt p,Pv (i+1),fun σ' H' p'=>⟨n-(i+1),by omega,rfl,hlt,p'⟩,fun x H' y=>hs i σ H x H' hlt p y⟩
 ·have e:i=n:=by omega
  subst e
  exact .inl ⟨hstop σ H p,hd σ H p⟩
theorem lc_gen{J:It}{n:Nat}{g:TG}{tt:TT}{te:TE}{vs:List Nat}{σ:List (Option V)}{H1:Hp}{D:Addr}{Qd:Hp→Prop}(Pv:Nat→Hp→Prop)(h0:Pv 0 (upd H1 D (.lst [])))
 (hgo:∀ i H,i<n→Pv i H→J.go i H)(hstop:∀ H,Pv n H→J.stop n H)
 (hs:∀ i H x H',i<n→Pv i H→J.yld i H x H'→g x (wipe σ vs) H' fun σ2 H2=>wipe σ2 vs=wipe σ vs∧tt σ2 H2 fun b H3 =>
   if b=true then te σ2 H3 fun y H4=>∃ acc,H4 D=some (.lst acc)∧acc.length<sizeLine∧Pv (i+1) (upd H4 D (.lst (acc++[y]))) else Pv (i+1) H3)(hd:∀ H,Pv n H→Qd H) :
  ∃ W:Nat→Nat→Hp→Prop,(∃ m,W 0 m (upd H1 D (.lst [])))∧∀ i m H,W i m H →
   (J.stop i H∧Qd H)∨(J.go i H∧∃ Nx:Hp→Prop,(∀ H',Nx H'→∃ m',m' < m∧W (i+1) m' H')∧∀ x H',J.yld i H x H'→g x (wipe σ vs) H' fun σ2 H2=>wipe σ2 vs=wipe σ vs∧tt σ2 H2 fun b H3 =>
    if b=true then te σ2 H3 fun y H4=>∃ acc,H4 D=some (.lst acc)∧acc.length<sizeLine∧Nx (upd H4 D (.lst (acc++[y]))) else Nx H3):=by
 refine⟨fun i m H=>m=n-i∧i≤n∧Pv i H,⟨n,by simp,Nat.zero_le _,h0⟩,?_⟩
 rintro i m H ⟨rfl,hi,p⟩
 by_cases hlt:i<n
 ·exact .inr ⟨hgo i H hlt p,Pv (i+1),fun H' p'=>⟨n-(i+1),by omega,rfl,hlt,p'⟩,fun x H' y=>hs i H x H' hlt p y⟩
 ·have e:i=n:=by omega
  subst e
  exact .inl ⟨hstop H p,hd H p⟩
section
variable {σ:List (Option V)}{H:Hp}{D:Ends}{Q:VK}
theorem w_for{wi:TI}{g:TG}{tb:TS}(h:wi σ H fun J H1=>∃ W:Nat→Nat→List (Option V)→Hp→Prop,(∃ m,W 0 m σ H1)∧∀ i m σ H,W i m σ H →
 (J.stop i H∧D.nx σ H)∨(J.go i H∧∃ N:List (Option V)→Hp→Prop,(∀ σ' H',N σ' H'→∃ m',m' < m∧W (i+1) m' σ' H')∧∀ x H',J.yld i H x H'→g x σ H' fun σ2 H2=>tb { D with nx:=N,ct:=N,bk:=D.nx } σ2 H2)):tFor wi g tb D σ H:=h
theorem w_iList{K:PySem.W.Frag}{te:TE}{R:It→Hp→Prop}(h:te σ H fun v H1=>∃ a,v = .ref a∧(∃ xs,SqL K H1 a xs)∧R (Itl K a) H1):iList K te σ H R:=h
theorem aV{K:PySem.W.Frag}{p:Addr}{xs:List V}{i:Int}{v:V}(hs:SqL K H p xs)(he:atI xs i=some v)(h:Q v H):rIxL K (.ref p) (.int i) H Q:=⟨p,xs,i,v,rfl,rfl,hs,he,h⟩
theorem b9{K:PySem.W.Frag}{p:Addr}{xs:List V}{i:Int}{v:V}(hs:SqT K H p xs)(he:atI xs i=some v)(h:Q v H):rIxT K (.ref p) (.int i) H Q:=⟨p,xs,i,v,rfl,rfl,hs,he,h⟩
theorem w_lst{t:TA}(h:t σ H fun xs H1=>xs.length≤sizeLine∧∀ p,H1 p=none→Q (.ref p) (upd H1 p (.lst xs))):tLst t σ H Q:=h
theorem w_tup{t:TA}(h:t σ H fun xs H1=>xs.length≤sizeLine∧∀ p,H1 p=none→Q (.ref p) (upd H1 p (.tup xs))):tTup t σ H Q:=h
theorem w_bm{K:PySem.W.Frag}{T:String}{r:V→List V→Hp→VK→Prop}{to:TE}{t:TA}(h:to σ H fun x H1=>tyV K T x H1∧t σ H1 fun xs H2=>r x xs H2 Q):tBM K T r to t σ H Q:=h
theorem w_bm0{K:PySem.W.Frag}{T:String}{r:V→List V→Hp→VK→Prop}{to:TE}(h:to σ H fun x H1=>tyV K T x H1∧r x [] H1 Q):tBM0 K T r to σ H Q:=h
theorem ty_list{K:PySem.W.Frag}{a:Addr}{xs:List V}(h:SqL K H a xs):tyV K "list" (.ref a) H:=.inl ⟨rfl,_,h⟩
theorem gF{l:Addr}{xs:List V}{y:V}(h:H l=some (.lst xs))(hz:xs.length<sizeLine)(q:Q .non (upd H l (.lst (xs++[y])))):rAppend (.ref l) [y] H Q:=⟨l,xs,y,rfl,rfl,h,hz,q⟩
theorem ji{l b:Addr}{xs zs:List V}(h:H l=some (.lst xs))(hb:H b=some (.lst zs))(hz:xs.length+zs.length≤sizeLine)(q:Q .non (upd H l (.lst (xs++zs)))):rExtend (.ref l) [.ref b] H Q:=⟨l,b,xs,zs,rfl,rfl,h,hb,hz,q⟩
theorem w_pop{l:Addr}{xs:List V}{y:V}(h:H l=some (.lst xs))(hy:xs[xs.length-1]? = some y)(q:Q y (upd H l (.lst xs.dropLast))):rPop (.ref l) [] H Q:=⟨l,xs,y,rfl,rfl,h,hy,q⟩
theorem rf{l b:Addr}{xs zs:List V}(h:H l=some (.lst xs))(hb:H b=some (.lst zs))(hz:xs.length+zs.length≤sizeLine)(q:∀ p,H p=none→Q (.ref p) (upd H p (.lst (xs++zs)))):rCat (.ref l) (.ref b) H Q:=⟨l,b,xs,zs,rfl,rfl,h,hb,hz,q⟩
theorem w_sl{r:V→Option Int→Option Int→Hp→VK→Prop}{te:TE}{tl th:TO}(h:te σ H fun x H1=>tl σ H1 fun l H2=>th σ H2 fun u H3=>r x l u H3 Q):tSl r te tl th σ H Q:=h
theorem w_noPart{R:Option Int→Hp→Prop}(h:R none H):tNoPart σ H R:=h
theorem w_part{t:TE}{R:Option Int→Hp→Prop}(h:t σ H fun x H1=>∃ i,x = .int i∧R (some i) H1):tPart t σ H R:=h
theorem w_int{i:Int}{P:Int→Prop}(h:P i):∃ j,V.int i = .int j∧P j:=⟨i,rfl,h⟩
theorem d8{K:PySem.W.Frag}{a:Addr}{xs:List V}{lo hi:Option Int}(hs:SqL K H a xs)(q:∀ p,H p=none→Q (.ref p) (upd H p (.lst (fN xs lo hi)))):rSlL K (.ref a) lo hi H Q:=⟨a,xs,rfl,hs,q⟩
theorem w_lc{wi:TI}{g:TG}{tt:TT}{te:TE}{vs:List Nat}(h:wi σ H fun J H1=>∀ D,H1 D=none→∃ W:Nat→Nat→Hp→Prop,(∃ m,W 0 m (upd H1 D (.lst [])))∧∀ i m H,W i m H →
 (J.stop i H∧Q (.ref D) H)∨(J.go i H∧∃ Nx:Hp→Prop,(∀ H',Nx H'→∃ m',m' < m∧W (i+1) m' H')∧∀ x H',J.yld i H x H'→g x (wipe σ vs) H' fun σ2 H2=>wipe σ2 vs=wipe σ vs∧tt σ2 H2 fun b H3 =>
  if b=true then te σ2 H3 fun y H4=>∃ acc,H4 D=some (.lst acc)∧acc.length<sizeLine∧Nx (upd H4 D (.lst (acc++[y]))) else Nx H3)):tLc wi g tt te vs σ H Q:=h
theorem w_iStr{te:TE}{R:It→Hp→Prop}(h:te σ H fun v H1=>∃ x,v = .str x∧R (Its x) H1):iStr te σ H R:=h
theorem w_strI{x:Str}{P:Str→Prop}(h:P x):∃ y,V.str x = .str y∧P y:=⟨x,rfl,h⟩
theorem w_iEnum1{K:PySem.W.Frag}{ta:TA}{R:It→Hp→Prop}(h:ta σ H fun vs H1=>∃ a xs,vs=[.ref a]∧SqL K H1 a xs∧R (Ite1 K a) H1):iEnum1 K ta σ H R:=h
theorem w_iEnum{K:PySem.W.Frag}{ta:TA}{R:It→Hp→Prop}(h:ta σ H fun vs H1=>∃ a xs,vs=[.ref a]∧SqL K H1 a xs∧R (Ite K a) H1):iEnum K ta σ H R:=h
theorem w_iZip{K:PySem.W.Frag}{ta:TA}{R:It→Hp→Prop}(h:ta σ H fun vs H1=>∃ a b xs ys,vs=[.ref a,.ref b]∧SqL K H1 a xs∧SqL K H1 b ys∧R (Itz K a b) H1):iZip K ta σ H R:=h
theorem w_iRng3{ta:TA}{R:It→Hp→Prop}(h:ta σ H fun vs H1=>∃ (i j c:Int) (n:Nat),vs=[.int i,.int j,.int c]∧RgC i j c n∧R (Itc i c n) H1):iRng3 ta σ H R:=h
theorem w_yes{R:Bool→Hp→Prop}(h:R true H):tYes σ H R:=h
theorem w_gTup{K:PySem.W.Frag}{n:Nat}{t:TGs}{a:Addr}{xs:List V}{R:List (Option V)→Hp→Prop}(hs:SqT K H a xs)(hl:xs.length=n)(h:t xs σ H R):gTup K n t (.ref a) σ H R:=⟨a,xs,rfl,hs,hl,h⟩
theorem w_gCons{t:TG}{u:TGs}{v:V}{r:List V}{R:List (Option V)→Hp→Prop}(h:t v σ H fun σ' H'=>u r σ' H' R):gCons t u (v::r) σ H R:=⟨v,r,rfl,h⟩
theorem w_gNil{R:List (Option V)→Hp→Prop}(h:R σ H):gNil [] σ H R:=⟨rfl,h⟩
end
section
variable {X:Cx}{K:PySem.W.Frag}
theorem aS(e:X.K=K):mM X (.builtin "len") (rLen K):=by subst e; exact call_lenN
theorem cr_sumK(e:X.K=K)(hc:X.calm=true):mM X (.builtin "sum") (rSum K):=by subst e; exact cr_sum hc
theorem ak(e:X.K=K){o:Expr}{f:Str}{pos:Pos}{ta:TE}(he:PE X o ta)(hb:attributeBase o f X.env (eval o X.env)=eval o X.env):PE X (.Attribute o f pos) (tFld K ta f):=by subst e; exact pe_fld he hb
theorem cB(e:X.K=K){o value:Expr}{f:Str}{pos pos':Pos}{ta tv:TE}(ha:PE X o ta)(hv:PE X value tv)(hs:swapsWith value (some (.Attribute o f pos')) pos.line X.env=pure false):PS X (.Assign [.Attribute o f pos'] value pos) (sFld K ta tv f):=by subst e; exact ps_fld ha hv hs
theorem aB(e:X.K=K):IxR X (rIxL K):=by subst e; exact ix_list
theorem aU(e:X.K=K):IxR X (rIxT K):=by subst e; exact ix_tup
theorem bj(e:X.K=K):SlR X (rSlL K):=by subst e; exact sl_list
theorem bD(e:X.K=K){tg l:Expr}{tl:TE}(hl:PE X l tl):PI X tg l (iList K tl):=by subst e; exact pi_list hl
theorem op_in_seqK(e:X.K=K):OpR X (compareOp .In) (rIn K false):=by subst e; exact op_in_seq
theorem op_notIn_seqK(e:X.K=K):OpR X (compareOp .NotIn) (rIn K true):=by subst e; exact op_notIn_seq
theorem op_eqDK(e:X.K=K)(hu:X.A.units+64<cLine):OpR X (compareOp .Eq) (rEqD K):=by subst e; exact op_eqD hu
theorem rE(e:X.K=K){es:List Expr}{k:Nat}{t:TGs}{n:Nat}{pos:Pos}(hc:X.calm=true)(h:PGs X es t)
 (hn:(assignEach es X.env).length=n:=by rfl)(hst:(assignEach es X.env).findIdx? (·.1)=none:=by rfl):PG X (.Tuple es k pos) (gTup K n t):=by subst e; exact pg_tup hc h hn hst
theorem pi_enumK(e:X.K=K){x:Expr}{ta:TA}{p pos tpos:Pos}{elts:List Expr}{kk:Nat}(hg:Gl X "enumerate")(hm:X.mg "enumerate" = none)(ha:PA X [x] ta)(hs:starEach [x] X.env=[(false,eval x X.env)]:=by rfl) :
  PI X (.Tuple elts kk tpos) (.Call (.Name "enumerate" p) [x] [] pos) (iEnum K ta):=by subst e; exact pi_enum hg hm ha hs
theorem pi_enum1K(e:X.K=K){x:Expr}{ta:TA}{p pos tpos kpos cp:Pos}{ci:Nat}{elts:List Expr}{kk:Nat}(hg:Gl X "enumerate")(hm:X.mg "enumerate" = none)(ha:PA X [x] ta)(hs:starEach [x] X.env=[(false,eval x X.env)]:=by rfl)
 (hpl:((backTo pos (starEach [x] X.env)).any (·.1) || (backToKw pos (keywordEach [⟨some "start",.Constant (.int 1) ci cp,kpos⟩] X.env)).any (·.1.isNone))=false:=by rfl) :
  PI X (.Tuple elts kk tpos) (.Call (.Name "enumerate" p) [x] [⟨some "start",.Constant (.int 1) ci cp,kpos⟩] pos) (iEnum1 K ta):=by subst e; exact pi_enum1 hg hm ha hs hpl
theorem pi_zipK(e:X.K=K){x x2:Expr}{ta:TA}{p pos tpos:Pos}{elts:List Expr}{kk:Nat}(hg:Gl X "zip")(hm:X.mg "zip" = none)(ha:PA X [x,x2] ta)
 (hs:starEach [x,x2] X.env=(false,eval x X.env)::starEach [x2] X.env:=by rfl)(hpl:(backTo pos (starEach [x2] X.env)).any (·.1)=false:=by rfl) :
  PI X (.Tuple elts kk tpos) (.Call (.Name "zip" p) [x,x2] [] pos) (iZip K ta):=by subst e; exact pi_zip hg hm ha hs hpl
theorem pe_bm0K(e:X.K=K){o:Expr}{to:TE}{name:Str}{apos cpos:Pos}{T id:String}{r:V→List V→Hp→VK→Prop}(pa:PlainAttrs T)(slot:Slot T name id)(hty:typeOf (.builtin id)=pure (.type "method_descriptor"))(hm:MtR X id r)(ho:PE X o to)
 (hbase:attributeBase o name X.env (eval o X.env)=eval o X.env:=by rfl)(hline:(apos.endLine==cpos.line)=true:=by rfl):PE X (.Call (.Attribute o name apos) [] [] cpos) (tBM0 K T r to):=by subst e; exact pe_bm0 pa slot hty hm ho hbase hline
theorem fJ(e:X.K=K){o x:Expr}{es:List Expr}{to:TE}{t:TA}{name:Str}{apos cpos:Pos}{T id:String}{r:V→List V→Hp→VK→Prop}(pa:PlainAttrs T)(slot:Slot T name id)(hty:typeOf (.builtin id)=pure (.type "method_descriptor"))(hm:MtR X id r)(ho:PE X o to)(ha:PA X (x::es) t)
 (hbase:attributeBase o name X.env (eval o X.env)=eval o X.env:=by rfl)
 (hfew:((backTo cpos (starEach (x::es) X.env)).all (fun x=>!x.1)&&(backToKw cpos (keywordEach [] X.env)).all (fun x=>x.1.isSome)
   && decide ((x::es).length+([]:List Keyword).length+(if ([]:List Keyword).isEmpty then 0 else 1)<30))=true:=by rfl)
 (hline:(apos.endLine==cpos.line)=true:=by rfl)(hs:starEach (x::es) X.env=(false,eval x X.env)::starEach es X.env:=by rfl)(hplain:(backTo cpos (starEach es X.env)).any (·.1)=false:=by rfl) :
  PE X (.Call (.Attribute o name apos) (x::es) [] cpos) (tBM K T r to t):=by subst e; exact pe_bm pa slot hty hm ho ha hbase hfew hline hs hplain
end
def rAddStr:R2:=fun x y H Q=>∃ i j:Str,x = .str i∧y = .str j∧i.length+j.length≤sizeLine∧Q (.str (i++j)) H
theorem op_add_strN{X:Cx}:OpR X (binaryOp .Add) rAddStr:=op_add_str
theorem w_addStr{i j:Str}{H:Hp}{Q:VK}(hz:i.length+j.length≤sizeLine)(q:Q (.str (i++j)) H):rAddStr (.str i) (.str j) H Q:=⟨i,j,rfl,rfl,hz,q⟩
theorem w_join{t u:TS}{D:Ends}{σ:List (Option V)}{H:Hp}{R:Prop}(hr:R→u D σ H)(h:(R→u D σ H)→t { D with nx:=u D } σ H):tSeq t u D σ H:=h hr
theorem ax.dB{H0 H:Hp}{p:Addr}{o:HO}(s:ax H0 H)(h:H0 p=none):ax H0 (upd H p o):=fun b u e=>by
 rw[ay (aC e h)]; exact s b u e
theorem aw:sizeLine=16777216:=sizeLine_eq
end L2
namespace L2
open PySem PySem.Spec PyProof.Rows
def CPowB(i j:Int):Prop:=0≤j∧(Builtin.Int.intBits i:Int)*j≤2^27
section
variable {X:Cx}{K:PySem.W.Frag}
theorem op_powB:OpR X (binaryOp .Pow) (rI CPowB fun i j=>.int (i^j.toNat)):=opI fun _ _ _ _ _ _ _ hc q=>pow_int hc.1 hc.2 q
def iSeq(K:PySem.W.Frag)(tl:TE):TI:=fun σ H R=>iList K tl σ H R∨iTup K tl σ H R
theorem pi_seqK(e:X.K=K){tg l:Expr}{tl:TE}(hl:PE X l tl):PI X tg l (iSeq K tl):=by
 subst e
 intro pins s σ H R I h
 rcases h with h | h
 ·exact pi_list hl pins s σ H R I h
 ·exact pi_tup hl pins s σ H R I h
end
theorem w_iTup{K:PySem.W.Frag}{te:TE}{σ:List (Option V)}{H:Hp}{R:It→Hp→Prop}(h:te σ H fun v H1=>∃ a,v = .ref a∧(∃ xs,SqT K H1 a xs)∧R (Itt K a) H1):iTup K te σ H R:=h
end L2
set_option autoImplicit false
namespace WM
open Vbreal
def F(q:Rat):Frac:=⟨q.num,q.den⟩
theorem F_inj{p q:Rat}(h:F p=F q):p=q:=by
 injection h with h1 h2
 exact Rat.ext h1 h2
theorem frac_F(n:Int)(d:Nat)(h:d≠0):frac n d=F (mkRat n d):=by
 unfold frac F
 have hg:Nat.gcd n.natAbs d≠0:=by
  intro e
  exact h (Nat.eq_zero_of_gcd_eq_zero_right e)
 rw[Rat.num_mkRat,Rat.den_mkRat,if_neg h,if_neg h,Nat.gcd_comm d]
 show(if n.natAbs.gcd d=0 then _ else _)=_
 rw[if_neg hg]
theorem mP(p q:Rat):add (F p) (F q)=F (p+q):=by
 rw[Rat.add_def']
 exact frac_F _ _ (Nat.mul_ne_zero p.den_nz q.den_nz)
theorem sub_F(p q:Rat):sub (F p) (F q)=F (p-q):=by
 rw[Rat.sub_def']
 exact frac_F _ _ (Nat.mul_ne_zero p.den_nz q.den_nz)
theorem eE(p q:Rat):mul (F p) (F q)=F (p*q):=by
 rw[Rat.mul_def']
 exact frac_F _ _ (Nat.mul_ne_zero p.den_nz q.den_nz)
theorem num_pos{q:Rat}(h:0<q):0<q.num:=by
 have h1:=(Rat.lt_iff 0 q).mp h
 simpa using h1
theorem kz(p q:Rat)(h:0<q):over (F p) (F q)=F (p / q):=by
 have hn:=num_pos h
 have hz:q.num≠0:=by omega
 rw[Rat.div_def,Rat.mul_def',Rat.num_inv,Rat.den_inv,if_neg hz,Int.sign_eq_one_of_pos hn,Int.one_mul]
 exact frac_F _ _ (Nat.mul_ne_zero p.den_nz (by show q.num.natAbs≠0; omega))
theorem fK(p q:Rat):less (F p) (F q)=decide (p<q):=by
 unfold less F
 exact decide_eq_decide.mpr (Rat.lt_iff p q).symm
theorem rg(p q:Rat):atMost (F p) (F q)=decide (p≤q):=by
 unfold atMost
 rw[fK]
 by_cases h:q<p
 ·rw[decide_eq_true h,decide_eq_false (by rw[← Rat.not_lt]; exact fun g=>g h)]; rfl
 ·rw[decide_eq_false h,decide_eq_true (Rat.not_lt.mp h)]; rfl
theorem cq(n:Int):whole n=F (n:Rat):=rfl
theorem iQ:zero=F 0:=rfl
theorem frac_nat_F(n:Nat)(d:Nat)(h:d≠0):frac n d=F (mkRat n d):=frac_F _ _ h
theorem sumUp_F(l:List Rat):sumUp (l.map F)=F l.sum:=by
 have key:∀ (l:List Rat) (a:Rat),(l.map F).foldl add (F a)=F (a+l.sum):=by
  intro l
  induction l with
  | nil=>intro a; simp[Rat.add_zero]
  | cons x r ih =>
   intro a
   rw[List.map_cons,List.foldl_cons,mP,ih,List.sum_cons,Rat.add_assoc]
 have:=key l 0
 rw[Rat.zero_add] at this
 exact this
end WM
namespace WM
open Vbreal
def rx(v:Pt):Rat:=(v.x:Rat)
def ry(v:Pt):Rat:=(v.y:Rat)
def dd(X Y:Rat)(v:Pt):Rat:=X*rx v+Y*ry v
def cc(X Y:Rat)(v:Pt):Rat:=X*ry v-Y*rx v
theorem fE:∀ (t:List Pt) (n:Pt) (m:Int),m≤t.foldl (fun m v=>max m (dot v n)) m ∧
  (∀ v∈t,dot v n≤t.foldl (fun m v=>max m (dot v n)) m) ∧
  (t.foldl (fun m v=>max m (dot v n)) m=m∨∃ v∈t,t.foldl (fun m v=>max m (dot v n)) m=dot v n)
 | [],n,m=>⟨Int.le_refl _,fun v h=>by simp at h,.inl rfl⟩
 | a::t,n,m=>by
  obtain⟨h1,h2,h3⟩:=fE t n (max m (dot a n))
  rw[List.foldl_cons]
  refine⟨by omega,fun v hv=>?_,?_⟩
  ·rcases List.mem_cons.mp hv with rfl | hv
   ·omega
   ·exact h2 v hv
  ·rcases h3 with e | ⟨v,hv,e⟩
   ·rw[e]
    rcases Int.le_total m (dot a n) with h | h
    ·exact .inr ⟨a,List.mem_cons_self,by omega⟩
    ·exact .inl (by omega)
   ·exact .inr ⟨v,List.mem_cons_of_mem _ hv,e⟩
theorem gY(t:List Pt)(n:Pt):0≤support t n:=(fE t n 0).1
theorem oQ{t:List Pt}{n v:Pt}(h:v∈t):dot v n≤support t n:=(fE t n 0).2.1 v h
theorem support_eq{t:List Pt}{n u:Pt}(hu:u∈t)(h0:0≤dot u n)(h:∀ v∈t,dot v n≤dot u n):support t n=dot u n:=by
 have h1:=oQ (n:=n) hu
 rcases(fE t n 0).2.2 with e | ⟨v,hv,e⟩
 ·have:support t n=0:=e
  omega
 ·have e':support t n=dot v n:=e
  have:=h v hv
  omega
theorem support_zero{t:List Pt}{n:Pt}(h:∀ v∈t,dot v n≤0):support t n=0:=by
 rcases(fE t n 0).2.2 with e | ⟨v,hv,e⟩
 ·exact e
 ·have e':support t n=dot v n:=e
  have:=h v hv
  have:=gY t n
  omega
theorem dir_sq{t:List Pt}{p q:Pt}(hp:p∈(⟨0,0⟩:Pt)::t)(hq:q∈(⟨0,0⟩:Pt)::t)(hne:p≠q):(⟨q.y-p.y,p.x-q.x⟩:Pt)∈directions t:=by
 unfold directions
 refine List.mem_append_left _ (List.mem_flatMap.mpr ⟨p,hp,List.mem_flatMap.mpr ⟨q,hq,?_⟩⟩)
 rw[if_neg hne]
 exact List.mem_cons_self
theorem dir_al{t:List Pt}{p q:Pt}(hp:p∈(⟨0,0⟩:Pt)::t)(hq:q∈(⟨0,0⟩:Pt)::t)(hne:p≠q):(⟨q.x-p.x,q.y-p.y⟩:Pt)∈directions t:=by
 unfold directions
 refine List.mem_append_left _ (List.mem_flatMap.mpr ⟨p,hp,List.mem_flatMap.mpr ⟨q,hq,?_⟩⟩)
 rw[if_neg hne]
 exact List.mem_cons_of_mem _ List.mem_cons_self
theorem dir_ax{t:List Pt}{n:Pt}(h:n∈([⟨1,0⟩,⟨0,1⟩,⟨-1,0⟩,⟨0,-1⟩]:List Pt)):n∈directions t:=by
 unfold directions
 exact List.mem_append_right _ h
theorem jj(v n:Pt):((dot v n:Int):Rat)=rx v*rx n+ry v*ry n:=by
 unfold dot rx ry
 rw[Rat.intCast_add,Rat.intCast_mul,Rat.intCast_mul]
theorem argmax(f:Pt→Rat)(P:Pt→Prop)[DecidablePred P]:∀ (l:List Pt),(∃ v∈l,P v)→∃ j∈l,P j∧∀ v∈l,P v→f v≤f j
 | [],h=>by obtain⟨v,hv,_⟩:=h; simp at hv
 | a::l,h=>by
  by_cases hl:∃ v∈l,P v
  ·obtain⟨j,hj,pj,hm⟩:=argmax f P l hl
   by_cases ha:P a∧f j≤f a
   ·refine⟨a,List.mem_cons_self,ha.1,fun v hv pv=>?_⟩
    rcases List.mem_cons.mp hv with rfl | hv
    ·exact Rat.le_refl
    ·exact Rat.le_trans (hm v hv pv) ha.2
   ·refine⟨j,List.mem_cons_of_mem _ hj,pj,fun v hv pv=>?_⟩
    rcases List.mem_cons.mp hv with rfl | hv
    ·rcases Rat.le_total (a:=f v) (b:=f j) with h1 | h1
     ·exact h1
     ·exact absurd ⟨pv,h1⟩ ha
    ·exact hm v hv pv
  ·obtain⟨v,hv,pv⟩:=h
   rcases List.mem_cons.mp hv with rfl | hv
   ·refine⟨v,List.mem_cons_self,pv,fun z hz pz=>?_⟩
    rcases List.mem_cons.mp hz with rfl | hz
    ·exact Rat.le_refl
    ·exact absurd ⟨z,hz,pz⟩ hl
   ·exact absurd ⟨v,hv,pv⟩ hl
def Fea(t:List Pt)(X Y T:Rat):Prop:=∃ p∈t,∃ q∈t,∃ a b:Rat,0≤a∧0≤b∧a*rx p+b*rx q=X∧a*ry p+b*ry q=Y∧T=a+b
theorem sq_pos{X Y:Rat}(h:¬ (X=0∧Y=0)):0<X*X+Y*Y:=by
 have h1:∀ z:Rat,0≤z*z:=fun z=>by
  rcases Rat.le_total (a:=0) (b:=z) with h | h
  ·exact Rat.mul_nonneg h h
  ·have:=Rat.mul_nonneg (a:=-z) (b:=-z) (by grind) (by grind)
   grind
 have hx:=h1 X
 have hy:=h1 Y
 rcases Rat.le_iff_lt_or_eq.mp (show(0:Rat)≤X*X+Y*Y by grind) with g | g
 ·exact g
 ·exfalso
  have ex:X*X=0:=by grind
  have ey:Y*Y=0:=by grind
  rcases Rat.mul_eq_zero.mp ex with e | e<;>rcases Rat.mul_eq_zero.mp ey with e' | e'<;>exact h ⟨e,e'⟩
theorem weak{t:List Pt}{X Y T:Rat}(h:Fea t X Y T)(n:Pt):0≤T∧rx n*X+ry n*Y≤T*((support t n:Int):Rat):=by
 obtain⟨p,hp,q,hq,a,b,ha,hb,ex,ey,rfl⟩:=h
 refine⟨by grind,?_⟩
 have h1:((dot p n:Int):Rat)≤((support t n:Int):Rat):=Rat.intCast_le_intCast.mpr (oQ hp)
 have h2:((dot q n:Int):Rat)≤((support t n:Int):Rat):=Rat.intCast_le_intCast.mpr (oQ hq)
 rw[jj] at h1 h2
 have g1:=Rat.mul_le_mul_of_nonneg_left h1 ha
 have g2:=Rat.mul_le_mul_of_nonneg_left h2 hb
 have e:rx n*X+ry n*Y=a*(rx p*rx n+ry p*ry n)+b*(rx q*rx n+ry q*ry n):=by rw[← ex,← ey]; grind
 rw[e]
 grind
end WM
namespace WM
open Vbreal
theorem kH{a b g h N:Rat}(ha:0<a)(hb:0≤b)(hg:g≤N)(hh:h≤N)(e:a*g+b*h=(a+b)*N):g=N:=by
 have h2:=Rat.mul_le_mul_of_nonneg_left hh hb
 have h3:a*N≤a*g:=by grind
 have h4:=Rat.le_of_mul_le_mul_left h3 ha
 exact Rat.le_antisymm hg h4
theorem strong_at {t : List Pt} {X Y T s : Rat} (hs : s * s = 1) (hN : 0 < X * X + Y * Y) (hF : Fea t X Y T)
    (hS : ∀ v ∈ t, cc X Y v = 0 → 0 < dd X Y v → T * dd X Y v ≤ X * X + Y * Y)
    (hP : ∀ j ∈ t, ∀ v ∈ t, s * cc X Y j < 0 → 0 < s * cc X Y v → 0 < s * (dd X Y j * cc X Y v - cc X Y j * dd X Y v) → T * (s * (dd X Y j * cc X Y v - cc X Y j * dd X Y v)) ≤ (X * X + Y * Y) * (s * cc X Y v - s * cc X Y j))
    (hM : ∃ v ∈ t, s * cc X Y v < 0) :
    ∃ u ∈ t, ∃ j ∈ t, 0 < s * (rx j * ry u - ry j * rx u) ∧ (∀ v ∈ t, s * ((ry u - ry j) * rx v + (rx j - rx u) * ry v) ≤ s * (rx j * ry u - ry j * rx u)) ∧ s * ((ry u - ry j) * X + (rx j - rx u) * Y) = T * (s * (rx j * ry u - ry j * rx u)) := by
  obtain ⟨j, hj, cj, hm⟩ := argmax (fun v => (X * X + Y * Y - T * dd X Y v) / (s * cc X Y v)) (fun v => s * cc X Y v < 0) t hM
  generalize hr : (X * X + Y * Y - T * dd X Y j) / (s * cc X Y j) = r at hm
  have hjne : s * cc X Y j ≠ 0 := by grind
  have ej : T * dd X Y j + r * (s * cc X Y j) = X * X + Y * Y := by
    rw [← hr, Rat.div_mul_cancel hjne]; grind
  have hT : 0 < T := by
    obtain ⟨p, _, q, _, a, b, ha, hb, ex, ey, rfl⟩ := hF
    rcases Rat.le_iff_lt_or_eq.mp (show (0:Rat) ≤ a + b by grind) with g | g
    · exact g
    · exfalso
      have ea : a = 0 := by grind
      have eb : b = 0 := by grind
      subst ea eb
      have : X = 0 := by grind
      have : Y = 0 := by grind
      subst X Y
      grind
  have hg : ∀ v ∈ t, T * dd X Y v + r * (s * cc X Y v) ≤ X * X + Y * Y := by
    intro v hv
    rcases Rat.le_total (a := s * cc X Y v) (b := 0) with h1 | h1
    · rcases Rat.le_iff_lt_or_eq.mp h1 with h2 | h2
      ·
        have h3 := hm v hv h2
        have h4 : 0 < -(s * cc X Y v) := by grind
        have hne : s * cc X Y v ≠ 0 := by grind
        have h5 := Rat.mul_le_mul_of_nonneg_right h3 (Rat.le_of_lt h4)
        have h6 : (X * X + Y * Y - T * dd X Y v) / (s * cc X Y v) * -(s * cc X Y v) = -(X * X + Y * Y - T * dd X Y v) := by
          have := Rat.div_mul_cancel (a := X * X + Y * Y - T * dd X Y v) hne
          grind
        have h7 : -(X * X + Y * Y - T * dd X Y v) ≤ r * -(s * cc X Y v) := by
          rw [← h6]; exact h5
        grind
      · have h0 : cc X Y v = 0 := by
          have : s * (s * cc X Y v) = 0 := by rw [h2]; grind
          grind
        rw [h2]
        rcases Rat.le_total (a := dd X Y v) (b := 0) with h3 | h3
        · have := Rat.mul_le_mul_of_nonneg_left h3 (Rat.le_of_lt hT)
          grind
        · rcases Rat.le_iff_lt_or_eq.mp h3 with h4 | h4
          · have := hS v hv h0 h4
            grind
          · rw [← h4]; grind
    · rcases Rat.le_iff_lt_or_eq.mp h1 with h2 | h2
      · have key : T * (s * (dd X Y j * cc X Y v - cc X Y j * dd X Y v)) ≤ (X * X + Y * Y) * (s * cc X Y v - s * cc X Y j) := by
          by_cases h3 : 0 < s * (dd X Y j * cc X Y v - cc X Y j * dd X Y v)
          · exact hP j hj v hv cj h2 h3
          · have h4 : s * (dd X Y j * cc X Y v - cc X Y j * dd X Y v) ≤ 0 := Rat.not_lt.mp h3
            have h5 := Rat.mul_le_mul_of_nonneg_left h4 (Rat.le_of_lt hT)
            have h6 : 0 < (X * X + Y * Y) * (s * cc X Y v - s * cc X Y j) := Rat.mul_pos hN (by grind)
            grind
        have h4 : 0 < -(s * cc X Y j) := by grind
        refine Rat.le_of_mul_le_mul_right (c := -(s * cc X Y j)) ?_ h4
        have e1 : (T * dd X Y v + r * (s * cc X Y v)) * -(s * cc X Y j) = -(s * cc X Y v) * (X * X + Y * Y) + T * (s * (dd X Y j * cc X Y v - cc X Y j * dd X Y v)) := by
          have : r * (s * cc X Y j) = X * X + Y * Y - T * dd X Y j := by grind
          have e2 : r * (s * cc X Y v) * -(s * cc X Y j) = -(s * cc X Y v) * (r * (s * cc X Y j)) := by grind
          grind
        rw [e1]
        grind
      · have h0 : cc X Y v = 0 := by
          have : s * (s * cc X Y v) = 0 := by rw [← h2]; grind
          grind
        rw [← h2]
        rcases Rat.le_total (a := dd X Y v) (b := 0) with h3 | h3
        · have := Rat.mul_le_mul_of_nonneg_left h3 (Rat.le_of_lt hT)
          grind
        · rcases Rat.le_iff_lt_or_eq.mp h3 with h4 | h4
          · have := hS v hv h0 h4
            grind
          · rw [← h4]; grind
  obtain ⟨u, hu, cu, eu⟩ : ∃ u ∈ t, 0 ≤ s * cc X Y u ∧ T * dd X Y u + r * (s * cc X Y u) = X * X + Y * Y := by
    obtain ⟨p, hp, q, hq, a, b, ha, hb, ex, ey, eT⟩ := hF
    have e0 : a * (s * cc X Y p) + b * (s * cc X Y q) = 0 := by unfold cc; grind
    have e1 : a * (T * dd X Y p + r * (s * cc X Y p)) + b * (T * dd X Y q + r * (s * cc X Y q)) = (a + b) * (X * X + Y * Y) := by
      have : a * dd X Y p + b * dd X Y q = X * X + Y * Y := by unfold dd; grind
      grind
    by_cases h1 : 0 < a ∧ 0 ≤ s * cc X Y p
    · exact ⟨p, hp, h1.2, kH h1.1 hb (hg p hp) (hg q hq) e1⟩
    · by_cases h2 : 0 < b ∧ 0 ≤ s * cc X Y q
      · exact ⟨q, hq, h2.2, kH h2.1 ha (hg q hq) (hg p hp) (by grind)⟩
      · exfalso
        have ha' : a = 0 ∨ 0 < a := by rcases Rat.le_iff_lt_or_eq.mp ha with g | g <;> grind
        have hb' : b = 0 ∨ 0 < b := by rcases Rat.le_iff_lt_or_eq.mp hb with g | g <;> grind
        have k : ∀ {z c : Rat}, 0 < z → ¬ (0 < z ∧ 0 ≤ c) → z * c < 0 := fun {z c} hz hn => by
          have : c < 0 := by grind
          exact (Rat.mul_neg_iff_of_pos_left hz).mpr this
        rcases ha' with rfl | ha' <;> rcases hb' with rfl | hb'
        · grind
        · have := k hb' h2; grind
        · have := k ha' h1; grind
        · have := k hb' h2
          have := k ha' h1
          grind
  have hAT : T * (s * (rx j * ry u - ry j * rx u)) = s * cc X Y u - s * cc X Y j := by
    have h1 : (X * X + Y * Y) * (rx j * ry u - ry j * rx u) = dd X Y j * cc X Y u - cc X Y j * dd X Y u := by unfold dd cc; grind
    have h2 : (X * X + Y * Y) * (T * (s * (rx j * ry u - ry j * rx u))) = (X * X + Y * Y) * (s * cc X Y u - s * cc X Y j) := by
      have : (X * X + Y * Y) * (T * (s * (rx j * ry u - ry j * rx u))) = T * s * ((X * X + Y * Y) * (rx j * ry u - ry j * rx u)) := by grind
      rw [this, h1]
      have e3 : (T * dd X Y j) * (s * cc X Y u) - (T * dd X Y u) * (s * cc X Y j) = (X * X + Y * Y) * (s * cc X Y u - s * cc X Y j) := by
        have a1 : T * dd X Y j = X * X + Y * Y - r * (s * cc X Y j) := by grind
        have a2 : T * dd X Y u = X * X + Y * Y - r * (s * cc X Y u) := by grind
        rw [a1, a2]; grind
      grind
    have hNne : X * X + Y * Y ≠ 0 := by grind
    have h3 : (X * X + Y * Y) * (T * (s * (rx j * ry u - ry j * rx u)) - (s * cc X Y u - s * cc X Y j)) = 0 := by grind
    rcases Rat.mul_eq_zero.mp h3 with e | e
    · exact absurd e hNne
    · grind
  have hB : 0 < s * (rx j * ry u - ry j * rx u) := by
    have : 0 < T * (s * (rx j * ry u - ry j * rx u)) := by rw [hAT]; grind
    exact (Rat.mul_pos_iff_of_pos_left hT).mp this
  refine ⟨u, hu, j, hj, hB, fun v hv => ?_, ?_⟩
  · have h1 := hg v hv
    have h2 := Rat.mul_le_mul_of_nonneg_left h1 (Rat.le_of_lt hB)
    refine Rat.le_of_mul_le_mul_left (c := X * X + Y * Y) ?_ hN
    have e1 : (rx j * ry u - ry j * rx u) * (T * dd X Y v + r * (s * cc X Y v)) = (rx v * ry u - ry v * rx u) * (T * dd X Y j + r * (s * cc X Y j)) + (rx j * ry v - ry j * rx v) * (T * dd X Y u + r * (s * cc X Y u)) := by unfold dd cc; grind
    rw [ej, eu] at e1
    have e2 : (X * X + Y * Y) * (s * ((ry u - ry j) * rx v + (rx j - rx u) * ry v)) = s * (rx j * ry u - ry j * rx u) * (T * dd X Y v + r * (s * cc X Y v)) := by grind
    rw [e2]
    grind
  · rw [hAT]; unfold cc; grind
end WM
namespace WM
open Vbreal
theorem never_at{t:List Pt}{X Y s:Rat}(hs:s*s=1)(hN:0<X*X+Y*Y)
 (hS:∀ v∈t,cc X Y v=0→dd X Y v≤0)
 (hP:∀ j∈t,∀ v∈t,s*cc X Y j<0→0<s*cc X Y v→s*(dd X Y j*cc X Y v-cc X Y j*dd X Y v)≤0)
 (hM:∃ v∈t,s*cc X Y v<0) :
  ∃ j∈t,s*cc X Y j<0∧∀ v∈t,s*(rx j*ry v-ry j*rx v)≤0:=by
 obtain⟨j,hj,cj,hm⟩:=argmax (fun v=>-(dd X Y v) / (s*cc X Y v)) (fun v=>s*cc X Y v<0) t hM
 refine⟨j,hj,cj,fun v hv=>?_⟩
 have e1:(X*X+Y*Y)*(rx j*ry v-ry j*rx v)=dd X Y j*cc X Y v-cc X Y j*dd X Y v:=by unfold dd cc; grind
 refine Rat.le_of_mul_le_mul_left (c:=X*X+Y*Y) ?_ hN
 have e2:(X*X+Y*Y)*(s*(rx j*ry v-ry j*rx v))=s*(dd X Y j*cc X Y v-cc X Y j*dd X Y v):=by rw[← e1]; grind
 rw[e2,Rat.mul_zero]
 rcases Rat.le_total (a:=s*cc X Y v) (b:=0) with h1 | h1
 ·rcases Rat.le_iff_lt_or_eq.mp h1 with h2 | h2
  ·have h3:=hm v hv h2
   have h3':-(dd X Y v) / (s*cc X Y v)≤-(dd X Y j) / (s*cc X Y j):=h3
   have h4:0<(s*cc X Y v)*(s*cc X Y j):=by
    have:=Rat.mul_pos (a:=-(s*cc X Y v)) (b:=-(s*cc X Y j)) (by grind) (by grind)
    grind
   have hvne:s*cc X Y v≠0:=by grind
   have hjne:s*cc X Y j≠0:=by grind
   have h5:=Rat.mul_le_mul_of_nonneg_right h3' (Rat.le_of_lt h4)
   have a1:-(dd X Y v) / (s*cc X Y v)*((s*cc X Y v)*(s*cc X Y j)) = -(dd X Y v)*(s*cc X Y j):=by
    rw[← Rat.mul_assoc,Rat.div_mul_cancel hvne]
   have a2:-(dd X Y j) / (s*cc X Y j)*((s*cc X Y v)*(s*cc X Y j)) = -(dd X Y j)*(s*cc X Y v):=by
    rw[Rat.mul_comm (s*cc X Y v),← Rat.mul_assoc,Rat.div_mul_cancel hjne]
   rw[a1,a2] at h5
   grind
  ·have h0:cc X Y v=0:=by
    have:s*(s*cc X Y v)=0:=by rw[h2]; grind
    grind
   have h3:=hS v hv h0
   rw[h0]
   have h4:=Rat.mul_nonneg (a:=-(s*cc X Y j)) (b:=-(dd X Y v)) (by grind) (by grind)
   grind
 ·rcases Rat.le_iff_lt_or_eq.mp h1 with h2 | h2
  ·exact hP j hj v hv cj h2
  ·have h0:cc X Y v=0:=by
    have:s*(s*cc X Y v)=0:=by rw[← h2]; grind
    grind
   have h3:=hS v hv h0
   rw[h0]
   have h4:=Rat.mul_nonneg (a:=-(s*cc X Y j)) (b:=-(dd X Y v)) (by grind) (by grind)
   grind
theorem sup_of{t:List Pt}{n u:Pt}{b:Rat}(hu:u∈t)(hb:0<b)(h:∀ v∈t,rx v*rx n+ry v*ry n≤b)(hub:rx u*rx n+ry u*ry n=b):((support t n:Int):Rat)=b:=by
 have e:support t n=dot u n:=by
  refine support_eq hu ?_ fun v hv=>?_
  ·have:(0:Rat)<((dot u n:Int):Rat):=by rw[jj,hub]; exact hb
   exact Int.le_of_lt (Rat.intCast_pos.mp this)
  ·have:((dot v n:Int):Rat)≤((dot u n:Int):Rat):=by rw[jj,jj,hub]; exact h v hv
   exact Rat.intCast_le_intCast.mp this
 rw[e,jj,hub]
theorem iE{t:List Pt}{n:Pt}(h:∀ v∈t,rx v*rx n+ry v*ry n≤0):support t n=0:=by
 refine support_zero fun v hv=>?_
 have h1:=h v hv
 rw[← jj] at h1
 exact Rat.intCast_nonpos.mp h1
theorem rx_sub(a b:Int)(c:Int):rx ⟨a-b,c⟩=(a:Rat)-b:=by unfold rx; rw[Rat.intCast_sub]
theorem ry_sub(a b:Int)(c:Int):ry ⟨c,a-b⟩=(a:Rat)-b:=by unfold ry; rw[Rat.intCast_sub]
theorem dual_some{t:List Pt}{X Y T:Rat}(hD:¬ (X=0∧Y=0))(hF:Fea t X Y T)
 (hS:∀ v∈t,cc X Y v=0→0<dd X Y v→T*dd X Y v≤X*X+Y*Y)
 (hP:∀ j∈t,∀ v∈t,cc X Y j<0→0<cc X Y v→0<dd X Y j*cc X Y v-cc X Y j*dd X Y v→T*(dd X Y j*cc X Y v-cc X Y j*dd X Y v)≤(X*X+Y*Y)*(cc X Y v-cc X Y j)) :
  ∃ n∈directions t,0<rx n*X+ry n*Y∧rx n*X+ry n*Y=T*((support t n:Int):Rat):=by
 have hN:=sq_pos hD
 have hT:0<T:=by
  obtain⟨p,_,q,_,a,b,ha,hb,ex,ey,rfl⟩:=hF
  rcases Rat.le_iff_lt_or_eq.mp (show(0:Rat)≤a+b by grind) with g | g
  ·exact g
  ·exfalso
   have ea:a=0:=by grind
   have eb:b=0:=by grind
   subst ea eb
   exact hD ⟨by grind,by grind⟩
 by_cases hm:∃ v∈t,(1:Rat)*cc X Y v<0
 ·obtain⟨u,hu,j,hj,hB,hle,hDn⟩:=strong_at (s:=1) (by grind) hN hF hS (fun j hj v hv a b c=>by
   have:=hP j hj v hv (by grind) (by grind) (by grind)
   grind) hm
  have hne:j≠u:=by
   rintro rfl
   grind
  have hd:=dir_sq (t:=t) (List.mem_cons_of_mem _ hj) (List.mem_cons_of_mem _ hu) hne
  have ex:rx ⟨u.y-j.y,j.x-u.x⟩=ry u-ry j:=rx_sub _ _ _
  have ey:ry ⟨u.y-j.y,j.x-u.x⟩=rx j-rx u:=ry_sub _ _ _
  have es:((support t ⟨u.y-j.y,j.x-u.x⟩:Int):Rat)=rx j*ry u-ry j*rx u:=by
   refine sup_of hu (by grind) (fun v hv=>?_) ?_
   ·rw[ex,ey]
    have:=hle v hv
    grind
   ·rw[ex,ey]; grind
  refine⟨_,hd,?_,?_⟩
  ·rw[ex,ey]
   have:0<T*(1*(rx j*ry u-ry j*rx u)):=Rat.mul_pos hT hB
   grind
  ·rw[es,ex,ey]; grind
 ·by_cases hp:∃ v∈t,(-1:Rat)*cc X Y v<0
  ·obtain⟨u,hu,j,hj,hB,hle,hDn⟩:=strong_at (s:=-1) (by grind) hN hF hS (fun j hj v hv a b c=>by
    have:=hP v hv j hj (by grind) (by grind) (by grind)
    grind) hp
   have hne:u≠j:=by
    rintro rfl
    grind
   have hd:=dir_sq (t:=t) (List.mem_cons_of_mem _ hu) (List.mem_cons_of_mem _ hj) hne
   have ex:rx ⟨j.y-u.y,u.x-j.x⟩=ry j-ry u:=rx_sub _ _ _
   have ey:ry ⟨j.y-u.y,u.x-j.x⟩=rx u-rx j:=ry_sub _ _ _
   have es:((support t ⟨j.y-u.y,u.x-j.x⟩:Int):Rat) = -(rx j*ry u-ry j*rx u):=by
    refine sup_of hu (by grind) (fun v hv=>?_) ?_
    ·rw[ex,ey]
     have:=hle v hv
     grind
    ·rw[ex,ey]; grind
   refine⟨_,hd,?_,?_⟩
   ·rw[ex,ey]
    have:0<T*(-1*(rx j*ry u-ry j*rx u)):=Rat.mul_pos hT hB
    grind
   ·rw[es,ex,ey]; grind
  ·
   have h0:∀ v∈t,cc X Y v=0:=fun v hv=>by
    have h1:¬ (1:Rat)*cc X Y v<0:=fun g=>hm ⟨v,hv,g⟩
    have h2:¬ (-1:Rat)*cc X Y v<0:=fun g=>hp ⟨v,hv,g⟩
    grind
   have hal:∀ v∈t,(X*X+Y*Y)*rx v=dd X Y v*X∧(X*X+Y*Y)*ry v=dd X Y v*Y:=fun v hv=>by
    have h1:=h0 v hv
    unfold cc at h1
    unfold dd
    exact⟨by grind,by grind⟩
   obtain⟨u,hu,hdu,eu⟩:∃ u∈t,0<dd X Y u∧X*X+Y*Y≤T*dd X Y u:=by
    obtain⟨j,hj,_,hmax⟩:=argmax (fun v=>dd X Y v) (fun _=>True) t (by obtain⟨p,hp,_⟩:=hF; exact⟨p,hp,trivial⟩)
    obtain⟨p,hp,q,hq,a,b,ha,hb,ex,ey,eT⟩:=hF
    have e1:a*dd X Y p+b*dd X Y q=X*X+Y*Y:=by unfold dd; grind
    have g1:=Rat.mul_le_mul_of_nonneg_left (hmax p hp trivial) ha
    have g2:=Rat.mul_le_mul_of_nonneg_left (hmax q hq trivial) hb
    have g3:X*X+Y*Y≤T*dd X Y j:=by rw[eT]; grind
    refine⟨j,hj,?_,g3⟩
    have:0<T*dd X Y j:=by grind
    exact(Rat.mul_pos_iff_of_pos_left hT).mp this
   have eT:T*dd X Y u=X*X+Y*Y:=Rat.le_antisymm (hS u hu (h0 u hu) hdu) eu
   have hne:(⟨0,0⟩:Pt)≠u:=by
    rintro rfl
    unfold dd rx ry at hdu
    simp at hdu
    grind
   have hd:=dir_al (t:=t) List.mem_cons_self (List.mem_cons_of_mem _ hu) hne
   have ex:rx ⟨u.x-0,u.y-0⟩=rx u:=by rw[rx_sub]; unfold rx; simp; grind
   have ey:ry ⟨u.x-0,u.y-0⟩=ry u:=by rw[ry_sub]; unfold ry; simp; grind
   have hNne:X*X+Y*Y≠0:=by grind
   have hb:0<rx u*rx u+ry u*ry u:=by
    refine(Rat.mul_pos_iff_of_pos_left hN).mp ?_
    have:(X*X+Y*Y)*(rx u*rx u+ry u*ry u)=dd X Y u*dd X Y u:=by
     obtain⟨a1,a2⟩:=hal u hu
     have:(X*X+Y*Y)*(rx u*rx u+ry u*ry u)=((X*X+Y*Y)*rx u)*rx u+((X*X+Y*Y)*ry u)*ry u:=by grind
     rw[this,a1,a2]; unfold dd; grind
    rw[this]
    exact Rat.mul_pos hdu hdu
   have es:((support t ⟨u.x-0,u.y-0⟩:Int):Rat)=rx u*rx u+ry u*ry u:=by
    refine sup_of hu hb (fun v hv=>?_) (by rw[ex,ey])
    rw[ex,ey]
    refine Rat.le_of_mul_le_mul_left (c:=X*X+Y*Y) ?_ hN
    obtain⟨a1,a2⟩:=hal v hv
    obtain⟨b1,b2⟩:=hal u hu
    have e1:(X*X+Y*Y)*(rx v*rx u+ry v*ry u)=dd X Y v*dd X Y u:=by
     have:(X*X+Y*Y)*(rx v*rx u+ry v*ry u)=((X*X+Y*Y)*rx v)*rx u+((X*X+Y*Y)*ry v)*ry u:=by grind
     rw[this,a1,a2]; unfold dd; grind
    have e2:(X*X+Y*Y)*(rx u*rx u+ry u*ry u)=dd X Y u*dd X Y u:=by
     have:(X*X+Y*Y)*(rx u*rx u+ry u*ry u)=((X*X+Y*Y)*rx u)*rx u+((X*X+Y*Y)*ry u)*ry u:=by grind
     rw[this,b1,b2]; unfold dd; grind
    rw[e1,e2]
    refine Rat.mul_le_mul_of_nonneg_right ?_ (Rat.le_of_lt hdu)
    by_cases hv0:0<dd X Y v
    ·have h1:=hS v hv (h0 v hv) hv0
     rw[← eT] at h1
     exact Rat.le_of_mul_le_mul_left h1 hT
    ·grind
   refine⟨_,hd,?_,?_⟩
   ·rw[ex,ey]; unfold dd at hdu; grind
   ·rw[es,ex,ey]
    obtain⟨b1,b2⟩:=hal u hu
    have e2:(X*X+Y*Y)*(rx u*rx u+ry u*ry u)=dd X Y u*dd X Y u:=by
     have:(X*X+Y*Y)*(rx u*rx u+ry u*ry u)=((X*X+Y*Y)*rx u)*rx u+((X*X+Y*Y)*ry u)*ry u:=by grind
     rw[this,b1,b2]; unfold dd; grind
    have h3:(X*X+Y*Y)*(rx u*X+ry u*Y-T*(rx u*rx u+ry u*ry u))=0:=by
     have:(X*X+Y*Y)*(rx u*X+ry u*Y-T*(rx u*rx u+ry u*ry u))=(X*X+Y*Y)*dd X Y u-T*((X*X+Y*Y)*(rx u*rx u+ry u*ry u)):=by unfold dd; grind
     rw[this,e2]; grind
    rcases Rat.mul_eq_zero.mp h3 with e | e
    ·exact absurd e hNne
    ·grind
theorem dual_none{t:List Pt}{X Y:Rat}(hD:¬ (X=0∧Y=0))
 (hS:∀ v∈t,cc X Y v=0→dd X Y v≤0)
 (hP:∀ j∈t,∀ v∈t,cc X Y j<0→0<cc X Y v→dd X Y j*cc X Y v-cc X Y j*dd X Y v≤0) :
  ∃ n∈directions t,0<rx n*X+ry n*Y∧support t n=0:=by
 have hN:=sq_pos hD
 by_cases hm:∃ v∈t,(1:Rat)*cc X Y v<0
 ·obtain⟨j,hj,hB,hle⟩:=never_at (s:=1) (by grind) hN hS (fun j hj v hv a b=>by
   have:=hP j hj v hv (by grind) (by grind)
   grind) hm
  have hne:j≠(⟨0,0⟩:Pt):=by
   rintro rfl
   unfold cc rx ry at hB
   simp at hB
   grind
  have hd:=dir_sq (t:=t) (List.mem_cons_of_mem _ hj) List.mem_cons_self hne
  have ex:rx ⟨0-j.y,j.x-0⟩ = -ry j:=by rw[rx_sub]; unfold ry; simp; grind
  have ey:ry ⟨0-j.y,j.x-0⟩=rx j:=by rw[ry_sub]; unfold rx; simp; grind
  refine⟨_,hd,?_,iE fun v hv=>?_⟩
  ·rw[ex,ey]; unfold cc at hB; grind
  ·rw[ex,ey]
   have:=hle v hv
   grind
 ·by_cases hp:∃ v∈t,(-1:Rat)*cc X Y v<0
  ·obtain⟨j,hj,hB,hle⟩:=never_at (s:=-1) (by grind) hN hS (fun j hj v hv a b=>by
    have:=hP v hv j hj (by grind) (by grind)
    grind) hp
   have hne:(⟨0,0⟩:Pt)≠j:=by
    rintro rfl
    unfold cc rx ry at hB
    simp at hB
    grind
   have hd:=dir_sq (t:=t) List.mem_cons_self (List.mem_cons_of_mem _ hj) hne
   have ex:rx ⟨j.y-0,0-j.x⟩=ry j:=by rw[rx_sub]; unfold ry; simp; grind
   have ey:ry ⟨j.y-0,0-j.x⟩ = -rx j:=by rw[ry_sub]; unfold rx; simp; grind
   refine⟨_,hd,?_,iE fun v hv=>?_⟩
   ·rw[ex,ey]; unfold cc at hB; grind
   ·rw[ex,ey]
    have:=hle v hv
    grind
  ·have h0:∀ v∈t,cc X Y v=0:=fun v hv=>by
    have h1:¬ (1:Rat)*cc X Y v<0:=fun g=>hm ⟨v,hv,g⟩
    have h2:¬ (-1:Rat)*cc X Y v<0:=fun g=>hp ⟨v,hv,g⟩
    grind
   have hal:∀ v∈t,(X*X+Y*Y)*rx v=dd X Y v*X∧(X*X+Y*Y)*ry v=dd X Y v*Y:=fun v hv=>by
    have h1:=h0 v hv
    unfold cc at h1
    unfold dd
    exact⟨by grind,by grind⟩
   by_cases hu:∃ u∈t,dd X Y u<0
   ·obtain⟨u,hu,hdu⟩:=hu
    have hne:u≠(⟨0,0⟩:Pt):=by
     rintro rfl
     unfold dd rx ry at hdu
     simp at hdu
     grind
    have hd:=dir_al (t:=t) (List.mem_cons_of_mem _ hu) List.mem_cons_self hne
    have ex:rx ⟨0-u.x,0-u.y⟩ = -rx u:=by rw[rx_sub]; unfold rx; simp; grind
    have ey:ry ⟨0-u.x,0-u.y⟩ = -ry u:=by rw[ry_sub]; unfold ry; simp; grind
    refine⟨_,hd,?_,iE fun v hv=>?_⟩
    ·rw[ex,ey]; unfold dd at hdu; grind
    ·rw[ex,ey]
     refine Rat.le_of_mul_le_mul_left (c:=X*X+Y*Y) ?_ hN
     obtain⟨a1,a2⟩:=hal v hv
     have e1:(X*X+Y*Y)*(rx v * -rx u+ry v * -ry u) = -(dd X Y v*dd X Y u):=by
      have:(X*X+Y*Y)*(rx v * -rx u+ry v * -ry u) = -(((X*X+Y*Y)*rx v)*rx u+((X*X+Y*Y)*ry v)*ry u):=by grind
      rw[this,a1,a2]; unfold dd; grind
     rw[e1]
     have h1:=hS v hv (h0 v hv)
     have h2:=Rat.mul_nonneg (a:=-(dd X Y v)) (b:=-(dd X Y u)) (by grind) (by grind)
     grind
   ·have hz:∀ v∈t,rx v=0∧ry v=0:=fun v hv=>by
     have h1:=hS v hv (h0 v hv)
     have h2:¬ dd X Y v<0:=fun g=>hu ⟨v,hv,g⟩
     have h3:dd X Y v=0:=by grind
     obtain⟨a1,a2⟩:=hal v hv
     rw[h3,Rat.zero_mul] at a1 a2
     have hNne:X*X+Y*Y≠0:=by grind
     rcases Rat.mul_eq_zero.mp a1 with e | e
     ·exact absurd e hNne
     ·rcases Rat.mul_eq_zero.mp a2 with e' | e'
      ·exact absurd e' hNne
      ·exact⟨e,e'⟩
    have hsz:∀ n:Pt,support t n=0:=fun n=>iE fun v hv=>by
     obtain⟨a1,a2⟩:=hz v hv
     rw[a1,a2]; grind
    have c1:rx ⟨1,0⟩=1:=rfl
    have c2:ry ⟨1,0⟩=0:=rfl
    have c3:rx ⟨0,1⟩=0:=rfl
    have c4:ry ⟨0,1⟩=1:=rfl
    have c5:rx ⟨-1,0⟩ = -1:=rfl
    have c6:ry ⟨-1,0⟩=0:=rfl
    have c7:rx ⟨0,-1⟩=0:=rfl
    have c8:ry ⟨0,-1⟩ = -1:=rfl
    by_cases g1:0<X
    ·exact⟨⟨1,0⟩,dir_ax (by simp),by rw[c1,c2]; grind,hsz _⟩
    ·by_cases g2:X<0
     ·exact⟨⟨-1,0⟩,dir_ax (by simp),by rw[c5,c6]; grind,hsz _⟩
     ·by_cases g3:0<Y
      ·exact⟨⟨0,1⟩,dir_ax (by simp),by rw[c3,c4]; grind,hsz _⟩
      ·have g4:Y<0:=by
        have:X=0:=by grind
        have:Y≠0:=fun e=>hD ⟨this,e⟩
        grind
       exact⟨⟨0,-1⟩,dir_ax (by simp),by rw[c7,c8]; grind,hsz _⟩
end WM
namespace WM
open Vbreal
def iF(t:List Pt)(X Y:Rat)(m:Option Rat)(n:Pt):Option Rat:=match m with
 | none=>none
 | some z=>if rx n*X+ry n*Y≤0 then some z
  else if support t n=0 then none
  else some (if z<(rx n*X+ry n*Y) / ((support t n:Int):Rat) then(rx n*X+ry n*Y) / ((support t n:Int):Rat) else z)
def dualT(t:List Pt)(X Y:Rat):Option Rat:=(directions t).foldl (iF t X Y) (some 0)
theorem dFold_none(t:List Pt)(X Y:Rat):∀ l:List Pt,l.foldl (iF t X Y) none=none
 | []=>rfl
 | n::l=>by rw[List.foldl_cons]; exact dFold_none t X Y l
theorem dFold_never{t:List Pt}{X Y:Rat}:∀ (l:List Pt) (m:Option Rat),(∃ n∈l,0<rx n*X+ry n*Y∧support t n=0)→l.foldl (iF t X Y) m=none
 | [],_,h=>by obtain⟨n,hn,_⟩:=h; simp at hn
 | a::l,m,h=>by
  rw[List.foldl_cons]
  obtain⟨n,hn,h1,h2⟩:=h
  rcases List.mem_cons.mp hn with rfl | hn
  ·have:iF t X Y m n=none:=by
    cases m with
    | none=>rfl
    | some z=>dsimp only[iF]; rw[if_neg (Rat.not_le.mpr h1),if_pos h2]
   rw[this]
   exact dFold_none t X Y l
  ·exact dFold_never l _ ⟨n,hn,h1,h2⟩
theorem oR{t:List Pt}{X Y T:Rat}:∀ (l:List Pt) (z:Rat),z≤T→(∀ n∈l,0<rx n*X+ry n*Y→support t n≠0∧rx n*X+ry n*Y≤T*((support t n:Int):Rat)) →
  (z=T∨∃ n∈l,0<rx n*X+ry n*Y∧rx n*X+ry n*Y=T*((support t n:Int):Rat))→l.foldl (iF t X Y) (some z)=some T
 | [],z,_,_,h=>by
  rcases h with rfl | ⟨n,hn,_⟩
  ·rfl
  ·simp at hn
 | a::l,z,hz,hb,h=>by
  rw[List.foldl_cons]
  by_cases ha:rx a*X+ry a*Y≤0
  ·have e:iF t X Y (some z) a=some z:=by dsimp only[iF]; rw[if_pos ha]
   rw[e]
   refine oR l z hz (fun n hn=>hb n (List.mem_cons_of_mem _ hn)) ?_
   rcases h with rfl | ⟨n,hn,h1,h2⟩
   ·exact .inl rfl
   ·rcases List.mem_cons.mp hn with rfl | hn
    ·grind
    ·exact .inr ⟨n,hn,h1,h2⟩
  ·have ha':0<rx a*X+ry a*Y:=Rat.not_le.mp ha
   obtain⟨hs,hle⟩:=hb a List.mem_cons_self ha'
   have hpos:(0:Rat)<((support t a:Int):Rat):=Rat.intCast_pos.mpr (by have:=gY t a; omega)
   have hne:((support t a:Int):Rat)≠0:=by grind
   have hcan:=Rat.div_mul_cancel (a:=rx a*X+ry a*Y) hne
   have hu:(rx a*X+ry a*Y) / ((support t a:Int):Rat)≤T:=by
    refine Rat.le_of_mul_le_mul_right (c:=((support t a:Int):Rat)) ?_ hpos
    rw[hcan]; exact hle
   have e:iF t X Y (some z) a=some (if z<(rx a*X+ry a*Y) / ((support t a:Int):Rat) then(rx a*X+ry a*Y) / ((support t a:Int):Rat) else z):=by
    dsimp only[iF]; rw[if_neg ha,if_neg hs]
   rw[e]
   refine oR l _ (by split<;>assumption) (fun n hn=>hb n (List.mem_cons_of_mem _ hn)) ?_
   rcases h with rfl | ⟨n,hn,h1,h2⟩
   ·left; rw[if_neg (Rat.not_lt.mpr hu)]
   ·rcases List.mem_cons.mp hn with rfl | hn
    ·left
     have eT:(rx n*X+ry n*Y) / ((support t n:Int):Rat)=T:=by rw[h2,Rat.mul_div_cancel hne]
     rw[eT]
     split
     ·rfl
     ·exact Rat.le_antisymm hz (by grind)
    ·exact .inr ⟨n,hn,h1,h2⟩
theorem dualT_scale{t:List Pt}{X Y k:Rat}(hk:0<k):dualT t (k*X) (k*Y)=(dualT t X Y).map (k * ·):=by
 have key:∀ (l:List Pt) (m:Option Rat),l.foldl (iF t (k*X) (k*Y)) (m.map (k * ·))=(l.foldl (iF t X Y) m).map (k * ·):=by
  intro l
  induction l with
  | nil=>intro m; rfl
  | cons n l ih =>
   intro m
   rw[List.foldl_cons,List.foldl_cons,← ih]
   congr 1
   cases m with
   | none=>rfl
   | some z =>
    have e:rx n*(k*X)+ry n*(k*Y)=k*(rx n*X+ry n*Y):=by grind
    show iF t (k*X) (k*Y) (some (k*z)) n=_
    dsimp only[iF]
    rw[e]
    by_cases h:rx n*X+ry n*Y≤0
    ·have h':k*(rx n*X+ry n*Y)≤0:=by
      have:=Rat.mul_le_mul_of_nonneg_left h (Rat.le_of_lt hk)
      rwa [Rat.mul_zero] at this
     rw[if_pos h,if_pos h']; rfl
    ·have h':¬ k*(rx n*X+ry n*Y)≤0:=fun g=>h (by
      refine Rat.le_of_mul_le_mul_left (c:=k) ?_ hk
      rwa [Rat.mul_zero])
     rw[if_neg h,if_neg h']
     by_cases hs:support t n=0
     ·rw[if_pos hs,if_pos hs]; rfl
     ·rw[if_neg hs,if_neg hs]
      have ed:k*(rx n*X+ry n*Y) / ((support t n:Int):Rat)=k*((rx n*X+ry n*Y) / ((support t n:Int):Rat)):=by
       rw[Rat.div_def,Rat.div_def,Rat.mul_assoc]
      rw[ed]
      by_cases hz:z<(rx n*X+ry n*Y) / ((support t n:Int):Rat)
      ·rw[if_pos hz,if_pos ((Rat.mul_lt_mul_left hk).mpr hz)]; rfl
      ·rw[if_neg hz,if_neg (fun g=>hz ((Rat.mul_lt_mul_left hk).mp g))]; rfl
 have:=key (directions t) (some 0)
 unfold dualT
 rw[← this]
 show _=List.foldl _ (some (k*0)) _
 rw[Rat.mul_zero]
def fV(a b:Option Rat):Option Rat:=match a,b with
 | none,b=>b
 | some x,none=>some x
 | some x,some y=>if x<y then some x else some y
def kC(v:Pt)(A L:Int):Option Rat :=
 if v.x*L≠v.y*A then none
 else if v.x*A+v.y*L≤0 then none
 else some (Rat.divInt (v.x*A+v.y*L) (v.x^2+v.y^2))
def fW(f s:Pt)(A L:Int):Option Rat :=
 if f.x*s.y-f.y*s.x=0 then none
 else if (Rat.divInt (A*s.y-L*s.x) (f.x*s.y-f.y*s.x)).num<0∨(Rat.divInt (f.x*L-f.y*A) (f.x*s.y-f.y*s.x)).num<0 then none
 else some (Rat.divInt (A*s.y-L*s.x) (f.x*s.y-f.y*s.x)+Rat.divInt (f.x*L-f.y*A) (f.x*s.y-f.y*s.x))
def ltGo(A L:Int):List Pt→List Pt→Option Rat→Option Rat
 | _,[],b=>b
 | pre,f::r,b=>ltGo A L (pre++[f]) r (pre.foldl (fun b s=>fV b (fW f s A L)) (fV b (kC f A L)))
def dr(t:List Pt)(A L:Int):Option Rat:=ltGo A L [] t none
def mQ(C:Rat→Prop)(b:Option Rat):Prop:=(∀ T,b=some T→C T)∧(∀ T,C T→∃ z,b=some z∧z≤T)
theorem pK{C:Rat→Prop}{b c:Option Rat}(h:mQ C b):mQ (fun T=>C T∨c=some T) (fV b c):=by
 obtain⟨h1,h2⟩:=h
 cases b with
 | none =>
  refine⟨fun T e=>.inr e,fun T e=>?_⟩
  rcases e with e | e
  ·obtain⟨z,hz,_⟩:=h2 T e; cases hz
  ·exact⟨T,e,Rat.le_refl⟩
 | some x =>
  cases c with
  | none =>
   refine⟨fun T e=>.inl (h1 T e),fun T e=>?_⟩
   rcases e with e | e
   ·exact h2 T e
   ·cases e
  | some y =>
   show mQ _ (if x<y then some x else some y)
   by_cases hxy:x<y
   ·rw[if_pos hxy]
    refine⟨fun T e=>.inl (h1 T e),fun T e=>?_⟩
    rcases e with e | e
    ·exact h2 T e
    ·cases e; exact⟨x,rfl,Rat.le_of_lt hxy⟩
   ·rw[if_neg hxy]
    refine⟨fun T e=>.inr e,fun T e=>?_⟩
    rcases e with e | e
    ·obtain⟨z,hz,hle⟩:=h2 T e
     cases hz
     exact⟨y,rfl,Rat.le_trans (Rat.not_lt.mp hxy) hle⟩
    ·cases e; exact⟨y,rfl,Rat.le_refl⟩
theorem mQ.congr{C D:Rat→Prop}{b:Option Rat}(h:mQ C b)(e:∀ T,C T↔D T):mQ D b :=
 ⟨fun T q=>(e T).mp (h.1 T q),fun T q=>h.2 T ((e T).mpr q)⟩
theorem least_fold{A L:Int}{f:Pt}:∀ (l:List Pt) {C:Rat→Prop} {b:Option Rat},mQ C b→mQ (fun T=>C T∨∃ s∈l,fW f s A L=some T) (l.foldl (fun b s=>fV b (fW f s A L)) b)
 | [],C,b,h=>h.congr fun T=>by simp
 | s::l,C,b,h=>by
  rw[List.foldl_cons]
  refine(least_fold l (pK h)).congr fun T=>?_
  constructor
  ·rintro((h | h) | ⟨z,hz,h⟩)
   ·exact .inl h
   ·exact .inr ⟨s,List.mem_cons_self,h⟩
   ·exact .inr ⟨z,List.mem_cons_of_mem _ hz,h⟩
  ·rintro(h | ⟨z,hz,h⟩)
   ·exact .inl (.inl h)
   ·rcases List.mem_cons.mp hz with rfl | hz
    ·exact .inl (.inr h)
    ·exact .inr ⟨z,hz,h⟩
theorem rF{f s:Pt}{A L:Int}:fW f s A L=fW s f A L:=by
 unfold fW
 have e1:s.x*f.y-s.y*f.x = -(f.x*s.y-f.y*s.x):=by grind
 have e2:A*f.y-L*f.x = -(f.x*L-f.y*A):=by grind
 have e3:s.x*L-s.y*A = -(A*s.y-L*s.x):=by grind
 rw[e1,e2,e3,Rat.neg_divInt_neg,Rat.neg_divInt_neg]
 by_cases h:f.x*s.y-f.y*s.x=0
 ·rw[if_pos h,if_pos (show -(f.x*s.y-f.y*s.x)=0 by omega)]
 ·rw[if_neg h,if_neg (show ¬ -(f.x*s.y-f.y*s.x)=0 by omega)]
  generalize Rat.divInt (f.x*L-f.y*A) (f.x*s.y-f.y*s.x)=p
  generalize Rat.divInt (A*s.y-L*s.x) (f.x*s.y-f.y*s.x)=q
  by_cases hq:q.num<0∨p.num<0
  ·rw[if_pos hq,if_pos hq.symm]
  ·rw[if_neg hq,if_neg (fun g=>hq g.symm),Rat.add_comm]
def CandP(t:List Pt)(A L:Int)(T:Rat):Prop:=(∃ v∈t,kC v A L=some T)∨∃ f∈t,∃ s∈t,fW f s A L=some T
theorem time2_self(v:Pt)(A L:Int):fW v v A L=none:=by
 unfold fW
 rw[if_pos (by grind)]
theorem least_go{A L:Int}:∀ (r pre:List Pt) {b:Option Rat},mQ (CandP pre A L) b→mQ (CandP (pre++r) A L) (ltGo A L pre r b)
 | [],pre,b,h=>by rw[List.append_nil]; exact h
 | f::r,pre,b,h=>by
  unfold ltGo
  have e:pre++f::r=pre++[f]++r:=by rw[List.append_assoc]; rfl
  rw[e]
  refine least_go r (pre++[f]) ((least_fold pre (pK h)).congr fun T=>?_)
  unfold CandP
  constructor
  ·rintro(((⟨v,hv,h⟩ | ⟨v,hv,z,hz,h⟩) | h) | ⟨s,hs,h⟩)
   ·exact .inl ⟨v,List.mem_append_left _ hv,h⟩
   ·exact .inr ⟨v,List.mem_append_left _ hv,z,List.mem_append_left _ hz,h⟩
   ·exact .inl ⟨f,List.mem_append_right _ List.mem_cons_self,h⟩
   ·exact .inr ⟨f,List.mem_append_right _ List.mem_cons_self,s,List.mem_append_left _ hs,h⟩
  ·have mem:∀ v,v∈pre++[f]→v∈pre∨v=f:=fun v hv=>by
    rcases List.mem_append.mp hv with h | h
    ·exact .inl h
    ·exact .inr (List.mem_singleton.mp h)
   rintro(⟨v,hv,h⟩ | ⟨v,hv,z,hz,h⟩)
   ·rcases mem v hv with hv | rfl
    ·exact .inl (.inl (.inl ⟨v,hv,h⟩))
    ·exact .inl (.inr h)
   ·rcases mem v hv with hv | rfl<;>rcases mem z hz with hz | rfl
    ·exact .inl (.inl (.inr ⟨v,hv,z,hz,h⟩))
    ·rename_i hv'
     exact .inr ⟨v,hv',by rw[rF]; exact h⟩
    ·exact .inr ⟨z,hz,h⟩
    ·rw[time2_self] at h; cases h
theorem gu(t:List Pt)(A L:Int):mQ (CandP t A L) (dr t A L):=by
 have h:mQ (CandP [] A L) none:=by
  refine⟨fun T e=>?_,fun T e=>?_⟩
  ·cases e
  ·rcases e with⟨v,hv,_⟩ | ⟨v,hv,_⟩<;>simp at hv
 exact least_go t [] h
theorem aX(a b:Int):Rat.divInt a b=(a:Rat) / (b:Rat):=Rat.divInt_eq_div a b
theorem time1_some{v:Pt}{A L:Int}{T:Rat}(h:kC v A L=some T):cc A L v=0∧0<dd A L v∧T*dd A L v=(A:Rat)*A+L*L:=by
 unfold kC at h
 split at h
 ·cases h
 ·rename_i h1
  split at h
  ·cases h
  ·rename_i h2
   have h1':v.x*L=v.y*A:=Classical.not_not.mp h1
   have h2':0<v.x*A+v.y*L:=by omega
   have e1:rx v*L=ry v*A:=by unfold rx ry; rw[← Rat.intCast_mul,← Rat.intCast_mul,h1']
   have e2:(0:Rat)<rx v*A+ry v*L:=by
    have:=Rat.intCast_pos.mpr h2'
    rwa [Rat.intCast_add,Rat.intCast_mul,Rat.intCast_mul] at this
   have hT:=Option.some.inj h
   rw[aX,Rat.intCast_add,Rat.intCast_mul,Rat.intCast_mul,Rat.intCast_add,Rat.intCast_pow,Rat.intCast_pow] at hT
   have hT':(rx v*A+ry v*L) / (rx v^2+ry v^2)=T:=hT
   have hne:rx v^2+ry v^2≠0:=by
    intro e
    have hz:¬ (rx v=0∧ry v=0):=by rintro⟨a,b⟩; rw[a,b] at e2; grind
    have:=sq_pos hz
    grind
   have hm:=Rat.div_mul_cancel (a:=rx v*A+ry v*L) hne
   rw[hT'] at hm
   refine⟨by unfold cc; grind,by unfold dd; grind,?_⟩
   have h3:(rx v^2+ry v^2)*(T*dd A L v-((A:Rat)*A+L*L))=0:=by
    have:(rx v^2+ry v^2)*(T*dd A L v-((A:Rat)*A+L*L))=(T*(rx v^2+ry v^2))*dd A L v-(rx v^2+ry v^2)*((A:Rat)*A+L*L):=by grind
    rw[this,hm]
    unfold dd
    grind
   rcases Rat.mul_eq_zero.mp h3 with e | e
   ·exact absurd e hne
   ·grind
theorem time1_of{v:Pt}{A L:Int}(h1:cc A L v=0)(h2:0<dd A L v):∃ T,kC v A L=some T:=by
 unfold kC
 have e1:v.x*L=v.y*A:=by
  have:((v.x*L:Int):Rat)=((v.y*A:Int):Rat):=by
   rw[Rat.intCast_mul,Rat.intCast_mul]
   unfold cc rx ry at h1
   grind
  exact Rat.intCast_inj.mp this
 have e2:0<v.x*A+v.y*L:=by
  have:(0:Rat)<((v.x*A+v.y*L:Int):Rat):=by
   rw[Rat.intCast_add,Rat.intCast_mul,Rat.intCast_mul]
   unfold dd rx ry at h2
   grind
  exact Rat.intCast_pos.mp this
 rw[if_neg (by simp[e1]),if_neg (by omega)]
 exact⟨_,rfl⟩
theorem gZ{q:Rat}:¬ q.num<0↔0≤q:=by
 rw[← Rat.num_nonneg]; omega
theorem time2_some{f s:Pt}{A L:Int}{T:Rat}(h:fW f s A L=some T):∃ a b:Rat,0≤a∧0≤b∧a*rx f+b*rx s=A∧a*ry f+b*ry s=L∧T=a+b∧a*(rx f*ry s-ry f*rx s)=cc A L s∧b*(rx f*ry s-ry f*rx s) = -cc A L f:=by
 unfold fW at h
 split at h
 ·cases h
 ·rename_i h0
  split at h
  ·cases h
  ·rename_i h1
   have ha:¬ (Rat.divInt (A*s.y-L*s.x) (f.x*s.y-f.y*s.x)).num<0:=fun g=>h1 (.inl g)
   have hb:¬ (Rat.divInt (f.x*L-f.y*A) (f.x*s.y-f.y*s.x)).num<0:=fun g=>h1 (.inr g)
   have hne:rx f*ry s-ry f*rx s≠0:=by
    intro e
    apply h0
    have:((f.x*s.y-f.y*s.x:Int):Rat)=((0:Int):Rat):=by
     rw[Rat.intCast_sub,Rat.intCast_mul,Rat.intCast_mul]; exact e
    exact Rat.intCast_inj.mp this
   have ea:Rat.divInt (A*s.y-L*s.x) (f.x*s.y-f.y*s.x)=((A:Rat)*ry s-L*rx s) / (rx f*ry s-ry f*rx s):=by
    rw[aX,Rat.intCast_sub,Rat.intCast_sub,Rat.intCast_mul,Rat.intCast_mul,Rat.intCast_mul,Rat.intCast_mul]; rfl
   have eb:Rat.divInt (f.x*L-f.y*A) (f.x*s.y-f.y*s.x)=(rx f*L-ry f*A) / (rx f*ry s-ry f*rx s):=by
    rw[aX,Rat.intCast_sub,Rat.intCast_sub,Rat.intCast_mul,Rat.intCast_mul,Rat.intCast_mul,Rat.intCast_mul]; rfl
   have pa:=gZ.mp ha
   have pb:=gZ.mp hb
   have hT:=(Option.some.inj h).symm
   have ma:=Rat.div_mul_cancel (a:=(A:Rat)*ry s-L*rx s) hne
   have mb:=Rat.div_mul_cancel (a:=rx f*L-ry f*A) hne
   rw[← ea] at ma
   rw[← eb] at mb
   generalize Rat.divInt (A*s.y-L*s.x) (f.x*s.y-f.y*s.x)=a at *
   generalize Rat.divInt (f.x*L-f.y*A) (f.x*s.y-f.y*s.x)=b at *
   have cancel:∀ {p q:Rat},(rx f*ry s-ry f*rx s)*p=(rx f*ry s-ry f*rx s)*q→p=q:=fun {p q} e=>by
    have:(rx f*ry s-ry f*rx s)*(p-q)=0:=by grind
    rcases Rat.mul_eq_zero.mp this with g | g
    ·exact absurd g hne
    ·grind
   refine⟨a,b,pa,pb,cancel ?_,cancel ?_,hT,by unfold cc; grind,by unfold cc; grind⟩
   ·have:(rx f*ry s-ry f*rx s)*(a*rx f+b*rx s)=(a*(rx f*ry s-ry f*rx s))*rx f+(b*(rx f*ry s-ry f*rx s))*rx s:=by grind
    rw[this,ma,mb]; grind
   ·have:(rx f*ry s-ry f*rx s)*(a*ry f+b*ry s)=(a*(rx f*ry s-ry f*rx s))*ry f+(b*(rx f*ry s-ry f*rx s))*ry s:=by grind
    rw[this,ma,mb]; grind
theorem time2_of{f s:Pt}{A L:Int}(h1:0≤cc A L s)(h2:cc A L f≤0)(h3:0<rx f*ry s-ry f*rx s):∃ T,fW f s A L=some T∧T*(rx f*ry s-ry f*rx s)=cc A L s-cc A L f:=by
 have hne:rx f*ry s-ry f*rx s≠0:=by grind
 have h0:¬ f.x*s.y-f.y*s.x=0:=fun e=>hne (by
  have:((f.x*s.y-f.y*s.x:Int):Rat)=((0:Int):Rat):=by rw[e]
  rw[Rat.intCast_sub,Rat.intCast_mul,Rat.intCast_mul] at this
  exact this)
 have ea:Rat.divInt (A*s.y-L*s.x) (f.x*s.y-f.y*s.x)=((A:Rat)*ry s-L*rx s) / (rx f*ry s-ry f*rx s):=by
  rw[aX,Rat.intCast_sub,Rat.intCast_sub,Rat.intCast_mul,Rat.intCast_mul,Rat.intCast_mul,Rat.intCast_mul]; rfl
 have eb:Rat.divInt (f.x*L-f.y*A) (f.x*s.y-f.y*s.x)=(rx f*L-ry f*A) / (rx f*ry s-ry f*rx s):=by
  rw[aX,Rat.intCast_sub,Rat.intCast_sub,Rat.intCast_mul,Rat.intCast_mul,Rat.intCast_mul,Rat.intCast_mul]; rfl
 have ma:=Rat.div_mul_cancel (a:=(A:Rat)*ry s-L*rx s) hne
 have mb:=Rat.div_mul_cancel (a:=rx f*L-ry f*A) hne
 unfold fW
 rw[if_neg h0]
 rw[← ea] at ma
 rw[← eb] at mb
 generalize Rat.divInt (A*s.y-L*s.x) (f.x*s.y-f.y*s.x)=a at *
 generalize Rat.divInt (f.x*L-f.y*A) (f.x*s.y-f.y*s.x)=b at *
 have pos:∀ {z:Rat},0≤z*(rx f*ry s-ry f*rx s)→¬ z.num<0:=fun {z} h=>by
  rw[gZ]
  refine Rat.le_of_mul_le_mul_right (c:=rx f*ry s-ry f*rx s) ?_ h3
  rw[Rat.zero_mul]; exact h
 have pa:=pos (z:=a) (by rw[ma]; unfold cc at h1; exact h1)
 have pb:=pos (z:=b) (by rw[mb]; unfold cc at h2; grind)
 rw[if_neg (by rintro(g | g)<;>contradiction)]
 refine⟨_,rfl,?_⟩
 rw[Rat.add_mul,ma,mb]
 unfold cc
 grind
theorem cand_fea{t:List Pt}{A L:Int}{T:Rat}(h:CandP t A L T):Fea t A L T:=by
 rcases h with⟨v,hv,h⟩ | ⟨f,hf,s,hs,h⟩
 ·obtain⟨h1,h2,h3⟩:=time1_some h
  have hd:dd A L v≠0:=by grind
  have cancel:∀ {p q:Rat},dd A L v*p=dd A L v*q→p=q:=fun {p q} e=>by
   have:dd A L v*(p-q)=0:=by grind
   rcases Rat.mul_eq_zero.mp this with g | g
   ·exact absurd g hd
   ·grind
  have hT:0≤T:=by
   refine Rat.le_of_mul_le_mul_right (c:=dd A L v) ?_ h2
   rw[h3,Rat.zero_mul]
   by_cases hz:((A:Rat)=0∧(L:Rat)=0)
   ·rw[hz.1,hz.2]; grind
   ·exact Rat.le_of_lt (sq_pos hz)
  refine⟨v,hv,v,hv,T,0,hT,Rat.le_refl,cancel ?_,cancel ?_,by grind⟩
  ·have:dd A L v*(T*rx v+0*rx v)=(T*dd A L v)*rx v:=by grind
   rw[this,h3]; unfold dd; unfold cc at h1; grind
  ·have:dd A L v*(T*ry v+0*ry v)=(T*dd A L v)*ry v:=by grind
   rw[this,h3]; unfold dd; unfold cc at h1; grind
 ·obtain⟨a,b,ha,hb,ex,ey,eT,_⟩:=time2_some h
  exact⟨f,hf,s,hs,a,b,ha,hb,ex,ey,eT⟩
theorem oS{t:List Pt}{A L:Int}(hD:¬ (A=0∧L=0)):dr t A L=dualT t A L:=by
 have hD':¬ ((A:Rat)=0∧(L:Rat)=0):=fun⟨a,b⟩=>hD ⟨Rat.intCast_eq_zero_iff.mp a,Rat.intCast_eq_zero_iff.mp b⟩
 have hN:=sq_pos hD'
 have ar:∀ j v:Pt,((A:Rat)*A+L*L)*(rx j*ry v-ry j*rx v)=dd A L j*cc A L v-cc A L j*dd A L v:=fun j v=>by unfold dd cc; grind
 obtain⟨h1,h2⟩:=gu t A L
 cases e:dr t A L with
 | some T =>
  have hC:=h1 T e
  have hF:=cand_fea hC
  have le:∀ T',CandP t A L T'→T≤T':=fun T' c=>by
   obtain⟨z,hz,hle⟩:=h2 T' c
   rw[e] at hz; cases hz; exact hle
  obtain⟨n,hn,hp,hq⟩:=dual_some hD' hF (fun v hv c0 d0=>by
    obtain⟨T',hT'⟩:=time1_of c0 d0
    have g:=le T' (.inl ⟨v,hv,hT'⟩)
    have g2:=Rat.mul_le_mul_of_nonneg_right g (Rat.le_of_lt d0)
    rw[(time1_some hT').2.2] at g2
    exact g2)
   (fun j hj v hv cj cv hpos=>by
    rw[← ar j v] at hpos ⊢
    have hpos':=(Rat.mul_pos_iff_of_pos_left hN).mp hpos
    obtain⟨T',hT',eT'⟩:=time2_of (f:=j) (s:=v) (Rat.le_of_lt cv) (Rat.le_of_lt cj) hpos'
    have g:=le T' (.inr ⟨j,hj,v,hv,hT'⟩)
    have g2:=Rat.mul_le_mul_of_nonneg_right g (Rat.le_of_lt hpos')
    rw[eT'] at g2
    have g3:=Rat.mul_le_mul_of_nonneg_left g2 (Rat.le_of_lt hN)
    grind)
  refine(oR (directions t) 0 (weak hF ⟨0,0⟩).1 (fun n hn hpos=>?_) (.inr ⟨n,hn,hp,hq⟩)).symm
  have w:=(weak hF n).2
  refine⟨fun hz=>?_,w⟩
  rw[hz] at w
  have:((0:Int):Rat)=0:=rfl
  rw[this,Rat.mul_zero] at w
  grind
 | none =>
  have no:∀ T,¬ CandP t A L T:=fun T c=>by
   obtain⟨z,hz,_⟩:=h2 T c
   rw[e] at hz; cases hz
  refine(dFold_never (directions t) _ (dual_none hD' (fun v hv c0=>?_) fun j hj v hv cj cv=>?_)).symm
  ·rcases Rat.le_total (a:=dd A L v) (b:=0) with g | g
   ·exact g
   ·rcases Rat.le_iff_lt_or_eq.mp g with g | g
    ·obtain⟨T',hT'⟩:=time1_of c0 g
     exact absurd (.inl ⟨v,hv,hT'⟩) (no T')
    ·rw[← g]; exact Rat.le_refl
  ·rw[← ar j v]
   by_cases g:0<rx j*ry v-ry j*rx v
   ·obtain⟨T',hT',_⟩:=time2_of (f:=j) (s:=v) (Rat.le_of_lt cv) (Rat.le_of_lt cj) g
    exact absurd (.inr ⟨j,hj,v,hv,hT'⟩) (no T')
   ·have g':=Rat.not_lt.mp g
    have:=Rat.mul_le_mul_of_nonneg_left g' (Rat.le_of_lt hN)
    rwa [Rat.mul_zero] at this
end WM
namespace WM
open Vbreal
def bC(t:List Pt)(e n:Rat)(dx dy:Int):Option Rat :=
 if dx=0∧dy=0 then some 0
 else if e.num=0∧n.num=0 then none
 else(dr t (dx*(e.num*n.den)+dy*(n.num*e.den)) (dy*(e.num*n.den)-dx*(n.num*e.den))).map
  (· * Rat.divInt (1000*(e.den*n.den)) (e.num*n.den*(e.num*n.den)+n.num*e.den*(n.num*e.den)))
theorem eG(q:Rat):(q.num:Rat)=q*(q.den:Rat):=by
 have h:=Rat.num_divInt_den q
 have hd:(q.den:Rat)≠0:=by
  have:=Rat.natCast_pos.mpr q.den_pos
  grind
 rw[aX] at h
 have e:((q.den:Int):Rat)=(q.den:Rat):=rfl
 rw[e] at h
 have:=Rat.div_mul_cancel (a:=(q.num:Rat)) hd
 rw[h] at this
 exact this.symm
theorem mC(t:List Pt)(e n:Rat)(d:Pt):timeIn t ⟨F e,F n⟩ d=(bC t e n d.x d.y).map F:=by
 unfold timeIn bC
 by_cases hd:d=⟨0,0⟩
 ·subst hd; rfl
 ·have hd':¬ (d.x=0∧d.y=0):=fun⟨a,b⟩=>hd (by cases d; simp_all)
  rw[if_neg hd,if_neg hd']
  have hz:((F e=zero∧F n=zero)↔(e.num=0∧n.num=0)):=by
   rw[iQ]
   constructor
   ·rintro⟨a,b⟩
    rw[F_inj a,F_inj b]; exact⟨rfl,rfl⟩
   ·rintro⟨a,b⟩
    rw[Rat.num_eq_zero.mp a,Rat.num_eq_zero.mp b]; exact⟨rfl,rfl⟩
  by_cases hw:e.num=0∧n.num=0
  ·rw[if_pos hw,if_pos (hz.mpr hw)]; rfl
  ·rw[if_neg hw,if_neg (fun g=>hw (hz.mp g))]
   have hw':¬ (e=0∧n=0):=fun⟨a,b⟩=>hw ⟨Rat.num_eq_zero.mpr a,Rat.num_eq_zero.mpr b⟩
   have hs:0<e*e+n*n:=sq_pos hw'
   have ev:inWind ⟨F e,F n⟩ d=(F (1000*((d.x:Rat)*e+d.y*n) / (e*e+n*n)),F (1000*((d.y:Rat)*e-d.x*n) / (e*e+n*n))):=by
    unfold inWind
    dsimp only
    rw[eE,eE,mP,cq,cq,cq,eE,eE,mP,eE,kz _ _ hs,eE,eE,sub_F,eE,kz _ _ hs]
    rfl
   rw[ev]
   dsimp only
   generalize hX:1000*((d.x:Rat)*e+d.y*n) / (e*e+n*n)=X
   generalize hY:1000*((d.y:Rat)*e-d.x*n) / (e*e+n*n)=Y
   have key:∀ (l:List Pt) (m:Option Rat),l.foldl (fun(m:Option Frac) n=>match m with
     | none=>none
     | some z =>
      if atMost (add (mul (whole n.x) (F X)) (mul (whole n.y) (F Y))) zero=true then some z
      else if support t n=0 then none
      else some (if less z (over (add (mul (whole n.x) (F X)) (mul (whole n.y) (F Y))) (whole (support t n)))=true then over (add (mul (whole n.x) (F X)) (mul (whole n.y) (F Y))) (whole (support t n)) else z)) (m.map F)=(l.foldl (iF t X Y) m).map F:=by
    intro l
    induction l with
    | nil=>intro m; rfl
    | cons a l ih =>
     intro m
     rw[List.foldl_cons,List.foldl_cons,← ih]
     congr 1
     cases m with
     | none=>rfl
     | some z =>
      dsimp only[iF,Option.map]
      rw[cq,cq,cq,eE,eE,mP,iQ,rg]
      show _=Option.map F _
      have e1:(a.x:Rat)*X+(a.y:Rat)*Y=rx a*X+ry a*Y:=rfl
      rw[e1]
      by_cases h1:rx a*X+ry a*Y≤0
      ·rw[if_pos (decide_eq_true h1),if_pos h1]; rfl
      ·rw[if_neg (by simpa using h1),if_neg h1]
       by_cases h2:support t a=0
       ·rw[if_pos h2,if_pos h2]; rfl
       ·rw[if_neg h2,if_neg h2]
        have hpos:(0:Rat)<((support t a:Int):Rat):=Rat.intCast_pos.mpr (by have:=gY t a; omega)
        rw[kz _ _ hpos,fK]
        by_cases h3:z<(rx a*X+ry a*Y) / ((support t a:Int):Rat)
        ·rw[if_pos (decide_eq_true h3),if_pos h3]; rfl
        ·rw[if_neg (by simpa using h3),if_neg h3]; rfl
   have k0:=key (directions t) (some 0)
   refine Eq.trans ?_ (k0.trans ?_)
   ·rfl
   ·congr 1
    show dualT t X Y=_
    have dne:(e.den:Rat)≠0:=by have:=Rat.natCast_pos.mpr e.den_pos; grind
    have dnn:(n.den:Rat)≠0:=by have:=Rat.natCast_pos.mpr n.den_pos; grind
    have pe:(0:Rat)<e.den:=Rat.natCast_pos.mpr e.den_pos
    have pn:(0:Rat)<n.den:=Rat.natCast_pos.mpr n.den_pos
    generalize hA:d.x*(e.num*n.den)+d.y*(n.num*e.den)=A
    generalize hL:d.y*(e.num*n.den)-d.x*(n.num*e.den)=L
    generalize hk:Rat.divInt (1000*(e.den*n.den)) (e.num*n.den*(e.num*n.den)+n.num*e.den*(n.num*e.den))=k
    have hA':(A:Rat)=(e.den*n.den)*((d.x:Rat)*e+d.y*n):=by
     rw[← hA]
     simp only[Rat.intCast_add,Rat.intCast_mul,Rat.intCast_natCast,eG]
     grind
    have hL':(L:Rat)=(e.den*n.den)*((d.y:Rat)*e-d.x*n):=by
     rw[← hL]
     simp only[Rat.intCast_sub,Rat.intCast_mul,Rat.intCast_natCast,eG]
     grind
    have hk':k=1000 / ((e.den*n.den)*(e*e+n*n)):=by
     rw[← hk,aX]
     simp only[Rat.intCast_add,Rat.intCast_mul,Rat.intCast_natCast,eG]
     have hne:((e.den:Rat)*n.den)*(e*e+n*n)≠0:=by
      have:=Rat.mul_pos (Rat.mul_pos pe pn) hs
      grind
     have hne2:e * ↑e.den * ↑n.den*(e * ↑e.den * ↑n.den)+n * ↑n.den * ↑e.den*(n * ↑n.den * ↑e.den)≠0:=by
      have:=Rat.mul_pos (Rat.mul_pos pe pn) (Rat.mul_pos (Rat.mul_pos pe pn) hs)
      grind
     have c:((1000:Int):Rat)=1000:=rfl
     rw[c]
     have m1:=Rat.div_mul_cancel (a:=(1000:Rat)*(↑e.den * ↑n.den)) hne2
     have m2:=Rat.div_mul_cancel (a:=(1000:Rat)) hne
     grind
    have hkpos:0<k:=by
     rw[hk',Rat.div_def]
     exact Rat.mul_pos (by decide) (Rat.inv_pos.mpr (Rat.mul_pos (Rat.mul_pos pe pn) hs))
    have hsne:e*e+n*n≠0:=by grind
    have hgne:((e.den:Rat)*n.den)*(e*e+n*n)≠0:=by
     have:=Rat.mul_pos (Rat.mul_pos pe pn) hs
     grind
    have m2:=Rat.div_mul_cancel (a:=(1000:Rat)) hgne
    rw[← hk'] at m2
    have cancel:∀ {p q:Rat},(e*e+n*n)*p=(e*e+n*n)*q→p=q:=fun {p q} h=>by
     have:(e*e+n*n)*(p-q)=0:=by grind
     rcases Rat.mul_eq_zero.mp this with g | g
     ·exact absurd g hsne
     ·grind
    have hXk:X=k*A:=by
     apply cancel
     rw[← hX,hA',Rat.mul_comm,Rat.div_mul_cancel hsne]
     grind
    have hYk:Y=k*L:=by
     apply cancel
     rw[← hY,hL',Rat.mul_comm,Rat.div_mul_cancel hsne]
     grind
    have hAL:¬ (A=0∧L=0):=by
     rintro⟨a,b⟩
     rw[a] at hA'
     rw[b] at hL'
     have z0:((0:Int):Rat)=0:=rfl
     rw[z0] at hA' hL'
     have hde:(e.den:Rat)*n.den≠0:=by have:=Rat.mul_pos pe pn; grind
     rcases Rat.mul_eq_zero.mp hA'.symm with g | g1
     ·exact hde g
     ·rcases Rat.mul_eq_zero.mp hL'.symm with g | g2
      ·exact hde g
      ·have q1:(d.x:Rat)*(e*e+n*n)=0:=by grind
       have q2:(d.y:Rat)*(e*e+n*n)=0:=by grind
       rcases Rat.mul_eq_zero.mp q1 with g | g
       ·rcases Rat.mul_eq_zero.mp q2 with g' | g'
        ·exact hd' ⟨Rat.intCast_eq_zero_iff.mp g,Rat.intCast_eq_zero_iff.mp g'⟩
        ·exact hsne g'
       ·exact hsne g
    rw[hXk,hYk,dualT_scale hkpos,oS hAL]
    congr 1
    funext z
    exact Rat.mul_comm _ _
end WM
namespace WM
open Vbreal
def fX(a b:Int)(t u:Nat)(m:Rat):Rat:=a+(b-a)*(m-t) / ((u:Rat)-t)
theorem gG(a b:Int){t u:Nat}(h:t<u)(m:Rat):evenly a b t u (F m)=F (fX a b t u m):=by
 unfold evenly fX
 have hp:(0:Rat)<(((u-t:Nat):Int):Rat):=Rat.intCast_pos.mpr (by omega)
 rw[cq,cq,cq,cq,sub_F,eE,kz _ _ hp,mP]
 have e1:(((u-t:Nat):Int):Rat)=(u:Rat)-t:=by
  rw[Int.ofNat_sub (by omega),Rat.intCast_sub]; rfl
 rw[e1,Rat.intCast_sub]
 rfl
def cO(m:Rat):Option Seen→List Seen→Option (Rat×Rat)
 | _,[]=>none
 | old,s::r =>
  if (s.t:Int)*m.den=m.num then some ((s.e:Rat),(s.n:Rat))
  else if m.num<(s.t:Int)*m.den then(match old with
   | none=>none
   | some w =>
    let span:=((s.t:Int)-w.t)*m.den
    let gone:=m.num-(w.t:Int)*m.den
    some (Rat.divInt (w.e*(span-gone)+s.e*gone) span,Rat.divInt (w.n*(span-gone)+s.n*gone) span))
  else cO m (some s) r
def bL(l:List Seen)(m:Rat):Option (Rat×Rat):=cO m none l
def a8(w:Rat×Rat):Vec:=⟨F w.1,F w.2⟩
def cP(l:List Seen):Prop:=l.Pairwise fun a b=>a.t<b.t
theorem cS(t:Nat)(m:Rat):(t:Int)*m.den=m.num↔m=(t:Rat):=by
 constructor
 ·intro h
  apply Rat.eq_iff_mul_eq_mul.mpr
  show m.num*((1:Nat):Int)=(t:Int)*m.den
  omega
 ·intro h
  subst h
  show(t:Int)*((1:Nat):Int)=(t:Int)
  omega
theorem df(t:Nat)(m:Rat):m.num<(t:Int)*m.den↔m<(t:Rat):=by
 rw[Rat.lt_iff]
 show _↔m.num*((1:Nat):Int)<(t:Int)*m.den
 omega
theorem dR(a b:Int){t u:Nat}(h:t<u)(m:Rat) :
  Rat.divInt (a*(((u:Int)-t)*m.den-(m.num-(t:Int)*m.den))+b*(m.num-(t:Int)*m.den)) (((u:Int)-t)*m.den)=fX a b t u m:=by
 unfold fX
 have hd:(m.den:Rat)≠0:=by have:=Rat.natCast_pos.mpr m.den_pos; grind
 have hp:(0:Rat)<(u:Rat)-t:=by
  have:(t:Rat)<(u:Rat):=Rat.natCast_lt_natCast.mpr h
  grind
 have hne:(u:Rat)-t≠0:=by grind
 have hne2:((u:Rat)-t)*m.den≠0:=by
  intro g
  rcases Rat.mul_eq_zero.mp g with g | g
  ·exact hne g
  ·exact hd g
 rw[aX]
 simp only[Rat.intCast_add,Rat.intCast_sub,Rat.intCast_mul,Rat.intCast_natCast,eG]
 have m1:=Rat.div_mul_cancel (a:=(a:Rat)*(((u:Rat)-t)*m.den-(m*m.den-t*m.den))+b*(m*m.den-t*m.den)) hne2
 have m2:=Rat.div_mul_cancel (a:=((b:Rat)-a)*(m-t)) hne
 generalize ((a:Rat)*(((u:Rat)-t)*m.den-(m*m.den-t*m.den))+b*(m*m.den-t*m.den)) / (((u:Rat)-t)*m.den)=z at *
 generalize ((b:Rat)-a)*(m-t) / ((u:Rat)-t)=y at *
 have:(((u:Rat)-t)*m.den)*(z-(a+y))=0:=by grind
 rcases Rat.mul_eq_zero.mp this with g | g
 ·exact absurd g hne2
 ·grind
theorem jF(a b:Int)(t u:Nat):fX a b t u (t:Rat)=a:=by
 unfold fX
 have:(t:Rat)-t=0:=by grind
 rw[this,Rat.mul_zero,Rat.div_def,Rat.zero_mul,Rat.add_zero]
theorem iG(a b:Int){t u:Nat}(h:t<u):fX a b t u (u:Rat)=b:=by
 unfold fX
 have hp:(0:Rat)<(u:Rat)-t:=by
  have:(t:Rat)<(u:Rat):=Rat.natCast_lt_natCast.mpr h
  grind
 have hne:(u:Rat)-t≠0:=by grind
 rw[Rat.mul_div_cancel hne]
 grind
theorem windGo_past{s:Seen}{m:Rat}(hm:(s.t:Rat)<m):∀ (r:List Seen),cP (s::r)→(cO m (some s) r).map a8=windOf (s::r) (F m)
 | [],_=>by
  unfold cO windOf
  rw[if_neg]
  ·rfl
  ·rw[cq]
   intro e
   have:=F_inj e
   have e2:(((s.t:Nat):Int):Rat)=(s.t:Rat):=rfl
   grind
 | v::r,hr=>by
  have hsv:s.t<v.t:=(List.pairwise_cons.mp hr).1 v List.mem_cons_self
  have hvr:cP (v::r):=(List.pairwise_cons.mp hr).2
  unfold cO windOf
  have ew:∀ k:Nat,whole (k:Int)=F (k:Rat):=fun k=>rfl
  rw[ew,ew,fK,rg,if_neg (show ¬ decide (m<(s.t:Rat))=true by simp; grind)]
  by_cases h1:m=(v.t:Rat)
  ·rw[if_pos ((cS _ _).mpr h1),if_pos (by simp; rw[h1]; exact Rat.le_refl)]
   subst h1
   rw[gG _ _ hsv,gG _ _ hsv,iG _ _ hsv,iG _ _ hsv]
   rfl
  ·rw[if_neg (fun g=>h1 ((cS _ _).mp g))]
   by_cases h2:m<(v.t:Rat)
   ·rw[if_pos ((df _ _).mpr h2),if_pos (by simp; exact Rat.le_of_lt h2)]
    dsimp only
    rw[dR _ _ hsv,dR _ _ hsv,gG _ _ hsv,gG _ _ hsv]
    rfl
   ·rw[if_neg (fun g=>h2 ((df _ _).mp g)),if_neg (by simp; grind)]
    exact windGo_past (by grind) r hvr
theorem windS_F:∀ (l:List Seen) (m:Rat),cP l→(bL l m).map a8=windOf l (F m)
 | [],m,_=>rfl
 | [s],m,_=>by
  unfold bL cO windOf
  have ew:∀ k:Nat,whole (k:Int)=F (k:Rat):=fun k=>rfl
  rw[ew]
  by_cases h1:m=(s.t:Rat)
  ·rw[if_pos ((cS _ _).mpr h1),if_pos (by rw[h1])]; rfl
  ·rw[if_neg (fun g=>h1 ((cS _ _).mp g)),if_neg (fun g=>h1 (F_inj g))]
   split
   ·rfl
   ·rfl
 | s::v::r,m,hr=>by
  have hsv:s.t<v.t:=(List.pairwise_cons.mp hr).1 v List.mem_cons_self
  have ew:∀ k:Nat,whole (k:Int)=F (k:Rat):=fun k=>rfl
  unfold bL
  by_cases h1:m=(s.t:Rat)
  ·subst h1
   unfold cO windOf
   rw[if_pos ((cS _ _).mpr rfl),ew,ew,fK,rg,if_neg (show ¬ decide ((s.t:Rat)<(s.t:Rat))=true by simp),if_pos (by simp; exact Rat.le_of_lt (Rat.natCast_lt_natCast.mpr hsv))]
   rw[gG _ _ hsv,gG _ _ hsv,jF,jF]
   rfl
  ·by_cases h2:m<(s.t:Rat)
   ·unfold cO windOf
    rw[if_neg (fun g=>h1 ((cS _ _).mp g)),if_pos ((df _ _).mpr h2),ew,fK,if_pos (by simpa using h2)]
    rfl
   ·rw[← windGo_past (by grind) (v::r) hr]
    rw[cO,if_neg (fun g=>h1 ((cS _ _).mp g)),if_neg (fun g=>h2 ((df _ _).mp g))]
end WM
namespace WM
open Vbreal
def sqd(s:Station)(x y:Int):Int:=(s.place.x-x)^2+(s.place.y-y)^2
def ee(x y:Int)(m:Rat):List Station→Rat→Rat→Rat→Option (Rat×Rat)
 | [],e,n,t=>if t.num=0 then none else some (e / t,n / t)
 | s::r,e,n,t=>match bL s.seen m with
  | none=>ee x y m r e n t
  | some w=>if sqd s x y=0 then some w
   else ee x y m r (e+Rat.divInt 1 (sqd s x y)*w.1) (n+Rat.divInt 1 (sqd s x y)*w.2) (t+Rat.divInt 1 (sqd s x y))
def bE(l:List Station)(x y:Int)(m:Rat):Option (Rat×Rat):=ee x y m l 0 0 0
def mR(l:List Station)(x y:Int)(m:Rat):List (Int×Rat×Rat):=l.filterMap fun s=>(bL s.seen m).map fun w=>(sqd s x y,w)
def loopL:List (Int×Rat×Rat)→Rat→Rat→Rat→Option (Rat×Rat)
 | [],e,n,t=>if t.num=0 then none else some (e / t,n / t)
 | (q,w)::r,e,n,t=>if q=0 then some w else loopL r (e+Rat.divInt 1 q*w.1) (n+Rat.divInt 1 q*w.2) (t+Rat.divInt 1 q)
theorem fq(x y:Int)(m:Rat):∀ (l:List Station) (e n t:Rat),ee x y m l e n t=loopL (mR l x y m) e n t
 | [],_,_,_=>rfl
 | s::r,e,n,t=>by
  unfold ee mR
  rw[List.filterMap_cons]
  cases h:bL s.seen m with
  | none=>exact fq x y m r e n t
  | some w =>
   dsimp only[Option.map]
   unfold loopL
   by_cases hq:sqd s x y=0
   ·rw[if_pos hq,if_pos hq]
   ·rw[if_neg hq,if_neg hq]
    exact fq x y m r _ _ _
theorem pL{l:List Station}{x y:Int}{m:Rat}{p:Int×Rat×Rat}(h:p∈mR l x y m):0≤p.1:=by
 unfold mR at h
 obtain⟨s,_,h⟩:=List.mem_filterMap.mp h
 obtain⟨w,_,rfl⟩:=Option.map_eq_some_iff.mp h
 show 0≤sqd s x y
 unfold sqd
 have h1:∀ z:Int,0≤z^2:=fun z=>by
  rw[Int.pow_succ,Int.pow_one]
  rcases Int.le_total 0 z with h | h
  ·exact Int.mul_nonneg h h
  ·exact Int.mul_nonneg_of_nonpos_of_nonpos h h
 have a:=h1 (s.place.x-x)
 have b:=h1 (s.place.y-y)
 omega
theorem speaking_heard{l:List Station}{x y:Int}{m:Rat}(hr:∀ s∈l,cP s.seen):speaking l ⟨x,y⟩ (F m)=(mR l x y m).map fun p=>(p.1,a8 p.2):=by
 unfold speaking mR
 induction l with
 | nil=>rfl
 | cons s r ih =>
  rw[List.filterMap_cons,List.filterMap_cons]
  have e:=windS_F s.seen m (hr s List.mem_cons_self)
  rw[← e]
  have ih':=ih fun z hz=>hr z (List.mem_cons_of_mem _ hz)
  have esq:square ⟨x,y⟩ s.place=sqd s x y:=by unfold square sqd; grind
  cases h:bL s.seen m with
  | none=>exact ih'
  | some w =>
   show(square ⟨x,y⟩ s.place,a8 w)::_=(sqd s x y,a8 w)::_
   rw[ih',esq]
theorem oT:∀ (L:List (Int×Rat×Rat)) (e n t:Rat) {p:Int×Rat×Rat},(L.find? fun p=>p.1==0)=some p→loopL L e n t=some p.2
 | [],_,_,_,p,h=>by simp at h
 | (q,w)::r,e,n,t,p,h=>by
  rw[List.find?_cons] at h
  unfold loopL
  by_cases hq:q=0
  ·rw[if_pos hq]
   subst hq
   have:((0,w):Int×Rat×Rat)=p:=by simpa using h
   rw[← this]
  ·rw[if_neg hq]
   have hb:(q==0)=false:=by simpa using hq
   rw[hb] at h
   exact oT r _ _ _ h
def inv1(q:Int):Rat:=Rat.divInt 1 q
theorem sx:∀ (L:List (Int×Rat×Rat)) (e n t:Rat),(∀ p∈L,p.1≠0)→loopL L e n t =
  if (t+(L.map fun p=>inv1 p.1).sum).num=0 then none else some ((e+(L.map fun p=>inv1 p.1*p.2.1).sum) / (t+(L.map fun p=>inv1 p.1).sum),(n+(L.map fun p=>inv1 p.1*p.2.2).sum) / (t+(L.map fun p=>inv1 p.1).sum))
 | [],e,n,t,_=>by
  unfold loopL
  simp only[List.map_nil,List.sum_nil,Rat.add_zero]
 | (q,w)::r,e,n,t,h=>by
  unfold loopL
  rw[if_neg (h _ List.mem_cons_self),sx r _ _ _ fun p hp=>h p (List.mem_cons_of_mem _ hp)]
  simp only[List.map_cons,List.sum_cons,Rat.add_assoc]
  rfl
def fY(l:List Int):Int:=l.foldl (fun a b=>a*b) 1
theorem prod_fold(l:List Int):∀ a:Int,l.foldl (fun a b=>a*b) a=a*fY l:=by
 induction l with
 | nil=>intro a; unfold fY; simp
 | cons x r ih =>
  intro a
  unfold fY
  rw[List.foldl_cons,List.foldl_cons,ih,ih (1*x)]
  grind
theorem prod_cons(x:Int)(l:List Int):fY (x::l)=x*fY l:=by
 unfold fY
 rw[List.foldl_cons,prod_fold]
 unfold fY
 grind
theorem oU:∀ (l:List Int) (i:Nat) (h:i<l.length),fY (l.eraseIdx i)*l[i]=fY l
 | [],i,h=>by simp at h
 | x::l,0,h=>by
  rw[prod_cons]
  show fY l*x=x*fY l
  grind
 | x::l,i+1,h=>by
  have hi:i<l.length:=by simpa using h
  have ih:=oU l i hi
  show fY (x::l.eraseIdx i)*l[i]=_
  rw[prod_cons,prod_cons,← ih]
  grind
theorem rh:∀ (l:List Int),(∀ x∈l,0<x)→0<fY l
 | [],_=>by unfold fY; simp
 | x::l,h=>by
  rw[prod_cons]
  exact Int.mul_pos (h x List.mem_cons_self) (rh l fun y hy=>h y (List.mem_cons_of_mem _ hy))
theorem inv1_eq(q:Int)(h:q≠0):inv1 q*(q:Rat)=1:=by
 unfold inv1
 rw[aX]
 have:(q:Rat)≠0:=fun e=>h (Rat.intCast_eq_zero_iff.mp e)
 exact Rat.div_mul_cancel this
theorem mD(q:Int)(h:0<q):0<inv1 q:=by
 have h1:(0:Rat)<(q:Rat):=Rat.intCast_pos.mpr h
 have h2:=inv1_eq q (by omega)
 refine(Rat.mul_pos_iff_of_pos_right h1).mp ?_
 rw[h2]; decide
theorem rG(k:Rat){α:Type}(f:α→Rat):∀ l:List α,(l.map fun x=>k*f x).sum=k*(l.map f).sum
 | []=>by simp
 | a::l=>by
  rw[List.map_cons,List.map_cons,List.sum_cons,List.sum_cons,rG k f l]
  grind
theorem foldl_cast:∀ (l:List Int) (a:Int),((l.foldl (fun a b=>a+b) a:Int):Rat)=(a:Rat)+(l.map fun(z:Int)=>(z:Rat)).sum
 | [],a=>by simp[Rat.add_zero]
 | x::l,a=>by
  rw[List.foldl_cons,foldl_cast l,List.map_cons,List.sum_cons,Rat.intCast_add,Rat.add_assoc]
theorem sum_pos{α:Type}(f:α→Rat):∀ l:List α,l≠[]→(∀ x∈l,0<f x)→0<(l.map f).sum
 | [],h,_=>absurd rfl h
 | [a],_,h=>by
  rw[List.map_cons,List.map_nil,List.sum_cons,List.sum_nil,Rat.add_zero]
  exact h a List.mem_cons_self
 | a::b::l,_,h=>by
  rw[List.map_cons,List.sum_cons]
  have h1:=h a List.mem_cons_self
  have h2:=sum_pos f (b::l) (by simp) fun x hx=>h x (List.mem_cons_of_mem _ hx)
  grind
theorem sy{α β:Type}(f:α→β):∀ (l:List α) (i:Nat),(l.map f).eraseIdx i=(l.eraseIdx i).map f
 | [],_=>rfl
 | _::_,0=>rfl
 | a::l,i+1=>by
  show f a::(l.map f).eraseIdx i=f a::(l.eraseIdx i).map f
  rw[sy f l i]
theorem rj(l:List Station)(x y:Int)(m:Rat)(hr:∀ s∈l,cP s.seen):windAt l ⟨x,y⟩ (F m)=(bE l x y m).map a8:=by
 unfold windAt bE
 rw[fq]
 dsimp only
 rw[speaking_heard hr]
 have hnn:=fun p hp=>pL (l:=l) (x:=x) (y:=y) (m:=m) (p:=p) hp
 generalize mR l x y m=L at *
 have hf:((L.map fun p=>((p.1,a8 p.2):Int×Vec)).find? fun x=>x.1==0)=(L.find? fun p=>p.1==0).map fun p=>(p.1,a8 p.2):=by
  rw[List.find?_map]; rfl
 rw[hf]
 cases h:L.find? fun p=>p.1==0 with
 | some p =>
  rw[oT L _ _ _ h]; rfl
 | none =>
  dsimp only[Option.map_none]
  have hne:∀ p∈L,p.1≠0:=fun p hp e=>by
   have:=List.find?_eq_none.mp h p hp
   simp[e] at this
  have hpos:∀ p∈L,0<p.1:=fun p hp=>by have:=hnn p hp; have:=hne p hp; omega
  rw[sx L _ _ _ hne]
  simp only[Rat.zero_add]
  by_cases hL:L=[]
  ·subst hL; rfl
  ·have hem:(L.map fun p=>((p.1,a8 p.2):Int×Vec)).isEmpty=false:=by
    cases L with
    | nil=>exact absurd rfl hL
    | cons a b=>rfl
   rw[hem,if_neg (by decide)]
   have hsum:0<(L.map fun p=>inv1 p.1).sum:=sum_pos _ L hL fun p hp=>mD _ (hpos p hp)
   have hnum:¬ (L.map fun p=>inv1 p.1).sum.num=0:=fun e=>by
    rw[Rat.num_eq_zero.mp e] at hsum
    exact Rat.lt_irrefl hsum
   rw[if_neg hnum]
   generalize hP:fY (L.map fun p=>p.1)=P
   have hPpos:0<P:=by
    rw[← hP]
    refine rh _ fun z hz=>?_
    obtain⟨p,hp,rfl⟩:=List.mem_map.mp hz
    exact hpos p hp
   have hw:∀ (i:Nat) (hi:i<L.length),((weightAt (L.map fun p=>((p.1,a8 p.2):Int×Vec)) i:Int):Rat)=(P:Rat)*inv1 (L[i]).1:=fun i hi=>by
    have e1:weightAt (L.map fun p=>((p.1,a8 p.2):Int×Vec)) i*(L[i]).1=P:=by
     rw[← hP]
     have:=oU (L.map fun p=>p.1) i (by rw[List.length_map]; exact hi)
     rw[List.getElem_map] at this
     rw[← this]
     congr 1
     unfold weightAt fY
     congr 1
     rw[sy,sy,List.map_map]
     rfl
    have e2:=inv1_eq (L[i]).1 (hne _ (List.getElem_mem hi))
    have e3:((weightAt (L.map fun p=>((p.1,a8 p.2):Int×Vec)) i:Int):Rat)*((L[i]).1:Rat)=(P:Rat):=by rw[← Rat.intCast_mul,e1]
    generalize ((weightAt (L.map fun p=>((p.1,a8 p.2):Int×Vec)) i:Int):Rat)=W at *
    rw[← e3]
    grind
   have hall:((((List.range (L.map fun p=>((p.1,a8 p.2):Int×Vec)).length).map fun i=>weightAt (L.map fun p=>((p.1,a8 p.2):Int×Vec)) i).foldl (fun a b=>a+b) 0:Int):Rat)=(P:Rat)*(L.map fun p=>inv1 p.1).sum:=by
    rw[foldl_cast,← rG,List.map_map]
    have z0:((0:Int):Rat)=0:=rfl
    rw[z0,Rat.zero_add]
    congr 1
    refine List.ext_getElem (by simp) fun i h1 h2=>?_
    rw[List.getElem_map,List.getElem_map,List.getElem_range]
    exact hw i (by simpa using h2)
   have hPq:(0:Rat)<(P:Rat):=Rat.intCast_pos.mpr hPpos
   have hallpos:(0:Rat)<(P:Rat)*(L.map fun p=>inv1 p.1).sum:=Rat.mul_pos hPq hsum
   have hcomp:∀ (f:Vec→Frac) (g:Rat×Rat→Rat),(∀ w,f (a8 w)=F (g w)) →
     over (sumUp (((L.map fun p=>((p.1,a8 p.2):Int×Vec)).zip ((List.range (L.map fun p=>((p.1,a8 p.2):Int×Vec)).length).map fun i=>weightAt (L.map fun p=>((p.1,a8 p.2):Int×Vec)) i)).map fun x=>mul (f x.1.2) (whole x.2)))
      (whole (((List.range (L.map fun p=>((p.1,a8 p.2):Int×Vec)).length).map fun i=>weightAt (L.map fun p=>((p.1,a8 p.2):Int×Vec)) i).foldl (fun a b=>a+b) 0))=F ((L.map fun p=>inv1 p.1*g p.2).sum / (L.map fun p=>inv1 p.1).sum):=fun f g hfg=>by
    have el:(((L.map fun p=>((p.1,a8 p.2):Int×Vec)).zip ((List.range (L.map fun p=>((p.1,a8 p.2):Int×Vec)).length).map fun i=>weightAt (L.map fun p=>((p.1,a8 p.2):Int×Vec)) i)).map fun x=>mul (f x.1.2) (whole x.2))=(L.map fun p=>(P:Rat)*(inv1 p.1*g p.2)).map F:=by
     refine List.ext_getElem (by simp) fun i h1 h2=>?_
     have hi:i<L.length:=by simpa using h2
     rw[List.getElem_map,List.getElem_zip,List.getElem_map,List.getElem_map,List.getElem_range,List.getElem_map,List.getElem_map]
     dsimp only
     rw[hfg,cq,eE,hw i hi]
     congr 1
     grind
    rw[el,sumUp_F,cq,kz _ _ (by rw[hall]; exact hallpos),hall,rG (P:Rat)]
    congr 1
    generalize (L.map fun p=>inv1 p.1*g p.2).sum=S at *
    generalize (L.map fun p=>inv1 p.1).sum=D at *
    have d1:D≠0:=by grind
    have d2:(P:Rat)*D≠0:=by grind
    have m1:=Rat.div_mul_cancel (a:=(P:Rat)*S) d2
    have m2:=Rat.div_mul_cancel (a:=S) d1
    have:((P:Rat)*D)*((P:Rat)*S / ((P:Rat)*D)-S / D)=0:=by grind
    rcases Rat.mul_eq_zero.mp this with g | g
    ·exact absurd g d2
    ·grind
   show some (Vec.mk _ _)=some (Vec.mk _ _)
   rw[hcomp (fun w=>w.e) (fun w=>w.1) (fun w=>rfl),hcomp (fun w=>w.n) (fun w=>w.2) (fun w=>rfl)]
end WM
namespace WM
open Vbreal
def ia(mark:Nat):List Nat→List (List Nat)→List Nat→List (List Nat)
 | [],ps,p=>ps++[p]
 | s::r,ps,p=>if s=mark then ia mark r (ps++[p]) [] else ia mark r ps (p++[s])
theorem hG(c:Nat):∀ t:List Nat,∃ l m,parted c t=l::m
 | []=>⟨[],[],rfl⟩
 | x::r=>by
  obtain⟨l,m,e⟩:=hG c r
  by_cases h:x=c
  ·exact⟨[],l::m,by unfold parted; rw[e]; simp[h]⟩
  ·exact⟨x::l,m,by unfold parted; rw[e]; simp[h]⟩
theorem oV(mark:Nat):∀ (t:List Nat) (ps:List (List Nat)) (p:List Nat) {l:List Nat} {m:List (List Nat)},parted mark t=l::m→ia mark t ps p=ps++(p++l)::m
 | [],ps,p,l,m,h=>by
  unfold parted at h
  cases h
  unfold ia
  simp
 | s::r,ps,p,l,m,h=>by
  obtain⟨l',m',e⟩:=hG mark r
  unfold parted at h
  rw[e] at h
  unfold ia
  by_cases hs:s=mark
  ·simp only[hs,if_true] at h
   cases h
   rw[if_pos hs,oV mark r _ _ e]
   simp
  ·simp only[hs,if_false] at h
   cases h
   rw[if_neg hs,oV mark r _ _ e]
   simp
theorem split_parted(mark:Nat)(t:List Nat):ia mark t [] []=parted mark t:=by
 obtain⟨l,m,e⟩:=hG mark t
 rw[oV mark t [] [] e,e]
 rfl
def fo(w:List Nat):Option Nat :=
 if w.length<1∨7<w.length then none
 else if w.head? = some 48∧1<w.length then none
 else if w.all digit=true then some (valueOf w) else none
theorem iR(lo hi:Nat)(w:List Nat):numberOf lo hi w=(fo w).bind fun n=>if lo≤n∧n≤hi then some n else none:=by
 unfold numberOf fo
 by_cases h1:w.length<1∨7<w.length
 ·rw[if_pos h1,if_neg (by omega)]; rfl
 ·rw[if_neg h1]
  by_cases h2:w.head? = some 48∧1<w.length
  ·rw[if_pos h2,if_neg]
   ·rfl
   ·rintro⟨_,_,_,h3,_⟩
    rcases h3 with h3 | h3
    ·exact h3 h2.1
    ·omega
  ·rw[if_neg h2]
   have h2':w.head?≠some 48∨w.length=1:=by
    by_cases g:w.head? = some 48
    ·right
     have:¬ 1<w.length:=fun q=>h2 ⟨g,q⟩
     omega
    ·exact .inl g
   by_cases h3:w.all digit=true
   ·rw[if_pos h3]
    dsimp only[Option.bind]
    by_cases h4:lo≤valueOf w∧valueOf w≤hi
    ·rw[if_pos h4,if_pos ⟨h3,by omega,by omega,h2',h4.1,h4.2⟩]
    ·rw[if_neg h4,if_neg fun g=>h4 ⟨g.2.2.2.2.1,g.2.2.2.2.2⟩]
   ·rw[if_neg h3,if_neg fun g=>h3 g.1]; rfl
def ff(w:List Nat):Option Int :=
 if w.head? = some 45 then(match fo w.tail with
  | none=>none
  | some n=>if n=0 then none else some (-(n:Int)))
 else(fo w).map Int.ofNat
def dD(w:List Nat)(lo hi:Int):Option Int:=match ff w with
 | none=>none
 | some n=>if n<lo∨hi<n then none else some n
theorem signedOf_minus(most:Nat)(r:List Nat):signedOf most (45::r)=(numberOf 1 most r).map fun n=>-Int.ofNat n:=rfl
theorem signedOf_plain(most:Nat){w:List Nat}(h:¬ w.head? = some 45):signedOf most w=(numberOf 0 most w).map Int.ofNat:=by
 unfold signedOf
 split
 ·exact absurd rfl h
 ·rfl
theorem dj(most:Nat)(w:List Nat):dD w (-(most:Int)) most=signedOf most w:=by
 by_cases h:w.head? = some 45
 ·obtain⟨r,rfl⟩:∃ r,w=45::r:=by
   cases w with
   | nil=>simp at h
   | cons c r=>simp at h; subst h; exact⟨r,rfl⟩
  rw[signedOf_minus,iR]
  unfold dD ff
  rw[if_pos h]
  dsimp only[List.tail]
  cases e:fo r with
  | none=>rfl
  | some n =>
   dsimp only[Option.bind]
   by_cases hn:n=0
   ·subst hn
    rw[if_pos rfl,if_neg (show ¬ (1≤0∧0≤most) by omega)]; rfl
   ·rw[if_neg hn]
    dsimp only
    by_cases hm:n≤most
    ·rw[if_pos (show 1≤n∧n≤most from⟨by omega,hm⟩),if_neg (show ¬ (-(n:Int) < -(most:Int)∨(most:Int) < -(n:Int)) by omega)]; rfl
    ·rw[if_neg (show ¬ (1≤n∧n≤most) by omega),if_pos (show -(n:Int) < -(most:Int)∨(most:Int) < -(n:Int) by omega)]; rfl
 ·rw[signedOf_plain most h,iR]
  unfold dD ff
  rw[if_neg h]
  cases e:fo w with
  | none=>rfl
  | some n =>
   dsimp only[Option.map,Option.bind]
   by_cases hm:n≤most
   ·rw[if_pos (show 0≤n∧n≤most from⟨by omega,hm⟩),if_neg (show ¬ (Int.ofNat n < -(most:Int)∨(most:Int)<Int.ofNat n) by simp only[Int.ofNat_eq_natCast]; omega)]
   ·rw[if_neg (show ¬ (0≤n∧n≤most) by omega),if_pos (show Int.ofNat n < -(most:Int)∨(most:Int)<Int.ofNat n by simp only[Int.ofNat_eq_natCast]; omega)]
theorem pF(most:Nat)(w:List Nat):dD w 0 most=(numberOf 0 most w).map Int.ofNat:=by
 unfold dD ff
 by_cases h:w.head? = some 45
 ·rw[if_pos h]
  have:numberOf 0 most w=none:=by
   unfold numberOf
   rw[if_neg]
   rintro⟨h1,_⟩
   cases w with
   | nil=>simp at h
   | cons c r =>
    simp at h
    subst h
    simp[digit] at h1
  rw[this]
  cases e:fo w.tail with
  | none=>rfl
  | some n =>
   dsimp only
   by_cases hn:n=0
   ·rw[if_pos hn]; rfl
   ·rw[if_neg hn]
    dsimp only
    rw[if_pos (by omega)]
    rfl
 ·rw[if_neg h,iR]
  cases e:fo w with
  | none=>rfl
  | some n =>
   dsimp only[Option.map,Option.bind]
   by_cases hm:n≤most
   ·rw[if_pos (show 0≤n∧n≤most from⟨by omega,hm⟩),if_neg (show ¬ (Int.ofNat n<0∨(most:Int)<Int.ofNat n) by simp only[Int.ofNat_eq_natCast]; omega)]
   ·rw[if_neg (show ¬ (0≤n∧n≤most) by omega),if_pos (show Int.ofNat n<0∨(most:Int)<Int.ofNat n by simp only[Int.ofNat_eq_natCast]; omega)]
def gH:List Nat→Int→Option Int
 | [],n=>some n
 | c::r,n=>if digit c=true then gH r (n*10+c-48) else none
theorem digitsGo_eq:∀ (w:List Nat) (n:Nat),gH w n=if w.all digit=true then some ((w.foldl (fun n c=>10*n+(c-48)) n:Nat):Int) else none
 | [],n=>rfl
 | c::r,n=>by
  unfold gH
  rw[List.all_cons,List.foldl_cons]
  by_cases h:digit c=true
  ·rw[if_pos h,h,Bool.true_and]
   have hc:48≤c:=by unfold digit at h; simp at h; omega
   have e:((n:Int)*10+c-48)=((10*n+(c-48):Nat):Int):=by omega
   rw[e]
   exact digitsGo_eq r _
  ·rw[if_neg h]
   have:digit c=false:=by simpa using h
   rw[this,Bool.false_and]
   rfl
theorem readNum_digits(w:List Nat):(fo w).map Int.ofNat=if w.length<1∨7<w.length then none else if w.head? = some 48∧1<w.length then none else gH w 0:=by
 unfold fo
 by_cases h1:w.length<1∨7<w.length
 ·rw[if_pos h1,if_pos h1]; rfl
 ·rw[if_neg h1,if_neg h1]
  by_cases h2:w.head? = some 48∧1<w.length
  ·rw[if_pos h2,if_pos h2]; rfl
  ·rw[if_neg h2,if_neg h2]
   have:=digitsGo_eq w 0
   have z:((0:Nat):Int)=0:=rfl
   rw[z] at this
   rw[this]
   by_cases h3:w.all digit=true
   ·rw[if_pos h3,if_pos h3]; rfl
   ·rw[if_neg h3,if_neg h3]; rfl
end WM
namespace WM
open Vbreal
structure jk (s:Seen):Prop where
 t:s.t≤100000
 e:-1000≤s.e∧s.e≤1000
 n:-1000≤s.n∧s.n≤1000
structure StOk (s:Station):Prop where
 name:s.name.length≤12
 sign:∀ c∈s.name,c≤126
 x:-100000≤s.place.x∧s.place.x≤100000
 y:-100000≤s.place.y∧s.place.y≤100000
 rise:cP s.seen
 len:s.seen.length≤20
 seen:∀ z∈s.seen,jk z
 low:s.name≠[]∧∀ c∈s.name,45≤c
structure WOk (l:List Station):Prop where
 len:l.length≤6
 each:∀ s∈l,StOk s
theorem WOk.nil:WOk []:=⟨by simp,by simp⟩
theorem mem_put{s z:Seen}:∀ {l:List Seen},z∈put s l↔z=s∨z∈l
 | []=>by simp[put]
 | x::r=>by
  unfold put
  split
  ·simp
  ·simp only[List.mem_cons,mem_put (l:=r)]
   constructor
   ·rintro(h | h | h)
    ·exact .inr (.inl h)
    ·exact .inl h
    ·exact .inr (.inr h)
   ·rintro(h | h | h)
    ·exact .inr (.inl h)
    ·exact .inl h
    ·exact .inr (.inr h)
theorem jG(s:Seen):∀ l:List Seen,(put s l).length=l.length+1
 | []=>rfl
 | x::r=>by
  unfold put
  split
  ·rfl
  ·simp[jG s r]
theorem put_rising{s:Seen}:∀ {l:List Seen},cP l→(∀ z∈l,z.t≠s.t)→cP (put s l)
 | [],_,_=>by simp[put,cP]
 | x::r,hr,hn=>by
  obtain⟨h1,h2⟩:=List.pairwise_cons.mp hr
  unfold put
  split
  ·rename_i h
   refine List.pairwise_cons.mpr ⟨fun z hz=>?_,hr⟩
   rcases List.mem_cons.mp hz with rfl | hz
   ·exact h
   ·exact Nat.lt_trans h (h1 z hz)
  ·rename_i h
   have hx:=hn x List.mem_cons_self
   refine List.pairwise_cons.mpr ⟨fun z hz=>?_,put_rising h2 fun z hz=>hn z (List.mem_cons_of_mem _ hz)⟩
   rcases mem_put.mp hz with rfl | hz
   ·omega
   ·exact h1 z hz
def putAt(t:Nat)(l:List Seen):Nat:=(l.takeWhile fun z=>decide (z.t<t)).length
theorem put_at{s:Seen}:∀ {l:List Seen},(∀ z∈l,z.t≠s.t)→cP l→put s l=l.take (putAt s.t l)++s::l.drop (putAt s.t l)
 | [],_,_=>rfl
 | x::r,hn,hr=>by
  have hx:=hn x List.mem_cons_self
  unfold put putAt
  by_cases h:s.t<x.t
  ·rw[if_pos h,List.takeWhile_cons,if_neg (by simp; omega)]; rfl
  ·rw[if_neg h,List.takeWhile_cons,if_pos (by simp; omega),put_at (fun z hz=>hn z (List.mem_cons_of_mem _ hz)) (List.pairwise_cons.mp hr).2]
   rfl
theorem StOk.put{x:Station}{s:Seen}(h:StOk x)(hs:jk s)(hl:x.seen.length<20)(hn:∀ z∈x.seen,z.t≠s.t):StOk { x with seen:=Vbreal.put s x.seen } :=
 ⟨h.name,h.sign,h.x,h.y,put_rising h.rise hn,by show(Vbreal.put s x.seen).length≤20; rw[jG]; omega,fun z hz=>by
  rcases mem_put.mp hz with rfl | hz
  ·exact hs
  ·exact h.seen z hz,h.low⟩
theorem WOk.set{l:List Station}(h:WOk l){i:Nat}{x:Station}(hx:StOk x):WOk (l.set i x) :=
 ⟨by rw[List.length_set]; exact h.len,fun s hs=>by
  rcases List.mem_or_eq_of_mem_set hs with g | rfl
  ·exact h.each s g
  ·exact hx⟩
theorem iH{most:Nat}{w:List Nat}{n:Int}(h:signedOf most w=some n):-(most:Int)≤n∧n≤most:=by
 rw[← dj] at h
 unfold dD at h
 split at h
 ·cases h
 ·split at h
  ·cases h
  ·cases h; omega
theorem numberOf_le{lo hi:Nat}{w:List Nat}{n:Nat}(h:numberOf lo hi w=some n):n≤hi:=by
 unfold numberOf at h
 split at h
 ·rename_i g
  cases h; exact g.2.2.2.2.2
 ·cases h
theorem isName_ok{w:List Nat}(h:isName w=true):w.length≤12∧∀ c∈w,c≤126:=by
 unfold isName at h
 simp only[Bool.and_eq_true,decide_eq_true_eq,List.all_eq_true] at h
 refine⟨h.1.2,fun c hc=>?_⟩
 have:=h.2 c hc
 unfold digit at this
 simp at this
 omega
theorem isName_low{w:List Nat}(h:isName w=true):w≠[]∧∀ c∈w,45≤c:=by
 unfold isName at h
 simp only[Bool.and_eq_true,decide_eq_true_eq,List.all_eq_true] at h
 refine⟨fun e=>by rw[e] at h; simp at h,fun c hc=>?_⟩
 have:=h.2 c hc
 unfold digit at this
 simp at this
 omega
theorem taken_ok{d e:List Station}{l:List Nat}(hd:WOk d)(h:taken d l=some e):WOk e:=by
 unfold taken at h
 split at h
 ·rename_i k a b c _
  split at h
  ·simp only[Option.bind_eq_some_iff] at h
   obtain⟨x,hx,y,hy,h⟩:=h
   split at h
   ·rename_i g
    cases h
    obtain⟨g1,g2,g3⟩:=g
    refine⟨by rw[List.length_append]; unfold STATIONS at g2; simp; omega,fun s hs=>?_⟩
    rcases List.mem_append.mp hs with q | q
    ·exact hd.each s q
    ·rw[List.mem_singleton.mp q]
     have a1:=iH hx
     have a2:=iH hy
     unfold FAR at a1 a2
     exact⟨(isName_ok g1).1,(isName_ok g1).2,⟨by show -100000≤x; omega,by show x≤100000; omega⟩,⟨by show -100000≤y; omega,by show y≤100000; omega⟩,List.Pairwise.nil,by simp,by simp,isName_low g1⟩
   ·cases h
  ·cases h
 ·rename_i k a t b c _
  split at h
  ·simp only[Option.bind_eq_some_iff] at h
   obtain⟨i,hi,u,hu,x,hx,y,hy,h⟩:=h
   unfold withSeen at h
   split at h
   ·cases h
   ·rename_i z hz
    split at h
    ·rename_i g
     cases h
     have hz':=List.mem_of_getElem? hz
     have a1:=iH hx
     have a2:=iH hy
     have a3:=numberOf_le hu
     unfold STRONG at a1 a2
     unfold LATE at a3
     refine hd.set ((hd.each z hz').put ⟨a3,⟨by show -1000≤x; omega,by show x≤1000; omega⟩,⟨by show -1000≤y; omega,by show y≤1000; omega⟩⟩ g.1 fun w hw=>?_)
     have:=List.all_eq_true.mp g.2 w hw
     simpa using this
    ·cases h
  ·cases h
 ·cases h
theorem lX:∀ (ls:List (List Nat)) (n:Nat) {d e:List Station},WOk d→readFrom taken n d ls = .ok e→WOk e
 | [],n,d,e,hd,h=>by
  unfold readFrom at h
  cases h; exact hd
 | l::r,n,d,e,hd,h=>by
  unfold readFrom at h
  split at h
  ·cases h
  ·split at h
   ·exact lX r _ hd h
   ·split at h
    ·cases h
    ·rename_i g
     exact lX r _ (taken_ok hd g) h
theorem kI(t:List Nat):readWeather t=readFrom taken 1 [] (linesOf t):=by
 unfold readWeather readText
 cases readFrom taken 1 [] (linesOf t)<;>rfl
theorem readWeather_ok{t:List Nat}{e:List Station}(h:readWeather t = .ok e):WOk e:=by
 rw[kI] at h
 exact lX _ _ WOk.nil h
end WM
namespace WM
open Vbreal
def Bd(k:Nat)(q:Rat):Prop:=q.num.natAbs<2^k∧q.den<2^k
theorem rep_eq{q:Rat}{D:Nat}{E:Int}(hD:D≠0)(h:q*(D:Rat)=(E:Rat)):q=mkRat E D:=by
 rw[Rat.mkRat_eq_div,← h]
 have:((D:Nat):Rat)≠0:=by have:=Rat.natCast_pos.mpr (Nat.pos_of_ne_zero hD); grind
 rw[Rat.mul_div_cancel this]
theorem mZ{q:Rat}{D:Nat}{E:Int}(hD:D≠0)(h:q*(D:Rat)=(E:Rat)):q.den≤D:=by
 rw[rep_eq hD h,Rat.den_mkRat,if_neg hD]
 exact Nat.div_le_self _ _
theorem m5{q:Rat}{D:Nat}{E:Int}(hD:D≠0)(h:q*(D:Rat)=(E:Rat)):q.num.natAbs≤E.natAbs:=by
 rw[rep_eq hD h,Rat.num_mkRat,if_neg hD]
 have hg:0<D.gcd E.natAbs:=Nat.gcd_pos_of_pos_left _ (Nat.pos_of_ne_zero hD)
 have hd:((D.gcd E.natAbs:Nat):Int) ∣ E:=Int.natAbs_dvd_natAbs.mp (by rw[Int.natAbs_natCast]; exact Nat.gcd_dvd_right _ _)
 rw[Int.natAbs_ediv_of_dvd hd]
 exact Nat.div_le_self _ _
structure Rep (D:Nat) (M:Nat) (q:Rat):Prop where
 int:∃ E:Int,q*(D:Rat)=(E:Rat)
 lo:-(M:Rat)≤q
 hi:q≤(M:Rat)
theorem Rep.num{D M:Nat}{q:Rat}(hD:D≠0)(h:Rep D M q):q.num.natAbs≤M*D:=by
 obtain⟨E,hE⟩:=h.int
 refine Nat.le_trans (m5 hD hE) ?_
 have hp:(0:Rat)≤(D:Rat):=Rat.natCast_nonneg
 have h1:=Rat.mul_le_mul_of_nonneg_right h.lo hp
 have h2:=Rat.mul_le_mul_of_nonneg_right h.hi hp
 rw[hE] at h1 h2
 have e1:-(M:Rat)*(D:Rat)=((-((M*D:Nat):Int):Int):Rat):=by
  rw[Rat.intCast_neg,Rat.intCast_natCast,Rat.natCast_mul]; grind
 have e2:(M:Rat)*(D:Rat)=(((M*D:Nat):Int):Rat):=by
  rw[Rat.intCast_natCast,Rat.natCast_mul]
 rw[e1] at h1
 rw[e2] at h2
 have g1:=Rat.intCast_le_intCast.mp h1
 have g2:=Rat.intCast_le_intCast.mp h2
 omega
theorem Rep.den{D M:Nat}{q:Rat}(hD:D≠0)(h:Rep D M q):q.den≤D:=by
 obtain⟨E,hE⟩:=h.int
 exact mZ hD hE
theorem Rep.mult{D D' M:Nat}{q:Rat}(h:Rep D M q)(hd:D ∣ D'):Rep D' M q:=by
 obtain⟨E,hE⟩:=h.int
 obtain⟨c,rfl⟩:=hd
 refine⟨⟨E*c,?_⟩,h.lo,h.hi⟩
 rw[Rat.natCast_mul,← Rat.mul_assoc,hE,Rat.intCast_mul,Rat.intCast_natCast]
theorem even_within{a b:Int}{t u:Nat}(h:t<u){m:Rat}(h1:(t:Rat)≤m)(h2:m≤(u:Rat)){M:Nat}(ha:-(M:Int)≤a∧a≤M)(hb:-(M:Int)≤b∧b≤M):-(M:Rat)≤fX a b t u m∧fX a b t u m≤(M:Rat):=by
 have hp:(0:Rat)<(u:Rat)-t:=by
  have:(t:Rat)<(u:Rat):=Rat.natCast_lt_natCast.mpr h
  grind
 have hne:(u:Rat)-t≠0:=by grind
 have key:fX a b t u m*((u:Rat)-t)=a*((u:Rat)-m)+b*(m-t):=by
  unfold fX
  have:=Rat.div_mul_cancel (a:=((b:Rat)-a)*(m-t)) hne
  grind
 have ca1:-(M:Rat)≤(a:Rat):=by
  have:=Rat.intCast_le_intCast.mpr ha.1
  rwa [Rat.intCast_neg,Rat.intCast_natCast] at this
 have ca2:(a:Rat)≤(M:Rat):=by
  have:=Rat.intCast_le_intCast.mpr ha.2
  rwa [Rat.intCast_natCast] at this
 have cb1:-(M:Rat)≤(b:Rat):=by
  have:=Rat.intCast_le_intCast.mpr hb.1
  rwa [Rat.intCast_neg,Rat.intCast_natCast] at this
 have cb2:(b:Rat)≤(M:Rat):=by
  have:=Rat.intCast_le_intCast.mpr hb.2
  rwa [Rat.intCast_natCast] at this
 have g1:(0:Rat)≤(u:Rat)-m:=by grind
 have g2:(0:Rat)≤m-t:=by grind
 have p1:=Rat.mul_le_mul_of_nonneg_right ca1 g1
 have p2:=Rat.mul_le_mul_of_nonneg_right ca2 g1
 have p3:=Rat.mul_le_mul_of_nonneg_right cb1 g2
 have p4:=Rat.mul_le_mul_of_nonneg_right cb2 g2
 constructor
 ·refine Rat.le_of_mul_le_mul_right (c:=(u:Rat)-t) ?_ hp
  rw[key]; grind
 ·refine Rat.le_of_mul_le_mul_right (c:=(u:Rat)-t) ?_ hp
  rw[key]; grind
def WRep(D:Nat)(w:Rat×Rat):Prop:=Rep D 1000 w.1∧Rep D 1000 w.2
theorem int_rep(a:Int)(D:Nat)(h:-1000≤a∧a≤1000):Rep D 1000 (a:Rat):=by
 refine⟨⟨a*D,by rw[Rat.intCast_mul,Rat.intCast_natCast]⟩,?_,?_⟩
 ·have:=Rat.intCast_le_intCast.mpr h.1
  rw[Rat.intCast_neg] at this
  exact this
 ·exact Rat.intCast_le_intCast.mpr h.2
theorem even_rep{a b:Int}{t u:Nat}(h:t<u){m:Rat}(h1:(t:Rat)≤m)(h2:m≤(u:Rat))(ha:-1000≤a∧a≤1000)(hb:-1000≤b∧b≤1000):Rep ((u-t)*m.den) 1000 (fX a b t u m):=by
 have w:=even_within h h1 h2 (M:=1000) (a:=a) (b:=b) ⟨by omega,by omega⟩ ⟨by omega,by omega⟩
 refine⟨⟨a*(((u:Int)-t)*m.den-(m.num-(t:Int)*m.den))+b*(m.num-(t:Int)*m.den),?_⟩,w.1,w.2⟩
 rw[← dR a b h m,aX]
 have e:(((u-t)*m.den:Nat):Rat)=((((u:Int)-t)*m.den:Int):Rat):=by
  rw[← Rat.intCast_natCast]
  congr 1
  rw[Int.natCast_mul,Int.ofNat_sub (by omega)]
 rw[e]
 have hne:((((u:Int)-t)*m.den:Int):Rat)≠0:=by
  intro g
  have:=Rat.intCast_eq_zero_iff.mp g
  have hd:=m.den_pos
  rcases Int.mul_eq_zero.mp this with q | q<;>omega
 exact Rat.div_mul_cancel hne
theorem windGo_rep{m:Rat}:∀ (l:List Seen) (old:Option Seen) {w:Rat×Rat},(∀ z∈l,jk z)→(∀ o,old=some o→jk o∧cP (o::l)∧(o.t:Rat)≤m)→cP l→cO m old l=some w →
  ∃ s:Nat,1≤s∧s≤100000∧WRep (s*m.den) w
 | [],old,w,_,_,_,h=>by
  unfold cO at h
  cases h
 | z::r,old,w,hz,ho,hr,h=>by
  unfold cO at h
  have z0:=hz z List.mem_cons_self
  split at h
  ·cases h
   exact⟨1,by omega,by omega,int_rep _ _ z0.e,int_rep _ _ z0.n⟩
  ·rename_i h1
   split at h
   ·rename_i h2
    cases old with
    | none=>cases h
    | some o =>
     obtain⟨o0,ro,om⟩:=ho o rfl
     have hlt:o.t<z.t:=(List.pairwise_cons.mp ro).1 z List.mem_cons_self
     have hm:m≤(z.t:Rat):=Rat.le_of_lt ((df _ _).mp h2)
     dsimp only at h
     rw[dR _ _ hlt,dR _ _ hlt] at h
     cases h
     have:=z0.t
     exact⟨z.t-o.t,by omega,by omega,even_rep hlt om hm o0.e z0.e,even_rep hlt om hm o0.n z0.n⟩
   ·rename_i h2
    refine windGo_rep r (some z) (fun y hy=>hz y (List.mem_cons_of_mem _ hy)) (fun o e=>?_) (List.pairwise_cons.mp hr).2 h
    cases e
    refine⟨z0,hr,?_⟩
    have:=fun g=>h2 ((df z.t m).mpr g)
    exact Rat.not_lt.mp this
theorem windS_rep{l:List Seen}{m:Rat}{w:Rat×Rat}(hz:∀ z∈l,jk z)(hr:cP l)(h:bL l m=some w):∃ s:Nat,1≤s∧s≤100000∧WRep (s*m.den) w :=
 windGo_rep l none hz (fun o e=>by cases e) hr h
theorem heard_rep{x y:Int}{m:Rat}(hx:-100000≤x∧x≤100000)(hy:-100000≤y∧y≤100000):∀ (l:List Station),(∀ s∈l,StOk s) →
  ∃ S:Nat,1≤S∧S≤100000^l.length∧∀ p∈mR l x y m,WRep (S*m.den) p.2∧p.1≤80000000000
 | [],_=>⟨1,by omega,by simp,fun p hp=>by simp[mR] at hp⟩
 | s::r,h=>by
  obtain⟨S,h1,h2,h3⟩:=heard_rep hx hy r fun z hz=>h z (List.mem_cons_of_mem _ hz)
  have s0:=h s List.mem_cons_self
  unfold mR
  rw[List.filterMap_cons]
  cases e:bL s.seen m with
  | none =>
   refine⟨S,h1,Nat.le_trans h2 ?_,h3⟩
   rw[List.length_cons,Nat.pow_succ]
   exact Nat.le_mul_of_pos_right _ (by omega)
  | some w =>
   obtain⟨q,q1,q2,q3⟩:=windS_rep s0.seen s0.rise e
   refine⟨S*q,Nat.mul_pos h1 q1,?_,fun p hp=>?_⟩
   ·rw[List.length_cons,Nat.pow_succ]
    exact Nat.mul_le_mul h2 q2
   ·dsimp only[Option.map] at hp
    rcases List.mem_cons.mp hp with rfl | hp
    ·refine⟨⟨q3.1.mult ⟨S,by grind⟩,q3.2.mult ⟨S,by grind⟩⟩,?_⟩
     show sqd s x y≤_
     unfold sqd
     have a:=s0.x
     have b:=s0.y
     have hsq:∀ z:Int,-200000≤z→z≤200000→z^2≤40000000000:=fun z z1 z2=>by
      rw[Int.pow_succ,Int.pow_one]
      rcases Int.le_total 0 z with g | g
      ·have:=Int.mul_le_mul z2 z2 g (by omega)
       omega
      ·have:=Int.mul_le_mul (a:=-z) (b:=-z) (c:=200000) (d:=200000) (by omega) (by omega) (by omega) (by omega)
       rw[Int.neg_mul_neg] at this
       omega
     have c1:=hsq (s.place.x-x) (by omega) (by omega)
     have c2:=hsq (s.place.y-y) (by omega) (by omega)
     omega
    ·obtain⟨g1,g2⟩:=h3 p hp
     exact⟨⟨g1.1.mult ⟨q,by grind⟩,g1.2.mult ⟨q,by grind⟩⟩,g2⟩
theorem prod_le:∀ (l:List Int) {B:Int},(∀ z∈l,0<z∧z≤B)→1≤B→fY l≤B^l.length
 | [],B,_,_=>by unfold fY; simp
 | z::l,B,h,hB=>by
  rw[prod_cons,List.length_cons,Int.pow_succ]
  have h1:=h z List.mem_cons_self
  have h2:=prod_le l (fun y hy=>h y (List.mem_cons_of_mem _ hy)) hB
  have h3:=rh l fun y hy=>(h y (List.mem_cons_of_mem _ hy)).1
  rw[Int.mul_comm]
  exact Int.mul_le_mul h2 h1.2 (by omega) (Int.le_trans (by omega) h2)
theorem sum_rep{D:Nat}{f g:Int×Rat×Rat→Rat}:∀ (L:List (Int×Rat×Rat)),(∀ p∈L,∃ E:Int,f p*(D:Rat)=(E:Rat))→∃ E:Int,(L.map f).sum*(D:Rat)=(E:Rat)
 | [],_=>⟨0,by simp⟩
 | p::L,h=>by
  obtain⟨E1,e1⟩:=h p List.mem_cons_self
  obtain⟨E2,e2⟩:=sum_rep (g:=g) L fun q hq=>h q (List.mem_cons_of_mem _ hq)
  refine⟨E1+E2,?_⟩
  rw[List.map_cons,List.sum_cons,Rat.add_mul,e1,e2,Rat.intCast_add]
theorem sum_le{f g:Int×Rat×Rat→Rat}:∀ (L:List (Int×Rat×Rat)),(∀ p∈L,f p≤g p)→(L.map f).sum≤(L.map g).sum
 | [],_=>by simp
 | p::L,h=>by
  have h1:=h p List.mem_cons_self
  have h2:=sum_le L fun q hq=>h q (List.mem_cons_of_mem _ hq)
  rw[List.map_cons,List.map_cons,List.sum_cons,List.sum_cons]
  grind
theorem sumW_le{P:Int}(hP:0<P):∀ (L:List (Int×Rat×Rat)),(∀ p∈L,0<p.1)→(L.map fun p=>inv1 p.1).sum≤(L.length:Rat)
 | [],_=>by simp
 | p::L,h=>by
  have h1:=h p List.mem_cons_self
  have h2:=sumW_le hP L fun q hq=>h q (List.mem_cons_of_mem _ hq)
  have h3:inv1 p.1≤1:=by
   have e:=inv1_eq p.1 (by omega)
   have hp:=mD p.1 h1
   have h4:(1:Rat)≤(p.1:Rat):=Rat.intCast_le_intCast.mpr (show(1:Int)≤p.1 by omega)
   have:=Rat.mul_le_mul_of_nonneg_left h4 (Rat.le_of_lt hp)
   grind
  rw[List.map_cons,List.sum_cons,List.length_cons,Rat.natCast_add]
  have:((1:Nat):Rat)=1:=rfl
  grind
theorem windQ_rep{l:List Station}{x y:Int}{m:Rat}{w:Rat×Rat}(hl:WOk l)(hx:-100000≤x∧x≤100000)(hy:-100000≤y∧y≤100000)(h:bE l x y m=some w) :
  ∃ D:Nat,D≠0∧D≤2^330*m.den∧WRep D w:=by
 obtain⟨S,s1,s2,s3⟩:=heard_rep (m:=m) hx hy l hl.each
 have hS:S≤100000^6:=Nat.le_trans s2 (Nat.pow_le_pow_right (by omega) hl.len)
 unfold bE at h
 rw[fq] at h
 have hlen:(mR l x y m).length≤6:=Nat.le_trans (List.length_filterMap_le _ _) hl.len
 have hnn:=fun p hp=>pL (l:=l) (x:=x) (y:=y) (m:=m) (p:=p) hp
 generalize mR l x y m=L at *
 have hd:=m.den_pos
 cases e:L.find? fun p=>p.1==0 with
 | some p =>
  rw[oT L _ _ _ e] at h
  cases h
  have hp:=List.mem_of_find?_eq_some e
  refine⟨S*m.den,by have:=Nat.mul_pos s1 hd; omega,Nat.mul_le_mul_right _ (Nat.le_trans hS (by decide)),(s3 p hp).1⟩
 | none =>
  have hne:∀ p∈L,p.1≠0:=fun p hp g=>by
   have:=List.find?_eq_none.mp e p hp
   simp[g] at this
  have hpos:∀ p∈L,0<p.1:=fun p hp=>by have:=hnn p hp; have:=hne p hp; omega
  rw[sx L _ _ _ hne] at h
  simp only[Rat.zero_add] at h
  split at h
  ·cases h
  ·rename_i hnum
   cases h
   have hL:L≠[]:=by rintro rfl; exact hnum rfl
   have hsum:0<(L.map fun p=>inv1 p.1).sum:=sum_pos _ L hL fun p hp=>mD _ (hpos p hp)
   generalize hP:fY (L.map fun p=>p.1)=P
   have hPpos:0<P:=by
    rw[← hP]
    refine rh _ fun z hz=>?_
    obtain⟨p,hp,rfl⟩:=List.mem_map.mp hz
    exact hpos p hp
   have hPle:P≤80000000000^6:=by
    rw[← hP]
    refine Int.le_trans (prod_le _ (B:=80000000000) (fun z hz=>?_) (by omega)) ?_
    ·obtain⟨p,hp,rfl⟩:=List.mem_map.mp hz
     exact⟨hpos p hp,(s3 p hp).2⟩
    ·rw[List.length_map]
     have:L.length≤6:=hlen
     have hc:∀ k:Nat,k≤6→(80000000000:Int)^k≤80000000000^6:=by decide
     exact hc _ this
   have hw:∀ p∈L,∃ W:Int,inv1 p.1*(P:Rat)=(W:Rat):=fun p hp=>by
    obtain⟨i,hi,rfl⟩:=List.getElem_of_mem hp
    refine⟨fY ((L.map fun p=>p.1).eraseIdx i),?_⟩
    have:=oU (L.map fun p=>p.1) i (by rw[List.length_map]; exact hi)
    rw[List.getElem_map,hP] at this
    rw[← this,Rat.intCast_mul]
    have e2:=inv1_eq (L[i]).1 (hne _ (List.getElem_mem hi))
    grind
   obtain⟨T,hT⟩:=sum_rep (D:=P.toNat) (f:=fun p=>inv1 p.1) (g:=fun _=>0) L fun p hp=>by
    obtain⟨W,hW⟩:=hw p hp
    refine⟨W,?_⟩
    rw[← hW]
    congr 1
    rw[← Rat.intCast_natCast,Int.toNat_of_nonneg (by omega)]
   have hPc:((P.toNat:Nat):Rat)=(P:Rat):=by rw[← Rat.intCast_natCast,Int.toNat_of_nonneg (by omega)]
   rw[hPc] at hT
   have hPq:(0:Rat)<(P:Rat):=Rat.intCast_pos.mpr hPpos
   have hTpos:0<T:=by
    have:(0:Rat)<(T:Rat):=by rw[← hT]; exact Rat.mul_pos hsum hPq
    exact Rat.intCast_pos.mp this
   have hTle:T≤6*P:=by
    have h1:=sumW_le hPpos L hpos
    have h2:(L.length:Rat)≤6:=by
     have:=Rat.natCast_le_natCast.mpr hlen
     exact this
    have h3:=Rat.mul_le_mul_of_nonneg_right (Rat.le_trans h1 h2) (Rat.le_of_lt hPq)
    rw[hT] at h3
    have e3:(6:Rat)*(P:Rat)=((6*P:Int):Rat):=by rw[Rat.intCast_mul]; rfl
    rw[e3] at h3
    exact Rat.intCast_le_intCast.mp h3
   have hTc:((T.toNat:Nat):Rat)=(T:Rat):=by rw[← Rat.intCast_natCast,Int.toNat_of_nonneg (by omega)]
   have hTq:(0:Rat)<(T:Rat):=Rat.intCast_pos.mpr hTpos
   have hDne:S*m.den*T.toNat≠0:=by
    have:=Nat.mul_pos (Nat.mul_pos s1 hd) (show 0<T.toNat by omega)
    omega
   refine⟨S*m.den*T.toNat,hDne,?_,?_⟩
   ·have t1:T.toNat≤6*80000000000^6:=by
     have:T≤6*80000000000^6:=Int.le_trans hTle (by omega)
     omega
    have t2:S*T.toNat≤100000^6*(6*80000000000^6):=Nat.mul_le_mul hS t1
    have t3:100000^6*(6*80000000000^6)≤2^330:=by decide
    have:S*m.den*T.toNat=(S*T.toNat)*m.den:=by grind
    rw[this]
    exact Nat.mul_le_mul_right _ (Nat.le_trans t2 t3)
   ·have one:∀ (g:Rat×Rat→Rat),(∀ p∈L,Rep (S*m.den) 1000 (g p.2))→Rep (S*m.den*T.toNat) 1000 ((L.map fun p=>inv1 p.1*g p.2).sum / (L.map fun p=>inv1 p.1).sum):=fun g hgr=>by
     have hsne:(L.map fun p=>inv1 p.1).sum≠0:=by grind
     refine⟨?_,?_,?_⟩
     ·obtain⟨E,hE⟩:=sum_rep (D:=S*m.den*P.toNat) (f:=fun p=>inv1 p.1*g p.2) (g:=fun _=>0) L fun p hp=>by
       obtain⟨W,hW⟩:=hw p hp
       obtain⟨Z,hZ⟩:=(hgr p hp).int
       refine⟨W*Z,?_⟩
       rw[Rat.natCast_mul,hPc,Rat.intCast_mul,← hW,← hZ]
       grind
      refine⟨E,?_⟩
      rw[← hE,Rat.natCast_mul (S*m.den) T.toNat,Rat.natCast_mul (S*m.den) P.toNat,hPc,hTc,← hT]
      have:=Rat.div_mul_cancel (a:=(L.map fun p=>inv1 p.1*g p.2).sum) hsne
      grind
     ·have h1:(L.map fun p=>inv1 p.1*(-(1000:Rat))).sum≤(L.map fun p=>inv1 p.1*g p.2).sum:=sum_le L fun p hp=>by
       have h2:=(hgr p hp).lo
       exact Rat.mul_le_mul_of_nonneg_left h2 (Rat.le_of_lt (mD _ (hpos p hp)))
      have h3:(L.map fun p=>inv1 p.1*(-(1000:Rat))).sum = -(1000:Rat)*(L.map fun p=>inv1 p.1).sum:=by
       rw[← rG]
       congr 1
       exact List.map_congr_left fun p _=>Rat.mul_comm _ _
      rw[h3] at h1
      refine Rat.le_of_mul_le_mul_right (c:=(L.map fun p=>inv1 p.1).sum) ?_ hsum
      rw[Rat.div_mul_cancel hsne]
      exact h1
     ·have h1:(L.map fun p=>inv1 p.1*g p.2).sum≤(L.map fun p=>inv1 p.1*(1000:Rat)).sum:=sum_le L fun p hp=>by
       have h2:=(hgr p hp).hi
       exact Rat.mul_le_mul_of_nonneg_left h2 (Rat.le_of_lt (mD _ (hpos p hp)))
      have h3:(L.map fun p=>inv1 p.1*(1000:Rat)).sum=(1000:Rat)*(L.map fun p=>inv1 p.1).sum:=by
       rw[← rG]
       congr 1
       exact List.map_congr_left fun p _=>Rat.mul_comm _ _
      rw[h3] at h1
      refine Rat.le_of_mul_le_mul_right (c:=(L.map fun p=>inv1 p.1).sum) ?_ hsum
      rw[Rat.div_mul_cancel hsne]
      exact h1
    exact⟨one (fun w=>w.1) fun p hp=>(s3 p hp).1.1,one (fun w=>w.2) fun p hp=>(s3 p hp).1.2⟩
end WM
namespace WM
open Vbreal
def rk(t:List Pt):Prop:=t.length≤12∧∀ v∈t,(-3000≤v.x∧v.x≤3000)∧(-3000≤v.y∧v.y≤3000)
theorem cw{a b:Int}{A B:Nat}(ha:a.natAbs≤A)(hb:b.natAbs≤B):(a*b).natAbs≤A*B:=by
 rw[Int.natAbs_mul]
 exact Nat.mul_le_mul ha hb
theorem oW{a b:Int}{A B:Nat}(ha:a.natAbs≤A)(hb:b.natAbs≤B):(a+b).natAbs≤A+B:=by omega
theorem jH{a b:Int}{A B:Nat}(ha:a.natAbs≤A)(hb:b.natAbs≤B):(a-b).natAbs≤A+B:=by omega
theorem time1_rep{v:Pt}{A L:Int}{T:Rat}{M:Nat}(h:kC v A L=some T)(hv:(-3000≤v.x∧v.x≤3000)∧(-3000≤v.y∧v.y≤3000))(hA:A.natAbs≤M)(hL:L.natAbs≤M) :
  ∃ (d:Nat) (z:Int),d≠0∧d≤18000000∧z.natAbs≤12000*M∧T*(d:Rat)=(z:Rat):=by
 unfold kC at h
 split at h
 ·cases h
 ·split at h
  ·cases h
  ·rename_i h2
   have hT:=Option.some.inj h
   have hx:v.x.natAbs≤3000:=by omega
   have hy:v.y.natAbs≤3000:=by omega
   have e2:v.x^2+v.y^2=((v.x.natAbs*v.x.natAbs+v.y.natAbs*v.y.natAbs:Nat):Int):=by
    rw[Int.natCast_add,Int.natCast_mul,Int.natCast_mul,Int.pow_succ,Int.pow_one,Int.pow_succ,Int.pow_one]
    congr 1
    ·rw[← Int.natCast_mul,Int.natAbs_mul_self]
    ·rw[← Int.natCast_mul,Int.natAbs_mul_self]
   have hne:v.x.natAbs*v.x.natAbs+v.y.natAbs*v.y.natAbs≠0:=by
    intro g
    have g1:v.x.natAbs=0:=by
     rcases Nat.eq_zero_or_pos v.x.natAbs with q | q
     ·exact q
     ·have:=Nat.mul_pos q q; omega
    have g2:v.y.natAbs=0:=by
     rcases Nat.eq_zero_or_pos v.y.natAbs with q | q
     ·exact q
     ·have:=Nat.mul_pos q q; omega
    have q1:v.x=0:=by omega
    have q2:v.y=0:=by omega
    rw[q1,q2] at h2
    omega
   refine⟨v.x.natAbs*v.x.natAbs+v.y.natAbs*v.y.natAbs,v.x*A+v.y*L,hne,?_,?_,?_⟩
   ·have:=Nat.mul_le_mul hx hx
    have:=Nat.mul_le_mul hy hy
    omega
   ·have:=oW (cw hx hA) (cw hy hL)
    omega
   ·rw[← hT,e2,aX,Rat.intCast_natCast]
    have:((v.x.natAbs*v.x.natAbs+v.y.natAbs*v.y.natAbs:Nat):Rat)≠0:=by
     have:=Rat.natCast_pos.mpr (Nat.pos_of_ne_zero hne)
     grind
    exact Rat.div_mul_cancel this
theorem time2_rep{f s:Pt}{A L:Int}{T:Rat}{M:Nat}(h:fW f s A L=some T)(hf:(-3000≤f.x∧f.x≤3000)∧(-3000≤f.y∧f.y≤3000))(hs:(-3000≤s.x∧s.x≤3000)∧(-3000≤s.y∧s.y≤3000))(hA:A.natAbs≤M)(hL:L.natAbs≤M) :
  ∃ (d:Nat) (z:Int),d≠0∧d≤18000000∧z.natAbs≤12000*M∧T*(d:Rat)=(z:Rat):=by
 unfold fW at h
 split at h
 ·cases h
 ·rename_i h0
  split at h
  ·cases h
  ·have hT:=Option.some.inj h
   have hfx:f.x.natAbs≤3000:=by omega
   have hfy:f.y.natAbs≤3000:=by omega
   have hsx:s.x.natAbs≤3000:=by omega
   have hsy:s.y.natAbs≤3000:=by omega
   have har:=jH (cw hfx hsy) (cw hfy hsx)
   have hz:((A*s.y-L*s.x)+(f.x*L-f.y*A)).natAbs≤12000*M:=by
    have:=oW (jH (cw hA hsy) (cw hL hsx)) (jH (cw hfx hL) (cw hfy hA))
    omega
   have key:T*((f.x*s.y-f.y*s.x:Int):Rat)=(((A*s.y-L*s.x)+(f.x*L-f.y*A):Int):Rat):=by
    have hne:((f.x*s.y-f.y*s.x:Int):Rat)≠0:=fun g=>h0 (Rat.intCast_eq_zero_iff.mp g)
    rw[← hT,Rat.add_mul,aX,aX,Rat.div_mul_cancel hne,Rat.div_mul_cancel hne,Rat.intCast_add]
   generalize f.x*s.y-f.y*s.x=a at *
   generalize (A*s.y-L*s.x)+(f.x*L-f.y*A)=z at *
   rcases Int.le_total 0 a with g | g
   ·refine⟨a.natAbs,z,by omega,by omega,hz,?_⟩
    rw[← key,← Rat.intCast_natCast]
    congr 2
    omega
   ·refine⟨a.natAbs,-z,by omega,by omega,by omega,?_⟩
    rw[Rat.intCast_neg,← key,← Rat.intCast_natCast]
    have:((a.natAbs:Nat):Int) = -a:=by omega
    rw[this,Rat.intCast_neg]
    grind
theorem least_rep{t:List Pt}{A L:Int}{T:Rat}{M:Nat}(ht:rk t)(h:dr t A L=some T)(hA:A.natAbs≤M)(hL:L.natAbs≤M) :
  ∃ (d:Nat) (z:Int),d≠0∧d≤18000000∧z.natAbs≤12000*M∧T*(d:Rat)=(z:Rat):=by
 rcases(gu t A L).1 T h with⟨v,hv,g⟩ | ⟨f,hf,s,hs,g⟩
 ·exact time1_rep g (ht.2 v hv) hA hL
 ·exact time2_rep g (ht.2 f hf) (ht.2 s hs) hA hL
theorem least_nonneg{t:List Pt}{A L:Int}{T:Rat}(h:dr t A L=some T):0≤T :=
 (weak (cand_fea ((gu t A L).1 T h)) ⟨0,0⟩).1
theorem wayTime_rep{t:List Pt}{e n T:Rat}{dx dy:Int}{D:Nat}(ht:rk t)(hD:D≠0)(hw:WRep D (e,n))(hdx:dx.natAbs≤200000)(hdy:dy.natAbs≤200000)(h:bC t e n dx dy=some T) :
  0≤T∧∃ (d:Nat) (z:Int),d≠0∧d≤2^60*(D*D)∧z.natAbs≤2^60*(D*D)∧T*(d:Rat)=(z:Rat):=by
 have hDD:0<D*D:=Nat.mul_pos (Nat.pos_of_ne_zero hD) (Nat.pos_of_ne_zero hD)
 unfold bC at h
 split at h
 ·cases h
  exact⟨Rat.le_refl,1,0,by omega,by omega,by simp,by simp⟩
 ·rename_i hd'
  split at h
  ·cases h
  ·rename_i hz
   obtain⟨T',hT',rfl⟩:=Option.map_eq_some_iff.mp h
   have hw':¬ (e=0∧n=0):=fun⟨a,b⟩=>hz ⟨Rat.num_eq_zero.mpr a,Rat.num_eq_zero.mpr b⟩
   have hs:0<e*e+n*n:=sq_pos hw'
   obtain⟨⟨⟨E,hE⟩,e1,e2⟩,⟨N,hN⟩,n1,n2⟩:=hw
   have hEa:E.natAbs≤1000*D:=by
    have:=Rep.num hD ⟨⟨E,hE⟩,e1,e2⟩
    have hp:(0:Rat)≤(D:Rat):=Rat.natCast_nonneg
    have h1:=Rat.mul_le_mul_of_nonneg_right e1 hp
    have h2:=Rat.mul_le_mul_of_nonneg_right e2 hp
    have q1:-((1000:Nat):Rat)*(D:Rat)=((-((1000*D:Nat):Int):Int):Rat):=by rw[Rat.intCast_neg,Rat.intCast_natCast,Rat.natCast_mul]; grind
    have q2:((1000:Nat):Rat)*(D:Rat)=(((1000*D:Nat):Int):Rat):=by rw[Rat.intCast_natCast,Rat.natCast_mul]
    dsimp only at h1 h2 hE
    rw[hE,q1] at h1
    rw[hE,q2] at h2
    have g1:=Rat.intCast_le_intCast.mp h1
    have g2:=Rat.intCast_le_intCast.mp h2
    omega
   have hNa:N.natAbs≤1000*D:=by
    have hp:(0:Rat)≤(D:Rat):=Rat.natCast_nonneg
    have h1:=Rat.mul_le_mul_of_nonneg_right n1 hp
    have h2:=Rat.mul_le_mul_of_nonneg_right n2 hp
    have q1:-((1000:Nat):Rat)*(D:Rat)=((-((1000*D:Nat):Int):Int):Rat):=by rw[Rat.intCast_neg,Rat.intCast_natCast,Rat.natCast_mul]; grind
    have q2:((1000:Nat):Rat)*(D:Rat)=(((1000*D:Nat):Int):Rat):=by rw[Rat.intCast_natCast,Rat.natCast_mul]
    dsimp only at h1 h2 hN
    rw[hN,q1] at h1
    rw[hN,q2] at h2
    have g1:=Rat.intCast_le_intCast.mp h1
    have g2:=Rat.intCast_le_intCast.mp h2
    omega
   dsimp only at hE hN
   have pe:(0:Rat)<e.den:=Rat.natCast_pos.mpr e.den_pos
   have pn:(0:Rat)<n.den:=Rat.natCast_pos.mpr n.den_pos
   have pD:(0:Rat)<D:=Rat.natCast_pos.mpr (Nat.pos_of_ne_zero hD)
   have hDq:(D:Rat)≠0:=by grind
   generalize hA:dx*(e.num*n.den)+dy*(n.num*e.den)=A at hT'
   generalize hL:dy*(e.num*n.den)-dx*(n.num*e.den)=L at hT'
   generalize hc:((e.den:Rat)*n.den) / D=c
   have hcpos:0<c:=by
    rw[← hc,Rat.div_def]
    exact Rat.mul_pos (Rat.mul_pos pe pn) (Rat.inv_pos.mpr pD)
   have hcD:c*D=(e.den:Rat)*n.den:=by rw[← hc]; exact Rat.div_mul_cancel hDq
   have hA':(A:Rat)=c*((dx*E+dy*N:Int):Rat):=by
    rw[← hA]
    simp only[Rat.intCast_add,Rat.intCast_mul,Rat.intCast_natCast,eG,← hE,← hN]
    grind
   have hL':(L:Rat)=c*((dy*E-dx*N:Int):Rat):=by
    rw[← hL]
    simp only[Rat.intCast_sub,Rat.intCast_mul,Rat.intCast_natCast,eG,← hE,← hN]
    grind
   have hEN:0<(E:Rat)*E+N*N:=by
    have:=Rat.mul_pos hs (Rat.mul_pos pD pD)
    rw[← hE,← hN]
    grind
   have hAL2:¬ (dx*E+dy*N=0∧dy*E-dx*N=0):=by
    rintro⟨a,b⟩
    have a':(dx:Rat)*E+dy*N=0:=by
     have:((dx*E+dy*N:Int):Rat)=((0:Int):Rat):=by rw[a]
     rw[Rat.intCast_add,Rat.intCast_mul,Rat.intCast_mul] at this
     exact this
    have b':(dy:Rat)*E-dx*N=0:=by
     have:((dy*E-dx*N:Int):Rat)=((0:Int):Rat):=by rw[b]
     rw[Rat.intCast_sub,Rat.intCast_mul,Rat.intCast_mul] at this
     exact this
    have q1:(dx:Rat)*((E:Rat)*E+N*N)=0:=by grind
    have q2:(dy:Rat)*((E:Rat)*E+N*N)=0:=by grind
    have hne:(E:Rat)*E+N*N≠0:=by grind
    rcases Rat.mul_eq_zero.mp q1 with g | g
    ·rcases Rat.mul_eq_zero.mp q2 with g' | g'
     ·exact hd' ⟨Rat.intCast_eq_zero_iff.mp g,Rat.intCast_eq_zero_iff.mp g'⟩
     ·exact hne g'
    ·exact hne g
   have hAL:¬ (A=0∧L=0):=by
    rintro⟨a,b⟩
    rw[a] at hA'
    rw[b] at hL'
    have z0:((0:Int):Rat)=0:=rfl
    rw[z0] at hA' hL'
    have hcne:c≠0:=by grind
    rcases Rat.mul_eq_zero.mp hA'.symm with g | g1
    ·exact hcne g
    ·rcases Rat.mul_eq_zero.mp hL'.symm with g | g2
     ·exact hcne g
     ·exact hAL2 ⟨Rat.intCast_eq_zero_iff.mp g1,Rat.intCast_eq_zero_iff.mp g2⟩
   have hsc:dr t A L=(dr t (dx*E+dy*N) (dy*E-dx*N)).map (c * ·):=by
    rw[oS hAL,oS hAL2,← dualT_scale hcpos,hA',hL']
   rw[hsc] at hT'
   obtain⟨T2,hT2,rfl⟩:=Option.map_eq_some_iff.mp hT'
   have hM1:(dx*E+dy*N).natAbs≤400000000*D:=by
    have:=oW (cw hdx hEa) (cw hdy hNa)
    omega
   have hM2:(dy*E-dx*N).natAbs≤400000000*D:=by
    have:=jH (cw hdy hEa) (cw hdx hNa)
    omega
   obtain⟨d,z,d0,d1,z1,dz⟩:=least_rep ht hT2 hM1 hM2
   have hT20:=least_nonneg hT2
   generalize hk:Rat.divInt (1000*(e.den*n.den)) (e.num*n.den*(e.num*n.den)+n.num*e.den*(n.num*e.den))=k at *
   have hkk:k*((e.den*n.den)*(e*e+n*n))=1000:=by
    rw[← hk,aX]
    simp only[Rat.intCast_add,Rat.intCast_mul,Rat.intCast_natCast,eG]
    have hne2:e * ↑e.den * ↑n.den*(e * ↑e.den * ↑n.den)+n * ↑n.den * ↑e.den*(n * ↑n.den * ↑e.den)≠0:=by
     have:=Rat.mul_pos (Rat.mul_pos pe pn) (Rat.mul_pos (Rat.mul_pos pe pn) hs)
     grind
    have cc0:((1000:Int):Rat)=1000:=rfl
    rw[cc0]
    have m1:=Rat.div_mul_cancel (a:=(1000:Rat)*(↑e.den * ↑n.den)) hne2
    have hden:(e.den:Rat)*n.den≠0:=by have:=Rat.mul_pos pe pn; grind
    generalize 1000*((e.den:Rat)*n.den) / (e * ↑e.den * ↑n.den*(e * ↑e.den * ↑n.den)+n * ↑n.den * ↑e.den*(n * ↑n.den * ↑e.den))=K at *
    have:((e.den:Rat)*n.den)*(K*((e.den*n.den)*(e*e+n*n))-1000)=0:=by grind
    rcases Rat.mul_eq_zero.mp this with g | g
    ·exact absurd g hden
    ·grind
   have hkpos:0<k:=by
    have:0<k*((e.den*n.den)*(e*e+n*n)):=by rw[hkk]; decide
    exact(Rat.mul_pos_iff_of_pos_right (Rat.mul_pos (Rat.mul_pos pe pn) hs)).mp this
   have hfin:c*k*((E:Rat)*E+N*N)=1000*D:=by
    have e3:(E:Rat)*E+N*N=(e*e+n*n)*(D*D):=by rw[← hE,← hN]; grind
    rw[e3]
    have:c*k*((e*e+n*n)*(D*D))=(k*((c*D)*(e*e+n*n)))*D:=by grind
    rw[this,hcD,hkk]
   refine⟨Rat.mul_nonneg (Rat.mul_nonneg (Rat.le_of_lt hcpos) hT20) (Rat.le_of_lt hkpos),d*(E.natAbs*E.natAbs+N.natAbs*N.natAbs),1000*D*z,?_,?_,?_,?_⟩
   ·have:E.natAbs*E.natAbs+N.natAbs*N.natAbs≠0:=by
     intro g
     have q:((E.natAbs*E.natAbs+N.natAbs*N.natAbs:Nat):Int)=E*E+N*N:=by
      rw[Int.natCast_add,Int.natAbs_mul_self,Int.natAbs_mul_self]
     rw[g] at q
     have q2:(E:Rat)*E+N*N=((0:Int):Rat):=by
      rw[← Rat.intCast_mul,← Rat.intCast_mul,← Rat.intCast_add,← q]; rfl
     rw[q2] at hEN
     exact absurd hEN (by decide)
    exact Nat.mul_ne_zero d0 this
   ·have a1:=Nat.mul_le_mul hEa hEa
    have a2:=Nat.mul_le_mul hNa hNa
    have a3:E.natAbs*E.natAbs+N.natAbs*N.natAbs≤2000000*(D*D):=by
     have:1000*D*(1000*D)=1000000*(D*D):=by grind
     omega
    have a4:=Nat.mul_le_mul d1 a3
    refine Nat.le_trans a4 ?_
    have:18000000*(2000000*(D*D))=36000000000000*(D*D):=by grind
    rw[this]
    exact Nat.mul_le_mul_right _ (by decide)
   ·have b1:(1000*(D:Int)*z).natAbs≤1000*D*(12000*(400000000*D)):=by
     have:(1000*(D:Int)).natAbs≤1000*D:=by omega
     exact cw this z1
    refine Nat.le_trans b1 ?_
    have:1000*D*(12000*(400000000*D))=4800000000000000*(D*D):=by grind
    rw[this]
    exact Nat.mul_le_mul_right _ (by decide)
   ·have q:((E.natAbs*E.natAbs+N.natAbs*N.natAbs:Nat):Rat)=(E:Rat)*E+N*N:=by
     rw[← Rat.intCast_natCast,Int.natCast_add,Int.natAbs_mul_self,Int.natAbs_mul_self,Rat.intCast_add,Rat.intCast_mul,Rat.intCast_mul]
    rw[Rat.natCast_mul,q,Rat.intCast_mul,Rat.intCast_mul,Rat.intCast_natCast,← dz]
    have cc0:((1000:Int):Rat)=1000:=rfl
    rw[cc0]
    have:c*T2*k*((d:Rat)*((E:Rat)*E+N*N))=(c*k*((E:Rat)*E+N*N))*(T2*d):=by grind
    rw[this,hfin]
end WM
namespace WM
open Vbreal
theorem jI(p q:Rat):((p.num*(q.den:Int):Int):Rat)=p*((p.den:Rat)*(q.den:Rat)):=by
 rw[Rat.intCast_mul,eG,Rat.intCast_natCast,Rat.mul_assoc]
def hd(w:Rat×Rat):Pt:=heading (a8 w)
theorem hd_eq(w:Rat×Rat)(h:¬ (w.1.num=0∧w.2.num=0)):Nat.gcd (w.1.num*(w.2.den:Int)).natAbs (w.2.num*(w.1.den:Int)).natAbs≠0 ∧
  hd w=⟨w.1.num*(w.2.den:Int) / (Nat.gcd (w.1.num*(w.2.den:Int)).natAbs (w.2.num*(w.1.den:Int)).natAbs:Nat),w.2.num*(w.1.den:Int) / (Nat.gcd (w.1.num*(w.2.den:Int)).natAbs (w.2.num*(w.1.den:Int)).natAbs:Nat)⟩:=by
 have hg:Nat.gcd (w.1.num*(w.2.den:Int)).natAbs (w.2.num*(w.1.den:Int)).natAbs≠0:=by
  intro e
  have e1:=Nat.eq_zero_of_gcd_eq_zero_left e
  have e2:=Nat.eq_zero_of_gcd_eq_zero_right e
  rw[Int.natAbs_eq_zero,Int.mul_eq_zero] at e1 e2
  have d1:=w.1.den_pos
  have d2:=w.2.den_pos
  exact h ⟨by omega,by omega⟩
 refine⟨hg,?_⟩
 show(if Nat.gcd (w.1.num*(w.2.den:Int)).natAbs (w.2.num*(w.1.den:Int)).natAbs=0 then _ else _)=_
 rw[if_neg hg]
 rfl
theorem hd_spec{w:Rat×Rat}(h:¬ (w.1.num=0∧w.2.num=0)):∃ c:Rat,0<c∧w.1=c*((hd w).x:Rat)∧w.2=c*((hd w).y:Rat):=by
 obtain⟨hg,e⟩:=hd_eq w h
 rw[e]
 have k1:=jI w.1 w.2
 have k2:=jI w.2 w.1
 have d1:((Nat.gcd (w.1.num*(w.2.den:Int)).natAbs (w.2.num*(w.1.den:Int)).natAbs:Nat):Int) ∣ w.1.num*(w.2.den:Int):=Int.natAbs_dvd_natAbs.mp (by rw[Int.natAbs_natCast]; exact Nat.gcd_dvd_left _ _)
 have d2:((Nat.gcd (w.1.num*(w.2.den:Int)).natAbs (w.2.num*(w.1.den:Int)).natAbs:Nat):Int) ∣ w.2.num*(w.1.den:Int):=Int.natAbs_dvd_natAbs.mp (by rw[Int.natAbs_natCast]; exact Nat.gcd_dvd_right _ _)
 generalize Nat.gcd (w.1.num*(w.2.den:Int)).natAbs (w.2.num*(w.1.den:Int)).natAbs=g at *
 generalize w.1.num*(w.2.den:Int)=a at *
 generalize w.2.num*(w.1.den:Int)=b at *
 obtain⟨x,rfl⟩:=d1
 obtain⟨y,rfl⟩:=d2
 have hgi:(g:Int)≠0:=by omega
 rw[Int.mul_ediv_cancel_left _ hgi,Int.mul_ediv_cancel_left _ hgi]
 have p1:(0:Rat)<(w.1.den:Rat):=Rat.natCast_pos.mpr w.1.den_pos
 have p2:(0:Rat)<(w.2.den:Rat):=Rat.natCast_pos.mpr w.2.den_pos
 have pp:=Rat.mul_pos p1 p2
 have pg:(0:Rat)<(g:Rat):=Rat.natCast_pos.mpr (by omega)
 have hne:(w.1.den:Rat)*(w.2.den:Rat)≠0:=by grind
 rw[Rat.intCast_mul,Rat.intCast_natCast] at k1 k2
 have hq:=Rat.div_mul_cancel (a:=(g:Rat)) hne
 refine⟨(g:Rat) / ((w.1.den:Rat)*(w.2.den:Rat)),?_,?_,?_⟩
 ·rw[Rat.div_def]
  exact Rat.mul_pos pg (Rat.inv_pos.mpr pp)
 ·generalize (g:Rat) / ((w.1.den:Rat)*(w.2.den:Rat))=c at *
  have:((w.1.den:Rat)*(w.2.den:Rat))*(w.1-c*(x:Rat))=0:=by grind
  rcases Rat.mul_eq_zero.mp this with g1 | g1
  ·exact absurd g1 hne
  ·show w.1=c*(x:Rat)
   grind
 ·generalize (g:Rat) / ((w.1.den:Rat)*(w.2.den:Rat))=c at *
  have:((w.1.den:Rat)*(w.2.den:Rat))*(w.2-c*(y:Rat))=0:=by grind
  rcases Rat.mul_eq_zero.mp this with g1 | g1
  ·exact absurd g1 hne
  ·show w.2=c*(y:Rat)
   grind
theorem m6{w:Rat×Rat}(h:¬ (w.1.num=0∧w.2.num=0)){k:Nat}(h1:Bd k w.1)(h2:Bd k w.2):(hd w).x.natAbs<2^(k+k)∧(hd w).y.natAbs<2^(k+k):=by
 obtain⟨hg,e⟩:=hd_eq w h
 rw[e]
 have le:∀ (a:Int) (g:Nat),(a / (g:Int)).natAbs≤a.natAbs∨g=0∨¬ (g:Int) ∣ a:=fun a g=>by
  by_cases hg:g=0
  ·exact .inr (.inl hg)
  ·by_cases hd:(g:Int) ∣ a
   ·refine .inl ?_
    obtain⟨x,rfl⟩:=hd
    rw[Int.mul_ediv_cancel_left _ (by omega),Int.natAbs_mul,Int.natAbs_natCast]
    exact Nat.le_mul_of_pos_left _ (by omega)
   ·exact .inr (.inr hd)
 have b:∀ {a c:Nat},a<2^k→c<2^k→a*c<2^(k+k):=fun ha hc=>by
  rw[Nat.pow_add]
  exact Nat.mul_lt_mul'' ha hc
 have s1:(w.1.num*(w.2.den:Int)).natAbs<2^(k+k):=by rw[Int.natAbs_mul,Int.natAbs_natCast]; exact b h1.1 h2.2
 have s2:(w.2.num*(w.1.den:Int)).natAbs<2^(k+k):=by rw[Int.natAbs_mul,Int.natAbs_natCast]; exact b h2.1 h1.2
 have d1:((Nat.gcd (w.1.num*(w.2.den:Int)).natAbs (w.2.num*(w.1.den:Int)).natAbs:Nat):Int) ∣ w.1.num*(w.2.den:Int):=Int.natAbs_dvd_natAbs.mp (by rw[Int.natAbs_natCast]; exact Nat.gcd_dvd_left _ _)
 have d2:((Nat.gcd (w.1.num*(w.2.den:Int)).natAbs (w.2.num*(w.1.den:Int)).natAbs:Nat):Int) ∣ w.2.num*(w.1.den:Int):=Int.natAbs_dvd_natAbs.mp (by rw[Int.natAbs_natCast]; exact Nat.gcd_dvd_right _ _)
 constructor
 ·rcases le (w.1.num*(w.2.den:Int)) _ with q | q | q
  ·exact Nat.lt_of_le_of_lt q s1
  ·exact absurd q hg
  ·exact absurd d1 q
 ·rcases le (w.2.num*(w.1.den:Int)) _ with q | q | q
  ·exact Nat.lt_of_le_of_lt q s2
  ·exact absurd q hg
  ·exact absurd d2 q
def bU(a b:Pt):Int:=a.x*b.x+a.y*b.y
def d5(a b:Pt):Int:=a.x*b.y-a.y*b.x
theorem sq_nonneg(z:Int):0≤z*z:=by
 rcases Int.le_total 0 z with g | g
 ·exact Int.mul_nonneg g g
 ·exact Int.mul_nonneg_of_nonpos_of_nonpos g g
theorem fZ(z:Rat):0≤z*z:=by
 rcases Rat.le_total (a:=0) (b:=z) with g | g
 ·exact Rat.mul_nonneg g g
 ·have:=Rat.mul_nonneg (show 0≤-z by grind) (show 0≤-z by grind)
  grind
theorem mE{z:Rat}(h:z*z=0):z=0:=by rcases Rat.mul_eq_zero.mp h with g | g<;>exact g
theorem il{w:Rat×Rat}(h:¬ (w.1.num=0∧w.2.num=0)):1≤bU (hd w) (hd w):=by
 obtain⟨c,hc,e1,e2⟩:=hd_spec h
 unfold bU
 have a:=sq_nonneg (hd w).x
 have b:=sq_nonneg (hd w).y
 rcases Int.lt_or_le 0 ((hd w).x*(hd w).x+(hd w).y*(hd w).y) with g | g
 ·omega
 ·exfalso
  have z1:(hd w).x=0:=by rcases Int.mul_eq_zero.mp (show(hd w).x*(hd w).x=0 by omega) with q | q<;>exact q
  have z2:(hd w).y=0:=by rcases Int.mul_eq_zero.mp (show(hd w).y*(hd w).y=0 by omega) with q | q<;>exact q
  rw[z1] at e1
  rw[z2] at e2
  have z0:((0:Int):Rat)=0:=rfl
  rw[z0,Rat.mul_zero] at e1 e2
  exact h ⟨by rw[e1]; rfl,by rw[e2]; rfl⟩
def ssQ(w:Rat×Rat):Rat:=w.1*w.1+w.2*w.2
theorem rH(w:Rat×Rat):speedSquare (a8 w)=F (ssQ w):=by
 unfold speedSquare a8 ssQ
 rw[eE,eE,mP]
theorem gN(q:Rat):q.num=0↔q=0:=Rat.num_eq_zero
theorem ef(w:Rat×Rat):speedSquare (a8 w)=zero↔(w.1.num=0∧w.2.num=0):=by
 rw[rH,iQ,gN,gN]
 constructor
 ·intro h
  have h:=F_inj h
  have a:=fZ w.1
  have b:=fZ w.2
  unfold ssQ at h
  exact⟨mE (by grind),mE (by grind)⟩
 ·rintro⟨h1,h2⟩
  unfold ssQ
  rw[h1,h2,Rat.mul_zero,Rat.add_zero]
theorem ss_pos{w:Rat×Rat}(h:¬ (w.1.num=0∧w.2.num=0)):0<ssQ w:=by
 have a:=fZ w.1
 have b:=fZ w.2
 by_cases g:0<ssQ w
 ·exact g
 ·exfalso
  have g:=Rat.not_lt.mp g
  unfold ssQ at g
  have h1:w.1=0:=mE (by grind)
  have h2:w.2=0:=mE (by grind)
  exact h ⟨(gN _).mpr h1,(gN _).mpr h2⟩
def sgn(z:Int):Int:=if 0<z then 1 else if z<0 then 2 else 0
theorem turn_F(q:Rat):turnOf (F q)=if 0<q then 1 else if q<0 then 2 else 0:=by
 unfold turnOf
 rw[iQ,fK,fK]
 by_cases h:0<q
 ·rw[if_pos h,if_pos (decide_eq_true h)]
 ·rw[if_neg h,if_neg (by simpa using h)]
  by_cases h2:q<0
  ·rw[if_pos h2,if_pos (decide_eq_true h2)]
  ·rw[if_neg h2,if_neg (by simpa using h2)]
theorem mS{c:Rat}(hc:0<c)(z:Rat):0<c*z↔0<z:=by
 constructor
 ·intro h
  by_cases g:0<z
  ·exact g
  ·have g:=Rat.not_lt.mp g
   have:=Rat.mul_nonneg (Rat.le_of_lt hc) (show 0≤-z by grind)
   grind
 ·exact Rat.mul_pos hc
theorem mT{c:Rat}(hc:0<c)(z:Rat):c*z<0↔z<0:=by
 have:=mS hc (-z)
 constructor
 ·intro h
  have:=this.mp (by grind)
  grind
 ·intro h
  have:=this.mpr (by grind)
  grind
theorem sgn_scale{c:Rat}(hc:0<c)(z:Int):turnOf (F (c*(z:Rat)))=sgn z:=by
 rw[turn_F]
 unfold sgn
 have i1:(0<c*(z:Rat))↔0<z:=(mS hc _).trans Rat.intCast_pos
 have i2:(c*(z:Rat)<0)↔z<0:=(mT hc _).trans Rat.intCast_neg_iff
 by_cases h:0<z
 ·rw[if_pos h,if_pos (i1.mpr h)]
 ·rw[if_neg h,if_neg (fun g=>h (i1.mp g))]
  by_cases h2:z<0
  ·rw[if_pos h2,if_pos (i2.mpr h2)]
  ·rw[if_neg h2,if_neg (fun g=>h2 (i2.mp g))]
theorem dot_F(a b:Rat×Rat):dotOf (a8 a) (a8 b)=F (a.1*b.1+a.2*b.2):=by
 unfold dotOf a8
 rw[eE,eE,mP]
theorem cross_F(a b:Rat×Rat):crossOf (a8 a) (a8 b)=F (a.1*b.2-a.2*b.1):=by
 unfold crossOf a8
 rw[eE,eE,sub_F]
theorem oX{p q r:Rat}(hq:q≠0)(h:r*q=p):p / q=r:=by
 have:=Rat.div_mul_cancel (a:=p) hq
 generalize p / q=x at *
 have:q*(x-r)=0:=by grind
 rcases Rat.mul_eq_zero.mp this with g | g
 ·exact absurd g hq
 ·grind
end WM
namespace WM
open Vbreal
theorem ss_hd{w:Rat×Rat}{c:Rat}(e1:w.1=c*((hd w).x:Rat))(e2:w.2=c*((hd w).y:Rat)):ssQ w=c*c*((bU (hd w) (hd w):Int):Rat):=by
 unfold ssQ bU
 generalize hd w=h at *
 rw[e1,e2,Rat.intCast_add,Rat.intCast_mul,Rat.intCast_mul]
 grind
theorem jq(z:Int):((z^2:Int):Rat)=(z:Rat)*(z:Rat):=by
 rw[Int.pow_succ,Int.pow_one,Rat.intCast_mul]
theorem bias_F{w:Rat×Rat}(h:¬ (w.1.num=0∧w.2.num=0))(x y u v:Int) :
  turnOf (aheadBy (a8 w) ⟨x,y⟩ ⟨u,v⟩)=sgn (bU (hd w) ⟨u-x,v-y⟩) ∧
  (if less (aheadBy (a8 w) ⟨x,y⟩ ⟨u,v⟩) zero=true then sub zero (aheadBy (a8 w) ⟨x,y⟩ ⟨u,v⟩) else aheadBy (a8 w) ⟨x,y⟩ ⟨u,v⟩) =
   F (Rat.divInt (bU (hd w) ⟨u-x,v-y⟩^2) (bU (hd w) (hd w))):=by
 obtain⟨c,hc,e1,e2⟩:=hd_spec h
 have hs:=ss_pos h
 have hD:=il h
 have hss:=ss_hd e1 e2
 have ez:w.1*((u-x:Int):Rat)+w.2*((v-y:Int):Rat)=c*((bU (hd w) ⟨u-x,v-y⟩:Int):Rat):=by
  unfold bU
  generalize hd w=k at *
  rw[e1,e2,Rat.intCast_add,Rat.intCast_mul,Rat.intCast_mul]
  grind
 have ea:aheadBy (a8 w) ⟨x,y⟩ ⟨u,v⟩=if c*((bU (hd w) ⟨u-x,v-y⟩:Int):Rat)<0 then F (0-Rat.divInt (bU (hd w) ⟨u-x,v-y⟩^2) (bU (hd w) (hd w))) else F (Rat.divInt (bU (hd w) ⟨u-x,v-y⟩^2) (bU (hd w) (hd w))):=by
  unfold aheadBy
  have e3:add (mul (a8 w).e (whole (u-x))) (mul (a8 w).n (whole (v-y)))=F (c*((bU (hd w) ⟨u-x,v-y⟩:Int):Rat)):=by
   show add (mul (F w.1) (F ((u-x:Int):Rat))) (mul (F w.2) (F ((v-y:Int):Rat)))=_
   rw[eE,eE,mP,ez]
  show(if less (add (mul (a8 w).e (whole (u-x))) (mul (a8 w).n (whole (v-y)))) zero=true then sub zero (over (mul (add (mul (a8 w).e (whole (u-x))) (mul (a8 w).n (whole (v-y)))) (add (mul (a8 w).e (whole (u-x))) (mul (a8 w).n (whole (v-y))))) (speedSquare (a8 w)))
   else over (mul (add (mul (a8 w).e (whole (u-x))) (mul (a8 w).n (whole (v-y)))) (add (mul (a8 w).e (whole (u-x))) (mul (a8 w).n (whole (v-y))))) (speedSquare (a8 w)))=_
  rw[e3,rH,eE,kz _ _ hs,iQ,fK,sub_F]
  have e4:c*((bU (hd w) ⟨u-x,v-y⟩:Int):Rat)*(c*((bU (hd w) ⟨u-x,v-y⟩:Int):Rat)) / ssQ w=Rat.divInt (bU (hd w) ⟨u-x,v-y⟩^2) (bU (hd w) (hd w)):=by
   refine oX (by grind) ?_
   rw[aX,hss,jq]
   have hDq:((bU (hd w) (hd w):Int):Rat)≠0:=fun g=>by have:=Rat.intCast_eq_zero_iff.mp g; omega
   have:=Rat.div_mul_cancel (a:=((bU (hd w) ⟨u-x,v-y⟩:Int):Rat)*((bU (hd w) ⟨u-x,v-y⟩:Int):Rat)) hDq
   grind
  rw[e4]
  by_cases hz:c*((bU (hd w) ⟨u-x,v-y⟩:Int):Rat)<0
  ·rw[if_pos (decide_eq_true hz),if_pos hz]
  ·rw[if_neg (by simpa using hz),if_neg hz]
 have hz0:0≤Rat.divInt (bU (hd w) ⟨u-x,v-y⟩^2) (bU (hd w) (hd w))∧(bU (hd w) ⟨u-x,v-y⟩≠0→0<Rat.divInt (bU (hd w) ⟨u-x,v-y⟩^2) (bU (hd w) (hd w)))∧(bU (hd w) ⟨u-x,v-y⟩=0→Rat.divInt (bU (hd w) ⟨u-x,v-y⟩^2) (bU (hd w) (hd w))=0):=by
  have hp:(0:Rat)<((bU (hd w) (hd w):Int):Rat):=Rat.intCast_pos.mpr (by omega)
  have hi:=Rat.inv_pos.mpr hp
  rw[aX,jq,Rat.div_def]
  generalize bU (hd w) ⟨u-x,v-y⟩=z
  refine⟨Rat.mul_nonneg (fZ _) (Rat.le_of_lt hi),fun g=>Rat.mul_pos ?_ hi,fun g=>?_⟩
  ·have h0:=fZ (z:Rat)
   have h1:(z:Rat)*(z:Rat)≠0:=fun q=>g (Rat.intCast_eq_zero_iff.mp (mE q))
   exact Rat.lt_of_le_of_ne h0 (Ne.symm h1)
  ·rw[g]
   show(0:Rat)*0*_=0
   rw[Rat.mul_zero,Rat.zero_mul]
 rw[ea]
 have i2:(c*((bU (hd w) ⟨u-x,v-y⟩:Int):Rat)<0)↔bU (hd w) ⟨u-x,v-y⟩<0:=(mT hc _).trans Rat.intCast_neg_iff
 generalize bU (hd w) ⟨u-x,v-y⟩=z at *
 generalize Rat.divInt (z^2) (bU (hd w) (hd w))=s at *
 obtain⟨g0,g1,g2⟩:=hz0
 by_cases hz:c*((z:Int):Rat)<0
 ·rw[if_pos hz,turn_F,iQ,fK,sub_F]
  have hz':=i2.mp hz
  have hs':=g1 (by omega)
  have hneg:0-s<0:=by grind
  rw[if_neg (by grind),if_pos hneg,if_pos (decide_eq_true hneg)]
  unfold sgn
  rw[if_neg (by omega),if_pos hz']
  refine⟨rfl,?_⟩
  congr 1
  grind
 ·rw[if_neg hz,turn_F,iQ,fK]
  have hz':¬ z<0:=fun q=>hz (i2.mpr q)
  have hnn:¬ s<0:=Rat.not_lt.mpr g0
  rw[if_neg (show ¬ decide (s<0)=true by simpa using hnn)]
  refine⟨?_,rfl⟩
  unfold sgn
  by_cases hzz:z=0
  ·rw[if_neg (by rw[g2 hzz]; decide),if_neg hnn,if_neg (by omega),if_neg hz']
  ·rw[if_pos (g1 hzz),if_pos (by omega)]
theorem two_F{a b:Rat×Rat}(ha:¬ (a.1.num=0∧a.2.num=0))(hb:¬ (b.1.num=0∧b.2.num=0)) :
  ∃ c:Rat,0<c∧crossOf (a8 a) (a8 b)=F (c*((d5 (hd a) (hd b):Int):Rat))∧dotOf (a8 a) (a8 b)=F (c*((bU (hd a) (hd b):Int):Rat)) ∧
   over (mul (crossOf (a8 a) (a8 b)) (crossOf (a8 a) (a8 b))) (mul (speedSquare (a8 a)) (speedSquare (a8 b)))=F (Rat.divInt (d5 (hd a) (hd b)^2) (bU (hd a) (hd a)*bU (hd b) (hd b))):=by
 obtain⟨c,hc,e1,e2⟩:=hd_spec ha
 obtain⟨d,hd',f1,f2⟩:=hd_spec hb
 have hsa:=ss_pos ha
 have hsb:=ss_pos hb
 have hDa:=il ha
 have hDb:=il hb
 have hssa:=ss_hd e1 e2
 have hssb:=ss_hd f1 f2
 have ec:a.1*b.2-a.2*b.1=c*d*((d5 (hd a) (hd b):Int):Rat):=by
  unfold d5
  generalize hd a=p at *
  generalize hd b=q at *
  rw[e1,e2,f1,f2,Rat.intCast_sub,Rat.intCast_mul,Rat.intCast_mul]
  grind
 have ed:a.1*b.1+a.2*b.2=c*d*((bU (hd a) (hd b):Int):Rat):=by
  unfold bU
  generalize hd a=p at *
  generalize hd b=q at *
  rw[e1,e2,f1,f2,Rat.intCast_add,Rat.intCast_mul,Rat.intCast_mul]
  grind
 refine⟨c*d,Rat.mul_pos hc hd',?_,?_,?_⟩
 ·rw[cross_F,ec]
 ·rw[dot_F,ed]
 ·rw[cross_F,ec,rH,rH,eE,eE,kz _ _ (Rat.mul_pos hsa hsb)]
  congr 1
  have hne:ssQ a*ssQ b≠0:=by have:=Rat.mul_pos hsa hsb; grind
  refine oX hne ?_
  rw[aX,hssa,hssb,jq,Rat.intCast_mul]
  have q1:((bU (hd a) (hd a):Int):Rat)*((bU (hd b) (hd b):Int):Rat)≠0:=by
   have h1:(0:Rat)<((bU (hd a) (hd a):Int):Rat):=Rat.intCast_pos.mpr (by omega)
   have h2:(0:Rat)<((bU (hd b) (hd b):Int):Rat):=Rat.intCast_pos.mpr (by omega)
   have:=Rat.mul_pos h1 h2
   grind
  have:=Rat.div_mul_cancel (a:=((d5 (hd a) (hd b):Int):Rat)*((d5 (hd a) (hd b):Int):Rat)) q1
  generalize ((d5 (hd a) (hd b):Int):Rat)*((d5 (hd a) (hd b):Int):Rat) / (((bU (hd a) (hd a):Int):Rat)*((bU (hd b) (hd b):Int):Rat))=t at *
  generalize ((d5 (hd a) (hd b):Int):Rat)=x at *
  generalize ((bU (hd a) (hd a):Int):Rat)=y at *
  generalize ((bU (hd b) (hd b):Int):Rat)=z at *
  clear e1 e2 f1 f2 ec ed hssa hssb
  have e9:t*(c*c*y*(d*d*z))=c*d*(c*d)*(t*(y*z)):=by grind
  rw[e9,this]
  grind
theorem lt_scale{c:Rat}(hc:0<c)(x y:Rat):c*x<c*y↔x<y:=by
 have:=mS hc (y-x)
 constructor
 ·intro h
  have:=this.mp (by grind)
  grind
 ·intro h
  have:=this.mpr (by grind)
  grind
theorem turned_F{c:Rat}(hc:0<c)(z d p q:Int):(atMost (F (c*(d:Rat))) zero || less (mul (whole p) (F (c*(d:Rat)))) (mul (whole q) (if less (F (c*(z:Rat))) zero=true then sub zero (F (c*(z:Rat))) else F (c*(z:Rat))))) =
  (decide (d≤0) || decide (d*p<(z.natAbs:Int)*q)):=by
 have e1:(if less (F (c*(z:Rat))) zero=true then sub zero (F (c*(z:Rat))) else F (c*(z:Rat)))=F (c*(((z.natAbs:Nat):Int):Rat)):=by
  rw[iQ,fK,sub_F]
  by_cases h:c*(z:Rat)<0
  ·rw[if_pos (decide_eq_true h)]
   have hz:z<0:=((mT hc _).trans Rat.intCast_neg_iff).mp h
   have e:((z.natAbs:Nat):Int) = -z:=by omega
   rw[e,Rat.intCast_neg]
   congr 1
   grind
  ·rw[if_neg (by simpa using h)]
   have hz:¬ z<0:=fun g=>h (((mT hc _).trans Rat.intCast_neg_iff).mpr g)
   have e:((z.natAbs:Nat):Int)=z:=by omega
   rw[e]
 rw[e1,cq,cq,eE,eE,iQ,rg,fK]
 congr 1
 ·refine decide_eq_decide.mpr ?_
  rw[← Rat.not_lt,mS hc,Rat.intCast_pos]
  omega
 ·refine decide_eq_decide.mpr ?_
  have a1:(p:Rat)*(c*(d:Rat))=c*((d*p:Int):Rat):=by rw[Rat.intCast_mul]; grind
  have a2:(q:Rat)*(c*(((z.natAbs:Nat):Int):Rat))=c*((((z.natAbs:Nat):Int)*q:Int):Rat):=by rw[Rat.intCast_mul]; grind
  rw[a1,a2,lt_scale hc,Rat.intCast_lt_intCast]
theorem sq_mono{a b s:Nat}(h:a≤b):a*a*s≤b*b*s:=Nat.mul_le_mul_right _ (Nat.mul_le_mul h h)
theorem lY(s k:Nat):∀ (f lo hi:Nat),lo≤hi→hi-lo<2^f→k≤hi*hi*s→(∀ m,m<lo→1≤m→m*m*s<k) →
  lo≤rootUp s k f lo hi∧k≤rootUp s k f lo hi*rootUp s k f lo hi*s∧∀ m,m<rootUp s k f lo hi→1≤m→m*m*s<k
 | 0,lo,hi,h1,h2,h3,h4=>by
  unfold rootUp
  have:hi=lo:=by rw[Nat.pow_zero] at h2; omega
  subst this
  exact⟨Nat.le_refl _,h3,h4⟩
 | f+1,lo,hi,h1,h2,h3,h4=>by
  unfold rootUp
  rw[Nat.pow_succ] at h2
  by_cases hl:hi≤lo
  ·rw[if_pos hl]
   have:hi=lo:=by omega
   subst this
   exact⟨Nat.le_refl _,h3,h4⟩
  ·rw[if_neg hl]
   show lo≤(if k≤(lo+hi) / 2*((lo+hi) / 2)*s then rootUp s k f lo ((lo+hi) / 2) else rootUp s k f ((lo+hi) / 2+1) hi)∧_
   by_cases hm:k≤(lo+hi) / 2*((lo+hi) / 2)*s
   ·rw[if_pos hm]
    have:=lY s k f lo ((lo+hi) / 2) (by omega) (by omega) hm h4
    exact this
   ·rw[if_neg hm]
    have:=lY s k f ((lo+hi) / 2+1) hi (by omega) (by omega) h3 fun m hm2 _=>Nat.lt_of_le_of_lt (sq_mono (show m≤(lo+hi) / 2 by omega)) (by omega)
    exact⟨by omega,this.2⟩
theorem rootUp_eq{S:Int}{d a b:Nat}(hS:1≤S)(hd2:d≤100000)(hab:b=a+1)(hb:(d:Int)*d≤(b:Int)*b*S)(ha:a=0∨(a:Int)*a*S<(d:Int)*d):rootUp S.toNat (d*d) 40 1 (d+1)=b:=by
 obtain⟨s,hs⟩:=Int.eq_ofNat_of_zero_le (show 0≤S by omega)
 subst hs
 rw[Int.toNat_natCast]
 have hb':d*d≤b*b*s:=by
  have:((d*d:Nat):Int)≤((b*b*s:Nat):Int):=by rw[Int.natCast_mul,Int.natCast_mul,Int.natCast_mul]; exact hb
  omega
 have ha':a=0∨a*a*s<d*d:=by
  rcases ha with g | g
  ·exact .inl g
  ·refine .inr ?_
   have:((a*a*s:Nat):Int)<((d*d:Nat):Int):=by rw[Int.natCast_mul,Int.natCast_mul,Int.natCast_mul]; exact g
   omega
 have h0:d*d≤(d+1)*(d+1)*s:=by
  have h1:d*d≤(d+1)*(d+1):=Nat.mul_le_mul (by omega) (by omega)
  exact Nat.le_trans h1 (Nat.le_mul_of_pos_right _ (by omega))
 have hp:d+1-1<2^40:=Nat.lt_of_le_of_lt (show d+1-1≤100000 by omega) (by decide)
 obtain⟨r1,r2,r3⟩:=lY s (d*d) 40 1 (d+1) (by omega) hp h0 fun m hm h1=>by omega
 generalize rootUp s (d*d) 40 1 (d+1)=r at *
 rcases Nat.lt_trichotomy b r with g | g | g
 ·have:=r3 b g (by omega)
  omega
 ·exact g.symm
 ·exfalso
  rcases ha' with h | h
  ·omega
  ·have:=sq_mono (s:=s) (show r≤a by omega)
   omega
end WM
namespace WM
open Vbreal
def oY(f:Seen→Int):List Seen→Nat→Nat→Rat
 | s::v::r,a,b =>
  (if max s.t a<min v.t b then(((min v.t b-max s.t a:Nat):Rat) / 2)*(fX (f s) (f v) s.t v.t ((max s.t a:Nat):Rat)+fX (f s) (f v) s.t v.t ((min v.t b:Nat):Rat)) else 0)+oY f (v::r) a b
 | _,_,_=>0
theorem areaOf_F(f:Seen→Int)(a b:Nat):∀ l:List Seen,cP l→areaOf f l a b=F (oY f l a b)
 | [],_=>rfl
 | [s],_=>rfl
 | s::v::r,h=>by
  have hsv:s.t<v.t:=(List.pairwise_cons.mp h).1 v List.mem_cons_self
  have ih:=areaOf_F f a b (v::r) (List.pairwise_cons.mp h).2
  unfold areaOf oY
  rw[ih]
  show add (if max s.t a<min v.t b then mul (frac (min v.t b-max s.t a:Nat) 2) (add (evenly (f s) (f v) s.t v.t (F ((max s.t a:Nat):Rat))) (evenly (f s) (f v) s.t v.t (F ((min v.t b:Nat):Rat)))) else F 0) (F (oY f (v::r) a b))=_
  by_cases hx:max s.t a<min v.t b
  ·rw[if_pos hx,if_pos hx,gG _ _ hsv,gG _ _ hsv,mP,frac_nat_F _ _ (by decide),eE,mP]
   congr 3
   rw[Rat.mkRat_eq_div]
   rfl
  ·rw[if_neg hx,if_neg hx,mP]
def segQ(W:Nat→Rat)(p q:Nat):Rat:=((q:Rat)-p) / 2*(W p+W q)
def chainQ(W:Nat→Rat):Nat→List Nat→Nat→Rat
 | p,[],b=>segQ W p b
 | p,m::ms,b=>segQ W p m+chainQ W m ms b
def iX(a b:Nat)(l:List Seen):List Nat:=(l.filter fun z=>decide (a<z.t)&&decide (z.t<b)).map fun z=>z.t
theorem area_late(f:Seen→Int)(a b:Nat):∀ l:List Seen,(∀ z∈l,b≤z.t)→oY f l a b=0
 | [],_=>rfl
 | [s],_=>rfl
 | s::v::r,h=>by
  unfold oY
  have h1:=h s List.mem_cons_self
  have h2:=h v (List.mem_cons_of_mem _ List.mem_cons_self)
  rw[if_neg (by omega),area_late f a b (v::r) fun z hz=>h z (List.mem_cons_of_mem _ hz),Rat.add_zero]
theorem area_from(f:Seen→Int){a p:Nat}(b:Nat)(hap:a≤p):∀ l:List Seen,(∀ z∈l,p≤z.t)→oY f l a b=oY f l p b
 | [],_=>rfl
 | [s],_=>rfl
 | s::v::r,h=>by
  unfold oY
  have h1:=h s List.mem_cons_self
  rw[Nat.max_eq_left (show a≤s.t by omega),Nat.max_eq_left (show p≤s.t by omega),area_from f b hap (v::r) fun z hz=>h z (List.mem_cons_of_mem _ hz)]
theorem mids_late(a b:Nat)(l:List Seen)(h:∀ z∈l,b≤z.t):iX a b l=[]:=by
 unfold iX
 rw[List.filter_eq_nil_iff.mpr ?_]
 ·rfl
 ·intro z hz
  have:=h z hz
  simp
  omega
theorem mids_cons(a b:Nat)(z:Seen)(l:List Seen):iX a b (z::l)=if a<z.t∧z.t<b then z.t::iX a b l else iX a b l:=by
 unfold iX
 rw[List.filter_cons]
 by_cases h:a<z.t∧z.t<b
 ·rw[if_pos h,if_pos (by simpa using h)]
  rfl
 ·rw[if_neg h,if_neg (by simpa using h)]
theorem pM{a b:Nat}(h:a≤b):((b-a:Nat):Rat)=(b:Rat)-a:=by
 have:((b-a:Nat):Rat)+(a:Rat)=(b:Rat):=by rw[← Rat.natCast_add]; congr 1; omega
 grind
structure Tells (f:Seen→Int) (W:Nat→Rat) (l:List Seen):Prop where
 at_:∀ (pre:List Seen) (s v:Seen) (r:List Seen),l=pre++s::v::r→∀ m:Nat,s.t≤m→m≤v.t→W m=fX (f s) (f v) s.t v.t (m:Rat)
theorem Tells.tail{f:Seen→Int}{W:Nat→Rat}{s:Seen}{l:List Seen}(h:Tells f W (s::l)):Tells f W l :=
 ⟨fun pre s' v r e m h1 h2=>h.at_ (s::pre) s' v r (by rw[e]; rfl) m h1 h2⟩
theorem oZ{f:Seen→Int}{W:Nat→Rat}{a b:Nat}:∀ (r:List Seen) (s:Seen) (p:Nat),cP (s::r)→Tells f W (s::r)→s.t≤p→a≤p→(p=a∨p=s.t)→p<b→(∃ z∈s::r,b≤z.t) →
  chainQ W p (iX a b r) b=oY f (s::r) p b
 | [],s,p,_,_,h1,_,_,h3,h4=>by
  obtain⟨z,hz,hb⟩:=h4
  rw[List.mem_singleton] at hz
  subst hz
  omega
 | v::r,s,p,hr,hT,h1,h2,hpa,h3,h4=>by
  have hsv:s.t<v.t:=(List.pairwise_cons.mp hr).1 v List.mem_cons_self
  have hvr:cP (v::r):=(List.pairwise_cons.mp hr).2
  have hlate:∀ z∈v::r,v.t≤z.t:=fun z hz=>by
   rcases List.mem_cons.mp hz with e | e
   ·rw[e]; exact Nat.le_refl _
   ·exact Nat.le_of_lt ((List.pairwise_cons.mp hvr).1 z e)
  have h4':∃ z∈v::r,b≤z.t:=by
   obtain⟨z,hz,hb⟩:=h4
   rcases List.mem_cons.mp hz with e | e
   ·exact⟨v,List.mem_cons_self,by rw[e] at hb; omega⟩
   ·exact⟨z,e,hb⟩
  have hE:=hT.at_ [] s v r rfl
  unfold oY
  rw[Nat.max_eq_right h1]
  by_cases hvb:b≤v.t
  ·have hz:∀ z∈v::r,b≤z.t:=fun z hz=>Nat.le_trans hvb (hlate z hz)
   rw[mids_late a b _ hz,area_late f p b _ hz,Nat.min_eq_right hvb,if_pos h3,Rat.add_zero,← hE p h1 (by omega),← hE b (by omega) hvb,pM (by omega)]
   rfl
  ·rw[Nat.min_eq_left (by omega),mids_cons]
   by_cases hvp:v.t≤p
   ·have hpa':p=a:=by omega
    rw[if_neg (by omega),if_neg (by omega),Rat.zero_add]
    exact oZ r v p hvr hT.tail hvp h2 (.inl hpa') h3 h4'
   ·rw[if_pos (by omega),if_pos (by omega)]
    show segQ W p v.t+chainQ W v.t (iX a b r) b=_
    rw[oZ r v v.t hvr hT.tail (Nat.le_refl _) (by omega) (.inr rfl) (by omega) h4',← hE p h1 (by omega),← hE v.t (by omega) (Nat.le_refl _),pM (by omega),area_from f b (show p≤v.t by omega) (v::r) hlate]
    rfl
theorem windGo_some(m:Rat)(o:Seen):∀ l:List Seen,(cO m (some o) l).isSome=true↔∃ z∈l,m≤(z.t:Rat)
 | []=>by simp[cO]
 | z::r=>by
  have ih:=windGo_some m z r
  unfold cO
  by_cases h1:m=(z.t:Rat)
  ·rw[if_pos ((cS _ _).mpr h1)]
   exact⟨fun _=>⟨z,List.mem_cons_self,by rw[h1]; exact Rat.le_refl⟩,fun _=>rfl⟩
  ·rw[if_neg (fun g=>h1 ((cS _ _).mp g))]
   by_cases h2:m<(z.t:Rat)
   ·rw[if_pos ((df _ _).mpr h2)]
    exact⟨fun _=>⟨z,List.mem_cons_self,Rat.le_of_lt h2⟩,fun _=>rfl⟩
   ·rw[if_neg (fun g=>h2 ((df _ _).mp g)),ih]
    constructor
    ·rintro⟨y,hy,e⟩
     exact⟨y,List.mem_cons_of_mem _ hy,e⟩
    ·rintro⟨y,hy,e⟩
     rcases List.mem_cons.mp hy with g | g
     ·rw[g] at e
      exact absurd e (by grind)
     ·exact⟨y,g,e⟩
theorem windS_some(s:Seen)(r:List Seen)(m:Rat):(bL (s::r) m).isSome=true↔(s.t:Rat)≤m∧∃ z∈s::r,m≤(z.t:Rat):=by
 unfold bL cO
 by_cases h1:m=(s.t:Rat)
 ·rw[if_pos ((cS _ _).mpr h1)]
  exact⟨fun _=>⟨by rw[h1]; exact Rat.le_refl,s,List.mem_cons_self,by rw[h1]; exact Rat.le_refl⟩,fun _=>rfl⟩
 ·rw[if_neg (fun g=>h1 ((cS _ _).mp g))]
  by_cases h2:m<(s.t:Rat)
  ·rw[if_pos ((df _ _).mpr h2)]
   constructor
   ·intro g; cases g
   ·rintro⟨g,_⟩
    exact absurd g (by grind)
  ·rw[if_neg (fun g=>h2 ((df _ _).mp g)),windGo_some]
   constructor
   ·rintro⟨y,hy,e⟩
    exact⟨by grind,y,List.mem_cons_of_mem _ hy,e⟩
   ·rintro⟨_,y,hy,e⟩
    rcases List.mem_cons.mp hy with g | g
    ·rw[g] at e
     exact absurd e (by grind)
    ·exact⟨y,g,e⟩
theorem f6{a b:Nat}:(a:Rat)≤(b:Rat)↔a≤b:=Rat.natCast_le_natCast
theorem m7{l:List Seen}{a b m:Nat}(ha:(bL l (a:Rat)).isSome=true)(hb:(bL l (b:Rat)).isSome=true)(h1:a≤m)(h2:m≤b):(bL l (m:Rat)).isSome=true:=by
 cases l with
 | nil=>cases ha
 | cons s r =>
  rw[windS_some] at *
  obtain⟨z,hz,e⟩:=hb.2
  have e:=f6.mp e
  exact⟨f6.mpr (Nat.le_trans (f6.mp ha.1) h1),z,hz,f6.mpr (by omega)⟩
theorem windS_drop{s v:Seen}{r:List Seen}(hsv:s.t<v.t){m:Nat}(h:v.t≤m):bL (s::v::r) (m:Rat)=bL (v::r) (m:Rat):=by
 have a1:¬ (m:Rat)=(s.t:Rat):=fun g=>by
  have:=Rat.natCast_inj.mp g
  omega
 have a2:¬ (m:Rat)<(s.t:Rat):=fun g=>by
  have:=Rat.natCast_lt_natCast.mp g
  omega
 unfold bL
 rw[cO,if_neg (fun g=>a1 ((cS _ _).mp g)),if_neg (fun g=>a2 ((df _ _).mp g))]
 unfold cO
 have a3:¬ (m:Rat)<(v.t:Rat):=fun g=>by
  have:=Rat.natCast_lt_natCast.mp g
  omega
 rw[if_neg (fun g=>a3 ((df _ _).mp g)),if_neg (fun g=>a3 ((df _ _).mp g))]
theorem windS_pair{s v:Seen}{r:List Seen}(hsv:s.t<v.t){m:Nat}(h1:s.t≤m)(h2:m≤v.t):bL (s::v::r) (m:Rat)=some (fX s.e v.e s.t v.t (m:Rat),fX s.n v.n s.t v.t (m:Rat)):=by
 have i1:∀ a b:Nat,((a:Rat)=(b:Rat))↔a=b:=fun a b=>Rat.natCast_inj
 have i2:∀ a b:Nat,((a:Rat)<(b:Rat))↔a<b:=fun a b=>Rat.natCast_lt_natCast
 unfold bL cO
 by_cases g1:m=s.t
 ·subst g1
  rw[if_pos ((cS _ _).mpr rfl),jF,jF]
 ·rw[if_neg (fun g=>g1 ((i1 _ _).mp ((cS _ _).mp g))),if_neg (fun g=>absurd ((i2 _ _).mp ((df _ _).mp g)) (by omega))]
  unfold cO
  by_cases g2:m=v.t
  ·subst g2
   rw[if_pos ((cS _ _).mpr rfl),iG _ _ hsv,iG _ _ hsv]
  ·rw[if_neg (fun g=>g2 ((i1 _ _).mp ((cS _ _).mp g))),if_pos ((df _ _).mpr ((i2 _ _).mpr (by omega)))]
   dsimp only
   rw[dR _ _ hsv,dR _ _ hsv]
theorem rl:∀ (pre:List Seen) {s v:Seen} {r:List Seen},cP (pre++s::v::r)→∀ {m:Nat},s.t≤m→m≤v.t→bL (pre++s::v::r) (m:Rat)=some (fX s.e v.e s.t v.t (m:Rat),fX s.n v.n s.t v.t (m:Rat))
 | [],s,v,r,h,m,h1,h2=>windS_pair ((List.pairwise_cons.mp h).1 v List.mem_cons_self) h1 h2
 | [x],s,v,r,h,m,h1,h2=>by
  have hxs:x.t<s.t:=(List.pairwise_cons.mp h).1 s List.mem_cons_self
  rw[List.singleton_append,windS_drop hxs h1]
  exact rl [] (List.pairwise_cons.mp h).2 h1 h2
 | x::y::pre,s,v,r,h,m,h1,h2=>by
  have hxy:x.t<y.t:=(List.pairwise_cons.mp h).1 y List.mem_cons_self
  have hys:y.t<s.t:=(List.pairwise_cons.mp (List.pairwise_cons.mp h).2).1 s (List.mem_append_right _ List.mem_cons_self)
  have:=rl (y::pre) (List.pairwise_cons.mp h).2 h1 h2
  rw[List.cons_append,List.cons_append,windS_drop hxy (by omega)]
  exact this
def Wc(l:List Seen)(k:Rat×Rat→Rat)(m:Nat):Rat:=((bL l (m:Rat)).map k).getD 0
theorem tells_e{l:List Seen}(h:cP l):Tells (fun z=>z.e) (Wc l (·.1)) l:=⟨fun pre s v r e m h1 h2=>by
 subst e
 unfold Wc
 rw[rl pre h h1 h2]
 rfl⟩
theorem tells_n{l:List Seen}(h:cP l):Tells (fun z=>z.n) (Wc l (·.2)) l:=⟨fun pre s v r e m h1 h2=>by
 subst e
 unfold Wc
 rw[rl pre h h1 h2]
 rfl⟩
def eO(W:Nat→Rat)(d:Int):List Nat→Rat
 | p::q::r=>Rat.divInt ((q:Int)-p) (2*d)*(W p+W q)+eO W d (q::r)
 | _=>0
theorem mean_chain(W:Nat→Rat){d:Int}(hd:0<d)(b:Nat):∀ (ms:List Nat) (p:Nat),eO W d (p::(ms++[b]))*(d:Rat)=chainQ W p ms b:=by
 have key:∀ p q:Nat,Rat.divInt ((q:Int)-p) (2*d)*(W p+W q)*(d:Rat)=segQ W p q:=fun p q=>by
  unfold segQ
  rw[aX,Rat.intCast_sub,Rat.intCast_mul,Rat.intCast_natCast,Rat.intCast_natCast]
  have hdq:(d:Rat)≠0:=fun g=>by have:=Rat.intCast_eq_zero_iff.mp g; omega
  have h2:((2:Int):Rat)=2:=rfl
  rw[h2]
  have hne:(2:Rat)*(d:Rat)≠0:=fun g=>by
   rcases Rat.mul_eq_zero.mp g with q | q
   ·exact absurd q (by decide)
   ·exact hdq q
  have e1:=Rat.div_mul_cancel (a:=(q:Rat)-p) hne
  have e2:=Rat.div_mul_cancel (a:=(q:Rat)-p) (show(2:Rat)≠0 by decide)
  generalize ((q:Rat)-p) / (2*(d:Rat))=t at *
  generalize ((q:Rat)-p) / 2=u at *
  generalize W p+W q=w at *
  have:t*(d:Rat)=u:=by grind
  rw[Rat.mul_assoc,Rat.mul_comm w,← Rat.mul_assoc,this]
 intro ms
 induction ms with
 | nil =>
  intro p
  show(Rat.divInt ((b:Int)-p) (2*d)*(W p+W b)+0)*(d:Rat)=segQ W p b
  rw[Rat.add_zero,key]
 | cons m ms ih =>
  intro p
  show(Rat.divInt ((m:Int)-p) (2*d)*(W p+W m)+eO W d (m::(ms++[b])))*(d:Rat)=segQ W p m+chainQ W m ms b
  rw[Rat.add_mul,key,ih]
theorem mean_F{f:Seen→Int}{W:Nat→Rat}{l:List Seen}(hr:cP l)(hT:Tells f W l){a b:Nat}(hab:a<b)(ha:(bL l (a:Rat)).isSome=true)(hb:(bL l (b:Rat)).isSome=true) :
  over (areaOf f l a b) (whole ((b:Int)-a))=F (eO W ((b:Int)-a) (a::(iX a b l++[b]))):=by
 cases l with
 | nil=>cases ha
 | cons s r =>
  rw[windS_some,f6] at ha hb
  obtain⟨z,hz,hbz⟩:=hb.2
  rw[f6] at hbz
  have hm:iX a b (s::r)=iX a b r:=by rw[mids_cons,if_neg (by omega)]
  have hd:0<(b:Int)-a:=by omega
  have h1:=oZ (a:=a) (b:=b) r s a hr hT ha.1 (Nat.le_refl _) (.inl rfl) hab ⟨z,hz,hbz⟩
  have h2:=mean_chain W hd b (iX a b r) a
  rw[areaOf_F f a b _ hr,cq,kz _ _ (Rat.intCast_pos.mpr hd),hm]
  congr 1
  refine oX (fun g=>by have:=Rat.intCast_eq_zero_iff.mp g; omega) ?_
  rw[h2,h1]
def spkW(m:Rat):Nat→List Station→List (Nat×Rat)
 | _,[]=>[]
 | i,s::r=>match bL s.seen m with
  | none=>spkW m (i+1) r
  | some w=>(i+1,ssQ w)::spkW m (i+1) r
def gI(o:Option (Nat×Rat))(x:Nat×Rat):Option (Nat×Rat):=match o with
 | none=>some x
 | some y=>if y.2<x.2 then some x else some y
theorem spkW_F(m:Rat):∀ (l:List Station) (i:Nat),(∀ s∈l,cP s.seen) →
  (((List.range' i l.length).zip l).filterMap fun p=>(windOf p.2.seen (F m)).map fun w=>(p.1+1,speedSquare w))=(spkW m i l).map fun x=>(x.1,F x.2)
 | [],i,_=>rfl
 | s::r,i,h=>by
  rw[List.length_cons,List.range'_succ,List.zip_cons_cons]
  have ih:=spkW_F m r (i+1) fun z hz=>h z (List.mem_cons_of_mem _ hz)
  have e:=windS_F s.seen m (h s List.mem_cons_self)
  unfold spkW
  cases hw:bL s.seen m with
  | none =>
   rw[hw] at e
   have e:none=windOf s.seen (F m):=e
   rw[List.filterMap_cons_none (by rw[← e]; rfl)]
   exact ih
  | some w =>
   rw[hw] at e
   have e:some (a8 w)=windOf s.seen (F m):=e
   rw[List.filterMap_cons_some (b:=(i+1,speedSquare (a8 w))) (by rw[← e]; rfl),ih,rH]
   rfl
theorem fold_F:∀ (L:List (Nat×Rat)) (o:Option (Nat×Rat)),(L.map fun x=>(x.1,F x.2)).foldl (fun(m:Option (Nat×Frac)) x=>match m with
    | none=>some x
    | some y=>if less y.2 x.2=true then some x else some y) (o.map fun x=>(x.1,F x.2))=(L.foldl gI o).map fun x=>(x.1,F x.2)
 | [],o=>rfl
 | x::r,o=>by
  rw[List.map_cons,List.foldl_cons,List.foldl_cons,← fold_F r (gI o x)]
  congr 1
  cases o with
  | none=>rfl
  | some y =>
   show(if less (F y.2) (F x.2)=true then _ else _)=Option.map _ (if y.2<x.2 then some x else some y)
   rw[fK]
   by_cases h:y.2<x.2
   ·rw[if_pos (decide_eq_true h),if_pos h]; rfl
   ·rw[if_neg (by simpa using h),if_neg h]; rfl
end WM
namespace WM
def SIZ:List Nat:=[0,0,4,3,1,0,5,1,6,4,5,4,6,1,3,5,0]
def ROWS:List Nat:=[0,5,7,15]
structure Cut (cs:List Int) (i num:Nat) (args row:List Int) (b:Nat):Prop where
 hd:cs[i]? = some (num:Int)
 cut:∃ n,SIZ[num]? = some n∧args=(cs.drop (i+1)).take n∧i+1+n≤cs.length ∧
  ((num∉ROWS∧row=[]∧b=i+1+n)∨(num∈ROWS∧∃ m:Nat,cs[i+1+n]? = some (m:Int)∧row=(cs.drop (i+1+n+1)).take m∧b=i+1+n+1+m))
 le:b≤cs.length
def rowed(num:Nat)(args row:List Int):List (List Int):=if num∈ROWS then [(num:Int)::args,row] else [(num:Int)::args]
theorem shape_some{p:Int}{n k:Nat}(h:PyVbreal.shape p=some (n,k)):∃ num:Nat,p=(num:Int)∧SIZ[num]? = some n∧((num∉ROWS∧k=0)∨(num∈ROWS∧k=1)):=by
 have key:0≤p∧p≤16:=by
  unfold PyVbreal.shape at h
  by_cases hp:0≤p∧p≤16
  ·exact hp
  ·repeat (first | (rw[if_neg (by omega)] at h) | cases h)
 obtain⟨num,rfl⟩:∃ num:Nat,p=(num:Int):=⟨p.toNat,by omega⟩
 refine⟨num,rfl,?_⟩
 have hn:num≤16:=by omega
 have dec:∀ m:Nat,m<17→∀ x,x=PyVbreal.shape (m:Int)→x.all (fun x=>decide (SIZ[m]? = some x.1∧((m∉ROWS∧x.2=0)∨(m∈ROWS∧x.2=1))))=true:=by
  have d2:∀ m:Nat,m<17→(PyVbreal.shape (m:Int)).all (fun x=>decide (SIZ[m]? = some x.1∧((m∉ROWS∧x.2=0)∨(m∈ROWS∧x.2=1))))=true:=by decide
  intro m hm x hx
  rw[hx]
  exact d2 m hm
 have:=dec num (by omega) _ h.symm
 simpa using this
theorem rows0{r:List Int}{xs:List (List Int)}{t:List Int}(h:PyFlat.rows 0 r=some (xs,t)):xs=[]∧t=r:=by
 cases h; exact⟨rfl,rfl⟩
theorem rows1{r:List Int}{xs:List (List Int)}{t:List Int}(h:PyFlat.rows 1 r=some (xs,t)):∃ (m:Nat) (r':List Int),r=(m:Int)::r'∧m≤r'.length∧xs=[r'.take m]∧t=r'.drop m:=by
 cases r with
 | nil=>cases h
 | cons n r' =>
  have e:PyFlat.rows 1 (n::r')=match PyFlat.row (n::r') with
   | none=>none
   | some (x,s)=>some ([x],s):=rfl
  rw[e] at h
  by_cases g:0≤n∧n.toNat≤r'.length
  ·have e2:PyFlat.row (n::r')=some (r'.take n.toNat,r'.drop n.toNat):=if_pos g
   rw[e2] at h
   cases h
   exact⟨n.toNat,r',by congr 1; omega,g.2,rfl,rfl⟩
  ·have e2:PyFlat.row (n::r')=none:=if_neg g
   rw[e2] at h
   cases h
theorem parse{f:Nat}{cs:List Int}{i:Nat}{cl:List (List (List Int))}(h:PyFlat.calls PyVbreal.shape f (cs.drop i)=some cl)(hi:i<cs.length) :
  ∃ (num:Nat) (args row:List Int) (b:Nat) (cl':List (List (List Int))) (f':Nat),Cut cs i num args row b∧PyFlat.calls PyVbreal.shape f' (cs.drop b)=some cl'∧cl=rowed num args row::cl'∧i<b:=by
 have hd:=List.getElem?_eq_getElem hi
 rw[List.drop_eq_getElem_cons hi] at h
 generalize cs[i]=p at *
 cases f with
 | zero=>cases h
 | succ f =>
  unfold PyFlat.calls at h
  cases hc:PyFlat.call PyVbreal.shape (p::cs.drop (i+1)) with
  | none=>rw[hc] at h; cases h
  | some x =>
   obtain⟨c,t⟩:=x
   rw[hc] at h
   dsimp only at h
   cases hr:PyFlat.calls PyVbreal.shape f t with
   | none=>rw[hr] at h; cases h
   | some cl' =>
    rw[hr] at h
    cases h
    unfold PyFlat.call at hc
    dsimp only at hc
    cases hs:PyVbreal.shape p with
    | none=>rw[hs] at hc; cases hc
    | some y =>
     obtain⟨n,k⟩:=y
     rw[hs] at hc
     dsimp only at hc
     obtain⟨num,rfl,hn,hk⟩:=shape_some hs
     have hlen:(cs.drop (i+1)).length=cs.length-(i+1):=List.length_drop ..
     by_cases g:(cs.drop (i+1)).length<n
     ·rw[if_pos g] at hc; cases hc
     ·rw[if_neg g] at hc
      have hle:i+1+n≤cs.length:=by omega
      have hdd:(cs.drop (i+1)).drop n=cs.drop (i+1+n):=by rw[List.drop_drop]
      rw[hdd] at hc
      cases hrw:PyFlat.rows k (cs.drop (i+1+n)) with
      | none=>rw[hrw] at hc; cases hc
      | some z =>
       obtain⟨xs,t'⟩:=z
       rw[hrw] at hc
       cases hc
       rcases hk with⟨hk1,rfl⟩ | ⟨hk1,rfl⟩
       ·obtain⟨rfl,rfl⟩:=rows0 hrw
        refine⟨num,(cs.drop (i+1)).take n,[],i+1+n,cl',f,⟨hd,⟨n,hn,rfl,hle,.inl ⟨hk1,rfl,rfl⟩⟩,hle⟩,hr,?_,by omega⟩
        unfold rowed
        rw[if_neg hk1]
       ·obtain⟨m,r',e,hm,rfl,rfl⟩:=rows1 hrw
        have hlt:i+1+n<cs.length:=by
         have:=congrArg List.length e
         rw[List.length_drop,List.length_cons] at this
         omega
        rw[List.drop_eq_getElem_cons hlt] at e
        obtain⟨e1,rfl⟩:=List.cons.inj e
        rw[List.length_drop] at hm
        refine⟨num,(cs.drop (i+1)).take n,(cs.drop (i+1+n+1)).take m,i+1+n+1+m,cl',f,⟨hd,⟨n,hn,rfl,hle,.inr ⟨hk1,m,by rw[List.getElem?_eq_getElem hlt,e1],rfl,rfl⟩⟩,by omega⟩,by rw[List.drop_drop] at hr; exact hr,?_,by omega⟩
        unfold rowed
        rw[if_pos hk1]
inductive eB:Nat→List Int→List Int→Vbreal.Call→Prop
 | load (r:List Int):(∀ z∈r,0≤z)→r.length≤5000→eB 0 [] r (.load (VbrealNeutral.nats r))
 | print:eB 1 [] [] .print
 | observe (i t e n:Int):eB 2 [i,t,e,n] [] (.observe i t e n)
 | wind (x y t:Int):eB 3 [x,y,t] [] (.wind x y t)
 | speak (t:Int):eB 4 [t] [] (.speak t)
 | table (r:List Int):eB 5 [] r (.table r)
 | time (x y t a b:Int):eB 6 [x,y,t,a,b] [] (.time x y t a b)
 | course (t:Int) (r:List Int):eB 7 [t] r (.course t r)
 | set (x y t a b k:Int):eB 8 [x,y,t,a,b,k] [] (.set x y t a b k)
 | line (x y t k:Int):eB 9 [x,y,t,k] [] (.line x y t k)
 | bias (x y u v t:Int):eB 10 [x,y,u,v,t] [] (.bias x y u v t)
 | shift (x y t s:Int):eB 11 [x,y,t,s] [] (.shift x y t s)
 | turned (x y t s p q:Int):eB 12 [x,y,t,s,p,q] [] (.turned x y t s p q)
 | strongest (t:Int):eB 13 [t] [] (.strongest t)
 | mean (i t s:Int):eB 14 [i,t,s] [] (.mean i t s)
 | between (x y t a b:Int) (r:List Int):eB 15 [x,y,t,a,b] r (.between x y t a b r)
 | stations:eB 16 [] [] .stations
theorem list_len{l:List Int}:∀ {n:Nat},l.length=n→match n with
  | 0=>l=[]
  | 1=>∃ a,l=[a]
  | 3=>∃ a b c,l=[a,b,c]
  | 4=>∃ a b c d,l=[a,b,c,d]
  | 5=>∃ a b c d e,l=[a,b,c,d,e]
  | 6=>∃ a b c d e f,l=[a,b,c,d,e,f]
  | _=>True:=by
 intro n h
 match n,l,h with
 | 0,[],_=>rfl
 | 1,[a],_=>exact⟨a,rfl⟩
 | 2,_,_=>trivial
 | 3,[a,b,c],_=>exact⟨a,b,c,rfl⟩
 | 4,[a,b,c,d],_=>exact⟨a,b,c,d,rfl⟩
 | 5,[a,b,c,d,e],_=>exact⟨a,b,c,d,e,rfl⟩
 | 6,[a,b,c,d,e,f],_=>exact⟨a,b,c,d,e,f,rfl⟩
 | n+7,_,_=>trivial
theorem call_is{cs:List Int}{i num:Nat}{args row:List Int}{b:Nat}(C:Cut cs i num args row b)(ha:VbrealNeutral.asked1 (PyVbreal.whole (rowed num args row))=true) :
  ∃ c,eB num args row c∧VbrealNeutral.callOf (PyVbreal.whole (rowed num args row))=some c:=by
 obtain⟨n,hn,he,hle,hc⟩:=C.cut
 have hlen:args.length=n:=by rw[he,List.length_take,List.length_drop]; omega
 have hrow:num∉ROWS→row=[]:=fun g=>by
  rcases hc with⟨_,h,_⟩ | ⟨h,_⟩
  ·exact h
  ·exact absurd h g
 clear hc he hle C
 have hnum:num<17:=by
  have:=(List.getElem?_eq_some_iff.mp hn).1
  exact this
 have L:=list_len hlen
 rcases num with _ | _ | _ | _ | _ | _ | _ | _ | _ | _ | _ | _ | _ | _ | _ | _ | _ | num
 ·cases hn; cases L
  refine⟨_,.load row ?_ ?_,rfl⟩
  ·intro z hz
   have h2:(row.all (fun(z:Int)=>VbrealNeutral.natural z 8)&&decide (row.length≤5000))=true:=ha
   rw[Bool.and_eq_true,List.all_eq_true] at h2
   have:=h2.1 z hz
   unfold VbrealNeutral.natural at this
   rw[Bool.and_eq_true,decide_eq_true_iff] at this
   exact this.1
  ·have h2:(row.all (fun(z:Int)=>VbrealNeutral.natural z 8)&&decide (row.length≤5000))=true:=ha
   rw[Bool.and_eq_true,decide_eq_true_iff] at h2
   exact h2.2
 ·cases hn; cases L; cases hrow (by decide); exact⟨_,.print,rfl⟩
 ·cases hn; obtain⟨a,b,c,d,rfl⟩:=L; cases hrow (by decide); exact⟨_,.observe ..,rfl⟩
 ·cases hn; obtain⟨a,b,c,rfl⟩:=L; cases hrow (by decide); exact⟨_,.wind ..,rfl⟩
 ·cases hn; obtain⟨a,rfl⟩:=L; cases hrow (by decide); exact⟨_,.speak ..,rfl⟩
 ·cases hn; cases L; exact⟨_,.table ..,rfl⟩
 ·cases hn; obtain⟨a,b,c,d,e,rfl⟩:=L; cases hrow (by decide); exact⟨_,.time ..,rfl⟩
 ·cases hn; obtain⟨a,rfl⟩:=L; exact⟨_,.course ..,rfl⟩
 ·cases hn; obtain⟨a,b,c,d,e,f,rfl⟩:=L; cases hrow (by decide); exact⟨_,.set ..,rfl⟩
 ·cases hn; obtain⟨a,b,c,d,rfl⟩:=L; cases hrow (by decide); exact⟨_,.line ..,rfl⟩
 ·cases hn; obtain⟨a,b,c,d,e,rfl⟩:=L; cases hrow (by decide); exact⟨_,.bias ..,rfl⟩
 ·cases hn; obtain⟨a,b,c,d,rfl⟩:=L; cases hrow (by decide); exact⟨_,.shift ..,rfl⟩
 ·cases hn; obtain⟨a,b,c,d,e,f,rfl⟩:=L; cases hrow (by decide); exact⟨_,.turned ..,rfl⟩
 ·cases hn; obtain⟨a,rfl⟩:=L; cases hrow (by decide); exact⟨_,.strongest ..,rfl⟩
 ·cases hn; obtain⟨a,b,c,rfl⟩:=L; cases hrow (by decide); exact⟨_,.mean ..,rfl⟩
 ·cases hn; obtain⟨a,b,c,d,e,rfl⟩:=L; exact⟨_,.between ..,rfl⟩
 ·cases hn; cases L; cases hrow (by decide); exact⟨_,.stations,rfl⟩
 ·omega
end WM
namespace WP
open PySem PySem.Spec PyProof.Rows L2
def top(i:Nat):Stmt:=PySem.Challenge.pw_windcourses_s01_answers.main.body.getD i (.Pass ⟨0,0,0,0⟩)
abbrev s_bytes_of:Stmt:=top 13
abbrev s_split_at:Stmt:=top 14
abbrev s_lines_of:Stmt:=top 15
abbrev s_words_of:Stmt:=top 16
abbrev m8:Stmt:=top 17
abbrev s_is_digit:Stmt:=top 18
abbrev kJ:Stmt:=top 19
abbrev s_is_name:Stmt:=top 20
abbrev m9:Stmt:=top 21
abbrev nc:Stmt:=top 22
abbrev ng:Stmt:=top 23
abbrev s_line_of:Stmt:=top 24
abbrev pN:Stmt:=inClass (top 26) 0
abbrev gQ:Stmt:=top 27
abbrev s_whole:Stmt:=top 28
abbrev pO:Stmt:=top 29
abbrev iq:Stmt:=top 30
abbrev jJ:Stmt:=top 31
abbrev s_is_less:Stmt:=top 32
abbrev pP:Stmt:=top 33
abbrev s_Wind_init:Stmt:=inClass (top 35) 0
abbrev s_is_calm:Stmt:=top 36
abbrev s_square_of:Stmt:=top 37
abbrev pQ:Stmt:=top 38
abbrev kK:Stmt:=top 39
abbrev kL:Stmt:=top 40
abbrev s_wind_at:Stmt:=top 41
abbrev s_speaking:Stmt:=top 42
abbrev kM:Stmt:=top 43
abbrev s_mean_wind:Stmt:=top 44
abbrev pR:Stmt:=top 58
abbrev pS:Stmt:=top 59
abbrev s_are_times:Stmt:=top 60
abbrev jK:Stmt:=top 61
abbrev pT:Stmt:=inClass (top 63) 0
abbrev kN:Stmt:=inClass (top 64) 0
abbrev s_saw_at:Stmt:=top 65
abbrev s_is_full:Stmt:=top 66
abbrev s_add_sight:Stmt:=top 67
abbrev kO:Stmt:=inClass (top 70) 0
abbrev kP:Stmt:=top 71
abbrev s_take_line:Stmt:=top 72
abbrev kQ:Stmt:=top 73
abbrev s_take_wind:Stmt:=top 74
abbrev kR:Stmt:=top 75
abbrev jL:Stmt:=top 76
abbrev jM:Stmt:=top 77
abbrev nh:Stmt:=top 78
abbrev s_way_time:Stmt:=top 80
abbrev pU:Stmt:=top 81
abbrev s_is_sooner:Stmt:=top 82
abbrev s_lesser:Stmt:=top 83
abbrev jN:Stmt:=top 84
abbrev ni:Stmt:=top 85
abbrev nj:Stmt:=top 86
abbrev iY:Stmt:=top 87
abbrev jO:Stmt:=top 88
abbrev s_across:Stmt:=top 90
abbrev s_along:Stmt:=top 91
abbrev s_sign_code:Stmt:=top 92
abbrev nk:Stmt:=top 93
abbrev gR:Stmt:=top 94
abbrev nr:Stmt:=top 95
abbrev s_port_end:Stmt:=top 96
abbrev kS:Stmt:=top 97
abbrev nt:Stmt:=top 98
abbrev s_Sea_init:Stmt:=inClass (top 110) 0
abbrev s_Call_init:Stmt:=inClass (top 111) 0
abbrev s_pairs_of:Stmt:=top 112
abbrev s_load:Stmt:=top 113
abbrev s_printed:Stmt:=top 114
abbrev pV:Stmt:=top 115
abbrev s_observe:Stmt:=top 116
abbrev pW:Stmt:=top 117
abbrev s_tell_wind:Stmt:=top 118
abbrev s_speak:Stmt:=top 119
abbrev s_is_table:Stmt:=top 120
abbrev s_lay_table:Stmt:=top 121
abbrev ir:Stmt:=top 122
abbrev s_tell_time:Stmt:=top 123
abbrev s_is_course:Stmt:=top 124
abbrev s_course:Stmt:=top 125
abbrev s_set_leg:Stmt:=top 126
abbrev pX:Stmt:=top 127
abbrev s_lay_line:Stmt:=top 128
abbrev s_bias:Stmt:=top 129
abbrev pY:Stmt:=top 130
abbrev s_shift:Stmt:=top 131
abbrev pZ:Stmt:=top 132
abbrev s_turned:Stmt:=top 133
abbrev s_strongest:Stmt:=top 134
abbrev s_mean:Stmt:=top 135
abbrev s_between:Stmt:=top 136
abbrev jP:Stmt:=top 137
abbrev s_take_call:Stmt:=top 141
abbrev s_answers:Stmt:=top 142
structure Gf (K:PySem.W.Frag) (mg:Str→Option Value) (x:Str) (st:Stmt) (ps:List Str) (f:Addr) (fd:FuncData):Prop where
 fn:Fun K x x st f fd
 bind:Binds K fd ps []
 mg:mg x=some (.ref f)
structure Gk (K:PySem.W.Frag) (mg:Str→Option Value) (x q:Str) (st:Stmt) (ps:List Str) (C f:Addr) (fd:FuncData):Prop where
 cl:Cls K C
 make:Mk K C f
 fn:Fun K "__init__" q st f fd
 bind:Binds K fd ps []
 mg:mg x=some (.ref C)
theorem ag{X:Cx}{x:Str}{st:Stmt}{ps:List Str}{f:Addr}{fd:FuncData}{j k:Nat}{sp:Sp}{e:Expr}{es:List Expr}{t:TA}{p pos:Pos}(g:Gf X.K X.mg x st ps f fd)(F:a9 X.prog X.w X.K X.mg X.base CX0 j f fd ps sp)(hr:iP k X.A)(ha:PA X (e::es) t)(hj:j≤k:=by decide)(hg:Gl X x:=by exact rfl)(hdb:(x==("__debug__" : Str))=false:=by decide)(he:starEach (e::es) X.env=(false,eval e X.env)::starEach es X.env:=by rfl)(hpl:(backTo pos (starEach es X.env)).any (·.1)=false:=by rfl) :
  PE X (.Call (.Name x p) (e::es) [] pos) (oM sp [] E0 t):=pe_call F (hr.mono hj) hg g.mg g.fn.kp g.bind .nil eA ha hdb he hpl
local macro_rules | `(tactic| walk_at "s")=>`(tactic| exact⟨rfl,rfl,rfl,by decide +kernel,rfl,by decide +kernel,by decide +kernel⟩)
set_option genInjectivity false in
set_option genSizeOfSpec false in
structure Ad where
 qS:Addr
 CWind:Addr
 kD:Addr
 eI:Addr
 eZ:Addr
 CSea:Addr
 CCall:Addr
 a_bytes_of:Addr
 d_bytes_of:FuncData
 a_split_at:Addr
 d_split_at:FuncData
 a_lines_of:Addr
 d_lines_of:FuncData
 a_words_of:Addr
 d_words_of:FuncData
 nu:Addr
 ny:FuncData
 a_is_digit:Addr
 d_is_digit:FuncData
 kT:Addr
 kU:FuncData
 a_is_name:Addr
 d_is_name:FuncData
 nz:Addr
 nA:FuncData
 nB:Addr
 nD:FuncData
 nE:Addr
 nF:FuncData
 a_line_of:Addr
 d_line_of:FuncData
 p7:Addr
 p8:FuncData
 gS:Addr
 gT:FuncData
 a_whole:Addr
 d_whole:FuncData
 p9:Addr
 qb:FuncData
 iu:Addr
 iv:FuncData
 jQ:Addr
 jR:FuncData
 a_is_less:Addr
 d_is_less:FuncData
 qc:Addr
 qd:FuncData
 a_Wind_init:Addr
 d_Wind_init:FuncData
 a_is_calm:Addr
 d_is_calm:FuncData
 a_square_of:Addr
 d_square_of:FuncData
 qe:Addr
 qf:FuncData
 kW:Addr
 kX:FuncData
 kY:Addr
 kZ:FuncData
 a_wind_at:Addr
 d_wind_at:FuncData
 a_speaking:Addr
 d_speaking:FuncData
 k3:Addr
 k4:FuncData
 a_mean_wind:Addr
 d_mean_wind:FuncData
 qg:Addr
 qh:FuncData
 qj:Addr
 qk:FuncData
 a_are_times:Addr
 d_are_times:FuncData
 jS:Addr
 jT:FuncData
 ql:Addr
 qm:FuncData
 k5:Addr
 k6:FuncData
 a_saw_at:Addr
 d_saw_at:FuncData
 a_is_full:Addr
 d_is_full:FuncData
 a_add_sight:Addr
 d_add_sight:FuncData
 k7:Addr
 k8:FuncData
 k9:Addr
 lg:FuncData
 a_take_line:Addr
 d_take_line:FuncData
 lh:Addr
 lj:FuncData
 a_take_wind:Addr
 d_take_wind:FuncData
 lp:Addr
 lq:FuncData
 jU:Addr
 jV:FuncData
 jW:Addr
 jX:FuncData
 nG:Addr
 nH:FuncData
 a_way_time:Addr
 d_way_time:FuncData
 qo:Addr
 qp:FuncData
 a_is_sooner:Addr
 d_is_sooner:FuncData
 a_lesser:Addr
 d_lesser:FuncData
 jY:Addr
 jZ:FuncData
 nI:Addr
 nJ:FuncData
 nL:Addr
 nM:FuncData
 iZ:Addr
 i3:FuncData
 j0:Addr
 j1:FuncData
 a_across:Addr
 d_across:FuncData
 a_along:Addr
 d_along:FuncData
 a_sign_code:Addr
 d_sign_code:FuncData
 nN:Addr
 nO:FuncData
 gU:Addr
 gW:FuncData
 nQ:Addr
 nR:FuncData
 a_port_end:Addr
 d_port_end:FuncData
 lr:Addr
 lu:FuncData
 nS:Addr
 nU:FuncData
 a_Sea_init:Addr
 d_Sea_init:FuncData
 a_Call_init:Addr
 d_Call_init:FuncData
 a_pairs_of:Addr
 d_pairs_of:FuncData
 a_load:Addr
 d_load:FuncData
 jb:Addr
 d_printed:FuncData
 qr:Addr
 qt:FuncData
 jc:Addr
 d_observe:FuncData
 qv:Addr
 qw:FuncData
 gf:Addr
 d_tell_wind:FuncData
 rJ:Addr
 d_speak:FuncData
 a_is_table:Addr
 d_is_table:FuncData
 gg:Addr
 d_lay_table:FuncData
 iw:Addr
 iy:FuncData
 gh:Addr
 d_tell_time:FuncData
 a_is_course:Addr
 d_is_course:FuncData
 mF:Addr
 d_course:FuncData
 jd:Addr
 d_set_leg:FuncData
 qx:Addr
 qy:FuncData
 ic:Addr
 d_lay_line:FuncData
 a_bias:Addr
 d_bias:FuncData
 qz:Addr
 qA:FuncData
 rK:Addr
 d_shift:FuncData
 qB:Addr
 qC:FuncData
 mG:Addr
 d_turned:FuncData
 gj:Addr
 d_strongest:FuncData
 a_mean:Addr
 d_mean:FuncData
 je:Addr
 d_between:FuncData
 dS:Addr
 j2:FuncData
 a_take_call:Addr
 d_take_call:FuncData
 a_answers:Addr
 d_answers:FuncData
 t_HANDLERS:Addr
 t_SIZES:Addr
 o5:Addr
structure Txt (K:PySem.W.Frag) (mg:Str→Option Value) (Z:Ad):Prop where
 aQ:Gk K mg "Ratio" "Ratio.__init__" pN ["self", "top", "bottom"] Z.qS Z.p7 Z.p8
 jr:cg K Z.qS "top"
 gv:cg K Z.qS "bottom"
 eP:Gk K mg "Wind" "Wind.__init__" s_Wind_init ["self", "east", "north"] Z.CWind Z.a_Wind_init Z.d_Wind_init
 qD:cg K Z.CWind "east"
 nV:cg K Z.CWind "north"
 eQ:Gk K mg "Sight" "Sight.__init__" pT ["self", "moment", "east", "north"] Z.kD Z.ql Z.qm
 j3:cg K Z.kD "moment"
 nW:cg K Z.kD "east"
 lx:cg K Z.kD "north"
 du:Gk K mg "Station" "Station.__init__" kN ["self", "name", "x", "y"] Z.eI Z.k5 Z.k6
 j4:cg K Z.eI "name"
 qE:cg K Z.eI "x"
 qF:cg K Z.eI "y"
 j5:cg K Z.eI "seen"
 eg:Gk K mg "Reading" "Reading.__init__" kO ["self"] Z.eZ Z.k7 Z.k8
 eJ:cg K Z.eZ "stations"
 dY:cg K Z.eZ "wrong_line"
 rn:Gk K mg "Sea" "Sea.__init__" s_Sea_init ["self"] Z.CSea Z.a_Sea_init Z.d_Sea_init
 gw:cg K Z.CSea "stations"
 js:cg K Z.CSea "table"
 fL:Gk K mg "Call" "Call.__init__" s_Call_init ["self", "number", "numbers", "row", "behind"] Z.CCall Z.a_Call_init Z.d_Call_init
 ly:cg K Z.CCall "number"
 j6:cg K Z.CCall "numbers"
 na_Call_row:cg K Z.CCall "row"
 lz:cg K Z.CCall "behind"
 dU:Gf K mg "bytes_of" s_bytes_of ["text"] Z.a_bytes_of Z.d_bytes_of
 o6:Gf K mg "split_at" s_split_at ["text", "mark"] Z.a_split_at Z.d_split_at
 f_lines_of:Gf K mg "lines_of" s_lines_of ["text"] Z.a_lines_of Z.d_lines_of
 f_words_of:Gf K mg "words_of" s_words_of ["line"] Z.a_words_of Z.d_words_of
 nX:Gf K mg "is_readable" m8 ["line"] Z.nu Z.ny
 o7:Gf K mg "is_digit" s_is_digit ["sign"] Z.a_is_digit Z.d_is_digit
 lE:Gf K mg "is_name_sign" kJ ["sign"] Z.kT Z.kU
 f_is_name:Gf K mg "is_name" s_is_name ["word"] Z.a_is_name Z.d_is_name
 iS:Gf K mg "read_number" m9 ["word"] Z.nz Z.nA
 nY:Gf K mg "read_signed" nc ["word"] Z.nB Z.nD
 d6:Gf K mg "read_within" ng ["word", "least", "most"] Z.nE Z.nF
 f_line_of:Gf K mg "line_of" s_line_of ["words"] Z.a_line_of Z.d_line_of
 eW:Gf K mg "greatest_divisor" gQ ["first", "second"] Z.gS Z.gT
 dO:Gf K mg "whole" s_whole ["number"] Z.a_whole Z.d_whole
 bY:Gf K mg "add_ratios" pO ["first", "second"] Z.p9 Z.qb
 bJ:Gf K mg "multiply_ratios" iq ["first", "second"] Z.iu Z.iv
 gx:Gf K mg "divide_ratios" jJ ["first", "second"] Z.jQ Z.jR
 f_is_less:Gf K mg "is_less" s_is_less ["first", "second"] Z.a_is_less Z.d_is_less
 cz:Gf K mg "tell_ratio" pP ["ratio"] Z.qc Z.qd
 f_is_calm:Gf K mg "is_calm" s_is_calm ["wind"] Z.a_is_calm Z.d_is_calm
 f_square_of:Gf K mg "square_of" s_square_of ["wind"] Z.a_square_of Z.d_square_of
 dQ:Gf K mg "heading_of" pQ ["wind"] Z.qe Z.qf
 cU:Gf K mg "station_wind" kK ["station", "moment"] Z.kW Z.kX
 lF:Gf K mg "wind_between" kL ["earlier", "later", "moment"] Z.kY Z.kZ
 f_wind_at:Gf K mg "wind_at" s_wind_at ["stations", "x", "y", "moment"] Z.a_wind_at Z.d_wind_at
 o8:Gf K mg "speaking" s_speaking ["stations", "moment"] Z.a_speaking Z.d_speaking
 lG:Gf K mg "strongest_at" kM ["stations", "moment"] Z.k3 Z.k4
 f_mean_wind:Gf K mg "mean_wind" s_mean_wind ["station", "start", "end"] Z.a_mean_wind Z.d_mean_wind
 cA:Gf K mg "all_within" pR ["numbers", "least", "most"] Z.qg Z.qh
 cJ:Gf K mg "are_places" pS ["numbers"] Z.qj Z.qk
 b7:Gf K mg "are_times" s_are_times ["numbers"] Z.a_are_times Z.d_are_times
 j7:Gf K mg "are_strengths" jK ["numbers"] Z.jS Z.jT
 f_saw_at:Gf K mg "saw_at" s_saw_at ["station", "moment"] Z.a_saw_at Z.d_saw_at
 f_is_full:Gf K mg "is_full" s_is_full ["station"] Z.a_is_full Z.d_is_full
 lZ:Gf K mg "add_sight" s_add_sight ["station", "sight"] Z.a_add_sight Z.d_add_sight
 lH:Gf K mg "read_weather" kP ["text"] Z.k9 Z.lg
 f_take_line:Gf K mg "take_line" s_take_line ["stations", "line"] Z.a_take_line Z.d_take_line
 lI:Gf K mg "take_station" kQ ["stations", "words"] Z.lh Z.lj
 f_take_wind:Gf K mg "take_wind" s_take_wind ["stations", "words"] Z.a_take_wind Z.d_take_wind
 lJ:Gf K mg "find_station" kR ["stations", "name"] Z.lp Z.lq
 j8:Gf K mg "write_weather" jL ["stations"] Z.jU Z.jV
 j9:Gf K mg "write_station" jM ["station"] Z.jW Z.jX
 nZ:Gf K mg "write_sight" nh ["station", "sight"] Z.nG Z.nH
 f7:Gf K mg "way_time" s_way_time ["table", "wind", "dx", "dy"] Z.a_way_time Z.d_way_time
 qG:Gf K mg "least_time" pU ["table", "along", "left"] Z.qo Z.qp
 iI:Gf K mg "is_sooner" s_is_sooner ["first", "second"] Z.a_is_sooner Z.d_is_sooner
 f_lesser:Gf K mg "lesser" s_lesser ["first", "second"] Z.a_lesser Z.d_lesser
 ka:Gf K mg "compare_times" jN ["first", "second"] Z.jY Z.jZ
 n0:Gf K mg "time_by_one" ni ["velocity", "along", "left"] Z.nI Z.nJ
 n6:Gf K mg "time_by_two" nj ["first", "second", "along", "left"] Z.nL Z.nM
 i4:Gf K mg "course_moments" iY ["stations", "table", "start", "places"] Z.iZ Z.i3
 kb:Gf K mg "least_repeats" jO ["lasts", "seconds"] Z.j0 Z.j1
 rz:Gf K mg "across" s_across ["first", "second"] Z.a_across Z.d_across
 ie:Gf K mg "along" s_along ["first", "second"] Z.a_along Z.d_along
 iJ:Gf K mg "sign_code" s_sign_code ["number"] Z.a_sign_code Z.d_sign_code
 n8:Gf K mg "sine_square" nk ["first", "second"] Z.nN Z.nO
 gX:Gf K mg "is_turned_beyond" gR ["first", "second", "top", "bottom"] Z.gU Z.gW
 n9:Gf K mg "least_steps" nr ["square", "distance"] Z.nQ Z.nR
 f_port_end:Gf K mg "port_end" s_port_end ["heading", "place", "distance"] Z.a_port_end Z.d_port_end
 lK:Gf K mg "lead_against" kS ["heading", "first", "second"] Z.lr Z.lu
 oe:Gf K mg "lead_square" nt ["heading", "lead"] Z.nS Z.nU
 kc:Gf K mg "pairs_of" s_pairs_of ["row"] Z.a_pairs_of Z.d_pairs_of
 f_load:Gf K mg "load" s_load ["sea", "numbers", "row"] Z.a_load Z.d_load
 f_printed:Gf K mg "printed" s_printed ["sea", "numbers", "row"] Z.jb Z.d_printed
 jt:Gf K mg "is_station" pV ["sea", "number"] Z.qr Z.qt
 f_observe:Gf K mg "observe" s_observe ["sea", "numbers", "row"] Z.jc Z.d_observe
 cK:Gf K mg "wind_there" pW ["sea", "numbers"] Z.qv Z.qw
 md:Gf K mg "tell_wind" s_tell_wind ["sea", "numbers", "row"] Z.gf Z.d_tell_wind
 f_speak:Gf K mg "speak" s_speak ["sea", "numbers", "row"] Z.rJ Z.d_speak
 o9:Gf K mg "is_table" s_is_table ["row"] Z.a_is_table Z.d_is_table
 me:Gf K mg "lay_table" s_lay_table ["sea", "numbers", "row"] Z.gg Z.d_lay_table
 d9:Gf K mg "is_way_in_range" ir ["numbers"] Z.iw Z.iy
 mf:Gf K mg "tell_time" s_tell_time ["sea", "numbers", "row"] Z.gh Z.d_tell_time
 f_is_course:Gf K mg "is_course" s_is_course ["row"] Z.a_is_course Z.d_is_course
 f_course:Gf K mg "course" s_course ["sea", "numbers", "row"] Z.mF Z.d_course
 f_set_leg:Gf K mg "set_leg" s_set_leg ["sea", "numbers", "row"] Z.jd Z.d_set_leg
 fG:Gf K mg "refusal_by" pX ["winds"] Z.qx Z.qy
 pd:Gf K mg "lay_line" s_lay_line ["sea", "numbers", "row"] Z.ic Z.d_lay_line
 f_bias:Gf K mg "bias" s_bias ["sea", "numbers", "row"] Z.a_bias Z.d_bias
 ju:Gf K mg "both_winds" pY ["sea", "numbers"] Z.qz Z.qA
 f_shift:Gf K mg "shift" s_shift ["sea", "numbers", "row"] Z.rK Z.d_shift
 qH:Gf K mg "is_tangent" pZ ["numbers"] Z.qB Z.qC
 f_turned:Gf K mg "turned" s_turned ["sea", "numbers", "row"] Z.mG Z.d_turned
 mh:Gf K mg "strongest" s_strongest ["sea", "numbers", "row"] Z.gj Z.d_strongest
 f_mean:Gf K mg "mean" s_mean ["sea", "numbers", "row"] Z.a_mean Z.d_mean
 f_between:Gf K mg "between" s_between ["sea", "numbers", "row"] Z.je Z.d_between
 gy:Gf K mg "list_stations" jP ["sea", "numbers", "row"] Z.dS Z.j2
 f_take_call:Gf K mg "take_call" s_take_call ["calls", "place"] Z.a_take_call Z.d_take_call
 f_answers:Gf K mg "answers" s_answers ["calls"] Z.a_answers Z.d_answers
 c_LINE_END:∃ u,mg "LINE_END" = some u∧RelV (.int (10)) u
 c_BLANK:∃ u,mg "BLANK" = some u∧RelV (.int (32)) u
 c_LAST_SIGN:∃ u,mg "LAST_SIGN" = some u∧RelV (.int (126)) u
 c_MINUS:∃ u,mg "MINUS" = some u∧RelV (.int (45)) u
 jv:∃ u,mg "DIGIT_ZERO" = some u∧RelV (.int (48)) u
 c_DIGIT_NINE:∃ u,mg "DIGIT_NINE" = some u∧RelV (.int (57)) u
 c_UPPER_A:∃ u,mg "UPPER_A" = some u∧RelV (.int (65)) u
 c_UPPER_Z:∃ u,mg "UPPER_Z" = some u∧RelV (.int (90)) u
 c_LOWER_A:∃ u,mg "LOWER_A" = some u∧RelV (.int (97)) u
 c_LOWER_Z:∃ u,mg "LOWER_Z" = some u∧RelV (.int (122)) u
 c_MOST_DIGITS:∃ u,mg "MOST_DIGITS" = some u∧RelV (.int (7)) u
 c_LONGEST_NAME:∃ u,mg "LONGEST_NAME" = some u∧RelV (.int (12)) u
 c_FAR:∃ u,mg "FAR" = some u∧RelV (.int (100000)) u
 c_LAST_TIME:∃ u,mg "LAST_TIME" = some u∧RelV (.int (100000)) u
 jl:∃ u,mg "STRONG" = some u∧RelV (.int (1000)) u
 c_FAST:∃ u,mg "FAST" = some u∧RelV (.int (3000)) u
 c_MOST_STATIONS:∃ u,mg "MOST_STATIONS" = some u∧RelV (.int (6)) u
 c_MOST_SIGHTS:∃ u,mg "MOST_SIGHTS" = some u∧RelV (.int (20)) u
 c_MOST_BYTES:∃ u,mg "MOST_BYTES" = some u∧RelV (.int (4000)) u
 pG:∃ u,mg "MOST_VELOCITIES" = some u∧RelV (.int (12)) u
 c_MOST_SECONDS:∃ u,mg "MOST_SECONDS" = some u∧RelV (.int (1000000)) u
 c_LONGEST_LINE:∃ u,mg "LONGEST_LINE" = some u∧RelV (.int (100000)) u
 lL:∃ u,mg "FARTHEST_END" = some u∧RelV (.int (1000000000)) u
 c_STEEPEST:∃ u,mg "STEEPEST" = some u∧RelV (.int (1000)) u
 c_COMMENT:∃ u,mg "COMMENT" = some u∧RelV (.int (35)) u
 qI:∃ u,mg "NO_STATION" = some u∧RelV (.int (-2)) u
 c_NO_ROOM:∃ u,mg "NO_ROOM" = some u∧RelV (.int (-4)) u
 c_SEEN_ALREADY:∃ u,mg "SEEN_ALREADY" = some u∧RelV (.int (-5)) u
 gd:∃ u,mg "NO_WIND" = some u∧RelV (.int (-6)) u
 c_NEVER:∃ u,mg "NEVER" = some u∧RelV (.int (-7)) u
 c_TOO_LONG:∃ u,mg "TOO_LONG" = some u∧RelV (.int (-8)) u
 jw:∃ u,mg "WRONG_LIST" = some u∧RelV (.int (-9)) u
 bf:∃ u,mg "OUT_OF_RANGE" = some u∧RelV (.int (-10)) u
 c_TOO_FAR:∃ u,mg "TOO_FAR" = some u∧RelV (.int (-11)) u
 c_WRONG_TEXT:∃ u,mg "WRONG_TEXT" = some u∧RelV (.int (-1000)) u
 c_HANDLERS:∃ u,mg "HANDLERS" = some u∧RelV (.ref Z.t_HANDLERS) u
 tup_HANDLERS:∀ H:Hp,SqT K H Z.t_HANDLERS [.ref Z.a_load,.ref Z.jb,.ref Z.jc,.ref Z.gf,.ref Z.rJ,.ref Z.gg,.ref Z.gh,.ref Z.mF,.ref Z.jd,.ref Z.ic,.ref Z.a_bias,.ref Z.rK,.ref Z.mG,.ref Z.gj,.ref Z.a_mean,.ref Z.je,.ref Z.dS]
 c_SIZES:∃ u,mg "SIZES" = some u∧RelV (.ref Z.t_SIZES) u
 tup_SIZES:∀ H:Hp,SqT K H Z.t_SIZES [.int (0),.int (0),.int (4),.int (3),.int (1),.int (0),.int (5),.int (1),.int (6),.int (4),.int (5),.int (4),.int (6),.int (1),.int (3),.int (5),.int (0)]
 c_WITH_ROW:∃ u,mg "WITH_ROW" = some u∧RelV (.ref Z.o5) u
 tup_WITH_ROW:∀ H:Hp,SqT K H Z.o5 [.int (0),.int (5),.int (7),.int (15)]
 dE:mg "len" = none
 n_ord:mg "ord" = none
 n_str:mg "str" = none
 n_abs:mg "abs" = none
 n_range:mg "range" = none
 mi:mg "enumerate" = none
 n_zip:mg "zip" = none
 n_sum:mg "sum" = none
theorem mj:au ["text", "sign"] ["text"] (aq s_bytes_of):=by walk_at "s"
theorem gk:au ["text", "mark", "pieces", "piece", "sign"] ["text", "mark"] (aq s_split_at):=by walk_at "s"
theorem sc_lines_of:au ["text", "pieces"] ["text"] (aq s_lines_of):=by walk_at "s"
theorem ml:au ["line", "piece"] ["line"] (aq s_words_of):=by walk_at "s"
theorem lM:au ["line", "sign"] ["line"] (aq m8):=by walk_at "s"
theorem sc_is_digit:au ["sign"] ["sign"] (aq s_is_digit):=by walk_at "s"
theorem kd:au ["sign", "is_letter"] ["sign"] (aq kJ):=by walk_at "s"
theorem sc_is_name:au ["word", "sign"] ["word"] (aq s_is_name):=by walk_at "s"
theorem fu:au ["word", "number", "sign"] ["word"] (aq m9):=by walk_at "s"
theorem lN:au ["word", "number"] ["word"] (aq nc):=by walk_at "s"
theorem lO:au ["word", "least", "most", "number"] ["word", "least", "most"] (aq ng):=by walk_at "s"
theorem pf:au ["words", "line", "word"] ["words"] (aq s_line_of):=by walk_at "s"
theorem iU:au ["self", "top", "bottom", "divisor"] ["self", "top", "bottom"] (aq pN):=by walk_at "s"
theorem bW:au ["first", "second", "larger", "smaller", "rest"] ["first", "second"] (aq gQ):=by walk_at "s"
theorem sc_whole:au ["number"] ["number"] (aq s_whole):=by walk_at "s"
theorem sc_add_ratios:au ["first", "second"] ["first", "second"] (aq pO):=by walk_at "s"
theorem oE:au ["first", "second"] ["first", "second"] (aq iq):=by walk_at "s"
theorem rL:au ["first", "second"] ["first", "second"] (aq jJ):=by walk_at "s"
theorem sc_is_less:au ["first", "second"] ["first", "second"] (aq s_is_less):=by walk_at "s"
theorem og:au ["ratio", "told"] ["ratio"] (aq pP):=by walk_at "s"
theorem sc_Wind_init:au ["self", "east", "north"] ["self", "east", "north"] (aq s_Wind_init):=by walk_at "s"
theorem sc_is_calm:au ["wind"] ["wind"] (aq s_is_calm):=by walk_at "s"
theorem sc_square_of:au ["wind"] ["wind"] (aq s_square_of):=by walk_at "s"
theorem f9:au ["wind", "east", "north", "divisor"] ["wind"] (aq pQ):=by walk_at "s"
theorem eS:au ["station", "moment", "earlier", "sight"] ["station", "moment"] (aq kK):=by walk_at "s"
theorem dW:au ["earlier", "later", "moment", "span", "gone", "east", "north"] ["earlier", "later", "moment"] (aq kL):=by walk_at "s"
theorem cZ:au ["stations", "x", "y", "moment", "east", "north", "total", "station", "wind", "square", "weight"] ["stations", "x", "y", "moment"] (aq s_wind_at):=by walk_at "s"
theorem iK:au ["stations", "moment", "number", "station"] ["stations", "moment"] (aq s_speaking):=by walk_at "s"
theorem dX:au ["stations", "moment", "best", "number", "square"] ["stations", "moment"] (aq kM):=by walk_at "s"
theorem bH:au ["station", "start", "end", "moments", "sight", "east", "north", "first", "second", "share", "before", "behind"] ["station", "start", "end"] (aq s_mean_wind):=by walk_at "s"
theorem oh:au ["numbers", "least", "most", "number"] ["numbers", "least", "most"] (aq pR):=by walk_at "s"
theorem sc_are_places:au ["numbers"] ["numbers"] (aq pS):=by walk_at "s"
theorem sc_are_times:au ["numbers"] ["numbers"] (aq s_are_times):=by walk_at "s"
theorem rM:au ["numbers"] ["numbers"] (aq jK):=by walk_at "s"
theorem sc_Sight_init:au ["self", "moment", "east", "north"] ["self", "moment", "east", "north"] (aq pT):=by walk_at "s"
theorem sc_Station_init:au ["self", "name", "x", "y"] ["self", "name", "x", "y"] (aq kN):=by walk_at "s"
theorem sc_saw_at:au ["station", "moment", "sight"] ["station", "moment"] (aq s_saw_at):=by walk_at "s"
theorem sc_is_full:au ["station"] ["station"] (aq s_is_full):=by walk_at "s"
theorem jx:au ["station", "sight", "place"] ["station", "sight"] (aq s_add_sight):=by walk_at "s"
theorem sc_Reading_init:au ["self"] ["self"] (aq kO):=by walk_at "s"
theorem eU:au ["text", "reading", "number", "line"] ["text"] (aq kP):=by walk_at "s"
theorem qJ:au ["stations", "line", "words"] ["stations", "line"] (aq s_take_line):=by walk_at "s"
theorem eV:au ["stations", "words", "x", "y", "station"] ["stations", "words"] (aq kQ):=by walk_at "s"
theorem fH:au ["stations", "words", "station", "moment", "east", "north"] ["stations", "words"] (aq s_take_wind):=by walk_at "s"
theorem ke:au ["stations", "name", "station"] ["stations", "name"] (aq kR):=by walk_at "s"
theorem dH:au ["stations", "written", "station", "sight"] ["stations"] (aq jL):=by walk_at "s"
theorem rN:au ["station"] ["station"] (aq jM):=by walk_at "s"
theorem fw:au ["station", "sight", "numbers", "number"] ["station", "sight"] (aq nh):=by walk_at "s"
theorem gm:au ["table", "wind", "dx", "dy", "east", "north", "scale", "turned"] ["table", "wind", "dx", "dy"] (aq s_way_time):=by walk_at "s"
theorem dC:au ["table", "along", "left", "best", "place", "first", "second"] ["table", "along", "left"] (aq pU):=by walk_at "s"
theorem sc_is_sooner:au ["first", "second"] ["first", "second"] (aq s_is_sooner):=by walk_at "s"
theorem sc_lesser:au ["first", "second"] ["first", "second"] (aq s_lesser):=by walk_at "s"
theorem rO:au ["first", "second"] ["first", "second"] (aq jN):=by walk_at "s"
theorem lP:au ["velocity", "along", "left", "ahead"] ["velocity", "along", "left"] (aq ni):=by walk_at "s"
theorem fz:au ["first", "second", "along", "left", "area", "first_time", "second_time"] ["first", "second", "along", "left"] (aq nj):=by walk_at "s"
theorem bK:au ["stations", "table", "start", "places", "moment", "done", "place", "target", "wind", "lasts"] ["stations", "table", "start", "places"] (aq iY):=by walk_at "s"
theorem rP:au ["lasts", "seconds"] ["lasts", "seconds"] (aq jO):=by walk_at "s"
theorem sc_across:au ["first", "second"] ["first", "second"] (aq s_across):=by walk_at "s"
theorem sc_along:au ["first", "second"] ["first", "second"] (aq s_along):=by walk_at "s"
theorem sc_sign_code:au ["number"] ["number"] (aq s_sign_code):=by walk_at "s"
theorem sc_sine_square:au ["first", "second"] ["first", "second"] (aq nk):=by walk_at "s"
theorem mH:au ["first", "second", "top", "bottom"] ["first", "second", "top", "bottom"] (aq gR):=by walk_at "s"
theorem dI:au ["square", "distance", "too_few", "enough", "middle"] ["square", "distance"] (aq nr):=by walk_at "s"
theorem sc_port_end:au ["heading", "place", "distance", "steps"] ["heading", "place", "distance"] (aq s_port_end):=by walk_at "s"
theorem sc_lead_against:au ["heading", "first", "second"] ["heading", "first", "second"] (aq kS):=by walk_at "s"
theorem sc_lead_square:au ["heading", "lead"] ["heading", "lead"] (aq nt):=by walk_at "s"
theorem sc_Sea_init:au ["self"] ["self"] (aq s_Sea_init):=by walk_at "s"
theorem sc_Call_init:au ["self", "number", "numbers", "row", "behind"] ["self", "number", "numbers", "row", "behind"] (aq s_Call_init):=by walk_at "s"
theorem mm:au ["row", "place"] ["row"] (aq s_pairs_of):=by walk_at "s"
theorem sc_load:au ["sea", "numbers", "row", "reading", "station"] ["sea", "numbers", "row"] (aq s_load):=by walk_at "s"
theorem sc_printed:au ["sea", "numbers", "row"] ["sea", "numbers", "row"] (aq s_printed):=by walk_at "s"
theorem sc_is_station:au ["sea", "number"] ["sea", "number"] (aq pV):=by walk_at "s"
theorem sc_observe:au ["sea", "numbers", "row", "station"] ["sea", "numbers", "row"] (aq s_observe):=by walk_at "s"
theorem sc_wind_there:au ["sea", "numbers"] ["sea", "numbers"] (aq pW):=by walk_at "s"
theorem qK:au ["sea", "numbers", "row", "wind"] ["sea", "numbers", "row"] (aq s_tell_wind):=by walk_at "s"
theorem sc_speak:au ["sea", "numbers", "row", "speakers"] ["sea", "numbers", "row"] (aq s_speak):=by walk_at "s"
theorem sc_is_table:au ["row"] ["row"] (aq s_is_table):=by walk_at "s"
theorem sc_lay_table:au ["sea", "numbers", "row"] ["sea", "numbers", "row"] (aq s_lay_table):=by walk_at "s"
theorem oF:au ["numbers"] ["numbers"] (aq ir):=by walk_at "s"
theorem jy:au ["sea", "numbers", "row", "wind", "lasts"] ["sea", "numbers", "row"] (aq s_tell_time):=by walk_at "s"
theorem sc_is_course:au ["row"] ["row"] (aq s_is_course):=by walk_at "s"
theorem mU:au ["sea", "numbers", "row", "done", "answer", "moment"] ["sea", "numbers", "row"] (aq s_course):=by walk_at "s"
theorem kf:au ["sea", "numbers", "row", "wind", "lasts", "repeats"] ["sea", "numbers", "row"] (aq s_set_leg):=by walk_at "s"
theorem iV:au ["winds", "wind"] ["winds"] (aq pX):=by walk_at "s"
theorem iL:au ["sea", "numbers", "row", "wind", "refusal", "end"] ["sea", "numbers", "row"] (aq s_lay_line):=by walk_at "s"
theorem rQ:au ["sea", "numbers", "row", "wind", "refusal", "heading", "lead"] ["sea", "numbers", "row"] (aq s_bias):=by walk_at "s"
theorem sc_both_winds:au ["sea", "numbers"] ["sea", "numbers"] (aq pY):=by walk_at "s"
theorem jm:au ["sea", "numbers", "row", "winds", "refusal", "first", "second", "turns"] ["sea", "numbers", "row"] (aq s_shift):=by walk_at "s"
theorem sc_is_tangent:au ["numbers"] ["numbers"] (aq pZ):=by walk_at "s"
theorem sc_turned:au ["sea", "numbers", "row", "winds", "refusal"] ["sea", "numbers", "row"] (aq s_turned):=by walk_at "s"
theorem qL:au ["sea", "numbers", "row", "best"] ["sea", "numbers", "row"] (aq s_strongest):=by walk_at "s"
theorem sc_mean:au ["sea", "numbers", "row", "station", "moment", "wind"] ["sea", "numbers", "row"] (aq s_mean):=by walk_at "s"
theorem kg:au ["sea", "numbers", "row", "wind", "by_ours", "by_this"] ["sea", "numbers", "row"] (aq s_between):=by walk_at "s"
theorem fP:au ["sea", "numbers", "row", "answer", "station"] ["sea", "numbers", "row"] (aq jP):=by walk_at "s"
theorem fI:au ["calls", "place", "number", "behind", "numbers", "row_end"] ["calls", "place"] (aq s_take_call):=by walk_at "s"
theorem fg:au ["calls", "sea", "told", "place", "call", "answer"] ["calls"] (aq s_answers):=by walk_at "s"
end WP
local macro_rules | `(tactic| walk_at "go1")=>`(tactic| first
 | with_reducible refine L2.w_seq ?_
 | with_reducible refine L2.w_asg ?_
 | ((with_reducible refine L2.w_name ?_); try dsimp only[List.set])
 | ((with_reducible refine L2.w_ret ?_); try dsimp only)
 | ((with_reducible refine L2.w_drop ?_); try dsimp only)
 | with_reducible refine L2.w_if ?_
 | ((with_reducible refine L2.w_var (v:=?v) ?hv ?_); (case hv=>rfl))
 | with_reducible refine L2.w_c ?_
 | with_reducible refine L2.w_test ?_
 | with_reducible refine L2.w_tB ?_
 | with_reducible refine L2.w_op ?_
 | with_reducible refine L2.w_un ?_
 | with_reducible refine L2.w_rI0 ?_
 | with_reducible refine L2.w_rU ?_
 | with_reducible refine L2.w_eqI ?_
 | with_reducible refine L2.w_neI ?_
 | with_reducible refine L2.w_bl ?_
 | with_reducible refine L2.w_and ?_
 | with_reducible refine L2.w_or ?_
 | with_reducible refine L2.w_not ?_
 | with_reducible refine L2.w_andV ?_
 | with_reducible refine L2.w_orV ?_
 | with_reducible refine L2.w_notV ?_
 | with_reducible refine L2.w_isN ?_
 | with_reducible refine L2.w_notN ?_
 | with_reducible refine L2.w_chain ?_
 | with_reducible refine L2.w_nil ?_
 | ((with_reducible refine L2.w_next ?_); try dsimp only)
 | ((with_reducible refine L2.w_retN ?_); try dsimp only)
 | with_reducible refine L2.w_cons ?_
 | with_reducible refine L2.w_call ?_
 | with_reducible refine L2.w_make ?_
 | with_reducible refine L2.w_cb ?_
 | with_reducible refine L2.w_abs ?_
 | with_reducible refine L2.w_ord ?_
 | with_reducible refine L2.w_fld ?_
 | with_reducible refine L2.w_sto ?_
 | with_reducible refine L2.w_for ?_
 | with_reducible refine L2.w_iList ?_
 | with_reducible refine L2.w_lst ?_
 | with_reducible refine L2.w_tup ?_
 | with_reducible refine L2.w_bm ?_
 | with_reducible refine L2.w_bm0 ?_
 | with_reducible refine L2.w_sl ?_
 | with_reducible refine L2.w_noPart ?_
 | with_reducible refine L2.w_part ?_
 | with_reducible refine L2.w_int ?_
 | with_reducible refine L2.w_lc ?_
 | with_reducible refine L2.w_iStr ?_
 | with_reducible refine L2.w_strI ?_
 | with_reducible refine L2.w_yes ?_
 | with_reducible refine L2.w_gCons ?_
 | with_reducible refine L2.w_gNil ?_
 | with_reducible refine L2.w_iEnum1 ?_
 | with_reducible refine L2.w_iEnum ?_
 | with_reducible refine L2.w_iZip ?_
 | with_reducible refine L2.w_iRng3 ?_)
local macro_rules | `(tactic| walk_at "a")=>`(tactic| repeat walk_at "go1")
local macro_rules | `(tactic| walk_at "len")=>`(tactic| first | (rintro⟨h,_⟩; subst h; rfl) | (rintro⟨_,h⟩; revert h; walk_at "len"))
namespace WP
open PySem PySem.Spec PyProof.Rows L2
variable {P:Program}{w:World}{K:PySem.W.Frag}{mg:Str→Option Value}{base:Heap}{Z:Ad}{vs:List V}{H:Hp}{Q:VK}{E:XK}
def sp_gd:Sp:=fun vs H Q _=>∃ a b:Int,vs=[.int a,.int b]∧Q (.int (Nat.gcd a.natAbs b.natAbs:Nat)) H
theorem gJ(T:Txt K mg Z):a9 P w K mg base CX0 1 Z.gS Z.gT ["first", "second"] (sp_gd):=by
 refine T.eW.fn.ok bW (fun vs H Q E h=>?_) (fun cdv A0 outer s H vs Q E hr h=>?_)
 ·revert h; walk_at "len"
 refine⟨_,(ae (az (i:=2) bW.nd rfl (Or.inl rfl) (aT su rfl T.n_abs sq (ab (pv 0) af))) (ae (az (i:=3) bW.nd rfl (Or.inl rfl) (aT su rfl T.n_abs sq (ab (pv 1) af))) (ae (qX PassesOwn.never (aH qZ (pv 3) aj (aM _)) (ae (az (i:=4) bW.nd rfl (Or.inl rfl) (aF op_mod (pv 2) (pv 3))) (ae (az (i:=2) bW.nd rfl (Or.inl rfl) (pv 3)) (ah (az (i:=3) bW.nd rfl (Or.inl rfl) (pv 4)))))) (ah (ao (pv 2)))))),?_⟩
 obtain⟨a,b,rfl,k⟩:=h
 refine bB (σ':=[some (.int a),some (.int b),none,none,none]) ?_ rfl
 walk_at "a"
 refine while_w (fun σ H'=>∃ (x y:Nat) (r:Option V),σ=[some (.int a),some (.int b),some (.int x),some (.int y),r]∧H' = H∧Nat.gcd x y=Nat.gcd a.natAbs b.natAbs) (fun σ _=>ixI σ 3) ⟨_,_,_,rfl,rfl,rfl⟩ ?_
 rintro σ H' ⟨x,y,r,rfl,rfl,e⟩
 walk_at "a"
 refine cG (fun hy=>?_) (fun hy=>?_)
 ·refine w_turn ?_
  walk_at "a"
  have hy0:0<(y:Int):=by omega
  refine cn hy0 ?_
  walk_at "a"
  refine⟨⟨y,x % y,some (.int ((x:Int) % (y:Int))),?_,rfl,?_⟩,?_⟩
  ·rw[Int.natCast_emod]
  ·rw[← e,Nat.gcd_comm x y,Nat.gcd_rec y x,Nat.gcd_comm]
  ·show((x:Int) % (y:Int)).natAbs<(y:Int).natAbs
   have:=Int.emod_lt_of_pos (x:Int) hy0
   have:=Int.emod_nonneg (x:Int) (show(y:Int)≠0 by omega)
   omega
 ·walk_at "a"
  have:y=0:=by omega
  subst this
  rw[Nat.gcd_zero_right] at e
  rw[e]
  exact k
theorem bits_le{z:Int}{k:Nat}(h:z.natAbs<2^k):Builtin.Int.intBits z≤k:=by
 unfold Builtin.Int.intBits
 split
 ·exact Nat.zero_le _
 ·rcases Nat.eq_zero_or_pos z.natAbs with h0 | hp
  ·exfalso
   rename_i hz
   exact hz (by simp; omega)
  ·have:=(Nat.log2_lt (Nat.ne_of_gt hp)).mpr h
   omega
theorem bI{a b:Int}{j k:Nat}(ha:a.natAbs<2^j)(hb:b.natAbs<2^k)(h:j+k≤134217728):IntMulOk a b :=
 PyProof.Rows.mulOk_of_bits (bits_le ha) (bits_le hb) h
theorem fi{a b j k:Nat}(ha:a<2^j)(hb:b<2^k):a*b<2^(j+k):=by
 rw[Nat.pow_add]
 exact Nat.mul_lt_mul'' ha hb
def ratF(q:Rat):List (Str×V):=eD "bottom" (.int (q.den:Int)) (eD "top" (.int q.num) [])
theorem ratF_top(q:Rat):(ratF q).lookup ("top" : Str)=some (.int q.num):=bF (by decide +kernel) dZ
theorem ratF_bottom(q:Rat):(ratF q).lookup ("bottom" : Str)=some (.int (q.den:Int)):=dZ
def a7(Z:Ad)(H:Hp)(a:Addr)(q:Rat):Prop:=∃ dx,H a=some (.ins Z.qS dx (ratF q))
theorem a7.mono{Z:Ad}{H H':Hp}{a:Addr}{q:Rat}(s:ax H H')(h:a7 Z H a q):a7 Z H' a q:=by
 obtain⟨dx,h⟩:=h
 exact⟨dx,s _ _ h⟩
section
variable {K:PySem.W.Frag}{mg:Str→Option Value}{Z:Ad}{H:Hp}{Q:VK}
theorem b6{a:Addr}{q:Rat}(h:a7 Z H a q)(T:Txt K mg Z)(k:Q (.int q.num) H):Fld K (.ref a) "top" H Q:=by
 obtain⟨dx,h⟩:=h
 exact d4 h T.aQ.cl T.jr (ratF_top q) k
theorem aY{a:Addr}{q:Rat}(h:a7 Z H a q)(T:Txt K mg Z)(k:Q (.int (q.den:Int)) H):Fld K (.ref a) "bottom" H Q:=by
 obtain⟨dx,h⟩:=h
 exact d4 h T.aQ.cl T.gv (ratF_bottom q) k
end
theorem divInt_parts{t b:Int}(hb:b≠0):∃ g:Nat,g=Nat.gcd t.natAbs b.natAbs∧g≠0∧g≤b.natAbs ∧
  (0<b→t.fdiv g=(Rat.divInt t b).num∧b.fdiv g=((Rat.divInt t b).den:Int))∧(b<0→t.fdiv (-(g:Int))=(Rat.divInt t b).num∧b.fdiv (-(g:Int))=((Rat.divInt t b).den:Int)):=by
 have hg0:Nat.gcd t.natAbs b.natAbs≠0:=fun e=>hb (by have:=Nat.eq_zero_of_gcd_eq_zero_right e; omega)
 have hgi:((Nat.gcd t.natAbs b.natAbs:Nat):Int)≠0:=by omega
 have d1:((Nat.gcd t.natAbs b.natAbs:Nat):Int) ∣ t:=Int.natAbs_dvd_natAbs.mp (by rw[Int.natAbs_natCast]; exact Nat.gcd_dvd_left _ _)
 have d2:((Nat.gcd t.natAbs b.natAbs:Nat):Int) ∣ b:=Int.natAbs_dvd_natAbs.mp (by rw[Int.natAbs_natCast]; exact Nat.gcd_dvd_right _ _)
 have e0:b.gcd t=Nat.gcd t.natAbs b.natAbs:=by unfold Int.gcd; exact Nat.gcd_comm _ _
 refine⟨_,rfl,hg0,Nat.le_of_dvd (by omega) (Nat.gcd_dvd_right _ _),fun hp=>?_,fun hn=>?_⟩
 ·rw[Rat.num_divInt,Rat.den_divInt,if_neg hb,e0,Int.sign_eq_one_of_pos hp,Int.one_mul]
  generalize Nat.gcd t.natAbs b.natAbs=g at *
  refine⟨Int.fdiv_eq_ediv_of_nonneg _ (by omega),?_⟩
  rw[Int.fdiv_eq_ediv_of_nonneg _ (by omega),Int.natCast_ediv,Int.natAbs_of_nonneg (by omega)]
 ·rw[Rat.num_divInt,Rat.den_divInt,if_neg hb,e0,Int.sign_eq_neg_one_of_neg hn]
  generalize Nat.gcd t.natAbs b.natAbs=g at *
  obtain⟨k,rfl⟩:=d1
  obtain⟨m,hm⟩:=d2
  have q1:∀ z:Int,((g:Int)*z).fdiv (-(g:Int)) = -z:=fun z=>by
   have:(g:Int)*z=(-(g:Int))*(-z):=by rw[Int.neg_mul_neg]
   rw[this,Int.mul_fdiv_cancel_left _ (by omega)]
  refine⟨?_,?_⟩
  ·rw[q1]
   have:-1*((g:Int)*k)=(g:Int)*(-k):=by rw[Int.mul_neg,Int.neg_mul,Int.one_mul]
   rw[this,Int.mul_ediv_cancel_left _ (by omega)]
  ·rw[hm,q1,Int.natCast_ediv]
   have hab:(((g:Int)*m).natAbs:Int)=(g:Int)*(-m):=by
    rw[← hm,Int.mul_neg,← hm]; omega
   rw[hab,Int.mul_ediv_cancel_left _ (by omega)]
theorem log_lt{z:Int}{k:Nat}(h0:z≠0)(h:z.natAbs<2^k):z.natAbs.log2<k:=(Nat.log2_lt (by omega)).mpr h
def sp_Ratio(Z:Ad):Sp:=fun vs H Q _=>∃ (p dx:Addr) (t b:Int),vs=[.ref p,.int t,.int b]∧b≠0∧b.natAbs<2^9000∧H p=some (.ins Z.qS dx [])∧Q .non (upd H p (.ins Z.qS dx (ratF (Rat.divInt t b))))
theorem bx(T:Txt K mg Z):a9 P w K mg base CX0 2 Z.p7 Z.p8 ["self", "top", "bottom"] (sp_Ratio Z):=by
 refine T.aQ.fn.ok iU (fun vs H Q E h=>?_) (fun cdv A0 outer s H vs Q E hr h=>?_)
 ·revert h; walk_at "len"
 refine⟨_,(ae (az (i:=3) iU.nd rfl (Or.inl rfl) (ag T.eW (gJ T) hr (ab (pv 1) (ab (pv 2) af)))) (ae (aP (aH iA (pv 2) aj (aM _)) (ah (az (i:=3) iU.nd rfl (Or.inl rfl) (oJ iO (pv 3)))) aA) (ae (cB (K:=K) rfl (pv 0) (aF jh (pv 1) (pv 3)) rfl) (ah (cB (K:=K) rfl (pv 0) (aF jh (pv 2) (pv 3)) rfl))))),?_⟩
 obtain⟨p,dx,t,b,rfl,hb,hs,hp,k⟩:=h
 obtain⟨g,hg,g0,gle,gp,gn⟩:=divInt_parts (t:=t) hb
 refine bB (σ':=[some (.ref p),some (.int t),some (.int b),none]) ?_ rfl
 walk_at "a"
 refine⟨t,b,rfl,?_⟩
 rw[← hg]
 have hlog:g.log2<9000:=(Nat.log2_lt g0).mpr (Nat.lt_of_le_of_lt gle hs)
 walk_at "a"
 refine w_ite (fun hn=>?_) (fun hn=>?_)
 ·have e:=gn hn
  have hD:∀ z:Int,CDivB z (-(g:Int)):=fun z=>⟨by omega,by rw[Int.natAbs_neg,Int.natAbs_natCast]; exact hlog⟩
  walk_at "a"
  refine cn (hD _) ?_
  walk_at "a"
  refine dh hp T.aQ.cl T.jr (by show 0<1000; decide) ?_
  walk_at "a"
  refine cn (hD _) ?_
  walk_at "a"
  refine dh ai T.aQ.cl T.gv (by show 1<1000; decide) ?_
  rw[bO,e.1,e.2]
  exact k
 ·have e:=gp (by omega)
  have hD:∀ z:Int,CDivB z (g:Int):=fun z=>⟨by omega,by rw[Int.natAbs_natCast]; exact hlog⟩
  walk_at "a"
  refine cn (hD _) ?_
  walk_at "a"
  refine dh hp T.aQ.cl T.jr (by show 0<1000; decide) ?_
  walk_at "a"
  refine cn (hD _) ?_
  walk_at "a"
  refine dh ai T.aQ.cl T.gv (by show 1<1000; decide) ?_
  rw[bO,e.1,e.2]
  exact k
theorem dF{Z:Ad}{H:Hp}{Q:Addr→Hp→Prop}{E:XK}{t b:Int}(hb:b≠0)(hs:b.natAbs<2^9000)(k:∀ x H',ax H H'→a7 Z H' x (Rat.divInt t b)→Q x H') :
  ∀ x dx,H x=none→H dx=none→dx≠x→sp_Ratio Z [.ref x,.int t,.int b] (upd (upd H dx (.own x)) x (.ins Z.qS dx [])) (fun v H2=>v = .non∧Q x H2) E:=by
 intro x dx hx hdx hne
 refine⟨x,dx,t,b,rfl,hb,hs,ai,rfl,k x _ ?_ ⟨dx,ai⟩⟩
 rw[bO]
 intro c o e
 rw[ay (aC e hx),ay (aC e hdx)]
 exact e
def RetR(Z:Ad)(H:Hp)(Q:VK)(q:Rat):Prop:=∀ x H',ax H H'→a7 Z H' x q→Q (.ref x) H'
def sp_whole(Z:Ad):Sp:=fun vs H Q _=>∃ n:Int,vs=[.int n]∧RetR Z H Q (n:Rat)
theorem divInt_one(n:Int):Rat.divInt n 1=(n:Rat):=by
 rw[WM.aX]
 have:((1:Int):Rat)=1:=rfl
 rw[this,Rat.div_def]
 grind
theorem dg(T:Txt K mg Z):a9 P w K mg base CX0 4 Z.a_whole Z.d_whole ["number"] (sp_whole Z):=by
 refine T.dO.fn.ok sc_whole (fun vs H Q E h=>?_) (fun cdv A0 outer s H vs Q E hr h=>?_)
 ·revert h; walk_at "len"
 refine⟨_,(ah (ao (ck T.aQ.make (bx T) (hr.mono (by decide)) rfl T.aQ.mg T.aQ.bind .nil eA (ab (pv 0) (ab aj af))))),?_⟩
 obtain⟨n,rfl,k⟩:=h
 refine bB (σ':=[some (.int n)]) ?_ rfl
 walk_at "a"
 refine dF (by decide) (by decide) fun x H' s' hx=>?_
 rw[divInt_one] at hx
 exact k x H' s' hx
theorem Bd.den{k:Nat}{q:Rat}(h:WM.Bd k q):((q.den:Nat):Int).natAbs<2^k:=by rw[Int.natAbs_natCast]; exact h.2
theorem divInt_add(p q:Rat):Rat.divInt (p.num*q.den+q.num*p.den) (p.den*q.den)=p+q:=by
 rw[Rat.add_def',← Int.natCast_mul,Rat.divInt_ofNat]
theorem divInt_mul(p q:Rat):Rat.divInt (p.num*q.num) (p.den*q.den)=p*q:=by
 rw[Rat.mul_def',← Int.natCast_mul,Rat.divInt_ofNat]
theorem divInt_quot(p q:Rat):Rat.divInt (p.num*q.den) (p.den*q.num)=p / q:=by
 have h1:=Rat.num_divInt_den p
 have h2:=Rat.num_divInt_den q
 rw[Rat.div_def,Rat.inv_def]
 conv=>rhs; lhs; rw[← h1]
 rw[Rat.divInt_mul_divInt]
def sp_add(Z:Ad)(f:Rat→Rat→Rat):Sp:=fun vs H Q _=>∃ (a b:Addr) (p q:Rat) (j k:Nat),vs=[.ref a,.ref b]∧a7 Z H a p∧a7 Z H b q∧WM.Bd j p∧WM.Bd k q∧j+k≤9000∧RetR Z H Q (f p q)
theorem den_mul_lt{p q:Rat}{j k:Nat}(hp:WM.Bd j p)(hq:WM.Bd k q)(h:j+k≤9000):((p.den:Int)*(q.den:Int)).natAbs<2^9000:=by
 rw[Int.natAbs_mul]
 exact Nat.lt_of_lt_of_le (fi (Bd.den hp) (Bd.den hq)) (Nat.pow_le_pow_right (by decide) h)
theorem den_mul_ne(p q:Rat):(p.den:Int)*(q.den:Int)≠0:=by
 have h1:=p.den_pos
 have h2:=q.den_pos
 exact Int.mul_ne_zero (by omega) (by omega)
theorem bX(T:Txt K mg Z):a9 P w K mg base CX0 4 Z.p9 Z.qb ["first", "second"] (sp_add Z (· + ·)):=by
 refine T.bY.fn.ok sc_add_ratios (fun vs H Q E h=>?_) (fun cdv A0 outer s H vs Q E hr h=>?_)
 ·revert h; walk_at "len"
 refine⟨_,(ah (ao (ck T.aQ.make (bx T) (hr.mono (by decide)) rfl T.aQ.mg T.aQ.bind .nil eA (ab (aF dM (aF aN (ak (K:=K) rfl (pv 0) rfl) (ak (K:=K) rfl (pv 1) rfl)) (aF aN (ak (K:=K) rfl (pv 1) rfl) (ak (K:=K) rfl (pv 0) rfl))) (ab (aF aN (ak (K:=K) rfl (pv 0) rfl) (ak (K:=K) rfl (pv 1) rfl)) af))))),?_⟩
 obtain⟨a,b,p,q,j,k,rfl,ha,hb,bp,bq,hjk,r⟩:=h
 refine bB (σ':=[some (.ref a),some (.ref b)]) ?_ rfl
 walk_at "a"
 refine b6 ha T ?_
 walk_at "a"
 refine aY hb T ?_
 refine cn (bI bp.1 (Bd.den bq) (by omega)) ?_
 walk_at "a"
 refine b6 hb T ?_
 walk_at "a"
 refine aY ha T ?_
 refine cn (bI bq.1 (Bd.den bp) (by omega)) ?_
 walk_at "a"
 refine aY ha T ?_
 walk_at "a"
 refine aY hb T ?_
 refine cn (bI (Bd.den bp) (Bd.den bq) (by omega)) ?_
 walk_at "a"
 refine dF (den_mul_ne p q) (den_mul_lt bp bq hjk) fun x H' s' hx=>?_
 rw[divInt_add] at hx
 exact r x H' s' hx
theorem bN(T:Txt K mg Z):a9 P w K mg base CX0 4 Z.iu Z.iv ["first", "second"] (sp_add Z (· * ·)):=by
 refine T.bJ.fn.ok oE (fun vs H Q E h=>?_) (fun cdv A0 outer s H vs Q E hr h=>?_)
 ·revert h; walk_at "len"
 refine⟨_,(ah (ao (ck T.aQ.make (bx T) (hr.mono (by decide)) rfl T.aQ.mg T.aQ.bind .nil eA (ab (aF aN (ak (K:=K) rfl (pv 0) rfl) (ak (K:=K) rfl (pv 1) rfl)) (ab (aF aN (ak (K:=K) rfl (pv 0) rfl) (ak (K:=K) rfl (pv 1) rfl)) af))))),?_⟩
 obtain⟨a,b,p,q,j,k,rfl,ha,hb,bp,bq,hjk,r⟩:=h
 refine bB (σ':=[some (.ref a),some (.ref b)]) ?_ rfl
 walk_at "a"
 refine b6 ha T ?_
 walk_at "a"
 refine b6 hb T ?_
 refine cn (bI bp.1 bq.1 (by omega)) ?_
 walk_at "a"
 refine aY ha T ?_
 walk_at "a"
 refine aY hb T ?_
 refine cn (bI (Bd.den bp) (Bd.den bq) (by omega)) ?_
 walk_at "a"
 refine dF (den_mul_ne p q) (den_mul_lt bp bq hjk) fun x H' s' hx=>?_
 rw[divInt_mul] at hx
 exact r x H' s' hx
def sp_div(Z:Ad):Sp:=fun vs H Q _=>∃ (a b:Addr) (p q:Rat) (j k:Nat),vs=[.ref a,.ref b]∧a7 Z H a p∧a7 Z H b q∧WM.Bd j p∧WM.Bd k q∧j+k≤9000∧q≠0∧RetR Z H Q (p / q)
theorem i5(T:Txt K mg Z):a9 P w K mg base CX0 4 Z.jQ Z.jR ["first", "second"] (sp_div Z):=by
 refine T.gx.fn.ok rL (fun vs H Q E h=>?_) (fun cdv A0 outer s H vs Q E hr h=>?_)
 ·revert h; walk_at "len"
 refine⟨_,(ah (ao (ck T.aQ.make (bx T) (hr.mono (by decide)) rfl T.aQ.mg T.aQ.bind .nil eA (ab (aF aN (ak (K:=K) rfl (pv 0) rfl) (ak (K:=K) rfl (pv 1) rfl)) (ab (aF aN (ak (K:=K) rfl (pv 0) rfl) (ak (K:=K) rfl (pv 1) rfl)) af))))),?_⟩
 obtain⟨a,b,p,q,j,k,rfl,ha,hb,bp,bq,hjk,hq,r⟩:=h
 refine bB (σ':=[some (.ref a),some (.ref b)]) ?_ rfl
 walk_at "a"
 refine b6 ha T ?_
 walk_at "a"
 refine aY hb T ?_
 refine cn (bI bp.1 (Bd.den bq) (by omega)) ?_
 walk_at "a"
 refine aY ha T ?_
 walk_at "a"
 refine b6 hb T ?_
 refine cn (bI (Bd.den bp) bq.1 (by omega)) ?_
 walk_at "a"
 refine dF ?_ ?_ fun x H' s' hx=>?_
 ·have:=p.den_pos
  exact Int.mul_ne_zero (by omega) (fun e=>hq (Rat.num_eq_zero.mp e))
 ·rw[Int.natAbs_mul]
  exact Nat.lt_of_lt_of_le (fi (Bd.den bp) bq.1) (Nat.pow_le_pow_right (by decide) hjk)
 ·rw[divInt_quot] at hx
  exact r x H' s' hx
def sp_less(Z:Ad):Sp:=fun vs H Q _=>∃ (a b:Addr) (p q:Rat) (j k:Nat),vs=[.ref a,.ref b]∧a7 Z H a p∧a7 Z H b q∧WM.Bd j p∧WM.Bd k q∧j+k≤1000000∧Q (.bl (decide (p<q))) H
theorem ok_is_less(T:Txt K mg Z):a9 P w K mg base CX0 1 Z.a_is_less Z.d_is_less ["first", "second"] (sp_less Z):=by
 refine T.f_is_less.fn.ok sc_is_less (fun vs H Q E h=>?_) (fun cdv A0 outer s H vs Q E hr h=>?_)
 ·revert h; walk_at "len"
 refine⟨_,(ah (ao (ko iA (aF aN (ak (K:=K) rfl (pv 0) rfl) (ak (K:=K) rfl (pv 1) rfl)) (aF aN (ak (K:=K) rfl (pv 1) rfl) (ak (K:=K) rfl (pv 0) rfl)) (aM _)))),?_⟩
 obtain⟨a,b,p,q,j,k,rfl,ha,hb,bp,bq,hjk,r⟩:=h
 refine bB (σ':=[some (.ref a),some (.ref b)]) ?_ rfl
 walk_at "a"
 refine b6 ha T ?_
 walk_at "a"
 refine aY hb T ?_
 refine cn (bI bp.1 (Bd.den bq) (by omega)) ?_
 walk_at "a"
 refine b6 hb T ?_
 walk_at "a"
 refine aY ha T ?_
 refine cn (bI bq.1 (Bd.den bp) (by omega)) ?_
 walk_at "a"
 rw[show decide (p.num*(q.den:Int)<q.num*(p.den:Int))=decide (p<q) from decide_eq_decide.mpr (Rat.lt_iff p q).symm]
 exact r
def nb(l:List Nat):List V:=l.map fun(n:Nat)=>V.int (n:Int)
theorem aL(l:List Nat):(nb l).length=l.length:=List.length_map _
theorem oj{l:List Nat}{i:Nat}{v:V}(h:(nb l)[i]? = some v):∃ c,l[i]? = some c∧v = .int (c:Int):=by
 unfold nb at h
 rw[List.getElem?_map] at h
 cases e:l[i]? with
 | none=>rw[e] at h; cases h
 | some c=>rw[e] at h; exact⟨c,rfl,(Option.some.inj h).symm⟩
theorem eL(l m:List Nat):nb (l++m)=nb l++nb m:=List.map_append
theorem take_snoc{α:Type}:∀ {l:List α} {i:Nat} {x:α},l[i]? = some x→l.take (i+1)=l.take i++[x]
 | [],i,x,h=>by simp at h
 | a::l,0,x,h=>by
  have e:a=x:=Option.some.inj h
  subst e
  rfl
 | a::l,i+1,x,h=>by
  have ih:=take_snoc (l:=l) (i:=i) (x:=x) h
  show a::l.take (i+1)=a::l.take i++[x]
  rw[ih]
  rfl
def cH(H:Hp)(Q:VK)(xs:List V):Prop:=∀ p H',ax H H'→H p=none→H' p=some (.lst xs)→Q (.ref p) H'
def sp_bytes_of:Sp:=fun vs H Q _=>∃ x:Str,vs=[.str x]∧x.cps.size≤100000∧cH H Q (nb x.cps.toList)
theorem dP(T:Txt K mg Z):a9 P w K mg base CX0 1 Z.a_bytes_of Z.d_bytes_of ["text"] (sp_bytes_of):=by
 refine T.dU.fn.ok mj (fun vs H Q E h=>?_) (fun cdv A0 outer s H vs Q E hr h=>?_)
 ·revert h; walk_at "len"
 refine⟨_,(ah (ao (pe_lc (own:=[("sign",1)]) rfl mj.nd (pi_str (pv 0)) (ik (by kernel_rfl)) (fun _ _ _ _ _=>(aZ (i:=1) mj.nd rfl (Or.inl rfl))) (fun _ _ _ _ _=>pts_nil) (fun _ _ _ _ _=>(aT call_ordN rfl T.n_ord boot_ord_ (ab (pv 1) af)))))),?_⟩
 obtain⟨x,rfl,hz,k⟩:=h
 refine bB (σ':=[some (.str x),none]) ?_ rfl
 walk_at "a"
 intro D hD
 refine lc_gen (n:=x.cps.size) (fun i H'=>H' D=some (.lst (nb (x.cps.toList.take i)))∧ax H H') ⟨ai,ax.new hD⟩ (fun i H' hi _=>hi) (fun H' _=>Nat.le_refl _) ?_ ?_
 ·rintro i H' v H2 hi ⟨h1,h2⟩ ⟨rfl,c,hc,rfl⟩
  walk_at "a"
  refine⟨rfl,?_⟩
  walk_at "a"
  refine aD ?_
  walk_at "a"
  have hc':x.cps.toList[i]? = some c:=by rw[← hc]; simp
  refine⟨_,h1,?_,?_,?_⟩
  ·rw[aL,List.length_take,aw]; omega
  ·rw[ai,take_snoc hc',eL]; rfl
  ·intro b o e
   rw[ay (aC e hD)]; exact h2 b o e
 ·rintro H' ⟨h1,h2⟩
  rw[List.take_of_length_le (by simp)] at h1
  exact k D H' h2 hD h1
def LL(H:Hp)(as:List Addr)(ls:List (List Nat)):Prop:=as.length=ls.length∧∀ (i:Nat) (a:Addr) (l:List Nat),as[i]? = some a→ls[i]? = some l→H a=some (.lst (nb l))
theorem LL.mono{H H':Hp}{as:List Addr}{ls:List (List Nat)}(h:LL H as ls)(k:∀ a∈as,∀ o,H a=some o→H' a=some o):LL H' as ls :=
 ⟨h.1,fun i a l ha hl=>k a (List.mem_of_getElem? ha) _ (h.2 i a l ha hl)⟩
theorem LL.snoc{H:Hp}{as:List Addr}{ls:List (List Nat)}{a:Addr}{l:List Nat}(h:LL H as ls)(ha:H a=some (.lst (nb l))):LL H (as++[a]) (ls++[l]):=by
 refine⟨by rw[List.length_append,List.length_append,h.1]; rfl,fun i b m hb hm=>?_⟩
 by_cases hi:i<as.length
 ·rw[List.getElem?_append_left hi] at hb
  rw[List.getElem?_append_left (by rw[← h.1]; exact hi)] at hm
  exact h.2 i b m hb hm
 ·rw[List.getElem?_append_right (by omega)] at hb
  rw[List.getElem?_append_right (by rw[← h.1]; omega),← h.1] at hm
  cases e:i-as.length with
  | zero =>
   rw[e] at hb hm
   cases hb
   cases hm
   exact ha
  | succ k=>rw[e] at hb; simp at hb
def LLAt(H:Hp)(p:Addr)(ls:List (List Nat)):Prop:=∃ as,H p=some (.lst (as.map V.ref))∧LL H as ls
theorem LLAt.mono{H H':Hp}{p:Addr}{ls:List (List Nat)}(s:ax H H')(h:LLAt H p ls):LLAt H' p ls:=by
 obtain⟨as,h1,h2⟩:=h
 exact⟨as,s _ _ h1,h2.mono fun a _ o e=>s a o e⟩
structure Spl (H0 H:Hp) (P q:Addr) (as:List Addr) (ps:List (List Nat)) (pc:List Nat):Prop where
 same:ax H0 H
 nP:H0 P=none
 nq:H0 q=none
 hP:H P=some (.lst (as.map V.ref))
 hq:H q=some (.lst (nb pc))
 ll:LL H as ps
 qP:q≠P
 qa:q∉as
 Pa:P∉as
 fa:∀ a∈as,H0 a=none
theorem Spl.cut{H0 H:Hp}{P q p2:Addr}{as:List Addr}{ps:List (List Nat)}{pc:List Nat}(S:Spl H0 H P q as ps pc)(hn:upd H P (.lst (as.map V.ref++[.ref q])) p2=none) :
  Spl H0 (upd (upd H P (.lst (as.map V.ref++[.ref q]))) p2 (.lst [])) P p2 (as++[q]) (ps++[pc]) []:=by
 have h2P:p2≠P:=by
  rintro rfl
  rw[ai] at hn; cases hn
 have hH2:H p2=none:=by rw[ay h2P] at hn; exact hn
 have h20:H0 p2=none:=S.same.free hH2
 have h2q:p2≠q:=fun e=>by rw[e,S.hq] at hH2; cases hH2
 have h2a:∀ a∈as,a≠p2:=fun a ha e=>by
  obtain⟨i,hi⟩:=List.getElem?_of_mem ha
  have hil:=(List.getElem?_eq_some_iff.mp hi).1
  have hip:i<ps.length:=by rw[← S.ll.1]; exact hil
  have:=S.ll.2 i a ps[i] hi (List.getElem?_eq_getElem hip)
  rw[e,hH2] at this; cases this
 refine⟨(S.same.dB S.nP).dB h20,S.nP,h20,?_,ai,?_,h2P,?_,?_,fun a ha=>?_⟩
 ·rw[ay (Ne.symm h2P),ai,List.map_append]; rfl
 ·refine LL.snoc (S.ll.mono fun a ha o e=>?_) ?_
  ·rw[ay (h2a a ha),ay (by rintro rfl; exact S.Pa ha)]; exact e
  ·rw[ay (Ne.symm h2q),ay S.qP]; exact S.hq
 ·intro hm
  rcases List.mem_append.mp hm with z | z
  ·exact h2a p2 z rfl
  ·exact h2q (List.mem_singleton.mp z)
 ·intro hm
  rcases List.mem_append.mp hm with z | z
  ·exact S.Pa z
  ·exact S.qP (List.mem_singleton.mp z).symm
 ·rcases List.mem_append.mp ha with z | z
  ·exact S.fa a z
  ·rw[List.mem_singleton.mp z]; exact S.nq
theorem Spl.grow{H0 H:Hp}{P q:Addr}{as:List Addr}{ps:List (List Nat)}{pc:List Nat}(S:Spl H0 H P q as ps pc)(c:Nat) :
  Spl H0 (upd H q (.lst (nb pc++[.int (c:Int)]))) P q as ps (pc++[c]):=by
 refine⟨S.same.dB S.nq,S.nP,S.nq,by rw[ay (Ne.symm S.qP)]; exact S.hP,by rw[ai,eL]; rfl,S.ll.mono fun a ha o e=>?_,S.qP,S.qa,S.Pa,S.fa⟩
 rw[ay (by rintro rfl; exact S.qa ha)]; exact e
theorem drop_cons{α:Type}:∀ {l:List α} {i:Nat} {x:α},l[i]? = some x→l.drop i=x::l.drop (i+1)
 | [],i,x,h=>by simp at h
 | a::l,0,x,h=>by
  have e:a=x:=Option.some.inj h
  subst e
  rfl
 | a::l,i+1,x,h=>drop_cons (l:=l) (i:=i) h
def RetLL(H:Hp)(Q:VK)(ls:List (List Nat)):Prop:=∀ p H' as,ax H H'→H p=none→H' p=some (.lst (as.map V.ref))→LL H' as ls→(∀ a∈as,H a=none)→Q (.ref p) H'
def sp_split_at:Sp:=fun vs H Q _=>∃ (a:Addr) (l:List Nat) (mark:Nat),vs=[.ref a,.int (mark:Int)]∧H a=some (.lst (nb l))∧l.length≤100000∧RetLL H Q (Vbreal.parted mark l)
theorem ok_split_at(T:Txt K mg Z):a9 P w K mg base CX0 1 Z.a_split_at Z.d_split_at ["text", "mark"] (sp_split_at):=by
 refine T.o6.fn.ok gk (fun vs H Q E h=>?_) (fun cdv A0 outer s H vs Q E hr h=>?_)
 ·revert h; walk_at "len"
 refine⟨_,(ae (az (i:=2) gk.nd rfl (Or.inl rfl) (aJ af)) (ae (az (i:=3) gk.nd rfl (Or.inl rfl) (aJ af)) (ae (cW PassesOwn.never rfl (bD (K:=K) rfl (pv 0)) (aZ (i:=4) gk.nd rfl (Or.inl rfl)) (ah (aP (aH fU (pv 4) (pv 1) (aM _)) (ae (dk (fJ (K:=K) rfl PySem.F.plainAttrs_list PySem.F.slot_list_append PySem.F.type_list_append fm (pv 2) (ab (pv 3) af))) (ah (az (i:=3) gk.nd rfl (Or.inl rfl) (aJ af)))) (ah (dk (fJ (K:=K) rfl PySem.F.plainAttrs_list PySem.F.slot_list_append PySem.F.type_list_append fm (pv 3) (ab (pv 4) af))))))) (ae (dk (fJ (K:=K) rfl PySem.F.plainAttrs_list PySem.F.slot_list_append PySem.F.type_list_append fm (pv 2) (ab (pv 3) af))) (ah (ao (pv 2))))))),?_⟩
 obtain⟨a,l,mark,rfl,ha,hz,k⟩:=h
 refine bB (σ':=[some (.ref a),some (.int (mark:Int)),none,none,none]) ?_ rfl
 walk_at "a"
 refine⟨Nat.zero_le _,fun P hP=>?_⟩
 walk_at "a"
 refine⟨Nat.zero_le _,fun q hq=>?_⟩
 have hqP:q≠P:=by
  rintro rfl
  rw[ai] at hq; cases hq
 have hHq:H q=none:=by rw[ay hqP] at hq; exact hq
 have S0:Spl H (upd (upd H P (.lst [])) q (.lst [])) P q [] [] [] :=
  ⟨((ax.refl H).dB hP).dB hHq,hP,hHq,by rw[ay (Ne.symm hqP),ai]; rfl,ai,⟨rfl,fun i a l h=>by simp at h⟩,hqP,by simp,by simp,by simp⟩
 walk_at "a"
 refine⟨a,rfl,⟨_,SqL.of (S0.same _ _ ha)⟩,?_⟩
 refine bQ (K:=K) (a:=a) (xs:=nb l) (fun i σ H'=>∃ (q:Addr) (as:List Addr) (ps:List (List Nat)) (pc:List Nat) (v:Option V),σ=[some (.ref a),some (.int (mark:Int)),some (.ref P),some (.ref q),v]∧Spl H H' P q as ps pc∧WM.ia mark (l.drop i) ps pc=Vbreal.parted mark l∧ps.length≤i∧pc.length≤i)
  ⟨q,[],[],[],_,rfl,S0,WM.split_parted mark l,Nat.le_refl _,Nat.le_refl _⟩ (fun i σ H' _ ⟨q,as,ps,pc,v,_,S,_⟩=>SqL.of (S.same _ _ ha)) ?_ ?_
 ·rintro i y σ H' hi ⟨q,as,ps,pc,v,rfl,S,hg,h1,h2⟩
  obtain⟨c,hc,rfl⟩:=oj hi
  have hil:i<l.length:=(List.getElem?_eq_some_iff.mp hc).1
  rw[drop_cons hc] at hg
  unfold WM.ia at hg
  walk_at "a"
  refine w_ite (fun he=>?_) (fun he=>?_)
  ·have he':c=mark:=by omega
   rw[if_pos he'] at hg
   walk_at "a"
   refine⟨ty_list (SqL.of S.hP),?_⟩
   walk_at "a"
   refine gF S.hP (by rw[List.length_map,S.ll.1,aw]; omega) ?_
   walk_at "a"
   refine⟨Nat.zero_le _,fun p2 hp2=>?_⟩
   walk_at "a"
   exact⟨p2,as++[q],ps++[pc],[],_,rfl,S.cut hp2,hg,by rw[List.length_append]; simp; omega,Nat.zero_le _⟩
  ·have he':¬ c=mark:=by omega
   rw[if_neg he'] at hg
   walk_at "a"
   refine⟨ty_list (SqL.of S.hq),?_⟩
   walk_at "a"
   refine gF S.hq (by rw[aL,aw]; omega) ?_
   exact⟨q,as,ps,pc++[c],_,rfl,S.grow c,hg,by omega,by rw[List.length_append]; simp; omega⟩
 ·rintro σ H' ⟨q,as,ps,pc,v,rfl,S,hg,h1,h2⟩
  rw[aL] at hg h1 h2
  rw[List.drop_of_length_le (Nat.le_refl _)] at hg
  unfold WM.ia at hg
  walk_at "a"
  refine⟨ty_list (SqL.of S.hP),?_⟩
  walk_at "a"
  refine gF S.hP (by rw[List.length_map,S.ll.1,aw]; omega) ?_
  walk_at "a"
  refine k P _ (as++[q]) (S.same.dB S.nP) S.nP (by rw[ai,List.map_append]; rfl) ?_ (fun a ha=>?_)
  rotate_left
  ·rcases List.mem_append.mp ha with z | z
   ·exact S.fa a z
   ·rw[List.mem_singleton.mp z]; exact S.nq
  rw[← hg]
  refine LL.snoc (S.ll.mono fun a ha o e=>?_) ?_
  ·rw[ay (by rintro rfl; exact S.Pa ha)]; exact e
  ·rw[ay S.qP]; exact S.hq
theorem ig(c:Nat):∀ l:List Nat,(Vbreal.parted c l).length≤l.length+1
 | []=>by simp[Vbreal.parted]
 | x::r=>by
  have ih:=ig c r
  obtain⟨p,m,e⟩:=WM.hG c r
  unfold Vbreal.parted
  rw[e] at ih ⊢
  dsimp only
  split<;>simp at ih ⊢<;>omega
theorem kh(c:Nat):∀ (l:List Nat) {p:List Nat},p∈Vbreal.parted c l→p.length≤l.length∧∀ z∈p,z∈l
 | [],p,h=>by simp[Vbreal.parted] at h; subst h; simp
 | x::r,p,h=>by
  obtain⟨q,m,e⟩:=WM.hG c r
  have ih:=fun {p} (h:p∈Vbreal.parted c r)=>kh c r h
  unfold Vbreal.parted at h
  rw[e] at h ih
  dsimp only at h
  split at h
  ·rcases List.mem_cons.mp h with rfl | h
   ·simp
   ·obtain⟨a,b⟩:=ih h
    exact⟨by simp; omega,fun z hz=>List.mem_cons_of_mem _ (b z hz)⟩
  ·rcases List.mem_cons.mp h with rfl | h
   ·obtain⟨a,b⟩:=ih (List.mem_cons_self)
    refine⟨by simp; omega,fun z hz=>?_⟩
    rcases List.mem_cons.mp hz with rfl | hz
    ·exact List.mem_cons_self
    ·exact List.mem_cons_of_mem _ (b z hz)
   ·obtain⟨a,b⟩:=ih (List.mem_cons_of_mem _ h)
    exact⟨by simp; omega,fun z hz=>List.mem_cons_of_mem _ (b z hz)⟩
def sp_lines_of:Sp:=fun vs H Q _=>∃ (a:Addr) (l:List Nat),vs=[.ref a]∧H a=some (.lst (nb l))∧l.length≤100000∧RetLL H Q (Vbreal.linesOf l)
theorem LL.apart{H:Hp}{as:List Addr}{ls:List (List Nat)}{p a0:Addr}(h:LL H as ls)(hp:H p=some (.lst (as.map V.ref)))(h0:as[0]? = some a0):p∉as:=by
 intro hm
 obtain⟨i,hi⟩:=List.getElem?_of_mem hm
 have hil:i<ls.length:=by rw[← h.1]; exact(List.getElem?_eq_some_iff.mp hi).1
 have e:=h.2 i p ls[i] hi (List.getElem?_eq_getElem hil)
 rw[hp] at e
 have e2:as.map V.ref=nb ls[i]:=by injection e with e; injection e
 have e3:(as.map V.ref)[0]? = some (.ref a0):=by rw[List.getElem?_map,h0]; rfl
 rw[e2] at e3
 obtain⟨c,_,hc⟩:=oj e3
 cases hc
theorem LL.front{H:Hp}{as:List Addr}{ls:List (List Nat)}{a:Addr}{l:List Nat}(h:LL H (as++[a]) (ls++[l])):LL H as ls∧H a=some (.lst (nb l)):=by
 have hl:as.length=ls.length:=by
  have:=h.1
  rw[List.length_append,List.length_append] at this
  simpa using this
 refine⟨⟨hl,fun i b m hb hm=>?_⟩,?_⟩
 ·have h1:=(List.getElem?_eq_some_iff.mp hb).1
  have h2:=(List.getElem?_eq_some_iff.mp hm).1
  exact h.2 i b m (by rw[List.getElem?_append_left h1]; exact hb) (by rw[List.getElem?_append_left h2]; exact hm)
 ·exact h.2 as.length a l (by simp) (by rw[hl]; simp)
theorem ok_lines_of(T:Txt K mg Z):a9 P w K mg base CX0 2 Z.a_lines_of Z.d_lines_of ["text"] (sp_lines_of):=by
 refine T.f_lines_of.fn.ok sc_lines_of (fun vs H Q E h=>?_) (fun cdv A0 outer s H vs Q E hr h=>?_)
 ·revert h; walk_at "len"
 refine⟨_,(ae (az (i:=1) sc_lines_of.nd rfl (Or.inl rfl) (ag T.o6 (ok_split_at T) hr (ab (pv 0) (ab (bM T.c_LINE_END) af)))) (ae (aP (aH fU (aT (aS (K:=K) rfl) rfl T.dE PySem.boot_len (ab (aI (aB (K:=K) rfl) (pv 1) (oJ iO aj) (fun _ _=>rfl)) af)) aj (aM _)) (ah (dk (pe_bm0K (K:=K) rfl PySem.F.plainAttrs_list PySem.F.slot_list_pop PySem.F.type_list_pop mt_pop (pv 1)))) aA) (ah (ao (pv 1))))),?_⟩
 obtain⟨a,l,rfl,ha,hz,k⟩:=h
 refine bB (σ':=[some (.ref a),none]) ?_ rfl
 walk_at "a"
 refine⟨a,l,10,rfl,ha,hz,fun p H1 as s1 hp1 hp hll hfa=>?_⟩
 have hne:Vbreal.parted 10 l≠[]:=by
  obtain⟨q,m,e⟩:=WM.hG 10 l
  rw[e]; simp
 obtain⟨ls',last,hls⟩:∃ ls' last,Vbreal.parted 10 l=ls'++[last]:=⟨_,_,(List.dropLast_concat_getLast hne).symm⟩
 have hlen:=ig 10 l
 have hlastl:last.length≤l.length:=(kh 10 l (p:=last) (by rw[hls]; simp)).1
 rw[hls] at hll hlen
 obtain⟨as',z,rfl⟩:∃ as' z,as=as'++[z]:=by
  have:as≠[]:=by
   intro e
   have:=hll.1
   rw[e] at this; simp at this
  exact⟨_,_,(List.dropLast_concat_getLast this).symm⟩
 obtain⟨hfr,hz1⟩:=hll.front
 have hp':=hp
 rw[List.map_append] at hp'
 have hpa:p∉as'++[z]:=by
  cases as' with
  | nil=>exact hll.apart hp rfl
  | cons b r=>exact hll.apart hp rfl
 have hlines:Vbreal.linesOf l=if last.isEmpty=true then ls' else ls'++[last]:=by
  unfold Vbreal.linesOf
  dsimp only
  rw[hls]
  simp
 walk_at "a"
 refine aV (SqL.of hp') (atI_last _ _) ?_
 walk_at "a"
 refine bV (SqL.of hz1) ?_
 walk_at "a"
 rw[aL]
 refine w_ite (fun he=>?_) (fun he=>?_)
 ·have hl0:last=[]:=List.length_eq_zero_iff.mp (by omega)
  walk_at "a"
  refine⟨ty_list (SqL.of hp'),?_⟩
  refine w_pop hp' (y:=.ref z) (by simp) ?_
  walk_at "a"
  rw[hlines,hl0,if_pos (show([]:List Nat).isEmpty=true from rfl)] at k
  refine k p _ as' (s1.dB hp1) hp1 ?_ (hfr.mono fun b hb o e=>?_) (fun b hb=>hfa b (List.mem_append_left _ hb))
  ·rw[ai]
   simp
  ·rw[ay (by rintro rfl; exact hpa (List.mem_append_left _ hb))]; exact e
 ·have hl0:¬ last.isEmpty=true:=by
   intro e
   rw[List.isEmpty_iff.mp e] at he
   exact he rfl
  walk_at "a"
  rw[hlines,if_neg hl0] at k
  exact k p _ _ s1 hp1 hp hll hfa
def sp_words_of:Sp:=fun vs H Q _=>∃ (a:Addr) (l:List Nat),vs=[.ref a]∧H a=some (.lst (nb l))∧l.length≤100000∧RetLL H Q (Vbreal.wordsOf l)
theorem ok_words_of(T:Txt K mg Z):a9 P w K mg base CX0 2 Z.a_words_of Z.d_words_of ["line"] (sp_words_of):=by
 refine T.f_words_of.fn.ok ml (fun vs H Q E h=>?_) (fun cdv A0 outer s H vs Q E hr h=>?_)
 ·revert h; walk_at "len"
 refine⟨_,(ah (ao (pe_lc (own:=[("piece",1)]) rfl ml.nd (bD (K:=K) rfl (ag T.o6 (ok_split_at T) hr (ab (pv 0) (ab (bM T.c_BLANK) af)))) (ik (by kernel_rfl)) (fun _ _ _ _ _=>(aZ (i:=1) ml.nd rfl (Or.inl rfl))) (fun _ _ _ _ _=>(pts_one (aH i7 (aT (aS (K:=K) rfl) rfl T.dE PySem.boot_len (ab (pv 1) af)) aj (aM _)))) (fun _ _ _ _ _=>(pv 1))))),?_⟩
 obtain⟨a,l,rfl,ha,hz,k⟩:=h
 refine bB (σ':=[some (.ref a),none]) ?_ rfl
 walk_at "a"
 refine⟨a,l,32,rfl,ha,hz,fun p H1 as s1 hp1 hp hll hfa=>?_⟩
 have hlen:=ig 32 l
 refine⟨p,rfl,⟨_,SqL.of hp⟩,fun D hD=>?_⟩
 have hD0:H D=none:=s1.free hD
 refine lc_list (K:=K) (a:=p) (xs:=as.map V.ref) (fun i H'=>ax H1 H'∧∃ bs,H' D=some (.lst (bs.map V.ref))∧LL H1 bs (((Vbreal.parted 32 l).take i).filter fun w=>!w.isEmpty)∧bs.length≤i∧∀ b∈bs,H b=none) ⟨ax.new hD,[],ai,⟨rfl,fun i a l h=>by simp at h⟩,Nat.le_refl _,by simp⟩ (fun i H' _ ⟨s2,_⟩=>SqL.of (s2 _ _ hp)) ?_ ?_
 ·rintro i y H' hi ⟨s2,bs,hb,hbl,hbn,hbf⟩
  obtain⟨c,hc,rfl⟩:∃ c,as[i]? = some c∧y=V.ref c:=by
   rw[List.getElem?_map] at hi
   cases e:as[i]? with
   | none=>rw[e] at hi; cases hi
   | some c=>rw[e] at hi; exact⟨c,rfl,(Option.some.inj hi).symm⟩
  have hil:i<(Vbreal.parted 32 l).length:=by rw[← hll.1]; exact(List.getElem?_eq_some_iff.mp hc).1
  have hpc:=hll.2 i c _ hc (List.getElem?_eq_getElem hil)
  walk_at "a"
  refine⟨rfl,?_⟩
  walk_at "a"
  refine bV (SqL.of (s2 _ _ hpc)) ?_
  walk_at "a"
  rw[aL]
  have htk:=take_snoc (List.getElem?_eq_getElem hil)
  refine w_ite (fun he=>?_) (fun he=>?_)
  ·walk_at "a"
   refine⟨_,hb,by rw[List.length_map,aw]; omega,s2.dB hD,bs++[c],?_,?_,by rw[List.length_append]; simp; omega,fun b hb=>?_⟩
   rotate_left 2
   ·rcases List.mem_append.mp hb with z | z
    ·exact hbf b z
    ·rw[List.mem_singleton.mp z]; exact hfa c (List.mem_of_getElem? hc)
   ·rw[ai,List.map_append]; rfl
   ·rw[htk,List.filter_append]
    have:([(Vbreal.parted 32 l)[i]]:List (List Nat)).filter (fun w=>!w.isEmpty)=[(Vbreal.parted 32 l)[i]]:=by
     rw[List.filter_cons,if_pos]
     ·rfl
     ·cases e:(Vbreal.parted 32 l)[i] with
      | nil=>rw[e] at he; simp at he
      | cons x r=>rfl
    rw[this]
    exact hbl.snoc hpc
  ·refine⟨s2,bs,hb,?_,by omega,hbf⟩
   rw[htk,List.filter_append]
   have:([(Vbreal.parted 32 l)[i]]:List (List Nat)).filter (fun w=>!w.isEmpty)=[]:=by
    rw[List.filter_cons,if_neg]
    ·rfl
    ·cases e:(Vbreal.parted 32 l)[i] with
     | nil=>simp
     | cons x r=>rw[e] at he; simp at he
   rw[this,List.append_nil]
   exact hbl
 ·rintro H' ⟨s2,bs,hb,hbl,hbn,hbf⟩
  rw[List.length_map,hll.1,List.take_length] at hbl
  exact k D H' bs (s1.trans s2) hD0 hb (hbl.mono fun b _ o e=>s2 b o e) hbf
def sp_is_readable:Sp:=fun vs H Q _=>∃ (a:Addr) (l:List Nat),vs=[.ref a]∧H a=some (.lst (nb l))∧Q (.bl (Vbreal.plain l)) H
theorem oo{p:Nat→Bool}{l:List Nat}{i c:Nat}(hc:l[i]? = some c)(h:(l.take i).all p=true)(hp:p c=true):(l.take (i+1)).all p=true:=by
 rw[take_snoc hc,List.all_append,h]
 simp[hp]
theorem jz{p:Nat→Bool}{l:List Nat}{i c:Nat}(hc:l[i]? = some c)(hp:p c=false):l.all p=false:=by
 rw[List.all_eq_false]
 exact⟨c,List.mem_of_getElem? hc,by simp[hp]⟩
theorem ok_is_readable(T:Txt K mg Z):a9 P w K mg base CX0 1 Z.nu Z.ny ["line"] (sp_is_readable):=by
 refine T.nX.fn.ok lM (fun vs H Q E h=>?_) (fun cdv A0 outer s H vs Q E hr h=>?_)
 ·revert h; walk_at "len"
 refine⟨_,(ae (cW PassesOwn.never rfl (bD (K:=K) rfl (pv 0)) (aZ (i:=1) lM.nd rfl (Or.inl rfl)) (ah (aP (PW.pt (dJ (aH iA (pv 1) (bM T.c_BLANK) (aM _)) (dw (aH i7 (pv 1) (bM T.c_LAST_SIGN) (aM _))))) (ah (ao fc)) aA))) (ah (ao fc))),?_⟩
 obtain⟨a,l,rfl,ha,k⟩:=h
 refine bB (σ':=[some (.ref a),none]) ?_ rfl
 walk_at "a"
 refine⟨a,rfl,⟨_,SqL.of ha⟩,?_⟩
 refine bQ (K:=K) (a:=a) (xs:=nb l) (fun i σ H'=>∃ v:Option V,σ=[some (.ref a),v]∧H' = H∧Vbreal.plain (l.take i)=true) ⟨_,rfl,rfl,rfl⟩ (fun i σ H' _ ⟨v,_,e,_⟩=>by rw[e]; exact SqL.of ha) ?_ ?_
 ·rintro i y σ H' hi ⟨v,rfl,rfl,hp⟩
  obtain⟨c,hc,rfl⟩:=oj hi
  unfold Vbreal.plain at hp k
  walk_at "a"
  refine w_ite (fun he=>?_) (fun he=>?_)
  ·refine aD ?_
   walk_at "a"
   rw[jz hc (decide_eq_false (by omega))] at k
   exact k
  ·walk_at "a"
   refine w_ite (fun he2=>?_) (fun he2=>?_)
   ·walk_at "a"
    rw[jz hc (decide_eq_false (by omega))] at k
    exact k
   ·walk_at "a"
    exact⟨_,rfl,rfl,oo hc hp (decide_eq_true (by omega))⟩
 ·rintro σ H' ⟨v,rfl,rfl,hp⟩
  rw[aL,List.take_length] at hp
  walk_at "a"
  rw[hp] at k
  exact k
def mn:Sp:=fun vs H Q _=>∃ c:Nat,vs=[.int (c:Int)]∧Q (.bl (Vbreal.digit c)) H
theorem ok_is_digit(T:Txt K mg Z):a9 P w K mg base CX0 1 Z.a_is_digit Z.d_is_digit ["sign"] (mn):=by
 refine T.o7.fn.ok sc_is_digit (fun vs H Q E h=>?_) (fun cdv A0 outer s H vs Q E hr h=>?_)
 ·revert h; walk_at "len"
 refine⟨_,(ah (ao (rb oK oK (bM T.jv) (pv 0) (bM T.c_DIGIT_NINE)))),?_⟩
 obtain⟨c,rfl,k⟩:=h
 refine bB (σ':=[some (.int (c:Int))]) ?_ rfl
 walk_at "a"
 unfold Vbreal.digit at k
 refine w_ite (fun he=>?_) (fun he=>?_)
 ·walk_at "a"
  rw[show decide ((c:Int)≤57)=decide (48≤c∧c≤57) from decide_eq_decide.mpr (by omega)]
  exact k
 ·rw[decide_eq_false (by omega)] at k
  exact k
def gK(c:Nat):Bool:=Vbreal.digit c || (decide (65≤c∧c≤90) || (decide (97≤c∧c≤122) || c==45))
def sp_is_name_sign:Sp:=fun vs H Q _=>∃ c:Nat,vs=[.int (c:Int)]∧Q (.bl (gK c)) H
theorem nameSign_letter{c:Nat}(h:(65≤c∧c≤90)∨(97≤c∧c≤122)):gK c=true:=by
 unfold gK
 rcases h with h | h
 ·simp[h]
 ·simp[h]
theorem nameSign_else{c:Nat}(h:¬ ((65≤c∧c≤90)∨(97≤c∧c≤122))):gK c=(Vbreal.digit c || decide (c=45)):=by
 unfold gK
 rw[decide_eq_false (fun g=>h (.inl g)),decide_eq_false (fun g=>h (.inr g)),Bool.false_or,Bool.false_or]
 rfl
theorem ok_is_name_sign(T:Txt K mg Z):a9 P w K mg base CX0 2 Z.kT Z.kU ["sign"] (sp_is_name_sign):=by
 refine T.lE.fn.ok kd (fun vs H Q E h=>?_) (fun cdv A0 outer s H vs Q E hr h=>?_)
 ·revert h; walk_at "len"
 refine⟨_,(ae (az (i:=1) kd.nd rfl (Or.inl rfl) (pe_or (rb oK oK (bM T.c_UPPER_A) (pv 0) (bM T.c_UPPER_Z)) (qR (rb oK oK (bM T.c_LOWER_A) (pv 0) (bM T.c_LOWER_Z))))) (ah (ao (pe_or (pv 1) (pe_or (ag T.o7 (ok_is_digit T) hr (ab (pv 0) af)) (qR (ko fU (pv 0) (bM T.c_MINUS) (aM _)))))))),?_⟩
 obtain⟨c,rfl,k⟩:=h
 refine bB (σ':=[some (.int (c:Int)),none]) ?_ rfl
 have fin:∀ b:Bool,(b=true↔((65≤c∧c≤90)∨(97≤c∧c≤122)))→if b=true then Q (.bl true) H else tOrV (oM mn [] E0 (eK (fM 0) tNil)) (tOp rEq (fM 0) (tC (.int 45))) [some (.int (c:Int)),some (.bl b)] H Q:=by
  intro b hb
  cases b with
  | true =>
   rw[nameSign_letter (hb.mp rfl)] at k
   refine aD ?_
   exact k
  | false =>
   rw[nameSign_else (fun g=>Bool.false_ne_true (hb.mpr g))] at k
   refine aG ?_
   walk_at "a"
   refine⟨c,rfl,?_⟩
   walk_at "a"
   cases e:Vbreal.digit c with
   | true =>
    rw[e] at k
    refine aD ?_
    exact k
   | false =>
    rw[e,Bool.false_or] at k
    refine aG ?_
    walk_at "a"
    rw[show decide ((c:Int)=45)=decide (c=45) from decide_eq_decide.mpr (by omega)]
    exact k
 have dt:∀ {p:Prop} [Decidable p],(decide p=true↔p):=fun {p} _=>decide_eq_true_iff
 walk_at "a"
 refine w_ite (fun h1=>?_) (fun h1=>?_)
 ·walk_at "a"
  by_cases h2:c≤90
  ·rw[decide_eq_true (show(c:Int)≤90 by omega)]
   refine aD ?_
   walk_at "a"
   exact fin true ⟨fun _=>by omega,fun _=>rfl⟩
  ·rw[decide_eq_false (show ¬ (c:Int)≤90 by omega)]
   refine aG ?_
   walk_at "a"
   refine w_ite (fun h3=>?_) (fun h3=>?_)
   ·walk_at "a"
    exact fin (decide ((c:Int)≤122)) (by rw[dt]; omega)
   ·walk_at "a"
    exact fin false ⟨fun g=>(by cases g),fun _=>by omega⟩
 ·walk_at "a"
  refine aG ?_
  walk_at "a"
  refine w_ite (fun h3=>?_) (fun h3=>?_)
  ·walk_at "a"
   exact fin (decide ((c:Int)≤122)) (by rw[dt]; omega)
  ·walk_at "a"
   exact fin false ⟨fun g=>(by cases g),fun _=>by omega⟩
def sp_is_name:Sp:=fun vs H Q _=>∃ (a:Addr) (l:List Nat),vs=[.ref a]∧H a=some (.lst (nb l))∧Q (.bl (Vbreal.isName l)) H
theorem isName_eq(l:List Nat):Vbreal.isName l=(decide (1≤l.length∧l.length≤12)&&l.all gK):=rfl
theorem ok_is_name(T:Txt K mg Z):a9 P w K mg base CX0 3 Z.a_is_name Z.d_is_name ["word"] (sp_is_name):=by
 refine T.f_is_name.fn.ok sc_is_name (fun vs H Q E h=>?_) (fun cdv A0 outer s H vs Q E hr h=>?_)
 ·revert h; walk_at "len"
 refine⟨_,(ae (aP (PW.pt (dJ (aH iA (aT (aS (K:=K) rfl) rfl T.dE PySem.boot_len (ab (pv 0) af)) aj (aM _)) (dw (aH i7 (aT (aS (K:=K) rfl) rfl T.dE PySem.boot_len (ab (pv 0) af)) (bM T.c_LONGEST_NAME) (aM _))))) (ah (ao fc)) aA) (ae (cW PassesOwn.never rfl (bD (K:=K) rfl (pv 0)) (aZ (i:=1) sc_is_name.nd rfl (Or.inl rfl)) (ah (aP (bR (br (ag T.lE (ok_is_name_sign T) hr (ab (pv 1) af)))) (ah (ao fc)) aA))) (ah (ao fc)))),?_⟩
 obtain⟨a,l,rfl,ha,k⟩:=h
 rw[isName_eq] at k
 refine bB (σ':=[some (.ref a),none]) ?_ rfl
 walk_at "a"
 refine bV (SqL.of ha) ?_
 walk_at "a"
 rw[aL]
 refine w_ite (fun he=>?_) (fun he=>?_)
 ·refine aD ?_
  walk_at "a"
  rw[decide_eq_false (by omega),Bool.false_and] at k
  exact k
 ·walk_at "a"
  refine bV (SqL.of ha) ?_
  walk_at "a"
  rw[aL]
  refine w_ite (fun he2=>?_) (fun he2=>?_)
  ·walk_at "a"
   rw[decide_eq_false (by omega),Bool.false_and] at k
   exact k
  ·rw[decide_eq_true (by omega),Bool.true_and] at k
   walk_at "a"
   refine⟨a,rfl,⟨_,SqL.of ha⟩,?_⟩
   refine bQ (K:=K) (a:=a) (xs:=nb l) (fun i σ H'=>∃ v:Option V,σ=[some (.ref a),v]∧H' = H∧(l.take i).all gK=true) ⟨_,rfl,rfl,rfl⟩ (fun i σ H' _ ⟨v,_,e,_⟩=>by rw[e]; exact SqL.of ha) ?_ ?_
   ·rintro i y σ H' hi ⟨v,rfl,rfl,hp⟩
    obtain⟨c,hc,rfl⟩:=oj hi
    walk_at "a"
    refine⟨c,rfl,?_⟩
    walk_at "a"
    cases e:gK c with
    | true =>
     refine aG ?_
     walk_at "a"
     exact⟨_,rfl,rfl,oo hc hp e⟩
    | false =>
     refine aD ?_
     walk_at "a"
     rw[jz hc e] at k
     exact k
   ·rintro σ H' ⟨v,rfl,rfl,hp⟩
    rw[aL,List.take_length] at hp
    walk_at "a"
    rw[hp] at k
    exact k
def optI:Option Int→V
 | none=>.non
 | some n=>.int n
def sp_read_number:Sp:=fun vs H Q _=>∃ (a:Addr) (w:List Nat),vs=[.ref a]∧H a=some (.lst (nb w))∧Q (optI ((WM.fo w).map Int.ofNat)) H
theorem lQ(T:Txt K mg Z):a9 P w K mg base CX0 2 Z.nz Z.nA ["word"] (sp_read_number):=by
 refine T.iS.fn.ok fu (fun vs H Q E h=>?_) (fun cdv A0 outer s H vs Q E hr h=>?_)
 ·revert h; walk_at "len"
 refine⟨_,(ae (aP (PW.pt (dJ (aH iA (aT (aS (K:=K) rfl) rfl T.dE PySem.boot_len (ab (pv 0) af)) aj (aM _)) (dw (aH i7 (aT (aS (K:=K) rfl) rfl T.dE PySem.boot_len (ab (pv 0) af)) (bM T.c_MOST_DIGITS) (aM _))))) (ah (ao ek)) aA) (ae (aP (PW.pt (pw_and (aH fU (aI (aB (K:=K) rfl) (pv 0) aj (fun _ _=>rfl)) (bM T.jv) (aM _)) (pw_and1 (aH i7 (aT (aS (K:=K) rfl) rfl T.dE PySem.boot_len (ab (pv 0) af)) aj (aM _))))) (ah (ao ek)) aA) (ae (az (i:=1) fu.nd rfl (Or.inl rfl) aj) (ae (cW PassesOwn.never rfl (bD (K:=K) rfl (pv 0)) (aZ (i:=2) fu.nd rfl (Or.inl rfl)) (ae (aP (bR (br (ag T.o7 (ok_is_digit T) hr (ab (pv 2) af)))) (ah (ao ek)) aA) (ah (az (i:=1) fu.nd rfl (Or.inl rfl) (aF cX (aF dM (aF aN (pv 1) aj) (pv 2)) (bM T.jv)))))) (ah (ao (pv 1))))))),?_⟩
 obtain⟨a,w,rfl,ha,k⟩:=h
 rw[WM.readNum_digits] at k
 refine bB (σ':=[some (.ref a),none,none]) ?_ rfl
 have loop:∀ v1:Option V,¬ (w.length<1∨7<w.length)→¬ (w.head? = some 48∧1<w.length) →
   tSeq (tAsg (tC (.int 0)) (gName 1)) (tSeq (tFor (iList K (fM 0)) (gName 2) (tSeq (tIfS (tNot (tB (oM mn [] E0 (eK (fM 2) tNil)))) (tRet (tC .non)) tNext)
    (tAsg (tOp (rI0 fun i j=>.int (i-j)) (tOp (rI0 fun i j=>.int (i+j)) (tOp (rI IntMulOk fun i j=>.int (i*j)) (fM 1) (tC (.int 10))) (fM 2)) (tC (.int 48))) (gName 1)))) (tRet (fM 1))) { nx:=fun _ H'=>Q .non H',rt:=Q } [some (.ref a),v1,none] H:=by
  intro v1 h1 h2
  rw[if_neg h1,if_neg h2] at k
  walk_at "a"
  refine⟨a,rfl,⟨_,SqL.of ha⟩,?_⟩
  refine bQ (K:=K) (a:=a) (xs:=nb w) (fun i σ H'=>∃ (n:Int) (v:Option V),σ=[some (.ref a),some (.int n),v]∧H' = H∧WM.gH (w.drop i) n=WM.gH w 0) ⟨_,_,rfl,rfl,rfl⟩ (fun i σ H' _ ⟨_,v,_,e,_⟩=>by rw[e]; exact SqL.of ha) ?_ ?_
  ·rintro i y σ H' hi ⟨n,v,rfl,rfl,hg⟩
   obtain⟨c,hc,rfl⟩:=oj hi
   rw[drop_cons hc] at hg
   rw[← hg] at k
   have hg':=hg
   rw[WM.gH] at hg'
   walk_at "a"
   refine⟨c,rfl,?_⟩
   walk_at "a"
   cases e:Vbreal.digit c with
   | true =>
    rw[if_pos e] at hg'
    refine aG ?_
    walk_at "a"
    refine cn (.of_right (by decide)) ?_
    walk_at "a"
    exact⟨_,_,rfl,rfl,hg'⟩
   | false =>
    refine aD ?_
    walk_at "a"
    rw[WM.gH,e,if_neg (by decide)] at k
    exact k
  ·rintro σ H' ⟨n,v,rfl,rfl,hg⟩
   rw[aL,List.drop_of_length_le (Nat.le_refl _)] at hg
   rw[← hg] at k
   walk_at "a"
   exact k
 walk_at "a"
 refine bV (SqL.of ha) ?_
 walk_at "a"
 rw[aL]
 refine w_ite (fun he=>?_) (fun he=>?_)
 ·refine aD ?_
  walk_at "a"
  rw[if_pos (by omega)] at k
  exact k
 ·walk_at "a"
  refine bV (SqL.of ha) ?_
  walk_at "a"
  rw[aL]
  refine w_ite (fun he2=>?_) (fun he2=>?_)
  ·walk_at "a"
   rw[if_pos (by omega)] at k
   exact k
  ·have h1:¬ (w.length<1∨7<w.length):=by omega
   walk_at "a"
   obtain⟨c,r,rfl⟩:∃ c r,w=c::r:=by
    cases w with
    | nil=>simp at he
    | cons c r=>exact⟨c,r,rfl⟩
   refine aV (SqL.of ha) (v:=.int (c:Int)) (aE (j:=0) rfl) ?_
   walk_at "a"
   refine w_ite (fun h48=>?_) (fun h48=>?_)
   ·walk_at "a"
    refine bV (SqL.of ha) ?_
    walk_at "a"
    rw[aL]
    refine w_ite (fun hl=>?_) (fun hl=>?_)
    ·walk_at "a"
     rw[if_neg h1,if_pos ⟨by show some c=some 48; congr 1; omega,by omega⟩] at k
     exact k
    ·exact loop none h1 (fun g=>hl (by omega))
   ·refine aG ?_
    exact loop none h1 (fun g=>h48 (by
     have:some c=some 48:=g.1
     have:=Option.some.inj this
     omega))
def sp_read_signed:Sp:=fun vs H Q _=>∃ (a:Addr) (w:List Nat),vs=[.ref a]∧H a=some (.lst (nb w))∧w≠[]∧w.length≤100000∧∀ H',ax H H'→Q (optI (WM.ff w)) H'
theorem cut_from1(c:Nat)(r:List Nat):fN (nb (c::r)) (some 1) none=nb r:=by
 unfold fN
 have e1:HT.sIx (nb (c::r)).length 0 (some 1)=1:=by
  rw[aL]
  simp[HT.sIx]
 have e2:HT.sIx (nb (c::r)).length (nb (c::r)).length none=(nb (c::r)).length:=rfl
 rw[e1,e2,aL]
 show((nb (c::r)).drop 1).take ((c::r).length-1)=nb r
 have:(nb (c::r)).drop 1=nb r:=rfl
 rw[this]
 exact List.take_of_length_le (by rw[aL]; simp)
theorem ok_read_signed(T:Txt K mg Z):a9 P w K mg base CX0 3 Z.nB Z.nD ["word"] (sp_read_signed):=by
 refine T.nY.fn.ok lN (fun vs H Q E h=>?_) (fun cdv A0 outer s H vs Q E hr h=>?_)
 ·revert h; walk_at "len"
 refine⟨_,(ae (aP (aH qZ (aI (aB (K:=K) rfl) (pv 0) aj (fun _ _=>rfl)) (bM T.c_MINUS) (aM _)) (ah (ao (ag T.iS (lQ T) hr (ab (pv 0) af)))) aA) (ae (az (i:=1) lN.nd rfl (Or.inl rfl) (ag T.iS (lQ T) hr (ab (bg (bj (K:=K) rfl) (pv 0) (bc aj) cD) af))) (ae (aP (PW.pt (dJ (cN (cV (pv 1))) (dw (aH fU (pv 1) aj (aM _))))) (ah (ao ek)) aA) (ah (ao (oJ iO (pv 1))))))),?_⟩
 obtain⟨a,w,rfl,ha,hne,hz,k⟩:=h
 obtain⟨c,r,rfl⟩:∃ c r,w=c::r:=by
  cases w with
  | nil=>exact absurd rfl hne
  | cons c r=>exact⟨c,r,rfl⟩
 unfold WM.ff at k
 refine bB (σ':=[some (.ref a),none]) ?_ rfl
 walk_at "a"
 refine aV (SqL.of ha) (v:=.int (c:Int)) (aE (j:=0) rfl) ?_
 walk_at "a"
 refine cG (fun he=>?_) (fun he=>?_)
 ·walk_at "a"
  refine⟨a,c::r,rfl,ha,?_⟩
  have k:=k H (ax.refl H)
  rw[if_neg (by show ¬ some c=some 45; intro g; have:=Option.some.inj g; omega)] at k
  exact k
 ·have hc:(c::r).head? = some 45:=by show some c=some 45; congr 1; omega
  rw[if_pos hc] at k
  walk_at "a"
  refine d8 (SqL.of ha) fun p hp=>?_
  rw[cut_from1]
  walk_at "a"
  refine⟨p,r,rfl,ai,?_⟩
  have k:=k _ (ax.new (o:=.lst (nb r)) hp)
  have er:(c::r).tail=r:=rfl
  rw[er] at k
  walk_at "a"
  cases e:WM.fo r with
  | none =>
   rw[e] at k
   refine w_ite (fun _=>?_) (fun g=>absurd rfl g)
   refine aD ?_
   walk_at "a"
   exact k
  | some n =>
   rw[e] at k
   dsimp only at k
   show if decide (V.int (Int.ofNat n) = .non)=true then _ else _
   refine w_ite (fun g=>(by cases g)) (fun _=>?_)
   show(tTest (tOp rEq (fM 1) (tC (.int 0)))) [some (.ref a),some (.int (Int.ofNat n))] _ _
   walk_at "a"
   refine w_ite (fun g=>?_) (fun g=>?_)
   ·have:n=0:=by have:(n:Int)=0:=g; omega
    rw[if_pos this] at k
    walk_at "a"
    exact k
   ·have:¬ n=0:=by intro z; exact g (by rw[z]; rfl)
    rw[if_neg this] at k
    walk_at "a"
    exact⟨Int.ofNat n,rfl,k⟩
def fA:Sp:=fun vs H Q _=>∃ (a:Addr) (w:List Nat) (lo hi:Int),vs=[.ref a,.int lo,.int hi]∧H a=some (.lst (nb w))∧w≠[]∧w.length≤100000∧∀ H',ax H H'→Q (optI (WM.dD w lo hi)) H'
theorem eC(T:Txt K mg Z):a9 P w K mg base CX0 4 Z.nE Z.nF ["word", "least", "most"] (fA):=by
 refine T.d6.fn.ok lO (fun vs H Q E h=>?_) (fun cdv A0 outer s H vs Q E hr h=>?_)
 ·revert h; walk_at "len"
 refine⟨_,(ae (az (i:=3) lO.nd rfl (Or.inl rfl) (ag T.nY (ok_read_signed T) hr (ab (pv 0) af))) (ae (aP (PW.pt (dJ (cN (cV (pv 3))) (dJ (aH iA (pv 3) (pv 1) (aM _)) (dw (aH i7 (pv 3) (pv 2) (aM _)))))) (ah (ao ek)) aA) (ah (ao (pv 3))))),?_⟩
 obtain⟨a,w,lo,hi,rfl,ha,hne,hz,k⟩:=h
 refine bB (σ':=[some (.ref a),some (.int lo),some (.int hi),none]) ?_ rfl
 walk_at "a"
 refine⟨a,w,rfl,ha,hne,hz,fun H' s'=>?_⟩
 have k:=k H' s'
 unfold WM.dD at k
 walk_at "a"
 cases e:WM.ff w with
 | none =>
  rw[e] at k
  refine w_ite (fun _=>?_) (fun g=>absurd rfl g)
  refine aD ?_
  walk_at "a"
  exact k
 | some n =>
  rw[e] at k
  dsimp only at k
  show if decide (V.int n = .non)=true then _ else _
  refine w_ite (fun g=>(by cases g)) (fun _=>?_)
  show(tOr (tTest (tOp (rI0 fun i j=>.bl (decide (i<j))) (fM 3) (fM 1))) (tTest (tOp (rI0 fun i j=>.bl (decide (j<i))) (fM 3) (fM 2)))) [some (.ref a),some (.int lo),some (.int hi),some (.int n)] _ _
  walk_at "a"
  refine w_ite (fun g=>?_) (fun g=>?_)
  ·rw[if_pos (.inl g)] at k
   refine aD ?_
   walk_at "a"
   exact k
  ·walk_at "a"
   refine w_ite (fun g2=>?_) (fun g2=>?_)
   ·rw[if_pos (.inr g2)] at k
    walk_at "a"
    exact k
   ·rw[if_neg (by omega)] at k
    walk_at "a"
    exact k
def eR:List Nat→List (List Nat)→List Nat
 | l,[]=>l
 | l,w::r=>eR ((if 0<l.length then l++[32] else l)++w) r
theorem joinGo_eq:∀ (r:List (List Nat)) (l:List Nat),l≠[]→eR l r=match r with | []=>l | _::_=>l++32::Vbreal.joined r
 | [],l,_=>rfl
 | [w],l,h=>by
  unfold eR
  rw[if_pos (by cases l; exact absurd rfl h; simp)]
  unfold eR
  simp[Vbreal.joined]
 | w::v::r,l,h=>by
  have hl:0<l.length:=by cases l; exact absurd rfl h; simp
  rw[eR,if_pos hl,joinGo_eq (v::r) _ (by simp)]
  simp[Vbreal.joined]
theorem joinGo_joined{w:List Nat}{r:List (List Nat)}(h:w≠[]):eR [] (w::r)=Vbreal.joined (w::r):=by
 rw[eR,if_neg (by simp),List.nil_append,joinGo_eq r w h]
 cases r with
 | nil=>rfl
 | cons v r=>rfl
def total(ls:List (List Nat)):Nat:=(ls.map fun l=>l.length+1).sum
theorem ph(w:List Nat)(r:List (List Nat)):total (w::r)=w.length+1+total r:=by unfold total; rw[List.map_cons,List.sum_cons]
def sp_line_of:Sp:=fun vs H Q _=>∃ (a:Addr) (as:List Addr) (w:List Nat) (r:List (List Nat)),vs=[.ref a]∧H a=some (.lst (as.map V.ref))∧LL H as (w::r)∧w≠[]∧total (w::r)≤100000∧cH H Q (nb (Vbreal.line (w::r)))
theorem total_drop{ls:List (List Nat)}{i:Nat}{w:List Nat}(h:ls[i]? = some w):total (ls.drop i)=w.length+1+total (ls.drop (i+1)):=by
 rw[drop_cons h,ph]
theorem fQ{as:List Addr}{i:Nat}{y:V}(hi:(as.map V.ref)[i]? = some y):∃ c,as[i]? = some c∧y=V.ref c:=by
 rw[List.getElem?_map] at hi
 cases e:as[i]? with
 | none=>rw[e] at hi; cases hi
 | some c=>rw[e] at hi; exact⟨c,rfl,(Option.some.inj hi).symm⟩
theorem ok_line_of(T:Txt K mg Z):a9 P w K mg base CX0 1 Z.a_line_of Z.d_line_of ["words"] (sp_line_of):=by
 refine T.f_line_of.fn.ok pf (fun vs H Q E h=>?_) (fun cdv A0 outer s H vs Q E hr h=>?_)
 ·revert h; walk_at "len"
 refine⟨_,(ae (az (i:=1) pf.nd rfl (Or.inl rfl) (aJ af)) (ae (cW PassesOwn.never rfl (bD (K:=K) rfl (pv 0)) (aZ (i:=2) pf.nd rfl (Or.inl rfl)) (ae (aP (aH i7 (aT (aS (K:=K) rfl) rfl T.dE PySem.boot_len (ab (pv 1) af)) aj (aM _)) (ah (dk (fJ (K:=K) rfl PySem.F.plainAttrs_list PySem.F.slot_list_append PySem.F.type_list_append fm (pv 1) (ab (bM T.c_BLANK) af)))) aA) (ah (dk (fJ (K:=K) rfl PySem.F.plainAttrs_list PySem.F.slot_list_extend PySem.F.type_list_extend g7 (pv 1) (ab (pv 2) af)))))) (ae (dk (fJ (K:=K) rfl PySem.F.plainAttrs_list PySem.F.slot_list_append PySem.F.type_list_append fm (pv 1) (ab (bM T.c_LINE_END) af))) (ah (ao (pv 1)))))),?_⟩
 obtain⟨a,as,w,r,rfl,ha,hll,hw,hz,k⟩:=h
 refine bB (σ':=[some (.ref a),none,none]) ?_ rfl
 walk_at "a"
 refine⟨Nat.zero_le _,fun L hL=>?_⟩
 walk_at "a"
 refine⟨a,rfl,⟨_,SqL.of (ax.new hL _ _ ha)⟩,?_⟩
 refine bQ (K:=K) (a:=a) (xs:=as.map V.ref) (fun i σ H'=>∃ (l:List Nat) (v:Option V),σ=[some (.ref a),some (.ref L),v]∧ax H H'∧H' L=some (.lst (nb l))∧eR l ((w::r).drop i)=eR [] (w::r)∧l.length+total ((w::r).drop i)≤100000) ⟨[],_,rfl,ax.new hL,ai,rfl,by simpa using hz⟩ (fun i σ H' _ ⟨_,v,_,e,_⟩=>SqL.of (e _ _ ha)) ?_ ?_
 ·rintro i y σ H' hi ⟨l,v,rfl,s',hl,hg,hn⟩
  obtain⟨c,hc,rfl⟩:=fQ hi
  have hil:i<(w::r).length:=by rw[← hll.1]; exact(List.getElem?_eq_some_iff.mp hc).1
  have hpc:=hll.2 i c _ hc (List.getElem?_eq_getElem hil)
  rw[total_drop (List.getElem?_eq_getElem hil)] at hn
  rw[drop_cons (List.getElem?_eq_getElem hil),eR] at hg
  have hcL:c≠L:=aC hpc hL
  generalize (w::r)[i]=z at *
  have fin:∀ (l2:List Nat) (H2:Hp),ax H H2→H2 L=some (.lst (nb l2))→l2.length≤l.length+1→eR (l2++z) ((w::r).drop (i+1))=eR [] (w::r) →
    tDrop (tBM K "list" rExtend (fM 1) (eK (fM 2) tNil)) { nx:=fun σ H'=>∃ (l:List Nat) (v:Option V),σ=[some (.ref a),some (.ref L),v]∧ax H H'∧H' L=some (.lst (nb l))∧eR l ((w::r).drop (i+1))=eR [] (w::r)∧l.length+total ((w::r).drop (i+1))≤100000,rt:=Q,bk:=fun σ H=>tSeq (tDrop (tBM K "list" rAppend (fM 1) (eK (tC (V.int 10)) tNil))) (tRet (fM 1)) { nx:=fun _ H'=>Q .non H',rt:=Q } σ H,ct:=fun σ H'=>∃ (l:List Nat) (v:Option V),σ=[some (.ref a),some (.ref L),v]∧ax H H'∧H' L=some (.lst (nb l))∧eR l ((w::r).drop (i+1))=eR [] (w::r)∧l.length+total ((w::r).drop (i+1))≤100000 } [some (.ref a),some (.ref L),some (.ref c)] H2:=by
   intro l2 H2 s2 hL2 hlen hg2
   walk_at "a"
   refine⟨ty_list (SqL.of hL2),?_⟩
   walk_at "a"
   refine ji hL2 (s2 _ _ hpc) (by rw[aL,aL,aw]; omega) ?_
   exact⟨l2++z,_,rfl,s2.dB hL,by rw[ai,eL],hg2,by rw[List.length_append]; omega⟩
  walk_at "a"
  refine bV (SqL.of hl) ?_
  walk_at "a"
  rw[aL]
  refine w_ite (fun he=>?_) (fun he=>?_)
  ·rw[if_pos (by omega)] at hg
   walk_at "a"
   refine⟨ty_list (SqL.of hl),?_⟩
   walk_at "a"
   refine gF hl (by rw[aL,aw]; omega) ?_
   exact fin (l++[32]) _ (s'.dB hL) (by rw[ai,eL]; rfl) (by simp) hg
  ·rw[if_neg (by omega)] at hg
   exact fin l _ s' hl (by omega) hg
 ·rintro σ H' ⟨l,v,rfl,s',hl,hg,hn⟩
  rw[List.length_map,hll.1,List.drop_of_length_le (Nat.le_refl _),eR,joinGo_joined hw] at hg
  walk_at "a"
  refine⟨ty_list (SqL.of hl),?_⟩
  walk_at "a"
  refine gF hl (by rw[aL,aw]; omega) ?_
  walk_at "a"
  refine k L _ (s'.dB hL) hL ?_
  rw[ai,hg]
  unfold Vbreal.line
  rw[eL]
  rfl
open TL (tl)
theorem tl_int(n:Int):tl (Str.ofString (toString n))=Vbreal.shownInt n:=by
 rw[TL.lW]
 unfold Vbreal.shownInt Vbreal.decimal Vbreal.text
 cases n with
 | ofNat m=>rfl
 | negSucc m =>
  have e:toString (Int.negSucc m) = "-" ++ Nat.repr (m+1):=rfl
  rw[e,String.toList_append,List.map_append,if_pos (by omega)]
  rfl
def tellV(q:Rat):List V:=.int ((Vbreal.shownFrac (WM.F q)).length:Int)::nb (Vbreal.shownFrac (WM.F q))
def sp_tell_ratio(Z:Ad):Sp:=fun vs H Q _=>∃ (a:Addr) (q:Rat),vs=[.ref a]∧a7 Z H a q∧WM.Bd 12900 q∧cH H Q (tellV q)
theorem cx(T:Txt K mg Z):a9 P w K mg base CX0 2 Z.qc Z.qd ["ratio"] (sp_tell_ratio Z):=by
 refine T.cz.fn.ok og (fun vs H Q E h=>?_) (fun cdv A0 outer s H vs Q E hr h=>?_)
 ·revert h; walk_at "len"
 refine⟨_,(ae (az (i:=1) og.nd rfl (Or.inl rfl) (ag T.dU (dP T) hr (ab (aF op_add_strN (aF op_add_strN (i8 fB rfl T.n_str ja (ab (ak (K:=K) rfl (pv 0) rfl) af)) pe_str) (i8 fB rfl T.n_str ja (ab (ak (K:=K) rfl (pv 0) rfl) af))) af))) (ah (ao (aF jf (aJ (ab (aT (aS (K:=K) rfl) rfl T.dE PySem.boot_len (ab (pv 1) af)) af)) (pv 1))))),?_⟩
 obtain⟨a,q,rfl,ha,hb,k⟩:=h
 have l1:=mz hb.1
 have l2:=mz (Bd.den hb)
 have el:(Str.ofString "/").length=1:=rfl
 have e1:(Str.ofString (toString q.num)++Str.ofString "/" ++ Str.ofString (toString (q.den:Int))).length=(Str.ofString (toString q.num)).length+1+(Str.ofString (toString (q.den:Int))).length:=by
  rw[strLen_append,strLen_append,el]
 have et:(Str.ofString (toString q.num)++Str.ofString "/" ++ Str.ofString (toString (q.den:Int))).cps.toList=Vbreal.shownFrac (WM.F q):=by
  show tl _=_
  rw[TL.tl_append,TL.tl_append,tl_int,tl_int]
  unfold Vbreal.shownFrac
  have e3:Vbreal.shownInt ((q.den:Nat):Int)=Vbreal.decimal q.den:=by
   unfold Vbreal.shownInt
   rw[if_neg (by omega),Int.natAbs_natCast]
  rw[e3]
  show _++tl (Str.ofString "/")++_=_
  rw[TL.lW,List.append_assoc]
  rfl
 refine bB (σ':=[some (.ref a),none]) ?_ rfl
 walk_at "a"
 refine b6 ha T ?_
 walk_at "a"
 refine w_str hb.1 ?_
 walk_at "a"
 refine w_addStr (by rw[aw,el]; omega) ?_
 walk_at "a"
 refine aY ha T ?_
 walk_at "a"
 refine w_str (Bd.den hb) ?_
 walk_at "a"
 refine w_addStr (by rw[aw,strLen_append,el]; omega) ?_
 walk_at "a"
 refine⟨_,rfl,?_,fun p H1 s1 hp1 hp=>?_⟩
 ·show Str.length _≤_
  rw[e1]; omega
 ·rw[et] at hp
  walk_at "a"
  refine bV (SqL.of hp) ?_
  walk_at "a"
  refine⟨by show 1≤sizeLine; rw[aw]; omega,fun p2 hp2=>?_⟩
  have hpp:p≠p2:=aC hp hp2
  have hlen:(Vbreal.shownFrac (WM.F q)).length≤30000:=by
   rw[← et]
   have:(Str.ofString (toString q.num)++Str.ofString "/" ++ Str.ofString (toString (q.den:Int))).cps.toList.length=(Str.ofString (toString q.num)++Str.ofString "/" ++ Str.ofString (toString (q.den:Int))).length:=by
    rw[TL.len_tl]
   rw[this,e1]; omega
  walk_at "a"
  refine rf ai (by rw[ay hpp]; exact hp) (by rw[aL,aw]; simp; omega) fun p3 hp3=>?_
  have h3:H1 p3=none:=by
   rw[ay] at hp3
   ·exact hp3
   ·rintro rfl
    rw[ai] at hp3; cases hp3
  refine k p3 _ ((s1.trans (ax.new hp2)).trans (ax.new hp3)) (s1.free h3) ?_
  rw[ai,aL]
  rfl
def winF(x y:V):List (Str×V):=eD "north" y (eD "east" x [])
def sp_Wind(Z:Ad):Sp:=fun vs H Q _=>∃ (p dx:Addr) (x y:V),vs=[.ref p,x,y]∧H p=some (.ins Z.CWind dx [])∧Q .non (upd H p (.ins Z.CWind dx (winF x y)))
theorem gO(T:Txt K mg Z):a9 P w K mg base CX0 1 Z.a_Wind_init Z.d_Wind_init ["self", "east", "north"] (sp_Wind Z):=by
 refine T.eP.fn.ok sc_Wind_init (fun vs H Q E h=>?_) (fun cdv A0 outer s H vs Q E hr h=>?_)
 ·revert h; walk_at "len"
 refine⟨_,(ae (cB (K:=K) rfl (pv 0) (pv 1) rfl) (ah (cB (K:=K) rfl (pv 0) (pv 2) rfl))),?_⟩
 obtain⟨p,dx,x,y,rfl,hp,k⟩:=h
 refine bB (σ':=[some (.ref p),some x,some y]) ?_ rfl
 walk_at "a"
 refine dh hp T.eP.cl T.qD (by show 0<1000; decide) ?_
 walk_at "a"
 refine dh ai T.eP.cl T.nV (by show 1<1000; decide) ?_
 rw[bO]
 exact k
def gM(Z:Ad)(H:Hp)(a:Addr)(w:Rat×Rat):Prop:=∃ dx x y,H a=some (.ins Z.CWind dx (winF (.ref x) (.ref y)))∧a7 Z H x w.1∧a7 Z H y w.2
theorem gM.mono{Z:Ad}{H H':Hp}{a:Addr}{w:Rat×Rat}(s:ax H H')(h:gM Z H a w):gM Z H' a w:=by
 obtain⟨dx,x,y,h1,h2,h3⟩:=h
 exact⟨dx,x,y,s _ _ h1,h2.mono s,h3.mono s⟩
theorem mk_wind{Z:Ad}{H:Hp}{Q:Addr→Hp→Prop}{E:XK}{x y:Addr}{w:Rat×Rat}(hx:a7 Z H x w.1)(hy:a7 Z H y w.2)(k:∀ p H',ax H H'→gM Z H' p w→Q p H') :
  ∀ p dx,H p=none→H dx=none→dx≠p→sp_Wind Z [.ref p,.ref x,.ref y] (upd (upd H dx (.own p)) p (.ins Z.CWind dx [])) (fun v H2=>v = .non∧Q p H2) E:=by
 intro p dx hp hdx hne
 have s:ax H (upd (upd H dx (.own p)) p (.ins Z.CWind dx (winF (.ref x) (.ref y)))):=by
  intro c o e
  rw[ay (aC e hp),ay (aC e hdx)]
  exact e
 refine⟨p,dx,.ref x,.ref y,rfl,ai,rfl,?_⟩
 rw[bO]
 exact k p _ s ⟨dx,x,y,ai,hx.mono s,hy.mono s⟩
section
variable {K:PySem.W.Frag}{mg:Str→Option Value}{Z:Ad}{H:Hp}{Q:VK}
theorem dN{a:Addr}{w:Rat×Rat}(h:gM Z H a w)(T:Txt K mg Z)(k:∀ x,a7 Z H x w.1→Q (.ref x) H):Fld K (.ref a) "east" H Q:=by
 obtain⟨dx,x,y,h,h1,h2⟩:=h
 exact d4 h T.eP.cl T.qD (bF (by decide +kernel) dZ) (k x h1)
theorem cY{a:Addr}{w:Rat×Rat}(h:gM Z H a w)(T:Txt K mg Z)(k:∀ x,a7 Z H x w.2→Q (.ref x) H):Fld K (.ref a) "north" H Q:=by
 obtain⟨dx,x,y,h,h1,h2⟩:=h
 exact d4 h T.eP.cl T.nV dZ (k y h2)
end
def sp_is_calm(Z:Ad):Sp:=fun vs H Q _=>∃ (a:Addr) (w:Rat×Rat),vs=[.ref a]∧gM Z H a w∧Q (.bl (decide (w.1.num=0∧w.2.num=0))) H
theorem ok_is_calm(T:Txt K mg Z):a9 P w K mg base CX0 1 Z.a_is_calm Z.d_is_calm ["wind"] (sp_is_calm Z):=by
 refine T.f_is_calm.fn.ok sc_is_calm (fun vs H Q E h=>?_) (fun cdv A0 outer s H vs Q E hr h=>?_)
 ·revert h; walk_at "len"
 refine⟨_,(ah (ao (pe_and (ko fU (ak (K:=K) rfl (ak (K:=K) rfl (pv 0) rfl) rfl) aj (aM _)) (qR (ko fU (ak (K:=K) rfl (ak (K:=K) rfl (pv 0) rfl) rfl) aj (aM _)))))),?_⟩
 obtain⟨a,w,rfl,ha,k⟩:=h
 refine bB (σ':=[some (.ref a)]) ?_ rfl
 walk_at "a"
 refine dN ha T fun x hx=>?_
 refine b6 hx T ?_
 walk_at "a"
 refine w_ite (fun h1=>?_) (fun h1=>?_)
 ·walk_at "a"
  refine cY ha T fun y hy=>?_
  refine b6 hy T ?_
  walk_at "a"
  rw[show decide (w.2.num=0)=decide (w.1.num=0∧w.2.num=0) from decide_eq_decide.mpr ⟨fun g=>⟨h1,g⟩,fun g=>g.2⟩]
  exact k
 ·rw[decide_eq_false (fun g=>h1 g.1)] at k
  exact k
abbrev Sn:=Vbreal.Seen
abbrev Stn:=Vbreal.Station
def siF(s:Sn):List (Str×V):=eD "north" (.int s.n) (eD "east" (.int s.e) (eD "moment" (.int (s.t:Int)) []))
def c9(Z:Ad)(H:Hp)(a:Addr)(s:Sn):Prop:=∃ dx,H a=some (.ins Z.kD dx (siF s))
theorem c9.mono{Z:Ad}{H H':Hp}{a:Addr}{s:Sn}(k:ax H H')(h:c9 Z H a s):c9 Z H' a s:=by
 obtain⟨dx,h⟩:=h
 exact⟨dx,k _ _ h⟩
section
variable {K:PySem.W.Frag}{mg:Str→Option Value}{Z:Ad}{H:Hp}{Q:VK}
theorem bZ{a:Addr}{s:Sn}(h:c9 Z H a s)(T:Txt K mg Z)(k:Q (.int (s.t:Int)) H):Fld K (.ref a) "moment" H Q:=by
 obtain⟨dx,h⟩:=h
 exact d4 h T.eQ.cl T.j3 (bF (by decide +kernel) (bF (by decide +kernel) dZ)) k
theorem ki{a:Addr}{s:Sn}(h:c9 Z H a s)(T:Txt K mg Z)(k:Q (.int s.e) H):Fld K (.ref a) "east" H Q:=by
 obtain⟨dx,h⟩:=h
 exact d4 h T.eQ.cl T.nW (bF (by decide +kernel) dZ) k
theorem iM{a:Addr}{s:Sn}(h:c9 Z H a s)(T:Txt K mg Z)(k:Q (.int s.n) H):Fld K (.ref a) "north" H Q:=by
 obtain⟨dx,h⟩:=h
 exact d4 h T.eQ.cl T.lx dZ k
end
structure Rec where
 p:Addr
 nm:Addr
 sl:Addr
 ss:List Addr
def stF(nm x y sl:V):List (Str×V):=eD "seen" sl (eD "y" y (eD "x" x (eD "name" nm [])))
def SiAll(Z:Ad)(H:Hp)(ss:List Addr)(l:List Sn):Prop:=ss.length=l.length∧∀ (i:Nat) (a:Addr) (s:Sn),ss[i]? = some a→l[i]? = some s→c9 Z H a s
structure eH (Z:Ad) (H:Hp) (r:Rec) (s:Stn):Prop where
 ob:∃ dx,H r.p=some (.ins Z.eI dx (stF (.ref r.nm) (.int s.place.x) (.int s.place.y) (.ref r.sl)))
 nm:H r.nm=some (.lst (nb s.name))
 sl:H r.sl=some (.lst (r.ss.map V.ref))
 si:SiAll Z H r.ss s.seen
 ne:r.nm≠r.sl
theorem eH.mono{Z:Ad}{H H':Hp}{r:Rec}{s:Stn}(k:ax H H')(h:eH Z H r s):eH Z H' r s:=by
 obtain⟨dx,ho⟩:=h.ob
 exact⟨⟨dx,k _ _ ho⟩,k _ _ h.nm,k _ _ h.sl,⟨h.si.1,fun i a z ha hz=>(h.si.2 i a z ha hz).mono k⟩,h.ne⟩
section
variable {K:PySem.W.Frag}{mg:Str→Option Value}{Z:Ad}{H:Hp}{Q:VK}
theorem b8{r:Rec}{s:Stn}(h:eH Z H r s)(T:Txt K mg Z)(k:Q (.ref r.sl) H):Fld K (.ref r.p) "seen" H Q:=by
 obtain⟨dx,ho⟩:=h.ob
 exact d4 ho T.du.cl T.j5 dZ k
theorem rA{r:Rec}{s:Stn}(h:eH Z H r s)(T:Txt K mg Z)(k:Q (.int s.place.x) H):Fld K (.ref r.p) "x" H Q:=by
 obtain⟨dx,ho⟩:=h.ob
 exact d4 ho T.du.cl T.qE (bF (by decide +kernel) (bF (by decide +kernel) dZ)) k
theorem rB{r:Rec}{s:Stn}(h:eH Z H r s)(T:Txt K mg Z)(k:Q (.int s.place.y) H):Fld K (.ref r.p) "y" H Q:=by
 obtain⟨dx,ho⟩:=h.ob
 exact d4 ho T.du.cl T.qF (bF (by decide +kernel) dZ) k
theorem iN{r:Rec}{s:Stn}(h:eH Z H r s)(T:Txt K mg Z)(k:Q (.ref r.nm) H):Fld K (.ref r.p) "name" H Q:=by
 obtain⟨dx,ho⟩:=h.ob
 exact d4 ho T.du.cl T.j4 (bF (by decide +kernel) (bF (by decide +kernel) (bF (by decide +kernel) dZ))) k
end
def betw (o z : Sn) (m : Rat) : Rat × Rat :=
  (Rat.divInt (o.e * (((z.t : Int) - o.t) * m.den - (m.num - (o.t : Int) * m.den)) + z.e * (m.num - (o.t : Int) * m.den)) (((z.t : Int) - o.t) * m.den),
   Rat.divInt (o.n * (((z.t : Int) - o.t) * m.den - (m.num - (o.t : Int) * m.den)) + z.n * (m.num - (o.t : Int) * m.den)) (((z.t : Int) - o.t) * m.den))
def RetW(Z:Ad)(H:Hp)(Q:VK)(w:Rat×Rat):Prop:=∀ p H',ax H H'→gM Z H' p w→Q (.ref p) H'
def sp_between(Z:Ad):Sp:=fun vs H Q _=>∃ (a b c:Addr) (o z:Sn) (m:Rat) (k:Nat),vs=[.ref a,.ref b,.ref c]∧c9 Z H a o∧c9 Z H b z∧a7 Z H c m∧WM.jk o∧WM.jk z∧o.t<z.t∧WM.Bd k m∧k≤8000∧RetW Z H Q (betw o z m)
theorem aO{a b:Int}{j k:Nat}(ha:a.natAbs<2^j)(hb:b.natAbs<2^k):(a*b).natAbs<2^(j+k):=by
 rw[Int.natAbs_mul]; exact fi ha hb
theorem fj{a b:Int}{j:Nat}(ha:a.natAbs<2^j)(hb:b.natAbs<2^j):(a-b).natAbs<2^(j+1):=by
 rw[Nat.pow_succ]; omega
theorem pk{a b:Int}{j:Nat}(ha:a.natAbs<2^j)(hb:b.natAbs<2^j):(a+b).natAbs<2^(j+1):=by
 rw[Nat.pow_succ]; omega
theorem bA{a j k:Nat}(h:a<2^j)(hk:j≤k):a<2^k:=Nat.lt_of_lt_of_le h (Nat.pow_le_pow_right (by decide) hk)
theorem ok_wind_between(T:Txt K mg Z):a9 P w K mg base CX0 4 Z.kY Z.kZ ["earlier", "later", "moment"] (sp_between Z):=by
 refine T.lF.fn.ok dW (fun vs H Q E h=>?_) (fun cdv A0 outer s H vs Q E hr h=>?_)
 ·revert h; walk_at "len"
 refine⟨_,(ae (az (i:=3) dW.nd rfl (Or.inl rfl) (aF aN (aF cX (ak (K:=K) rfl (pv 1) rfl) (ak (K:=K) rfl (pv 0) rfl)) (ak (K:=K) rfl (pv 2) rfl))) (ae (az (i:=4) dW.nd rfl (Or.inl rfl) (aF cX (ak (K:=K) rfl (pv 2) rfl) (aF aN (ak (K:=K) rfl (pv 0) rfl) (ak (K:=K) rfl (pv 2) rfl)))) (ae (az (i:=5) dW.nd rfl (Or.inl rfl) (ck T.aQ.make (bx T) (hr.mono (by decide)) rfl T.aQ.mg T.aQ.bind .nil eA (ab (aF dM (aF aN (ak (K:=K) rfl (pv 0) rfl) (aF cX (pv 3) (pv 4))) (aF aN (ak (K:=K) rfl (pv 1) rfl) (pv 4))) (ab (pv 3) af)))) (ae (az (i:=6) dW.nd rfl (Or.inl rfl) (ck T.aQ.make (bx T) (hr.mono (by decide)) rfl T.aQ.mg T.aQ.bind .nil eA (ab (aF dM (aF aN (ak (K:=K) rfl (pv 0) rfl) (aF cX (pv 3) (pv 4))) (aF aN (ak (K:=K) rfl (pv 1) rfl) (pv 4))) (ab (pv 3) af)))) (ah (ao (ck T.eP.make (gO T) (hr.mono (by decide)) rfl T.eP.mg T.eP.bind .nil eA (ab (pv 5) (ab (pv 6) af))))))))),?_⟩
 obtain⟨a,b,c,o,z,m,j,rfl,ha,hb,hc,so,sz,hlt,bm,hj,k⟩:=h
 have t1:=so.t
 have t2:=sz.t
 have hs17:((z.t:Int)-(o.t:Int)).natAbs<2^17:=by
  show _<131072
  omega
 have ho17:((o.t:Nat):Int).natAbs<2^17:=by
  show _<131072
  omega
 have bd:=Bd.den bm
 have hspan:(((z.t:Int)-o.t)*m.den).natAbs<2^(17+j):=aO hs17 bd
 have hotm:(((o.t:Nat):Int)*m.den).natAbs<2^(17+j):=aO ho17 bd
 have hgone:(m.num-((o.t:Nat):Int)*m.den).natAbs<2^(17+j+1):=fj (bA bm.1 (by omega)) hotm
 have hdiff:(((z.t:Int)-o.t)*m.den-(m.num-((o.t:Nat):Int)*m.den)).natAbs<2^(17+j+1+1):=fj (bA hspan (by omega)) hgone
 have hsp0:((z.t:Int)-o.t)*m.den≠0:=by
  have:=m.den_pos
  exact Int.mul_ne_zero (by omega) (by omega)
 have e10:∀ x:Int,-1000≤x∧x≤1000→x.natAbs<2^10:=fun x h=>by
  show _<1024
  omega
 refine bB (σ':=[some (.ref a),some (.ref b),some (.ref c),none,none,none,none]) ?_ rfl
 walk_at "a"
 refine bZ hb T ?_
 walk_at "a"
 refine bZ ha T ?_
 walk_at "a"
 refine aY hc T ?_
 refine cn (bI hs17 bd (by omega)) ?_
 walk_at "a"
 refine b6 hc T ?_
 walk_at "a"
 refine bZ ha T ?_
 walk_at "a"
 refine aY hc T ?_
 refine cn (bI ho17 bd (by omega)) ?_
 walk_at "a"
 refine ki ha T ?_
 walk_at "a"
 refine cn (bI (e10 _ so.e) hdiff (by omega)) ?_
 walk_at "a"
 refine ki hb T ?_
 walk_at "a"
 refine cn (bI (e10 _ sz.e) hgone (by omega)) ?_
 walk_at "a"
 refine dF hsp0 (bA hspan (by omega)) fun x H1 s1 hx=>?_
 walk_at "a"
 refine iM (ha.mono s1) T ?_
 walk_at "a"
 refine cn (bI (e10 _ so.n) hdiff (by omega)) ?_
 walk_at "a"
 refine iM (hb.mono s1) T ?_
 walk_at "a"
 refine cn (bI (e10 _ sz.n) hgone (by omega)) ?_
 walk_at "a"
 refine dF hsp0 (bA hspan (by omega)) fun y H2 s2 hy=>?_
 walk_at "a"
 exact mk_wind (w:=betw o z m) (hx.mono s2) hy fun p H3 s3 hp=>k p H3 ((s1.trans s2).trans s3) hp
def OptW(Z:Ad)(H:Hp)(v:V):Option (Rat×Rat)→Prop
 | none=>v = .non
 | some w=>∃ p,v = .ref p∧gM Z H p w
def sp_station_wind(Z:Ad):Sp:=fun vs H Q _=>∃ (r:Rec) (c:Addr) (s:Stn) (m:Rat) (k:Nat),vs=[.ref r.p,.ref c]∧eH Z H r s∧WM.StOk s∧a7 Z H c m∧WM.Bd k m∧k≤8000∧∀ v H',ax H H'→OptW Z H' v (WM.bL s.seen m)→Q v H'
theorem windGo_cons(m:Rat)(old:Option Sn)(z:Sn)(r:List Sn):WM.cO m old (z::r)=if (z.t:Int)*m.den=m.num then some ((z.e:Rat),(z.n:Rat)) else if m.num<(z.t:Int)*m.den then(match old with
   | none=>none
   | some o=>some (betw o z m)) else WM.cO m (some z) r:=by
 cases old<;>rfl
def OptS(Z:Ad)(H:Hp)(v:V):Option Sn→Prop
 | none=>v = .non
 | some s=>∃ p,v = .ref p∧c9 Z H p s
theorem di(T:Txt K mg Z):a9 P w K mg base CX0 5 Z.kW Z.kX ["station", "moment"] (sp_station_wind Z):=by
 refine T.cU.fn.ok eS (fun vs H Q E h=>?_) (fun cdv A0 outer s H vs Q E hr h=>?_)
 ·revert h; walk_at "len"
 refine⟨_,(ae (az (i:=2) eS.nd rfl (Or.inl rfl) ek) (ae (cW PassesOwn.never rfl (bD (K:=K) rfl (ak (K:=K) rfl (pv 0) rfl)) (aZ (i:=3) eS.nd rfl (Or.inl rfl)) (ae (aP (aH fU (aF aN (ak (K:=K) rfl (pv 3) rfl) (ak (K:=K) rfl (pv 1) rfl)) (ak (K:=K) rfl (pv 1) rfl) (aM _)) (ah (ao (ck T.eP.make (gO T) (hr.mono (by decide)) rfl T.eP.mg T.eP.bind .nil eA (ab (ag T.dO (dg T) hr (ab (ak (K:=K) rfl (pv 3) rfl) af)) (ab (ag T.dO (dg T) hr (ab (ak (K:=K) rfl (pv 3) rfl) af)) af))))) aA) (ae (aP (aH i7 (aF aN (ak (K:=K) rfl (pv 3) rfl) (ak (K:=K) rfl (pv 1) rfl)) (ak (K:=K) rfl (pv 1) rfl) (aM _)) (ae (aP (cN (cV (pv 2))) (ah (ao ek)) aA) (ah (ao (ag T.lF (ok_wind_between T) hr (ab (pv 2) (ab (pv 3) (ab (pv 1) af))))))) aA) (ah (az (i:=2) eS.nd rfl (Or.inl rfl) (pv 3)))))) (ah (ao ek)))),?_⟩
 obtain⟨r,c,s,m,j,rfl,hr1,sk,hc,bm,hj,k⟩:=h
 refine bB (σ':=[some (.ref r.p),some (.ref c),none,none]) ?_ rfl
 have k0:∀ v H',ax H H'→OptW Z H' v (WM.cO m none s.seen)→Q v H':=k
 walk_at "a"
 refine b8 hr1 T ?_
 refine⟨r.sl,rfl,⟨_,SqL.of hr1.sl⟩,?_⟩
 refine bQ (K:=K) (a:=r.sl) (xs:=r.ss.map V.ref) (fun i σ H'=>∃ (ev:V) (old:Option Sn) (v:Option V),σ=[some (.ref r.p),some (.ref c),some ev,v]∧H' = H∧OptS Z H ev old∧WM.cO m old (s.seen.drop i)=WM.cO m none s.seen∧(∀ o,old=some o→WM.jk o∧∀ z∈s.seen.drop i,o.t<z.t))
  ⟨_,none,_,rfl,rfl,rfl,rfl,fun o e=>(by cases e)⟩ (fun i σ H' _ ⟨_,_,v,_,e,_⟩=>by rw[e]; exact SqL.of hr1.sl) ?_ ?_
 ·rintro i y σ H' hi ⟨ev,old,v,rfl,rfl,hev,hg,hold⟩
  obtain⟨p,hp,rfl⟩:=fQ hi
  have hil:i<s.seen.length:=by rw[← hr1.si.1]; exact(List.getElem?_eq_some_iff.mp hp).1
  have hz:=List.getElem?_eq_getElem hil
  have hpc:=hr1.si.2 i p _ hp hz
  have hmem:s.seen[i]∈s.seen:=List.getElem_mem hil
  have zok:=sk.seen _ hmem
  have hrise:WM.cP (s.seen.drop i):=List.Pairwise.sublist (List.drop_sublist _ _) sk.rise
  rw[drop_cons hz] at hg hold hrise
  generalize s.seen[i]=z at *
  rw[windGo_cons] at hg
  have zt:=zok.t
  have hz17:((z.t:Nat):Int).natAbs<2^17:=by
   show _<131072
   omega
  walk_at "a"
  refine bZ hpc T ?_
  walk_at "a"
  refine aY hc T ?_
  refine cn (bI hz17 (Bd.den bm) (by omega)) ?_
  walk_at "a"
  refine b6 hc T ?_
  walk_at "a"
  refine w_ite (fun h1=>?_) (fun h1=>?_)
  ·rw[if_pos h1] at hg
   rw[← hg] at k0
   walk_at "a"
   refine ki hpc T ?_
   walk_at "a"
   refine⟨_,rfl,fun x H1 s1 hx=>?_⟩
   walk_at "a"
   refine iM (hpc.mono s1) T ?_
   walk_at "a"
   refine⟨_,rfl,fun y H2 s2 hy=>?_⟩
   walk_at "a"
   exact mk_wind (w:=((z.e:Rat),(z.n:Rat))) (hx.mono s2) hy fun q H3 s3 hq=>k0 _ H3 ((s1.trans s2).trans s3) ⟨q,rfl,hq⟩
  ·rw[if_neg h1] at hg
   walk_at "a"
   refine bZ hpc T ?_
   walk_at "a"
   refine aY hc T ?_
   refine cn (bI hz17 (Bd.den bm) (by omega)) ?_
   walk_at "a"
   refine b6 hc T ?_
   walk_at "a"
   refine w_ite (fun h2=>?_) (fun h2=>?_)
   ·rw[if_pos h2] at hg
    walk_at "a"
    cases old with
    | none =>
     rw[← hg] at k0
     have e:ev = .non:=hev
     rw[decide_eq_true e]
     refine aD ?_
     walk_at "a"
     exact k0 _ H' (ax.refl _) rfl
    | some o =>
     rw[← hg] at k0
     obtain⟨q,rfl,hq⟩:=hev
     obtain⟨ok,hlt⟩:=hold o rfl
     have hlt:=hlt z List.mem_cons_self
     rw[decide_eq_false (by intro e; cases e)]
     refine aG ?_
     walk_at "a"
     exact⟨q,p,c,o,z,m,j,rfl,hq,hpc,hc,ok,zok,hlt,bm,hj,fun x H1 s1 hx=>k0 _ H1 s1 ⟨x,rfl,hx⟩⟩
   ·rw[if_neg h2] at hg
    walk_at "a"
    refine⟨_,some z,_,rfl,rfl,⟨p,rfl,hpc⟩,hg,fun o e=>?_⟩
    cases e
    exact⟨zok,(List.pairwise_cons.mp hrise).1⟩
 ·rintro σ H' ⟨ev,old,v,rfl,rfl,hev,hg,hold⟩
  rw[List.length_map,hr1.si.1,List.drop_of_length_le (Nat.le_refl _)] at hg
  walk_at "a"
  rw[← hg] at k0
  exact k0 _ H' (ax.refl _) (by unfold WM.cO; rfl)
theorem Bd.add{j k:Nat}{p q:Rat}(hp:WM.Bd j p)(hq:WM.Bd k q):WM.Bd (j+k+1) (p+q):=by
 have hD:p.den*q.den≠0:=Nat.mul_ne_zero p.den_nz q.den_nz
 have h:(p+q)*((p.den*q.den:Nat):Rat)=((p.num*q.den+q.num*p.den:Int):Rat):=by
  rw[Rat.natCast_mul,Rat.intCast_add,Rat.intCast_mul,Rat.intCast_mul,Rat.intCast_natCast,Rat.intCast_natCast,WM.eG p,WM.eG q]
  grind
 have h1:=WM.m5 hD h
 have h2:=WM.mZ hD h
 have a1:=aO hp.1 (Bd.den hq)
 have a2:=aO hq.1 (Bd.den hp)
 have a3:=fi hp.2 hq.2
 rw[Nat.add_comm k j] at a2
 have e:2^(j+k+1)=2^(j+k)*2:=Nat.pow_succ ..
 exact⟨by omega,by omega⟩
theorem Bd.mul{j k:Nat}{p q:Rat}(hp:WM.Bd j p)(hq:WM.Bd k q):WM.Bd (j+k) (p*q):=by
 have hD:p.den*q.den≠0:=Nat.mul_ne_zero p.den_nz q.den_nz
 have h:(p*q)*((p.den*q.den:Nat):Rat)=((p.num*q.num:Int):Rat):=by
  rw[Rat.natCast_mul,Rat.intCast_mul,WM.eG p,WM.eG q]
  grind
 have h1:=WM.m5 hD h
 have h2:=WM.mZ hD h
 have a1:=aO hp.1 hq.1
 have a3:=fi hp.2 hq.2
 exact⟨by omega,by omega⟩
theorem Bd.up{j k:Nat}{q:Rat}(h:WM.Bd j q)(hk:j≤k):WM.Bd k q:=⟨bA h.1 hk,bA h.2 hk⟩
theorem Bd.whole{n:Int}{k:Nat}(h:n.natAbs<2^k)(hk:1≤k):WM.Bd k (n:Rat):=⟨h,Nat.lt_of_lt_of_le (by decide:1<2^1) (Nat.pow_le_pow_right (by decide) hk)⟩
theorem Bd.of_rep{q:Rat}{D:Nat}{j:Nat}(hD:D≠0)(h:WM.Rep D 1000 q)(hj:D<2^j):WM.Bd (j+10) q:=by
 have h1:=h.num hD
 have h2:=h.den hD
 have e:2^(j+10)=2^j*1024:=Nat.pow_add ..
 exact⟨by omega,by omega⟩
theorem Bd.inv{z:Int}(h0:0<z){k:Nat}(h:z.natAbs<2^k)(hk:1≤k):WM.Bd k (Rat.divInt 1 z):=by
 have hz:z≠0:=by omega
 have hD:z.natAbs≠0:=by omega
 have e:Rat.divInt 1 z*((z.natAbs:Nat):Rat)=((1:Int):Rat):=by
  rw[WM.aX,← Rat.intCast_natCast]
  have:((z.natAbs:Nat):Int)=z:=by omega
  rw[this]
  exact Rat.div_mul_cancel (fun g=>hz (Rat.intCast_eq_zero_iff.mp g))
 have h1:=WM.m5 hD e
 have h2:=WM.mZ hD e
 have h3:2^1≤2^k:=Nat.pow_le_pow_right (by decide) hk
 have h4:(1:Int).natAbs=1:=rfl
 exact⟨by omega,by omega⟩
theorem wind_bd{s:Stn}{m:Rat}{w:Rat×Rat}{k:Nat}(sk:WM.StOk s)(bm:WM.Bd k m)(h:WM.bL s.seen m=some w):WM.Bd (k+27) w.1∧WM.Bd (k+27) w.2:=by
 obtain⟨q,q1,q2,q3⟩:=WM.windS_rep sk.seen sk.rise h
 have hd:=m.den_pos
 have hD:q*m.den≠0:=by have:=Nat.mul_pos q1 hd; omega
 have hlt:q*m.den<2^(17+k):=fi (show q<2^17 by show q<131072; omega) bm.2
 have e:17+k+10=k+27:=by omega
 exact⟨by have:=Bd.of_rep hD q3.1 hlt; rwa [e] at this,by have:=Bd.of_rep hD q3.2 hlt; rwa [e] at this⟩
structure kj (Z:Ad) (H:Hp) (a:Addr) (rs:List Rec) (l:List Stn):Prop where
 lst:H a=some (.lst (rs.map fun r=>V.ref r.p))
 len:rs.length=l.length
 at_:∀ (i:Nat) (r:Rec) (s:Stn),rs[i]? = some r→l[i]? = some s→eH Z H r s
theorem kj.mono{Z:Ad}{H H':Hp}{a:Addr}{rs:List Rec}{l:List Stn}(k:ax H H')(h:kj Z H a rs l):kj Z H' a rs l :=
 ⟨k _ _ h.lst,h.len,fun i r s hr hs=>(h.at_ i r s hr hs).mono k⟩
theorem i6{rs:List Rec}{i:Nat}{y:V}(hi:(rs.map fun r=>V.ref r.p)[i]? = some y):∃ r,rs[i]? = some r∧y=V.ref r.p:=by
 rw[List.getElem?_map] at hi
 cases e:rs[i]? with
 | none=>rw[e] at hi; cases hi
 | some c=>rw[e] at hi; exact⟨c,rfl,(Option.some.inj hi).symm⟩
def sp_wind_at(Z:Ad):Sp:=fun vs H Q _=>∃ (a c:Addr) (rs:List Rec) (l:List Stn) (x y:Int) (m:Rat) (k:Nat),vs=[.ref a,.int x,.int y,.ref c]∧kj Z H a rs l∧WM.WOk l∧(-100000≤x∧x≤100000)∧(-100000≤y∧y≤100000)∧a7 Z H c m∧WM.Bd k m∧k≤1000∧∀ v H',ax H H'→OptW Z H' v (WM.bE l x y m)→Q v H'
theorem windLoop_cons(x y:Int)(m:Rat)(s:Stn)(r:List Stn)(e n t:Rat):WM.ee x y m (s::r) e n t=match WM.bL s.seen m with
  | none=>WM.ee x y m r e n t
  | some w=>if WM.sqd s x y=0 then some w
   else WM.ee x y m r (e+Rat.divInt 1 (WM.sqd s x y)*w.1) (n+Rat.divInt 1 (WM.sqd s x y)*w.2) (t+Rat.divInt 1 (WM.sqd s x y)):=rfl
theorem windLoop_nil(x y:Int)(m e n t:Rat):WM.ee x y m [] e n t=if t.num=0 then none else some (e / t,n / t):=rfl
theorem pow_ok{z:Int}(h:-200000≤z∧z≤200000):CPow z 2:=⟨by decide,by decide,by
 show _<18446744073709551616
 omega⟩
theorem sqd_range{s:Stn}{x y:Int}(sk:WM.StOk s)(hx:-100000≤x∧x≤100000)(hy:-100000≤y∧y≤100000):0≤WM.sqd s x y∧WM.sqd s x y≤80000000000:=by
 have a:=sk.x
 have b:=sk.y
 have hsq:∀ z:Int,-200000≤z→z≤200000→0≤z^2∧z^2≤40000000000:=fun z z1 z2=>by
  rw[Int.pow_succ,Int.pow_one]
  rcases Int.le_total 0 z with g | g
  ·have:=Int.mul_le_mul z2 z2 g (by omega)
   have:=Int.mul_nonneg g g
   omega
  ·have:=Int.mul_le_mul (a:=-z) (b:=-z) (c:=200000) (d:=200000) (by omega) (by omega) (by omega) (by omega)
   have h0:=Int.mul_nonneg_of_nonpos_of_nonpos g g
   rw[Int.neg_mul_neg] at this
   omega
 unfold WM.sqd
 have c1:=hsq (s.place.x-x) (by omega) (by omega)
 have c2:=hsq (s.place.y-y) (by omega) (by omega)
 omega
theorem ok_wind_at(T:Txt K mg Z):a9 P w K mg base CX0 6 Z.a_wind_at Z.d_wind_at ["stations", "x", "y", "moment"] (sp_wind_at Z):=by
 refine T.f_wind_at.fn.ok cZ (fun vs H Q E h=>?_) (fun cdv A0 outer s H vs Q E hr h=>?_)
 ·revert h; walk_at "len"
 refine⟨_,(ae (az (i:=4) cZ.nd rfl (Or.inl rfl) (ag T.dO (dg T) hr (ab aj af))) (ae (az (i:=5) cZ.nd rfl (Or.inl rfl) (ag T.dO (dg T) hr (ab aj af))) (ae (az (i:=6) cZ.nd rfl (Or.inl rfl) (ag T.dO (dg T) hr (ab aj af))) (ae (cW PassesOwn.never rfl (bD (K:=K) rfl (pv 0)) (aZ (i:=7) cZ.nd rfl (Or.inl rfl)) (ae (az (i:=8) cZ.nd rfl (Or.inl rfl) (ag T.cU (di T) hr (ab (pv 7) (ab (pv 3) af)))) (ah (aP (cN (pc_notN (pv 8))) (ae (az (i:=9) cZ.nd rfl (Or.inl rfl) (aF dM (aF op_pow (aF cX (ak (K:=K) rfl (pv 7) rfl) (pv 1)) aj) (aF op_pow (aF cX (ak (K:=K) rfl (pv 7) rfl) (pv 2)) aj))) (ae (aP (aH fU (pv 9) aj (aM _)) (ah (ao (pv 8))) aA) (ae (az (i:=10) cZ.nd rfl (Or.inl rfl) (ck T.aQ.make (bx T) (hr.mono (by decide)) rfl T.aQ.mg T.aQ.bind .nil eA (ab aj (ab (pv 9) af)))) (ae (az (i:=4) cZ.nd rfl (Or.inl rfl) (ag T.bY (bX T) hr (ab (pv 4) (ab (ag T.bJ (bN T) hr (ab (pv 10) (ab (ak (K:=K) rfl (pv 8) rfl) af))) af)))) (ae (az (i:=5) cZ.nd rfl (Or.inl rfl) (ag T.bY (bX T) hr (ab (pv 5) (ab (ag T.bJ (bN T) hr (ab (pv 10) (ab (ak (K:=K) rfl (pv 8) rfl) af))) af)))) (ah (az (i:=6) cZ.nd rfl (Or.inl rfl) (ag T.bY (bX T) hr (ab (pv 6) (ab (pv 10) af)))))))))) aA)))) (ae (aP (aH fU (ak (K:=K) rfl (pv 6) rfl) aj (aM _)) (ah (ao ek)) aA) (ah (ao (ck T.eP.make (gO T) (hr.mono (by decide)) rfl T.eP.mg T.eP.bind .nil eA (ab (ag T.gx (i5 T) hr (ab (pv 4) (ab (pv 6) af))) (ab (ag T.gx (i5 T) hr (ab (pv 5) (ab (pv 6) af))) af)))))))))),?_⟩
 obtain⟨a,c,rs,l,x,y,m,j,rfl,ha,wo,hx,hy,hc,bm,hj,k⟩:=h
 refine bB (σ':=[some (.ref a),some (.int x),some (.int y),some (.ref c),none,none,none,none,none,none,none]) ?_ rfl
 have k0:∀ v H',ax H H'→OptW Z H' v (WM.ee x y m l 0 0 0)→Q v H':=k
 walk_at "a"
 refine⟨0,rfl,fun ea H1 s1 he=>?_⟩
 walk_at "a"
 refine⟨0,rfl,fun na H2 s2 hn=>?_⟩
 walk_at "a"
 refine⟨0,rfl,fun ta H3 s3 ht=>?_⟩
 have s03:=(s1.trans s2).trans s3
 have he:=he.mono (s2.trans s3)
 have hn:=hn.mono s3
 have z0:((0:Int):Rat)=0:=rfl
 rw[z0] at he hn ht
 have b0:WM.Bd 1 0:=⟨by decide,by decide⟩
 walk_at "a"
 refine⟨a,rfl,⟨_,SqL.of (s03 _ _ ha.lst)⟩,?_⟩
 refine bQ (K:=K) (a:=a) (xs:=rs.map fun r=>V.ref r.p) (fun i σ H'=>∃ (ea na ta:Addr) (e n t:Rat) (v1 v2 v3 v4:Option V),σ=[some (.ref a),some (.int x),some (.int y),some (.ref c),some (.ref ea),some (.ref na),some (.ref ta),v1,v2,v3,v4]∧ax H H'∧a7 Z H' ea e∧a7 Z H' na n∧a7 Z H' ta t∧WM.ee x y m (l.drop i) e n t=WM.ee x y m l 0 0 0 ∧
   WM.Bd (i*(j+66)+1) e∧WM.Bd (i*(j+66)+1) n∧WM.Bd (i*39+1) t)
  ⟨ea,na,ta,0,0,0,_,_,_,_,rfl,s03,he,hn,ht,rfl,by simpa using b0,by simpa using b0,by simpa using b0⟩ (fun i σ H' _ ⟨_,_,_,_,_,_,_,_,_,_,_,s',_⟩=>SqL.of (s' _ _ ha.lst)) ?_ ?_
 ·rintro i yv σ H' hi ⟨ea,na,ta,e,n,t,v1,v2,v3,v4,rfl,s',he,hn,ht,hg,be,bn,bt⟩
  obtain⟨r,hri,rfl⟩:=i6 hi
  have hil:i<l.length:=by rw[← ha.len]; exact(List.getElem?_eq_some_iff.mp hri).1
  have hi6:i<6:=Nat.lt_of_lt_of_le hil wo.len
  have hz:=List.getElem?_eq_getElem hil
  have hst:=(ha.at_ i r _ hri hz).mono s'
  have sk:=wo.each _ (List.getElem_mem hil)
  rw[drop_cons hz,windLoop_cons] at hg
  generalize l[i]=s0 at *
  have hc':=hc.mono s'
  have ei:(i+1)*(j+66)=i*(j+66)+j+66:=by rw[Nat.add_mul]; omega
  have emul:i*(j+66)≤5*1066:=Nat.mul_le_mul (by omega) (by omega)
  walk_at "a"
  refine⟨r,c,s0,m,j,rfl,hst,sk,hc',bm,by omega,fun v H4 s4 hv=>?_⟩
  walk_at "a"
  cases hw:WM.bL s0.seen m with
  | none =>
   rw[hw] at hg hv
   have hv:v = .non:=hv
   rw[hv]
   refine cG (fun g=>absurd rfl g) (fun _=>?_)
   walk_at "a"
   exact⟨ea,na,ta,e,n,t,_,_,_,_,rfl,s'.trans s4,he.mono s4,hn.mono s4,ht.mono s4,hg,Bd.up be (by omega),Bd.up bn (by omega),Bd.up bt (by omega)⟩
  | some w =>
   rw[hw] at hg hv
   obtain⟨p,rfl,hp⟩:=hv
   obtain⟨bw1,bw2⟩:=wind_bd sk bm hw
   refine cG (fun _=>?_) (fun g=>(by cases g))
   have hst4:=hst.mono s4
   have a1:=sk.x
   have a2:=sk.y
   walk_at "a"
   refine rA hst4 T ?_
   walk_at "a"
   refine cn (pow_ok (by omega)) ?_
   walk_at "a"
   refine rB hst4 T ?_
   walk_at "a"
   refine cn (pow_ok (by omega)) ?_
   have esq:(s0.place.x-x)^(2:Int).toNat+(s0.place.y-y)^(2:Int).toNat=WM.sqd s0 x y:=rfl
   walk_at "a"
   rw[esq]
   obtain⟨q0,q1⟩:=sqd_range sk hx hy
   refine w_ite (fun hq=>?_) (fun hq=>?_)
   ·dsimp only at hg
    rw[if_pos hq] at hg
    rw[← hg] at k0
    walk_at "a"
    exact k0 _ H4 (s'.trans s4) ⟨p,rfl,hp⟩
   ·dsimp only at hg
    rw[if_neg hq] at hg
    have hq37:(WM.sqd s0 x y).natAbs<2^37:=by
     show _<137438953472
     omega
    have binv:WM.Bd 37 (Rat.divInt 1 (WM.sqd s0 x y)):=Bd.inv (by omega) hq37 (by omega)
    walk_at "a"
    refine dF hq (bA hq37 (by omega)) fun wa H5 s5 hwa=>?_
    walk_at "a"
    refine dN (hp.mono s5) T fun x5 hx5=>?_
    walk_at "a"
    refine⟨wa,x5,_,_,37,j+27,rfl,hwa,hx5,binv,bw1,by omega,fun m1 H6 s6 hm1=>?_⟩
    walk_at "a"
    refine⟨ea,m1,_,_,i*(j+66)+1,37+(j+27),rfl,he.mono ((s4.trans s5).trans s6),hm1,be,Bd.mul binv bw1,by omega,fun ea' H7 s7 he'=>?_⟩
    walk_at "a"
    refine cY (hp.mono ((s5.trans s6).trans s7)) T fun x6 hx6=>?_
    walk_at "a"
    refine⟨wa,x6,_,_,37,j+27,rfl,hwa.mono (s6.trans s7),hx6,binv,bw2,by omega,fun m2 H8 s8 hm2=>?_⟩
    walk_at "a"
    refine⟨na,m2,_,_,i*(j+66)+1,37+(j+27),rfl,hn.mono ((((s4.trans s5).trans s6).trans s7).trans s8),hm2,bn,Bd.mul binv bw2,by omega,fun na' H9 s9 hn'=>?_⟩
    walk_at "a"
    refine⟨ta,wa,_,_,i*39+1,37,rfl,ht.mono (((((s4.trans s5).trans s6).trans s7).trans s8).trans s9),hwa.mono (((s6.trans s7).trans s8).trans s9),bt,binv,by omega,fun ta' H10 s10 ht'=>?_⟩
    walk_at "a"
    exact⟨ea',na',ta',_,_,_,_,_,_,_,rfl,((((((s'.trans s4).trans s5).trans s6).trans s7).trans s8).trans s9).trans s10,he'.mono ((s8.trans s9).trans s10),hn'.mono s10,ht',hg,
     Bd.up (Bd.add be (Bd.mul binv bw1)) (by omega),Bd.up (Bd.add bn (Bd.mul binv bw2)) (by omega),Bd.up (Bd.add bt binv) (by omega)⟩
 ·rintro σ H' ⟨ea,na,ta,e,n,t,v1,v2,v3,v4,rfl,s',he,hn,ht,hg,be,bn,bt⟩
  rw[List.length_map,ha.len,List.drop_of_length_le (Nat.le_refl _)] at hg
  rw[List.length_map,ha.len] at be bn bt
  have hl6:=wo.len
  have emul:l.length*(j+66)≤6*1066:=Nat.mul_le_mul hl6 (by omega)
  rw[windLoop_nil] at hg
  walk_at "a"
  refine b6 ht T ?_
  walk_at "a"
  refine w_ite (fun h0=>?_) (fun h0=>?_)
  ·rw[if_pos h0] at hg
   walk_at "a"
   rw[← hg] at k0
   exact k0 _ H' s' rfl
  ·rw[if_neg h0] at hg
   rw[← hg] at k0
   have ht0:t≠0:=fun g=>h0 (Rat.num_eq_zero.mpr g)
   walk_at "a"
   refine⟨ea,ta,e,t,_,_,rfl,he,ht,be,bt,by omega,ht0,fun x1 H1 s1 hx1=>?_⟩
   walk_at "a"
   refine⟨na,ta,n,t,_,_,rfl,hn.mono s1,ht.mono s1,bn,bt,by omega,ht0,fun x2 H2 s2 hx2=>?_⟩
   walk_at "a"
   exact mk_wind (w:=(e / t,n / t)) (hx1.mono s2) hx2 fun p H3 s3 hp=>k0 _ H3 (((s'.trans s1).trans s2).trans s3) ⟨p,rfl,hp⟩
def eN(m:Rat):Nat→List Stn→List Nat
 | _,[]=>[]
 | i,s::r=>if (WM.bL s.seen m).isSome=true then(i+1)::eN m (i+1) r else eN m (i+1) r
theorem jA(m:Rat):∀ (l:List Stn) (i:Nat),(eN m i l).length≤l.length
 | [],_=>Nat.le_refl _
 | s::r,i=>by
  unfold eN
  have:=jA m r (i+1)
  split
  ·simp; omega
  ·simp; omega
def sp_speaking(Z:Ad):Sp:=fun vs H Q _=>∃ (a c:Addr) (rs:List Rec) (l:List Stn) (m:Rat) (k:Nat),vs=[.ref a,.ref c]∧kj Z H a rs l∧WM.WOk l∧a7 Z H c m∧WM.Bd k m∧k≤8000∧cH H Q (nb (eN m 0 l))
theorem pq(m:Rat):∀ (l:List Stn) (i:Nat) (s:Stn),eN m i (l++[s])=eN m i l++if (WM.bL s.seen m).isSome=true then [i+l.length+1] else []
 | [],i,s=>by
  unfold eN
  simp[eN]
 | z::r,i,s=>by
  rw[List.cons_append,eN,eN,pq m r (i+1) s]
  have e:i+1+r.length+1=i+(z::r).length+1:=by simp; omega
  rw[e]
  split<;>simp
theorem ok_speaking(T:Txt K mg Z):a9 P w K mg base CX0 6 Z.a_speaking Z.d_speaking ["stations", "moment"] (sp_speaking Z):=by
 refine T.o8.fn.ok iK (fun vs H Q E h=>?_) (fun cdv A0 outer s H vs Q E hr h=>?_)
 ·revert h; walk_at "len"
 refine⟨_,(ah (ao (pe_lc (own:=[("number",2),("station",3)]) rfl iK.nd (pi_enum1K (K:=K) rfl rfl T.mi (ab (pv 0) af)) (ik (by kernel_rfl)) (fun _ _ _ _ _=>(rE (K:=K) (n:=2) rfl rfl (eY (aZ (i:=2) iK.nd rfl (Or.inl rfl)) (eY (aZ (i:=3) iK.nd rfl (Or.inl rfl)) rC)))) (fun _ _ _ _ _=>(pts_one (cN (pc_notN (ag T.cU (di T) hr (ab (pv 3) (ab (pv 1) af))))))) (fun _ _ _ _ _=>(pv 2))))),?_⟩
 obtain⟨a,c,rs,l,m,j,rfl,ha,wo,hc,bm,hj,k⟩:=h
 refine bB (σ':=[some (.ref a),some (.ref c),none,none]) ?_ rfl
 walk_at "a"
 refine⟨a,_,rfl,SqL.of ha.lst,fun D hD=>?_⟩
 have hl6:=wo.len
 refine lc_gen (n:=l.length) (fun i H'=>ax H H'∧H' D=some (.lst (nb (eN m 0 (l.take i))))) ⟨ax.new hD,ai⟩
  (fun i H' hi ⟨s',_⟩=>⟨_,_,SqL.of (s' _ _ ha.lst),List.getElem?_eq_getElem (by rw[List.length_map,ha.len]; exact hi)⟩)
  (fun H' ⟨s',_⟩=>⟨_,SqL.of (s' _ _ ha.lst),by rw[List.length_map,ha.len]⟩) ?_ ?_
 ·rintro i H' v H2 hi ⟨s',hd⟩ ⟨tp,y,rfl,htp,rfl,hy⟩
  have hyi:=hy _ (SqL.of (s' _ _ ha.lst))
  obtain⟨r,hri,rfl⟩:=i6 hyi
  have hz:=List.getElem?_eq_getElem hi
  have sT:ax H' (upd H' tp (.tup [.int ((i+1:Nat):Int),.ref r.p])):=ax.new htp
  have hst:=((ha.at_ i r _ hri hz).mono s').mono sT
  have sk:=wo.each _ (List.getElem_mem hi)
  have hDt:D≠tp:=fun e=>by rw[e,htp] at hd; cases hd
  have htk:l.take (i+1)=l.take i++[l[i]]:=take_snoc hz
  have hlen:(l.take i).length=i:=by rw[List.length_take]; omega
  have hl1:=jA m (l.take i) 0
  rw[hlen] at hl1
  refine w_gTup (SqT.of ai) rfl ?_
  walk_at "a"
  refine⟨rfl,?_⟩
  walk_at "a"
  refine⟨r,c,_,m,j,rfl,hst,sk,(hc.mono s').mono sT,bm,by omega,fun v H4 s4 hv=>?_⟩
  have hd4:H4 D=some (.lst (nb (eN m 0 (l.take i)))):=s4 _ _ (by rw[ay hDt]; exact hd)
  have hD4:∀ o,ax H (upd H4 D o):=fun o=>((s'.trans sT).trans s4).dB hD
  walk_at "a"
  cases hw:WM.bL l[i].seen m with
  | none =>
   rw[hw] at hv
   have hv:v = .non:=hv
   rw[hv]
   refine cG (fun g=>absurd rfl g) (fun _=>?_)
   refine⟨(s'.trans sT).trans s4,?_⟩
   rw[hd4,htk,pq,hw]
   simp
  | some w =>
   rw[hw] at hv
   obtain⟨p,rfl,hp⟩:=hv
   refine cG (fun _=>?_) (fun g=>(by cases g))
   walk_at "a"
   refine⟨_,hd4,by rw[aL,aw]; omega,hD4 _,?_⟩
   rw[ai,htk,pq,hw,eL,hlen]
   simp
   rfl
 ·rintro H' ⟨s',hd⟩
  rw[List.take_length] at hd
  exact k D H' s' hD hd
def ib(ns:List Int):List V:=ns.map V.int
theorem aW(l:List Int):(ib l).length=l.length:=List.length_map _
theorem ib_get{l:List Int}{i:Nat}{v:V}(h:(ib l)[i]? = some v):∃ c,l[i]? = some c∧v = .int c:=by
 unfold ib at h
 rw[List.getElem?_map] at h
 cases e:l[i]? with
 | none=>rw[e] at h; cases h
 | some c=>rw[e] at h; exact⟨c,rfl,(Option.some.inj h).symm⟩
def within(lo hi:Int)(ns:List Int):Bool:=ns.all fun z=>decide (lo≤z∧z≤hi)
def sp_all_within:Sp:=fun vs H Q _=>∃ (a:Addr) (ns:List Int) (lo hi:Int),vs=[.ref a,.int lo,.int hi]∧(H a=some (.lst (ib ns))∨H a=some (.tup (ib ns)))∧Q (.bl (within lo hi ns)) H
theorem allI_take{p:Int→Bool}{l:List Int}{i:Nat}{c:Int}(hc:l[i]? = some c)(h:(l.take i).all p=true)(hp:p c=true):(l.take (i+1)).all p=true:=by
 rw[take_snoc hc,List.all_append,h]
 simp[hp]
theorem kl{p:Int→Bool}{l:List Int}{i:Nat}{c:Int}(hc:l[i]? = some c)(hp:p c=false):l.all p=false:=by
 rw[List.all_eq_false]
 exact⟨c,List.mem_of_getElem? hc,by simp[hp]⟩
theorem cy(T:Txt K mg Z):a9 P w K mg base CX0 1 Z.qg Z.qh ["numbers", "least", "most"] (sp_all_within):=by
 refine T.cA.fn.ok oh (fun vs H Q E h=>?_) (fun cdv A0 outer s H vs Q E hr h=>?_)
 ·revert h; walk_at "len"
 refine⟨_,(ae (cW PassesOwn.never rfl (pi_seqK (K:=K) rfl (pv 0)) (aZ (i:=3) oh.nd rfl (Or.inl rfl)) (ah (aP (PW.pt (dJ (aH iA (pv 3) (pv 1) (aM _)) (dw (aH i7 (pv 3) (pv 2) (aM _))))) (ah (ao fc)) aA))) (ah (ao fc))),?_⟩
 obtain⟨a,l,lo,hi,rfl,ha,k⟩:=h
 refine bB (σ':=[some (.ref a),some (.int lo),some (.int hi),none]) ?_ rfl
 walk_at "a"
 unfold within at k
 rcases ha with ha | ha
 ·refine .inl ?_
  walk_at "a"
  refine⟨a,rfl,⟨_,SqL.of ha⟩,?_⟩
  refine bQ (K:=K) (a:=a) (xs:=ib l) (fun i σ H'=>∃ v:Option V,σ=[some (.ref a),some (.int lo),some (.int hi),v]∧H' = H∧(l.take i).all (fun z=>decide (lo≤z∧z≤hi))=true) ⟨_,rfl,rfl,rfl⟩ (fun i σ H' _ ⟨v,_,e,_⟩=>by rw[e]; exact SqL.of ha) ?_ ?_
  ·rintro i y σ H' hi' ⟨v,rfl,rfl,hp⟩
   obtain⟨c,hc,rfl⟩:=ib_get hi'
   walk_at "a"
   refine w_ite (fun he=>?_) (fun he=>?_)
   ·refine aD ?_
    walk_at "a"
    rw[kl hc (decide_eq_false (by omega))] at k
    exact k
   ·walk_at "a"
    refine w_ite (fun he2=>?_) (fun he2=>?_)
    ·walk_at "a"
     rw[kl hc (decide_eq_false (by omega))] at k
     exact k
    ·walk_at "a"
     exact⟨_,rfl,rfl,allI_take hc hp (decide_eq_true (by omega))⟩
  ·rintro σ H' ⟨v,rfl,rfl,hp⟩
   rw[aW,List.take_length] at hp
   walk_at "a"
   rw[hp] at k
   exact k
 ·refine .inr ?_
  refine w_iTup ?_
  walk_at "a"
  refine⟨a,rfl,⟨_,SqT.of ha⟩,?_⟩
  refine for_tup (K:=K) (a:=a) (xs:=ib l) (fun i σ H'=>∃ v:Option V,σ=[some (.ref a),some (.int lo),some (.int hi),v]∧H' = H∧(l.take i).all (fun z=>decide (lo≤z∧z≤hi))=true) ⟨_,rfl,rfl,rfl⟩ (fun i σ H' _ ⟨v,_,e,_⟩=>by rw[e]; exact SqT.of ha) ?_ ?_
  ·rintro i y σ H' hi' ⟨v,rfl,rfl,hp⟩
   obtain⟨c,hc,rfl⟩:=ib_get hi'
   walk_at "a"
   refine w_ite (fun he=>?_) (fun he=>?_)
   ·refine aD ?_
    walk_at "a"
    rw[kl hc (decide_eq_false (by omega))] at k
    exact k
   ·walk_at "a"
    refine w_ite (fun he2=>?_) (fun he2=>?_)
    ·walk_at "a"
     rw[kl hc (decide_eq_false (by omega))] at k
     exact k
    ·walk_at "a"
     exact⟨_,rfl,rfl,allI_take hc hp (decide_eq_true (by omega))⟩
  ·rintro σ H' ⟨v,rfl,rfl,hp⟩
   rw[aW,List.take_length] at hp
   walk_at "a"
   rw[hp] at k
   exact k
def sp_are(lo hi:Int):Sp:=fun vs H Q _=>∃ (a:Addr) (ns:List Int),vs=[.ref a]∧H a=some (.lst (ib ns))∧Q (.bl (within lo hi ns)) H
theorem cQ(T:Txt K mg Z):a9 P w K mg base CX0 2 Z.qj Z.qk ["numbers"] (sp_are (-100000) 100000):=by
 refine T.cJ.fn.ok sc_are_places (fun vs H Q E h=>?_) (fun cdv A0 outer s H vs Q E hr h=>?_)
 ·revert h; walk_at "len"
 refine⟨_,(ah (ao (ag T.cA (cy T) hr (ab (pv 0) (ab (oJ iO (bM T.c_FAR)) (ab (bM T.c_FAR) af)))))),?_⟩
 obtain⟨a,l,rfl,ha,k⟩:=h
 refine bB (σ':=[some (.ref a)]) ?_ rfl
 walk_at "a"
 exact⟨a,l,-100000,100000,rfl,.inl ha,k⟩
theorem b5(T:Txt K mg Z):a9 P w K mg base CX0 2 Z.a_are_times Z.d_are_times ["numbers"] (sp_are 0 100000):=by
 refine T.b7.fn.ok sc_are_times (fun vs H Q E h=>?_) (fun cdv A0 outer s H vs Q E hr h=>?_)
 ·revert h; walk_at "len"
 refine⟨_,(ah (ao (ag T.cA (cy T) hr (ab (pv 0) (ab aj (ab (bM T.c_LAST_TIME) af)))))),?_⟩
 obtain⟨a,l,rfl,ha,k⟩:=h
 refine bB (σ':=[some (.ref a)]) ?_ rfl
 walk_at "a"
 exact⟨a,l,0,100000,rfl,.inl ha,k⟩
theorem rR(T:Txt K mg Z):a9 P w K mg base CX0 2 Z.jS Z.jT ["numbers"] (sp_are (-1000) 1000):=by
 refine T.j7.fn.ok rM (fun vs H Q E h=>?_) (fun cdv A0 outer s H vs Q E hr h=>?_)
 ·revert h; walk_at "len"
 refine⟨_,(ah (ao (ag T.cA (cy T) hr (ab (pv 0) (ab (oJ iO (bM T.jl)) (ab (bM T.jl) af)))))),?_⟩
 obtain⟨a,l,rfl,ha,k⟩:=h
 refine bB (σ':=[some (.ref a)]) ?_ rfl
 walk_at "a"
 exact⟨a,l,-1000,1000,rfl,.inl ha,k⟩
def sp_Sight(Z:Ad):Sp:=fun vs H Q _=>∃ (p dx:Addr) (x y z:V),vs=[.ref p,x,y,z]∧H p=some (.ins Z.kD dx [])∧Q .non (upd H p (.ins Z.kD dx (eD "north" z (eD "east" y (eD "moment" x [])))))
theorem oq(T:Txt K mg Z):a9 P w K mg base CX0 1 Z.ql Z.qm ["self", "moment", "east", "north"] (sp_Sight Z):=by
 refine T.eQ.fn.ok sc_Sight_init (fun vs H Q E h=>?_) (fun cdv A0 outer s H vs Q E hr h=>?_)
 ·revert h; walk_at "len"
 refine⟨_,(ae (cB (K:=K) rfl (pv 0) (pv 1) rfl) (ae (cB (K:=K) rfl (pv 0) (pv 2) rfl) (ah (cB (K:=K) rfl (pv 0) (pv 3) rfl)))),?_⟩
 obtain⟨p,dx,x,y,z,rfl,hp,k⟩:=h
 refine bB (σ':=[some (.ref p),some x,some y,some z]) ?_ rfl
 walk_at "a"
 refine dh hp T.eQ.cl T.j3 (by show 0<1000; decide) ?_
 walk_at "a"
 refine dh ai T.eQ.cl T.nW (by show 1<1000; decide) ?_
 walk_at "a"
 refine dh ai T.eQ.cl T.lx (by show 2<1000; decide) ?_
 rw[bO,bO]
 exact k
theorem mk_sight{Z:Ad}{H:Hp}{Q:Addr→Hp→Prop}{E:XK}{t e n:Int}(s:Sn)(ht:t=(s.t:Int))(he:e=s.e)(hn:n=s.n)(k:∀ p H',ax H H'→H p=none→c9 Z H' p s→Q p H') :
  ∀ p dx,H p=none→H dx=none→dx≠p→sp_Sight Z [.ref p,.int t,.int e,.int n] (upd (upd H dx (.own p)) p (.ins Z.kD dx [])) (fun v H2=>v = .non∧Q p H2) E:=by
 intro p dx hp hdx hne
 subst ht he hn
 refine⟨p,dx,_,_,_,rfl,ai,rfl,?_⟩
 rw[bO]
 refine k p _ ?_ hp ⟨dx,ai⟩
 intro c o e
 rw[ay (aC e hp),ay (aC e hdx)]
 exact e
def sp_Station(Z:Ad):Sp:=fun vs H Q _=>∃ (p dx:Addr) (x y z:V),vs=[.ref p,x,y,z]∧H p=some (.ins Z.eI dx [])∧∀ q,H q=none→Q .non (upd (upd H q (.lst [])) p (.ins Z.eI dx (stF x y z (.ref q))))
theorem upd_comm{H:Hp}{a b:Addr}{o u:HO}(h:a≠b):upd (upd H a o) b u=upd (upd H b u) a o:=by
 funext c
 unfold upd
 by_cases h1:c=a
 ·subst h1
  rw[if_neg h,if_pos rfl,if_pos rfl]
 ·by_cases h2:c=b
  ·subst h2
   rw[if_pos rfl,if_neg h1,if_pos rfl]
  ·rw[if_neg h2,if_neg h1,if_neg h1,if_neg h2]
theorem ok_Station_init(T:Txt K mg Z):a9 P w K mg base CX0 1 Z.k5 Z.k6 ["self", "name", "x", "y"] (sp_Station Z):=by
 refine T.du.fn.ok sc_Station_init (fun vs H Q E h=>?_) (fun cdv A0 outer s H vs Q E hr h=>?_)
 ·revert h; walk_at "len"
 refine⟨_,(ae (cB (K:=K) rfl (pv 0) (pv 1) rfl) (ae (cB (K:=K) rfl (pv 0) (pv 2) rfl) (ae (cB (K:=K) rfl (pv 0) (pv 3) rfl) (ah (cB (K:=K) rfl (pv 0) (aJ af) rfl))))),?_⟩
 obtain⟨p,dx,x,y,z,rfl,hp,k⟩:=h
 refine bB (σ':=[some (.ref p),some x,some y,some z]) ?_ rfl
 walk_at "a"
 refine dh hp T.du.cl T.j4 (by show 0<1000; decide) ?_
 walk_at "a"
 refine dh ai T.du.cl T.qE (by show 1<1000; decide) ?_
 walk_at "a"
 refine dh ai T.du.cl T.qF (by show 2<1000; decide) ?_
 rw[bO,bO]
 walk_at "a"
 refine⟨Nat.zero_le _,fun q hq=>?_⟩
 have hqp:q≠p:=by
  rintro rfl
  rw[ai] at hq; cases hq
 have hq0:H q=none:=by rw[ay hqp] at hq; exact hq
 walk_at "a"
 refine dh (by rw[ay (Ne.symm hqp),ai]) T.du.cl T.j5 (by show 3<1000; decide) ?_
 rw[upd_comm (Ne.symm hqp),bO]
 exact k q hq0
theorem mk_station{Z:Ad}{H:Hp}{Q:Addr→Hp→Prop}{E:XK}{nm:Addr}{name:List Nat}{x y:Int}(hn:H nm=some (.lst (nb name)))
 (k:∀ (r:Rec) H',ax H H'→H r.p=none→H r.sl=none→r.nm=nm→r.ss=[]→eH Z H' r ⟨name,⟨x,y⟩,[]⟩→Q r.p H') :
  ∀ p dx,H p=none→H dx=none→dx≠p→sp_Station Z [.ref p,.ref nm,.int x,.int y] (upd (upd H dx (.own p)) p (.ins Z.eI dx [])) (fun v H2=>v = .non∧Q p H2) E:=by
 intro p dx hp hdx hne
 refine⟨p,dx,_,_,_,rfl,ai,fun q hq=>⟨rfl,?_⟩⟩
 have hqp:q≠p:=by
  rintro rfl
  rw[ai] at hq; cases hq
 rw[ay hqp] at hq
 have hqd:q≠dx:=by
  rintro rfl
  rw[ai] at hq; cases hq
 rw[ay hqd] at hq
 have s:ax H (upd (upd (upd (upd H dx (.own p)) p (.ins Z.eI dx [])) q (.lst [])) p (.ins Z.eI dx (stF (.ref nm) (.int x) (.int y) (.ref q)))):=by
  intro c o e
  rw[ay (aC e hp),ay (aC e hq),ay (aC e hp),ay (aC e hdx)]
  exact e
 refine k ⟨p,nm,q,[]⟩ _ s hp hq rfl rfl ⟨⟨dx,ai⟩,s _ _ hn,?_,⟨rfl,fun i a z h=>by simp at h⟩,?_⟩
 ·show upd _ p _ q=_
  rw[ay hqp,ai]; rfl
 ·show nm≠q
  exact aC hn hq
def sp_saw_at(Z:Ad):Sp:=fun vs H Q _=>∃ (r:Rec) (s:Stn) (t:Int),vs=[.ref r.p,.int t]∧eH Z H r s∧Q (.bl (!(s.seen.all fun y=>decide ((y.t:Int)≠t)))) H
theorem ok_saw_at(T:Txt K mg Z):a9 P w K mg base CX0 1 Z.a_saw_at Z.d_saw_at ["station", "moment"] (sp_saw_at Z):=by
 refine T.f_saw_at.fn.ok sc_saw_at (fun vs H Q E h=>?_) (fun cdv A0 outer s H vs Q E hr h=>?_)
 ·revert h; walk_at "len"
 refine⟨_,(ae (cW PassesOwn.never rfl (bD (K:=K) rfl (ak (K:=K) rfl (pv 0) rfl)) (aZ (i:=2) sc_saw_at.nd rfl (Or.inl rfl)) (ah (aP (aH fU (ak (K:=K) rfl (pv 2) rfl) (pv 1) (aM _)) (ah (ao fc)) aA))) (ah (ao fc))),?_⟩
 obtain⟨r,s0,t,rfl,hst,k⟩:=h
 refine bB (σ':=[some (.ref r.p),some (.int t),none]) ?_ rfl
 walk_at "a"
 refine b8 hst T ?_
 refine⟨r.sl,rfl,⟨_,SqL.of hst.sl⟩,?_⟩
 refine bQ (K:=K) (a:=r.sl) (xs:=r.ss.map V.ref) (fun i σ H'=>∃ v:Option V,σ=[some (.ref r.p),some (.int t),v]∧H' = H∧((s0.seen.take i).all fun y=>decide ((y.t:Int)≠t))=true) ⟨_,rfl,rfl,rfl⟩ (fun i σ H' _ ⟨v,_,e,_⟩=>by rw[e]; exact SqL.of hst.sl) ?_ ?_
 ·rintro i y σ H' hi ⟨v,rfl,rfl,hp⟩
  obtain⟨p,hpi,rfl⟩:=fQ hi
  have hil:i<s0.seen.length:=by rw[← hst.si.1]; exact(List.getElem?_eq_some_iff.mp hpi).1
  have hz:=List.getElem?_eq_getElem hil
  have hpc:=hst.si.2 i p _ hpi hz
  walk_at "a"
  refine bZ hpc T ?_
  walk_at "a"
  refine w_ite (fun he=>?_) (fun he=>?_)
  ·walk_at "a"
   have:(s0.seen.all fun y=>decide ((y.t:Int)≠t))=false:=by
    rw[List.all_eq_false]
    exact⟨_,List.getElem_mem hil,by simp[he]⟩
   rw[this] at k
   exact k
  ·walk_at "a"
   refine⟨_,rfl,rfl,?_⟩
   rw[take_snoc hz,List.all_append,hp]
   simp[he]
 ·rintro σ H' ⟨v,rfl,rfl,hp⟩
  rw[List.length_map,hst.si.1,List.take_length] at hp
  walk_at "a"
  rw[hp] at k
  exact k
def sp_is_full(Z:Ad):Sp:=fun vs H Q _=>∃ (r:Rec) (s:Stn),vs=[.ref r.p]∧eH Z H r s∧Q (.bl (decide (20≤s.seen.length))) H
theorem ok_is_full(T:Txt K mg Z):a9 P w K mg base CX0 1 Z.a_is_full Z.d_is_full ["station"] (sp_is_full Z):=by
 refine T.f_is_full.fn.ok sc_is_full (fun vs H Q E h=>?_) (fun cdv A0 outer s H vs Q E hr h=>?_)
 ·revert h; walk_at "len"
 refine⟨_,(ah (ao (ko op_ge (aT (aS (K:=K) rfl) rfl T.dE PySem.boot_len (ab (ak (K:=K) rfl (pv 0) rfl) af)) (bM T.c_MOST_SIGHTS) (aM _)))),?_⟩
 obtain⟨r,s0,rfl,hst,k⟩:=h
 refine bB (σ':=[some (.ref r.p)]) ?_ rfl
 walk_at "a"
 refine b8 hst T ?_
 walk_at "a"
 refine bV (SqL.of hst.sl) ?_
 walk_at "a"
 rw[List.length_map,hst.si.1,show decide ((20:Int)≤(s0.seen.length:Int))=decide (20≤s0.seen.length) from decide_eq_decide.mpr (by omega)]
 exact k
def qM(Z:Ad):Sp:=fun vs H Q _=>∃ (r:Rec) (s:Stn) (p:Addr) (z:Sn),vs=[.ref r.p,.ref p]∧eH Z H r s∧c9 Z H p z∧s.seen.length≤1000∧Q .non (upd H r.sl (.lst ((r.ss.take (WM.putAt z.t s.seen)++p::r.ss.drop (WM.putAt z.t s.seen)).map V.ref)))
theorem putAt_le(t:Nat)(l:List Sn):WM.putAt t l≤l.length:=(List.takeWhile_sublist _).length_le
theorem putAt_lt{t:Nat}:∀ {l:List Sn} {i:Nat} {z:Sn},l[i]? = some z→i≤WM.putAt t l→(i<WM.putAt t l↔z.t<t)
 | [],i,z,h,_=>by simp at h
 | x::r,0,z,h,_=>by
  have e:x=z:=Option.some.inj h
  subst e
  unfold WM.putAt
  rw[List.takeWhile_cons]
  by_cases h:x.t<t
  ·simp[h]
  ·simp[h]
 | x::r,i+1,z,h,hi=>by
  unfold WM.putAt at hi ⊢
  rw[List.takeWhile_cons] at hi ⊢
  by_cases hx:x.t<t
  ·rw[if_pos (decide_eq_true hx)] at hi ⊢
   have:=putAt_lt (t:=t) (l:=r) (i:=i) (z:=z) h (by unfold WM.putAt; simpa using hi)
   unfold WM.putAt at this
   simpa using this
  ·rw[if_neg (by simpa using hx)] at hi
   simp at hi
theorem qN(T:Txt K mg Z):a9 P w K mg base CX0 1 Z.a_add_sight Z.d_add_sight ["station", "sight"] (qM Z):=by
 refine T.lZ.fn.ok jx (fun vs H Q E h=>?_) (fun cdv A0 outer s H vs Q E hr h=>?_)
 ·revert h; walk_at "len"
 refine⟨_,(ae (az (i:=2) jx.nd rfl (Or.inl rfl) aj) (ae (qX PassesOwn.never (PW.pt (pw_and (aH iA (pv 2) (aT (aS (K:=K) rfl) rfl T.dE PySem.boot_len (ab (ak (K:=K) rfl (pv 0) rfl) af)) (aM _)) (pw_and1 (aH iA (ak (K:=K) rfl (aI (aB (K:=K) rfl) (ak (K:=K) rfl (pv 0) rfl) (pv 2) (fun _ _=>rfl)) rfl) (ak (K:=K) rfl (pv 1) rfl) (aM _))))) (ah (az (i:=2) jx.nd rfl (Or.inl rfl) (aF dM (pv 2) aj)))) (ah (dk (fJ (K:=K) rfl PySem.F.plainAttrs_list PySem.F.slot_list_insert PySem.F.type_list_insert mt_insert (ak (K:=K) rfl (pv 0) rfl) (ab (pv 2) (ab (pv 1) af))))))),?_⟩
 obtain⟨r,s0,p,z,rfl,hst,hz,hn,k⟩:=h
 refine bB (σ':=[some (.ref r.p),some (.ref p),none]) ?_ rfl
 have hle:=putAt_le z.t s0.seen
 generalize hP:WM.putAt z.t s0.seen=P at *
 have hsl:=hst.si.1
 walk_at "a"
 refine while_w (fun σ H'=>∃ i:Nat,σ=[some (.ref r.p),some (.ref p),some (.int (i:Int))]∧H' = H∧i≤P) (fun σ _=>2000-ixI σ 2) ⟨0,rfl,rfl,Nat.zero_le _⟩ ?_
 rintro σ H' ⟨i,rfl,rfl,hi⟩
 have fin:i=P→(tSeq (tDrop (tBM K "list" rInsert (tFld K (fM 0) "seen") (eK (fM 2) (eK (fM 1) tNil)))) tNext) { nx:=fun _ H''=>Q .non H'',rt:=Q } [some (.ref r.p),some (.ref p),some (.int (i:Int))] H'→True:=fun _ _=>trivial
 walk_at "a"
 refine b8 hst T ?_
 walk_at "a"
 refine bV (SqL.of hst.sl) ?_
 walk_at "a"
 rw[List.length_map]
 refine w_ite (fun h1=>?_) (fun h1=>?_)
 ·have hil:i<s0.seen.length:=by omega
  have hzi:=List.getElem?_eq_getElem hil
  have hil2:i<r.ss.length:=by omega
  have hri:=List.getElem?_eq_getElem hil2
  have hpc:=hst.si.2 i _ _ hri hzi
  have hlt:=putAt_lt (t:=z.t) hzi (by rw[hP]; exact hi)
  rw[hP] at hlt
  walk_at "a"
  refine b8 hst T ?_
  walk_at "a"
  refine aV (SqL.of hst.sl) (v:=.ref r.ss[i]) (aE (by rw[List.getElem?_map,hri]; rfl)) ?_
  refine bZ hpc T ?_
  walk_at "a"
  refine bZ hz T ?_
  walk_at "a"
  refine w_ite (fun h2=>?_) (fun h2=>?_)
  ·refine w_turn ?_
   walk_at "a"
   refine⟨⟨i+1,rfl,rfl,?_⟩,?_⟩
   ·have:=hlt.mpr (by omega)
    omega
   ·show 2000-((i:Int)+1).natAbs<2000-(i:Int).natAbs
    omega
  ·have hiP:i=P:=by
    have:¬ i<P:=fun g=>h2 (by have:=hlt.mp g; omega)
    omega
   subst hiP
   walk_at "a"
   refine b8 hst T ?_
   refine⟨ty_list (SqL.of hst.sl),?_⟩
   walk_at "a"
   refine⟨r.sl,_,.ref p,i,rfl,rfl,hst.sl,by rw[List.length_map]; omega,by rw[List.length_map]; omega,?_⟩
   walk_at "a"
   rw[← List.map_take,← List.map_drop,← List.map_cons,← List.map_append]
   exact k
 ·have hiP:i=P:=by omega
  subst hiP
  refine aG ?_
  walk_at "a"
  refine b8 hst T ?_
  refine⟨ty_list (SqL.of hst.sl),?_⟩
  walk_at "a"
  refine⟨r.sl,_,.ref p,i,rfl,rfl,hst.sl,by rw[List.length_map]; omega,by rw[List.length_map]; omega,?_⟩
  walk_at "a"
  rw[← List.map_take,← List.map_drop,← List.map_cons,← List.map_append]
  exact k
def ndat(l:List Nat):PyData:=.list (l.map fun(n:Nat)=>PyData.int (n:Int))
theorem dpAll_nb{K:PySem.W.Frag}{H:Hp}:∀ l:List Nat,DpAll K H (nb l) (l.map fun(n:Nat)=>PyData.int (n:Int))
 | []=>.nil
 | c::r=>.cons (.int _) (dpAll_nb r)
theorem dp_nb{K:PySem.W.Frag}{H:Hp}{a:Addr}{l:List Nat}(h:H a=some (.lst (nb l))):Dp K H (.ref a) (ndat l):=.lst (SqL.of h) (dpAll_nb l)
theorem lay_nb:∀ l:List Nat,PyData.canLayAll0 (l.map fun(n:Nat)=>PyData.int (n:Int))=true
 | []=>by simp[PyData.canLayAll0]
 | c::r=>by simp[PyData.canLayAll0,PyData.canLay0,lay_nb r]
theorem depth_nb:∀ l:List Nat,PyData.depthAll (l.map fun(n:Nat)=>PyData.int (n:Int))=0
 | []=>by simp[PyData.depthAll]
 | c::r=>by simp[PyData.depthAll,PyData.depth,depth_nb r]
theorem shaped_nb(l:List Nat):SeqAt.shaped (ndat l)=true:=by
 unfold SeqAt.shaped ndat
 rw[PyData.canLay0,PyData.depth,lay_nb,depth_nb]
 rfl
theorem eqvAll_nb:∀ l m:List Nat,PyData.eqvAll (l.map fun(n:Nat)=>PyData.int (n:Int)) (m.map fun(n:Nat)=>PyData.int (n:Int))=decide (l=m)
 | [],[]=>by simp[PyData.eqvAll]
 | [],c::r=>by simp[PyData.eqvAll]
 | c::r,[]=>by simp[PyData.eqvAll]
 | c::r,d::s=>by
  rw[List.map_cons,List.map_cons,PyData.eqvAll,PyData.eqv,eqvAll_nb r s]
  by_cases h:c=d
  ·subst h; simp
  ·have:¬ (c:Int)=(d:Int):=by omega
   simp[h]
   exact fun g=>absurd g this
theorem w_eqL{K:PySem.W.Frag}{H:Hp}{Q:VK}{a b:Addr}{l m:List Nat}(ha:H a=some (.lst (nb l)))(hb:H b=some (.lst (nb m)))(q:Q (.bl (decide (l=m))) H):rEqD K (.ref a) (.ref b) H Q:=by
 refine⟨_,_,dp_nb ha,dp_nb hb,shaped_nb l,shaped_nb m,?_⟩
 unfold ndat
 rw[PyData.eqv,eqvAll_nb]
 exact q
def sp_find_station(Z:Ad):Sp:=fun vs H Q _=>∃ (a b:Addr) (rs:List Rec) (l:List Stn) (name:List Nat),vs=[.ref a,.ref b]∧kj Z H a rs l∧H b=some (.lst (nb name)) ∧
 ((∀ s∈l,s.name≠name)→Q .non H)∧(∀ (i:Nat) (r:Rec) (s:Stn),rs[i]? = some r→l[i]? = some s→s.name=name→(∀ (j:Nat) (z:Stn),j<i→l[j]? = some z→z.name≠name)→Q (.ref r.p) H)
theorem ok_find_station(T:Txt K mg Z):a9 P w K mg base CX0 1 Z.lp Z.lq ["stations", "name"] (sp_find_station Z):=by
 refine T.lJ.fn.ok ke (fun vs H Q E h=>?_) (fun cdv A0 outer s H vs Q E hr h=>?_)
 ·revert h; walk_at "len"
 refine⟨_,(ae (cW PassesOwn.never rfl (bD (K:=K) rfl (pv 0)) (aZ (i:=2) ke.nd rfl (Or.inl rfl)) (ah (aP (aH (op_eqDK (K:=K) rfl hr.units) (ak (K:=K) rfl (pv 2) rfl) (pv 1) (aM _)) (ah (ao (pv 2))) aA))) (ah (ao ek))),?_⟩
 obtain⟨a,b,rs,l,name,rfl,ha,hb,k1,k2⟩:=h
 refine bB (σ':=[some (.ref a),some (.ref b),none]) ?_ rfl
 walk_at "a"
 refine⟨a,rfl,⟨_,SqL.of ha.lst⟩,?_⟩
 refine bQ (K:=K) (a:=a) (xs:=rs.map fun r=>V.ref r.p) (fun i σ H'=>∃ v:Option V,σ=[some (.ref a),some (.ref b),v]∧H' = H∧∀ (j:Nat) (z:Stn),j<i→l[j]? = some z→z.name≠name) ⟨_,rfl,rfl,fun j z h=>by omega⟩ (fun i σ H' _ ⟨v,_,e,_⟩=>by rw[e]; exact SqL.of ha.lst) ?_ ?_
 ·rintro i y σ H' hi ⟨v,rfl,rfl,hp⟩
  obtain⟨r,hri,rfl⟩:=i6 hi
  have hil:i<l.length:=by rw[← ha.len]; exact(List.getElem?_eq_some_iff.mp hri).1
  have hz:=List.getElem?_eq_getElem hil
  have hst:=ha.at_ i r _ hri hz
  walk_at "a"
  refine iN hst T ?_
  walk_at "a"
  refine w_eqL hst.nm hb ?_
  walk_at "a"
  refine w_ite (fun he=>?_) (fun he=>?_)
  ·walk_at "a"
   exact k2 i r _ hri hz he hp
  ·walk_at "a"
   refine⟨_,rfl,rfl,fun j z hj hjz=>?_⟩
   by_cases hji:j=i
   ·subst hji
    rw[hz] at hjz
    cases hjz
    exact he
   ·exact hp j z (by omega) hjz
 ·rintro σ H' ⟨v,rfl,rfl,hp⟩
  rw[List.length_map,ha.len] at hp
  walk_at "a"
  refine k1 fun s hs=>?_
  obtain⟨j,hj⟩:=List.getElem?_of_mem hs
  exact hp j s ((List.getElem?_eq_some_iff.mp hj).1) hj
structure Sep (st:Addr) (rs:List Rec):Prop where
 nd:(rs.map fun r=>r.sl).Nodup
 sst:∀ r∈rs,r.sl≠st
 nm:∀ r∈rs,∀ r'∈rs,r.nm≠r'.sl
 nst:∀ r∈rs,r.nm≠st
structure Done (Z:Ad) (H H':Hp) (st:Addr) (rs rs':List Rec) (e:List Stn):Prop where
 we:kj Z H' st rs' e
 sep:Sep st rs'
 fr:∀ b o,H b=some o→b≠st→(∀ r∈rs,b≠r.sl)→H' b=some o
 old:∀ r'∈rs',(∃ r∈rs,r'.sl=r.sl)∨H r'.sl=none
theorem nb_ne_refs{l:List Nat}{as:List V}(h:l≠[])(ha:∀ v∈as,∃ a,v=V.ref a):HO.lst (nb l)≠HO.lst as:=by
 intro e
 injection e with e
 cases l with
 | nil=>exact h rfl
 | cons c r =>
  have:V.int (c:Int)∈as:=by rw[← e]; exact List.mem_cons_self
  obtain⟨a,ea⟩:=ha _ this
  cases ea
theorem refs_are{as:List Addr}:∀ v∈as.map V.ref,∃ a,v=V.ref a:=fun v hv=>by
 obtain⟨a,_,rfl⟩:=List.mem_map.mp hv
 exact⟨a,rfl⟩
theorem recs_are{rs:List Rec}:∀ v∈rs.map (fun r=>V.ref r.p),∃ a,v=V.ref a:=fun v hv=>by
 obtain⟨a,_,rfl⟩:=List.mem_map.mp hv
 exact⟨_,rfl⟩
def takeSt(l:List Stn)(ws:List (List Nat)):Option (List Stn):=match ws with
 | [_,a,b,c]=>(Vbreal.signedOf 100000 b).bind fun x=>(Vbreal.signedOf 100000 c).bind fun y =>
   if Vbreal.isName a=true∧l.length<6∧(l.all fun s=>s.name != a&&s.place != ⟨x,y⟩)=true then some (l++[⟨a,⟨x,y⟩,[]⟩]) else none
 | _=>none
structure WdAt (H:Hp) (wa:Addr) (ws:List (List Nat)):Prop where
 ll:LLAt H wa ws
 ne:∀ w∈ws,w≠[]
 le:∀ w∈ws,w.length≤100000
 few:ws.length≤100000
def sp_take(Z:Ad)(f:List Stn→List (List Nat)→Option (List Stn)):Sp:=fun vs H Q _=>∃ (st wa:Addr) (rs:List Rec) (l:List Stn) (ws:List (List Nat)),vs=[.ref st,.ref wa]∧kj Z H st rs l∧Sep st rs∧WM.WOk l∧WdAt H wa ws ∧
 (f l ws=none→∀ H',ax H H'→Q (.bl false) H')∧(∀ e,f l ws=some e→∀ H' rs',Done Z H H' st rs rs' e→Q (.bl true) H')
theorem four_of{α:Type}{l:List α}(h:l.length=4):∃ a b c d,l=[a,b,c,d]:=match l,h with
 | [a,b,c,d],_=>⟨a,b,c,d,rfl⟩
theorem five_of{α:Type}{l:List α}(h:l.length=5):∃ a b c d e,l=[a,b,c,d,e]:=match l,h with
 | [a,b,c,d,e],_=>⟨a,b,c,d,e,rfl⟩
theorem takeSt_len{l:List Stn}{ws:List (List Nat)}(h:ws.length≠4):takeSt l ws=none:=by
 unfold takeSt
 split
 ·exact absurd rfl h
 ·rfl
theorem Done.add{Z:Ad}{H H1:Hp}{st:Addr}{rs:List Rec}{l:List Stn}{r:Rec}{s:Stn}(ha:kj Z H st rs l)(sp:Sep st rs)(k:ax H H1)(hp:H r.p=none)(hsl:H r.sl=none)(hr:eH Z H1 r s)(hn:s.name≠[]) :
  Done Z H (upd H1 st (.lst ((rs.map fun r=>V.ref r.p)++[.ref r.p]))) st rs (rs++[r]) (l++[s]):=by
 have h1:=ha.mono k
 have hnmst:r.nm≠st:=mL hr.nm h1.lst (nb_ne_refs hn recs_are)
 have hslst:r.sl≠st:=fun e=>by rw[e,ha.lst] at hsl; cases hsl
 have keep:∀ {q:Rec} {z:Stn},eH Z H1 q z→q.sl≠st→q.nm≠st→eH Z (upd H1 st (.lst ((rs.map fun r=>V.ref r.p)++[.ref r.p]))) q z:=fun {q z} hq h2 h3=>by
  obtain⟨dx,ho⟩:=hq.ob
  refine⟨⟨dx,?_⟩,?_,?_,⟨hq.si.1,fun i a y hai hyi=>?_⟩,hq.ne⟩
  ·rw[ay (mL ho h1.lst (by intro z; cases z))]; exact ho
  ·rw[ay h3]; exact hq.nm
  ·rw[ay h2]; exact hq.sl
  ·obtain⟨dy,hy⟩:=hq.si.2 i a y hai hyi
   exact⟨dy,by rw[ay (mL hy h1.lst (by intro z; cases z))]; exact hy⟩
 have hlen:=ha.len
 refine⟨⟨by rw[ai,List.map_append]; rfl,by rw[List.length_append,List.length_append,hlen]; rfl,fun i q z hq hz=>?_⟩,⟨?_,?_,?_,?_⟩,fun b o e hb _=>by rw[ay hb]; exact k _ _ e,?_⟩
 ·by_cases hi:i<rs.length
  ·rw[List.getElem?_append_left hi] at hq
   rw[List.getElem?_append_left (by omega)] at hz
   exact keep (h1.at_ i q z hq hz) (sp.sst q (List.mem_of_getElem? hq)) (sp.nst q (List.mem_of_getElem? hq))
  ·rw[List.getElem?_append_right (by omega)] at hq hz
   ·rw[← hlen] at hz
    cases e:i-rs.length with
    | zero =>
     rw[e] at hq hz
     cases hq
     cases hz
     exact keep hr hslst hnmst
    | succ n=>rw[e] at hq; simp at hq
 ·rw[List.map_append]
  refine List.nodup_append.mpr ⟨sp.nd,by simp,fun x hx y hy=>?_⟩
  obtain⟨q,hq,rfl⟩:=List.mem_map.mp hx
  have:y=r.sl:=by simpa using hy
  rw[this]
  obtain⟨i,hi⟩:=List.getElem?_of_mem hq
  have hil:i<l.length:=by rw[← hlen]; exact(List.getElem?_eq_some_iff.mp hi).1
  exact aC (ha.at_ i q _ hi (List.getElem?_eq_getElem hil)).sl hsl
 ·intro q hq
  rcases List.mem_append.mp hq with z | z
  ·exact sp.sst q z
  ·rw[List.mem_singleton.mp z]; exact hslst
 ·intro q hq q' hq'
  have old:∀ q∈rs,∃ z,eH Z H1 q z:=fun q hq=>by
   obtain⟨i,hi⟩:=List.getElem?_of_mem hq
   have hil:i<l.length:=by rw[← hlen]; exact(List.getElem?_eq_some_iff.mp hi).1
   exact⟨_,h1.at_ i q _ hi (List.getElem?_eq_getElem hil)⟩
  have oldH:∀ q∈rs,∃ z,eH Z H q z:=fun q hq=>by
   obtain⟨i,hi⟩:=List.getElem?_of_mem hq
   have hil:i<l.length:=by rw[← hlen]; exact(List.getElem?_eq_some_iff.mp hi).1
   exact⟨_,ha.at_ i q _ hi (List.getElem?_eq_getElem hil)⟩
  rcases List.mem_append.mp hq with z | z
  ·rcases List.mem_append.mp hq' with z' | z'
   ·exact sp.nm q z q' z'
   ·rw[List.mem_singleton.mp z']
    obtain⟨y,hy⟩:=oldH q z
    exact aC hy.nm hsl
  ·rw[List.mem_singleton.mp z]
   rcases List.mem_append.mp hq' with z' | z'
   ·obtain⟨y,hy⟩:=old q' z'
    exact mL hr.nm hy.sl (nb_ne_refs hn refs_are)
   ·rw[List.mem_singleton.mp z']; exact hr.ne
 ·intro q hq
  rcases List.mem_append.mp hq with z | z
  ·exact sp.nst q z
  ·rw[List.mem_singleton.mp z]; exact hnmst
 ·intro q hq
  rcases List.mem_append.mp hq with z | z
  ·exact .inl ⟨q,z,rfl⟩
  ·rw[List.mem_singleton.mp z]; exact .inr hsl
theorem ok_take_station (T : Txt K mg Z) : a9 P w K mg base CX0 5 Z.lh Z.lj ["stations", "words"] (sp_take Z takeSt) := by
  refine T.lI.fn.ok eV (fun vs H Q E h => ?_) (fun cdv A0 outer s H vs Q E hr h => ?_)
  · revert h; walk_at "len"
  refine ⟨_, (ae (aP (PW.pt (dJ (aH qZ (aT (aS (K := K) rfl) rfl T.dE PySem.boot_len (ab (pv 1) af)) aj (aM _)) (dJ (aH op_ge (aT (aS (K := K) rfl) rfl T.dE PySem.boot_len (ab (pv 0) af)) (bM T.c_MOST_STATIONS) (aM _)) (dw (bR (br (ag T.f_is_name (ok_is_name T) hr (ab (aI (aB (K := K) rfl) (pv 1) aj (fun _ _ => rfl)) af)))))))) (ah (ao fc)) aA) (ae (az (i := 2) eV.nd rfl (Or.inl rfl) (ag T.d6 (eC T) hr (ab (aI (aB (K := K) rfl) (pv 1) aj (fun _ _ => rfl)) (ab (oJ iO (bM T.c_FAR)) (ab (bM T.c_FAR) af))))) (ae (az (i := 3) eV.nd rfl (Or.inl rfl) (ag T.d6 (eC T) hr (ab (aI (aB (K := K) rfl) (pv 1) aj (fun _ _ => rfl)) (ab (oJ iO (bM T.c_FAR)) (ab (bM T.c_FAR) af))))) (ae (aP (PW.pt (dJ (cN (cV (pv 2))) (dw (cN (cV (pv 3)))))) (ah (ao fc)) aA) (ae (cW PassesOwn.never rfl (bD (K := K) rfl (pv 0)) (aZ (i := 4) eV.nd rfl (Or.inl rfl)) (ah (aP (PW.pt (dJ (aH (op_eqDK (K := K) rfl hr.units) (ak (K := K) rfl (pv 4) rfl) (aI (aB (K := K) rfl) (pv 1) aj (fun _ _ => rfl)) (aM _)) (dw (PW.pt (pw_and (aH fU (ak (K := K) rfl (pv 4) rfl) (pv 2) (aM _)) (pw_and1 (aH fU (ak (K := K) rfl (pv 4) rfl) (pv 3) (aM _)))))))) (ah (ao fc)) aA))) (ae (dk (fJ (K := K) rfl PySem.F.plainAttrs_list PySem.F.slot_list_append PySem.F.type_list_append fm (pv 0) (ab (ck T.du.make (ok_Station_init T) (hr.mono (by decide)) rfl T.du.mg T.du.bind .nil eA (ab (aI (aB (K := K) rfl) (pv 1) aj (fun _ _ => rfl)) (ab (pv 2) (ab (pv 3) af)))) af))) (ah (ao fc)))))))), ?_⟩
  obtain ⟨st, wa, rs, l, ws, rfl, ha, sp, wo, hw, k1, k2⟩ := h
  obtain ⟨as, has, hll⟩ := hw.ll
  refine bB (σ' := [some (.ref st), some (.ref wa), none, none, none]) ?_ rfl
  have hl6 := wo.len
  walk_at "a"
  refine bV (SqL.of has) ?_
  walk_at "a"
  rw [List.length_map, hll.1]
  refine cG (fun h4 => ?_) (fun h4 => ?_)
  · refine aD ?_
    walk_at "a"
    exact k1 (takeSt_len (by omega)) H (ax.refl H)
  · obtain ⟨w0, w1, w2, w3, rfl⟩ := four_of (show ws.length = 4 by omega)
    obtain ⟨a0, a1, a2, a3, rfl⟩ := four_of (show as.length = 4 by rw [hll.1]; rfl)
    have e1 := hll.2 1 a1 w1 rfl rfl
    have e2 := hll.2 2 a2 w2 rfl rfl
    have e3 := hll.2 3 a3 w3 rfl rfl
    have n2 := hw.ne w2 (by simp)
    have n3 := hw.ne w3 (by simp)
    have l2 := hw.le w2 (by simp)
    have l3 := hw.le w3 (by simp)
    have n1 := hw.ne w1 (by simp)
    unfold takeSt at k1 k2
    dsimp only at k1 k2
    walk_at "a"
    refine bV (SqL.of ha.lst) ?_
    walk_at "a"
    rw [List.length_map, ha.len]
    refine w_ite (fun h6 => ?_) (fun h6 => ?_)
    · refine aD ?_
      walk_at "a"
      refine k1 ?_ H (ax.refl H)
      cases Vbreal.signedOf 100000 w2 with
      | none => rfl
      | some x =>
        cases Vbreal.signedOf 100000 w3 with
        | none => rfl
        | some y =>
          dsimp only [Option.bind]
          rw [if_neg]
          rintro ⟨_, g, _⟩
          omega
    · walk_at "a"
      refine aV (SqL.of has) (v := .ref a1) (aE (j := 1) rfl) ?_
      walk_at "a"
      refine ⟨a1, w1, rfl, e1, ?_⟩
      walk_at "a"
      cases hnm : Vbreal.isName w1 with
      | false =>
        refine aD ?_
        walk_at "a"
        refine k1 ?_ H (ax.refl H)
        rw [hnm]
        cases Vbreal.signedOf 100000 w2 with
        | none => rfl
        | some x =>
          cases Vbreal.signedOf 100000 w3 with
          | none => rfl
          | some y =>
            dsimp only [Option.bind]
            rw [if_neg]
            rintro ⟨g, _⟩
            cases g
      | true =>
        rw [hnm] at k1 k2
        refine aG ?_
        walk_at "a"
        refine aV (SqL.of has) (v := .ref a2) (aE (j := 2) rfl) ?_
        walk_at "a"
        refine ⟨a2, w2, -100000, 100000, rfl, e2, n2, l2, fun H1 s1 => ?_⟩
        have eq2 : WM.dD w2 (-100000) 100000 = Vbreal.signedOf 100000 w2 := WM.dj 100000 w2
        rw [eq2]
        walk_at "a"
        refine aV (SqL.of (s1 _ _ has)) (v := .ref a3) (aE (j := 3) rfl) ?_
        walk_at "a"
        refine ⟨a3, w3, -100000, 100000, rfl, s1 _ _ e3, n3, l3, fun H2 s2 => ?_⟩
        have eq3 : WM.dD w3 (-100000) 100000 = Vbreal.signedOf 100000 w3 := WM.dj 100000 w3
        rw [eq3]
        have s12 := s1.trans s2
        walk_at "a"
        cases hx : Vbreal.signedOf 100000 w2 with
        | none =>
          rw [hx] at k1
          refine w_ite (fun _ => ?_) (fun g => absurd rfl g)
          refine aD ?_
          walk_at "a"
          exact k1 rfl H2 s12
        | some x =>
          rw [hx] at k1 k2
          refine w_ite (fun g => (by cases g)) (fun _ => ?_)
          walk_at "a"
          cases hy : Vbreal.signedOf 100000 w3 with
          | none =>
            rw [hy] at k1
            refine w_ite (fun _ => ?_) (fun g => absurd rfl g)
            walk_at "a"
            exact k1 rfl H2 s12
          | some y =>
            rw [hy] at k1 k2
            dsimp only [Option.bind] at k1 k2
            refine w_ite (fun g => (by cases g)) (fun _ => ?_)
            have ha2 := ha.mono s12
            show tSeq _ _ _ [some (.ref st), some (.ref wa), some (.int x), some (.int y), none] H2
            walk_at "a"
            refine ⟨st, rfl, ⟨_, SqL.of ha2.lst⟩, ?_⟩
            refine bQ (K := K) (a := st) (xs := rs.map fun r => V.ref r.p) (fun i σ H' => ∃ v : Option V, σ = [some (.ref st), some (.ref wa), some (.int x), some (.int y), v] ∧ H' = H2 ∧ ((l.take i).all fun s => s.name != w1 && s.place != ⟨x, y⟩) = true) ⟨_, rfl, rfl, rfl⟩ (fun i σ H' _ ⟨v, _, e, _⟩ => by rw [e]; exact SqL.of ha2.lst) ?_ ?_
            · rintro i yv σ H' hi ⟨v, rfl, rfl, hp⟩
              obtain ⟨r, hri, rfl⟩ := i6 hi
              have hil : i < l.length := by rw [← ha.len]; exact (List.getElem?_eq_some_iff.mp hri).1
              have hz := List.getElem?_eq_getElem hil
              have hst := ha2.at_ i r _ hri hz
              have bad : (l[i].name != w1 && l[i].place != ⟨x, y⟩) = false → Q (.bl false) H' := fun hb => by
                refine k1 (if_neg ?_) H' s12
                rintro ⟨_, _, g⟩
                have := List.all_eq_true.mp g _ (List.getElem_mem hil)
                rw [hb] at this; cases this
              have good : (l[i].name != w1 && l[i].place != ⟨x, y⟩) = true → ((l.take (i + 1)).all fun s => s.name != w1 && s.place != ⟨x, y⟩) = true := fun hb => by
                rw [take_snoc hz, List.all_append, hp]
                simp only [List.all_cons, List.all_nil, hb]
                rfl
              walk_at "a"
              refine iN hst T ?_
              walk_at "a"
              refine aV (SqL.of (s12 _ _ has)) (v := .ref a1) (aE (j := 1) rfl) ?_
              refine w_eqL hst.nm (s12 _ _ e1) ?_
              walk_at "a"
              refine w_ite (fun he => ?_) (fun he => ?_)
              · refine aD ?_
                walk_at "a"
                exact bad (by simp [he])
              · walk_at "a"
                refine rA hst T ?_
                walk_at "a"
                refine w_ite (fun hex => ?_) (fun hex => ?_)
                · walk_at "a"
                  refine rB hst T ?_
                  walk_at "a"
                  refine w_ite (fun hey => ?_) (fun hey => ?_)
                  · walk_at "a"
                    refine bad ?_
                    have : l[i].place = ⟨x, y⟩ := by
                      generalize l[i] = z at *
                      cases hzp : z.place
                      rw [hzp] at hex hey
                      simp at hex hey
                      rw [hex, hey]
                    simp [this]
                  · walk_at "a"
                    refine ⟨_, rfl, rfl, good ?_⟩
                    have : ¬ l[i].place = ⟨x, y⟩ := fun g => hey (by rw [g])
                    simp [he, this]
                · refine aG ?_
                  walk_at "a"
                  refine ⟨_, rfl, rfl, good ?_⟩
                  have : ¬ l[i].place = ⟨x, y⟩ := fun g => hex (by rw [g])
                  simp [he, this]
            · rintro σ H' ⟨v, rfl, rfl, hp⟩
              rw [List.length_map, ha.len, List.take_length] at hp
              walk_at "a"
              refine ⟨ty_list (SqL.of ha2.lst), ?_⟩
              walk_at "a"
              refine aV (SqL.of (s12 _ _ has)) (v := .ref a1) (aE (j := 1) rfl) ?_
              walk_at "a"
              refine mk_station (s12 _ _ e1) fun r H3 s3 hrp hrs hrn hrss hstr => ?_
              walk_at "a"
              refine gF (s3 _ _ ha2.lst) (by rw [List.length_map, ha.len, aw]; omega) ?_
              walk_at "a"
              have D := Done.add ha sp (s12.trans s3) (s12.free hrp) (s12.free hrs) hstr n1
              exact k2 _ (if_pos ⟨rfl, by omega, hp⟩) _ _ D
theorem g5{a:List Nat}:∀ {l:List Stn} {i:Nat} {s:Stn},l[i]? = some s→s.name=a→(∀ (j:Nat) (z:Stn),j<i→l[j]? = some z→z.name≠a)→Vbreal.stationNo l a=some (i+1)
 | [],i,s,h,_,_=>by simp at h
 | x::r,0,s,h,hn,_=>by
  have e:x=s:=Option.some.inj h
  subst e
  unfold Vbreal.stationNo
  rw[List.findIdx?_cons]
  simp[hn]
 | x::r,i+1,s,h,hn,hp=>by
  have hx:x.name≠a:=hp 0 x (by omega) rfl
  have ih:=g5 (l:=r) (i:=i) (s:=s) h hn fun j z hj hz=>hp (j+1) z (by omega) hz
  unfold Vbreal.stationNo at ih ⊢
  rw[List.findIdx?_cons]
  simp[hx]
  simpa using ih
theorem lR{a:List Nat}{l:List Stn}(h:∀ s∈l,s.name≠a):Vbreal.stationNo l a=none:=by
 unfold Vbreal.stationNo
 rw[List.findIdx?_eq_none_iff.mpr]
 ·rfl
 ·intro s hs
  have:=h s hs
  simpa using this
def takeWi(l:List Stn)(ws:List (List Nat)):Option (List Stn):=match ws with
 | [_,a,t,b,c]=>(Vbreal.stationNo l a).bind fun i=>(Vbreal.numberOf 0 100000 t).bind fun u=>(Vbreal.signedOf 1000 b).bind fun e=>(Vbreal.signedOf 1000 c).bind fun n=>Vbreal.withSeen l i ⟨u,e,n⟩
 | _=>none
theorem takeWi_len{l:List Stn}{ws:List (List Nat)}(h:ws.length≠5):takeWi l ws=none:=by
 unfold takeWi
 split
 ·exact absurd rfl h
 ·rfl
theorem Done.put{Z:Ad}{H H1:Hp}{st:Addr}{rs:List Rec}{l:List Stn}{i:Nat}{r:Rec}{s:Stn}{p:Addr}{z:Sn}(ha:kj Z H st rs l)(sp:Sep st rs)(k:ax H H1)(hri:rs[i]? = some r)(hli:l[i]? = some s)(hp:c9 Z H1 p z)
 (hn:∀ y∈s.seen,y.t≠z.t)(hrise:WM.cP s.seen) :
  Done Z H (upd H1 r.sl (.lst ((r.ss.take (WM.putAt z.t s.seen)++p::r.ss.drop (WM.putAt z.t s.seen)).map V.ref))) st rs (rs.set i { r with ss:=r.ss.take (WM.putAt z.t s.seen)++p::r.ss.drop (WM.putAt z.t s.seen) }) (l.set i { s with seen:=Vbreal.put z s.seen }):=by
 have h1:=ha.mono k
 have hr1:=h1.at_ i r s hri hli
 have hle:=putAt_le z.t s.seen
 have eput:=WM.put_at (s:=z) hn hrise
 generalize WM.putAt z.t s.seen=P at *
 have rmem:=List.mem_of_getElem? hri
 have hil:i<rs.length:=(List.getElem?_eq_some_iff.mp hri).1
 have hil2:i<l.length:=(List.getElem?_eq_some_iff.mp hli).1
 have hinj:∀ (j:Nat) (q:Rec),rs[j]? = some q→j≠i→q.sl≠r.sl:=fun j q hq hj e=>by
  have h2:(rs.map fun r=>r.sl)[j]? = some r.sl:=by rw[List.getElem?_map,hq]; show some q.sl=_; rw[e]
  have h3:(rs.map fun r=>r.sl)[i]? = some r.sl:=by rw[List.getElem?_map,hri]; rfl
  exact hj (nd_ix sp.nd h2 h3)
 have sight:∀ {a:Addr} {y:Sn},c9 Z H1 a y→c9 Z (upd H1 r.sl (.lst ((r.ss.take P++p::r.ss.drop P).map V.ref))) a y:=fun {a y} ⟨dy,hy⟩=>⟨dy,by rw[ay (mL hy hr1.sl (by intro z; cases z))]; exact hy⟩
 have esl:∀ q∈rs.set i { r with ss:=r.ss.take P++p::r.ss.drop P },∃ q'∈rs,q.sl=q'.sl∧q.nm=q'.nm:=fun q hq=>by
  rcases List.mem_or_eq_of_mem_set hq with g | rfl
  ·exact⟨q,g,rfl,rfl⟩
  ·exact⟨r,rmem,rfl,rfl⟩
 refine⟨⟨?_,by rw[List.length_set,List.length_set]; exact ha.len,fun j q y hq hy=>?_⟩,⟨?_,?_,?_,?_⟩,fun b o e _ hb=>by rw[ay (hb r rmem)]; exact k _ _ e,?_⟩
 ·rw[ay (Ne.symm (sp.sst r rmem))]
  rw[h1.lst,List.map_set]
  have:(rs.map fun r=>V.ref r.p).set i (V.ref r.p)=rs.map fun r=>V.ref r.p:=by
   refine List.ext_getElem? fun n=>?_
   rw[List.getElem?_set]
   split
   ·rename_i e
    subst e
    rw[if_pos (by rw[List.length_map]; exact hil),List.getElem?_map,hri]; rfl
   ·rfl
  rw[this]
 ·by_cases hj:i=j
  ·subst hj
   rw[List.getElem?_set_self hil] at hq
   rw[List.getElem?_set_self hil2] at hy
   cases hq
   cases hy
   obtain⟨dx,ho⟩:=hr1.ob
   refine⟨⟨dx,?_⟩,?_,ai,⟨?_,fun n a y ha hy=>?_⟩,hr1.ne⟩
   ·show upd _ r.sl _ r.p=_
    rw[ay (mL ho hr1.sl (by intro z; cases z))]; exact ho
   ·show upd _ r.sl _ r.nm=_
    rw[ay hr1.ne]; exact hr1.nm
   ·show(r.ss.take P++p::r.ss.drop P).length=(Vbreal.put z s.seen).length
    rw[WM.jG,List.length_append,List.length_take,List.length_cons,List.length_drop,hr1.si.1]
    omega
   ·refine sight ?_
    have hy':(Vbreal.put z s.seen)[n]? = some y:=hy
    have ha':(r.ss.take P++p::r.ss.drop P)[n]? = some a:=ha
    rw[eput] at hy'
    have e1:(r.ss.take P).length=P:=by rw[List.length_take,hr1.si.1]; omega
    have e2:(s.seen.take P).length=P:=by rw[List.length_take]; omega
    by_cases hnP:n<P
    ·rw[List.getElem?_append_left (by omega),List.getElem?_take_of_lt hnP] at ha' hy'
     exact hr1.si.2 n a y ha' hy'
    ·rw[List.getElem?_append_right (by omega)] at ha' hy'
     rw[e1] at ha'
     rw[e2] at hy'
     cases hm:n-P with
     | zero =>
      rw[hm] at ha' hy'
      cases ha'
      cases hy'
      exact hp
     | succ m =>
      rw[hm,List.getElem?_cons_succ,List.getElem?_drop] at ha' hy'
      exact hr1.si.2 _ a y ha' hy'
  ·rw[List.getElem?_set_ne hj] at hq hy
   have hq1:=h1.at_ j q y hq hy
   have hqsl:=hinj j q hq (Ne.symm hj)
   obtain⟨dx,ho⟩:=hq1.ob
   refine⟨⟨dx,?_⟩,?_,?_,⟨hq1.si.1,fun n a y ha hy=>sight (hq1.si.2 n a y ha hy)⟩,hq1.ne⟩
   ·rw[ay (mL ho hr1.sl (by intro z; cases z))]; exact ho
   ·rw[ay (sp.nm q (List.mem_of_getElem? hq) r rmem)]; exact hq1.nm
   ·rw[ay hqsl]; exact hq1.sl
 ·rw[List.map_set]
  have:(rs.map fun r=>r.sl).set i r.sl=rs.map fun r=>r.sl:=by
   refine List.ext_getElem? fun n=>?_
   rw[List.getElem?_set]
   split
   ·rename_i e
    subst e
    rw[if_pos (by rw[List.length_map]; exact hil),List.getElem?_map,hri]; rfl
   ·rfl
  rw[this]
  exact sp.nd
 ·intro q hq
  obtain⟨q',hq',e,_⟩:=esl q hq
  rw[e]; exact sp.sst q' hq'
 ·intro q hq q2 hq2
  obtain⟨q',hq',_,e⟩:=esl q hq
  obtain⟨q2',hq2',e2,_⟩:=esl q2 hq2
  rw[e,e2]; exact sp.nm q' hq' q2' hq2'
 ·intro q hq
  obtain⟨q',hq',_,e⟩:=esl q hq
  rw[e]; exact sp.nst q' hq'
 ·intro q hq
  obtain⟨q',hq',e,_⟩:=esl q hq
  exact .inl ⟨q',hq',e⟩
theorem ok_take_wind (T : Txt K mg Z) : a9 P w K mg base CX0 5 Z.a_take_wind Z.d_take_wind ["stations", "words"] (sp_take Z takeWi) := by
  refine T.f_take_wind.fn.ok fH (fun vs H Q E h => ?_) (fun cdv A0 outer s H vs Q E hr h => ?_)
  · revert h; walk_at "len"
  refine ⟨_, (ae (aP (aH qZ (aT (aS (K := K) rfl) rfl T.dE PySem.boot_len (ab (pv 1) af)) aj (aM _)) (ah (ao fc)) aA) (ae (az (i := 2) fH.nd rfl (Or.inl rfl) (ag T.lJ (ok_find_station T) hr (ab (pv 0) (ab (aI (aB (K := K) rfl) (pv 1) aj (fun _ _ => rfl)) af)))) (ae (az (i := 3) fH.nd rfl (Or.inl rfl) (ag T.d6 (eC T) hr (ab (aI (aB (K := K) rfl) (pv 1) aj (fun _ _ => rfl)) (ab aj (ab (bM T.c_LAST_TIME) af))))) (ae (az (i := 4) fH.nd rfl (Or.inl rfl) (ag T.d6 (eC T) hr (ab (aI (aB (K := K) rfl) (pv 1) aj (fun _ _ => rfl)) (ab (oJ iO (bM T.jl)) (ab (bM T.jl) af))))) (ae (az (i := 5) fH.nd rfl (Or.inl rfl) (ag T.d6 (eC T) hr (ab (aI (aB (K := K) rfl) (pv 1) aj (fun _ _ => rfl)) (ab (oJ iO (bM T.jl)) (ab (bM T.jl) af))))) (ae (aP (PW.pt (dJ (cN (cV (pv 2))) (dJ (cN (cV (pv 3))) (dJ (cN (cV (pv 4))) (dw (cN (cV (pv 5)))))))) (ah (ao fc)) aA) (ae (aP (PW.pt (dJ (br (ag T.f_is_full (ok_is_full T) hr (ab (pv 2) af))) (dw (br (ag T.f_saw_at (ok_saw_at T) hr (ab (pv 2) (ab (pv 3) af))))))) (ah (ao fc)) aA) (ae (dk (ag T.lZ (qN T) hr (ab (pv 2) (ab (ck T.eQ.make (oq T) (hr.mono (by decide)) rfl T.eQ.mg T.eQ.bind .nil eA (ab (pv 3) (ab (pv 4) (ab (pv 5) af)))) af)))) (ah (ao fc)))))))))), ?_⟩
  obtain ⟨st, wa, rs, l, ws, rfl, ha, sp, wo, hw, k1, k2⟩ := h
  obtain ⟨as, has, hll⟩ := hw.ll
  refine bB (σ' := [some (.ref st), some (.ref wa), none, none, none, none]) ?_ rfl
  walk_at "a"
  refine bV (SqL.of has) ?_
  walk_at "a"
  rw [List.length_map, hll.1]
  refine cG (fun h5 => ?_) (fun h5 => ?_)
  · walk_at "a"
    exact k1 (takeWi_len (by omega)) H (ax.refl H)
  · obtain ⟨w0, w1, w2, w3, w4, rfl⟩ := five_of (show ws.length = 5 by omega)
    obtain ⟨a0, a1, a2, a3, a4, rfl⟩ := five_of (show as.length = 5 by rw [hll.1]; rfl)
    have e1 := hll.2 1 a1 w1 rfl rfl
    have e2 := hll.2 2 a2 w2 rfl rfl
    have e3 := hll.2 3 a3 w3 rfl rfl
    have e4 := hll.2 4 a4 w4 rfl rfl
    unfold takeWi at k1 k2
    dsimp only at k1 k2
    have rest : ∀ (sv : V) (no : Option Nat), no = Vbreal.stationNo l w1 → ((no = none ∧ sv = .non) ∨ ∃ (i : Nat) (r : Rec) (s : Stn), no = some (i + 1) ∧ rs[i]? = some r ∧ l[i]? = some s ∧ sv = .ref r.p) →
        ∀ (u : TS), (∀ (m e n : Option Int) (H' : Hp), ax H H' → m = (Vbreal.numberOf 0 100000 w2).map Int.ofNat → e = Vbreal.signedOf 1000 w3 → n = Vbreal.signedOf 1000 w4 → u { nx := fun _ H' => Q .non H', rt := Q } [some (.ref st), some (.ref wa), some sv, some (optI m), some (optI e), some (optI n)] H') →
        tSeq (tAsg (oM fA [] E0 (eK (tOp (rIxL K) (fM 1) (tC (.int 2))) (eK (tC (.int 0)) (eK (tC (.int 100000)) tNil)))) (gName 3))
          (tSeq (tAsg (oM fA [] E0 (eK (tOp (rIxL K) (fM 1) (tC (.int 3))) (eK (tUn (rU fun i => .int (-i)) (tC (.int 1000))) (eK (tC (.int 1000)) tNil)))) (gName 4))
          (tSeq (tAsg (oM fA [] E0 (eK (tOp (rIxL K) (fM 1) (tC (.int 4))) (eK (tUn (rU fun i => .int (-i)) (tC (.int 1000))) (eK (tC (.int 1000)) tNil)))) (gName 5)) u)) { nx := fun _ H' => Q .non H', rt := Q } [some (.ref st), some (.ref wa), some sv, none, none, none] H := by
      intro sv no hno hsv u hu
      walk_at "a"
      refine aV (SqL.of has) (v := .ref a2) (aE (j := 2) rfl) ?_
      walk_at "a"
      refine ⟨a2, w2, 0, 100000, rfl, e2, hw.ne w2 (by simp), hw.le w2 (by simp), fun H1 s1 => ?_⟩
      walk_at "a"
      refine aV (SqL.of (s1 _ _ has)) (v := .ref a3) (aE (j := 3) rfl) ?_
      walk_at "a"
      refine ⟨a3, w3, -1000, 1000, rfl, s1 _ _ e3, hw.ne w3 (by simp), hw.le w3 (by simp), fun H2 s2 => ?_⟩
      walk_at "a"
      refine aV (SqL.of ((s1.trans s2) _ _ has)) (v := .ref a4) (aE (j := 4) rfl) ?_
      walk_at "a"
      refine ⟨a4, w4, -1000, 1000, rfl, (s1.trans s2) _ _ e4, hw.ne w4 (by simp), hw.le w4 (by simp), fun H3 s3 => ?_⟩
      walk_at "a"
      exact hu _ _ _ H3 ((s1.trans s2).trans s3) (WM.pF 100000 w2) (WM.dj 1000 w3) (WM.dj 1000 w4)
    have fin : ∀ (sv : V) (no : Option Nat), no = Vbreal.stationNo l w1 → ((no = none ∧ sv = .non) ∨ ∃ (i : Nat) (r : Rec) (s : Stn), no = some (i + 1) ∧ rs[i]? = some r ∧ l[i]? = some s ∧ sv = .ref r.p) →
        ∀ (m e n : Option Int) (H' : Hp), ax H H' → m = (Vbreal.numberOf 0 100000 w2).map Int.ofNat → e = Vbreal.signedOf 1000 w3 → n = Vbreal.signedOf 1000 w4 →
        tSeq (tIfS (tOr (tB (tIsN (fM 2))) (tOr (tB (tIsN (fM 3))) (tOr (tB (tIsN (fM 4))) (tB (tIsN (fM 5)))))) (tRet (tC (.bl false))) tNext)
          (tSeq (tIfS (tOr (tB (oM (sp_is_full Z) [] E0 (eK (fM 2) tNil))) (tB (oM (sp_saw_at Z) [] E0 (eK (fM 2) (eK (fM 3) tNil))))) (tRet (tC (.bl false))) tNext)
          (tSeq (tDrop (oM (qM Z) [] E0 (eK (fM 2) (eK (tMake Z.kD (sp_Sight Z) [] E0 (eK (fM 3) (eK (fM 4) (eK (fM 5) tNil)))) tNil)))) (tRet (tC (.bl true)))))
          { nx := fun _ H' => Q .non H', rt := Q } [some (.ref st), some (.ref wa), some sv, some (optI m), some (optI e), some (optI n)] H' := by
      intro sv no hno hsv m e n H' s' hm he hn
      walk_at "a"
      rcases hsv with ⟨h0, rfl⟩ | ⟨i, r, s0, h0, hri, hli, rfl⟩
      · refine w_ite (fun _ => ?_) (fun g => absurd rfl g)
        refine aD ?_
        walk_at "a"
        refine k1 ?_ H' s'
        rw [← hno, h0]
        rfl
      · rw [← hno, h0] at k1 k2
        dsimp only [Option.bind] at k1 k2
        refine w_ite (fun g => (by cases g)) (fun _ => ?_)
        walk_at "a"
        cases hmv : Vbreal.numberOf 0 100000 w2 with
        | none =>
          rw [hmv] at hm k1
          subst hm
          refine w_ite (fun _ => ?_) (fun g => absurd rfl g)
          refine aD ?_
          walk_at "a"
          exact k1 rfl H' s'
        | some mv =>
          rw [hmv] at hm k1 k2
          dsimp only [Option.bind] at k1 k2
          subst hm
          refine w_ite (fun g => (by cases g)) (fun _ => ?_)
          walk_at "a"
          cases hev : Vbreal.signedOf 1000 w3 with
          | none =>
            rw [hev] at he k1
            subst he
            refine w_ite (fun _ => ?_) (fun g => absurd rfl g)
            refine aD ?_
            walk_at "a"
            exact k1 rfl H' s'
          | some ev =>
            rw [hev] at he k1 k2
            dsimp only [Option.bind] at k1 k2
            subst he
            refine w_ite (fun g => (by cases g)) (fun _ => ?_)
            walk_at "a"
            cases hnv : Vbreal.signedOf 1000 w4 with
            | none =>
              rw [hnv] at hn k1
              subst hn
              refine w_ite (fun _ => ?_) (fun g => absurd rfl g)
              walk_at "a"
              exact k1 rfl H' s'
            | some nv =>
              rw [hnv] at hn k1 k2
              dsimp only [Option.bind] at k1 k2
              subst hn
              refine w_ite (fun g => (by cases g)) (fun _ => ?_)
              have hst := (ha.at_ i r s0 hri hli).mono s'
              have sk := wo.each s0 (List.mem_of_getElem? hli)
              have hws : Vbreal.withSeen l (i + 1) ⟨mv, ev, nv⟩ = if s0.seen.length < 20 ∧ (s0.seen.all fun y => y.t != mv) = true then some (l.set i { s0 with seen := Vbreal.put ⟨mv, ev, nv⟩ s0.seen }) else none := by
                unfold Vbreal.withSeen
                show (match l[i]? with | none => none | some x => _) = _
                rw [hli]
                rfl
              rw [hws] at k1 k2
              walk_at "a"
              refine ⟨r, s0, rfl, hst, ?_⟩
              walk_at "a"
              refine w_ite (fun hf => ?_) (fun hf => ?_)
              · refine aD ?_
                walk_at "a"
                exact k1 (if_neg (by rintro ⟨g, _⟩; omega)) H' s'
              · walk_at "a"
                refine ⟨r, s0, Int.ofNat mv, rfl, hst, ?_⟩
                have ep : (s0.seen.all fun y => decide ((y.t : Int) ≠ Int.ofNat mv)) = (s0.seen.all fun y => y.t != mv) := by
                  congr 1
                  funext y
                  by_cases g : y.t = mv
                  · simp [g]
                  · have : ¬ (y.t : Int) = (mv : Int) := by omega
                    simp [g, this]
                rw [ep]
                walk_at "a"
                cases hall : s0.seen.all fun y => y.t != mv with
                | false =>
                  refine aD ?_
                  walk_at "a"
                  exact k1 (if_neg (by rintro ⟨_, g⟩; rw [hall] at g; cases g)) H' s'
                | true =>
                  refine aG ?_
                  walk_at "a"
                  refine mk_sight ⟨mv, ev, nv⟩ rfl rfl rfl fun p H2 s2 hp2 hp => ?_
                  walk_at "a"
                  refine ⟨r, s0, p, ⟨mv, ev, nv⟩, rfl, hst.mono s2, hp, by omega, ?_⟩
                  walk_at "a"
                  refine k2 _ (if_pos ⟨by omega, hall⟩) _ _ (Done.put ha sp (s'.trans s2) hri hli hp (fun y hy => ?_) sk.rise)
                  have := List.all_eq_true.mp hall y hy
                  simpa using this
    walk_at "a"
    refine aV (SqL.of has) (v := .ref a1) (aE (j := 1) rfl) ?_
    walk_at "a"
    refine ⟨st, a1, rs, l, w1, rfl, ha, e1, fun hno => ?_, fun i r s0 hri hli hn hp => ?_⟩
    · exact rest _ none (lR hno).symm (.inl ⟨rfl, rfl⟩) _ (fin _ none (lR hno).symm (.inl ⟨rfl, rfl⟩))
    · exact rest _ _ (g5 hli hn hp).symm (.inr ⟨i, r, s0, rfl, hri, hli, rfl⟩) _ (fin _ _ (g5 hli hn hp).symm (.inr ⟨i, r, s0, rfl, hri, hli, rfl⟩))
theorem text_tl(s:String):(Str.ofString s).cps.toList=Vbreal.text s:=TL.lW s
theorem words_ok(line:List Nat)(hz:line.length≤100000):(∀ w∈Vbreal.wordsOf line,w≠[])∧(∀ w∈Vbreal.wordsOf line,w.length≤100000)∧(Vbreal.wordsOf line).length≤100001:=by
 unfold Vbreal.wordsOf
 refine⟨fun w hw=>?_,fun w hw=>?_,?_⟩
 ·have:=(List.mem_filter.mp hw).2
  rintro rfl
  simp at this
 ·have:=(kh 32 line (List.mem_filter.mp hw).1).1
  omega
 ·have:=ig 32 line
  exact Nat.le_trans (List.length_filter_le _ _) (by omega)
theorem text_ne:Vbreal.text "station" ≠ Vbreal.text "wind" := by decide
theorem taken_st{d:List Stn}{line w0:List Nat}{r:List (List Nat)}(h:Vbreal.wordsOf line=w0::r)(h0:w0=Vbreal.text "station"):Vbreal.taken d line=takeSt d (w0::r):=by
 unfold Vbreal.taken takeSt
 rw[h]
 subst h0
 split
 ·rename_i e
  cases e
  rw[if_pos rfl]
  rfl
 ·rename_i e
  cases e
  rw[if_neg text_ne]
 ·rename_i h1 h2
  split
  ·rename_i e
   cases e
   exact absurd rfl (h1 _ _ _ _)
  ·rfl
theorem taken_wi{d:List Stn}{line w0:List Nat}{r:List (List Nat)}(h:Vbreal.wordsOf line=w0::r)(h0:w0=Vbreal.text "wind"):Vbreal.taken d line=takeWi d (w0::r):=by
 unfold Vbreal.taken takeWi
 rw[h]
 subst h0
 split
 ·rename_i e
  cases e
  rw[if_neg (Ne.symm text_ne)]
 ·rename_i e
  cases e
  rw[if_pos rfl]
  rfl
 ·rename_i h1 h2
  split
  ·rename_i e
   cases e
   exact absurd rfl (h2 _ _ _ _ _)
  ·rfl
theorem taken_no{d:List Stn}{line w0:List Nat}{r:List (List Nat)}(h:Vbreal.wordsOf line=w0::r)(h0:w0≠Vbreal.text "station")(h1:w0≠Vbreal.text "wind"):Vbreal.taken d line=none:=by
 unfold Vbreal.taken
 rw[h]
 split
 ·rename_i e
  cases e
  rw[if_neg h0]
 ·rename_i e
  cases e
  rw[if_neg h1]
 ·rfl
def kq(l:List Stn)(line:List Nat):Option (List Stn):=if Vbreal.plain line=false then none else if Vbreal.isRemark line=true then some l else Vbreal.taken l line
theorem Done.same{Z:Ad}{H H':Hp}{st:Addr}{rs:List Rec}{l:List Stn}(ha:kj Z H st rs l)(sp:Sep st rs)(k:ax H H'):Done Z H H' st rs rs l :=
 ⟨ha.mono k,sp,fun b o e _ _=>k _ _ e,fun r hr=>.inl ⟨r,hr,rfl⟩⟩
theorem Done.before{Z:Ad}{H H1 H':Hp}{st:Addr}{rs rs':List Rec}{e:List Stn}(k:ax H H1)(D:Done Z H1 H' st rs rs' e):Done Z H H' st rs rs' e :=
 ⟨D.we,D.sep,fun b o h1 h2 h3=>D.fr b o (k _ _ h1) h2 h3,fun r hr=>by
  rcases D.old r hr with g | g
  ·exact .inl g
  ·exact .inr (k.free g)⟩
def sp_take_line(Z:Ad):Sp:=fun vs H Q _=>∃ (st ln:Addr) (rs:List Rec) (l:List Stn) (line:List Nat),vs=[.ref st,.ref ln]∧kj Z H st rs l∧Sep st rs∧WM.WOk l∧H ln=some (.lst (nb line))∧line.length≤99000 ∧
 (kq l line=none→∀ H',ax H H'→Q (.bl false) H')∧(∀ e,kq l line=some e→∀ H' rs',Done Z H H' st rs rs' e→Q (.bl true) H')
theorem ok_take_line(T:Txt K mg Z):a9 P w K mg base CX0 6 Z.a_take_line Z.d_take_line ["stations", "line"] (sp_take_line Z):=by
 refine T.f_take_line.fn.ok qJ (fun vs H Q E h=>?_) (fun cdv A0 outer s H vs Q E hr h=>?_)
 ·revert h; walk_at "len"
 refine⟨_,(ae (aP (bR (br (ag T.nX (ok_is_readable T) hr (ab (pv 1) af)))) (ah (ao fc)) aA) (ae (az (i:=2) qJ.nd rfl (Or.inl rfl) (ag T.f_words_of (ok_words_of T) hr (ab (pv 1) af))) (ae (aP (PW.pt (dJ (aH fU (aT (aS (K:=K) rfl) rfl T.dE PySem.boot_len (ab (pv 2) af)) aj (aM _)) (dw (aH fU (aI (aB (K:=K) rfl) (aI (aB (K:=K) rfl) (pv 2) aj (fun _ _=>rfl)) aj (fun _ _=>rfl)) (bM T.c_COMMENT) (aM _))))) (ah (ao fc)) aA) (ae (aP (aH (op_eqDK (K:=K) rfl hr.units) (aI (aB (K:=K) rfl) (pv 2) aj (fun _ _=>rfl)) (ag T.dU (dP T) hr (ab pe_str af)) (aM _)) (ah (ao (ag T.lI (ok_take_station T) hr (ab (pv 0) (ab (pv 2) af))))) aA) (ae (aP (aH (op_eqDK (K:=K) rfl hr.units) (aI (aB (K:=K) rfl) (pv 2) aj (fun _ _=>rfl)) (ag T.dU (dP T) hr (ab pe_str af)) (aM _)) (ah (ao (ag T.f_take_wind (ok_take_wind T) hr (ab (pv 0) (ab (pv 2) af))))) aA) (ah (ao fc))))))),?_⟩
 obtain⟨st,ln,rs,l,line,rfl,ha,sp,wo,hl,hz,k1,k2⟩:=h
 unfold kq at k1 k2
 refine bB (σ':=[some (.ref st),some (.ref ln),none]) ?_ rfl
 walk_at "a"
 refine⟨ln,line,rfl,hl,?_⟩
 walk_at "a"
 cases hp:Vbreal.plain line with
 | false =>
  rw[hp] at k1
  refine aD ?_
  walk_at "a"
  exact k1 (if_pos rfl) H (ax.refl H)
 | true =>
  rw[hp,if_neg (by decide)] at k1
  rw[hp,if_neg (by decide)] at k2
  refine aG ?_
  walk_at "a"
  refine⟨ln,line,rfl,hl,by omega,fun wa H1 as s1 hwa has hll hfa=>?_⟩
  obtain⟨o1,o2,o3⟩:=words_ok line (by omega)
  have hpl:=ig 32 line
  have hfew:(Vbreal.wordsOf line).length≤100000:=by
   have:(Vbreal.wordsOf line).length≤(Vbreal.parted 32 line).length:=List.length_filter_le _ _
   omega
  have ha1:=ha.mono s1
  have hW:WdAt H1 wa (Vbreal.wordsOf line):=⟨⟨as,has,hll⟩,o1,o2,hfew⟩
  walk_at "a"
  refine bV (SqL.of has) ?_
  walk_at "a"
  rw[List.length_map,hll.1]
  cases hws:Vbreal.wordsOf line with
  | nil =>
   refine w_ite (fun _=>?_) (fun g=>absurd rfl g)
   refine aD ?_
   walk_at "a"
   have hrm:Vbreal.isRemark line=true:=by unfold Vbreal.isRemark; rw[hws]
   exact k2 l (if_pos hrm) H1 rs (Done.same ha sp s1)
  | cons w0 r =>
   rw[hws] at hll hW o1
   refine w_ite (fun g=>by simp at g; omega) (fun _=>?_)
   obtain⟨a0,ar,rfl⟩:∃ a0 ar,as=a0::ar:=by
    cases as with
    | nil=>have:=hll.1; simp at this
    | cons a0 ar=>exact⟨a0,ar,rfl⟩
   have e0:=hll.2 0 a0 w0 rfl rfl
   obtain⟨c,w0',rfl⟩:∃ c w',w0=c::w':=by
    cases w0 with
    | nil=>exact absurd rfl (o1 [] List.mem_cons_self)
    | cons c w'=>exact⟨c,w',rfl⟩
   walk_at "a"
   refine aV (SqL.of has) (v:=.ref a0) (aE (j:=0) rfl) ?_
   walk_at "a"
   refine aV (SqL.of e0) (v:=.int (c:Int)) (aE (j:=0) rfl) ?_
   walk_at "a"
   have hrm:Vbreal.isRemark line=decide (c=35):=by
    unfold Vbreal.isRemark
    rw[hws]
    show(some c==some 35)=_
    by_cases g:c=35
    ·simp[g]
    ·simp[g]
   refine w_ite (fun h35=>?_) (fun h35=>?_)
   ·walk_at "a"
    exact k2 l (if_pos (by rw[hrm]; exact decide_eq_true (by omega))) H1 rs (Done.same ha sp s1)
   ·have hrm':¬ Vbreal.isRemark line=true:=by rw[hrm]; simp; omega
    rw[if_neg hrm'] at k1
    rw[if_neg hrm'] at k2
    walk_at "a"
    refine aV (SqL.of has) (v:=.ref a0) (aE (j:=0) rfl) ?_
    walk_at "a"
    refine⟨_,rfl,by decide,fun b1 H2 s2 hb1 hb=>?_⟩
    rw[text_tl] at hb
    refine w_eqL (s2 _ _ e0) hb ?_
    walk_at "a"
    have mk:∀ {H3:Hp},ax H1 H3→WdAt H3 wa ((c::w0')::r):=fun {H3} s3=>⟨hW.ll.mono s3,hW.ne,hW.le,hW.few⟩
    refine w_ite (fun hst=>?_) (fun hst=>?_)
    ·rw[taken_st hws hst] at k1 k2
     walk_at "a"
     refine⟨st,wa,rs,l,_,rfl,ha1.mono s2,sp,wo,mk s2,fun h1 H3 s3=>k1 h1 H3 ((s1.trans s2).trans s3),fun e h1 H3 rs' D=>k2 e h1 H3 rs' (Done.before (s1.trans s2) D)⟩
    ·walk_at "a"
     refine aV (SqL.of (s2 _ _ has)) (v:=.ref a0) (aE (j:=0) rfl) ?_
     walk_at "a"
     refine⟨_,rfl,by decide,fun b2 H3 s3 hb2 hb'=>?_⟩
     rw[text_tl] at hb'
     have s23:=s2.trans s3
     refine w_eqL (s23 _ _ e0) hb' ?_
     walk_at "a"
     refine w_ite (fun hwi=>?_) (fun hwi=>?_)
     ·rw[taken_wi hws hwi] at k1 k2
      walk_at "a"
      refine⟨st,wa,rs,l,_,rfl,ha1.mono s23,sp,wo,mk s23,fun h1 H4 s4=>k1 h1 H4 ((s1.trans s23).trans s4),fun e h1 H4 rs' D=>k2 e h1 H4 rs' (Done.before (s1.trans s23) D)⟩
     ·walk_at "a"
      exact k1 (taken_no hws hst hwi) H3 (s1.trans s23)
def reF(st w:V):List (Str×V):=eD "wrong_line" w (eD "stations" st [])
def ReAt(Z:Ad)(H:Hp)(p st:Addr)(w:Int):Prop:=∃ dx,H p=some (.ins Z.eZ dx (reF (.ref st) (.int w)))
def sp_Reading(Z:Ad):Sp:=fun vs H Q _=>∃ (p dx:Addr),vs=[.ref p]∧H p=some (.ins Z.eZ dx [])∧∀ q,H q=none→Q .non (upd (upd H q (.lst [])) p (.ins Z.eZ dx (reF (.ref q) (.int 0))))
theorem ok_Reading_init(T:Txt K mg Z):a9 P w K mg base CX0 1 Z.k7 Z.k8 ["self"] (sp_Reading Z):=by
 refine T.eg.fn.ok sc_Reading_init (fun vs H Q E h=>?_) (fun cdv A0 outer s H vs Q E hr h=>?_)
 ·revert h; walk_at "len"
 refine⟨_,(ae (cB (K:=K) rfl (pv 0) (aJ af) rfl) (ah (cB (K:=K) rfl (pv 0) aj rfl))),?_⟩
 obtain⟨p,dx,rfl,hp,k⟩:=h
 refine bB (σ':=[some (.ref p)]) ?_ rfl
 walk_at "a"
 refine⟨Nat.zero_le _,fun q hq=>?_⟩
 have hqp:q≠p:=by
  rintro rfl
  rw[hp] at hq; cases hq
 walk_at "a"
 refine dh (by rw[ay (Ne.symm hqp)]; exact hp) T.eg.cl T.eJ (by show 0<1000; decide) ?_
 walk_at "a"
 refine dh ai T.eg.cl T.dY (by show 1<1000; decide) ?_
 rw[bO]
 exact k q hq
def sp_read_weather(Z:Ad):Sp:=fun vs H Q _=>∃ (a:Addr) (t:List Nat),vs=[.ref a]∧H a=some (.lst (nb t))∧t.length≤90000∧∀ p H',ax H H' →
 (match Vbreal.readWeather t with
  | .error n=>∃ st,ReAt Z H' p st (n:Int)∧0<n
  | .ok l=>∃ st rs,ReAt Z H' p st 0∧kj Z H' st rs l∧Sep st rs∧H st=none∧∀ r∈rs,H r.sl=none)→Q (.ref p) H'
theorem readFrom_cons(n:Nat)(d:List Stn)(l:List Nat)(r:List (List Nat)):Vbreal.readFrom Vbreal.taken n d (l::r)=match kq d l with
  | none=>.error n
  | some e=>Vbreal.readFrom Vbreal.taken (n+1) e r:=by
 rw[Vbreal.readFrom]
 unfold kq
 split
 ·rfl
 ·split
  ·rfl
  ·cases Vbreal.taken d l<;>rfl
theorem readFrom_nil(n:Nat)(d:List Stn):Vbreal.readFrom Vbreal.taken n d [] = .ok d:=rfl
theorem lineRes_ok{d e:List Stn}{l:List Nat}(hd:WM.WOk d)(h:kq d l=some e):WM.WOk e:=by
 unfold kq at h
 split at h
 ·cases h
 ·split at h
  ·cases h; exact hd
  ·exact WM.taken_ok hd h
theorem ok_read_weather(T:Txt K mg Z):a9 P w K mg base CX0 7 Z.k9 Z.lg ["text"] (sp_read_weather Z):=by
 refine T.lH.fn.ok eU (fun vs H Q E h=>?_) (fun cdv A0 outer s H vs Q E hr h=>?_)
 ·revert h; walk_at "len"
 refine⟨_,(ae (az (i:=1) eU.nd rfl (Or.inl rfl) (pe_make0 T.eg.make (ok_Reading_init T) (hr.mono (by decide)) rfl T.eg.mg T.eg.bind .nil eA )) (ae (cW PassesOwn.never rfl (pi_enum1K (K:=K) rfl rfl T.mi (ab (ag T.f_lines_of (ok_lines_of T) hr (ab (pv 0) af)) af)) (rE (K:=K) (n:=2) rfl rfl (eY (aZ (i:=2) eU.nd rfl (Or.inl rfl)) (eY (aZ (i:=3) eU.nd rfl (Or.inl rfl)) rC))) (ah (aP (bR (br (ag T.f_take_line (ok_take_line T) hr (ab (ak (K:=K) rfl (pv 1) rfl) (ab (pv 3) af))))) (ae (cB (K:=K) rfl (pv 1) (pv 2) rfl) (ah (ao (pv 1)))) aA))) (ah (ao (pv 1))))),?_⟩
 obtain⟨a,t,rfl,hat,hz,k⟩:=h
 rw[WM.kI] at k
 refine bB (σ':=[some (.ref a),none,none,none]) ?_ rfl
 walk_at "a"
 intro p dx hp hdx hne
 refine⟨p,dx,rfl,ai,fun st hst=>⟨rfl,?_⟩⟩
 have hstp:st≠p:=by
  rintro rfl
  rw[ai] at hst; cases hst
 rw[ay hstp] at hst
 have hstd:st≠dx:=by
  rintro rfl
  rw[ai] at hst; cases hst
 rw[ay hstd] at hst
 generalize hH0:upd (upd (upd (upd H dx (.own p)) p (.ins Z.eZ dx [])) st (.lst [])) p (.ins Z.eZ dx (reF (.ref st) (.int 0)))=H0
 have s0:ax H H0:=by
  intro c o e
  rw[← hH0,ay (aC e hp),ay (aC e hst),ay (aC e hp),ay (aC e hdx)]
  exact e
 have hre:H0 p=some (.ins Z.eZ dx (reF (.ref st) (.int 0))):=by rw[← hH0]; exact ai
 have hst0:H0 st=some (.lst []):=by rw[← hH0,ay hstp,ai]
 clear hH0
 walk_at "a"
 refine⟨a,t,rfl,s0 _ _ hat,by omega,fun la H1 as s1 hla hlp hll hfa=>?_⟩
 have hlines:∀ i (hi:i<(Vbreal.linesOf t).length),(Vbreal.linesOf t)[i].length≤99000:=fun i hi=>by
  have hm:∀ w∈Vbreal.linesOf t,w∈Vbreal.parted 10 t:=fun w hw=>by
   unfold Vbreal.linesOf at hw
   dsimp only at hw
   split at hw
   ·exact(List.dropLast_sublist _).subset hw
   ·exact hw
  have:=(kh 10 t (hm _ (List.getElem_mem hi))).1
  omega
 generalize Vbreal.linesOf t=ls at *
 walk_at "a"
 refine⟨la,_,rfl,SqL.of hlp,?_⟩
 have hWe0:kj Z H1 st [] []:=⟨s1 _ _ hst0,rfl,fun i r s h=>by simp at h⟩
 refine for_gen (n:=ls.length) (fun i σ H'=>∃ (rs:List Rec) (d:List Stn) (v1 v2:Option V),σ=[some (.ref a),some (.ref p),v1,v2]∧ax H H'∧H' p=some (.ins Z.eZ dx (reF (.ref st) (.int 0)))∧kj Z H' st rs d∧Sep st rs∧WM.WOk d∧(∀ r∈rs,H1 r.sl=none)∧(∀ b o,H1 b=some o→b≠st→H' b=some o) ∧
   H' la=some (.lst (as.map V.ref))∧LL H' as ls∧Vbreal.readFrom Vbreal.taken (i+1) d (ls.drop i)=Vbreal.readFrom Vbreal.taken 1 [] ls)
  ⟨[],[],_,_,rfl,s0.trans s1,s1 _ _ hre,hWe0,⟨by simp,by simp,by simp,by simp⟩,WM.WOk.nil,by simp,fun b o e _=>e,hlp,hll,rfl⟩
  (fun i σ H' hi ⟨_,_,_,_,_,_,_,_,_,_,_,_,hl',hll',_⟩=>⟨_,_,SqL.of hl',List.getElem?_eq_getElem (by rw[List.length_map,hll'.1]; exact hi)⟩)
  (fun σ H' ⟨_,_,_,_,_,_,_,_,_,_,_,_,hl',hll',_⟩=>⟨_,SqL.of hl',by rw[List.length_map,hll'.1]⟩) ?_ ?_
 ·rintro i σ H' v H2 hi ⟨rs,d,v1,v2,rfl,s',hre',hwe,hsep,hwo,hfr,hkeep,hl',hll',hg⟩ ⟨tp,y,rfl,htp,rfl,hy⟩
  have hyi:=hy _ (SqL.of hl')
  obtain⟨b,hbi,rfl⟩:=fQ hyi
  have hlsi:=List.getElem?_eq_getElem hi
  have hb:=hll'.2 i b _ hbi hlsi
  have hlen:=hlines i hi
  rw[drop_cons hlsi,readFrom_cons] at hg
  generalize ls[i]=line at *
  have sT:ax H' (upd H' tp (.tup [.int ((i+1:Nat):Int),.ref b])):=ax.new htp
  generalize hH2:upd H' tp (.tup [.int ((i+1:Nat):Int),.ref b])=H2 at *
  refine w_gTup (SqT.of (by rw[← hH2]; exact ai)) rfl ?_
  walk_at "a"
  refine d4 (sT _ _ hre') T.eg.cl T.eJ (bF (by decide +kernel) dZ) ?_
  walk_at "a"
  have hpst:p≠st:=mL hre' hwe.lst (by intro z; cases z)
  refine⟨st,b,rs,d,line,rfl,hwe.mono sT,hsep,hwo,sT _ _ hb,hlen,fun hn H3 s3=>?_,fun e he H3 rs' D=>?_⟩
  ·rw[hn] at hg
   dsimp only at hg
   rw[← hg] at k
   walk_at "a"
   refine aD ?_
   walk_at "a"
   refine dh ((sT.trans s3) _ _ hre') T.eg.cl T.dY (by show 2<1000; decide) ?_
   walk_at "a"
   refine k p _ (((s'.trans sT).trans s3).dB hp) ?_
   dsimp only
   refine⟨st,⟨dx,?_⟩,by omega⟩
   rw[ai]
   rfl
  ·rw[he] at hg
   dsimp only at hg
   walk_at "a"
   refine aG ?_
   walk_at "a"
   have hne1:∀ r∈rs,p≠r.sl:=fun r hr=>by
    have:=hfr r hr
    intro z
    rw[← z,s1 _ _ hre] at this; cases this
   have keepAs:∀ c∈as,∀ o,H' c=some o→H3 c=some o:=fun c hc o ho=>by
    refine D.fr c o (sT _ _ ho) (fun z=>?_) (fun r hr z=>?_)
    ·have:=hfa c hc
     rw[z,hst0] at this; cases this
    ·have h1:=hfr r hr
     obtain⟨j,hj⟩:=List.getElem?_of_mem hc
     have hjl:j<ls.length:=by rw[← hll.1]; exact(List.getElem?_eq_some_iff.mp hj).1
     have h2:=hll.2 j c _ hj (List.getElem?_eq_getElem hjl)
     rw[z,h1] at h2; cases h2
   refine⟨rs',e,_,_,rfl,fun c o ho=>?_,D.fr _ _ (sT _ _ hre') hpst hne1,D.we,D.sep,lineRes_ok hwo he,fun r hr=>?_,?_,?_,hll'.mono keepAs,hg⟩
   ·refine D.fr c o ((s'.trans sT) _ _ ho) (fun z=>?_) (fun r hr z=>?_)
    ·rw[z,hst] at ho; cases ho
    ·have h1:=hfr r hr
     have h2:=(s0.trans s1) _ _ ho
     rw[z,h1] at h2; cases h2
   ·rcases D.old r hr with⟨q,hq,e'⟩ | g
    ·rw[e']; exact hfr q hq
    ·have h1:H' r.sl=none:=sT.free g
     cases hc:H1 r.sl with
     | none=>rfl
     | some o =>
      exfalso
      by_cases hq:r.sl=st
      ·rw[hq,hwe.lst] at h1; cases h1
      ·have:=hkeep r.sl o hc hq
       rw[h1] at this; cases this
   ·intro b o hb hbst
    refine D.fr b o (sT _ _ (hkeep b o hb hbst)) hbst (fun r hr z=>?_)
    rw[z,hfr r hr] at hb; cases hb
   ·refine D.fr la _ (sT _ _ hl') (fun z=>?_) (fun r hr z=>?_)
    ·rw[z,hst0] at hla; cases hla
    ·have h1:=hfr r hr
     rw[← z,hlp] at h1; cases h1
 ·rintro σ H' ⟨rs,d,v1,v2,rfl,s',hre',hwe,hsep,hwo,hfr,hkeep,hl',hll',hg⟩
  rw[List.drop_of_length_le (Nat.le_refl _)] at hg
  rw[readFrom_nil] at hg
  walk_at "a"
  rw[← hg] at k
  exact k p H' s' ⟨st,rs,⟨dx,hre'⟩,hwe,hsep,hst,fun r hr=>(s0.trans s1).free (hfr r hr)⟩
theorem dv{n:Int}{k:Nat}(h:n.natAbs<2^k):(Vbreal.shownInt n).length≤k+2:=by
 rw[← tl_int,← TL.len_tl]
 exact mz h
theorem str_small{n:Int}(h:n.natAbs<2^17):n.natAbs<2^12900:=bA h (by decide)
theorem text_int(n:Int):(Str.ofString (toString n)).cps.toList=Vbreal.shownInt n:=tl_int n
theorem text_len{n:Int}(h:n.natAbs<2^17):(Str.ofString (toString n)).cps.size≤100000:=by
 have h1:=mz h
 have e:(Str.ofString (toString n)).cps.size=(Str.ofString (toString n)).length:=rfl
 omega
def kE(s:Stn):List Nat:=Vbreal.line [Vbreal.text "station",s.name,Vbreal.shownInt s.place.x,Vbreal.shownInt s.place.y]
def ot(s:Stn)(z:Sn):List Nat:=Vbreal.line [Vbreal.text "wind",s.name,Vbreal.decimal z.t,Vbreal.shownInt z.e,Vbreal.shownInt z.n]
theorem mV(n:Nat):Vbreal.shownInt (n:Int)=Vbreal.decimal n:=by
 unfold Vbreal.shownInt
 rw[if_neg (by omega),Int.natAbs_natCast]
def rS(Z:Ad):Sp:=fun vs H Q _=>∃ (r:Rec) (s:Stn),vs=[.ref r.p]∧eH Z H r s∧WM.StOk s∧cH H Q (nb (kE s))
theorem abs17{x:Int}(h:-100000≤x∧x≤100000):x.natAbs<2^17:=by
 show _<131072
 omega
theorem rT(T:Txt K mg Z):a9 P w K mg base CX0 2 Z.jW Z.jX ["station"] (rS Z):=by
 refine T.j9.fn.ok rN (fun vs H Q E h=>?_) (fun cdv A0 outer s H vs Q E hr h=>?_)
 ·revert h; walk_at "len"
 refine⟨_,(ah (ao (ag T.f_line_of (ok_line_of T) hr (ab (aJ (ab (ag T.dU (dP T) hr (ab pe_str af)) (ab (ak (K:=K) rfl (pv 0) rfl) (ab (ag T.dU (dP T) hr (ab (i8 fB rfl T.n_str ja (ab (ak (K:=K) rfl (pv 0) rfl) af)) af)) (ab (ag T.dU (dP T) hr (ab (i8 fB rfl T.n_str ja (ab (ak (K:=K) rfl (pv 0) rfl) af)) af)) af))))) af)))),?_⟩
 obtain⟨r,s0,rfl,hst,sk,k⟩:=h
 have hx:=abs17 sk.x
 have hy:=abs17 sk.y
 have hn:=sk.name
 refine bB (σ':=[some (.ref r.p)]) ?_ rfl
 walk_at "a"
 refine⟨_,rfl,by decide,fun p1 H1 s1 hp1 e1=>?_⟩
 rw[text_tl] at e1
 walk_at "a"
 refine iN (hst.mono s1) T ?_
 walk_at "a"
 refine rA (hst.mono s1) T ?_
 walk_at "a"
 refine w_str (str_small hx) ?_
 walk_at "a"
 refine⟨_,rfl,text_len hx,fun p2 H2 s2 hp2 e2=>?_⟩
 rw[text_int] at e2
 walk_at "a"
 refine rB (hst.mono (s1.trans s2)) T ?_
 walk_at "a"
 refine w_str (str_small hy) ?_
 walk_at "a"
 refine⟨_,rfl,text_len hy,fun p3 H3 s3 hp3 e3=>?_⟩
 rw[text_int] at e3
 walk_at "a"
 refine⟨by show 4≤sizeLine; rw[aw]; omega,fun p4 hp4=>?_⟩
 have s4:ax H3 (upd H3 p4 (.lst [.ref p1,.ref r.nm,.ref p2,.ref p3])):=ax.new hp4
 have s13:=(s1.trans s2).trans s3
 walk_at "a"
 refine⟨p4,[p1,r.nm,p2,p3],Vbreal.text "station",[s0.name,Vbreal.shownInt s0.place.x,Vbreal.shownInt s0.place.y],rfl,ai,⟨rfl,fun i a l h1 h2=>?_⟩,by decide,?_,fun p H' s' hp he=>k p H' (s13.trans (s4.trans s')) (s13.free (s4.free hp)) he⟩
 ·match i,h1,h2 with
  | 0,h1,h2=>cases h1; cases h2; exact s4 _ _ ((s2.trans s3) _ _ e1)
  | 1,h1,h2=>cases h1; cases h2; exact s4 _ _ (s13 _ _ hst.nm)
  | 2,h1,h2=>cases h1; cases h2; exact s4 _ _ (s3 _ _ e2)
  | 3,h1,h2=>cases h1; cases h2; exact s4 _ _ e3
  | i+4,h1,h2=>simp at h1
 ·have l1:=dv hx
  have l2:=dv hy
  have l0:(Vbreal.text "station").length=7:=by decide
  simp only[total,List.map_cons,List.map_nil,List.sum_cons,List.sum_nil,l0]
  omega
def sp_write_sight(Z:Ad):Sp:=fun vs H Q _=>∃ (r:Rec) (s:Stn) (p:Addr) (z:Sn),vs=[.ref r.p,.ref p]∧eH Z H r s∧WM.StOk s∧c9 Z H p z∧WM.jk z∧cH H Q (nb (ot s z))
theorem ok_write_sight(T:Txt K mg Z):a9 P w K mg base CX0 2 Z.nG Z.nH ["station", "sight"] (sp_write_sight Z):=by
 refine T.nZ.fn.ok fw (fun vs H Q E h=>?_) (fun cdv A0 outer s H vs Q E hr h=>?_)
 ·revert h; walk_at "len"
 refine⟨_,(ae (az (i:=2) fw.nd rfl (Or.inl rfl) (aJ (ab (ak (K:=K) rfl (pv 1) rfl) (ab (ak (K:=K) rfl (pv 1) rfl) (ab (ak (K:=K) rfl (pv 1) rfl) af))))) (ah (ao (ag T.f_line_of (ok_line_of T) hr (ab (aF jf (aJ (ab (ag T.dU (dP T) hr (ab pe_str af)) (ab (ak (K:=K) rfl (pv 0) rfl) af))) (pe_lc (own:=[("number",3)]) rfl fw.nd (bD (K:=K) rfl (pv 2)) (ik (by kernel_rfl)) (fun _ _ _ _ _=>(aZ (i:=3) fw.nd rfl (Or.inl rfl))) (fun _ _ _ _ _=>pts_nil) (fun _ _ _ _ _=>(ag T.dU (dP T) hr (ab (i8 fB rfl T.n_str ja (ab (pv 3) af)) af))))) af))))),?_⟩
 obtain⟨r,s0,p,z,rfl,hst,sk,hz,zk,k⟩:=h
 have ht:((z.t:Nat):Int).natAbs<2^17:=by
  have:=zk.t
  show _<131072
  omega
 have he:z.e.natAbs<2^17:=by
  have:=zk.e
  show _<131072
  omega
 have hn:z.n.natAbs<2^17:=by
  have:=zk.n
  show _<131072
  omega
 have hnm:=sk.name
 refine bB (σ':=[some (.ref r.p),some (.ref p),none,none]) ?_ rfl
 walk_at "a"
 refine bZ hz T ?_
 walk_at "a"
 refine ki hz T ?_
 walk_at "a"
 refine iM hz T ?_
 walk_at "a"
 refine⟨by show 3≤sizeLine; rw[aw]; omega,fun q hq=>?_⟩
 have s0':ax H (upd H q (.lst [.int (z.t:Int),.int z.e,.int z.n])):=ax.new hq
 have hqL:upd H q (.lst [.int (z.t:Int),.int z.e,.int z.n]) q=some (.lst (ib [(z.t:Int),z.e,z.n])):=ai
 generalize upd H q (.lst [.int (z.t:Int),.int z.e,.int z.n])=H0 at *
 walk_at "a"
 refine⟨_,rfl,by decide,fun p1 H1 s1 hp1 e1=>?_⟩
 rw[text_tl] at e1
 walk_at "a"
 refine iN (hst.mono (s0'.trans s1)) T ?_
 walk_at "a"
 refine⟨by show 2≤sizeLine; rw[aw]; omega,fun p2 hp2=>?_⟩
 have s2:ax H1 (upd H1 p2 (.lst [.ref p1,.ref r.nm])):=ax.new hp2
 have hp2L:upd H1 p2 (.lst [.ref p1,.ref r.nm]) p2=some (.lst ([p1,r.nm].map V.ref)):=ai
 generalize upd H1 p2 (.lst [.ref p1,.ref r.nm])=H2 at *
 walk_at "a"
 refine⟨q,rfl,⟨_,SqL.of ((s1.trans s2) _ _ hqL)⟩,fun D hD=>?_⟩
 have hns:∀ (i:Nat) (c:Int),[(z.t:Int),z.e,z.n][i]? = some c→c.natAbs<2^17:=fun i c h=>by
  match i,h with
  | 0,h=>cases h; exact ht
  | 1,h=>cases h; exact he
  | 2,h=>cases h; exact hn
  | i+3,h=>simp at h
 refine lc_list (K:=K) (a:=q) (xs:=ib [(z.t:Int),z.e,z.n]) (fun i H'=>ax H2 H'∧∃ bs,H' D=some (.lst (bs.map V.ref))∧LL H' bs (([(z.t:Int),z.e,z.n].take i).map Vbreal.shownInt)∧D∉bs) ⟨ax.new hD,[],ai,⟨rfl,fun i a l h=>by simp at h⟩,by simp⟩ (fun i H' _ ⟨s',_⟩=>SqL.of (s' _ _ ((s1.trans s2) _ _ hqL))) ?_ ?_
 ·rintro i y H' hi ⟨s',bs,hb,hbl,hDb⟩
  obtain⟨c,hc,rfl⟩:=ib_get hi
  have hc17:=hns i c hc
  walk_at "a"
  refine⟨rfl,?_⟩
  walk_at "a"
  refine aD ?_
  walk_at "a"
  refine w_str (str_small hc17) ?_
  walk_at "a"
  refine⟨_,rfl,text_len hc17,fun p3 H3 s3 hp3 e3=>?_⟩
  rw[text_int] at e3
  have hD3:=s3 _ _ hb
  have hp3D:p3≠D:=fun e=>by rw[e,hb] at hp3; cases hp3
  have hlen:bs.length≤3:=by
   have:=hbl.1
   rw[List.length_map,List.length_take] at this
   simp at this
   omega
  refine⟨_,hD3,by rw[List.length_map,aw]; omega,(s'.trans s3).dB hD,bs++[p3],by rw[ai,List.map_append]; rfl,?_,by simp; exact⟨hDb,Ne.symm hp3D⟩⟩
  rw[take_snoc hc,List.map_append]
  refine LL.snoc (hbl.mono fun b hb' o e=>?_) ?_
  ·rw[ay (by rintro rfl; exact hDb hb')]; exact s3 _ _ e
  ·rw[ay hp3D]; exact e3
 ·rintro H' ⟨s',bs,hb,hbl,hDb⟩
  have hbl:LL H' bs ([(z.t:Int),z.e,z.n].map Vbreal.shownInt):=hbl
  obtain⟨b0,b1,b2,rfl⟩:∃ b0 b1 b2,bs=[b0,b1,b2]:=by
   have:=hbl.1
   match bs,this with
   | [b0,b1,b2],_=>exact⟨b0,b1,b2,rfl⟩
  refine rf (s' _ _ hp2L) hb (by rw[aw]; simp) fun p5 hp5=>?_
  have s5:ax H' (upd H' p5 (.lst ([p1,r.nm].map V.ref++[b0,b1,b2].map V.ref))):=ax.new hp5
  have sH:=((s0'.trans s1).trans s2).trans s'
  walk_at "a"
  refine⟨p5,[p1,r.nm,b0,b1,b2],Vbreal.text "wind",[s0.name,Vbreal.decimal z.t,Vbreal.shownInt z.e,Vbreal.shownInt z.n],rfl,ai,⟨rfl,fun i a l h1 h2=>?_⟩,by decide,?_,fun p6 H6 s6 hp6 he6=>k p6 H6 (sH.trans (s5.trans s6)) (sH.free (s5.free hp6)) he6⟩
  ·match i,h1,h2 with
   | 0,h1,h2=>cases h1; cases h2; exact s5 _ _ ((s2.trans s') _ _ e1)
   | 1,h1,h2=>cases h1; cases h2; exact s5 _ _ (sH _ _ hst.nm)
   | 2,h1,h2=>cases h1; cases h2; rw[← mV]; exact s5 _ _ (hbl.2 0 _ _ rfl rfl)
   | 3,h1,h2=>cases h1; cases h2; exact s5 _ _ (hbl.2 1 _ _ rfl rfl)
   | 4,h1,h2=>cases h1; cases h2; exact s5 _ _ (hbl.2 2 _ _ rfl rfl)
   | i+5,h1,h2=>simp at h1
  ·have l1:=dv ht
   rw[mV] at l1
   have l2:=dv he
   have l3:=dv hn
   have l0:(Vbreal.text "wind").length=4:=by decide
   simp only[total,List.map_cons,List.map_nil,List.sum_cons,List.sum_nil,l0]
   omega
theorem px:∀ ls:List (List Nat),(Vbreal.joined ls).length≤total ls
 | []=>by simp[Vbreal.joined]
 | [w]=>by rw[ph]; simp[Vbreal.joined]; omega
 | w::v::r=>by
  have ih:=px (v::r)
  rw[ph]
  have e:Vbreal.joined (w::v::r)=w++32::Vbreal.joined (v::r):=rfl
  rw[e,List.length_append,List.length_cons]
  omega
theorem stLine_len{s:Stn}(sk:WM.StOk s):(kE s).length≤100:=by
 have l1:=dv (abs17 sk.x)
 have l2:=dv (abs17 sk.y)
 have l0:(Vbreal.text "station").length=7:=by decide
 have hn:=sk.name
 have h:=px [Vbreal.text "station",s.name,Vbreal.shownInt s.place.x,Vbreal.shownInt s.place.y]
 simp only[total,List.map_cons,List.map_nil,List.sum_cons,List.sum_nil,l0] at h
 unfold kE Vbreal.line
 rw[List.length_append]
 simp only[List.length_cons,List.length_nil]
 omega
theorem pA{s:Stn}{z:Sn}(sk:WM.StOk s)(zk:WM.jk z):(ot s z).length≤100:=by
 have ht:((z.t:Nat):Int).natAbs<2^17:=by
  have:=zk.t
  show _<131072
  omega
 have he:z.e.natAbs<2^17:=by
  have:=zk.e
  show _<131072
  omega
 have hn:z.n.natAbs<2^17:=by
  have:=zk.n
  show _<131072
  omega
 have l1:=dv ht
 rw[mV] at l1
 have l2:=dv he
 have l3:=dv hn
 have l0:(Vbreal.text "wind").length=4:=by decide
 have hnm:=sk.name
 have h:=px [Vbreal.text "wind",s.name,Vbreal.decimal z.t,Vbreal.shownInt z.e,Vbreal.shownInt z.n]
 simp only[total,List.map_cons,List.map_nil,List.sum_cons,List.sum_nil,l0] at h
 unfold ot Vbreal.line
 rw[List.length_append]
 simp only[List.length_cons,List.length_nil]
 omega
theorem flat_take{α:Type}{f:α→List Nat}{l:List α}{i:Nat}{x:α}(h:l[i]? = some x):(l.take (i+1)).flatMap f=(l.take i).flatMap f++f x:=by
 rw[take_snoc h,List.flatMap_append]
 simp
theorem mI{α:Type}{f:α→List Nat}{B:Nat}:∀ (l:List α),(∀ x∈l,(f x).length≤B)→(l.flatMap f).length≤l.length*B
 | [],_=>by simp
 | x::r,h=>by
  have ih:=mI r fun y hy=>h y (List.mem_cons_of_mem _ hy)
  have:=h x List.mem_cons_self
  rw[List.flatMap_cons,List.length_append,List.length_cons,Nat.add_mul]
  omega
def qT(s:Stn):List Nat:=s.seen.flatMap fun z=>ot s z
theorem weather_eq(l:List Stn):Vbreal.weatherText l=(l.flatMap kE)++l.flatMap qT:=rfl
theorem stSeen_len{s:Stn}(sk:WM.StOk s):(qT s).length≤2000:=by
 have h:=mI (f:=fun z=>ot s z) (B:=100) s.seen fun z hz=>pA sk (sk.seen z hz)
 have:=sk.len
 unfold qT
 omega
theorem take_sub{α:Type}{l:List α}{i:Nat}{x:α}(h:x∈l.take i):x∈l:=List.mem_of_mem_take h
theorem mq{l:List Stn}(wo:WM.WOk l)(i j:Nat):((l.take i).flatMap kE).length≤600∧((l.take j).flatMap qT).length≤12000:=by
 have h6:=wo.len
 have h1:=mI (f:=kE) (B:=100) (l.take i) fun s hs=>stLine_len (wo.each s (take_sub hs))
 have h2:=mI (f:=qT) (B:=2000) (l.take j) fun s hs=>stSeen_len (wo.each s (take_sub hs))
 rw[List.length_take] at h1 h2
 constructor
 ·refine Nat.le_trans h1 ?_
  have:min i l.length≤6:=by omega
  omega
 ·refine Nat.le_trans h2 ?_
  have:min j l.length≤6:=by omega
  omega
def rV(Z:Ad):Sp:=fun vs H Q _=>∃ (a:Addr) (rs:List Rec) (l:List Stn),vs=[.ref a]∧kj Z H a rs l∧WM.WOk l∧cH H Q (nb (Vbreal.weatherText l))
theorem rW(T:Txt K mg Z):a9 P w K mg base CX0 3 Z.jU Z.jV ["stations"] (rV Z):=by
 refine T.j8.fn.ok dH (fun vs H Q E h=>?_) (fun cdv A0 outer s H vs Q E hr h=>?_)
 ·revert h; walk_at "len"
 refine⟨_,(ae (az (i:=1) dH.nd rfl (Or.inl rfl) (aJ af)) (ae (cW PassesOwn.never rfl (bD (K:=K) rfl (pv 0)) (aZ (i:=2) dH.nd rfl (Or.inl rfl)) (ah (dk (fJ (K:=K) rfl PySem.F.plainAttrs_list PySem.F.slot_list_extend PySem.F.type_list_extend g7 (pv 1) (ab (ag T.j9 (rT T) hr (ab (pv 2) af)) af))))) (ae (cW PassesOwn.never rfl (bD (K:=K) rfl (pv 0)) (aZ (i:=2) dH.nd rfl (Or.inl rfl)) (ah (cW PassesOwn.never rfl (bD (K:=K) rfl (ak (K:=K) rfl (pv 2) rfl)) (aZ (i:=3) dH.nd rfl (Or.inl rfl)) (ah (dk (fJ (K:=K) rfl PySem.F.plainAttrs_list PySem.F.slot_list_extend PySem.F.type_list_extend g7 (pv 1) (ab (ag T.nZ (ok_write_sight T) hr (ab (pv 2) (ab (pv 3) af))) af))))))) (ah (ao (pv 1)))))),?_⟩
 obtain⟨a,rs,l,rfl,ha,wo,k⟩:=h
 refine bB (σ':=[some (.ref a),none,none,none]) ?_ rfl
 walk_at "a"
 refine⟨Nat.zero_le _,fun L hL=>?_⟩
 walk_at "a"
 refine⟨a,rfl,⟨_,SqL.of (ax.new hL _ _ ha.lst)⟩,?_⟩
 refine bQ (K:=K) (a:=a) (xs:=rs.map fun r=>V.ref r.p) (fun i σ H'=>∃ (v1 v2:Option V),σ=[some (.ref a),some (.ref L),v1,v2]∧ax H H'∧H' L=some (.lst (nb ((l.take i).flatMap kE)))) ⟨_,_,rfl,ax.new hL,ai⟩ (fun i σ H' _ ⟨_,_,_,s',_⟩=>SqL.of (s' _ _ ha.lst)) ?_ ?_
 ·rintro i y σ H' hi ⟨v1,v2,rfl,s',hl⟩
  obtain⟨r,hri,rfl⟩:=i6 hi
  have hil:i<l.length:=by rw[← ha.len]; exact(List.getElem?_eq_some_iff.mp hri).1
  have hz:=List.getElem?_eq_getElem hil
  have hst:=(ha.at_ i r _ hri hz).mono s'
  have sk:=wo.each _ (List.getElem_mem hil)
  have hb:=(mq wo i 0).1
  have hb2:=stLine_len sk
  walk_at "a"
  refine⟨ty_list (SqL.of hl),?_⟩
  walk_at "a"
  refine⟨r,_,rfl,hst,sk,fun p H1 s1 hp1 he=>?_⟩
  walk_at "a"
  refine ji (s1 _ _ hl) he (by rw[aL,aL,aw]; omega) ?_
  exact⟨_,_,rfl,(s'.trans s1).dB hL,by rw[ai,flat_take hz,eL]⟩
 ·rintro σ H1 ⟨v1,v2,rfl,s1,hl⟩
  rw[List.length_map,ha.len,List.take_length] at hl
  walk_at "a"
  refine⟨a,rfl,⟨_,SqL.of (s1 _ _ ha.lst)⟩,?_⟩
  refine bQ (K:=K) (a:=a) (xs:=rs.map fun r=>V.ref r.p) (fun i σ H'=>∃ (v1 v2:Option V),σ=[some (.ref a),some (.ref L),v1,v2]∧ax H H'∧H' L=some (.lst (nb (l.flatMap kE++(l.take i).flatMap qT)))) ⟨_,_,rfl,s1,by simpa using hl⟩ (fun i σ H' _ ⟨_,_,_,s',_⟩=>SqL.of (s' _ _ ha.lst)) ?_ ?_
  ·rintro i y σ H' hi ⟨v1,v2,rfl,s',hl'⟩
   obtain⟨r,hri,rfl⟩:=i6 hi
   have hil:i<l.length:=by rw[← ha.len]; exact(List.getElem?_eq_some_iff.mp hri).1
   have hz:=List.getElem?_eq_getElem hil
   have hst0:=ha.at_ i r _ hri hz
   have hst:=hst0.mono s'
   have sk:=wo.each _ (List.getElem_mem hil)
   have hb:=mq wo l.length i
   rw[List.take_length] at hb
   rw[flat_take hz]
   generalize l[i]=s0 at *
   walk_at "a"
   refine b8 hst T ?_
   refine⟨r.sl,rfl,⟨_,SqL.of hst.sl⟩,?_⟩
   refine bQ (K:=K) (a:=r.sl) (xs:=r.ss.map V.ref) (fun j σ H'=>∃ (v2:Option V),σ=[some (.ref a),some (.ref L),some (.ref r.p),v2]∧ax H H'∧H' L=some (.lst (nb (l.flatMap kE++(l.take i).flatMap qT++(s0.seen.take j).flatMap fun z=>ot s0 z)))) ⟨_,rfl,s',by simpa using hl'⟩ (fun j σ H' _ ⟨_,_,s',_⟩=>SqL.of (s' _ _ hst0.sl)) ?_ ?_
   ·rintro j y σ H2 hj ⟨v2,rfl,s2,hl2⟩
    obtain⟨p,hpj,rfl⟩:=fQ hj
    have hjl:j<s0.seen.length:=by rw[← hst.si.1]; exact(List.getElem?_eq_some_iff.mp hpj).1
    have hzj:=List.getElem?_eq_getElem hjl
    have hpc:=(hst0.si.2 j p _ hpj hzj).mono s2
    have zk:=sk.seen _ (List.getElem_mem hjl)
    have hlen2:((s0.seen.take j).flatMap fun z=>ot s0 z).length≤2000:=by
     have h:=mI (f:=fun z=>ot s0 z) (B:=100) (s0.seen.take j) fun z hz=>pA sk (sk.seen z (take_sub hz))
     have:=sk.len
     rw[List.length_take] at h
     refine Nat.le_trans h ?_
     have:min j s0.seen.length≤20:=by omega
     omega
    have hb3:=pA sk zk
    walk_at "a"
    refine⟨ty_list (SqL.of hl2),?_⟩
    walk_at "a"
    refine⟨r,s0,p,_,rfl,hst0.mono s2,sk,hpc,zk,fun p3 H3 s3 hp3 he=>?_⟩
    walk_at "a"
    refine ji (s3 _ _ hl2) he (by rw[aL,aL,aw,List.length_append,List.length_append]; omega) ?_
    refine⟨_,rfl,(s2.trans s3).dB hL,?_⟩
    rw[ai,flat_take hzj,← eL,List.append_assoc,List.append_assoc]
   ·rintro σ H2 ⟨v2,rfl,s2,hl2⟩
    rw[List.length_map,hst.si.1,List.take_length,List.append_assoc] at hl2
    exact⟨_,_,rfl,s2,hl2⟩
  ·rintro σ H2 ⟨v1,v2,rfl,s2,hl2⟩
   rw[List.length_map,ha.len,List.take_length,← weather_eq] at hl2
   walk_at "a"
   exact k L H2 s2 hL hl2
abbrev Pnt:=Vbreal.Pt
def OptR(Z:Ad)(H:Hp)(v:V):Option Rat→Prop
 | none=>v = .non
 | some q=>∃ p,v = .ref p∧a7 Z H p q
theorem OptR.mono{Z:Ad}{H H':Hp}{v:V}(s:ax H H'):∀ {o:Option Rat},OptR Z H v o→OptR Z H' v o
 | none,h=>h
 | some q,h=>by
  obtain⟨p,e,h⟩:=h
  exact⟨p,e,h.mono s⟩
def BdO(k:Nat)(o:Option Rat):Prop:=∀ q,o=some q→WM.Bd k q
def sp_lesser(Z:Ad):Sp:=fun vs H Q _=>∃ (v1 v2:V) (o1 o2:Option Rat) (k:Nat),vs=[v1,v2]∧OptR Z H v1 o1∧OptR Z H v2 o2∧BdO k o1∧BdO k o2∧k≤100000∧∀ v,OptR Z H v (WM.fV o1 o2)→Q v H
def qU:Option Rat→Option Rat→Bool
 | none,_=>false
 | some _,none=>true
 | some a,some b=>decide (a<b)
def sp_sooner(Z:Ad):Sp:=fun vs H Q _=>∃ (v1 v2:V) (o1 o2:Option Rat) (k:Nat),vs=[v1,v2]∧OptR Z H v1 o1∧OptR Z H v2 o2∧BdO k o1∧BdO k o2∧k≤100000∧Q (.bl (qU o1 o2)) H
theorem lesser_eq(a b:Option Rat):WM.fV a b=if qU a b=true then a else b:=by
 cases a with
 | none=>rfl
 | some p =>
  cases b with
  | none=>rfl
  | some q =>
   show(if p<q then some p else some q)=if decide (p<q)=true then some p else some q
   by_cases h:p<q
   ·rw[if_pos h,if_pos (decide_eq_true h)]
   ·rw[if_neg h,if_neg (by simpa using h)]
theorem jB(T:Txt K mg Z):a9 P w K mg base CX0 2 Z.a_is_sooner Z.d_is_sooner ["first", "second"] (sp_sooner Z):=by
 refine T.iI.fn.ok sc_is_sooner (fun vs H Q E h=>?_) (fun cdv A0 outer s H vs Q E hr h=>?_)
 ·revert h; walk_at "len"
 refine⟨_,(ae (aP (cN (cV (pv 0))) (ah (ao fc)) aA) (ah (ao (pe_or (pe_cmp (cV (pv 1))) (qR (ag T.f_is_less (ok_is_less T) hr (ab (pv 0) (ab (pv 1) af)))))))),?_⟩
 obtain⟨v1,v2,o1,o2,j,rfl,h1,h2,b1,b2,hj,k⟩:=h
 refine bB (σ':=[some v1,some v2]) ?_ rfl
 walk_at "a"
 cases o1 with
 | none =>
  have e1:v1 = .non:=h1
  rw[decide_eq_true e1]
  refine aD ?_
  walk_at "a"
  exact k
 | some q1 =>
  obtain⟨p1,rfl,r1⟩:=h1
  rw[decide_eq_false (by intro e; cases e)]
  refine aG ?_
  walk_at "a"
  cases o2 with
  | none =>
   have e2:v2 = .non:=h2
   rw[decide_eq_true e2]
   refine aD ?_
   exact k
  | some q2 =>
   obtain⟨p2,rfl,r2⟩:=h2
   rw[decide_eq_false (by intro e; cases e)]
   refine aG ?_
   walk_at "a"
   exact⟨p1,p2,q1,q2,j,j,rfl,r1,r2,b1 q1 rfl,b2 q2 rfl,by omega,k⟩
theorem ok_lesser(T:Txt K mg Z):a9 P w K mg base CX0 3 Z.a_lesser Z.d_lesser ["first", "second"] (sp_lesser Z):=by
 refine T.f_lesser.fn.ok sc_lesser (fun vs H Q E h=>?_) (fun cdv A0 outer s H vs Q E hr h=>?_)
 ·revert h; walk_at "len"
 refine⟨_,(ae (aP (br (ag T.iI (jB T) hr (ab (pv 0) (ab (pv 1) af)))) (ah (ao (pv 0))) aA) (ah (ao (pv 1)))),?_⟩
 obtain⟨v1,v2,o1,o2,j,rfl,h1,h2,b1,b2,hj,k⟩:=h
 refine bB (σ':=[some v1,some v2]) ?_ rfl
 rw[lesser_eq] at k
 walk_at "a"
 refine⟨v1,v2,o1,o2,j,rfl,h1,h2,b1,b2,hj,?_⟩
 walk_at "a"
 cases hs:qU o1 o2 with
 | true =>
  rw[hs,if_pos rfl] at k
  refine aD ?_
  walk_at "a"
  exact k v1 h1
 | false =>
  rw[hs,if_neg (by decide)] at k
  refine aG ?_
  walk_at "a"
  exact k v2 h2
def cmpT(a b:Option Rat):Int:=if qU a b=true then 1 else if qU b a=true then 2 else 0
def sp_compare(Z:Ad):Sp:=fun vs H Q _=>∃ (v1 v2:V) (o1 o2:Option Rat) (k:Nat),vs=[v1,v2]∧OptR Z H v1 o1∧OptR Z H v2 o2∧BdO k o1∧BdO k o2∧k≤100000∧Q (.int (cmpT o1 o2)) H
theorem rX(T:Txt K mg Z):a9 P w K mg base CX0 3 Z.jY Z.jZ ["first", "second"] (sp_compare Z):=by
 refine T.ka.fn.ok rO (fun vs H Q E h=>?_) (fun cdv A0 outer s H vs Q E hr h=>?_)
 ·revert h; walk_at "len"
 refine⟨_,(ae (aP (br (ag T.iI (jB T) hr (ab (pv 0) (ab (pv 1) af)))) (ah (ao aj)) aA) (ae (aP (br (ag T.iI (jB T) hr (ab (pv 1) (ab (pv 0) af)))) (ah (ao aj)) aA) (ah (ao aj)))),?_⟩
 obtain⟨v1,v2,o1,o2,j,rfl,h1,h2,b1,b2,hj,k⟩:=h
 refine bB (σ':=[some v1,some v2]) ?_ rfl
 unfold cmpT at k
 walk_at "a"
 refine⟨v1,v2,o1,o2,j,rfl,h1,h2,b1,b2,hj,?_⟩
 walk_at "a"
 cases hs:qU o1 o2 with
 | true =>
  rw[hs,if_pos rfl] at k
  refine aD ?_
  walk_at "a"
  exact k
 | false =>
  rw[hs,if_neg (by decide)] at k
  refine aG ?_
  walk_at "a"
  refine⟨v2,v1,o2,o1,j,rfl,h2,h1,b2,b1,hj,?_⟩
  walk_at "a"
  cases hs2:qU o2 o1 with
  | true =>
   rw[hs2,if_pos rfl] at k
   refine aD ?_
   walk_at "a"
   exact k
  | false =>
   rw[hs2,if_neg (by decide)] at k
   refine aG ?_
   walk_at "a"
   exact k
def VelOk(v:Pnt):Prop:=(-3000≤v.x∧v.x≤3000)∧(-3000≤v.y∧v.y≤3000)
def iz(H:Hp)(a:Addr)(v:Pnt):Prop:=H a=some (.tup [.int v.x,.int v.y])
theorem abs12{x:Int}(h:-3000≤x∧x≤3000):x.natAbs<2^12:=by
 show _<4096
 omega
def sp_time1(Z:Ad):Sp:=fun vs H Q _=>∃ (a:Addr) (v:Pnt) (A L:Int) (k:Nat),vs=[.ref a,.int A,.int L]∧iz H a v∧VelOk v∧A.natAbs<2^k∧L.natAbs<2^k∧k≤100000∧∀ r H',ax H H'→OptR Z H' r (WM.kC v A L)→Q r H'
theorem pow2_ok{z:Int}(h:-3000≤z∧z≤3000):CPow z 2:=⟨by decide,by decide,by
 show _<18446744073709551616
 omega⟩
theorem sq_range{z:Int}(h:-3000≤z∧z≤3000):0≤z^2∧z^2≤9000000:=by
 rw[Int.pow_succ,Int.pow_one]
 rcases Int.le_total 0 z with g | g
 ·have:=Int.mul_le_mul h.2 h.2 g (by omega)
  have:=Int.mul_nonneg g g
  omega
 ·have:=Int.mul_le_mul (a:=-z) (b:=-z) (c:=3000) (d:=3000) (by omega) (by omega) (by omega) (by omega)
  have h0:=Int.mul_nonneg_of_nonpos_of_nonpos g g
  rw[Int.neg_mul_neg] at this
  omega
theorem sq_zero{z:Int}(h:z^2=0):z=0:=by
 rw[Int.pow_succ,Int.pow_one] at h
 rcases Int.mul_eq_zero.mp h with g | g<;>exact g
theorem ok_time_by_one(T:Txt K mg Z):a9 P w K mg base CX0 4 Z.nI Z.nJ ["velocity", "along", "left"] (sp_time1 Z):=by
 refine T.n0.fn.ok lP (fun vs H Q E h=>?_) (fun cdv A0 outer s H vs Q E hr h=>?_)
 ·revert h; walk_at "len"
 refine⟨_,(ae (aP (aH qZ (aF aN (aI (aU (K:=K) rfl) (pv 0) aj (fun _ _=>rfl)) (pv 2)) (aF aN (aI (aU (K:=K) rfl) (pv 0) aj (fun _ _=>rfl)) (pv 1)) (aM _)) (ah (ao ek)) aA) (ae (az (i:=3) lP.nd rfl (Or.inl rfl) (aF dM (aF aN (aI (aU (K:=K) rfl) (pv 0) aj (fun _ _=>rfl)) (pv 1)) (aF aN (aI (aU (K:=K) rfl) (pv 0) aj (fun _ _=>rfl)) (pv 2)))) (ae (aP (aH oK (pv 3) aj (aM _)) (ah (ao ek)) aA) (ah (ao (ck T.aQ.make (bx T) (hr.mono (by decide)) rfl T.aQ.mg T.aQ.bind .nil eA (ab (pv 3) (ab (aF dM (aF op_pow (aI (aU (K:=K) rfl) (pv 0) aj (fun _ _=>rfl)) aj) (aF op_pow (aI (aU (K:=K) rfl) (pv 0) aj (fun _ _=>rfl)) aj)) af)))))))),?_⟩
 obtain⟨a,v,A,L,j,rfl,ha,hv,hA,hL,hj,k⟩:=h
 unfold WM.kC at k
 have x12:=abs12 hv.1
 have y12:=abs12 hv.2
 refine bB (σ':=[some (.ref a),some (.int A),some (.int L),none]) ?_ rfl
 have v0:∀ {H':Hp},ax H H'→SqT K H' a [.int v.x,.int v.y]:=fun {H'} s=>SqT.of (s _ _ ha)
 have i0:atI [V.int v.x,V.int v.y] 0=some (.int v.x):=rfl
 have i1:atI [V.int v.x,V.int v.y] 1=some (.int v.y):=rfl
 walk_at "a"
 refine b9 (v0 (ax.refl H)) i0 ?_
 walk_at "a"
 refine cn (bI x12 hL (by omega)) ?_
 walk_at "a"
 refine b9 (v0 (ax.refl H)) i1 ?_
 walk_at "a"
 refine cn (bI y12 hA (by omega)) ?_
 walk_at "a"
 refine cG (fun h1=>?_) (fun h1=>?_)
 ·rw[if_pos h1] at k
  walk_at "a"
  exact k _ H (ax.refl H) rfl
 ·rw[if_neg (fun g=>g h1)] at k
  walk_at "a"
  refine b9 (v0 (ax.refl H)) i0 ?_
  walk_at "a"
  refine cn (bI x12 hA (by omega)) ?_
  walk_at "a"
  refine b9 (v0 (ax.refl H)) i1 ?_
  walk_at "a"
  refine cn (bI y12 hL (by omega)) ?_
  walk_at "a"
  refine w_ite (fun h2=>?_) (fun h2=>?_)
  ·rw[if_pos h2] at k
   walk_at "a"
   exact k _ H (ax.refl H) rfl
  ·rw[if_neg h2] at k
   walk_at "a"
   refine b9 (v0 (ax.refl H)) i0 ?_
   walk_at "a"
   refine cn (pow2_ok hv.1) ?_
   walk_at "a"
   refine b9 (v0 (ax.refl H)) i1 ?_
   walk_at "a"
   refine cn (pow2_ok hv.2) ?_
   walk_at "a"
   have q1:=sq_range hv.1
   have q2:=sq_range hv.2
   have esq:v.x^(2:Int).toNat+v.y^(2:Int).toNat=v.x^2+v.y^2:=rfl
   rw[esq]
   refine dF ?_ ?_ fun p H' s' hp=>k _ H' s' ⟨p,rfl,hp⟩
   ·intro g
    have g1:v.x=0:=sq_zero (by omega)
    have g2:v.y=0:=sq_zero (by omega)
    rw[g1,g2] at h2
    omega
   ·refine bA (j:=25) ?_ (by decide)
    show _<33554432
    omega
def sp_time2(Z:Ad):Sp:=fun vs H Q _=>∃ (a b:Addr) (f s:Pnt) (A L:Int) (k:Nat),vs=[.ref a,.ref b,.int A,.int L]∧iz H a f∧iz H b s∧VelOk f∧VelOk s∧A.natAbs<2^k∧L.natAbs<2^k∧k≤4000∧∀ r H',ax H H'→OptR Z H' r (WM.fW f s A L)→Q r H'
theorem Bd.divInt{t b:Int}{j k:Nat}(hb:b≠0)(ht:t.natAbs<2^j)(hk:b.natAbs<2^k):WM.Bd (max j k) (Rat.divInt t b):=by
 have hD:b.natAbs≠0:=by omega
 have h:∃ E:Int,E.natAbs=t.natAbs∧Rat.divInt t b*((b.natAbs:Nat):Rat)=(E:Rat):=by
  have hbq:(b:Rat)≠0:=fun g=>hb (Rat.intCast_eq_zero_iff.mp g)
  rcases Int.le_total 0 b with g | g
  ·refine⟨t,rfl,?_⟩
   rw[WM.aX,← Rat.intCast_natCast,show((b.natAbs:Nat):Int)=b by omega]
   exact Rat.div_mul_cancel hbq
  ·refine⟨-t,by omega,?_⟩
   rw[WM.aX,← Rat.intCast_natCast,show((b.natAbs:Nat):Int) = -b by omega,Rat.intCast_neg,Rat.intCast_neg]
   have:=Rat.div_mul_cancel (a:=(t:Rat)) hbq
   grind
 obtain⟨E,hE,h⟩:=h
 have h1:=WM.m5 hD h
 have h2:=WM.mZ hD h
 exact⟨bA (show(Rat.divInt t b).num.natAbs<2^j by omega) (Nat.le_max_left _ _),bA (show(Rat.divInt t b).den<2^k by omega) (Nat.le_max_right _ _)⟩
theorem ok_time_by_two(T:Txt K mg Z):a9 P w K mg base CX0 5 Z.nL Z.nM ["first", "second", "along", "left"] (sp_time2 Z):=by
 refine T.n6.fn.ok fz (fun vs H Q E h=>?_) (fun cdv A0 outer s H vs Q E hr h=>?_)
 ·revert h; walk_at "len"
 refine⟨_,(ae (az (i:=4) fz.nd rfl (Or.inl rfl) (aF cX (aF aN (aI (aU (K:=K) rfl) (pv 0) aj (fun _ _=>rfl)) (aI (aU (K:=K) rfl) (pv 1) aj (fun _ _=>rfl))) (aF aN (aI (aU (K:=K) rfl) (pv 0) aj (fun _ _=>rfl)) (aI (aU (K:=K) rfl) (pv 1) aj (fun _ _=>rfl))))) (ae (aP (aH fU (pv 4) aj (aM _)) (ah (ao ek)) aA) (ae (az (i:=5) fz.nd rfl (Or.inl rfl) (ck T.aQ.make (bx T) (hr.mono (by decide)) rfl T.aQ.mg T.aQ.bind .nil eA (ab (aF cX (aF aN (pv 2) (aI (aU (K:=K) rfl) (pv 1) aj (fun _ _=>rfl))) (aF aN (pv 3) (aI (aU (K:=K) rfl) (pv 1) aj (fun _ _=>rfl)))) (ab (pv 4) af)))) (ae (az (i:=6) fz.nd rfl (Or.inl rfl) (ck T.aQ.make (bx T) (hr.mono (by decide)) rfl T.aQ.mg T.aQ.bind .nil eA (ab (aF cX (aF aN (aI (aU (K:=K) rfl) (pv 0) aj (fun _ _=>rfl)) (pv 3)) (aF aN (aI (aU (K:=K) rfl) (pv 0) aj (fun _ _=>rfl)) (pv 2))) (ab (pv 4) af)))) (ae (aP (PW.pt (dJ (aH iA (ak (K:=K) rfl (pv 5) rfl) aj (aM _)) (dw (aH iA (ak (K:=K) rfl (pv 6) rfl) aj (aM _))))) (ah (ao ek)) aA) (ah (ao (ag T.bY (bX T) hr (ab (pv 5) (ab (pv 6) af)))))))))),?_⟩
 obtain⟨a,b,f,s0,A,L,j,rfl,ha,hb,hf,hs,hA,hL,hj,k⟩:=h
 unfold WM.fW at k
 have f1:=abs12 hf.1
 have f2:=abs12 hf.2
 have g1:=abs12 hs.1
 have g2:=abs12 hs.2
 refine bB (σ':=[some (.ref a),some (.ref b),some (.int A),some (.int L),none,none,none]) ?_ rfl
 have va:∀ {H':Hp},ax H H'→SqT K H' a [.int f.x,.int f.y]:=fun {H'} s=>SqT.of (s _ _ ha)
 have vb:∀ {H':Hp},ax H H'→SqT K H' b [.int s0.x,.int s0.y]:=fun {H'} s=>SqT.of (s _ _ hb)
 have i0:∀ v:Pnt,atI [V.int v.x,V.int v.y] 0=some (.int v.x):=fun v=>rfl
 have i1:∀ v:Pnt,atI [V.int v.x,V.int v.y] 1=some (.int v.y):=fun v=>rfl
 have sr:=ax.refl H
 have har:(f.x*s0.y-f.y*s0.x).natAbs<2^25:=fj (aO f1 g2) (aO f2 g1)
 have hn1:(A*s0.y-L*s0.x).natAbs<2^(j+12+1):=fj (aO hA g2) (aO hL g1)
 have hn2:(f.x*L-f.y*A).natAbs<2^(12+j+1):=fj (aO f1 hL) (aO f2 hA)
 walk_at "a"
 refine b9 (va sr) (i0 f) ?_
 walk_at "a"
 refine b9 (vb sr) (i1 s0) ?_
 refine cn (bI f1 g2 (by omega)) ?_
 walk_at "a"
 refine b9 (va sr) (i1 f) ?_
 walk_at "a"
 refine b9 (vb sr) (i0 s0) ?_
 refine cn (bI f2 g1 (by omega)) ?_
 walk_at "a"
 refine w_ite (fun h0=>?_) (fun h0=>?_)
 ·rw[if_pos h0] at k
  walk_at "a"
  exact k _ H sr rfl
 ·rw[if_neg h0] at k
  walk_at "a"
  refine b9 (vb sr) (i1 s0) ?_
  refine cn (bI hA g2 (by omega)) ?_
  walk_at "a"
  refine b9 (vb sr) (i0 s0) ?_
  refine cn (bI hL g1 (by omega)) ?_
  walk_at "a"
  refine dF h0 (bA har (by decide)) fun p1 H1 s1 hp1=>?_
  walk_at "a"
  refine b9 (va s1) (i0 f) ?_
  walk_at "a"
  refine cn (bI f1 hL (by omega)) ?_
  walk_at "a"
  refine b9 (va s1) (i1 f) ?_
  walk_at "a"
  refine cn (bI f2 hA (by omega)) ?_
  walk_at "a"
  refine dF h0 (bA har (by decide)) fun p2 H2 s2 hp2=>?_
  have hp1:=hp1.mono s2
  have s12:=s1.trans s2
  have bq1:=Bd.divInt h0 hn1 har
  have bq2:=Bd.divInt h0 hn2 har
  generalize Rat.divInt (A*s0.y-L*s0.x) (f.x*s0.y-f.y*s0.x)=q1 at *
  generalize Rat.divInt (f.x*L-f.y*A) (f.x*s0.y-f.y*s0.x)=q2 at *
  walk_at "a"
  refine b6 hp1 T ?_
  walk_at "a"
  refine w_ite (fun hq=>?_) (fun hq=>?_)
  ·rw[if_pos (.inl hq)] at k
   refine aD ?_
   walk_at "a"
   exact k _ H2 s12 rfl
  ·walk_at "a"
   refine b6 hp2 T ?_
   walk_at "a"
   refine w_ite (fun hq2=>?_) (fun hq2=>?_)
   ·rw[if_pos (.inr hq2)] at k
    walk_at "a"
    exact k _ H2 s12 rfl
   ·rw[if_neg (by rintro(g | g)<;>contradiction)] at k
    walk_at "a"
    exact⟨p1,p2,q1,q2,_,_,rfl,hp1,hp2,bq1,bq2,by omega,fun p H3 s3 hp=>k _ H3 (s12.trans s3) ⟨p,rfl,hp⟩⟩
structure TabAt (H:Hp) (a:Addr) (ts:List Addr) (t:List Pnt):Prop where
 lst:H a=some (.lst (ts.map V.ref))
 len:ts.length=t.length
 at_:∀ (i:Nat) (b:Addr) (v:Pnt),ts[i]? = some b→t[i]? = some v→iz H b v
theorem TabAt.mono{H H':Hp}{a:Addr}{ts:List Addr}{t:List Pnt}(s:ax H H')(h:TabAt H a ts t):TabAt H' a ts t :=
 ⟨s _ _ h.lst,h.len,fun i b v hb hv=>s _ _ (h.at_ i b v hb hv)⟩
theorem cut_to{xs:List V}{n:Nat}(h:n≤xs.length):fN xs none (some (n:Int))=xs.take n:=by
 unfold fN
 rw[HT.sIx_nat,HT.sIx_none,Nat.min_eq_left h]
 simp
theorem BdO.fV{k:Nat}{a b:Option Rat}(ha:BdO k a)(hb:BdO k b):BdO k (WM.fV a b):=by
 intro q h
 cases a with
 | none=>exact hb q h
 | some x =>
  cases b with
  | none=>exact ha q h
  | some y =>
   have h:(if x<y then some x else some y)=some q:=h
   split at h
   ·exact ha q h
   ·exact hb q h
theorem Bd.of_int{q:Rat}{d:Nat}{z:Int}{j k:Nat}(hd:d≠0)(h:q*(d:Rat)=(z:Rat))(h1:d<2^j)(h2:z.natAbs<2^k):WM.Bd (max k j) q:=by
 have a:=WM.m5 hd h
 have b:=WM.mZ hd h
 exact⟨bA (show q.num.natAbs<2^k by omega) (Nat.le_max_left _ _),bA (show q.den<2^j by omega) (Nat.le_max_right _ _)⟩
theorem cand_bd{d:Nat}{z:Int}{T:Rat}{k:Nat}(d0:d≠0)(d1:d≤18000000)(z1:z.natAbs≤12000*(2^k-1))(h:T*(d:Rat)=(z:Rat)):WM.Bd (k+25) T:=by
 have e:2^(k+14)=2^k*16384:=Nat.pow_add ..
 have hp:0<2^k:=Nat.pow_pos (by decide)
 have h1:=Bd.of_int d0 h (show d<2^25 by show d<33554432; omega) (show z.natAbs<2^(k+14) by omega)
 exact Bd.up h1 (by omega)
theorem time1_bd{v:Pnt}{A L:Int}{k:Nat}(hv:VelOk v)(hA:A.natAbs<2^k)(hL:L.natAbs<2^k):BdO (k+25) (WM.kC v A L):=fun T h=>by
 obtain⟨d,z,d0,d1,z1,e⟩:=WM.time1_rep (M:=2^k-1) h hv (by omega) (by omega)
 exact cand_bd d0 d1 z1 e
theorem time2_bd{f s:Pnt}{A L:Int}{k:Nat}(hf:VelOk f)(hs:VelOk s)(hA:A.natAbs<2^k)(hL:L.natAbs<2^k):BdO (k+25) (WM.fW f s A L):=fun T h=>by
 obtain⟨d,z,d0,d1,z1,e⟩:=WM.time2_rep (M:=2^k-1) h hf hs (by omega) (by omega)
 exact cand_bd d0 d1 z1 e
theorem ltGo_cons(A L:Int)(pre:List Pnt)(f:Pnt)(r:List Pnt)(b:Option Rat):WM.ltGo A L pre (f::r) b=WM.ltGo A L (pre++[f]) r (pre.foldl (fun b s=>WM.fV b (WM.fW f s A L)) (WM.fV b (WM.kC f A L))):=rfl
def sp_least_time(Z:Ad):Sp:=fun vs H Q _=>∃ (a:Addr) (ts:List Addr) (t:List Pnt) (A L:Int) (k:Nat),vs=[.ref a,.int A,.int L]∧TabAt H a ts t∧WM.rk t∧A.natAbs<2^k∧L.natAbs<2^k∧k≤4000∧∀ r H',ax H H'→OptR Z H' r (WM.dr t A L)→Q r H'
theorem ok_least_time(T:Txt K mg Z):a9 P w K mg base CX0 6 Z.qo Z.qp ["table", "along", "left"] (sp_least_time Z):=by
 refine T.qG.fn.ok dC (fun vs H Q E h=>?_) (fun cdv A0 outer s H vs Q E hr h=>?_)
 ·revert h; walk_at "len"
 refine⟨_,(ae (az (i:=3) dC.nd rfl (Or.inl rfl) ek) (ae (cW PassesOwn.never rfl (pi_enumK (K:=K) rfl rfl T.mi (ab (pv 0) af)) (rE (K:=K) (n:=2) rfl rfl (eY (aZ (i:=4) dC.nd rfl (Or.inl rfl)) (eY (aZ (i:=5) dC.nd rfl (Or.inl rfl)) rC))) (ae (az (i:=3) dC.nd rfl (Or.inl rfl) (ag T.f_lesser (ok_lesser T) hr (ab (pv 3) (ab (ag T.n0 (ok_time_by_one T) hr (ab (pv 5) (ab (pv 1) (ab (pv 2) af)))) af)))) (ah (cW PassesOwn.never rfl (bD (K:=K) rfl (bg (bj (K:=K) rfl) (pv 0) cD (bc (pv 4)))) (aZ (i:=6) dC.nd rfl (Or.inl rfl)) (ah (az (i:=3) dC.nd rfl (Or.inl rfl) (ag T.f_lesser (ok_lesser T) hr (ab (pv 3) (ab (ag T.n6 (ok_time_by_two T) hr (ab (pv 5) (ab (pv 6) (ab (pv 1) (ab (pv 2) af))))) af))))))))) (ah (ao (pv 3))))),?_⟩
 obtain⟨a,ts,t,A,L,j,rfl,ha,ht,hA,hL,hj,k⟩:=h
 refine bB (σ':=[some (.ref a),some (.int A),some (.int L),none,none,none,none]) ?_ rfl
 have hl12:=ht.1
 walk_at "a"
 refine⟨a,_,rfl,SqL.of ha.lst,?_⟩
 refine for_gen (n:=t.length) (fun i σ H'=>∃ (bv:V) (b:Option Rat) (v1 v2 v3:Option V),σ=[some (.ref a),some (.int A),some (.int L),some bv,v1,v2,v3]∧ax H H'∧OptR Z H' bv b∧BdO (j+25) b∧WM.ltGo A L (t.take i) (t.drop i) b=WM.dr t A L)
  ⟨_,none,_,_,_,rfl,ax.refl H,rfl,fun q e=>(by cases e),rfl⟩
  (fun i σ H' hi ⟨_,_,_,_,_,_,s',_⟩=>⟨_,_,SqL.of (s' _ _ ha.lst),List.getElem?_eq_getElem (by rw[List.length_map,ha.len]; exact hi)⟩)
  (fun σ H' ⟨_,_,_,_,_,_,s',_⟩=>⟨_,SqL.of (s' _ _ ha.lst),by rw[List.length_map,ha.len]; exact Nat.le_refl _⟩) ?_ ?_
 ·rintro i σ H' v H2 hi ⟨bv,b,v1,v2,v3,rfl,s',hb,bb,hg⟩ ⟨tp,y,rfl,htp,rfl,hy⟩
  have hyi:=hy _ (SqL.of (s' _ _ ha.lst))
  obtain⟨c,hci,rfl⟩:=fQ hyi
  have hti:=List.getElem?_eq_getElem hi
  have hc:=s' _ _ (ha.at_ i c _ hci hti)
  have hvel:VelOk t[i]:=ht.2 _ (List.getElem_mem hi)
  rw[drop_cons hti,ltGo_cons,← take_snoc hti] at hg
  generalize t[i]=f at *
  have sT:ax H' (upd H' tp (.tup [.int ((i:Nat):Int),.ref c])):=ax.new htp
  have hT:upd H' tp (.tup [.int ((i:Nat):Int),.ref c]) tp=some (.tup [.int ((i:Nat):Int),.ref c]):=ai
  generalize upd H' tp (.tup [.int ((i:Nat):Int),.ref c])=H2 at *
  refine w_gTup (SqT.of hT) rfl ?_
  walk_at "a"
  refine⟨c,f,A,L,j,rfl,sT _ _ hc,hvel,hA,hL,by omega,fun r1 H3 s3 hr1=>?_⟩
  walk_at "a"
  refine⟨bv,r1,b,_,j+25,rfl,hb.mono (sT.trans s3),hr1,bb,time1_bd hvel hA hL,by omega,fun r2 hr2=>?_⟩
  have bb2:=BdO.fV bb (time1_bd hvel hA hL)
  have s03:=(s'.trans sT).trans s3
  walk_at "a"
  refine d8 (SqL.of (s03 _ _ ha.lst)) fun p hp=>?_
  rw[cut_to (by rw[List.length_map,ha.len]; omega)]
  have s4:ax H3 (upd H3 p (.lst ((ts.map V.ref).take i))):=ax.new hp
  have hpl:upd H3 p (.lst ((ts.map V.ref).take i)) p=some (.lst ((ts.take i).map V.ref)):=by rw[ai,List.map_take]
  generalize upd H3 p (.lst ((ts.map V.ref).take i))=H4 at *
  refine⟨p,rfl,⟨_,SqL.of hpl⟩,?_⟩
  refine bQ (K:=K) (a:=p) (xs:=(ts.take i).map V.ref) (fun n σ H'=>∃ (bv:V) (b':Option Rat) (v3:Option V),σ=[some (.ref a),some (.int A),some (.int L),some bv,some (.int ((i:Nat):Int)),some (.ref c),v3]∧ax H4 H'∧OptR Z H' bv b'∧BdO (j+25) b'∧b' = ((t.take i).take n).foldl (fun b s=>WM.fV b (WM.fW f s A L)) (WM.fV b (WM.kC f A L)))
   ⟨_,_,_,rfl,ax.refl _,hr2.mono s4,bb2,rfl⟩ (fun n σ H' _ ⟨_,_,_,_,s',_⟩=>SqL.of (s' _ _ hpl)) ?_ ?_
  ·rintro n y σ H5 hn ⟨bv,b',v3,rfl,s5,hb5,bb5,e5⟩
   obtain⟨d,hdn,rfl⟩:=fQ hn
   have hlt:n<i:=by
    have:=(List.getElem?_eq_some_iff.mp hdn).1
    rw[List.length_take] at this
    omega
   have hdn2:ts[n]? = some d:=by rw[List.getElem?_take_of_lt hlt] at hdn; exact hdn
   have hnt:n<t.length:=by omega
   have htn:=List.getElem?_eq_getElem hnt
   have hd:=ha.at_ n d _ hdn2 htn
   have hvd:VelOk t[n]:=ht.2 _ (List.getElem_mem hnt)
   have htk:((t.take i).take (n+1))=(t.take i).take n++[t[n]]:=take_snoc (by rw[List.getElem?_take_of_lt hlt]; exact htn)
   rw[htk,List.foldl_append,← e5]
   generalize t[n]=g at *
   have s05:=(s03.trans s4).trans s5
   walk_at "a"
   refine⟨c,d,f,g,A,L,j,rfl,((sT.trans s3).trans (s4.trans s5)) _ _ hc,s05 _ _ hd,hvel,hvd,hA,hL,hj,fun r5 H6 s6 hr5=>?_⟩
   walk_at "a"
   refine⟨bv,r5,b',_,j+25,rfl,hb5.mono s6,hr5,bb5,time2_bd hvel hvd hA hL,by omega,fun r6 hr6=>?_⟩
   walk_at "a"
   exact⟨_,_,_,rfl,s5.trans s6,hr6,BdO.fV bb5 (time2_bd hvel hvd hA hL),rfl⟩
  ·rintro σ H5 ⟨bv,b',v3,rfl,s5,hb5,bb5,e5⟩
   have hlen:((ts.take i).map V.ref).length=i:=by rw[List.length_map,List.length_take,ha.len]; omega
   rw[hlen,List.take_of_length_le (by rw[List.length_take]; omega)] at e5
   rw[← e5] at hg
   exact⟨_,_,_,_,_,rfl,(s03.trans s4).trans s5,hb5,bb5,hg⟩
 ·rintro σ H' ⟨bv,b,v1,v2,v3,rfl,s',hb,bb,hg⟩
  rw[List.drop_of_length_le (Nat.le_refl _)] at hg
  walk_at "a"
  have:b=WM.dr t A L:=hg
  rw[this] at hb
  exact k _ H' s' hb
def sp_way_time(Z:Ad):Sp:=fun vs H Q _=>∃ (a wa:Addr) (ts:List Addr) (t:List Pnt) (w:Rat×Rat) (dx dy:Int) (k:Nat),vs=[.ref a,.ref wa,.int dx,.int dy]∧TabAt H a ts t∧WM.rk t∧gM Z H wa w∧WM.Bd k w.1∧WM.Bd k w.2∧k≤1400∧dx.natAbs≤200000∧dy.natAbs≤200000∧∀ r H',ax H H'→OptR Z H' r (WM.bC t w.1 w.2 dx dy)→Q r H'
theorem sum_sq_ne{a b:Int}(h:¬ (a=0∧b=0)):a*a+b*b≠0:=by
 intro e
 have h1:0≤a*a:=by
  rcases Int.le_total 0 a with g | g
  ·exact Int.mul_nonneg g g
  ·exact Int.mul_nonneg_of_nonpos_of_nonpos g g
 have h2:0≤b*b:=by
  rcases Int.le_total 0 b with g | g
  ·exact Int.mul_nonneg g g
  ·exact Int.mul_nonneg_of_nonpos_of_nonpos g g
 have e1:a*a=0:=by omega
 have e2:b*b=0:=by omega
 rcases Int.mul_eq_zero.mp e1 with g | g<;>rcases Int.mul_eq_zero.mp e2 with g' | g'<;>exact h ⟨g,g'⟩
theorem gq(T:Txt K mg Z):a9 P w K mg base CX0 7 Z.a_way_time Z.d_way_time ["table", "wind", "dx", "dy"] (sp_way_time Z):=by
 refine T.f7.fn.ok gm (fun vs H Q E h=>?_) (fun cdv A0 outer s H vs Q E hr h=>?_)
 ·revert h; walk_at "len"
 refine⟨_,(ae (aP (PW.pt (pw_and (aH fU (pv 2) aj (aM _)) (pw_and1 (aH fU (pv 3) aj (aM _))))) (ah (ao (ag T.dO (dg T) hr (ab aj af)))) aA) (ae (aP (br (ag T.f_is_calm (ok_is_calm T) hr (ab (pv 1) af))) (ah (ao ek)) aA) (ae (az (i:=4) gm.nd rfl (Or.inl rfl) (aF aN (ak (K:=K) rfl (ak (K:=K) rfl (pv 1) rfl) rfl) (ak (K:=K) rfl (ak (K:=K) rfl (pv 1) rfl) rfl))) (ae (az (i:=5) gm.nd rfl (Or.inl rfl) (aF aN (ak (K:=K) rfl (ak (K:=K) rfl (pv 1) rfl) rfl) (ak (K:=K) rfl (ak (K:=K) rfl (pv 1) rfl) rfl))) (ae (az (i:=6) gm.nd rfl (Or.inl rfl) (aF aN (ak (K:=K) rfl (ak (K:=K) rfl (pv 1) rfl) rfl) (ak (K:=K) rfl (ak (K:=K) rfl (pv 1) rfl) rfl))) (ae (az (i:=7) gm.nd rfl (Or.inl rfl) (ag T.qG (ok_least_time T) hr (ab (pv 0) (ab (aF dM (aF aN (pv 2) (pv 4)) (aF aN (pv 3) (pv 5))) (ab (aF cX (aF aN (pv 3) (pv 4)) (aF aN (pv 2) (pv 5))) af))))) (ae (aP (cN (cV (pv 7))) (ah (ao ek)) aA) (ah (ao (ag T.bJ (bN T) hr (ab (pv 7) (ab (ck T.aQ.make (bx T) (hr.mono (by decide)) rfl T.aQ.mg T.aQ.bind .nil eA (ab (aF aN aj (pv 6)) (ab (aF dM (aF aN (pv 4) (pv 4)) (aF aN (pv 5) (pv 5))) af))) af)))))))))))),?_⟩
 obtain⟨a,wa,ts,t,w,dx,dy,j,rfl,ha,ht,hw,b1,b2,hj,hdx,hdy,k⟩:=h
 obtain⟨e,n⟩:=w
 dsimp only at b1 b2 k
 unfold WM.bC at k
 have x18:dx.natAbs<2^18:=by
  show _<262144
  omega
 have y18:dy.natAbs<2^18:=by
  show _<262144
  omega
 have hE:(e.num*(n.den:Int)).natAbs<2^(j+j):=aO b1.1 (Bd.den b2)
 have hN:(n.num*(e.den:Int)).natAbs<2^(j+j):=aO b2.1 (Bd.den b1)
 have hS:((e.den:Int)*(n.den:Int)).natAbs<2^(j+j):=aO (Bd.den b1) (Bd.den b2)
 have hA:(dx*(e.num*(n.den:Int))+dy*(n.num*(e.den:Int))).natAbs<2^(18+(j+j)+1):=pk (aO x18 hE) (aO y18 hN)
 have hL:(dy*(e.num*(n.den:Int))-dx*(n.num*(e.den:Int))).natAbs<2^(18+(j+j)+1):=fj (aO y18 hE) (aO x18 hN)
 have h1000:((1000:Int)*((e.den:Int)*(n.den:Int))).natAbs<2^(10+(j+j)):=aO (show(1000:Int).natAbs<2^10 by decide) hS
 have hSq:(e.num*(n.den:Int)*(e.num*(n.den:Int))+n.num*(e.den:Int)*(n.num*(e.den:Int))).natAbs<2^((j+j)+(j+j)+1):=pk (aO hE hE) (aO hN hN)
 refine bB (σ':=[some (.ref a),some (.ref wa),some (.int dx),some (.int dy),none,none,none,none]) ?_ rfl
 refine w_join (R:=¬ (dx=0∧dy=0)) (fun hd=>?_) (fun rest=>?_)
 rotate_left
 ·walk_at "a"
  refine w_ite (fun h1=>?_) (fun h1=>?_)
  ·walk_at "a"
   refine w_ite (fun h2=>?_) (fun h2=>?_)
   ·rw[if_pos ⟨h1,h2⟩] at k
    walk_at "a"
    exact⟨0,rfl,fun p H1 s1 hp=>k _ H1 s1 ⟨p,rfl,hp⟩⟩
   ·exact rest (fun g=>h2 g.2)
  ·refine aG ?_
   exact rest (fun g=>h1 g.1)
 ·rw[if_neg hd] at k
  walk_at "a"
  refine⟨wa,(e,n),rfl,hw,?_⟩
  walk_at "a"
  refine w_ite (fun hc=>?_) (fun hc=>?_)
  ·rw[if_pos hc] at k
   walk_at "a"
   exact k _ H (ax.refl H) rfl
  ·rw[if_neg hc] at k
   have hsq0:e.num*(n.den:Int)*(e.num*(n.den:Int))+n.num*(e.den:Int)*(n.num*(e.den:Int))≠0:=sum_sq_ne (by
    rintro⟨g1,g2⟩
    have:=e.den_pos
    have:=n.den_pos
    rcases Int.mul_eq_zero.mp g1 with q | q
    ·rcases Int.mul_eq_zero.mp g2 with q' | q'
     ·exact hc ⟨q,q'⟩
     ·omega
    ·omega)
   walk_at "a"
   refine dN hw T fun xe hxe=>?_
   refine b6 hxe T ?_
   walk_at "a"
   refine cY hw T fun xn hxn=>?_
   refine aY hxn T ?_
   refine cn (bI b1.1 (Bd.den b2) (by omega)) ?_
   walk_at "a"
   refine cY hw T fun xn hxn=>?_
   refine b6 hxn T ?_
   walk_at "a"
   refine dN hw T fun xe hxe=>?_
   refine aY hxe T ?_
   refine cn (bI b2.1 (Bd.den b1) (by omega)) ?_
   walk_at "a"
   refine dN hw T fun xe hxe=>?_
   refine aY hxe T ?_
   walk_at "a"
   refine cY hw T fun xn hxn=>?_
   refine aY hxn T ?_
   refine cn (bI (Bd.den b1) (Bd.den b2) (by omega)) ?_
   walk_at "a"
   refine cn (bI x18 hE (by omega)) ?_
   walk_at "a"
   refine cn (bI y18 hN (by omega)) ?_
   walk_at "a"
   refine cn (bI y18 hE (by omega)) ?_
   walk_at "a"
   refine cn (bI x18 hN (by omega)) ?_
   walk_at "a"
   refine⟨a,ts,t,_,_,18+(j+j)+1,rfl,ha,ht,hA,hL,by omega,fun r1 H1 s1 hr1=>?_⟩
   walk_at "a"
   cases hlt:WM.dr t (dx*(e.num*(n.den:Int))+dy*(n.num*(e.den:Int))) (dy*(e.num*(n.den:Int))-dx*(n.num*(e.den:Int))) with
   | none =>
    rw[hlt] at k hr1
    have hr1:r1 = .non:=hr1
    rw[decide_eq_true hr1]
    refine aD ?_
    walk_at "a"
    exact k _ H1 s1 rfl
   | some q =>
    rw[hlt] at k hr1
    obtain⟨p1,rfl,hp1⟩:=hr1
    have bq:WM.Bd (18+(j+j)+1+25) q:=by
     obtain⟨d,z,d0,d1,z1,ez⟩:=WM.least_rep (M:=2^(18+(j+j)+1)-1) ht hlt (by omega) (by omega)
     exact cand_bd d0 d1 z1 ez
    rw[decide_eq_false (by intro g; cases g)]
    refine aG ?_
    walk_at "a"
    refine cn (bI (show(1000:Int).natAbs<2^10 by decide) hS (by omega)) ?_
    walk_at "a"
    refine cn (bI hE hE (by omega)) ?_
    walk_at "a"
    refine cn (bI hN hN (by omega)) ?_
    walk_at "a"
    refine dF hsq0 (bA hSq (by omega)) fun p2 H2 s2 hp2=>?_
    walk_at "a"
    exact⟨p1,p2,q,_,_,_,rfl,hp1.mono s2,hp2,bq,Bd.divInt hsq0 h1000 hSq,by omega,fun p3 H3 s3 hp3=>k _ H3 ((s1.trans s2).trans s3) ⟨p3,rfl,hp3⟩⟩
def gP(l:List Stn)(t:List Pnt):Rat→List Pnt→List Rat
 | m,p::q::r=>match (WM.bE l p.x p.y m).bind fun w=>WM.bC t w.1 w.2 (q.x-p.x) (q.y-p.y) with
  | none=>[]
  | some u=>(m+u)::gP l t (m+u) (q::r)
 | _,_=>[]
theorem legs_F(l:List Stn)(t:List Pnt)(hr:∀ s∈l,WM.cP s.seen):∀ (ps:List Pnt) (m:Rat),Vbreal.legs l t (WM.F m) ps=(gP l t m ps).map WM.F
 | [],m=>rfl
 | [p],m=>rfl
 | p::q::r,m=>by
  unfold Vbreal.legs gP
  have e:(Vbreal.windAt l p (WM.F m)).bind (fun w=>Vbreal.timeIn t w ⟨q.x-p.x,q.y-p.y⟩)=((WM.bE l p.x p.y m).bind fun w=>WM.bC t w.1 w.2 (q.x-p.x) (q.y-p.y)).map WM.F:=by
   have e1:Vbreal.windAt l p (WM.F m)=(WM.bE l p.x p.y m).map WM.a8:=WM.rj l p.x p.y m hr
   rw[e1]
   cases WM.bE l p.x p.y m with
   | none=>rfl
   | some w=>exact WM.mC t w.1 w.2 ⟨q.x-p.x,q.y-p.y⟩
  rw[e]
  cases(WM.bE l p.x p.y m).bind fun w=>WM.bC t w.1 w.2 (q.x-p.x) (q.y-p.y) with
  | none=>rfl
  | some u =>
   show Vbreal.add (WM.F m) (WM.F u)::Vbreal.legs l t (Vbreal.add (WM.F m) (WM.F u)) (q::r)=_
   rw[WM.mP,legs_F l t hr (q::r) (m+u)]
   rfl
theorem wind_at_bd{l:List Stn}{x y:Int}{m:Rat}{w:Rat×Rat}{k:Nat}(wo:WM.WOk l)(hx:-100000≤x∧x≤100000)(hy:-100000≤y∧y≤100000)(bm:WM.Bd k m)(h:WM.bE l x y m=some w) :
  (WM.Bd (k+340) w.1∧WM.Bd (k+340) w.2)∧∀ {t:List Pnt} {dx dy:Int} {T:Rat},WM.rk t→dx.natAbs≤200000→dy.natAbs≤200000→WM.bC t w.1 w.2 dx dy=some T→WM.Bd (2*k+721) T:=by
 obtain⟨D,hD,hDl,hr⟩:=WM.windQ_rep wo hx hy h
 have hlt:D<2^(330+k):=by
  refine Nat.lt_of_le_of_lt hDl ?_
  rw[Nat.pow_add]
  exact Nat.mul_lt_mul_of_pos_left bm.2 (Nat.pow_pos (by decide))
 have e:330+k+10=k+340:=by omega
 refine⟨⟨by have:=Bd.of_rep hD hr.1 hlt; rwa [e] at this,by have:=Bd.of_rep hD hr.2 hlt; rwa [e] at this⟩,fun {t dx dy T} ht hdx hdy hT=>?_⟩
 obtain⟨_,d,z,d0,d1,z1,ez⟩:=WM.wayTime_rep ht hD (show WM.WRep D (w.1,w.2) from hr) hdx hdy hT
 have hDD:D*D<2^((330+k)+(330+k)):=fi hlt hlt
 have h60:2^60*(D*D)<2^(60+((330+k)+(330+k))):=by
  rw[Nat.pow_add 2 60]
  exact Nat.mul_lt_mul_of_pos_left hDD (Nat.pow_pos (by decide))
 have b:=Bd.of_int d0 ez (Nat.lt_of_le_of_lt d1 h60) (Nat.lt_of_le_of_lt z1 h60)
 exact Bd.up b (by omega)
def kF(Z:Ad)(H:Hp)(ds:List Addr)(qs:List Rat):Prop:=ds.length=qs.length∧∀ (i:Nat) (a:Addr) (q:Rat),ds[i]? = some a→qs[i]? = some q→a7 Z H a q
theorem kF.mono{Z:Ad}{H H':Hp}{ds:List Addr}{qs:List Rat}(s:∀ a o,a∈ds→H a=some o→H' a=some o)(h:kF Z H ds qs):kF Z H' ds qs:=⟨h.1,fun i a q ha hq=>by
 obtain⟨dx,e⟩:=h.2 i a q ha hq
 exact⟨dx,s a _ (List.mem_of_getElem? ha) e⟩⟩
theorem kF.snoc{Z:Ad}{H:Hp}{ds:List Addr}{qs:List Rat}{a:Addr}{q:Rat}(h:kF Z H ds qs)(ha:a7 Z H a q):kF Z H (ds++[a]) (qs++[q]):=by
 refine⟨by rw[List.length_append,List.length_append,h.1]; rfl,fun i b m hb hm=>?_⟩
 by_cases hi:i<ds.length
 ·rw[List.getElem?_append_left hi] at hb
  rw[List.getElem?_append_left (by rw[← h.1]; exact hi)] at hm
  exact h.2 i b m hb hm
 ·rw[List.getElem?_append_right (by omega)] at hb
  rw[List.getElem?_append_right (by rw[← h.1]; omega),← h.1] at hm
  cases e:i-ds.length with
  | zero =>
   rw[e] at hb hm
   cases hb
   cases hm
   exact ha
  | succ k=>rw[e] at hb; simp at hb
def PlcOk(ps:List Pnt):Prop:=ps.length≤3∧∀ p∈ps,(-100000≤p.x∧p.x≤100000)∧(-100000≤p.y∧p.y≤100000)
def pH(Z:Ad):Sp:=fun vs H Q _=>∃ (a tb pa:Addr) (rs:List Rec) (l:List Stn) (ts:List Addr) (t:List Pnt) (pas:List Addr) (ps:List Pnt) (m:Int),vs=[.ref a,.ref tb,.int m,.ref pa]∧kj Z H a rs l∧WM.WOk l∧TabAt H tb ts t∧WM.rk t∧TabAt H pa pas ps∧PlcOk ps∧(0≤m∧m≤100000) ∧
 ∀ p H' ds,ax H H'→H p=none→H' p=some (.lst (ds.map V.ref))→kF Z H' ds (gP l t (m:Rat) ps)→(∀ q∈gP l t (m:Rat) ps,WM.Bd 12900 q)→Q (.ref p) H'
theorem cut_from(xs:List V):fN xs (some 1) none=xs.drop 1:=by
 unfold fN
 have e1:HT.sIx xs.length 0 (some 1)=min 1 xs.length:=HT.sIx_nat xs.length 0 1
 rw[e1,HT.sIx_none]
 cases xs with
 | nil=>rfl
 | cons x r =>
  have:min 1 (x::r).length=1:=by simp
  rw[this]
  exact List.take_of_length_le (by simp)
def legBd:Nat→Nat
 | 0=>20
 | 1=>790
 | _=>3100
theorem legsQ_cons(l:List Stn)(t:List Pnt)(m:Rat)(p q:Pnt)(r:List Pnt):gP l t m (p::q::r)=match (WM.bE l p.x p.y m).bind fun w=>WM.bC t w.1 w.2 (q.x-p.x) (q.y-p.y) with
  | none=>[]
  | some u=>(m+u)::gP l t (m+u) (q::r):=rfl
theorem pI(T:Txt K mg Z):a9 P w K mg base CX0 8 Z.iZ Z.i3 ["stations", "table", "start", "places"] (pH Z):=by
 refine T.i4.fn.ok bK (fun vs H Q E h=>?_) (fun cdv A0 outer s H vs Q E hr h=>?_)
 ·revert h; walk_at "len"
 refine⟨_,(ae (az (i:=4) bK.nd rfl (Or.inl rfl) (ag T.dO (dg T) hr (ab (pv 2) af))) (ae (az (i:=5) bK.nd rfl (Or.inl rfl) (aJ af)) (ae (cW PassesOwn.never rfl (pi_zipK (K:=K) rfl rfl T.n_zip (ab (pv 3) (ab (bg (bj (K:=K) rfl) (pv 3) (bc aj) cD) af))) (rE (K:=K) (n:=2) rfl rfl (eY (aZ (i:=6) bK.nd rfl (Or.inl rfl)) (eY (aZ (i:=7) bK.nd rfl (Or.inl rfl)) rC))) (ae (az (i:=8) bK.nd rfl (Or.inl rfl) (ag T.f_wind_at (ok_wind_at T) hr (ab (pv 0) (ab (aI (aU (K:=K) rfl) (pv 6) aj (fun _ _=>rfl)) (ab (aI (aU (K:=K) rfl) (pv 6) aj (fun _ _=>rfl)) (ab (pv 4) af)))))) (ae (aP (cN (cV (pv 8))) (ah (ao (pv 5))) aA) (ae (az (i:=9) bK.nd rfl (Or.inl rfl) (ag T.f7 (gq T) hr (ab (pv 1) (ab (pv 8) (ab (aF cX (aI (aU (K:=K) rfl) (pv 7) aj (fun _ _=>rfl)) (aI (aU (K:=K) rfl) (pv 6) aj (fun _ _=>rfl))) (ab (aF cX (aI (aU (K:=K) rfl) (pv 7) aj (fun _ _=>rfl)) (aI (aU (K:=K) rfl) (pv 6) aj (fun _ _=>rfl))) af)))))) (ae (aP (cN (cV (pv 9))) (ah (ao (pv 5))) aA) (ae (az (i:=4) bK.nd rfl (Or.inl rfl) (ag T.bY (bX T) hr (ab (pv 4) (ab (pv 9) af)))) (ah (dk (fJ (K:=K) rfl PySem.F.plainAttrs_list PySem.F.slot_list_append PySem.F.type_list_append fm (pv 5) (ab (pv 4) af)))))))))) (ah (ao (pv 5)))))),?_⟩
 obtain⟨a,tb,pa,rs,l,ts,t,pas,ps,m,rfl,ha,wo,htb,htk,hpa,hps,hm,k⟩:=h
 refine bB (σ':=[some (.ref a),some (.ref tb),some (.int m),some (.ref pa),none,none,none,none,none,none]) ?_ rfl
 have bm:WM.Bd 20 (m:Rat):=Bd.whole (by show _<1048576; omega) (by omega)
 walk_at "a"
 refine⟨m,rfl,fun ma H1 s1 hma=>?_⟩
 walk_at "a"
 refine⟨Nat.zero_le _,fun D hD=>?_⟩
 have sD:ax H1 (upd H1 D (.lst [])):=ax.new hD
 have hDl:upd H1 D (.lst []) D=some (.lst []):=ai
 have hD0:H D=none:=s1.free hD
 generalize upd H1 D (.lst [])=H2 at *
 have s02:=s1.trans sD
 walk_at "a"
 refine d8 (SqL.of (s02 _ _ hpa.lst)) fun pb hpb=>?_
 rw[cut_from]
 have s3:ax H2 (upd H2 pb (.lst ((pas.map V.ref).drop 1))):=ax.new hpb
 have hpbl:upd H2 pb (.lst ((pas.map V.ref).drop 1)) pb=some (.lst ((pas.drop 1).map V.ref)):=by rw[ai,List.map_drop]
 have hpbD:pb≠D:=fun e=>by rw[e,hDl] at hpb; cases hpb
 generalize upd H2 pb (.lst ((pas.map V.ref).drop 1))=H3 at *
 walk_at "a"
 have s03:=s02.trans s3
 refine⟨pa,pb,_,_,rfl,SqL.of (s03 _ _ hpa.lst),SqL.of hpbl,?_⟩
 refine for_gen (n:=ps.length-1) (fun i σ H'=>∃ (ma:Addr) (q:Rat) (ds:List Addr) (qs:List Rat) (v1 v2 v3 v4:Option V),σ=[some (.ref a),some (.ref tb),some (.int m),some (.ref pa),some (.ref ma),some (.ref D),v1,v2,v3,v4]∧ax H H'∧H' pb=some (.lst ((pas.drop 1).map V.ref))∧a7 Z H' ma q∧WM.Bd (legBd i) q∧H' D=some (.lst (ds.map V.ref))∧kF Z H' ds qs∧qs++gP l t q (ps.drop i)=gP l t (m:Rat) ps∧(∀ z∈qs,WM.Bd 3100 z)∧qs.length=i)
  ⟨ma,_,[],[],_,_,_,_,rfl,s03,hpbl,hma.mono (sD.trans s3),bm,s3 _ _ hDl,⟨rfl,fun i a q h=>by simp at h⟩,rfl,by simp,rfl⟩
  (fun i σ H' hi ⟨_,_,_,_,_,_,_,_,_,s',hp',_⟩=>⟨_,_,_,_,SqL.of (s' _ _ hpa.lst),SqL.of hp',List.getElem?_eq_getElem (by rw[List.length_map,hpa.len]; omega),List.getElem?_eq_getElem (by rw[List.length_map,List.length_drop,hpa.len]; omega)⟩)
  (fun σ H' ⟨_,_,_,_,_,_,_,_,_,s',hp',_⟩=>⟨_,_,SqL.of (s' _ _ hpa.lst),SqL.of hp',.inr (by rw[List.length_map,List.length_drop,hpa.len]; omega)⟩) ?_ ?_
 ·rintro i σ H' v H4 hi ⟨ma,q,ds,qs,v1,v2,v3,v4,rfl,s',hp',hma,bq,hDd,hds,hg,hqs,hqi⟩ ⟨tp,y1,y2,rfl,htp,rfl,hy1,hy2⟩
  have hy1:=hy1 _ (SqL.of (s' _ _ hpa.lst))
  have hy2:=hy2 _ (SqL.of hp')
  obtain⟨c1,hc1,rfl⟩:=fQ hy1
  obtain⟨c2,hc2,rfl⟩:=fQ hy2
  rw[List.getElem?_drop,Nat.add_comm] at hc2
  have h3:=hps.1
  have hi1:i<ps.length:=by omega
  have hi2:i+1<ps.length:=by omega
  have hp1:=List.getElem?_eq_getElem hi1
  have hp2:=List.getElem?_eq_getElem hi2
  have ht1:=hpa.at_ i c1 _ hc1 hp1
  have ht2:=hpa.at_ (i+1) c2 _ hc2 hp2
  have ok1:=hps.2 _ (List.getElem_mem hi1)
  have ok2:=hps.2 _ (List.getElem_mem hi2)
  rw[drop_cons hp1,drop_cons hp2,legsQ_cons,← drop_cons hp2] at hg
  generalize ps[i]=p1 at *
  generalize ps[i+1]=p2 at *
  have sT:ax H' (upd H' tp (.tup [.ref c1,.ref c2])):=ax.new htp
  have hT:upd H' tp (.tup [.ref c1,.ref c2]) tp=some (.tup [.ref c1,.ref c2]):=ai
  generalize upd H' tp (.tup [.ref c1,.ref c2])=H5 at *
  have s05:=s'.trans sT
  have hk:legBd i≤790:=by
   have:i=0∨i=1:=by omega
   rcases this with rfl | rfl<;>decide
  have fin0:∀ H6,ax H5 H6→(WM.bE l p1.x p1.y q).bind (fun w=>WM.bC t w.1 w.2 (p2.x-p1.x) (p2.y-p1.y))=none→Q (.ref D) H6:=fun H6 s6 hn=>by
   rw[hn] at hg
   have hg:qs=gP l t (m:Rat) ps:=by simpa using hg
   rw[← hg] at k
   refine k D H6 ds (s05.trans s6) hD0 ((sT.trans s6) _ _ hDd) (hds.mono fun a o _ e=>(sT.trans s6) _ _ e) fun z hz=>Bd.up (hqs z hz) (by omega)
  have i0:∀ v:Pnt,atI [V.int v.x,V.int v.y] 0=some (.int v.x):=fun v=>rfl
  have i1:∀ v:Pnt,atI [V.int v.x,V.int v.y] 1=some (.int v.y):=fun v=>rfl
  refine w_gTup (SqT.of hT) rfl ?_
  walk_at "a"
  refine b9 (SqT.of (s05 _ _ ht1)) (i0 p1) ?_
  walk_at "a"
  refine b9 (SqT.of (s05 _ _ ht1)) (i1 p1) ?_
  walk_at "a"
  refine⟨a,ma,rs,l,p1.x,p1.y,q,legBd i,rfl,ha.mono s05,wo,ok1.1,ok1.2,hma.mono sT,bq,by omega,fun wv H6 s6 hwv=>?_⟩
  walk_at "a"
  cases hw:WM.bE l p1.x p1.y q with
  | none =>
   rw[hw] at hwv
   have hwv:wv = .non:=hwv
   rw[decide_eq_true hwv]
   refine aD ?_
   walk_at "a"
   exact fin0 H6 s6 (by rw[hw]; rfl)
  | some w =>
   rw[hw] at hwv
   obtain⟨wa,rfl,hwa⟩:=hwv
   obtain⟨⟨bw1,bw2⟩,bT⟩:=wind_at_bd wo ok1.1 ok1.2 bq hw
   have hdx:(p2.x-p1.x).natAbs≤200000:=by
    have:=ok1.1
    have:=ok2.1
    omega
   have hdy:(p2.y-p1.y).natAbs≤200000:=by
    have:=ok1.2
    have:=ok2.2
    omega
   rw[decide_eq_false (by intro g; cases g)]
   refine aG ?_
   have s06:=s05.trans s6
   walk_at "a"
   refine b9 (SqT.of (s06 _ _ ht2)) (i0 p2) ?_
   walk_at "a"
   refine b9 (SqT.of (s06 _ _ ht1)) (i0 p1) ?_
   walk_at "a"
   refine b9 (SqT.of (s06 _ _ ht2)) (i1 p2) ?_
   walk_at "a"
   refine b9 (SqT.of (s06 _ _ ht1)) (i1 p1) ?_
   walk_at "a"
   refine⟨tb,wa,ts,t,w,_,_,legBd i+340,rfl,htb.mono s06,htk,hwa,bw1,bw2,by omega,hdx,hdy,fun lv H7 s7 hlv=>?_⟩
   walk_at "a"
   cases hlw:WM.bC t w.1 w.2 (p2.x-p1.x) (p2.y-p1.y) with
   | none =>
    rw[hlw] at hlv
    have hlv:lv = .non:=hlv
    rw[decide_eq_true hlv]
    refine aD ?_
    walk_at "a"
    exact fin0 H7 (s6.trans s7) (by rw[hw]; exact hlw)
   | some u =>
    rw[hlw] at hlv
    obtain⟨la,rfl,hla⟩:=hlv
    have bu:=bT htk hdx hdy hlw
    rw[decide_eq_false (by intro g; cases g)]
    refine aG ?_
    walk_at "a"
    have s57:=(sT.trans s6).trans s7
    refine⟨ma,la,q,u,legBd i,2*legBd i+721,rfl,hma.mono s57,hla,bq,bu,by omega,fun na H8 s8 hna=>?_⟩
    have bsum:=Bd.add bq bu
    have hD8:=(s57.trans s8) _ _ hDd
    have hb2:WM.Bd (legBd (i+1)) (q+u):=by
     have:i=0∨i=1:=by omega
     rcases this with rfl | rfl
     ·exact Bd.up bsum (by show 20+(2*20+721)+1≤790; omega)
     ·exact Bd.up bsum (by show 790+(2*790+721)+1≤3100; omega)
    have hle:legBd (i+1)≤3100:=by
     have:i=0∨i=1:=by omega
     rcases this with rfl | rfl<;>decide
    walk_at "a"
    refine⟨ty_list (SqL.of hD8),?_⟩
    walk_at "a"
    refine gF hD8 (by rw[List.length_map,hds.1,hqi,aw]; omega) ?_
    have hds8:=hds.mono (H':=H8) fun a o _ e=>(s57.trans s8) _ _ e
    have hDn:∀ b q0,a7 Z H8 b q0→b≠D:=fun b q0 ⟨dx,e⟩=>mL e hD8 (by intro z; cases z)
    have keepU:∀ o b u,b≠D→H8 b=some u→upd H8 D o b=some u:=fun o b u hb e=>by rw[ay hb]; exact e
    refine⟨na,q+u,ds++[na],qs++[q+u],_,_,_,_,rfl,((s'.trans s57).trans s8).dB hD0,?_,?_,hb2,?_,?_,?_,?_,?_⟩
    ·exact keepU _ _ _ hpbD ((s57.trans s8) _ _ hp')
    ·obtain⟨dx,e⟩:=hna
     exact⟨dx,keepU _ _ _ (hDn na _ ⟨dx,e⟩) e⟩
    ·rw[ai,List.map_append]; rfl
    ·refine kF.snoc (hds8.mono fun b o hb e=>?_) ?_
     ·refine keepU _ _ _ ?_ e
      obtain⟨n,hn⟩:=List.getElem?_of_mem hb
      have hnl:n<qs.length:=by rw[← hds8.1]; exact(List.getElem?_eq_some_iff.mp hn).1
      exact hDn b _ (hds8.2 n b _ hn (List.getElem?_eq_getElem hnl))
     ·obtain⟨dx,e⟩:=hna
      exact⟨dx,keepU _ _ _ (hDn na _ ⟨dx,e⟩) e⟩
    ·rw[← hg,hw]
     show _=qs++(match WM.bC t w.1 w.2 (p2.x-p1.x) (p2.y-p1.y) with | none=>[] | some u=>(q+u)::gP l t (q+u) (ps.drop (i+1)))
     rw[hlw,List.append_assoc]
     rfl
    ·intro z hz
     rcases List.mem_append.mp hz with g | g
     ·exact hqs z g
     ·rw[List.mem_singleton.mp g]; exact Bd.up hb2 hle
    ·rw[List.length_append,hqi]; rfl
 ·rintro σ H' ⟨ma,q,ds,qs,v1,v2,v3,v4,rfl,s',hp',hma,bq,hDd,hds,hg,hqs,hqi⟩
  have hnil:gP l t q (ps.drop (ps.length-1))=[]:=by
   have hlen:(ps.drop (ps.length-1)).length≤1:=by rw[List.length_drop]; omega
   match ps.drop (ps.length-1),hlen with
   | [],_=>rfl
   | [p],_=>rfl
  rw[hnil,List.append_nil] at hg
  rw[← hg] at k
  walk_at "a"
  exact k D H' ds s' hD0 hDd hds fun z hz=>Bd.up (hqs z hz) (by omega)
def rY(Z:Ad):Sp:=fun vs H Q _=>∃ (a:Addr) (q:Rat) (n:Int),vs=[.ref a,.int n]∧a7 Z H a q∧WM.Bd 8000 q∧0≤q∧(0≤n∧n≤1000000) ∧
 Q (optI (if n=0 then some 1 else if q.num=0 then none else some ((n*q.den+q.num-1) / q.num))) H
theorem rZ(T:Txt K mg Z):a9 P w K mg base CX0 1 Z.j0 Z.j1 ["lasts", "seconds"] (rY Z):=by
 refine T.kb.fn.ok rP (fun vs H Q E h=>?_) (fun cdv A0 outer s H vs Q E hr h=>?_)
 ·revert h; walk_at "len"
 refine⟨_,(ae (aP (aH fU (pv 1) aj (aM _)) (ah (ao aj)) aA) (ae (aP (aH fU (ak (K:=K) rfl (pv 0) rfl) aj (aM _)) (ah (ao ek)) aA) (ah (ao (aF jh (aF cX (aF dM (aF aN (pv 1) (ak (K:=K) rfl (pv 0) rfl)) (ak (K:=K) rfl (pv 0) rfl)) aj) (ak (K:=K) rfl (pv 0) rfl)))))),?_⟩
 obtain⟨a,q,n,rfl,ha,bq,hq,hn,k⟩:=h
 have hnum:0≤q.num:=Rat.num_nonneg.mpr hq
 refine bB (σ':=[some (.ref a),some (.int n)]) ?_ rfl
 walk_at "a"
 refine w_ite (fun h0=>?_) (fun h0=>?_)
 ·rw[if_pos h0] at k
  walk_at "a"
  exact k
 ·rw[if_neg h0] at k
  walk_at "a"
  refine b6 ha T ?_
  walk_at "a"
  refine w_ite (fun h1=>?_) (fun h1=>?_)
  ·rw[if_pos h1] at k
   walk_at "a"
   exact k
  ·rw[if_neg h1] at k
   walk_at "a"
   refine aY ha T ?_
   refine cn (bI (show n.natAbs<2^20 by show _<1048576; omega) (Bd.den bq) (by omega)) ?_
   walk_at "a"
   refine b6 ha T ?_
   walk_at "a"
   refine b6 ha T ?_
   refine cn ⟨h1,log_lt h1 (bA bq.1 (by decide))⟩ ?_
   rw[Int.fdiv_eq_ediv_of_nonneg _ (by omega)]
   exact k
def pB(st tb:V):List (Str×V):=eD "table" tb (eD "stations" st [])
structure Wld (Z:Ad) (H:Hp) (sea st:Addr) (rs:List Rec) (l:List Stn) (tb:Addr) (ts:List Addr) (t:List Pnt):Prop where
 sea:∃ dx,H sea=some (.ins Z.CSea dx (pB (.ref st) (.ref tb)))
 we:kj Z H st rs l
 sep:Sep st rs
 wo:WM.WOk l
 tab:TabAt H tb ts t
 tok:WM.rk t
 tsep:∀ r∈rs,r.sl≠tb
theorem Wld.mono{Z:Ad}{H H':Hp}{sea st:Addr}{rs:List Rec}{l:List Stn}{tb:Addr}{ts:List Addr}{t:List Pnt}(s:ax H H')(h:Wld Z H sea st rs l tb ts t):Wld Z H' sea st rs l tb ts t:=by
 obtain⟨dx,hs⟩:=h.sea
 exact⟨⟨dx,s _ _ hs⟩,h.we.mono s,h.sep,h.wo,h.tab.mono s,h.tok,h.tsep⟩
section
variable {K:PySem.W.Frag}{mg:Str→Option Value}{Z:Ad}{H:Hp}{Q:VK}{sea st:Addr}{rs:List Rec}{l:List Stn}{tb:Addr}{ts:List Addr}{t:List Pnt}
theorem cI(h:Wld Z H sea st rs l tb ts t)(T:Txt K mg Z)(k:Q (.ref st) H):Fld K (.ref sea) "stations" H Q:=by
 obtain⟨dx,h⟩:=h.sea
 exact d4 h T.rn.cl T.gw (bF (by decide +kernel) dZ) k
theorem ij(h:Wld Z H sea st rs l tb ts t)(T:Txt K mg Z)(k:Q (.ref tb) H):Fld K (.ref sea) "table" H Q:=by
 obtain⟨dx,h⟩:=h.sea
 exact d4 h T.rn.cl T.js dZ k
end
def sp_Sea(Z:Ad):Sp:=fun vs H Q _=>∃ (p dx:Addr),vs=[.ref p]∧H p=some (.ins Z.CSea dx [])∧∀ q q2,H q=none→H q2=none→q2≠q→Q .non (upd (upd (upd H q (.lst [])) q2 (.lst [])) p (.ins Z.CSea dx (pB (.ref q) (.ref q2))))
theorem ok_Sea_init(T:Txt K mg Z):a9 P w K mg base CX0 1 Z.a_Sea_init Z.d_Sea_init ["self"] (sp_Sea Z):=by
 refine T.rn.fn.ok sc_Sea_init (fun vs H Q E h=>?_) (fun cdv A0 outer s H vs Q E hr h=>?_)
 ·revert h; walk_at "len"
 refine⟨_,(ae (cB (K:=K) rfl (pv 0) (aJ af) rfl) (ah (cB (K:=K) rfl (pv 0) (aJ af) rfl))),?_⟩
 obtain⟨p,dx,rfl,hp,k⟩:=h
 refine bB (σ':=[some (.ref p)]) ?_ rfl
 walk_at "a"
 refine⟨Nat.zero_le _,fun q hq=>?_⟩
 have hqp:q≠p:=by
  rintro rfl
  rw[hp] at hq; cases hq
 walk_at "a"
 refine dh (by rw[ay (Ne.symm hqp)]; exact hp) T.rn.cl T.gw (by show 0<1000; decide) ?_
 walk_at "a"
 refine⟨Nat.zero_le _,fun q2 hq2=>?_⟩
 have hq2p:q2≠p:=by
  rintro rfl
  rw[ai] at hq2; cases hq2
 rw[ay hq2p] at hq2
 have hq2q:q2≠q:=by
  rintro rfl
  rw[ai] at hq2; cases hq2
 rw[ay hq2q] at hq2
 walk_at "a"
 refine dh (by rw[ay (Ne.symm hq2p),ai]) T.rn.cl T.js (by show 1<1000; decide) ?_
 rw[upd_comm (Ne.symm hq2p),bO]
 exact k q q2 hq hq2 hq2q
def bz:List Int→List Pnt
 | x::y::r=>⟨x,y⟩::bz r
 | _=>[]
theorem pairsP_get:∀ {ns:List Int} {i:Nat},2*i+1<ns.length→∃ x y,ns[2*i]? = some x∧ns[2*i+1]? = some y∧(bz ns)[i]? = some ⟨x,y⟩
 | [],i,h=>by simp at h
 | [x],i,h=>by simp at h
 | x::y::r,0,_=>⟨x,y,rfl,rfl,rfl⟩
 | x::y::r,i+1,h=>by
  obtain⟨a,b,h1,h2,h3⟩:=pairsP_get (ns:=r) (i:=i) (by simp at h; omega)
  exact⟨a,b,by rw[show 2*(i+1)=2*i+1+1 by omega]; exact h1,by rw[show 2*(i+1)+1=2*i+1+1+1 by omega]; exact h2,h3⟩
theorem gb:∀ (ns:List Int),(bz ns).length=ns.length / 2
 | []=>rfl
 | [x]=>by simp[bz]
 | x::y::r=>by
  have:=gb r
  simp only[bz,List.length_cons]
  omega
theorem rg2:∀ n:Nat,n≤20→RgC 0 ((2*n:Nat):Int) 2 n:=by
 intro n hn
 have h:∀ n:Nat,n≤20→Builtin.Range.small 0 ((2*n:Nat):Int) 2=true∧Builtin.Range.rangeSize 0 ((2*n:Nat):Int) 2=n:=by decide
 exact⟨by decide,by decide,(h n hn).1,(h n hn).2⟩
def sp_pairs_of:Sp:=fun vs H Q _=>∃ (a:Addr) (ns:List Int) (n:Nat),vs=[.ref a]∧H a=some (.lst (ib ns))∧ns.length=2*n∧n≤20∧∀ p H' ts,ax H H'→H p=none→TabAt H' p ts (bz ns)→Q (.ref p) H'
theorem mr(T:Txt K mg Z):a9 P w K mg base CX0 1 Z.a_pairs_of Z.d_pairs_of ["row"] (sp_pairs_of):=by
 refine T.kc.fn.ok mm (fun vs H Q E h=>?_) (fun cdv A0 outer s H vs Q E hr h=>?_)
 ·revert h; walk_at "len"
 refine⟨_,(ah (ao (pe_lc (own:=[("place",1)]) rfl mm.nd (pi_range3 rfl T.n_range (ab aj (ab (aT (aS (K:=K) rfl) rfl T.dE PySem.boot_len (ab (pv 0) af)) (ab aj af)))) (ik (by kernel_rfl)) (fun _ _ _ _ _=>(aZ (i:=1) mm.nd rfl (Or.inl rfl))) (fun _ _ _ _ _=>pts_nil) (fun _ _ _ _ _=>(ku (ab (aI (aB (K:=K) rfl) (pv 0) (pv 1) (fun _ _=>rfl)) (ab (aI (aB (K:=K) rfl) (pv 0) (aF dM (pv 1) aj) (fun _ _=>rfl)) af))))))),?_⟩
 obtain⟨a,ns,n,rfl,ha,hn,hn20,k⟩:=h
 refine bB (σ':=[some (.ref a),none]) ?_ rfl
 walk_at "a"
 refine bV (SqL.of ha) ?_
 walk_at "a"
 rw[aW,hn]
 refine⟨0,_,2,n,rfl,rg2 n hn20,fun D hD=>?_⟩
 refine lc_gen (n:=n) (fun i H'=>ax H H'∧∃ ts,H' D=some (.lst (ts.map V.ref))∧ts.length=i∧D∉ts∧∀ (j:Nat) (b:Addr) (v:Pnt),ts[j]? = some b→(bz ns)[j]? = some v→iz H' b v) ⟨ax.new hD,[],ai,rfl,by simp,fun j b v h=>by simp at h⟩ (fun i H' hi _=>hi) (fun H' _=>Nat.le_refl _) ?_ ?_
 ·rintro i H' v H2 hi ⟨s',ts,hd,hl,hDt,hts⟩ ⟨rfl,rfl⟩
  obtain⟨x,y,hx,hy,hp⟩:=pairsP_get (ns:=ns) (i:=i) (by omega)
  walk_at "a"
  refine⟨rfl,?_⟩
  walk_at "a"
  refine aD ?_
  walk_at "a"
  have e1:(0:Int)+(i:Nat)*2=((2*i:Nat):Int):=by omega
  rw[e1]
  refine aV (SqL.of (s' _ _ ha)) (v:=.int x) (aE (by unfold ib; rw[List.getElem?_map,hx]; rfl)) ?_
  walk_at "a"
  have e2:((2*i:Nat):Int)+1=((2*i+1:Nat):Int):=by omega
  rw[e2]
  refine aV (SqL.of (s' _ _ ha)) (v:=.int y) (aE (by unfold ib; rw[List.getElem?_map,hy]; rfl)) ?_
  walk_at "a"
  refine⟨by show 2≤sizeLine; rw[aw]; omega,fun q hq=>?_⟩
  have hqD:q≠D:=fun e=>by rw[e,hd] at hq; cases hq
  have sQ:ax H2 (upd H2 q (.tup [.int x,.int y])):=ax.new hq
  refine⟨_,sQ _ _ hd,by rw[List.length_map,aw]; omega,(s'.trans sQ).dB hD,ts++[q],by rw[ai,List.map_append]; rfl,by rw[List.length_append,hl]; rfl,by simp; exact⟨hDt,Ne.symm hqD⟩,fun j b v hb hv=>?_⟩
  by_cases hj:j<ts.length
  ·rw[List.getElem?_append_left hj] at hb
   show upd _ D _ b=_
   rw[ay (by rintro rfl; exact hDt (List.mem_of_getElem? hb))]
   exact sQ _ _ (hts j b v hb hv)
  ·rw[List.getElem?_append_right (by omega)] at hb
   cases e:j-ts.length with
   | zero =>
    rw[e] at hb
    cases hb
    have hji:j=i:=by omega
    subst hji
    rw[hp] at hv
    cases hv
    show upd _ D _ q=_
    rw[ay hqD,ai]
   | succ m=>rw[e] at hb; simp at hb
 ·rintro H' ⟨s',ts,hd,hl,hDt,hts⟩
  exact k D H' ts s' hD ⟨hd,by rw[hl,gb]; omega,hts⟩
structure Kept (H H':Hp) (sea st st':Addr) (rs rs':List Rec) (tb tb' p:Addr):Prop where
 st:st' = st∨H st' = none
 fr:∀ b o,H b=some o→b≠sea→(∀ r∈rs,b≠r.sl)→H' b=some o
 old:∀ r'∈rs',(∃ r∈rs,r'.sl=r.sl)∨H r'.sl=none
 tb:tb' = tb∨H tb' = none
 p:H p=none
def dm(Z:Ad)(pre:List Int→List Int→Prop)(call:List Int→List Int→Vbreal.Call):Sp:=fun vs H Q _=>∃ (sea na ra st tb:Addr) (rs:List Rec) (l:List Stn) (ts:List Addr) (t:List Pnt) (args row:List Int),
 vs=[.ref sea,.ref na,.ref ra]∧Wld Z H sea st rs l tb ts t∧H na=some (.lst (ib args))∧H ra=some (.lst (ib row))∧pre args row ∧
 ∀ p H' st' rs' l' tb' ts' t',Wld Z H' sea st' rs' l' tb' ts' t'→(Vbreal.step ⟨l,t⟩ (call args row)).1=⟨l',t'⟩→H' p=some (.lst (ib (Vbreal.step ⟨l,t⟩ (call args row)).2))→(Vbreal.step ⟨l,t⟩ (call args row)).2.length≤100000→Kept H H' sea st st' rs rs' tb tb' p→Q (.ref p) H'
theorem bP{Z:Ad}{H:Hp}{Q:VK}{sea st tb:Addr}{rs:List Rec}{l:List Stn}{ts:List Addr}{t:List Pnt}{c:Vbreal.Call}{ans:List Int}(hw:Wld Z H sea st rs l tb ts t)
 (k:∀ p H' st' rs' l' tb' ts' t',Wld Z H' sea st' rs' l' tb' ts' t'→(Vbreal.step ⟨l,t⟩ c).1=⟨l',t'⟩→H' p=some (.lst (ib (Vbreal.step ⟨l,t⟩ c).2))→(Vbreal.step ⟨l,t⟩ c).2.length≤100000→Kept H H' sea st st' rs rs' tb tb' p→Q (.ref p) H')
 (hs:Vbreal.step ⟨l,t⟩ c=(⟨l,t⟩,ans))(hl:ans.length≤100000):cH H Q (ib ans):=by
 intro p H' s hp hpl
 rw[hs] at k
 exact k p H' st rs l tb ts t (hw.mono s) rfl hpl hl ⟨.inl rfl,fun b o e _ _=>s _ _ e,fun r hr=>.inl ⟨r,hr,rfl⟩,.inl rfl,hp⟩
theorem ib_ints(l:List Nat):ib (Vbreal.ints l)=nb l:=by
 unfold ib Vbreal.ints nb
 rw[List.map_map]
 rfl
theorem hJ(a b:List Int):ib (a++b)=ib a++ib b:=List.map_append
theorem bG(q:Rat):tellV q=ib (Vbreal.told (WM.F q)):=by
 unfold tellV Vbreal.told
 show _=V.int _::ib (Vbreal.ints _)
 rw[ib_ints]
 rfl
theorem fb{q:Rat}(h:WM.Bd 12900 q):(Vbreal.told (WM.F q)).length≤26000:=by
 unfold Vbreal.told Vbreal.shownFrac Vbreal.ints
 have l1:=dv h.1
 have l2:=dv (n:=((WM.F q).den:Int)) (k:=12900) (by rw[Int.natAbs_natCast]; exact h.2)
 rw[mV] at l2
 have l1':(Vbreal.shownInt (WM.F q).num).length≤12902:=l1
 simp only[List.length_cons,List.length_map,List.length_append]
 omega
theorem aK{H:Hp}{Q:VK}{n:Int}(k:cH H Q (ib [n])):(1:Nat)≤sizeLine∧∀ p,H p=none→Q (.ref p) (upd H p (.lst [.int n])) :=
 ⟨by rw[aw]; omega,fun p hp=>k p _ (ax.new hp) hp ai⟩
theorem cH.after{H H1:Hp}{Q:VK}{xs:List V}(s:ax H H1)(k:cH H Q xs):cH H1 Q xs:=fun p H' s' hp he=>k p H' (s.trans s') (s.free hp) he
theorem ok_printed(T:Txt K mg Z):a9 P w K mg base CX0 4 Z.jb Z.d_printed ["sea", "numbers", "row"] (dm Z (fun _ _=>True) (fun _ _=>.print)):=by
 refine T.f_printed.fn.ok sc_printed (fun vs H Q E h=>?_) (fun cdv A0 outer s H vs Q E hr h=>?_)
 ·revert h; walk_at "len"
 refine⟨_,(ah (ao (ag T.j8 (rW T) hr (ab (ak (K:=K) rfl (pv 0) rfl) af)))),?_⟩
 obtain⟨sea,na,ra,st,tb,rs,l,ts,t,args,row,rfl,hw,hna,hra,_,k⟩:=h
 refine bB (σ':=[some (.ref sea),some (.ref na),some (.ref ra)]) ?_ rfl
 walk_at "a"
 refine cI hw T ?_
 walk_at "a"
 refine⟨st,rs,l,rfl,hw.we,hw.wo,?_⟩
 have hb:=mq hw.wo l.length l.length
 rw[List.take_length] at hb
 have:=bP (c:=.print) (ans:=Vbreal.ints (Vbreal.weatherText l)) hw k rfl (by unfold Vbreal.ints; rw[List.length_map,weather_eq,List.length_append]; omega)
 rw[ib_ints] at this
 exact this
theorem cM(x y:Int):within (-100000) 100000 [x,y]=Vbreal.isPlace x y:=by
 unfold within Vbreal.isPlace Vbreal.within
 simp only[List.all_cons,List.all_nil,Bool.and_true]
 rw[Bool.decide_and,Bool.decide_and]
theorem cC(t:Int):within 0 100000 [t]=Vbreal.isTime t:=by
 unfold within Vbreal.isTime Vbreal.within
 simp only[List.all_cons,List.all_nil,Bool.and_true]
 rw[Bool.decide_and]
theorem jn{x y:Int}(h:Vbreal.isPlace x y=true):(-100000≤x∧x≤100000)∧(-100000≤y∧y≤100000):=by
 rw[← cM] at h
 unfold within at h
 simp at h
 exact h
theorem kr{t:Int}(h:Vbreal.isTime t=true):0≤t∧t≤100000:=by
 rw[← cC] at h
 unfold within at h
 simp at h
 exact h
def sp_wind_there(Z:Ad):Sp:=fun vs H Q _=>∃ (sea na st tb:Addr) (rs:List Rec) (l:List Stn) (ts:List Addr) (t:List Pnt) (x y tm:Int) (more:List Int),vs=[.ref sea,.ref na]∧Wld Z H sea st rs l tb ts t∧H na=some (.lst (ib (x::y::tm::more)))∧Vbreal.isPlace x y=true∧Vbreal.isTime tm=true ∧
 ∀ v H',ax H H'→OptW Z H' v (WM.bE l x y (tm:Rat))→Q v H'
theorem cR(T:Txt K mg Z):a9 P w K mg base CX0 7 Z.qv Z.qw ["sea", "numbers"] (sp_wind_there Z):=by
 refine T.cK.fn.ok sc_wind_there (fun vs H Q E h=>?_) (fun cdv A0 outer s H vs Q E hr h=>?_)
 ·revert h; walk_at "len"
 refine⟨_,(ah (ao (ag T.f_wind_at (ok_wind_at T) hr (ab (ak (K:=K) rfl (pv 0) rfl) (ab (aI (aB (K:=K) rfl) (pv 1) aj (fun _ _=>rfl)) (ab (aI (aB (K:=K) rfl) (pv 1) aj (fun _ _=>rfl)) (ab (ag T.dO (dg T) hr (ab (aI (aB (K:=K) rfl) (pv 1) aj (fun _ _=>rfl)) af)) af))))))),?_⟩
 obtain⟨sea,na,st,tb,rs,l,ts,t,x,y,tm,more,rfl,hw,hna,hp,ht,k⟩:=h
 refine bB (σ':=[some (.ref sea),some (.ref na)]) ?_ rfl
 have p:=jn hp
 have q:=kr ht
 walk_at "a"
 refine cI hw T ?_
 walk_at "a"
 refine aV (SqL.of hna) (v:=.int x) (aE (j:=0) rfl) ?_
 walk_at "a"
 refine aV (SqL.of hna) (v:=.int y) (aE (j:=1) rfl) ?_
 walk_at "a"
 refine aV (SqL.of hna) (v:=.int tm) (aE (j:=2) rfl) ?_
 walk_at "a"
 refine⟨tm,rfl,fun c H1 s1 hc=>?_⟩
 walk_at "a"
 refine⟨st,c,rs,l,x,y,_,17,rfl,hw.we.mono s1,hw.wo,p.1,p.2,hc,Bd.whole (by show _<131072; omega) (by omega),by omega,fun v H2 s2 hv=>k v H2 (s1.trans s2) hv⟩
theorem at_eq{l:List Stn}{t:List Pnt}{x y tm:Int}(wo:WM.WOk l)(f:Vbreal.Vec→Vbreal.State×Vbreal.Ans):(match Vbreal.windAt l ⟨x,y⟩ (Vbreal.whole tm) with | none=>((⟨l,t⟩:Vbreal.State),[-6]) | some w=>f w)=match WM.bE l x y (tm:Rat) with
  | none=>(⟨l,t⟩,[-6])
  | some w=>f (WM.a8 w):=by
 rw[WM.cq,WM.rj l x y _ fun s hs=>(wo.each s hs).rise]
 cases WM.bE l x y (tm:Rat)<;>rfl
theorem dG{l:List Stn}{x y tm:Int}{w:Rat×Rat}(wo:WM.WOk l)(hp:Vbreal.isPlace x y=true)(ht:Vbreal.isTime tm=true)(h:WM.bE l x y (tm:Rat)=some w) :
  (WM.Bd 357 w.1∧WM.Bd 357 w.2)∧∀ {t:List Pnt} {dx dy:Int} {T:Rat},WM.rk t→dx.natAbs≤200000→dy.natAbs≤200000→WM.bC t w.1 w.2 dx dy=some T→WM.Bd 755 T:=by
 have p:=jn hp
 have q:=kr ht
 exact wind_at_bd (k:=17) wo p.1 p.2 (Bd.whole (by show _<131072; omega) (by omega)) h
theorem ok_tell_wind(T:Txt K mg Z):a9 P w K mg base CX0 8 Z.gf Z.d_tell_wind ["sea", "numbers", "row"] (dm Z (fun a _=>∃ x y t,a=[x,y,t]) (fun a _=>match a with | [x,y,t]=>.wind x y t | _=>.print)):=by
 refine T.md.fn.ok qK (fun vs H Q E h=>?_) (fun cdv A0 outer s H vs Q E hr h=>?_)
 ·revert h; walk_at "len"
 refine⟨_,(ae (aP (PW.pt (dJ (bR (br (ag T.cJ (cQ T) hr (ab (bg (bj (K:=K) rfl) (pv 1) cD (bc aj)) af)))) (dw (bR (br (ag T.b7 (b5 T) hr (ab (bg (bj (K:=K) rfl) (pv 1) (bc aj) cD) af))))))) (ah (ao (aJ (ab (bM T.bf) af)))) aA) (ae (az (i:=3) qK.nd rfl (Or.inl rfl) (ag T.cK (cR T) hr (ab (pv 0) (ab (pv 1) af)))) (ae (aP (cN (cV (pv 3))) (ah (ao (aJ (ab (bM T.gd) af)))) aA) (ah (ao (aF jf (ag T.cz (cx T) hr (ab (ak (K:=K) rfl (pv 3) rfl) af)) (ag T.cz (cx T) hr (ab (ak (K:=K) rfl (pv 3) rfl) af)))))))),?_⟩
 obtain⟨sea,na,ra,st,tb,rs,l,ts,t,args,row,rfl,hw,hna,hra,⟨x,y,tm,rfl⟩,k⟩:=h
 have k:=fun ans hs hl=>bP (c:=.wind x y tm) (ans:=ans) hw k hs hl
 refine bB (σ':=[some (.ref sea),some (.ref na),some (.ref ra),none]) ?_ rfl
 have bad:∀ H1,ax H H1→(Vbreal.isPlace x y&&Vbreal.isTime tm)=false→cH H1 Q (ib [-10]):=fun H1 s1 hb=>cH.after s1 (k [-10] (by
  show Vbreal.asked _ [(Vbreal.isPlace x y&&Vbreal.isTime tm,-10)] _=_
  rw[hb]; rfl) (by simp))
 walk_at "a"
 refine d8 (SqL.of hna) fun a1 h1=>?_
 have e1:fN (ib [x,y,tm]) none (some 2)=ib [x,y]:=rfl
 rw[e1]
 walk_at "a"
 refine⟨a1,[x,y],rfl,ai,?_⟩
 have s1:ax H (upd H a1 (.lst (ib [x,y]))):=ax.new h1
 generalize upd H a1 (.lst (ib [x,y]))=H1 at *
 rw[cM]
 walk_at "a"
 cases hp:Vbreal.isPlace x y with
 | false =>
  refine aD ?_
  walk_at "a"
  exact aK (bad H1 s1 (by rw[hp]; rfl))
 | true =>
  refine aG ?_
  walk_at "a"
  refine d8 (SqL.of (s1 _ _ hna)) fun a2 h2=>?_
  have e2:fN (ib [x,y,tm]) (some 2) none=ib [tm]:=rfl
  rw[e2]
  walk_at "a"
  refine⟨a2,[tm],rfl,ai,?_⟩
  have s2:ax H1 (upd H1 a2 (.lst (ib [tm]))):=ax.new h2
  generalize upd H1 a2 (.lst (ib [tm]))=H2 at *
  rw[cC]
  walk_at "a"
  have s02:=s1.trans s2
  cases ht:Vbreal.isTime tm with
  | false =>
   refine aD ?_
   walk_at "a"
   exact aK (bad H2 s02 (by rw[hp,ht]; rfl))
  | true =>
   refine aG ?_
   have hstep:Vbreal.step ⟨l,t⟩ (.wind x y tm)=match WM.bE l x y (tm:Rat) with
     | none=>(⟨l,t⟩,[-6])
     | some w=>(⟨l,t⟩,Vbreal.told (WM.a8 w).e++Vbreal.told (WM.a8 w).n):=by
    show Vbreal.asked _ [(Vbreal.isPlace x y&&Vbreal.isTime tm,-10)] _=_
    rw[hp,ht]
    exact at_eq (t:=t) hw.wo fun w=>(⟨l,t⟩,Vbreal.told w.e++Vbreal.told w.n)
   walk_at "a"
   refine⟨sea,na,st,tb,rs,l,ts,t,x,y,tm,[],rfl,hw.mono s02,s02 _ _ hna,hp,ht,fun v H3 s3 hv=>?_⟩
   have s03:=s02.trans s3
   walk_at "a"
   cases hwq:WM.bE l x y (tm:Rat) with
   | none =>
    rw[hwq] at hv hstep
    have hv:v = .non:=hv
    rw[decide_eq_true hv]
    refine aD ?_
    walk_at "a"
    exact aK (cH.after s03 (k [-6] hstep (by simp)))
   | some w =>
    rw[hwq] at hv hstep
    obtain⟨wa,rfl,hwa⟩:=hv
    have bw:=(dG hw.wo hp ht hwq).1
    have b1:=Bd.up bw.1 (show 357≤12900 by decide)
    have b2:=Bd.up bw.2 (show 357≤12900 by decide)
    have t1:=fb b1
    have t2:=fb b2
    have k:=k _ hstep (by rw[List.length_append]; show(Vbreal.told (WM.F w.1)).length+(Vbreal.told (WM.F w.2)).length≤_; omega)
    rw[hJ] at k
    have k:cH H Q (ib (Vbreal.told (WM.F w.1))++ib (Vbreal.told (WM.F w.2))):=k
    rw[← bG,← bG] at k
    rw[decide_eq_false (by intro g; cases g)]
    refine aG ?_
    walk_at "a"
    refine dN hwa T fun xe hxe=>?_
    walk_at "a"
    refine⟨xe,w.1,rfl,hxe,b1,fun p1 H4 s4 hp1 hpe1=>?_⟩
    walk_at "a"
    refine cY (hwa.mono s4) T fun xn hxn=>?_
    walk_at "a"
    refine⟨xn,w.2,rfl,hxn,b2,fun p2 H5 s5 hp2 hpe2=>?_⟩
    refine rf (s5 _ _ hpe1) hpe2 ?_ fun p hp3=>?_
    ·rw[bG,bG,aW,aW,aw]; omega
    ·exact k p _ (((s03.trans s4).trans s5).trans (ax.new hp3)) (((s03.trans s4).trans s5).free hp3) ai
theorem iW{s:List Sn}{m:Rat}(h:WM.cP s):(Vbreal.windOf s (WM.F m)).isSome=(WM.bL s m).isSome:=by
 rw[← WM.windS_F s m h]
 cases WM.bL s m<;>rfl
theorem spk_eq(m:Rat):∀ (l:List Stn) (i:Nat),(∀ s∈l,WM.cP s.seen) →
  (((List.range' i l.length).zip l).filter fun p=>(Vbreal.windOf p.2.seen (WM.F m)).isSome).map (fun p=>p.1+1)=eN m i l
 | [],i,_=>rfl
 | s::r,i,h=>by
  rw[List.length_cons,List.range'_succ,List.zip_cons_cons,List.filter_cons,eN]
  have ih:=spk_eq m r (i+1) fun z hz=>h z (List.mem_cons_of_mem _ hz)
  rw[iW (h s List.mem_cons_self)]
  by_cases hw:(WM.bL s.seen m).isSome=true
  ·rw[if_pos hw,if_pos hw,List.map_cons,ih]
  ·rw[if_neg hw,if_neg hw,ih]
theorem ok_speak(T:Txt K mg Z):a9 P w K mg base CX0 7 Z.rJ Z.d_speak ["sea", "numbers", "row"] (dm Z (fun a _=>∃ t,a=[t]) (fun a _=>match a with | [t]=>.speak t | _=>.print)):=by
 refine T.f_speak.fn.ok sc_speak (fun vs H Q E h=>?_) (fun cdv A0 outer s H vs Q E hr h=>?_)
 ·revert h; walk_at "len"
 refine⟨_,(ae (aP (bR (br (ag T.b7 (b5 T) hr (ab (pv 1) af)))) (ah (ao (aJ (ab (bM T.bf) af)))) aA) (ae (az (i:=3) sc_speak.nd rfl (Or.inl rfl) (ag T.o8 (ok_speaking T) hr (ab (ak (K:=K) rfl (pv 0) rfl) (ab (ag T.dO (dg T) hr (ab (aI (aB (K:=K) rfl) (pv 1) aj (fun _ _=>rfl)) af)) af)))) (ah (ao (aF jf (aJ (ab (aT (aS (K:=K) rfl) rfl T.dE PySem.boot_len (ab (pv 3) af)) af)) (pv 3)))))),?_⟩
 obtain⟨sea,na,ra,st,tb,rs,l,ts,t,args,row,rfl,hw,hna,hra,⟨tm,rfl⟩,k⟩:=h
 have k:=fun ans hs hl=>bP (c:=.speak tm) (ans:=ans) hw k hs hl
 refine bB (σ':=[some (.ref sea),some (.ref na),some (.ref ra),none]) ?_ rfl
 walk_at "a"
 refine⟨na,[tm],rfl,hna,?_⟩
 rw[cC]
 walk_at "a"
 cases ht:Vbreal.isTime tm with
 | false =>
  refine aD ?_
  walk_at "a"
  exact aK (k [-10] (by
   show Vbreal.asked _ [(Vbreal.isTime tm,-10)] _=_
   rw[ht]; rfl) (by simp))
 | true =>
  have q:=kr ht
  have hL:(eN (tm:Rat) 0 l).length≤6:=Nat.le_trans (jA _ _ _) hw.wo.len
  have hstep:Vbreal.step ⟨l,t⟩ (.speak tm)=(⟨l,t⟩,Vbreal.ints ((eN (tm:Rat) 0 l).length::eN (tm:Rat) 0 l)):=by
   show Vbreal.asked _ [(Vbreal.isTime tm,-10)] _=_
   rw[ht]
   have e:=spk_eq (tm:Rat) l 0 fun s hs=>(hw.wo.each s hs).rise
   have e2:(((List.range' 0 l.length).zip l).filter fun p=>(Vbreal.windOf p.2.seen (WM.F (tm:Rat))).isSome).length=(eN (tm:Rat) 0 l).length:=by rw[← e,List.length_map]
   show(_,Vbreal.ints ((((List.range l.length).zip l).filter fun p=>(Vbreal.windOf p.2.seen (Vbreal.whole tm)).isSome).length::(((List.range l.length).zip l).filter fun p=>(Vbreal.windOf p.2.seen (Vbreal.whole tm)).isSome).map fun p=>p.1+1))=_
   rw[WM.cq,List.range_eq_range',e,e2]
  have k:=k _ hstep (by unfold Vbreal.ints; rw[List.length_map,List.length_cons]; omega)
  rw[ib_ints] at k
  refine aG ?_
  walk_at "a"
  refine cI hw T ?_
  walk_at "a"
  refine aV (SqL.of hna) (v:=.int tm) (aE (j:=0) rfl) ?_
  walk_at "a"
  refine⟨tm,rfl,fun c H1 s1 hc=>?_⟩
  walk_at "a"
  refine⟨st,c,rs,l,_,17,rfl,hw.we.mono s1,hw.wo,hc,Bd.whole (by show _<131072; omega) (by omega),by omega,fun p1 H2 s2 hp1 hpe=>?_⟩
  walk_at "a"
  refine bV (SqL.of hpe) ?_
  walk_at "a"
  refine⟨by show 1≤sizeLine; rw[aw]; omega,fun p2 hp2=>?_⟩
  have s3:ax H2 (upd H2 p2 (.lst [.int (nb (eN (tm:Rat) 0 l)).length])):=ax.new hp2
  have nl:(nb (eN (tm:Rat) 0 l)).length=(eN (tm:Rat) 0 l).length:=List.length_map ..
  rw[nl] at s3 ⊢
  walk_at "a"
  refine rf ai (s3 _ _ hpe) ?_ fun p hp3=>?_
  ·rw[nl,aw]; show 1+_≤_; omega
  ·exact k p _ (((s1.trans s2).trans s3).trans (ax.new hp3)) (((s1.trans s2).trans s3).free hp3) ai
def hU(row:List Int):Bool:=decide (row.length % 2=0∧2≤row.length∧row.length≤24)&&within (-3000) 3000 row
theorem g6(m:Int):∀ (row:List Int),row.length % 2=0→Vbreal.pairsOf m row=if within (-m) m row=true then some (bz row) else none
 | [],_=>rfl
 | [x],h=>by simp at h
 | x::y::r,h=>by
  have ih:=g6 m r (by simp at h; omega)
  unfold Vbreal.pairsOf
  rw[ih]
  unfold within at *
  simp only[List.all_cons]
  have e:(Vbreal.within (-m) x m&&Vbreal.within (-m) y m)=(decide (-m≤x∧x≤m)&&decide (-m≤y∧y≤m)):=by
   unfold Vbreal.within
   rw[Bool.decide_and,Bool.decide_and]
  rw[e]
  by_cases h1:-m≤x∧x≤m<;>by_cases h2:-m≤y∧y≤m<;>by_cases h3:(r.all fun z=>decide (-m≤z∧z≤m))=true<;>simp[h1,h2,h3,bz,-List.all_eq_true]<;>split<;>rfl
theorem mw(m:Int):∀ (row:List Int),row.length % 2≠0→Vbreal.pairsOf m row=none
 | [],h=>by simp at h
 | [x],_=>rfl
 | x::y::r,h=>by
  unfold Vbreal.pairsOf
  rw[mw m r (by simp at h; omega)]
  rfl
theorem pairs_tab{α:Type}(row:List Int)(a:α)(f:List Pnt→α):(match Vbreal.pairsOf 3000 row with
  | none=>a
  | some t=>if t.length<1∨12<t.length then a else f t)=if hU row=true then f (bz row) else a:=by
 unfold hU
 by_cases hodd:row.length % 2=0
 ·rw[g6 3000 row hodd]
  cases within (-3000) 3000 row with
  | false=>rw[if_neg (by simp),Bool.and_false,if_neg (by simp)]
  | true =>
   rw[if_pos rfl,Bool.and_true]
   have hl:=gb row
   show(if (bz row).length<1∨12<(bz row).length then a else f (bz row))=_
   by_cases h:2≤row.length∧row.length≤24
   ·rw[if_neg (by omega),if_pos (decide_eq_true (by omega))]
   ·rw[if_pos (by omega),if_neg (by rw[decide_eq_true_iff]; omega)]
 ·rw[mw 3000 row hodd,decide_eq_false (by omega),Bool.false_and,if_neg (by simp)]
theorem pairs_ok:∀ {m:Int} {row:List Int},within (-m) m row=true→∀ v∈bz row,(-m≤v.x∧v.x≤m)∧(-m≤v.y∧v.y≤m)
 | m,[],_,v,h=>by simp[bz] at h
 | m,[x],_,v,h=>by simp[bz] at h
 | m,x::y::r,hw,v,h=>by
  unfold within at hw
  rw[List.all_cons,List.all_cons,Bool.and_eq_true,Bool.and_eq_true,decide_eq_true_iff,decide_eq_true_iff] at hw
  rw[bz,List.mem_cons] at h
  rcases h with rfl | h
  ·exact⟨hw.1,hw.2.1⟩
  ·exact pairs_ok hw.2.2 v h
theorem tab_ok{row:List Int}(h:hU row=true):WM.rk (bz row)∧∃ n,row.length=2*n∧n≤12∧(bz row).length=n:=by
 unfold hU at h
 rw[Bool.and_eq_true,decide_eq_true_iff] at h
 have hl:=gb row
 exact⟨⟨by omega,pairs_ok h.2⟩,row.length / 2,by omega,by omega,hl⟩
def sp_is_table:Sp:=fun vs H Q _=>∃ (a:Addr) (row:List Int),vs=[.ref a]∧H a=some (.lst (ib row))∧Q (.bl (hU row)) H
theorem ok_is_table(T:Txt K mg Z):a9 P w K mg base CX0 2 Z.a_is_table Z.d_is_table ["row"] (sp_is_table):=by
 refine T.o9.fn.ok sc_is_table (fun vs H Q E h=>?_) (fun cdv A0 outer s H vs Q E hr h=>?_)
 ·revert h; walk_at "len"
 refine⟨_,(ae (aP (PW.pt (dJ (aH qZ (aF op_mod (aT (aS (K:=K) rfl) rfl T.dE PySem.boot_len (ab (pv 0) af)) aj) aj (aM _)) (dJ (aH iA (aT (aS (K:=K) rfl) rfl T.dE PySem.boot_len (ab (pv 0) af)) aj (aM _)) (dw (aH i7 (aT (aS (K:=K) rfl) rfl T.dE PySem.boot_len (ab (pv 0) af)) (aF aN aj (bM T.pG)) (aM _)))))) (ah (ao fc)) aA) (ah (ao (ag T.cA (cy T) hr (ab (pv 0) (ab (oJ iO (bM T.c_FAST)) (ab (bM T.c_FAST) af))))))),?_⟩
 obtain⟨a,row,rfl,ha,k⟩:=h
 refine bB (σ':=[some (.ref a)]) ?_ rfl
 have bad:¬ (row.length % 2=0∧2≤row.length∧row.length≤24)→Q (.bl false) H:=fun g=>by
  unfold hU at k
  rw[decide_eq_false g,Bool.false_and] at k
  exact k
 walk_at "a"
 refine bV (SqL.of ha) ?_
 walk_at "a"
 refine cn (by decide) ?_
 walk_at "a"
 rw[aW]
 refine cG (fun h1=>?_) (fun h1=>?_)
 ·refine aD ?_
  walk_at "a"
  exact bad (by omega)
 ·walk_at "a"
  refine bV (SqL.of ha) ?_
  walk_at "a"
  rw[aW]
  refine w_ite (fun h2=>?_) (fun h2=>?_)
  ·refine aD ?_
   walk_at "a"
   exact bad (by omega)
  ·walk_at "a"
   refine bV (SqL.of ha) ?_
   walk_at "a"
   refine cn (bI (j:=2) (k:=4) (by decide) (by decide) (by decide)) ?_
   walk_at "a"
   rw[aW]
   refine w_ite (fun h3=>?_) (fun h3=>?_)
   ·walk_at "a"
    exact bad (by omega)
   ·walk_at "a"
    refine⟨a,row,-3000,3000,rfl,.inl ha,?_⟩
    unfold hU at k
    rw[decide_eq_true (by omega),Bool.true_and] at k
    exact k
theorem seaF_len(a b:V):(pB a b).length=2:=rfl
theorem stF_len(a b c d:V):(stF a b c d).length=4:=rfl
theorem siF_len(z:Sn):(siF z).length=3:=rfl
theorem c9.sea{Z:Ad}{H:Hp}{sea C dx p:Addr}{a b:V}{z:Sn}{o:HO}(hs:H sea=some (.ins C dx (pB a b)))(h:c9 Z H p z):c9 Z (upd H sea o) p z:=by
 obtain⟨d2,h⟩:=h
 refine⟨d2,?_⟩
 rw[ay ?_]; exact h
 rintro rfl
 rw[hs] at h
 injection h with h
 injection h with _ _ h
 exact absurd (congrArg List.length h) (by rw[seaF_len,siF_len]; decide)
theorem eH.sea{Z:Ad}{H:Hp}{sea C dx:Addr}{a b:V}{r:Rec}{s:Stn}{o:HO}(hs:H sea=some (.ins C dx (pB a b)))(h:eH Z H r s):eH Z (upd H sea o) r s:=by
 obtain⟨d2,ho⟩:=h.ob
 refine⟨⟨d2,?_⟩,?_,?_,⟨h.si.1,fun i c z hc hz=>(h.si.2 i c z hc hz).sea hs⟩,h.ne⟩
 ·rw[ay ?_]; exact ho
  intro e
  rw[e,hs] at ho
  injection ho with ho
  injection ho with _ _ ho
  exact absurd (congrArg List.length ho) (by rw[seaF_len,stF_len]; decide)
 ·rw[ay ?_]; exact h.nm
  intro e
  have g:=h.nm
  rw[e,hs] at g
  cases g
 ·rw[ay ?_]; exact h.sl
  intro e
  have g:=h.sl
  rw[e,hs] at g
  cases g
theorem kj.sea{Z:Ad}{H:Hp}{sea C dx st:Addr}{a b:V}{rs:List Rec}{l:List Stn}{o:HO}(hs:H sea=some (.ins C dx (pB a b)))(h:kj Z H st rs l):kj Z (upd H sea o) st rs l:=by
 refine⟨?_,h.len,fun i r s hr hz=>(h.at_ i r s hr hz).sea hs⟩
 rw[ay ?_]; exact h.lst
 rintro rfl
 have g:=h.lst
 rw[hs] at g
 cases g
theorem TabAt.sea{H:Hp}{sea C dx tb:Addr}{a b:V}{ts:List Addr}{t:List Pnt}{o:HO}(hs:H sea=some (.ins C dx (pB a b)))(h:TabAt H tb ts t):TabAt (upd H sea o) tb ts t:=by
 refine⟨?_,h.len,fun i c z hc hz=>?_⟩
 ·rw[ay ?_]; exact h.lst
  rintro rfl
  have g:=h.lst
  rw[hs] at g
  cases g
 ·have g:=h.at_ i c z hc hz
  unfold iz at *
  rw[ay ?_]; exact g
  rintro rfl
  rw[hs] at g
  cases g
theorem kj.rec_of{Z:Ad}{H:Hp}{st:Addr}{rs:List Rec}{l:List Stn}(h:kj Z H st rs l){r:Rec}(hr:r∈rs):∃ s∈l,eH Z H r s:=by
 obtain⟨i,hi⟩:=List.mem_iff_getElem?.mp hr
 have hlt:i<rs.length:=(List.getElem?_eq_some_iff.mp hi).1
 have hl:i<l.length:=by rw[← h.len]; exact hlt
 exact⟨l[i],List.getElem_mem hl,h.at_ i r _ hi (List.getElem?_eq_getElem hl)⟩
theorem ok_lay_table(T:Txt K mg Z):a9 P w K mg base CX0 3 Z.gg Z.d_lay_table ["sea", "numbers", "row"] (dm Z (fun _ _=>True) (fun _ r=>.table r)):=by
 refine T.me.fn.ok sc_lay_table (fun vs H Q E h=>?_) (fun cdv A0 outer s H vs Q E hr h=>?_)
 ·revert h; walk_at "len"
 refine⟨_,(ae (aP (bR (br (ag T.o9 (ok_is_table T) hr (ab (pv 2) af)))) (ah (ao (aJ (ab (bM T.jw) af)))) aA) (ae (cB (K:=K) rfl (pv 0) (ag T.kc (mr T) hr (ab (pv 2) af)) rfl) (ah (ao (aJ (ab (aT (aS (K:=K) rfl) rfl T.dE PySem.boot_len (ab (ak (K:=K) rfl (pv 0) rfl) af)) af)))))),?_⟩
 obtain⟨sea,na,ra,st,tb,rs,l,ts,t,args,row,rfl,hw,hna,hra,_,k⟩:=h
 refine bB (σ':=[some (.ref sea),some (.ref na),some (.ref ra)]) ?_ rfl
 have hstep:Vbreal.step ⟨l,t⟩ (.table row)=if hU row=true then((⟨l,bz row⟩:Vbreal.State),[Int.ofNat (bz row).length]) else(⟨l,t⟩,[-9]) :=
  pairs_tab row ((⟨l,t⟩:Vbreal.State),([-9]:Vbreal.Ans)) fun b=>(⟨l,b⟩,[Int.ofNat b.length])
 walk_at "a"
 refine⟨ra,row,rfl,hra,?_⟩
 walk_at "a"
 cases hr:hU row with
 | false =>
  rw[hr] at hstep
  refine aD ?_
  walk_at "a"
  exact aK (bP (c:=.table row) (ans:=[-9]) hw k hstep (by simp))
 | true =>
  rw[hr,if_pos rfl] at hstep
  obtain⟨tok,n,hn,hn12,hpl⟩:=tab_ok hr
  refine aG ?_
  walk_at "a"
  refine⟨ra,row,n,rfl,hra,hn,by omega,fun p H1 ts1 s1 hp1 htab=>?_⟩
  walk_at "a"
  have hw1:=hw.mono s1
  obtain⟨dx,hse⟩:=hw1.sea
  refine dh hse T.rn.cl T.js (by show 2<1000; decide) ?_
  have eF:eD "table" (.ref p) (pB (.ref st) (.ref tb))=pB (.ref st) (.ref p):=rfl
  rw[eF]
  have hw2:Wld Z (upd H1 sea (.ins Z.CSea dx (pB (.ref st) (.ref p)))) sea st rs l p ts1 (bz row):=⟨⟨dx,ai⟩,hw1.we.sea hse,hw.sep,hw.wo,htab.sea hse,tok,fun r hr e=>by
   obtain⟨s,_,hs⟩:=hw.we.rec_of hr
   have:=hs.sl
   rw[e,hp1] at this
   cases this⟩
  have fr:∀ b o,H b=some o→b≠sea→upd H1 sea (.ins Z.CSea dx (pB (.ref st) (.ref p))) b=some o:=fun b o e hb=>by
   rw[ay hb]; exact s1 _ _ e
  generalize hH2:upd H1 sea (.ins Z.CSea dx (pB (.ref st) (.ref p)))=H2 at *
  walk_at "a"
  refine ij hw2 T ?_
  walk_at "a"
  refine bV (SqL.of hw2.tab.lst) ?_
  walk_at "a"
  refine⟨by show 1≤sizeLine; rw[aw]; omega,fun p2 hp2=>?_⟩
  rw[List.length_map,hw2.tab.len]
  have hp2':H p2=none:=by
   cases e:H p2 with
   | none=>rfl
   | some o =>
    by_cases hb:p2=sea
    ·obtain⟨d3,h3⟩:=hw2.sea
     rw[hb,h3] at hp2
     cases hp2
    ·rw[fr p2 o e hb] at hp2
     cases hp2
  have k:=k p2 (upd H2 p2 (.lst [.int ((bz row).length:Int)])) st rs l p ts1 (bz row) (hw2.mono (ax.new hp2)) (by rw[hstep]) (by rw[hstep,ai]; rfl) (by rw[hstep]; simp)
   ⟨.inl rfl,fun b o e hb _=>ax.new hp2 _ _ (fr b o e hb),fun r hr=>.inl ⟨r,hr,rfl⟩,.inr hp1,hp2'⟩
  exact k
theorem cut_mid{xs:List V}{i j:Nat}(h:i≤j)(hj:j≤xs.length):fN xs (some (i:Int)) (some (j:Int))=(xs.drop i).take (j-i):=by
 unfold fN
 rw[HT.sIx_nat,HT.sIx_nat,Nat.min_eq_left hj,Nat.min_eq_left (by omega)]
def kG(x y t dx dy:Int):Bool:=Vbreal.isPlace x y&&(Vbreal.isTime t&&Vbreal.isPlace dx dy)
def oG:Sp:=fun vs H Q _=>∃ (a:Addr) (x y t dx dy:Int) (more:List Int),vs=[.ref a]∧H a=some (.lst (ib (x::y::t::dx::dy::more)))∧∀ H',ax H H'→Q (.bl (kG x y t dx dy)) H'
theorem eX(T:Txt K mg Z):a9 P w K mg base CX0 3 Z.iw Z.iy ["numbers"] (oG):=by
 refine T.d9.fn.ok oF (fun vs H Q E h=>?_) (fun cdv A0 outer s H vs Q E hr h=>?_)
 ·revert h; walk_at "len"
 refine⟨_,(ah (ao (pe_and (ag T.cJ (cQ T) hr (ab (bg (bj (K:=K) rfl) (pv 0) cD (bc aj)) af)) (pe_and (ag T.b7 (b5 T) hr (ab (bg (bj (K:=K) rfl) (pv 0) (bc aj) (bc aj)) af)) (qR (ag T.cJ (cQ T) hr (ab (bg (bj (K:=K) rfl) (pv 0) (bc aj) (bc aj)) af))))))),?_⟩
 obtain⟨a,x,y,t,dx,dy,more,rfl,ha,k⟩:=h
 refine bB (σ':=[some (.ref a)]) ?_ rfl
 unfold kG at k
 walk_at "a"
 refine d8 (SqL.of ha) fun a1 h1=>?_
 have e1:fN (ib (x::y::t::dx::dy::more)) none (some 2)=ib [x,y]:=cut_to (n:=2) (by show 2≤_+5; omega)
 rw[e1]
 walk_at "a"
 refine⟨a1,[x,y],rfl,ai,?_⟩
 have s1:ax H (upd H a1 (.lst (ib [x,y]))):=ax.new h1
 generalize upd H a1 (.lst (ib [x,y]))=H1 at *
 rw[cM]
 walk_at "a"
 cases hp:Vbreal.isPlace x y with
 | false =>
  refine aG ?_
  rw[hp] at k
  exact k H1 s1
 | true =>
  refine aD ?_
  rw[hp] at k
  walk_at "a"
  refine d8 (SqL.of (s1 _ _ ha)) fun a2 h2=>?_
  rw[show fN (ib (x::y::t::dx::dy::more)) (some 2) (some 3)=ib [t] from cut_mid (i:=2) (j:=3) (by omega) (by show 3≤_+5; omega)]
  walk_at "a"
  refine⟨a2,[t],rfl,ai,?_⟩
  have s2:ax H1 (upd H1 a2 (.lst (ib [t]))):=ax.new h2
  generalize upd H1 a2 (.lst (ib [t]))=H2 at *
  rw[cC]
  walk_at "a"
  cases ht:Vbreal.isTime t with
  | false =>
   refine aG ?_
   rw[ht] at k
   exact k H2 (s1.trans s2)
  | true =>
   refine aD ?_
   rw[ht] at k
   walk_at "a"
   refine d8 (SqL.of (s2 _ _ (s1 _ _ ha))) fun a3 h3=>?_
   rw[show fN (ib (x::y::t::dx::dy::more)) (some 3) (some 5)=ib [dx,dy] from cut_mid (i:=3) (j:=5) (by omega) (by show 5≤_+5; omega)]
   walk_at "a"
   refine⟨a3,[dx,dy],rfl,ai,?_⟩
   rw[cM]
   exact k _ ((s1.trans s2).trans (ax.new h3))
theorem way_nonneg{l:List Stn}{x y tm:Int}{w:Rat×Rat}{t:List Pnt}{dx dy:Int}{q:Rat}(wo:WM.WOk l)(hp:Vbreal.isPlace x y=true)(ht:Vbreal.isTime tm=true)(h:WM.bE l x y (tm:Rat)=some w)
 (tok:WM.rk t)(hdx:dx.natAbs≤200000)(hdy:dy.natAbs≤200000)(hT:WM.bC t w.1 w.2 dx dy=some q):0≤q:=by
 have p:=jn hp
 obtain⟨D,hD,_,hr⟩:=WM.windQ_rep wo p.1 p.2 h
 exact(WM.wayTime_rep tok hD (show WM.WRep D (w.1,w.2) from hr) hdx hdy hT).1
theorem way_of{x y t dx dy:Int}(h:kG x y t dx dy=true):Vbreal.isPlace x y=true∧Vbreal.isTime t=true∧Vbreal.isPlace dx dy=true:=by
 unfold kG at h
 rw[Bool.and_eq_true,Bool.and_eq_true] at h
 exact h
theorem far_of{x y:Int}(h:Vbreal.isPlace x y=true):x.natAbs≤200000∧y.natAbs≤200000:=by
 have:=jn h
 omega
theorem ok_tell_time(T:Txt K mg Z):a9 P w K mg base CX0 8 Z.gh Z.d_tell_time ["sea", "numbers", "row"] (dm Z (fun a _=>∃ x y t dx dy,a=[x,y,t,dx,dy]) (fun a _=>match a with | [x,y,t,dx,dy]=>.time x y t dx dy | _=>.print)):=by
 refine T.mf.fn.ok jy (fun vs H Q E h=>?_) (fun cdv A0 outer s H vs Q E hr h=>?_)
 ·revert h; walk_at "len"
 refine⟨_,(ae (aP (bR (br (ag T.d9 (eX T) hr (ab (pv 1) af)))) (ah (ao (aJ (ab (bM T.bf) af)))) aA) (ae (az (i:=3) jy.nd rfl (Or.inl rfl) (ag T.cK (cR T) hr (ab (pv 0) (ab (pv 1) af)))) (ae (aP (cN (cV (pv 3))) (ah (ao (aJ (ab (bM T.gd) af)))) aA) (ae (az (i:=4) jy.nd rfl (Or.inl rfl) (ag T.f7 (gq T) hr (ab (ak (K:=K) rfl (pv 0) rfl) (ab (pv 3) (ab (aI (aB (K:=K) rfl) (pv 1) aj (fun _ _=>rfl)) (ab (aI (aB (K:=K) rfl) (pv 1) aj (fun _ _=>rfl)) af)))))) (ae (aP (cN (cV (pv 4))) (ah (ao (aJ (ab (bM T.c_NEVER) af)))) aA) (ah (ao (ag T.cz (cx T) hr (ab (pv 4) af))))))))),?_⟩
 obtain⟨sea,na,ra,st,tb,rs,l,ts,t,args,row,rfl,hw,hna,hra,⟨x,y,tm,dx,dy,rfl⟩,k⟩:=h
 have k:=fun ans hs hl=>bP (c:=.time x y tm dx dy) (ans:=ans) hw k hs hl
 refine bB (σ':=[some (.ref sea),some (.ref na),some (.ref ra),none,none]) ?_ rfl
 walk_at "a"
 refine⟨na,x,y,tm,dx,dy,[],rfl,hna,fun H1 s1=>?_⟩
 walk_at "a"
 cases hr:kG x y tm dx dy with
 | false =>
  refine aD ?_
  walk_at "a"
  exact aK (cH.after s1 (k [-10] (by
   show Vbreal.asked _ [(kG x y tm dx dy,-10)] _=_
   rw[hr]; rfl) (by simp)))
 | true =>
  obtain⟨hp,ht,hd⟩:=way_of hr
  have fd:=far_of hd
  have hstep:Vbreal.step ⟨l,t⟩ (.time x y tm dx dy)=match WM.bE l x y (tm:Rat) with
    | none=>(⟨l,t⟩,[-6])
    | some w=>match Vbreal.timeIn t (WM.a8 w) ⟨dx,dy⟩ with
     | none=>(⟨l,t⟩,[-7])
     | some f=>(⟨l,t⟩,Vbreal.told f):=by
   show Vbreal.asked _ [(kG x y tm dx dy,-10)] _=_
   rw[hr]
   exact at_eq (t:=t) hw.wo fun w=>match Vbreal.timeIn t w ⟨dx,dy⟩ with
     | none=>(⟨l,t⟩,[-7])
     | some f=>(⟨l,t⟩,Vbreal.told f)
  refine aG ?_
  walk_at "a"
  refine⟨sea,na,st,tb,rs,l,ts,t,x,y,tm,[dx,dy],rfl,hw.mono s1,s1 _ _ hna,hp,ht,fun v H2 s2 hv=>?_⟩
  have s02:=s1.trans s2
  walk_at "a"
  cases hwq:WM.bE l x y (tm:Rat) with
  | none =>
   rw[hwq] at hv hstep
   have hv:v = .non:=hv
   rw[decide_eq_true hv]
   refine aD ?_
   walk_at "a"
   exact aK (cH.after s02 (k [-6] hstep (by simp)))
  | some w =>
   rw[hwq] at hv hstep
   obtain⟨wa,rfl,hwa⟩:=hv
   have bw:=dG hw.wo hp ht hwq
   have hstep:Vbreal.step ⟨l,t⟩ (.time x y tm dx dy)=match Vbreal.timeIn t (WM.a8 w) ⟨dx,dy⟩ with
     | none=>(⟨l,t⟩,[-7])
     | some f=>(⟨l,t⟩,Vbreal.told f):=hstep
   rw[show Vbreal.timeIn t (WM.a8 w) ⟨dx,dy⟩=_ from WM.mC t w.1 w.2 ⟨dx,dy⟩] at hstep
   rw[decide_eq_false (by intro g; cases g)]
   refine aG ?_
   walk_at "a"
   refine ij (hw.mono s02) T ?_
   walk_at "a"
   refine aV (SqL.of (s02 _ _ hna)) (v:=.int dx) (aE (j:=3) rfl) ?_
   walk_at "a"
   refine aV (SqL.of (s02 _ _ hna)) (v:=.int dy) (aE (j:=4) rfl) ?_
   walk_at "a"
   refine⟨tb,wa,ts,t,w,dx,dy,357,rfl,hw.tab.mono s02,hw.tok,hwa,bw.1.1,bw.1.2,by omega,fd.1,fd.2,fun r H3 s3 hr3=>?_⟩
   have s03:=s02.trans s3
   walk_at "a"
   have hstep:Vbreal.step ⟨l,t⟩ (.time x y tm dx dy)=match (WM.bC t w.1 w.2 dx dy).map WM.F with
     | none=>(⟨l,t⟩,[-7])
     | some f=>(⟨l,t⟩,Vbreal.told f):=hstep
   cases hq:WM.bC t w.1 w.2 dx dy with
   | none =>
    rw[hq] at hr3 hstep
    have hv:r = .non:=hr3
    rw[decide_eq_true hv]
    refine aD ?_
    walk_at "a"
    exact aK (cH.after s03 (k [-7] hstep (by simp)))
   | some q =>
    rw[hq] at hr3 hstep
    obtain⟨qa,rfl,hqa⟩:=hr3
    have bq:WM.Bd 12900 q:=Bd.up (bw.2 hw.tok fd.1 fd.2 hq) (by decide)
    rw[decide_eq_false (by intro g; cases g)]
    refine aG ?_
    walk_at "a"
    have tl:=fb bq
    have k:=k _ hstep (by omega)
    rw[← bG] at k
    exact⟨qa,q,rfl,hqa,bq,cH.after s03 k⟩
theorem ceil_eq{a A B:Int}{b:Int}(hb:0<b)(hB:0<B)(h:A*b=a*B):-((-a) / b)=(A+B-1) / B:=by
 have h1:b*((-a) / b)≤-a:=Int.mul_ediv_self_le (by omega)
 have h2:-a<b*((-a) / b)+b:=Int.lt_mul_ediv_self_add hb
 generalize (-a) / b=c at *
 have e1:A≤B*(-c):=by
  refine Int.le_of_mul_le_mul_right (a:=b) ?_ hb
  have:=Int.mul_le_mul_of_nonneg_right h1 (Int.le_of_lt hB)
  rw[h]
  have e:B*(-c)*b = -(b*c*B):=by rw[Int.mul_neg,Int.neg_mul,Int.mul_comm b c,Int.mul_assoc,Int.mul_assoc,Int.mul_comm b B,← Int.mul_assoc,← Int.mul_assoc,Int.mul_comm B c]
  rw[e]
  rw[Int.neg_mul] at this
  omega
 have e2:B*(-c-1)<A:=by
  refine Int.lt_of_mul_lt_mul_right (a:=b) ?_ (Int.le_of_lt hb)
  have:=Int.mul_lt_mul_of_pos_right h2 hB
  rw[h]
  have e:B*(-c-1)*b = -((b*c+b)*B):=by grind
  rw[e]
  rw[Int.neg_mul] at this
  omega
 symm
 have e3:B*(-c-1)=B*(-c)-B:=by rw[Int.mul_sub,Int.mul_one]
 rw[show A+B-1=(A+B-1-B*(-c))+B*(-c) by omega,Int.add_mul_ediv_left _ _ (by omega),Int.ediv_eq_zero_of_lt (by omega) (by omega),Int.zero_add]
theorem upTo_F(n:Int)(q:Rat)(hq:0<q):Vbreal.upTo (Vbreal.over (Vbreal.whole n) (WM.F q))=(n*q.den+q.num-1) / q.num:=by
 rw[WM.cq,WM.kz _ _ hq]
 have hn:=WM.num_pos hq
 have hd:0<(((n:Rat) / q).den:Int):=by have:=((n:Rat) / q).den_pos; omega
 refine ceil_eq hd hn ?_
 have hz:q≠0:=fun e=>by rw[e] at hq; exact absurd hq (by decide)
 have e0:(n:Rat) / q*q=n:=Rat.div_mul_cancel hz
 have e1:(((n:Rat) / q).num:Rat)=(n:Rat) / q*(((n:Rat) / q).den:Rat):=WM.eG _
 have e2:(q.num:Rat)=q*(q.den:Rat):=WM.eG _
 generalize (n:Rat) / q=r at *
 refine Rat.intCast_inj.mp ?_
 show(((n*q.den:Int)*(r.den:Int):Int):Rat)=((r.num*q.num:Int):Rat)
 rw[Rat.intCast_mul,Rat.intCast_mul,Rat.intCast_mul,e1,e2,Rat.intCast_natCast,Rat.intCast_natCast,← e0]
 grind
theorem setFor_F{t:List Pnt}{w:Rat×Rat}{dx dy n:Int}(hn:0≤n)(h0:∀ q,WM.bC t w.1 w.2 dx dy=some q→0≤q):Vbreal.setFor t (WM.a8 w) ⟨dx,dy⟩ n.toNat=(WM.bC t w.1 w.2 dx dy).bind fun q =>
  if n=0 then some 1 else if q.num=0 then none else some ((n*q.den+q.num-1) / q.num):=by
 unfold Vbreal.setFor
 rw[show Vbreal.timeIn t (WM.a8 w) ⟨dx,dy⟩=_ from WM.mC t w.1 w.2 ⟨dx,dy⟩]
 show((WM.bC t w.1 w.2 dx dy).map WM.F).bind _=_
 cases hq:WM.bC t w.1 w.2 dx dy with
 | none=>rfl
 | some q =>
  have hq0:=h0 q hq
  show(if WM.F q=Vbreal.zero then _ else _)=(if n=0 then some 1 else _)
  by_cases hz:q=0
  ·subst hz
   rw[if_pos WM.iQ.symm]
   by_cases hn0:n=0
   ·rw[if_pos (by omega),if_pos hn0]
   ·rw[if_neg (by omega),if_neg hn0]
    rfl
  ·have hp:0<q:=Rat.lt_of_le_of_ne hq0 (Ne.symm hz)
   have hnum:=WM.num_pos hp
   have hd:0<(q.den:Int):=by have:=q.den_pos; omega
   rw[if_neg (fun e=>hz (WM.F_inj (e.trans WM.iQ))),show((n.toNat:Nat):Int)=n by omega,upTo_F n q hp,if_neg (by omega:¬ q.num=0)]
   by_cases hn0:n=0
   ·rw[if_pos hn0,hn0,Int.zero_mul,Int.zero_add,Int.ediv_eq_zero_of_lt (by omega) (by omega)]
    rfl
   ·rw[if_neg hn0]
    have h1:1≤n*q.den:=Int.le_trans (by omega) (Int.mul_le_mul (show(1:Int)≤n by omega) (show(1:Int)≤q.den by omega) (by omega) (by omega))
    have:1≤(n*q.den+q.num-1) / q.num:=(Int.le_ediv_iff_mul_le hnum).mpr (by omega)
    rw[Int.max_eq_right this]
def setOk(x y t dx dy k:Int):Bool:=Vbreal.isPlace x y&&(Vbreal.isTime t&&(Vbreal.isPlace dx dy&&Vbreal.within 0 k 1000000))
theorem setOk_way(x y t dx dy k:Int):setOk x y t dx dy k=(kG x y t dx dy&&Vbreal.within 0 k 1000000):=by
 unfold setOk kG
 cases Vbreal.isPlace x y<;>cases Vbreal.isTime t<;>rfl
theorem km(lo hi n:Int):within lo hi [n]=Vbreal.within lo n hi:=by
 unfold within Vbreal.within
 simp only[List.all_cons,List.all_nil,Bool.and_true]
 rw[Bool.decide_and]
theorem ok_set_leg(T:Txt K mg Z):a9 P w K mg base CX0 8 Z.jd Z.d_set_leg ["sea", "numbers", "row"] (dm Z (fun a _=>∃ x y t dx dy n,a=[x,y,t,dx,dy,n]) (fun a _=>match a with | [x,y,t,dx,dy,n]=>.set x y t dx dy n | _=>.print)):=by
 refine T.f_set_leg.fn.ok kf (fun vs H Q E h=>?_) (fun cdv A0 outer s H vs Q E hr h=>?_)
 ·revert h; walk_at "len"
 refine⟨_,(ae (aP (PW.pt (dJ (bR (br (ag T.d9 (eX T) hr (ab (pv 1) af)))) (dw (bR (br (ag T.cA (cy T) hr (ab (bg (bj (K:=K) rfl) (pv 1) (bc aj) cD) (ab aj (ab (bM T.c_MOST_SECONDS) af))))))))) (ah (ao (aJ (ab (bM T.bf) af)))) aA) (ae (az (i:=3) kf.nd rfl (Or.inl rfl) (ag T.cK (cR T) hr (ab (pv 0) (ab (pv 1) af)))) (ae (aP (cN (cV (pv 3))) (ah (ao (aJ (ab (bM T.gd) af)))) aA) (ae (az (i:=4) kf.nd rfl (Or.inl rfl) (ag T.f7 (gq T) hr (ab (ak (K:=K) rfl (pv 0) rfl) (ab (pv 3) (ab (aI (aB (K:=K) rfl) (pv 1) aj (fun _ _=>rfl)) (ab (aI (aB (K:=K) rfl) (pv 1) aj (fun _ _=>rfl)) af)))))) (ae (aP (cN (cV (pv 4))) (ah (ao (aJ (ab (bM T.c_NEVER) af)))) aA) (ae (az (i:=5) kf.nd rfl (Or.inl rfl) (ag T.kb (rZ T) hr (ab (pv 4) (ab (aI (aB (K:=K) rfl) (pv 1) aj (fun _ _=>rfl)) af)))) (ae (aP (cN (cV (pv 5))) (ah (ao (aJ (ab (bM T.c_NEVER) af)))) aA) (ah (ao (aJ (ab (pv 5) af))))))))))),?_⟩
 obtain⟨sea,na,ra,st,tb,rs,l,ts,t,args,row,rfl,hw,hna,hra,⟨x,y,tm,dx,dy,n,rfl⟩,k⟩:=h
 have k:=fun ans hs hl=>bP (c:=.set x y tm dx dy n) (ans:=ans) hw k hs hl
 refine bB (σ':=[some (.ref sea),some (.ref na),some (.ref ra),none,none,none]) ?_ rfl
 have bad:∀ H1,ax H H1→setOk x y tm dx dy n=false→cH H1 Q (ib [-10]):=fun H1 s1 hb=>cH.after s1 (k [-10] (by
  show Vbreal.asked _ [(setOk x y tm dx dy n,-10)] _=_
  rw[hb]; rfl) (by simp))
 rw[setOk_way] at bad
 walk_at "a"
 refine⟨na,x,y,tm,dx,dy,[n],rfl,hna,fun H1 s1=>?_⟩
 walk_at "a"
 cases hr:kG x y tm dx dy with
 | false =>
  refine aD ?_
  refine aD ?_
  walk_at "a"
  exact aK (bad H1 s1 (by rw[hr]; rfl))
 | true =>
  obtain⟨hp,ht,hd⟩:=way_of hr
  have fd:=far_of hd
  refine aG ?_
  walk_at "a"
  refine d8 (SqL.of (s1 _ _ hna)) fun a2 h2=>?_
  rw[show fN (ib [x,y,tm,dx,dy,n]) (some 5) none=ib [n] from rfl]
  walk_at "a"
  refine⟨a2,[n],_,_,rfl,.inl ai,?_⟩
  have s2:ax H1 (upd H1 a2 (.lst (ib [n]))):=ax.new h2
  generalize upd H1 a2 (.lst (ib [n]))=H2 at *
  have s02:=s1.trans s2
  rw[km]
  walk_at "a"
  cases hk:Vbreal.within 0 n 1000000 with
  | false =>
   refine aD ?_
   walk_at "a"
   exact aK (bad H2 s02 (by rw[hr,hk]; rfl))
  | true =>
   have hn:0≤n∧n≤1000000:=by
    unfold Vbreal.within at hk
    simpa using hk
   have hstep:Vbreal.step ⟨l,t⟩ (.set x y tm dx dy n)=match WM.bE l x y (tm:Rat) with
     | none=>(⟨l,t⟩,[-6])
     | some w=>match Vbreal.setFor t (WM.a8 w) ⟨dx,dy⟩ n.toNat with
      | none=>(⟨l,t⟩,[-7])
      | some n=>(⟨l,t⟩,[n]):=by
    show Vbreal.asked _ [(setOk x y tm dx dy n,-10)] _=_
    rw[setOk_way,hr,hk]
    exact at_eq (t:=t) hw.wo fun w=>match Vbreal.setFor t w ⟨dx,dy⟩ n.toNat with
      | none=>(⟨l,t⟩,[-7])
      | some n=>(⟨l,t⟩,[n])
   refine aG ?_
   walk_at "a"
   refine⟨sea,na,st,tb,rs,l,ts,t,x,y,tm,[dx,dy,n],rfl,hw.mono s02,s02 _ _ hna,hp,ht,fun v H3 s3 hv=>?_⟩
   have s03:=s02.trans s3
   walk_at "a"
   cases hwq:WM.bE l x y (tm:Rat) with
   | none =>
    rw[hwq] at hv hstep
    have hv:v = .non:=hv
    rw[decide_eq_true hv]
    refine aD ?_
    walk_at "a"
    exact aK (cH.after s03 (k [-6] hstep (by simp)))
   | some w =>
    rw[hwq] at hv hstep
    obtain⟨wa,rfl,hwa⟩:=hv
    have bw:=dG hw.wo hp ht hwq
    have h0:∀ q,WM.bC t w.1 w.2 dx dy=some q→0≤q:=fun q hq=>way_nonneg hw.wo hp ht hwq hw.tok fd.1 fd.2 hq
    have hstep:Vbreal.step ⟨l,t⟩ (.set x y tm dx dy n)=match Vbreal.setFor t (WM.a8 w) ⟨dx,dy⟩ n.toNat with
      | none=>(⟨l,t⟩,[-7])
      | some n=>(⟨l,t⟩,[n]):=hstep
    rw[setFor_F hn.1 h0] at hstep
    rw[decide_eq_false (by intro g; cases g)]
    refine aG ?_
    walk_at "a"
    refine ij (hw.mono s03) T ?_
    walk_at "a"
    refine aV (SqL.of (s03 _ _ hna)) (v:=.int dx) (aE (j:=3) rfl) ?_
    walk_at "a"
    refine aV (SqL.of (s03 _ _ hna)) (v:=.int dy) (aE (j:=4) rfl) ?_
    walk_at "a"
    refine⟨tb,wa,ts,t,w,dx,dy,357,rfl,hw.tab.mono s03,hw.tok,hwa,bw.1.1,bw.1.2,by omega,fd.1,fd.2,fun r H4 s4 hr4=>?_⟩
    have s04:=s03.trans s4
    walk_at "a"
    cases hq:WM.bC t w.1 w.2 dx dy with
    | none =>
     rw[hq] at hr4 hstep
     have hv:r = .non:=hr4
     rw[decide_eq_true hv]
     refine aD ?_
     walk_at "a"
     exact aK (cH.after s04 (k [-7] hstep (by simp)))
    | some q =>
     rw[hq] at hr4 hstep
     obtain⟨qa,rfl,hqa⟩:=hr4
     have bq:WM.Bd 8000 q:=Bd.up (bw.2 hw.tok fd.1 fd.2 hq) (by decide)
     rw[decide_eq_false (by intro g; cases g)]
     refine aG ?_
     walk_at "a"
     refine aV (SqL.of (s04 _ _ hna)) (v:=.int n) (aE (j:=5) rfl) ?_
     walk_at "a"
     refine⟨qa,q,n,rfl,hqa,bq,h0 q hq,hn,?_⟩
     have hstep:Vbreal.step ⟨l,t⟩ (.set x y tm dx dy n)=match (if n=0 then some 1 else if q.num=0 then none else some ((n*q.den+q.num-1) / q.num)) with
      | none=>(⟨l,t⟩,[-7])
      | some n=>(⟨l,t⟩,[n]):=hstep
     cases hres:(if n=0 then some 1 else if q.num=0 then none else some ((n*q.den+q.num-1) / q.num):Option Int) with
     | none =>
      rw[hres] at hstep
      walk_at "a"
      rw[decide_eq_true (show optI none = .non from rfl)]
      refine aD ?_
      walk_at "a"
      exact aK (cH.after s04 (k [-7] hstep (by simp)))
     | some z =>
      rw[hres] at hstep
      walk_at "a"
      rw[decide_eq_false (show ¬ optI (some z) = .non from fun g=>by cases g)]
      refine aG ?_
      walk_at "a"
      exact aK (cH.after s04 (k [z] hstep (by simp)))
def ou(row:List Int):Bool:=decide (row.length=4∨row.length=6)&&within (-100000) 100000 row
theorem pairs_cor{α:Type}(row:List Int)(a:α)(f:List Pnt→α):(match Vbreal.pairsOf 100000 row with
  | none=>a
  | some t=>if t.length<2∨3<t.length then a else f t)=if ou row=true then f (bz row) else a:=by
 unfold ou
 by_cases hodd:row.length % 2=0
 ·rw[g6 100000 row hodd]
  cases within (-100000) 100000 row with
  | false=>rw[if_neg (by simp),Bool.and_false,if_neg (by simp)]
  | true =>
   rw[if_pos rfl,Bool.and_true]
   have hl:=gb row
   show(if (bz row).length<2∨3<(bz row).length then a else f (bz row))=_
   by_cases h:row.length=4∨row.length=6
   ·rw[if_neg (by omega),if_pos (decide_eq_true h)]
   ·rw[if_pos (by omega),if_neg (by rw[decide_eq_true_iff]; exact h)]
 ·rw[mw 100000 row hodd,decide_eq_false (by omega),Bool.false_and,if_neg (by simp)]
theorem cor_ok{row:List Int}(h:ou row=true):PlcOk (bz row)∧∃ n,row.length=2*n∧n≤3∧(bz row).length=n:=by
 unfold ou at h
 rw[Bool.and_eq_true,decide_eq_true_iff] at h
 have hl:=gb row
 exact⟨⟨by omega,pairs_ok h.2⟩,row.length / 2,by omega,by omega,hl⟩
def sp_is_course:Sp:=fun vs H Q _=>∃ (a:Addr) (row:List Int),vs=[.ref a]∧H a=some (.lst (ib row))∧∀ H',ax H H'→Q (.bl (ou row)) H'
theorem ok_is_course(T:Txt K mg Z):a9 P w K mg base CX0 3 Z.a_is_course Z.d_is_course ["row"] (sp_is_course):=by
 refine T.f_is_course.fn.ok sc_is_course (fun vs H Q E h=>?_) (fun cdv A0 outer s H vs Q E hr h=>?_)
 ·revert h; walk_at "len"
 refine⟨_,(ah (ao (pe_and (ko (op_in_seqK (K:=K) rfl) (aT (aS (K:=K) rfl) rfl T.dE PySem.boot_len (ab (pv 0) af)) (ku (ab aj (ab aj af))) (by with_unfolding_all rfl)) (qR (ag T.cJ (cQ T) hr (ab (pv 0) af)))))),?_⟩
 obtain⟨a,row,rfl,ha,k⟩:=h
 refine bB (σ':=[some (.ref a)]) ?_ rfl
 walk_at "a"
 refine bV (SqL.of ha) ?_
 walk_at "a"
 refine⟨by show 2≤sizeLine; rw[aw]; omega,fun q hq=>?_⟩
 have s1:ax H (upd H q (.tup [.int 4,.int 6])):=ax.new hq
 refine⟨q,_,rfl,.inr (SqT.of ai),rfl,rfl,?_⟩
 have hin:inV (.int ((ib row).length:Int)) [.int 4,.int 6]=decide (row.length=4∨row.length=6):=by
  rw[aW]
  show(decide ((4:Int)=(row.length:Int)) || (decide ((6:Int)=(row.length:Int)) || false))=_
  rw[Bool.or_false,← Bool.decide_or]
  exact decide_eq_decide.mpr (by omega)
 refine⟨decide (row.length=4∨row.length=6),by rw[← hin]; rfl,?_⟩
 unfold ou at k
 refine w_ite (fun h1=>?_) (fun h1=>?_)
 ·rw[decide_eq_true h1,Bool.true_and] at k
  walk_at "a"
  exact⟨a,row,rfl,s1 _ _ ha,k _ s1⟩
 ·rw[decide_eq_false h1,Bool.false_and] at k
  exact k _ s1
theorem legsQ_len(l:List Stn)(t:List Pnt):∀ (ps:List Pnt) (m:Rat),(gP l t m ps).length≤ps.length
 | [],m=>Nat.le_refl _
 | [p],m=>by simp[gP]
 | p::q::r,m=>by
  unfold gP
  split
  ·simp
  ·rename_i u _
   have:=legsQ_len l t (q::r) (m+u)
   simp only[List.length_cons] at *
   omega
def fR(qs:List Rat):List Int:=qs.flatMap fun q=>Vbreal.told (WM.F q)
theorem toldAll_len{qs:List Rat}(h:∀ q∈qs,WM.Bd 12900 q):(fR qs).length≤26000*qs.length:=by
 induction qs with
 | nil=>simp[fR]
 | cons q r ih =>
  have:=fb (h q List.mem_cons_self)
  have:=ih fun z hz=>h z (List.mem_cons_of_mem _ hz)
  unfold fR at *
  rw[List.flatMap_cons,List.length_append,List.length_cons]
  omega
theorem ok_course(T:Txt K mg Z):a9 P w K mg base CX0 9 Z.mF Z.d_course ["sea", "numbers", "row"] (dm Z (fun a _=>∃ t,a=[t]) (fun a r=>match a with | [t]=>.course t r | _=>.print)):=by
 refine T.f_course.fn.ok mU (fun vs H Q E h=>?_) (fun cdv A0 outer s H vs Q E hr h=>?_)
 ·revert h; walk_at "len"
 refine⟨_,(ae (aP (bR (br (ag T.b7 (b5 T) hr (ab (pv 1) af)))) (ah (ao (aJ (ab (bM T.bf) af)))) aA) (ae (aP (bR (br (ag T.f_is_course (ok_is_course T) hr (ab (pv 2) af)))) (ah (ao (aJ (ab (bM T.jw) af)))) aA) (ae (az (i:=3) mU.nd rfl (Or.inl rfl) (ag T.i4 (pI T) hr (ab (ak (K:=K) rfl (pv 0) rfl) (ab (ak (K:=K) rfl (pv 0) rfl) (ab (aI (aB (K:=K) rfl) (pv 1) aj (fun _ _=>rfl)) (ab (ag T.kc (mr T) hr (ab (pv 2) af)) af)))))) (ae (az (i:=4) mU.nd rfl (Or.inl rfl) (aJ (ab (aT (aS (K:=K) rfl) rfl T.dE PySem.boot_len (ab (pv 3) af)) af))) (ae (cW PassesOwn.never rfl (bD (K:=K) rfl (pv 3)) (aZ (i:=5) mU.nd rfl (Or.inl rfl)) (ah (dk (fJ (K:=K) rfl PySem.F.plainAttrs_list PySem.F.slot_list_extend PySem.F.type_list_extend g7 (pv 4) (ab (ag T.cz (cx T) hr (ab (pv 5) af)) af))))) (ah (ao (pv 4)))))))),?_⟩
 obtain⟨sea,na,ra,st,tb,rs,l,ts,t,args,row,rfl,hw,hna,hra,⟨tm,rfl⟩,k⟩:=h
 have k:=fun ans hs hl=>bP (c:=.course tm row) (ans:=ans) hw k hs hl
 refine bB (σ':=[some (.ref sea),some (.ref na),some (.ref ra),none,none,none]) ?_ rfl
 walk_at "a"
 refine⟨na,[tm],rfl,hna,?_⟩
 rw[cC]
 walk_at "a"
 cases ht:Vbreal.isTime tm with
 | false =>
  refine aD ?_
  walk_at "a"
  exact aK (k [-10] (by
   show Vbreal.asked _ [(Vbreal.isTime tm,-10)] _=_
   rw[ht]; rfl) (by simp))
 | true =>
  have q:=kr ht
  have hstep:Vbreal.step ⟨l,t⟩ (.course tm row)=if ou row=true then((⟨l,t⟩:Vbreal.State),(Int.ofNat (gP l t (tm:Rat) (bz row)).length::fR (gP l t (tm:Rat) (bz row)):Vbreal.Ans)) else(⟨l,t⟩,[-9]):=by
   show Vbreal.asked _ [(Vbreal.isTime tm,-10)] _=_
   rw[ht]
   refine(pairs_cor row ((⟨l,t⟩:Vbreal.State),([-9]:Vbreal.Ans)) fun p=>(⟨l,t⟩,Int.ofNat (Vbreal.legs l t (Vbreal.whole tm) p).length::(Vbreal.legs l t (Vbreal.whole tm) p).flatMap Vbreal.told)).trans ?_
   rw[WM.cq,legs_F l t fun s hs=>(hw.wo.each s hs).rise]
   unfold fR
   rw[List.length_map,List.flatMap_map]
  refine aG ?_
  walk_at "a"
  refine⟨ra,row,rfl,hra,fun H1 s1=>?_⟩
  walk_at "a"
  cases hr:ou row with
  | false =>
   rw[hr] at hstep
   refine aD ?_
   walk_at "a"
   exact aK (cH.after s1 (k [-9] hstep (by simp)))
  | true =>
   rw[hr,if_pos rfl] at hstep
   obtain⟨pok,n,hn,hn3,hpl⟩:=cor_ok hr
   refine aG ?_
   walk_at "a"
   refine cI (hw.mono s1) T ?_
   walk_at "a"
   refine ij (hw.mono s1) T ?_
   walk_at "a"
   refine aV (SqL.of (s1 _ _ hna)) (v:=.int tm) (aE (j:=0) rfl) ?_
   walk_at "a"
   refine⟨ra,row,n,rfl,s1 _ _ hra,hn,by omega,fun pa H2 pas s2 hpa htab=>?_⟩
   walk_at "a"
   have s02:=s1.trans s2
   have hw2:=hw.mono s02
   refine⟨st,tb,pa,rs,l,ts,t,pas,bz row,tm,rfl,hw2.we,hw2.wo,hw2.tab,hw2.tok,htab,pok,q,fun dn H3 ds s3 hdn hdl hds hbd=>?_⟩
   have hql:=legsQ_len l t (bz row) (tm:Rat)
   generalize gP l t (tm:Rat) (bz row)=qs at *
   have s03:=s02.trans s3
   walk_at "a"
   refine bV (SqL.of hdl) ?_
   walk_at "a"
   refine⟨by show 1≤sizeLine; rw[aw]; omega,fun A hA=>?_⟩
   rw[List.length_map,hds.1]
   walk_at "a"
   have s4:ax H3 (upd H3 A (.lst [.int (qs.length:Int)])):=ax.new hA
   refine⟨dn,rfl,⟨_,SqL.of (s4 _ _ hdl)⟩,?_⟩
   have tl:=toldAll_len hbd
   have hA0:=s03.free hA
   have hAd:∀ (i:Nat) (b:Addr),ds[i]? = some b→b≠A:=fun i b hb e=>by
    have hi:i<ds.length:=(List.getElem?_eq_some_iff.mp hb).1
    have hiq:i<qs.length:=by rw[← hds.1]; exact hi
    obtain⟨dx,h⟩:=hds.2 i b _ hb (List.getElem?_eq_getElem hiq)
    rw[e,hA] at h
    cases h
   refine bQ (K:=K) (a:=dn) (xs:=ds.map V.ref) (fun i σ H'=>∃ v:Option V,σ=[some (.ref sea),some (.ref na),some (.ref ra),some (.ref dn),some (.ref A),v]∧ax H3 H'∧H' A=some (.lst (ib ((qs.length:Int)::fR (qs.take i)))))
    ⟨_,rfl,s4,ai⟩ (fun i σ H' _ ⟨v,_,e,_⟩=>SqL.of (e _ _ hdl)) ?_ ?_
   ·rintro i y σ H' hi' ⟨v,rfl,s',hAl⟩
    obtain⟨c,hc,rfl⟩:=fQ hi'
    have hi:i<qs.length:=by rw[← hds.1]; exact(List.getElem?_eq_some_iff.mp hc).1
    have hqi:=List.getElem?_eq_getElem hi
    have hcq:=hds.2 i c _ hc hqi
    have hb:=hbd _ (List.getElem_mem hi)
    have htk:fR (qs.take (i+1))=fR (qs.take i)++Vbreal.told (WM.F qs[i]):=by
     unfold fR
     rw[take_snoc hqi,List.flatMap_append]
     simp
    have tl2:(fR (qs.take i)).length≤26000*(qs.take i).length:=toldAll_len fun z hz=>hbd z (List.mem_of_mem_take hz)
    rw[List.length_take] at tl2
    have tl3:=fb hb
    generalize qs[i]=qi at *
    walk_at "a"
    refine⟨ty_list (SqL.of hAl),?_⟩
    walk_at "a"
    refine⟨c,qi,rfl,by obtain⟨dx,e⟩:=hcq; exact⟨dx,s' _ _ e⟩,hb,fun p H5 s5 hp5 hpe5=>?_⟩
    walk_at "a"
    refine ji (s5 _ _ hAl) hpe5 (by rw[bG,aW,aW,aw,List.length_cons]; omega) ?_
    have hsA:ax H3 (upd H5 A (.lst (ib ((qs.length:Int)::fR (qs.take i))++tellV qi))):=(s'.trans s5).dB hA
    refine⟨_,rfl,hsA,?_⟩
    rw[ai,htk,bG,← hJ]
    rfl
   ·rintro σ H' ⟨v,rfl,s',hAl⟩
    rw[List.length_map,hds.1,List.take_length] at hAl
    walk_at "a"
    exact k _ hstep (by rw[List.length_cons]; omega) A H' (s03.trans s') hA0 hAl
section
variable {K:PySem.W.Frag}{mg:Str→Option Value}{Z:Ad}{H:Hp}{Q:VK}{p st:Addr}{n:Int}
theorem fld_re_st(h:ReAt Z H p st n)(T:Txt K mg Z)(k:Q (.ref st) H):Fld K (.ref p) "stations" H Q:=by
 obtain⟨dx,h⟩:=h
 exact d4 h T.eg.cl T.eJ (bF (by decide +kernel) dZ) k
theorem jC(h:ReAt Z H p st n)(T:Txt K mg Z)(k:Q (.int n) H):Fld K (.ref p) "wrong_line" H Q:=by
 obtain⟨dx,h⟩:=h
 exact d4 h T.eg.cl T.dY dZ k
end
theorem ib_nats{row:List Int}(h:∀ z∈row,0≤z):ib row=nb (VbrealNeutral.nats row):=by
 unfold ib nb VbrealNeutral.nats
 rw[List.map_map]
 refine List.map_congr_left fun z hz=>?_
 show V.int z=V.int ((z.toNat:Nat):Int)
 rw[Int.toNat_of_nonneg (h z hz)]
theorem foldl_add_sum(l:List Nat)(a:Nat):l.foldl (fun a b=>a+b) a=a+l.sum:=by
 induction l generalizing a with
 | nil=>simp
 | cons x r ih=>rw[List.foldl_cons,ih,List.sum_cons]; omega
def jo(l:List Stn):List Int:=l.map fun s=>(s.seen.length:Int)
theorem qO:∀ l:List Stn,(jo l).sum=Int.ofNat ((l.map fun x=>x.seen.length).foldl (fun a b=>a+b) 0)
 | []=>rfl
 | s::r=>by
  have ih:=qO r
  rw[foldl_add_sum] at ih ⊢
  unfold jo at *
  rw[List.map_cons,List.sum_cons,ih,List.map_cons,List.sum_cons]
  show(s.seen.length:Int)+((0+(List.map (fun x=>x.seen.length) r).sum:Nat):Int)=((0+(s.seen.length+(List.map (fun x=>x.seen.length) r).sum):Nat):Int)
  omega
theorem ok_load(T:Txt K mg Z):a9 P w K mg base CX0 8 Z.a_load Z.d_load ["sea", "numbers", "row"] (dm Z (fun _ r=>(∀ z∈r,0≤z)∧r.length≤5000) (fun _ r=>.load (VbrealNeutral.nats r))):=by
 refine T.f_load.fn.ok sc_load (fun vs H Q E h=>?_) (fun cdv A0 outer s H vs Q E hr h=>?_)
 ·revert h; walk_at "len"
 refine⟨_,(ae (aP (aH i7 (aT (aS (K:=K) rfl) rfl T.dE PySem.boot_len (ab (pv 2) af)) (bM T.c_MOST_BYTES) (aM _)) (ah (ao (aJ (ab (bM T.c_TOO_LONG) af)))) aA) (ae (az (i:=3) sc_load.nd rfl (Or.inl rfl) (ag T.lH (ok_read_weather T) hr (ab (pv 2) af))) (ae (aP (aH i7 (ak (K:=K) rfl (pv 3) rfl) aj (aM _)) (ah (ao (aJ (ab (aF cX (bM T.c_WRONG_TEXT) (ak (K:=K) rfl (pv 3) rfl)) af)))) aA) (ae (cB (K:=K) rfl (pv 0) (ak (K:=K) rfl (pv 3) rfl) rfl) (ah (ao (aJ (ab (aT (aS (K:=K) rfl) rfl T.dE PySem.boot_len (ab (ak (K:=K) rfl (pv 0) rfl) af)) (ab (aT (cr_sumK (K:=K) rfl rfl) rfl T.n_sum boot_sum_ (ab (pe_lc (own:=[("station",4)]) rfl sc_load.nd (bD (K:=K) rfl (ak (K:=K) rfl (pv 0) rfl)) (ik (by kernel_rfl)) (fun _ _ _ _ _=>(aZ (i:=4) sc_load.nd rfl (Or.inl rfl))) (fun _ _ _ _ _=>pts_nil) (fun _ _ _ _ _=>(aT (aS (K:=K) rfl) rfl T.dE PySem.boot_len (ab (ak (K:=K) rfl (pv 4) rfl) af)))) af)) af))))))))),?_⟩
 obtain⟨sea,na,ra,st,tb,rs,l,ts,t,args,row,rfl,hw,hna,hra,⟨h0,hlen⟩,k⟩:=h
 refine bB (σ':=[some (.ref sea),some (.ref na),some (.ref ra),none,none]) ?_ rfl
 have hnl:(VbrealNeutral.nats row).length=row.length:=List.length_map ..
 rw[ib_nats h0] at hra
 dsimp only at k
 generalize hbs:VbrealNeutral.nats row=bs at *
 have hstep:Vbreal.step ⟨l,t⟩ (.load bs)=if 4000<bs.length then((⟨l,t⟩:Vbreal.State),([-8]:Vbreal.Ans)) else(match Vbreal.readWeather bs with
   | .error n=>(⟨l,t⟩,[-1000-Int.ofNat n])
   | .ok l=>(⟨l,t⟩,Vbreal.ints [l.length,(l.map fun x=>x.seen.length).foldl (fun a b=>a+b) 0])):=rfl
 walk_at "a"
 refine bV (SqL.of hra) ?_
 walk_at "a"
 rw[aL]
 refine w_ite (fun h1=>?_) (fun h1=>?_)
 ·rw[if_pos (by omega)] at hstep
  walk_at "a"
  exact aK (bP hw k hstep (by simp))
 ·rw[if_neg (by omega)] at hstep
  walk_at "a"
  refine⟨ra,bs,rfl,hra,by omega,fun p H1 s1 hres=>?_⟩
  walk_at "a"
  cases hrw:Vbreal.readWeather bs with
  | error n =>
   rw[hrw] at hres hstep
   obtain⟨st1,hre,hn⟩:=hres
   refine jC hre T ?_
   walk_at "a"
   refine w_ite (fun _=>?_) (fun g=>absurd (show(0:Int)<(n:Int) by omega) g)
   walk_at "a"
   refine jC hre T ?_
   walk_at "a"
   exact aK (cH.after s1 (bP hw k hstep (by simp)))
  | ok e =>
   rw[hrw] at hres hstep
   obtain⟨st1,rs1,hre,hwe,hsep,hst1,hrs1⟩:=hres
   have wo1:=WM.readWeather_ok hrw
   refine jC hre T ?_
   walk_at "a"
   refine w_ite (fun g=>absurd g (by decide)) (fun _=>?_)
   walk_at "a"
   refine fld_re_st hre T ?_
   walk_at "a"
   have hw1:=hw.mono s1
   obtain⟨dx,hse⟩:=hw1.sea
   refine dh hse T.rn.cl T.gw (by show 2<1000; decide) ?_
   have eF:eD "stations" (.ref st1) (pB (.ref st) (.ref tb))=pB (.ref st1) (.ref tb):=rfl
   rw[eF]
   have hw2:Wld Z (upd H1 sea (.ins Z.CSea dx (pB (.ref st1) (.ref tb)))) sea st1 rs1 e tb ts t:=⟨⟨dx,ai⟩,hwe.sea hse,hsep,wo1,hw1.tab.sea hse,hw.tok,fun r hr g=>by
    have:=hrs1 r hr
    rw[g,hw.tab.lst] at this
    cases this⟩
   have fr:∀ b o,H b=some o→b≠sea→upd H1 sea (.ins Z.CSea dx (pB (.ref st1) (.ref tb))) b=some o:=fun b o g hb=>by
    rw[ay hb]; exact s1 _ _ g
   generalize hH2:upd H1 sea (.ins Z.CSea dx (pB (.ref st1) (.ref tb)))=H2 at *
   walk_at "a"
   refine cI hw2 T ?_
   walk_at "a"
   refine bV (SqL.of hw2.we.lst) ?_
   rw[List.length_map,hw2.we.len]
   walk_at "a"
   refine cI hw2 T ?_
   walk_at "a"
   refine⟨st1,rfl,⟨_,SqL.of hw2.we.lst⟩,fun D hD=>?_⟩
   have hl6:=wo1.len
   refine lc_gen (n:=e.length) (fun i H'=>ax H2 H'∧H' D=some (.lst (ib (jo (e.take i))))) ⟨ax.new hD,ai⟩
    (fun i H' hi ⟨s',_⟩=>⟨_,_,SqL.of (s' _ _ hw2.we.lst),List.getElem?_eq_getElem (by rw[List.length_map,hw2.we.len]; exact hi)⟩)
    (fun H' ⟨s',_⟩=>⟨_,SqL.of (s' _ _ hw2.we.lst),by rw[List.length_map,hw2.we.len]; exact Nat.le_refl _⟩) ?_ ?_
   ·rintro i H' v H3 hi ⟨s',hd⟩ ⟨rfl,hy⟩
    have hyi:=hy _ (SqL.of (s' _ _ hw2.we.lst))
    obtain⟨r,hri,rfl⟩:=i6 hyi
    have hz:=List.getElem?_eq_getElem hi
    have hst:=(hw2.we.at_ i r _ hri hz).mono s'
    have htk:e.take (i+1)=e.take i++[e[i]]:=take_snoc hz
    have hlen:(e.take i).length=i:=by rw[List.length_take]; omega
    walk_at "a"
    refine⟨rfl,?_⟩
    walk_at "a"
    refine aD ?_
    walk_at "a"
    refine b8 hst T ?_
    walk_at "a"
    refine bV (SqL.of hst.sl) ?_
    rw[List.length_map,hst.si.1]
    refine⟨_,hd,by unfold jo; rw[aW,List.length_map,hlen,aw]; omega,s'.dB hD,?_⟩
    rw[ai,htk]
    unfold jo
    rw[List.map_append,hJ]
    rfl
   ·rintro H' ⟨s',hd⟩
    rw[List.take_length] at hd
    walk_at "a"
    refine⟨D,jo e,rfl,SqL.of hd,?_⟩
    walk_at "a"
    refine⟨by show 2≤sizeLine; rw[aw]; omega,fun p2 hp2=>?_⟩
    have hp2':H p2=none:=by
     have hp2:=s'.free hp2
     cases g:H p2 with
     | none=>rfl
     | some o =>
      by_cases hb:p2=sea
      ·obtain⟨d3,h3⟩:=hw2.sea
       rw[hb,h3] at hp2
       cases hp2
      ·rw[fr p2 o g hb] at hp2
       cases hp2
    refine k p2 _ st1 rs1 e tb ts t ((hw2.mono s').mono (ax.new hp2)) (by rw[hstep]) ?_ (by rw[hstep]; simp[Vbreal.ints]) ⟨.inr hst1,fun b o g hb _=>ax.new hp2 _ _ (s' _ _ (fr b o g hb)),fun r hr=>.inr (hrs1 r hr),.inl rfl,hp2'⟩
    rw[hstep,ai,qO]
    rfl
def obsOk(t e n:Int):Bool:=Vbreal.isTime t&&(Vbreal.within (-1000) e 1000&&Vbreal.within (-1000) n 1000)
theorem obsOk_eq(t e n:Int):(within 0 100000 [t]&&within (-1000) 1000 [e,n])=obsOk t e n:=by
 unfold obsOk
 rw[cC]
 unfold within Vbreal.within
 simp only[List.all_cons,List.all_nil,Bool.and_true]
 rw[Bool.decide_and,Bool.decide_and]
theorem obs_of{t e n:Int}(h:obsOk t e n=true):(0≤t∧t≤100000)∧(-1000≤e∧e≤1000)∧(-1000≤n∧n≤1000):=by
 rw[← obsOk_eq] at h
 unfold within at h
 simpa using h
def sp_is_station(Z:Ad):Sp:=fun vs H Q _=>∃ (sea st tb:Addr) (rs:List Rec) (l:List Stn) (ts:List Addr) (t:List Pnt) (i:Int),vs=[.ref sea,.int i]∧Wld Z H sea st rs l tb ts t∧Q (.bl (decide (1≤i∧i≤(l.length:Int)))) H
theorem ow(T:Txt K mg Z):a9 P w K mg base CX0 1 Z.qr Z.qt ["sea", "number"] (sp_is_station Z):=by
 refine T.jt.fn.ok sc_is_station (fun vs H Q E h=>?_) (fun cdv A0 outer s H vs Q E hr h=>?_)
 ·revert h; walk_at "len"
 refine⟨_,(ah (ao (rb oK oK aj (pv 1) (aT (aS (K:=K) rfl) rfl T.dE PySem.boot_len (ab (ak (K:=K) rfl (pv 0) rfl) af))))),?_⟩
 obtain⟨sea,st,tb,rs,l,ts,t,i,rfl,hw,k⟩:=h
 refine bB (σ':=[some (.ref sea),some (.int i)]) ?_ rfl
 walk_at "a"
 refine w_ite (fun h1=>?_) (fun h1=>?_)
 ·walk_at "a"
  refine cI hw T ?_
  walk_at "a"
  refine bV (SqL.of hw.we.lst) ?_
  rw[List.length_map,hw.we.len]
  walk_at "a"
  rw[show decide (i≤(l.length:Int))=decide (1≤i∧i≤(l.length:Int)) from decide_eq_decide.mpr ⟨fun g=>⟨h1,g⟩,fun g=>g.2⟩]
  exact k
 ·rw[decide_eq_false (fun g=>h1 g.1)] at k
  exact k
theorem ok_observe(T:Txt K mg Z):a9 P w K mg base CX0 3 Z.jc Z.d_observe ["sea", "numbers", "row"] (dm Z (fun a _=>∃ i t e n,a=[i,t,e,n]) (fun a _=>match a with | [i,t,e,n]=>.observe i t e n | _=>.print)):=by
 refine T.f_observe.fn.ok sc_observe (fun vs H Q E h=>?_) (fun cdv A0 outer s H vs Q E hr h=>?_)
 ·revert h; walk_at "len"
 refine⟨_,(ae (aP (bR (br (ag T.jt (ow T) hr (ab (pv 0) (ab (aI (aB (K:=K) rfl) (pv 1) aj (fun _ _=>rfl)) af))))) (ah (ao (aJ (ab (bM T.qI) af)))) aA) (ae (aP (PW.pt (dJ (bR (br (ag T.b7 (b5 T) hr (ab (bg (bj (K:=K) rfl) (pv 1) (bc aj) (bc aj)) af)))) (dw (bR (br (ag T.j7 (rR T) hr (ab (bg (bj (K:=K) rfl) (pv 1) (bc aj) cD) af))))))) (ah (ao (aJ (ab (bM T.bf) af)))) aA) (ae (az (i:=3) sc_observe.nd rfl (Or.inl rfl) (aI (aB (K:=K) rfl) (ak (K:=K) rfl (pv 0) rfl) (aF cX (aI (aB (K:=K) rfl) (pv 1) aj (fun _ _=>rfl)) aj) (fun _ _=>rfl))) (ae (aP (br (ag T.f_saw_at (ok_saw_at T) hr (ab (pv 3) (ab (aI (aB (K:=K) rfl) (pv 1) aj (fun _ _=>rfl)) af)))) (ah (ao (aJ (ab (bM T.c_SEEN_ALREADY) af)))) aA) (ae (aP (br (ag T.f_is_full (ok_is_full T) hr (ab (pv 3) af))) (ah (ao (aJ (ab (bM T.c_NO_ROOM) af)))) aA) (ae (dk (ag T.lZ (qN T) hr (ab (pv 3) (ab (ck T.eQ.make (oq T) (hr.mono (by decide)) rfl T.eQ.mg T.eQ.bind .nil eA (ab (aI (aB (K:=K) rfl) (pv 1) aj (fun _ _=>rfl)) (ab (aI (aB (K:=K) rfl) (pv 1) aj (fun _ _=>rfl)) (ab (aI (aB (K:=K) rfl) (pv 1) aj (fun _ _=>rfl)) af)))) af)))) (ah (ao (aJ (ab (aT (aS (K:=K) rfl) rfl T.dE PySem.boot_len (ab (ak (K:=K) rfl (pv 3) rfl) af)) af)))))))))),?_⟩
 obtain⟨sea,na,ra,st,tb,rs,l,ts,t,args,row,rfl,hw,hna,hra,⟨i,tm,e,n,rfl⟩,k⟩:=h
 dsimp only at k
 have k':=fun ans hs hl=>bP (c:=.observe i tm e n) (ans:=ans) hw k hs hl
 refine bB (σ':=[some (.ref sea),some (.ref na),some (.ref ra),none]) ?_ rfl
 have bad:(Vbreal.within 1 i (Int.ofNat l.length))=false→cH H Q (ib [-2]):=fun hb=>k' [-2] (by
  show Vbreal.asked _ [(Vbreal.within 1 i (Int.ofNat l.length),-2),(obsOk tm e n,-10)] _=_
  rw[hb]; rfl) (by simp)
 have hwi:Vbreal.within 1 i (Int.ofNat l.length)=decide (1≤i∧i≤l.length):=by
  unfold Vbreal.within
  rw[Bool.decide_and]; rfl
 rw[hwi] at bad
 walk_at "a"
 refine aV (SqL.of hna) (v:=.int i) (aE (j:=0) rfl) ?_
 walk_at "a"
 refine⟨sea,st,tb,rs,l,ts,t,i,rfl,hw,?_⟩
 walk_at "a"
 refine cG (fun h1=>?_) (fun h1=>?_)
 ·walk_at "a"
  exact aK (bad (decide_eq_false h1))
 have hil:i.toNat-1<l.length:=by omega
 have hli:=List.getElem?_eq_getElem hil
 obtain⟨j,hj⟩:∃ j:Nat,i=(j:Int)+1:=⟨i.toNat-1,by omega⟩
 have hjn:i.toNat-1=j:=by omega
 have hrl:j<rs.length:=by rw[hw.we.len]; omega
 have hri:=List.getElem?_eq_getElem hrl
 have hjl:j<l.length:=by omega
 have hlj:=List.getElem?_eq_getElem hjl
 have hstep:Vbreal.step ⟨l,t⟩ (.observe i tm e n)=Vbreal.asked ⟨l,t⟩ [(obsOk tm e n,-10)] (Vbreal.asked ⟨l,t⟩ [(l[j].seen.all fun y=>Int.ofNat y.t != tm,-5),(decide (l[j].seen.length<20),-4)] (⟨l.set j { l[j] with seen:=Vbreal.put ⟨tm.toNat,e,n⟩ l[j].seen },t⟩,[Int.ofNat (l[j].seen.length+1)])):=by
  show Vbreal.asked _ [(Vbreal.within 1 i (Int.ofNat l.length),-2),(obsOk tm e n,-10)] (match l[i.toNat-1]? with | none=>_ | some x=>_)=_
  rw[hwi,decide_eq_true (by omega),hjn,hlj]
  rfl
 generalize hs0:l[j]=s0 at *
 generalize hr0:rs[j]=r at *
 have hst:=hw.we.at_ j r s0 hri hlj
 have sk:=hw.wo.each s0 (List.mem_of_getElem? hlj)
 have bad2:∀ H1,ax H H1→obsOk tm e n=false→cH H1 Q (ib [-10]):=fun H1 s1 hb=>cH.after s1 (k' [-10] (by
  rw[hstep,hb]; rfl) (by simp))
 rw[← obsOk_eq] at bad2
 walk_at "a"
 refine d8 (SqL.of hna) fun a1 h3=>?_
 rw[show fN (ib [i,tm,e,n]) (some 1) (some 2)=ib [tm] from rfl]
 walk_at "a"
 refine⟨a1,[tm],rfl,ai,?_⟩
 have s1:ax H (upd H a1 (.lst (ib [tm]))):=ax.new h3
 generalize upd H a1 (.lst (ib [tm]))=H1 at *
 walk_at "a"
 cases ht:within 0 100000 [tm] with
 | false =>
  refine aD ?_
  refine aD ?_
  walk_at "a"
  exact aK (bad2 H1 s1 (by rw[ht]; rfl))
 | true =>
  refine aG ?_
  walk_at "a"
  refine d8 (SqL.of (s1 _ _ hna)) fun a2 h4=>?_
  rw[show fN (ib [i,tm,e,n]) (some 2) none=ib [e,n] from rfl]
  walk_at "a"
  refine⟨a2,[e,n],rfl,ai,?_⟩
  have s2:ax H1 (upd H1 a2 (.lst (ib [e,n]))):=ax.new h4
  generalize upd H1 a2 (.lst (ib [e,n]))=H2 at *
  have s02:=s1.trans s2
  walk_at "a"
  cases hen:within (-1000) 1000 [e,n] with
  | false =>
   refine aD ?_
   walk_at "a"
   exact aK (bad2 H2 s02 (by rw[ht,hen]; rfl))
  | true =>
   have hok:obsOk tm e n=true:=by rw[← obsOk_eq,ht,hen]; rfl
   have ho:=obs_of hok
   rw[hok] at hstep
   have hstep:Vbreal.step ⟨l,t⟩ (.observe i tm e n)=Vbreal.asked ⟨l,t⟩ [(s0.seen.all fun y=>Int.ofNat y.t != tm,-5),(decide (s0.seen.length<20),-4)] (⟨l.set j { s0 with seen:=Vbreal.put ⟨tm.toNat,e,n⟩ s0.seen },t⟩,[Int.ofNat (s0.seen.length+1)]):=hstep
   have hst2:=hst.mono s02
   refine aG ?_
   walk_at "a"
   refine cI (hw.mono s02) T ?_
   walk_at "a"
   refine aV (SqL.of (s02 _ _ hna)) (v:=.int i) (aE (j:=0) rfl) ?_
   walk_at "a"
   refine aV (SqL.of (hw.we.mono s02).lst) (v:=.ref r.p) (by rw[hj,show(j:Int)+1-1=(j:Int) by omega]; exact aE (by rw[List.getElem?_map,hri]; rfl)) ?_
   walk_at "a"
   refine aV (SqL.of (s02 _ _ hna)) (v:=.int tm) (aE (j:=1) rfl) ?_
   walk_at "a"
   refine⟨r,s0,tm,rfl,hst2,?_⟩
   have ep:(s0.seen.all fun y=>decide ((y.t:Int)≠tm))=(s0.seen.all fun y=>Int.ofNat y.t != tm):=by
    congr 1
    funext y
    by_cases g:(y.t:Int)=tm
    ·simp[g]
    ·simp[g]
   rw[ep]
   walk_at "a"
   cases hall:s0.seen.all fun y=>Int.ofNat y.t != tm with
   | false =>
    rw[hall] at hstep
    refine aD ?_
    walk_at "a"
    exact aK (cH.after s02 (k' [-5] hstep (by simp)))
   | true =>
    rw[hall] at hstep
    have hstep:Vbreal.step ⟨l,t⟩ (.observe i tm e n)=Vbreal.asked ⟨l,t⟩ [(decide (s0.seen.length<20),-4)] (⟨l.set j { s0 with seen:=Vbreal.put ⟨tm.toNat,e,n⟩ s0.seen },t⟩,[Int.ofNat (s0.seen.length+1)]):=hstep
    refine aG ?_
    walk_at "a"
    refine⟨r,s0,rfl,hst2,?_⟩
    walk_at "a"
    refine w_ite (fun hf=>?_) (fun hf=>?_)
    ·rw[decide_eq_false (by omega)] at hstep
     walk_at "a"
     exact aK (cH.after s02 (k' [-4] hstep (by simp)))
    ·rw[decide_eq_true (by omega)] at hstep
     have hstep:Vbreal.step ⟨l,t⟩ (.observe i tm e n)=(⟨l.set j { s0 with seen:=Vbreal.put ⟨tm.toNat,e,n⟩ s0.seen },t⟩,[Int.ofNat (s0.seen.length+1)]):=hstep
     walk_at "a"
     refine aV (SqL.of (s02 _ _ hna)) (v:=.int tm) (aE (j:=1) rfl) ?_
     walk_at "a"
     refine aV (SqL.of (s02 _ _ hna)) (v:=.int e) (aE (j:=2) rfl) ?_
     walk_at "a"
     refine aV (SqL.of (s02 _ _ hna)) (v:=.int n) (aE (j:=3) rfl) ?_
     walk_at "a"
     refine mk_sight ⟨tm.toNat,e,n⟩ (by show tm=((tm.toNat:Nat):Int); omega) rfl rfl fun p H3 s3 hp3 hp=>?_
     have s03:=s02.trans s3
     walk_at "a"
     refine⟨r,s0,p,⟨tm.toNat,e,n⟩,rfl,hst.mono s03,hp,by omega,?_⟩
     have hno:∀ y∈s0.seen,y.t≠tm.toNat:=fun y hy g=>by
      have:=List.all_eq_true.mp hall y hy
      have e2:Int.ofNat y.t=tm:=by rw[g]; show((tm.toNat:Nat):Int)=tm; omega
      rw[e2] at this
      simp at this
     have D:=Done.put hw.we hw.sep s03 hri hlj hp hno sk.rise
     have hput:(Vbreal.put ⟨tm.toNat,e,n⟩ s0.seen).length=s0.seen.length+1:=WM.jG ..
     have wo2:WM.WOk (l.set j { s0 with seen:=Vbreal.put ⟨tm.toNat,e,n⟩ s0.seen }):=hw.wo.set (sk.put ⟨by show tm.toNat≤100000; omega,ho.2.1,ho.2.2⟩ (by omega) hno)
     generalize hr2:({ r with ss:=r.ss.take (WM.putAt tm.toNat s0.seen)++p::r.ss.drop (WM.putAt tm.toNat s0.seen) }:Rec)=r2 at D
     have er2:r2.p=r.p∧r2.sl=r.sl∧r2.ss=r.ss.take (WM.putAt tm.toNat s0.seen)++p::r.ss.drop (WM.putAt tm.toNat s0.seen):=by rw[← hr2]; exact⟨rfl,rfl,rfl⟩
     have rmem:=List.mem_of_getElem? hri
     have hslt:r.sl≠tb:=hw.tsep r rmem
     obtain⟨dx,hse⟩:=(hw.mono s03).sea
     have hssea:sea≠r.sl:=fun g=>by
      have:=(hst.mono s03).sl
      rw[← g,hse] at this
      cases this
     have fr:∀ b o,H b=some o→b≠r.sl→upd H3 r.sl (.lst ((r.ss.take (WM.putAt tm.toNat s0.seen)++p::r.ss.drop (WM.putAt tm.toNat s0.seen)).map V.ref)) b=some o:=fun b o g hb=>by
      rw[ay hb]; exact s03 _ _ g
     generalize hH4:upd H3 r.sl (.lst ((r.ss.take (WM.putAt tm.toNat s0.seen)++p::r.ss.drop (WM.putAt tm.toNat s0.seen)).map V.ref))=H4 at *
     have hw4:Wld Z H4 sea st (rs.set j r2) (l.set j { s0 with seen:=Vbreal.put ⟨tm.toNat,e,n⟩ s0.seen }) tb ts t:=by
      refine⟨⟨dx,by rw[← hH4,ay hssea]; exact hse⟩,D.we,D.sep,wo2,⟨fr _ _ hw.tab.lst (Ne.symm hslt),hw.tab.len,fun a b v hb hv=>fr _ _ (hw.tab.at_ a b v hb hv) fun g=>?_⟩,hw.tok,fun q hq=>?_⟩
      ·have e1:=hw.tab.at_ a b v hb hv
       unfold iz at e1
       rw[g,hst.sl] at e1
       cases e1
      ·rcases List.mem_or_eq_of_mem_set hq with g | rfl
       ·exact hw.tsep q g
       ·rw[er2.2.1]; exact hslt
     have hst4:eH Z H4 r2 { s0 with seen:=Vbreal.put ⟨tm.toNat,e,n⟩ s0.seen }:=D.we.at_ j r2 _ (List.getElem?_set_self hrl) (List.getElem?_set_self hjl)
     walk_at "a"
     rw[← er2.1]
     refine b8 hst4 T ?_
     walk_at "a"
     refine bV (SqL.of hst4.sl) ?_
     walk_at "a"
     refine⟨by show 1≤sizeLine; rw[aw]; omega,fun p2 hp2=>?_⟩
     rw[List.length_map,hst4.si.1]
     have hp2':H p2=none:=by
      cases g:H p2 with
      | none=>rfl
      | some o =>
       by_cases hb:p2=r.sl
       ·rw[hb,← er2.2.1,hst4.sl] at hp2
        cases hp2
       ·rw[fr p2 o g hb] at hp2
        cases hp2
     refine k p2 _ st (rs.set j r2) _ tb ts t (hw4.mono (ax.new hp2)) (by rw[hstep]) ?_ (by rw[hstep]; simp) ⟨.inl rfl,fun b o g _ hb=>ax.new hp2 _ _ (fr b o g (hb r rmem)),D.old,.inl rfl,hp2'⟩
     rw[hstep,ai,hput]
     rfl
def mJ(k:Nat)(p:Pnt):Prop:=p.x.natAbs<2^k∧p.y.natAbs<2^k
theorem iz.mono{H H':Hp}{a:Addr}{v:Pnt}(s:ax H H')(h:iz H a v):iz H' a v:=s _ _ h
theorem pt0(v:Pnt):atI [V.int v.x,V.int v.y] 0=some (.int v.x):=rfl
theorem pt1(v:Pnt):atI [V.int v.x,V.int v.y] 1=some (.int v.y):=rfl
def sp_pair(f:Pnt→Pnt→Int):Sp:=fun vs H Q _=>∃ (a b:Addr) (p q:Pnt) (j k:Nat),vs=[.ref a,.ref b]∧iz H a p∧iz H b q∧mJ j p∧mJ k q∧j+k≤100000∧Q (.int (f p q)) H
theorem ok_across(T:Txt K mg Z):a9 P w K mg base CX0 1 Z.a_across Z.d_across ["first", "second"] (sp_pair WM.d5):=by
 refine T.rz.fn.ok sc_across (fun vs H Q E h=>?_) (fun cdv A0 outer s H vs Q E hr h=>?_)
 ·revert h; walk_at "len"
 refine⟨_,(ah (ao (aF cX (aF aN (aI (aU (K:=K) rfl) (pv 0) aj (fun _ _=>rfl)) (aI (aU (K:=K) rfl) (pv 1) aj (fun _ _=>rfl))) (aF aN (aI (aU (K:=K) rfl) (pv 0) aj (fun _ _=>rfl)) (aI (aU (K:=K) rfl) (pv 1) aj (fun _ _=>rfl)))))),?_⟩
 obtain⟨a,b,p,q,i,j,rfl,ha,hb,bp,bq,hij,k⟩:=h
 refine bB (σ':=[some (.ref a),some (.ref b)]) ?_ rfl
 walk_at "a"
 refine b9 (SqT.of ha) (pt0 p) ?_
 walk_at "a"
 refine b9 (SqT.of hb) (pt1 q) ?_
 refine cn (bI bp.1 bq.2 (by omega)) ?_
 walk_at "a"
 refine b9 (SqT.of ha) (pt1 p) ?_
 walk_at "a"
 refine b9 (SqT.of hb) (pt0 q) ?_
 refine cn (bI bp.2 bq.1 (by omega)) ?_
 walk_at "a"
 exact k
theorem gL(T:Txt K mg Z):a9 P w K mg base CX0 1 Z.a_along Z.d_along ["first", "second"] (sp_pair WM.bU):=by
 refine T.ie.fn.ok sc_along (fun vs H Q E h=>?_) (fun cdv A0 outer s H vs Q E hr h=>?_)
 ·revert h; walk_at "len"
 refine⟨_,(ah (ao (aF dM (aF aN (aI (aU (K:=K) rfl) (pv 0) aj (fun _ _=>rfl)) (aI (aU (K:=K) rfl) (pv 1) aj (fun _ _=>rfl))) (aF aN (aI (aU (K:=K) rfl) (pv 0) aj (fun _ _=>rfl)) (aI (aU (K:=K) rfl) (pv 1) aj (fun _ _=>rfl)))))),?_⟩
 obtain⟨a,b,p,q,i,j,rfl,ha,hb,bp,bq,hij,k⟩:=h
 refine bB (σ':=[some (.ref a),some (.ref b)]) ?_ rfl
 walk_at "a"
 refine b9 (SqT.of ha) (pt0 p) ?_
 walk_at "a"
 refine b9 (SqT.of hb) (pt0 q) ?_
 refine cn (bI bp.1 bq.1 (by omega)) ?_
 walk_at "a"
 refine b9 (SqT.of ha) (pt1 p) ?_
 walk_at "a"
 refine b9 (SqT.of hb) (pt1 q) ?_
 refine cn (bI bp.2 bq.2 (by omega)) ?_
 walk_at "a"
 exact k
theorem fO{p q:Pnt}{j k:Nat}(hp:mJ j p)(hq:mJ k q):(WM.bU p q).natAbs<2^(j+k+1):=pk (aO hp.1 hq.1) (aO hp.2 hq.2)
theorem pC{p q:Pnt}{j k:Nat}(hp:mJ j p)(hq:mJ k q):(WM.d5 p q).natAbs<2^(j+k+1):=fj (aO hp.1 hq.2) (aO hp.2 hq.1)
theorem powOk{z:Int}{k:Nat}(h:z.natAbs<2^k)(hk:k≤1000000):CPowB z 2:=⟨by decide,by
 have:=bits_le h
 show(_:Int)≤134217728
 omega⟩
def sp_sign:Sp:=fun vs H Q _=>∃ z:Int,vs=[.int z]∧Q (.int (WM.sgn z)) H
theorem jD(T:Txt K mg Z):a9 P w K mg base CX0 1 Z.a_sign_code Z.d_sign_code ["number"] (sp_sign):=by
 refine T.iJ.fn.ok sc_sign_code (fun vs H Q E h=>?_) (fun cdv A0 outer s H vs Q E hr h=>?_)
 ·revert h; walk_at "len"
 refine⟨_,(ae (aP (aH i7 (pv 0) aj (aM _)) (ah (ao aj)) aA) (ae (aP (aH iA (pv 0) aj (aM _)) (ah (ao aj)) aA) (ah (ao aj)))),?_⟩
 obtain⟨z,rfl,k⟩:=h
 refine bB (σ':=[some (.int z)]) ?_ rfl
 unfold WM.sgn at k
 walk_at "a"
 refine w_ite (fun h1=>?_) (fun h1=>?_)
 ·rw[if_pos (by omega)] at k
  walk_at "a"
  exact k
 ·rw[if_neg (by omega)] at k
  walk_at "a"
  refine w_ite (fun h2=>?_) (fun h2=>?_)
  ·rw[if_pos h2] at k
   walk_at "a"
   exact k
  ·rw[if_neg h2] at k
   walk_at "a"
   exact k
def sp_sine(Z:Ad):Sp:=fun vs H Q _=>∃ (a b:Addr) (p q:Pnt) (k:Nat),vs=[.ref a,.ref b]∧iz H a p∧iz H b q∧mJ k p∧mJ k q∧k≤2000∧1≤WM.bU p p∧1≤WM.bU q q∧RetR Z H Q (Rat.divInt (WM.d5 p q^2) (WM.bU p p*WM.bU q q))
theorem ok_sine_square(T:Txt K mg Z):a9 P w K mg base CX0 4 Z.nN Z.nO ["first", "second"] (sp_sine Z):=by
 refine T.n8.fn.ok sc_sine_square (fun vs H Q E h=>?_) (fun cdv A0 outer s H vs Q E hr h=>?_)
 ·revert h; walk_at "len"
 refine⟨_,(ah (ao (ck T.aQ.make (bx T) (hr.mono (by decide)) rfl T.aQ.mg T.aQ.bind .nil eA (ab (aF op_powB (ag T.rz (ok_across T) hr (ab (pv 0) (ab (pv 1) af))) aj) (ab (aF aN (ag T.ie (gL T) hr (ab (pv 0) (ab (pv 0) af))) (ag T.ie (gL T) hr (ab (pv 1) (ab (pv 1) af)))) af))))),?_⟩
 obtain⟨a,b,p,q,j,rfl,ha,hb,bp,bq,hj,h1,h2,k⟩:=h
 refine bB (σ':=[some (.ref a),some (.ref b)]) ?_ rfl
 have d1:=fO bp bp
 have d2:=fO bq bq
 walk_at "a"
 refine⟨a,b,p,q,j,j,rfl,ha,hb,bp,bq,by omega,?_⟩
 walk_at "a"
 refine cn (powOk (pC bp bq) (by omega)) ?_
 walk_at "a"
 refine⟨a,a,p,p,j,j,rfl,ha,ha,bp,bp,by omega,?_⟩
 walk_at "a"
 refine⟨b,b,q,q,j,j,rfl,hb,hb,bq,bq,by omega,?_⟩
 walk_at "a"
 refine cn (bI d1 d2 (by omega)) ?_
 walk_at "a"
 exact dF (Int.mul_ne_zero (by omega) (by omega)) (bA (aO d1 d2) (by omega)) fun x H1 s1 hx=>k x H1 s1 hx
def beyond(p q:Pnt)(t b:Int):Bool:=decide (WM.bU p q≤0) || decide (WM.bU p q*t<((WM.d5 p q).natAbs:Int)*b)
def sp_beyond:Sp:=fun vs H Q _=>∃ (a b:Addr) (p q:Pnt) (k:Nat) (t u:Int),vs=[.ref a,.ref b,.int t,.int u]∧iz H a p∧iz H b q∧mJ k p∧mJ k q∧k≤10000∧t.natAbs<2^20∧u.natAbs<2^20∧Q (.bl (beyond p q t u)) H
theorem mK(T:Txt K mg Z):a9 P w K mg base CX0 2 Z.gU Z.gW ["first", "second", "top", "bottom"] (sp_beyond):=by
 refine T.gX.fn.ok mH (fun vs H Q E h=>?_) (fun cdv A0 outer s H vs Q E hr h=>?_)
 ·revert h; walk_at "len"
 refine⟨_,(ae (aP (aH oK (ag T.ie (gL T) hr (ab (pv 0) (ab (pv 1) af))) aj (aM _)) (ah (ao fc)) aA) (ah (ao (ko i7 (aF aN (aT su rfl T.n_abs sq (ab (ag T.rz (ok_across T) hr (ab (pv 0) (ab (pv 1) af))) af)) (pv 3)) (aF aN (ag T.ie (gL T) hr (ab (pv 0) (ab (pv 1) af))) (pv 2)) (aM _))))),?_⟩
 obtain⟨a,b,p,q,j,t,u,rfl,ha,hb,bp,bq,hj,ht,hu,k⟩:=h
 refine bB (σ':=[some (.ref a),some (.ref b),some (.int t),some (.int u)]) ?_ rfl
 unfold beyond at k
 walk_at "a"
 refine⟨a,b,p,q,j,j,rfl,ha,hb,bp,bq,by omega,?_⟩
 walk_at "a"
 refine w_ite (fun h1=>?_) (fun h1=>?_)
 ·rw[decide_eq_true h1,Bool.true_or] at k
  walk_at "a"
  exact k
 ·rw[decide_eq_false h1,Bool.false_or] at k
  walk_at "a"
  refine⟨a,b,p,q,j,j,rfl,ha,hb,bp,bq,by omega,?_⟩
  walk_at "a"
  refine cn (bI (j:=j+j+1) (by rw[Int.natAbs_natCast]; exact pC bp bq) hu (by omega)) ?_
  walk_at "a"
  refine⟨a,b,p,q,j,j,rfl,ha,hb,bp,bq,by omega,?_⟩
  walk_at "a"
  refine cn (bI (fO bp bq) ht (by omega)) ?_
  walk_at "a"
  exact k
def sp_steps:Sp:=fun vs H Q _=>∃ (S:Int) (d:Nat) (k:Nat),vs=[.int S,.int (d:Int)]∧1≤S∧S.natAbs<2^k∧k≤100000∧1≤d∧d≤100000∧∀ n:Nat,n≤100000→n=Vbreal.rootUp S.toNat (d*d) 40 1 (d+1)→Q (.int (n:Int)) H
theorem pow_two(z:Int):z^(2:Int).toNat=z*z:=by
 show z^2=z*z
 rw[Int.pow_succ,Int.pow_one]
def gapI(σ:List (Option V)):Nat:=ixI σ 3-ixI σ 2
theorem ok_least_steps(T:Txt K mg Z):a9 P w K mg base CX0 1 Z.nQ Z.nR ["square", "distance"] (sp_steps):=by
 refine T.n9.fn.ok dI (fun vs H Q E h=>?_) (fun cdv A0 outer s H vs Q E hr h=>?_)
 ·revert h; walk_at "len"
 refine⟨_,(ae (az (i:=2) dI.nd rfl (Or.inl rfl) aj) (ae (az (i:=3) dI.nd rfl (Or.inl rfl) (pv 1)) (ae (qX PassesOwn.never (aH i7 (aF cX (pv 3) (pv 2)) aj (aM _)) (ae (az (i:=4) dI.nd rfl (Or.inl rfl) (aF jh (aF dM (pv 2) (pv 3)) aj)) (ah (aP (aH op_ge (aF aN (aF op_powB (pv 4) aj) (pv 0)) (aF op_powB (pv 1) aj) (aM _)) (ah (az (i:=3) dI.nd rfl (Or.inl rfl) (pv 4))) (ah (az (i:=2) dI.nd rfl (Or.inl rfl) (pv 4))))))) (ah (ao (pv 3)))))),?_⟩
 obtain⟨S,d,j,rfl,hS,bS,hj,hd1,hd2,k⟩:=h
 refine bB (σ':=[some (.int S),some (.int (d:Int)),none,none,none]) ?_ rfl
 have bsm:∀ {n:Nat},n≤100000→((n:Nat):Int).natAbs<2^17:=fun {n} h=>by
  show _<131072
  omega
 have h0:(d:Int)*d≤(d:Int)*d*S:=by
  have:=Int.mul_le_mul_of_nonneg_left hS (WM.sq_nonneg (d:Int))
  rwa [Int.mul_one] at this
 walk_at "a"
 refine while_w (fun σ H'=>∃ (a b:Nat) (r:Option V),σ=[some (.int S),some (.int (d:Int)),some (.int (a:Int)),some (.int (b:Int)),r]∧H' = H∧a<b∧b≤d∧(d:Int)*d≤(b:Int)*b*S∧(a=0∨(a:Int)*a*S<(d:Int)*d)) (fun σ _=>gapI σ) ⟨0,d,_,rfl,rfl,by omega,by omega,h0,.inl rfl⟩ ?_
 rintro σ H' ⟨a,b,r,rfl,rfl,hab,hbd,hb,ha⟩
 walk_at "a"
 refine w_ite (fun h1=>?_) (fun h1=>?_)
 ·refine w_turn ?_
  walk_at "a"
  refine cn (show CDivB _ 2 from⟨by decide,by decide⟩) ?_
  have em:((a:Int)+(b:Int)).fdiv 2=(((a+b) / 2:Nat):Int):=by
   rw[Int.fdiv_eq_ediv_of_nonneg _ (by decide)]
   omega
  rw[em]
  have m1:a<(a+b) / 2:=by omega
  have m2:(a+b) / 2<b:=by omega
  generalize (a+b) / 2=m at *
  walk_at "a"
  refine cn (powOk (bsm (show m≤100000 by omega)) (by decide)) ?_
  walk_at "a"
  rw[pow_two]
  refine cn (bI (aO (bsm (show m≤100000 by omega)) (bsm (show m≤100000 by omega))) bS (by omega)) ?_
  walk_at "a"
  refine cn (powOk (bsm hd2) (by decide)) ?_
  walk_at "a"
  rw[pow_two]
  refine w_ite (fun h2=>?_) (fun h2=>?_)
  ·walk_at "a"
   exact⟨⟨a,m,_,rfl,rfl,m1,by omega,h2,ha⟩,by show(m:Int).natAbs-(a:Int).natAbs<(b:Int).natAbs-(a:Int).natAbs; omega⟩
  ·walk_at "a"
   exact⟨⟨m,b,_,rfl,rfl,m2,hbd,hb,.inr (by omega)⟩,by show(b:Int).natAbs-(m:Int).natAbs<(b:Int).natAbs-(a:Int).natAbs; omega⟩
 ·walk_at "a"
  exact k b (by omega) (WM.rootUp_eq hS hd2 (show b=a+1 by omega) hb ha).symm
def portP(h p:Pnt)(d:Nat):Pnt:=⟨p.x+(Vbreal.rootUp (WM.bU h h).toNat (d*d) 40 1 (d+1):Nat)*h.y,p.y-(Vbreal.rootUp (WM.bU h h).toNat (d*d) 40 1 (d+1):Nat)*h.x⟩
def sp_port:Sp:=fun vs H Q _=>∃ (a b:Addr) (h p:Pnt) (d:Nat) (k:Nat),vs=[.ref a,.ref b,.int (d:Int)]∧iz H a h∧iz H b p∧mJ k h∧k≤10000∧1≤WM.bU h h∧1≤d∧d≤100000∧∀ q H',ax H H'→iz H' q (portP h p d)→Q (.ref q) H'
theorem ok_port_end(T:Txt K mg Z):a9 P w K mg base CX0 2 Z.a_port_end Z.d_port_end ["heading", "place", "distance"] (sp_port):=by
 refine T.f_port_end.fn.ok sc_port_end (fun vs H Q E h=>?_) (fun cdv A0 outer s H vs Q E hr h=>?_)
 ·revert h; walk_at "len"
 refine⟨_,(ae (az (i:=3) sc_port_end.nd rfl (Or.inl rfl) (ag T.n9 (ok_least_steps T) hr (ab (ag T.ie (gL T) hr (ab (pv 0) (ab (pv 0) af))) (ab (pv 2) af)))) (ah (ao (ku (ab (aF dM (aI (aU (K:=K) rfl) (pv 1) aj (fun _ _=>rfl)) (aF aN (pv 3) (aI (aU (K:=K) rfl) (pv 0) aj (fun _ _=>rfl)))) (ab (aF cX (aI (aU (K:=K) rfl) (pv 1) aj (fun _ _=>rfl)) (aF aN (pv 3) (aI (aU (K:=K) rfl) (pv 0) aj (fun _ _=>rfl)))) af)))))),?_⟩
 obtain⟨a,b,h,p,d,j,rfl,ha,hb,bh,hj,hD,hd1,hd2,k⟩:=h
 refine bB (σ':=[some (.ref a),some (.ref b),some (.int (d:Int)),none]) ?_ rfl
 unfold portP at k
 walk_at "a"
 refine⟨a,a,h,h,j,j,rfl,ha,ha,bh,bh,by omega,?_⟩
 walk_at "a"
 refine⟨_,d,j+j+1,rfl,hD,fO bh bh,by omega,hd1,hd2,fun n hn e=>?_⟩
 rw[← e] at k
 have bn:((n:Nat):Int).natAbs<2^17:=by
  show _<131072
  omega
 walk_at "a"
 refine b9 (SqT.of hb) (pt0 p) ?_
 walk_at "a"
 refine b9 (SqT.of ha) (pt1 h) ?_
 refine cn (bI bn bh.2 (by omega)) ?_
 walk_at "a"
 refine b9 (SqT.of hb) (pt1 p) ?_
 walk_at "a"
 refine b9 (SqT.of ha) (pt0 h) ?_
 refine cn (bI bn bh.1 (by omega)) ?_
 walk_at "a"
 exact⟨by show 2≤sizeLine; rw[aw]; omega,fun q hq=>k q _ (ax.new hq) ai⟩
def sp_lead:Sp:=fun vs H Q _=>∃ (a b c:Addr) (h p q:Pnt) (k:Nat),vs=[.ref a,.ref b,.ref c]∧iz H a h∧iz H b p∧iz H c q∧mJ k h∧k≤10000∧mJ 20 ⟨q.x-p.x,q.y-p.y⟩∧∀ H',ax H H'→Q (.int (WM.bU h ⟨q.x-p.x,q.y-p.y⟩)) H'
theorem ok_lead_against(T:Txt K mg Z):a9 P w K mg base CX0 2 Z.lr Z.lu ["heading", "first", "second"] (sp_lead):=by
 refine T.lK.fn.ok sc_lead_against (fun vs H Q E h=>?_) (fun cdv A0 outer s H vs Q E hr h=>?_)
 ·revert h; walk_at "len"
 refine⟨_,(ah (ao (ag T.ie (gL T) hr (ab (pv 0) (ab (ku (ab (aF cX (aI (aU (K:=K) rfl) (pv 2) aj (fun _ _=>rfl)) (aI (aU (K:=K) rfl) (pv 1) aj (fun _ _=>rfl))) (ab (aF cX (aI (aU (K:=K) rfl) (pv 2) aj (fun _ _=>rfl)) (aI (aU (K:=K) rfl) (pv 1) aj (fun _ _=>rfl))) af))) af))))),?_⟩
 obtain⟨a,b,c,h,p,q,j,rfl,ha,hb,hc,bh,hj,bd,k⟩:=h
 refine bB (σ':=[some (.ref a),some (.ref b),some (.ref c)]) ?_ rfl
 walk_at "a"
 refine b9 (SqT.of hc) (pt0 q) ?_
 walk_at "a"
 refine b9 (SqT.of hb) (pt0 p) ?_
 walk_at "a"
 refine b9 (SqT.of hc) (pt1 q) ?_
 walk_at "a"
 refine b9 (SqT.of hb) (pt1 p) ?_
 walk_at "a"
 refine⟨by show 2≤sizeLine; rw[aw]; omega,fun t ht=>?_⟩
 walk_at "a"
 exact⟨a,t,h,⟨q.x-p.x,q.y-p.y⟩,j,20,rfl,ha.mono (ax.new ht),ai,bh,bd,by omega,k _ (ax.new ht)⟩
def sp_leadsq(Z:Ad):Sp:=fun vs H Q _=>∃ (a:Addr) (h:Pnt) (z:Int) (k:Nat),vs=[.ref a,.int z]∧iz H a h∧mJ k h∧k≤2000∧1≤WM.bU h h∧z.natAbs<2^10000∧RetR Z H Q (Rat.divInt (z^2) (WM.bU h h))
theorem ok_lead_square(T:Txt K mg Z):a9 P w K mg base CX0 4 Z.nS Z.nU ["heading", "lead"] (sp_leadsq Z):=by
 refine T.oe.fn.ok sc_lead_square (fun vs H Q E h=>?_) (fun cdv A0 outer s H vs Q E hr h=>?_)
 ·revert h; walk_at "len"
 refine⟨_,(ah (ao (ck T.aQ.make (bx T) (hr.mono (by decide)) rfl T.aQ.mg T.aQ.bind .nil eA (ab (aF op_powB (pv 1) aj) (ab (ag T.ie (gL T) hr (ab (pv 0) (ab (pv 0) af))) af))))),?_⟩
 obtain⟨a,h,z,j,rfl,ha,bh,hj,hD,hz,k⟩:=h
 refine bB (σ':=[some (.ref a),some (.int z)]) ?_ rfl
 walk_at "a"
 refine cn (powOk hz (by decide)) ?_
 walk_at "a"
 refine⟨a,a,h,h,j,j,rfl,ha,ha,bh,bh,by omega,?_⟩
 walk_at "a"
 exact dF (by omega) (bA (fO bh bh) (by omega)) fun x H1 s1 hx=>k x H1 s1 hx
def sp_heading(Z:Ad):Sp:=fun vs H Q _=>∃ (a:Addr) (w:Rat×Rat) (k:Nat),vs=[.ref a]∧gM Z H a w∧¬ (w.1.num=0∧w.2.num=0)∧WM.Bd k w.1∧WM.Bd k w.2∧k≤4000∧∀ p H',ax H H'→iz H' p (WM.hd w)→Q (.ref p) H'
theorem gcd_small{a b:Int}{k:Nat}(h0:Nat.gcd a.natAbs b.natAbs≠0)(ha:a.natAbs<2^k)(hb:b.natAbs<2^k):Nat.gcd a.natAbs b.natAbs<2^k:=by
 by_cases h:a.natAbs=0
 ·have h2:b.natAbs≠0:=fun g=>h0 (by rw[h,g]; rfl)
  exact Nat.lt_of_le_of_lt (Nat.le_of_dvd (by omega) (Nat.gcd_dvd_right _ _)) hb
 ·exact Nat.lt_of_le_of_lt (Nat.le_of_dvd (by omega) (Nat.gcd_dvd_left _ _)) ha
theorem d7(T:Txt K mg Z):a9 P w K mg base CX0 2 Z.qe Z.qf ["wind"] (sp_heading Z):=by
 refine T.dQ.fn.ok f9 (fun vs H Q E h=>?_) (fun cdv A0 outer s H vs Q E hr h=>?_)
 ·revert h; walk_at "len"
 refine⟨_,(ae (az (i:=1) f9.nd rfl (Or.inl rfl) (aF aN (ak (K:=K) rfl (ak (K:=K) rfl (pv 0) rfl) rfl) (ak (K:=K) rfl (ak (K:=K) rfl (pv 0) rfl) rfl))) (ae (az (i:=2) f9.nd rfl (Or.inl rfl) (aF aN (ak (K:=K) rfl (ak (K:=K) rfl (pv 0) rfl) rfl) (ak (K:=K) rfl (ak (K:=K) rfl (pv 0) rfl) rfl))) (ae (az (i:=3) f9.nd rfl (Or.inl rfl) (ag T.eW (gJ T) hr (ab (pv 1) (ab (pv 2) af)))) (ah (ao (ku (ab (aF jh (pv 1) (pv 3)) (ab (aF jh (pv 2) (pv 3)) af)))))))),?_⟩
 obtain⟨a,w,j,rfl,ha,hc,b1,b2,hj,k⟩:=h
 refine bB (σ':=[some (.ref a),none,none,none]) ?_ rfl
 obtain⟨hg,he⟩:=WM.hd_eq w hc
 rw[he] at k
 have hlog:(Nat.gcd (w.1.num*(w.2.den:Int)).natAbs (w.2.num*(w.1.den:Int)).natAbs).log2<9000:=(Nat.log2_lt hg).mpr (bA (gcd_small hg (aO b1.1 (Bd.den b2)) (aO b2.1 (Bd.den b1))) (by omega))
 walk_at "a"
 refine dN ha T fun x1 hx1=>?_
 refine b6 hx1 T ?_
 walk_at "a"
 refine cY ha T fun y1 hy1=>?_
 refine aY hy1 T ?_
 refine cn (bI b1.1 (Bd.den b2) (by omega)) ?_
 walk_at "a"
 refine cY ha T fun y2 hy2=>?_
 refine b6 hy2 T ?_
 walk_at "a"
 refine dN ha T fun x2 hx2=>?_
 refine aY hx2 T ?_
 refine cn (bI b2.1 (Bd.den b1) (by omega)) ?_
 walk_at "a"
 refine⟨_,_,rfl,?_⟩
 generalize Nat.gcd (w.1.num*(w.2.den:Int)).natAbs (w.2.num*(w.1.den:Int)).natAbs=g at *
 have hD:∀ z:Int,CDivB z (g:Int):=fun z=>⟨by omega,by rw[Int.natAbs_natCast]; exact hlog⟩
 walk_at "a"
 refine cn (hD _) ?_
 walk_at "a"
 refine cn (hD _) ?_
 walk_at "a"
 rw[Int.fdiv_eq_ediv_of_nonneg _ (Int.natCast_nonneg g),Int.fdiv_eq_ediv_of_nonneg _ (Int.natCast_nonneg g)]
 exact⟨by show 2≤sizeLine; rw[aw]; omega,fun p hp=>k p _ (ax.new hp) ai⟩
def sp_square(Z:Ad):Sp:=fun vs H Q _=>∃ (a:Addr) (w:Rat×Rat) (k:Nat),vs=[.ref a]∧gM Z H a w∧WM.Bd k w.1∧WM.Bd k w.2∧k≤2000∧RetR Z H Q (WM.ssQ w)
theorem ok_square_of(T:Txt K mg Z):a9 P w K mg base CX0 5 Z.a_square_of Z.d_square_of ["wind"] (sp_square Z):=by
 refine T.f_square_of.fn.ok sc_square_of (fun vs H Q E h=>?_) (fun cdv A0 outer s H vs Q E hr h=>?_)
 ·revert h; walk_at "len"
 refine⟨_,(ah (ao (ag T.bY (bX T) hr (ab (ag T.bJ (bN T) hr (ab (ak (K:=K) rfl (pv 0) rfl) (ab (ak (K:=K) rfl (pv 0) rfl) af))) (ab (ag T.bJ (bN T) hr (ab (ak (K:=K) rfl (pv 0) rfl) (ab (ak (K:=K) rfl (pv 0) rfl) af))) af))))),?_⟩
 obtain⟨a,w,j,rfl,ha,b1,b2,hj,k⟩:=h
 refine bB (σ':=[some (.ref a)]) ?_ rfl
 walk_at "a"
 refine dN ha T fun x1 hx1=>?_
 walk_at "a"
 refine dN ha T fun x2 hx2=>?_
 walk_at "a"
 refine⟨x1,x2,_,_,j,j,rfl,hx1,hx2,b1,b1,by omega,fun p1 H1 s1 hp1=>?_⟩
 walk_at "a"
 refine cY (ha.mono s1) T fun y1 hy1=>?_
 walk_at "a"
 refine cY (ha.mono s1) T fun y2 hy2=>?_
 walk_at "a"
 refine⟨y1,y2,_,_,j,j,rfl,hy1,hy2,b2,b2,by omega,fun p2 H2 s2 hp2=>?_⟩
 walk_at "a"
 exact⟨p1,p2,_,_,_,_,rfl,hp1.mono s2,hp2,Bd.mul b1 b1,Bd.mul b2 b2,by omega,fun p H3 s3 hp=>k p H3 ((s1.trans s2).trans s3) hp⟩
theorem spkW_fst(m:Rat):∀ (l:List Stn) (i:Nat),(WM.spkW m i l).map (·.1)=eN m i l
 | [],i=>rfl
 | s::r,i=>by
  have ih:=spkW_fst m r (i+1)
  unfold WM.spkW eN
  cases hw:WM.bL s.seen m with
  | none =>
   rw[if_neg (by simp)]
   exact ih
  | some w =>
   rw[if_pos (c:=(some w).isSome=true) rfl]
   show(i+1)::_=_
   rw[ih]
theorem spkW_mem(m:Rat):∀ (l:List Stn) (i:Nat) {x:Nat×Rat},x∈WM.spkW m i l→∃ (j:Nat) (s:Stn) (w:Rat×Rat),l[j]? = some s∧WM.bL s.seen m=some w∧x=(i+j+1,WM.ssQ w)
 | [],i,x,h=>by cases h
 | s::r,i,x,h=>by
  unfold WM.spkW at h
  have ih:=fun hx=>spkW_mem m r (i+1) (x:=x) hx
  have step:x∈WM.spkW m (i+1) r→∃ (j:Nat) (s0:Stn) (w:Rat×Rat),(s::r)[j]? = some s0∧WM.bL s0.seen m=some w∧x=(i+j+1,WM.ssQ w):=fun hx=>by
   obtain⟨j,s0,w,h1,h2,h3⟩:=ih hx
   refine⟨j+1,s0,w,by rw[List.getElem?_cons_succ]; exact h1,h2,?_⟩
   rw[h3,show i+1+j+1=i+(j+1)+1 by omega]
  cases hw:WM.bL s.seen m with
  | none =>
   rw[hw] at h
   exact step h
  | some w =>
   rw[hw] at h
   rcases List.mem_cons.mp h with e | e
   ·exact⟨0,s,w,rfl,hw,e⟩
   ·exact step e
def OptB(Z:Ad)(H:Hp)(v:V):Option (Nat×Rat)→Prop
 | none=>v = .non
 | some x=>∃ t p,v = .ref t∧H t=some (.tup [.int (x.1:Int),.ref p])∧a7 Z H p x.2∧WM.Bd 200 x.2
theorem OptB.mono{Z:Ad}{H H':Hp}{v:V}(s:ax H H'):∀ {o:Option (Nat×Rat)},OptB Z H v o→OptB Z H' v o
 | none,h=>h
 | some q,h=>by
  obtain⟨t,p,e,h1,h2,h3⟩:=h
  exact⟨t,p,e,s _ _ h1,h2.mono s,h3⟩
def sp_strongest_at(Z:Ad):Sp:=fun vs H Q _=>∃ (a c:Addr) (rs:List Rec) (l:List Stn) (m:Rat),vs=[.ref a,.ref c]∧kj Z H a rs l∧WM.WOk l∧a7 Z H c m∧WM.Bd 17 m∧∀ v H',ax H H'→OptB Z H' v ((WM.spkW m 0 l).foldl WM.gI none)→Q v H'
theorem ok_strongest_at(T:Txt K mg Z):a9 P w K mg base CX0 7 Z.k3 Z.k4 ["stations", "moment"] (sp_strongest_at Z):=by
 refine T.lG.fn.ok dX (fun vs H Q E h=>?_) (fun cdv A0 outer s H vs Q E hr h=>?_)
 ·revert h; walk_at "len"
 refine⟨_,(ae (az (i:=2) dX.nd rfl (Or.inl rfl) ek) (ae (cW PassesOwn.never rfl (bD (K:=K) rfl (ag T.o8 (ok_speaking T) hr (ab (pv 0) (ab (pv 1) af)))) (aZ (i:=3) dX.nd rfl (Or.inl rfl)) (ae (az (i:=4) dX.nd rfl (Or.inl rfl) (ag T.f_square_of (ok_square_of T) hr (ab (ag T.cU (di T) hr (ab (aI (aB (K:=K) rfl) (pv 0) (aF cX (pv 3) aj) (fun _ _=>rfl)) (ab (pv 1) af))) af))) (ah (aP (PW.pt (dJ (cN (cV (pv 2))) (dw (br (ag T.f_is_less (ok_is_less T) hr (ab (aI (aU (K:=K) rfl) (pv 2) aj (fun _ _=>rfl)) (ab (pv 4) af))))))) (ah (az (i:=2) dX.nd rfl (Or.inl rfl) (ku (ab (pv 3) (ab (pv 4) af))))) aA)))) (ah (ao (pv 2))))),?_⟩
 obtain⟨a,c,rs,l,m,rfl,ha,wo,hc,bm,k⟩:=h
 refine bB (σ':=[some (.ref a),some (.ref c),none,none,none]) ?_ rfl
 walk_at "a"
 refine⟨a,c,rs,l,m,17,rfl,ha,wo,hc,bm,by omega,fun p1 H1 s1 hp1 hpe=>?_⟩
 refine⟨p1,rfl,⟨_,SqL.of hpe⟩,?_⟩
 refine bQ (K:=K) (a:=p1) (xs:=nb (eN m 0 l)) (fun i σ H'=>∃ (bv:V) (v1 v2:Option V),σ=[some (.ref a),some (.ref c),some bv,v1,v2]∧ax H1 H'∧OptB Z H' bv (((WM.spkW m 0 l).take i).foldl WM.gI none))
  ⟨_,_,_,rfl,ax.refl _,rfl⟩ (fun i σ H' _ ⟨_,_,_,_,s',_⟩=>SqL.of (s' _ _ hpe)) ?_ ?_
 ·rintro i y σ H' hi ⟨bv,v1,v2,rfl,s',hb⟩
  obtain⟨n,hn,rfl⟩:=oj hi
  rw[← spkW_fst,List.getElem?_map] at hn
  obtain⟨x,hx,rfl⟩:=Option.map_eq_some_iff.mp hn
  rw[take_snoc hx,List.foldl_append]
  obtain⟨j,s,w,hs,hw,hxe⟩:=spkW_mem m l 0 (List.mem_of_getElem? hx)
  generalize ((WM.spkW m 0 l).take i).foldl WM.gI none=o at *
  subst hxe
  have hjl:j<l.length:=(List.getElem?_eq_some_iff.mp hs).1
  have hrl:j<rs.length:=by rw[ha.len]; exact hjl
  have hri:=List.getElem?_eq_getElem hrl
  have s01:=s1.trans s'
  have hst:=(ha.at_ j _ s hri hs).mono s01
  have sk:=wo.each s (List.mem_of_getElem? hs)
  obtain⟨bw1,bw2⟩:=wind_bd sk bm hw
  generalize rs[j]=r at *
  have en:((0+j+1:Nat):Int)-1=(j:Int):=by omega
  walk_at "a"
  rw[en]
  refine aV (SqL.of (s01 _ _ ha.lst)) (v:=.ref r.p) (aE (by rw[List.getElem?_map,hri]; rfl)) ?_
  walk_at "a"
  refine⟨r,c,s,m,17,rfl,hst,sk,hc.mono s01,bm,by omega,fun v H2 s2 hv=>?_⟩
  rw[hw] at hv
  obtain⟨wa,rfl,hwa⟩:=hv
  walk_at "a"
  refine⟨wa,w,17+27,rfl,hwa,bw1,bw2,by omega,fun q H3 s3 hq=>?_⟩
  have bq:WM.Bd 200 (WM.ssQ w):=Bd.up (Bd.add (Bd.mul bw1 bw1) (Bd.mul bw2 bw2)) (by omega)
  have s23:=s2.trans s3
  walk_at "a"
  have new:∀ H4,ax H3 H4→∃ (_:2≤sizeLine),∀ t,H4 t=none→ax H1 (upd H4 t (.tup [.int ((0+j+1:Nat):Int),.ref q]))∧OptB Z (upd H4 t (.tup [.int ((0+j+1:Nat):Int),.ref q])) (.ref t) (some (0+j+1,WM.ssQ w)):=fun H4 s4 =>
   ⟨by rw[aw]; omega,fun t ht=>⟨((s'.trans s23).trans s4).trans (ax.new ht),t,q,rfl,ai,(hq.mono s4).mono (ax.new ht),bq⟩⟩
  cases o with
  | none =>
   have hb:bv = .non:=hb
   rw[decide_eq_true hb]
   refine aD ?_
   refine aD ?_
   walk_at "a"
   obtain⟨z1,z2⟩:=new H3 (ax.refl _)
   exact⟨z1,fun t ht=>⟨_,_,_,rfl,(z2 t ht).1,(z2 t ht).2⟩⟩
  | some y =>
   have hb3:=hb.mono s23
   obtain⟨t,p,rfl,ht,hp,bp⟩:=hb3
   rw[decide_eq_false (by intro g; cases g)]
   refine aG ?_
   walk_at "a"
   refine b9 (SqT.of ht) (v:=.ref p) rfl ?_
   walk_at "a"
   refine⟨p,q,y.2,WM.ssQ w,200,200,rfl,hp,hq,bp,bq,by omega,?_⟩
   walk_at "a"
   refine w_ite (fun h1=>?_) (fun h1=>?_)
   ·walk_at "a"
    obtain⟨z1,z2⟩:=new H3 (ax.refl _)
    refine⟨z1,fun t ht=>⟨_,_,_,rfl,(z2 t ht).1,?_⟩⟩
    show OptB Z _ _ (if y.2<WM.ssQ w then _ else _)
    rw[if_pos h1]
    exact(z2 t ht).2
   ·walk_at "a"
    refine⟨_,_,_,rfl,s'.trans s23,?_⟩
    show OptB Z _ _ (if y.2<WM.ssQ w then _ else _)
    rw[if_neg h1]
    exact hb.mono s23
 ·rintro σ H' ⟨bv,v1,v2,rfl,s',hb⟩
  rw[aL,← spkW_fst,List.length_map,List.take_length] at hb
  walk_at "a"
  exact k bv H' (s1.trans s') hb
theorem mids_snoc(a b:Nat)(l:List Sn)(z:Sn):WM.iX a b (l++[z])=WM.iX a b l++if a<z.t∧z.t<b then [z.t] else []:=by
 unfold WM.iX
 rw[List.filter_append,List.map_append]
 congr 1
 by_cases h:a<z.t∧z.t<b
 ·rw[if_pos h,List.filter_cons,if_pos (by simpa using h)]; rfl
 ·rw[if_neg h,List.filter_cons,if_neg (by simpa using h)]; rfl
theorem mids_len(a b:Nat)(l:List Sn):(WM.iX a b l).length≤l.length:=by
 unfold WM.iX
 rw[List.length_map]
 exact List.length_filter_le ..
theorem mids_range{a b:Nat}{l:List Sn}{m:Nat}(h:m∈WM.iX a b l):a<m∧m<b:=by
 unfold WM.iX at h
 obtain⟨z,hz,rfl⟩:=List.mem_map.mp h
 have:=(List.mem_filter.mp hz).2
 simpa using this
def eh(a b:Nat)(l:List Sn):List Nat:=a::(WM.iX a b l++[b])
theorem moments_range{a b:Nat}(hab:a<b){l:List Sn}{m:Nat}(h:m∈eh a b l):a≤m∧m≤b:=by
 unfold eh at h
 rcases List.mem_cons.mp h with e | e
 ·omega
 ·rcases List.mem_append.mp e with e | e
  ·have:=mids_range e
   omega
  ·rw[List.mem_singleton.mp e]; omega
def qV(s:Stn)(a b:Nat):Rat×Rat:=(WM.eO (WM.Wc s.seen (·.1)) ((b:Int)-a) (eh a b s.seen),WM.eO (WM.Wc s.seen (·.2)) ((b:Int)-a) (eh a b s.seen))
def sp_mean_wind(Z:Ad):Sp:=fun vs H Q _=>∃ (r:Rec) (s:Stn) (a b:Nat),vs=[.ref r.p,.int (a:Int),.int (b:Int)]∧eH Z H r s∧WM.StOk s∧a<b∧b≤100000∧(WM.bL s.seen (a:Rat)).isSome=true∧(WM.bL s.seen (b:Rat)).isSome=true ∧
 ∀ p H',ax H H'→gM Z H' p (qV s a b)→WM.Bd 3000 (qV s a b).1→WM.Bd 3000 (qV s a b).2→Q (.ref p) H'
theorem meanSum_cons(W:Nat→Rat)(d:Int)(p q:Nat)(r:List Nat):WM.eO W d (p::q::r)=Rat.divInt ((q:Int)-p) (2*d)*(W p+W q)+WM.eO W d (q::r):=rfl
theorem ok_mean_wind(T:Txt K mg Z):a9 P w K mg base CX0 6 Z.a_mean_wind Z.d_mean_wind ["station", "start", "end"] (sp_mean_wind Z):=by
 refine T.f_mean_wind.fn.ok bH (fun vs H Q E h=>?_) (fun cdv A0 outer s H vs Q E hr h=>?_)
 ·revert h; walk_at "len"
 refine⟨_,(ae (az (i:=3) bH.nd rfl (Or.inl rfl) (aF jf (aF jf (aJ (ab (pv 1) af)) (pe_lc (own:=[("sight",4)]) rfl bH.nd (bD (K:=K) rfl (ak (K:=K) rfl (pv 0) rfl)) (ik (by kernel_rfl)) (fun _ _ _ _ _=>(aZ (i:=4) bH.nd rfl (Or.inl rfl))) (fun _ _ _ _ _=>(pts_one (pt_chain iA iA (pv 1) (ak (K:=K) rfl (pv 4) rfl) (pv 2)))) (fun _ _ _ _ _=>(ak (K:=K) rfl (pv 4) rfl)))) (aJ (ab (pv 2) af)))) (ae (az (i:=5) bH.nd rfl (Or.inl rfl) (ag T.dO (dg T) hr (ab aj af))) (ae (az (i:=6) bH.nd rfl (Or.inl rfl) (ag T.dO (dg T) hr (ab aj af))) (ae (cW PassesOwn.never rfl (pi_zipK (K:=K) rfl rfl T.n_zip (ab (pv 3) (ab (bg (bj (K:=K) rfl) (pv 3) (bc aj) cD) af))) (rE (K:=K) (n:=2) rfl rfl (eY (aZ (i:=7) bH.nd rfl (Or.inl rfl)) (eY (aZ (i:=8) bH.nd rfl (Or.inl rfl)) rC))) (ae (az (i:=9) bH.nd rfl (Or.inl rfl) (ck T.aQ.make (bx T) (hr.mono (by decide)) rfl T.aQ.mg T.aQ.bind .nil eA (ab (aF cX (pv 8) (pv 7)) (ab (aF aN aj (aF cX (pv 2) (pv 1))) af)))) (ae (az (i:=10) bH.nd rfl (Or.inl rfl) (ag T.cU (di T) hr (ab (pv 0) (ab (ag T.dO (dg T) hr (ab (pv 7) af)) af)))) (ae (az (i:=11) bH.nd rfl (Or.inl rfl) (ag T.cU (di T) hr (ab (pv 0) (ab (ag T.dO (dg T) hr (ab (pv 8) af)) af)))) (ae (az (i:=5) bH.nd rfl (Or.inl rfl) (ag T.bY (bX T) hr (ab (pv 5) (ab (ag T.bJ (bN T) hr (ab (pv 9) (ab (ag T.bY (bX T) hr (ab (ak (K:=K) rfl (pv 10) rfl) (ab (ak (K:=K) rfl (pv 11) rfl) af))) af))) af)))) (ah (az (i:=6) bH.nd rfl (Or.inl rfl) (ag T.bY (bX T) hr (ab (pv 6) (ab (ag T.bJ (bN T) hr (ab (pv 9) (ab (ag T.bY (bX T) hr (ab (ak (K:=K) rfl (pv 10) rfl) (ab (ak (K:=K) rfl (pv 11) rfl) af))) af))) af)))))))))) (ah (ao (ck T.eP.make (gO T) (hr.mono (by decide)) rfl T.eP.mg T.eP.bind .nil eA (ab (pv 5) (ab (pv 6) af))))))))),?_⟩
 obtain⟨r,s,a,b,rfl,hst,sk,hab,hb5,hsa,hsb,k⟩:=h
 refine bB (σ':=[some (.ref r.p),some (.int (a:Int)),some (.int (b:Int)),none,none,none,none,none,none,none,none,none]) ?_ rfl
 have hl20:=sk.len
 have b17:∀ {n:Nat},n≤100000→WM.Bd 17 (((n:Nat):Int):Rat):=fun {n} h=>Bd.whole (by show _<131072; omega) (by omega)
 walk_at "a"
 refine⟨by show 1≤sizeLine; rw[aw]; omega,fun p1 h1=>?_⟩
 have s1:ax H (upd H p1 (.lst [.int (a:Int)])):=ax.new h1
 have e1:upd H p1 (.lst [.int (a:Int)]) p1=some (.lst [.int (a:Int)]):=ai
 generalize upd H p1 (.lst [.int (a:Int)])=H1 at *
 have hst1:=hst.mono s1
 walk_at "a"
 refine b8 hst1 T ?_
 refine⟨r.sl,rfl,⟨_,SqL.of hst1.sl⟩,fun D hD=>?_⟩
 refine lc_gen (n:=s.seen.length) (fun i H'=>ax H1 H'∧H' D=some (.lst (nb (WM.iX a b (s.seen.take i))))) ⟨ax.new hD,ai⟩
  (fun i H' hi ⟨s',_⟩=>⟨_,_,SqL.of (s' _ _ hst1.sl),List.getElem?_eq_getElem (by rw[List.length_map,hst.si.1]; exact hi)⟩)
  (fun H' ⟨s',_⟩=>⟨_,SqL.of (s' _ _ hst1.sl),by rw[List.length_map,hst.si.1]; exact Nat.le_refl _⟩) ?_ ?_
 ·rintro i H' v H2 hi ⟨s',hd⟩ ⟨rfl,hy⟩
  have hyi:=hy _ (SqL.of (s' _ _ hst1.sl))
  obtain⟨p,hp,rfl⟩:=fQ hyi
  have hz:=List.getElem?_eq_getElem hi
  have hpc:=(hst1.si.2 i p _ hp hz).mono s'
  have htk:s.seen.take (i+1)=s.seen.take i++[s.seen[i]]:=take_snoc hz
  have hl1:=mids_len a b (s.seen.take i)
  rw[List.length_take] at hl1
  walk_at "a"
  refine⟨rfl,?_⟩
  walk_at "a"
  refine bZ hpc T ?_
  walk_at "a"
  rw[htk,mids_snoc]
  generalize s.seen[i]=z at *
  refine w_ite (fun g1=>?_) (fun g1=>?_)
  ·walk_at "a"
   refine w_ite (fun g2=>?_) (fun g2=>?_)
   ·rw[if_pos (by omega)]
    walk_at "a"
    refine bZ hpc T ?_
    refine⟨_,hd,by rw[aL,aw]; omega,s'.dB hD,?_⟩
    rw[ai,eL]
    rfl
   ·rw[if_neg (by omega),List.append_nil]
    exact⟨s',hd⟩
  ·walk_at "a"
   refine aG ?_
   rw[if_neg (by omega),List.append_nil]
   exact⟨s',hd⟩
 ·rintro H2 ⟨s2,hd⟩
  rw[List.take_length] at hd
  have hlm:=mids_len a b s.seen
  refine rf (s2 _ _ e1) hd (by rw[aL,aw]; show 1+_≤_; omega) fun p3 hp3=>?_
  have s3:ax H2 (upd H2 p3 (.lst ([.int (a:Int)]++nb (WM.iX a b s.seen)))):=ax.new hp3
  have e3:upd H2 p3 (.lst ([.int (a:Int)]++nb (WM.iX a b s.seen))) p3=some (.lst ([.int (a:Int)]++nb (WM.iX a b s.seen))):=ai
  generalize upd H2 p3 (.lst ([.int (a:Int)]++nb (WM.iX a b s.seen)))=H3 at *
  walk_at "a"
  refine⟨by show 1≤sizeLine; rw[aw]; omega,fun p4 hp4=>?_⟩
  have s4:ax H3 (upd H3 p4 (.lst [.int (b:Int)])):=ax.new hp4
  have e4:upd H3 p4 (.lst [.int (b:Int)]) p4=some (.lst [.int (b:Int)]):=ai
  generalize upd H3 p4 (.lst [.int (b:Int)])=H4 at *
  refine rf (s4 _ _ e3) e4 (by rw[List.length_append,aL,aw]; show 1+_+1≤_; omega) fun ma hma=>?_
  have eM:([V.int (a:Int)]++nb (WM.iX a b s.seen))++[V.int (b:Int)]=nb (eh a b s.seen):=by
   unfold eh nb
   rw[List.map_cons,List.map_append]
   rfl
  rw[eM]
  have hml:(eh a b s.seen).length≤22:=by
   unfold eh
   rw[List.length_cons,List.length_append]
   show _+1+1≤22
   omega
  have hrange:∀ m∈eh a b s.seen,a≤m∧m≤b:=fun m hm=>moments_range hab hm
  unfold qV at k
  generalize eh a b s.seen=ms at *
  have s5:ax H4 (upd H4 ma (.lst (nb ms))):=ax.new hma
  have e5:upd H4 ma (.lst (nb ms)) ma=some (.lst (nb ms)):=ai
  generalize upd H4 ma (.lst (nb ms))=H5 at *
  have s05:=(((s1.trans s2).trans s3).trans s4).trans s5
  walk_at "a"
  refine⟨0,rfl,fun ea H6 s6 he=>?_⟩
  walk_at "a"
  refine⟨0,rfl,fun na H7 s7 hn=>?_⟩
  have he:=he.mono s7
  have z0:((0:Int):Rat)=0:=rfl
  rw[z0] at he hn
  have b0:WM.Bd 1 0:=⟨by decide,by decide⟩
  walk_at "a"
  have e7:=(s6.trans s7) _ _ e5
  refine d8 (SqL.of e7) fun pb hpb=>?_
  rw[cut_from]
  have s8:ax H7 (upd H7 pb (.lst ((nb ms).drop 1))):=ax.new hpb
  have e8:upd H7 pb (.lst ((nb ms).drop 1)) pb=some (.lst (nb (ms.drop 1))):=by
   rw[ai]
   unfold nb
   rw[List.map_drop]
  generalize upd H7 pb (.lst ((nb ms).drop 1))=H8 at *
  have s08:=((s05.trans s6).trans s7).trans s8
  have eM8:=s8 _ _ e7
  walk_at "a"
  refine⟨ma,pb,_,_,rfl,SqL.of eM8,SqL.of e8,?_⟩
  refine for_gen (n:=ms.length-1) (fun i σ H'=>∃ (ea na:Addr) (e n:Rat) (v0 v1 v2 v3 v4 v5:Option V),σ=[some (.ref r.p),some (.int (a:Int)),some (.int (b:Int)),some (.ref ma),v0,some (.ref ea),some (.ref na),v1,v2,v3,v4,v5]∧ax H8 H'∧a7 Z H' ea e∧a7 Z H' na n ∧
    e+WM.eO (WM.Wc s.seen (·.1)) ((b:Int)-a) (ms.drop i)=WM.eO (WM.Wc s.seen (·.1)) ((b:Int)-a) ms∧n+WM.eO (WM.Wc s.seen (·.2)) ((b:Int)-a) (ms.drop i)=WM.eO (WM.Wc s.seen (·.2)) ((b:Int)-a) ms∧WM.Bd (i*108+1) e∧WM.Bd (i*108+1) n)
   ⟨ea,na,0,0,_,_,_,_,_,_,rfl,ax.refl _,he.mono s8,hn.mono s8,Rat.zero_add _,Rat.zero_add _,by simpa using b0,by simpa using b0⟩
   (fun i σ H' hi ⟨_,_,_,_,_,_,_,_,_,_,_,s',_⟩=>⟨_,_,_,_,SqL.of (s' _ _ eM8),SqL.of (s' _ _ e8),List.getElem?_eq_getElem (by rw[aL]; omega),List.getElem?_eq_getElem (by rw[aL,List.length_drop]; omega)⟩)
   (fun σ H' ⟨_,_,_,_,_,_,_,_,_,_,_,s',_⟩=>⟨_,_,SqL.of (s' _ _ eM8),SqL.of (s' _ _ e8),.inr (by rw[aL,List.length_drop]; exact Nat.le_refl _)⟩) ?_ ?_
  ·rintro i σ H' v H9 hi ⟨ea,na,e,n,v0,v1,v2,v3,v4,v5,rfl,s',he,hn,ge,gn,be,bn⟩ ⟨tp,y1,y2,rfl,htp,rfl,hy1,hy2⟩
   obtain⟨p,hp,rfl⟩:=oj (hy1 _ (SqL.of (s' _ _ eM8)))
   obtain⟨q,hq,rfl⟩:=oj (hy2 _ (SqL.of (s' _ _ e8)))
   rw[List.getElem?_drop,Nat.add_comm] at hq
   have rp:=hrange p (List.mem_of_getElem? hp)
   have rq:=hrange q (List.mem_of_getElem? hq)
   obtain⟨w1,hw1⟩:=Option.isSome_iff_exists.mp (WM.m7 hsa hsb rp.1 rp.2)
   obtain⟨w2,hw2⟩:=Option.isSome_iff_exists.mp (WM.m7 hsa hsb rq.1 rq.2)
   have p17:WM.Bd 17 (p:Rat):=b17 (by omega)
   have q17:WM.Bd 17 (q:Rat):=b17 (by omega)
   obtain⟨bp1,bp2⟩:=wind_bd sk p17 hw1
   obtain⟨bq1,bq2⟩:=wind_bd sk q17 hw2
   have W1:∀ (f:Rat×Rat→Rat),WM.Wc s.seen f p=f w1:=fun f=>by unfold WM.Wc; rw[hw1]; rfl
   have W2:∀ (f:Rat×Rat→Rat),WM.Wc s.seen f q=f w2:=fun f=>by unfold WM.Wc; rw[hw2]; rfl
   rw[drop_cons hp,drop_cons hq,meanSum_cons,← drop_cons hq,W1,W2] at ge gn
   have sT:ax H' (upd H' tp (.tup [.int (p:Int),.int (q:Int)])):=ax.new htp
   have hT:upd H' tp (.tup [.int (p:Int),.int (q:Int)]) tp=some (.tup [.int (p:Int),.int (q:Int)]):=ai
   generalize upd H' tp (.tup [.int (p:Int),.int (q:Int)])=H10 at *
   have s010:=(s08.trans s').trans sT
   have hd0:2*((b:Int)-a)≠0:=by omega
   have hd18:(2*((b:Int)-a)).natAbs<2^18:=by
    show _<262144
    omega
   have bsh:WM.Bd 18 (Rat.divInt ((q:Int)-p) (2*((b:Int)-a))):=Bd.up (Bd.divInt (j:=17) hd0 (by show _<131072; omega) hd18) (by decide)
   have emul:i*108≤22*108:=Nat.mul_le_mul (by omega) (Nat.le_refl _)
   have ei:(i+1)*108=i*108+108:=by rw[Nat.add_mul]
   refine w_gTup (SqT.of hT) rfl ?_
   walk_at "a"
   refine cn (bI (j:=2) (k:=17) (by decide) (by show _<131072; omega) (by decide)) ?_
   walk_at "a"
   refine dF hd0 (bA hd18 (by decide)) fun sa H11 s11 hsh=>?_
   generalize Rat.divInt ((q:Int)-p) (2*((b:Int)-a))=sh at *
   walk_at "a"
   refine⟨(p:Int),rfl,fun c1 H12 s12 hc1=>?_⟩
   walk_at "a"
   have s012:=(s010.trans s11).trans s12
   refine⟨r,c1,s,_,17,rfl,hst.mono s012,sk,hc1,p17,by omega,fun vb H13 s13 hvb=>?_⟩
   have hw1':WM.bL s.seen ((p:Int):Rat)=some w1:=hw1
   rw[hw1'] at hvb
   obtain⟨ba,rfl,hba⟩:=hvb
   walk_at "a"
   refine⟨(q:Int),rfl,fun c2 H14 s14 hc2=>?_⟩
   walk_at "a"
   have s014:=(s012.trans s13).trans s14
   refine⟨r,c2,s,_,17,rfl,hst.mono s014,sk,hc2,q17,by omega,fun vb H15 s15 hvb=>?_⟩
   have hw2':WM.bL s.seen ((q:Int):Rat)=some w2:=hw2
   rw[hw2'] at hvb
   obtain⟨da,rfl,hda⟩:=hvb
   have s1115:=((s12.trans s13).trans s14).trans s15
   have sR:=(sT.trans s11).trans s1115
   have hba:=(hba.mono s14).mono s15
   have hsh:=hsh.mono s1115
   walk_at "a"
   refine dN hba T fun x1 hx1=>?_
   walk_at "a"
   refine dN hda T fun x2 hx2=>?_
   walk_at "a"
   refine⟨x1,x2,w1.1,w2.1,17+27,17+27,rfl,hx1,hx2,bp1,bq1,by omega,fun m1 H16 s16 hm1=>?_⟩
   walk_at "a"
   refine⟨sa,m1,sh,w1.1+w2.1,18,_,rfl,hsh.mono s16,hm1,bsh,Bd.add bp1 bq1,by omega,fun m2 H17 s17 hm2=>?_⟩
   walk_at "a"
   refine⟨ea,m2,e,sh*(w1.1+w2.1),i*108+1,_,rfl,he.mono ((sR.trans s16).trans s17),hm2,be,Bd.mul bsh (Bd.add bp1 bq1),by omega,fun ea' H18 s18 he'=>?_⟩
   have s1518:=(s16.trans s17).trans s18
   walk_at "a"
   refine cY (hba.mono s1518) T fun x3 hx3=>?_
   walk_at "a"
   refine cY (hda.mono s1518) T fun x4 hx4=>?_
   walk_at "a"
   refine⟨x3,x4,w1.2,w2.2,17+27,17+27,rfl,hx3,hx4,bp2,bq2,by omega,fun m3 H19 s19 hm3=>?_⟩
   walk_at "a"
   refine⟨sa,m3,sh,w1.2+w2.2,18,_,rfl,(hsh.mono s1518).mono s19,hm3,bsh,Bd.add bp2 bq2,by omega,fun m4 H20 s20 hm4=>?_⟩
   walk_at "a"
   refine⟨na,m4,n,sh*(w1.2+w2.2),i*108+1,_,rfl,hn.mono (((sR.trans s1518).trans s19).trans s20),hm4,bn,Bd.mul bsh (Bd.add bp2 bq2),by omega,fun na' H21 s21 hn'=>?_⟩
   walk_at "a"
   refine⟨ea',na',e+sh*(w1.1+w2.1),n+sh*(w1.2+w2.2),_,_,_,_,_,_,rfl,((((s'.trans sR).trans s1518).trans s19).trans s20).trans s21,((he'.mono s19).mono s20).mono s21,hn',?_,?_,Bd.up (Bd.add be (Bd.mul bsh (Bd.add bp1 bq1))) (by omega),Bd.up (Bd.add bn (Bd.mul bsh (Bd.add bp2 bq2))) (by omega)⟩
   ·rw[Rat.add_assoc]; exact ge
   ·rw[Rat.add_assoc]; exact gn
  ·rintro σ H' ⟨ea,na,e,n,v0,v1,v2,v3,v4,v5,rfl,s',he,hn,ge,gn,be,bn⟩
   have hnil:∀ W:Nat→Rat,WM.eO W ((b:Int)-a) (ms.drop (ms.length-1))=0:=fun W=>by
    have hlen:(ms.drop (ms.length-1)).length≤1:=by rw[List.length_drop]; omega
    match ms.drop (ms.length-1),hlen with
    | [],_=>rfl
    | [p],_=>rfl
   rw[hnil,Rat.add_zero] at ge gn
   have emul:(ms.length-1)*108≤22*108:=Nat.mul_le_mul (by omega) (Nat.le_refl _)
   have be:=Bd.up be (show(ms.length-1)*108+1≤3000 by omega)
   have bn:=Bd.up bn (show(ms.length-1)*108+1≤3000 by omega)
   rw[← ge,← gn] at k
   walk_at "a"
   exact mk_wind (w:=(e,n)) he hn fun p H9 s9 hp=>k p H9 ((s08.trans s').trans s9) hp be bn
def isN(o:Option (Rat×Rat)):Bool:=o.isNone
def isC:Option (Rat×Rat)→Bool
 | none=>false
 | some w=>decide (w.1.num=0∧w.2.num=0)
def refuse(os:List (Option (Rat×Rat))):Int:=if os.any isN=true then -6 else if os.any isC=true then -7 else 0
def WsAt(Z:Ad)(H:Hp)(xs:List V)(os:List (Option (Rat×Rat))):Prop:=xs.length=os.length∧∀ (i:Nat) (v:V) (o:Option (Rat×Rat)),xs[i]? = some v→os[i]? = some o→OptW Z H v o
def sp_refusal(Z:Ad):Sp:=fun vs H Q _=>∃ (a:Addr) (xs:List V) (os:List (Option (Rat×Rat))),vs=[.ref a]∧H a=some (.lst xs)∧WsAt Z H xs os∧Q (.int (refuse os)) H
theorem any_take{α:Type}{p:α→Bool}{l:List α}{i:Nat}{c:α}(hc:l[i]? = some c)(h:(l.take i).any p=false)(hp:p c=false):(l.take (i+1)).any p=false:=by
 rw[take_snoc hc,List.any_append,h]
 simp[hp]
theorem any_true{α:Type}{p:α→Bool}{l:List α}{i:Nat}{c:α}(hc:l[i]? = some c)(hp:p c=true):l.any p=true:=List.any_eq_true.mpr ⟨c,List.mem_of_getElem? hc,hp⟩
theorem WsAt.get{Z:Ad}{H:Hp}{xs:List V}{os:List (Option (Rat×Rat))}(h:WsAt Z H xs os){i:Nat}{v:V}(hv:xs[i]? = some v):∃ o,os[i]? = some o∧OptW Z H v o:=by
 have hi:i<os.length:=by rw[← h.1]; exact(List.getElem?_eq_some_iff.mp hv).1
 exact⟨os[i],List.getElem?_eq_getElem hi,h.2 i v _ hv (List.getElem?_eq_getElem hi)⟩
theorem gc(T:Txt K mg Z):a9 P w K mg base CX0 2 Z.qx Z.qy ["winds"] (sp_refusal Z):=by
 refine T.fG.fn.ok iV (fun vs H Q E h=>?_) (fun cdv A0 outer s H vs Q E hr h=>?_)
 ·revert h; walk_at "len"
 refine⟨_,(ae (cW PassesOwn.never rfl (bD (K:=K) rfl (pv 0)) (aZ (i:=1) iV.nd rfl (Or.inl rfl)) (ah (aP (cN (cV (pv 1))) (ah (ao (bM T.gd))) aA))) (ae (cW PassesOwn.never rfl (bD (K:=K) rfl (pv 0)) (aZ (i:=1) iV.nd rfl (Or.inl rfl)) (ah (aP (br (ag T.f_is_calm (ok_is_calm T) hr (ab (pv 1) af))) (ah (ao (bM T.c_NEVER))) aA))) (ah (ao aj)))),?_⟩
 obtain⟨a,xs,os,rfl,ha,hw,k⟩:=h
 refine bB (σ':=[some (.ref a),none]) ?_ rfl
 unfold refuse at k
 walk_at "a"
 refine⟨a,rfl,⟨_,SqL.of ha⟩,?_⟩
 refine bQ (K:=K) (a:=a) (xs:=xs) (fun i σ H'=>∃ v:Option V,σ=[some (.ref a),v]∧H' = H∧(os.take i).any isN=false) ⟨_,rfl,rfl,rfl⟩ (fun i σ H' _ ⟨v,_,e,_⟩=>by rw[e]; exact SqL.of ha) ?_ ?_
 ·rintro i y σ H' hi ⟨v,rfl,rfl,hp⟩
  obtain⟨o,ho,hov⟩:=hw.get hi
  walk_at "a"
  cases o with
  | none =>
   have hv:y = .non:=hov
   rw[decide_eq_true hv]
   refine aD ?_
   walk_at "a"
   rw[if_pos (any_true ho rfl)] at k
   exact k
  | some w =>
   obtain⟨p,rfl,_⟩:=hov
   rw[decide_eq_false (by intro g; cases g)]
   refine aG ?_
   walk_at "a"
   exact⟨_,rfl,rfl,any_take ho hp rfl⟩
 ·rintro σ H' ⟨v,rfl,rfl,hp⟩
  rw[hw.1,List.take_length] at hp
  rw[if_neg (by rw[hp]; decide)] at k
  walk_at "a"
  refine⟨a,rfl,⟨_,SqL.of ha⟩,?_⟩
  refine bQ (K:=K) (a:=a) (xs:=xs) (fun i σ H''=>∃ v:Option V,σ=[some (.ref a),v]∧H'' = H'∧(os.take i).any isC=false) ⟨_,rfl,rfl,rfl⟩ (fun i σ H'' _ ⟨v,_,e,_⟩=>by rw[e]; exact SqL.of ha) ?_ ?_
  ·rintro i y σ H'' hi ⟨v,rfl,rfl,hp2⟩
   obtain⟨o,ho,hov⟩:=hw.get hi
   cases o with
   | none=>exact absurd (any_true (p:=isN) ho rfl) (by rw[hp]; decide)
   | some w =>
    obtain⟨p,rfl,hwp⟩:=hov
    walk_at "a"
    refine⟨p,w,rfl,hwp,?_⟩
    walk_at "a"
    refine w_ite (fun g=>?_) (fun g=>?_)
    ·walk_at "a"
     rw[if_pos (any_true ho (show isC (some w)=true from decide_eq_true g))] at k
     exact k
    ·walk_at "a"
     exact⟨_,rfl,rfl,any_take ho hp2 (show isC (some w)=false from decide_eq_false g)⟩
  ·rintro σ H'' ⟨v,rfl,rfl,hp2⟩
   rw[hw.1,List.take_length] at hp2
   rw[if_neg (by rw[hp2]; decide)] at k
   walk_at "a"
   exact k
theorem refuse_one(o:Option (Rat×Rat)):refuse [o]=match o with
  | none=>-6
  | some w=>if w.1.num=0∧w.2.num=0 then -7 else 0:=by
 cases o with
 | none=>rfl
 | some w =>
  unfold refuse
  rw[if_neg (by simp[isN])]
  by_cases h:w.1.num=0∧w.2.num=0
  ·rw[if_pos (by simp[isC,h])]
   exact(if_pos h).symm
  ·rw[if_neg (by simp[isC]; exact fun g=>(fun e=>h ⟨by rw[g]; rfl,by rw[e]; rfl⟩))]
   exact(if_neg h).symm
theorem ws_one{Z:Ad}{H:Hp}{v:V}{o:Option (Rat×Rat)}(h:OptW Z H v o):WsAt Z H [v] [o]:=⟨rfl,fun i v' o' h1 h2=>by
 cases i with
 | zero =>
  cases h1
  cases h2
  exact h
 | succ n=>cases h1⟩
theorem OptW.mono{Z:Ad}{H H':Hp}{v:V}(s:ax H H'):∀ {o:Option (Rat×Rat)},OptW Z H v o→OptW Z H' v o
 | none,h=>h
 | some w,h=>by
  obtain⟨p,e,h⟩:=h
  exact⟨p,e,h.mono s⟩
def qW(x y t n:Int):Bool:=Vbreal.isPlace x y&&(Vbreal.isTime t&&Vbreal.within 1 n 100000)
theorem end_ok(p:Pnt):within (-1000000000) 1000000000 [p.x,p.y]=(Vbreal.within (-1000000000) p.x 1000000000&&Vbreal.within (-1000000000) p.y 1000000000):=by
 unfold within Vbreal.within
 simp only[List.all_cons,List.all_nil,Bool.and_true]
 rw[Bool.decide_and,Bool.decide_and]
theorem ok_lay_line(T:Txt K mg Z):a9 P w K mg base CX0 8 Z.ic Z.d_lay_line ["sea", "numbers", "row"] (dm Z (fun a _=>∃ x y t n,a=[x,y,t,n]) (fun a _=>match a with | [x,y,t,n]=>.line x y t n | _=>.print)):=by
 refine T.pd.fn.ok iL (fun vs H Q E h=>?_) (fun cdv A0 outer s H vs Q E hr h=>?_)
 ·revert h; walk_at "len"
 refine⟨_,(ae (aP (PW.pt (dJ (bR (br (ag T.cJ (cQ T) hr (ab (bg (bj (K:=K) rfl) (pv 1) cD (bc aj)) af)))) (dJ (bR (br (ag T.b7 (b5 T) hr (ab (bg (bj (K:=K) rfl) (pv 1) (bc aj) (bc aj)) af)))) (dw (bR (br (ag T.cA (cy T) hr (ab (bg (bj (K:=K) rfl) (pv 1) (bc aj) cD) (ab aj (ab (bM T.c_LONGEST_LINE) af)))))))))) (ah (ao (aJ (ab (bM T.bf) af)))) aA) (ae (az (i:=3) iL.nd rfl (Or.inl rfl) (ag T.cK (cR T) hr (ab (pv 0) (ab (pv 1) af)))) (ae (az (i:=4) iL.nd rfl (Or.inl rfl) (ag T.fG (gc T) hr (ab (aJ (ab (pv 3) af)) af))) (ae (aP (aH qZ (pv 4) aj (aM _)) (ah (ao (aJ (ab (pv 4) af)))) aA) (ae (az (i:=5) iL.nd rfl (Or.inl rfl) (ag T.f_port_end (ok_port_end T) hr (ab (ag T.dQ (d7 T) hr (ab (pv 3) af)) (ab (ku (ab (aI (aB (K:=K) rfl) (pv 1) aj (fun _ _=>rfl)) (ab (aI (aB (K:=K) rfl) (pv 1) aj (fun _ _=>rfl)) af))) (ab (aI (aB (K:=K) rfl) (pv 1) aj (fun _ _=>rfl)) af))))) (ae (aP (bR (br (ag T.cA (cy T) hr (ab (pv 5) (ab (oJ iO (bM T.lL)) (ab (bM T.lL) af)))))) (ah (ao (aJ (ab (bM T.c_TOO_FAR) af)))) aA) (ah (ao (aJ (ab aj (ab (aI (aU (K:=K) rfl) (pv 5) aj (fun _ _=>rfl)) (ab (aI (aU (K:=K) rfl) (pv 5) aj (fun _ _=>rfl)) af)))))))))))),?_⟩
 obtain⟨sea,na,ra,st,tb,rs,l,ts,t,args,row,rfl,hw,hna,hra,⟨x,y,tm,n,rfl⟩,k⟩:=h
 have k:=fun ans hs hl=>bP (c:=.line x y tm n) (ans:=ans) hw k hs hl
 refine bB (σ':=[some (.ref sea),some (.ref na),some (.ref ra),none,none,none]) ?_ rfl
 have bad:∀ H1,ax H H1→qW x y tm n=false→cH H1 Q (ib [-10]):=fun H1 s1 hb=>cH.after s1 (k [-10] (by
  show Vbreal.asked _ [(qW x y tm n,-10)] _=_
  rw[hb]; rfl) (by simp))
 walk_at "a"
 refine d8 (SqL.of hna) fun a1 h1=>?_
 have e1:fN (ib [x,y,tm,n]) none (some 2)=ib [x,y]:=rfl
 rw[e1]
 walk_at "a"
 refine⟨a1,[x,y],rfl,ai,?_⟩
 have s1:ax H (upd H a1 (.lst (ib [x,y]))):=ax.new h1
 generalize upd H a1 (.lst (ib [x,y]))=H1 at *
 rw[cM]
 walk_at "a"
 cases hp:Vbreal.isPlace x y with
 | false =>
  refine aD ?_
  refine aD ?_
  walk_at "a"
  exact aK (bad H1 s1 (by unfold qW; rw[hp]; rfl))
 | true =>
  refine aG ?_
  walk_at "a"
  refine d8 (SqL.of (s1 _ _ hna)) fun a2 h2=>?_
  have e2:fN (ib [x,y,tm,n]) (some 2) (some 3)=ib [tm]:=rfl
  rw[e2]
  walk_at "a"
  refine⟨a2,[tm],rfl,ai,?_⟩
  have s2:ax H1 (upd H1 a2 (.lst (ib [tm]))):=ax.new h2
  generalize upd H1 a2 (.lst (ib [tm]))=H2 at *
  have s02:=s1.trans s2
  rw[cC]
  walk_at "a"
  cases ht:Vbreal.isTime tm with
  | false =>
   refine aD ?_
   refine aD ?_
   walk_at "a"
   exact aK (bad H2 s02 (by unfold qW; rw[hp,ht]; rfl))
  | true =>
   refine aG ?_
   walk_at "a"
   refine d8 (SqL.of (s02 _ _ hna)) fun a3 h3=>?_
   have e3:fN (ib [x,y,tm,n]) (some 3) none=ib [n]:=rfl
   rw[e3]
   walk_at "a"
   refine⟨a3,[n],_,_,rfl,.inl ai,?_⟩
   have s3:ax H2 (upd H2 a3 (.lst (ib [n]))):=ax.new h3
   generalize upd H2 a3 (.lst (ib [n]))=H3 at *
   have s03:=s02.trans s3
   rw[km]
   walk_at "a"
   cases hk:Vbreal.within 1 n 100000 with
   | false =>
    refine aD ?_
    walk_at "a"
    exact aK (bad H3 s03 (by unfold qW; rw[hp,ht,hk]; rfl))
   | true =>
    have hn:1≤n∧n≤100000:=by
     unfold Vbreal.within at hk
     simpa using hk
    obtain⟨d,rfl⟩:=Int.eq_ofNat_of_zero_le (show 0≤n by omega)
    have hstep:Vbreal.step ⟨l,t⟩ (.line x y tm (d:Int))=match WM.bE l x y (tm:Rat) with
      | none=>(⟨l,t⟩,[-6])
      | some w=>if Vbreal.speedSquare (WM.a8 w)=Vbreal.zero then(⟨l,t⟩,[-7]) else
       if (Vbreal.within (-1000000000) (portP (WM.hd w) ⟨x,y⟩ d).x 1000000000&&Vbreal.within (-1000000000) (portP (WM.hd w) ⟨x,y⟩ d).y 1000000000)=true then(⟨l,t⟩,[1,(portP (WM.hd w) ⟨x,y⟩ d).x,(portP (WM.hd w) ⟨x,y⟩ d).y]) else(⟨l,t⟩,[-11]):=by
     show Vbreal.asked _ [(qW x y tm (d:Int),-10)] _=_
     unfold qW
     rw[hp,ht,hk]
     exact at_eq (t:=t) hw.wo fun w=>if Vbreal.speedSquare w=Vbreal.zero then(⟨l,t⟩,[-7]) else let p:=Vbreal.portEnd w ⟨x,y⟩ (d:Int).toNat; if (Vbreal.within (-1000000000) p.x 1000000000&&Vbreal.within (-1000000000) p.y 1000000000)=true then(⟨l,t⟩,[1,p.x,p.y]) else(⟨l,t⟩,[-11])
    refine aG ?_
    walk_at "a"
    refine⟨sea,na,st,tb,rs,l,ts,t,x,y,tm,[(d:Int)],rfl,hw.mono s03,s03 _ _ hna,hp,ht,fun v H4 s4 hv=>?_⟩
    have s04:=s03.trans s4
    walk_at "a"
    refine⟨by show 1≤sizeLine; rw[aw]; omega,fun wl hwl=>?_⟩
    have s5:ax H4 (upd H4 wl (.lst [v])):=ax.new hwl
    have e5:upd H4 wl (.lst [v]) wl=some (.lst [v]):=ai
    generalize upd H4 wl (.lst [v])=H5 at *
    have s05:=s04.trans s5
    walk_at "a"
    refine⟨wl,[v],[WM.bE l x y (tm:Rat)],rfl,e5,ws_one (hv.mono s5),?_⟩
    rw[refuse_one]
    walk_at "a"
    cases hwq:WM.bE l x y (tm:Rat) with
    | none =>
     rw[hwq] at hstep
     refine cG (fun _=>?_) (fun g=>absurd g (by decide))
     walk_at "a"
     exact aK (cH.after s05 (k [-6] hstep (by simp)))
    | some w =>
     rw[hwq] at hv hstep
     obtain⟨wa,rfl,hwa⟩:=hv
     have bw:=(dG hw.wo hp ht hwq).1
     dsimp only at hstep ⊢
     by_cases hc:w.1.num=0∧w.2.num=0
     ·rw[if_pos ((WM.ef w).mpr hc)] at hstep
      refine cG (fun _=>?_) (fun g=>absurd g (by rw[if_pos hc]; decide))
      rw[if_pos hc]
      walk_at "a"
      exact aK (cH.after s05 (k [-7] hstep (by simp)))
     ·rw[if_neg (fun g=>hc ((WM.ef w).mp g))] at hstep
      have bh:mJ 714 (WM.hd w):=WM.m6 hc bw.1 bw.2
      have hD:=WM.il hc
      refine cG (fun g=>absurd (if_neg hc) g) (fun _=>?_)
      rw[if_neg hc]
      walk_at "a"
      refine⟨wa,w,357,rfl,hwa.mono s5,hc,bw.1,bw.2,by omega,fun ha H6 s6 hha=>?_⟩
      have s06:=s05.trans s6
      walk_at "a"
      refine aV (SqL.of (s06 _ _ hna)) (v:=.int x) (aE (j:=0) rfl) ?_
      walk_at "a"
      refine aV (SqL.of (s06 _ _ hna)) (v:=.int y) (aE (j:=1) rfl) ?_
      walk_at "a"
      refine⟨by show 2≤sizeLine; rw[aw]; omega,fun pa hpa=>?_⟩
      have s7:ax H6 (upd H6 pa (.tup [.int x,.int y])):=ax.new hpa
      have e7:iz (upd H6 pa (.tup [.int x,.int y])) pa ⟨x,y⟩:=ai
      generalize upd H6 pa (.tup [.int x,.int y])=H7 at *
      have s07:=s06.trans s7
      walk_at "a"
      refine aV (SqL.of (s07 _ _ hna)) (v:=.int (d:Int)) (aE (j:=3) rfl) ?_
      walk_at "a"
      refine⟨ha,pa,WM.hd w,⟨x,y⟩,d,714,rfl,hha.mono s7,e7,bh,by omega,hD,by omega,by omega,fun q H8 s8 hq=>?_⟩
      have s08:=s07.trans s8
      generalize portP (WM.hd w) ⟨x,y⟩ d=pe at *
      walk_at "a"
      refine⟨q,[pe.x,pe.y],-1000000000,1000000000,rfl,.inr hq,?_⟩
      rw[end_ok]
      walk_at "a"
      cases hin:Vbreal.within (-1000000000) pe.x 1000000000&&Vbreal.within (-1000000000) pe.y 1000000000 with
      | false =>
       rw[hin,if_neg (by decide)] at hstep
       refine aD ?_
       walk_at "a"
       exact aK (cH.after s08 (k [-11] hstep (by simp)))
      | true =>
       rw[hin,if_pos rfl] at hstep
       refine aG ?_
       walk_at "a"
       refine b9 (SqT.of hq) (pt0 pe) ?_
       walk_at "a"
       refine b9 (SqT.of hq) (pt1 pe) ?_
       walk_at "a"
       have k:=cH.after s08 (k [1,pe.x,pe.y] hstep (by simp))
       exact⟨by show 3≤sizeLine; rw[aw]; omega,fun p hp=>k p _ (ax.new hp) hp ai⟩
def biasOk(x y u v t:Int):Bool:=Vbreal.isPlace x y&&(Vbreal.isPlace u v&&Vbreal.isTime t)
theorem within_four(x y u v:Int):within (-100000) 100000 [x,y,u,v]=(Vbreal.isPlace x y&&Vbreal.isPlace u v):=by
 rw[← cM,← cM]
 unfold within
 simp only[List.all_cons,List.all_nil,Bool.and_true,Bool.and_assoc]
theorem diff20{x y u v:Int}(h1:Vbreal.isPlace x y=true)(h2:Vbreal.isPlace u v=true):mJ 20 ⟨u-x,v-y⟩:=by
 have a:=jn h1
 have b:=jn h2
 constructor
 ·show _<1048576
  show(u-x).natAbs<_
  omega
 ·show _<1048576
  show(v-y).natAbs<_
  omega
theorem sq_size{z:Int}{k:Nat}(h:z.natAbs<2^k):(z^2).natAbs<2^(k+k):=by
 rw[Int.pow_succ,Int.pow_one]
 exact aO h h
theorem ok_bias(T:Txt K mg Z):a9 P w K mg base CX0 8 Z.a_bias Z.d_bias ["sea", "numbers", "row"] (dm Z (fun a _=>∃ x y u v t,a=[x,y,u,v,t]) (fun a _=>match a with | [x,y,u,v,t]=>.bias x y u v t | _=>.print)):=by
 refine T.f_bias.fn.ok rQ (fun vs H Q E h=>?_) (fun cdv A0 outer s H vs Q E hr h=>?_)
 ·revert h; walk_at "len"
 refine⟨_,(ae (aP (PW.pt (dJ (bR (br (ag T.cJ (cQ T) hr (ab (bg (bj (K:=K) rfl) (pv 1) cD (bc aj)) af)))) (dw (bR (br (ag T.b7 (b5 T) hr (ab (bg (bj (K:=K) rfl) (pv 1) (bc aj) cD) af))))))) (ah (ao (aJ (ab (bM T.bf) af)))) aA) (ae (az (i:=3) rQ.nd rfl (Or.inl rfl) (ag T.cK (cR T) hr (ab (pv 0) (ab (aJ (ab (aI (aB (K:=K) rfl) (pv 1) aj (fun _ _=>rfl)) (ab (aI (aB (K:=K) rfl) (pv 1) aj (fun _ _=>rfl)) (ab (aI (aB (K:=K) rfl) (pv 1) aj (fun _ _=>rfl)) af)))) af)))) (ae (az (i:=4) rQ.nd rfl (Or.inl rfl) (ag T.fG (gc T) hr (ab (aJ (ab (pv 3) af)) af))) (ae (aP (aH qZ (pv 4) aj (aM _)) (ah (ao (aJ (ab (pv 4) af)))) aA) (ae (az (i:=5) rQ.nd rfl (Or.inl rfl) (ag T.dQ (d7 T) hr (ab (pv 3) af))) (ae (az (i:=6) rQ.nd rfl (Or.inl rfl) (ag T.lK (ok_lead_against T) hr (ab (pv 5) (ab (ku (ab (aI (aB (K:=K) rfl) (pv 1) aj (fun _ _=>rfl)) (ab (aI (aB (K:=K) rfl) (pv 1) aj (fun _ _=>rfl)) af))) (ab (ku (ab (aI (aB (K:=K) rfl) (pv 1) aj (fun _ _=>rfl)) (ab (aI (aB (K:=K) rfl) (pv 1) aj (fun _ _=>rfl)) af))) af))))) (ah (ao (aF jf (aJ (ab (ag T.iJ (jD T) hr (ab (pv 6) af)) af)) (ag T.cz (cx T) hr (ab (ag T.oe (ok_lead_square T) hr (ab (pv 5) (ab (pv 6) af))) af))))))))))),?_⟩
 obtain⟨sea,na,ra,st,tb,rs,l,ts,t,args,row,rfl,hw,hna,hra,⟨x,y,u,v,tm,rfl⟩,k⟩:=h
 have k:=fun ans hs hl=>bP (c:=.bias x y u v tm) (ans:=ans) hw k hs hl
 refine bB (σ':=[some (.ref sea),some (.ref na),some (.ref ra),none,none,none,none]) ?_ rfl
 have bad:∀ H1,ax H H1→biasOk x y u v tm=false→cH H1 Q (ib [-10]):=fun H1 s1 hb=>cH.after s1 (k [-10] (by
  show Vbreal.asked _ [(biasOk x y u v tm,-10)] _=_
  rw[hb]; rfl) (by simp))
 walk_at "a"
 refine d8 (SqL.of hna) fun a1 h1=>?_
 have e1:fN (ib [x,y,u,v,tm]) none (some 4)=ib [x,y,u,v]:=rfl
 rw[e1]
 walk_at "a"
 refine⟨a1,[x,y,u,v],rfl,ai,?_⟩
 have s1:ax H (upd H a1 (.lst (ib [x,y,u,v]))):=ax.new h1
 generalize upd H a1 (.lst (ib [x,y,u,v]))=H1 at *
 rw[within_four]
 walk_at "a"
 cases hpp:Vbreal.isPlace x y&&Vbreal.isPlace u v with
 | false =>
  refine aD ?_
  walk_at "a"
  exact aK (bad H1 s1 (by unfold biasOk; rw[← Bool.and_assoc,hpp]; rfl))
 | true =>
  have hp:=(Bool.and_eq_true_iff.mp hpp).1
  have hq:=(Bool.and_eq_true_iff.mp hpp).2
  refine aG ?_
  walk_at "a"
  refine d8 (SqL.of (s1 _ _ hna)) fun a2 h2=>?_
  have e2:fN (ib [x,y,u,v,tm]) (some 4) none=ib [tm]:=rfl
  rw[e2]
  walk_at "a"
  refine⟨a2,[tm],rfl,ai,?_⟩
  have s2:ax H1 (upd H1 a2 (.lst (ib [tm]))):=ax.new h2
  generalize upd H1 a2 (.lst (ib [tm]))=H2 at *
  have s02:=s1.trans s2
  rw[cC]
  walk_at "a"
  cases ht:Vbreal.isTime tm with
  | false =>
   refine aD ?_
   walk_at "a"
   exact aK (bad H2 s02 (by unfold biasOk; rw[hp,hq,ht]; rfl))
  | true =>
   have hstep:Vbreal.step ⟨l,t⟩ (.bias x y u v tm)=match WM.bE l x y (tm:Rat) with
     | none=>(⟨l,t⟩,[-6])
     | some w=>if Vbreal.speedSquare (WM.a8 w)=Vbreal.zero then(⟨l,t⟩,[-7]) else
      (⟨l,t⟩,Vbreal.turnOf (Vbreal.aheadBy (WM.a8 w) ⟨x,y⟩ ⟨u,v⟩)::Vbreal.told (if Vbreal.less (Vbreal.aheadBy (WM.a8 w) ⟨x,y⟩ ⟨u,v⟩) Vbreal.zero=true then Vbreal.sub Vbreal.zero (Vbreal.aheadBy (WM.a8 w) ⟨x,y⟩ ⟨u,v⟩) else Vbreal.aheadBy (WM.a8 w) ⟨x,y⟩ ⟨u,v⟩)):=by
    show Vbreal.asked _ [(biasOk x y u v tm,-10)] _=_
    unfold biasOk
    rw[hp,hq,ht]
    exact at_eq (t:=t) hw.wo fun w=>if Vbreal.speedSquare w=Vbreal.zero then(⟨l,t⟩,[-7]) else
      (⟨l,t⟩,Vbreal.turnOf (Vbreal.aheadBy w ⟨x,y⟩ ⟨u,v⟩)::Vbreal.told (if Vbreal.less (Vbreal.aheadBy w ⟨x,y⟩ ⟨u,v⟩) Vbreal.zero=true then Vbreal.sub Vbreal.zero (Vbreal.aheadBy w ⟨x,y⟩ ⟨u,v⟩) else Vbreal.aheadBy w ⟨x,y⟩ ⟨u,v⟩))
   refine aG ?_
   walk_at "a"
   refine aV (SqL.of (s02 _ _ hna)) (v:=.int x) (aE (j:=0) rfl) ?_
   walk_at "a"
   refine aV (SqL.of (s02 _ _ hna)) (v:=.int y) (aE (j:=1) rfl) ?_
   walk_at "a"
   refine aV (SqL.of (s02 _ _ hna)) (v:=.int tm) (aE (j:=4) rfl) ?_
   walk_at "a"
   refine⟨by show 3≤sizeLine; rw[aw]; omega,fun nb' hnb=>?_⟩
   have s3:ax H2 (upd H2 nb' (.lst [.int x,.int y,.int tm])):=ax.new hnb
   have e3:upd H2 nb' (.lst [.int x,.int y,.int tm]) nb' = some (.lst (ib [x,y,tm])):=ai
   generalize upd H2 nb' (.lst [.int x,.int y,.int tm])=H3 at *
   have s03:=s02.trans s3
   walk_at "a"
   refine⟨sea,nb',st,tb,rs,l,ts,t,x,y,tm,[],rfl,hw.mono s03,e3,hp,ht,fun v1 H4 s4 hv=>?_⟩
   have s04:=s03.trans s4
   walk_at "a"
   refine⟨by show 1≤sizeLine; rw[aw]; omega,fun wl hwl=>?_⟩
   have s5:ax H4 (upd H4 wl (.lst [v1])):=ax.new hwl
   have e5:upd H4 wl (.lst [v1]) wl=some (.lst [v1]):=ai
   generalize upd H4 wl (.lst [v1])=H5 at *
   have s05:=s04.trans s5
   walk_at "a"
   refine⟨wl,[v1],[WM.bE l x y (tm:Rat)],rfl,e5,ws_one (hv.mono s5),?_⟩
   rw[refuse_one]
   walk_at "a"
   cases hwq:WM.bE l x y (tm:Rat) with
   | none =>
    rw[hwq] at hstep
    refine cG (fun _=>?_) (fun g=>absurd g (by decide))
    walk_at "a"
    exact aK (cH.after s05 (k [-6] hstep (by simp)))
   | some w =>
    rw[hwq] at hv hstep
    obtain⟨wa,rfl,hwa⟩:=hv
    have bw:=(dG hw.wo hp ht hwq).1
    dsimp only at hstep ⊢
    by_cases hc:w.1.num=0∧w.2.num=0
    ·rw[if_pos ((WM.ef w).mpr hc)] at hstep
     refine cG (fun _=>?_) (fun g=>absurd g (by rw[if_pos hc]; decide))
     rw[if_pos hc]
     walk_at "a"
     exact aK (cH.after s05 (k [-7] hstep (by simp)))
    ·rw[if_neg (fun g=>hc ((WM.ef w).mp g))] at hstep
     obtain⟨f1,f2⟩:=WM.bias_F hc x y u v
     rw[f1,f2] at hstep
     have bh:mJ 714 (WM.hd w):=WM.m6 hc bw.1 bw.2
     have hD:=WM.il hc
     have hd20:=diff20 hp hq
     refine cG (fun g=>absurd (if_neg hc) g) (fun _=>?_)
     rw[if_neg hc]
     walk_at "a"
     refine⟨wa,w,357,rfl,hwa.mono s5,hc,bw.1,bw.2,by omega,fun ha H6 s6 hha=>?_⟩
     have s06:=s05.trans s6
     walk_at "a"
     refine aV (SqL.of (s06 _ _ hna)) (v:=.int x) (aE (j:=0) rfl) ?_
     walk_at "a"
     refine aV (SqL.of (s06 _ _ hna)) (v:=.int y) (aE (j:=1) rfl) ?_
     walk_at "a"
     refine⟨by show 2≤sizeLine; rw[aw]; omega,fun pa hpa=>?_⟩
     have s7:ax H6 (upd H6 pa (.tup [.int x,.int y])):=ax.new hpa
     have e7:iz (upd H6 pa (.tup [.int x,.int y])) pa ⟨x,y⟩:=ai
     generalize upd H6 pa (.tup [.int x,.int y])=H7 at *
     have s07:=s06.trans s7
     walk_at "a"
     refine aV (SqL.of (s07 _ _ hna)) (v:=.int u) (aE (j:=2) rfl) ?_
     walk_at "a"
     refine aV (SqL.of (s07 _ _ hna)) (v:=.int v) (aE (j:=3) rfl) ?_
     walk_at "a"
     refine⟨by show 2≤sizeLine; rw[aw]; omega,fun pb hpb=>?_⟩
     have s8:ax H7 (upd H7 pb (.tup [.int u,.int v])):=ax.new hpb
     have e8:iz (upd H7 pb (.tup [.int u,.int v])) pb ⟨u,v⟩:=ai
     generalize upd H7 pb (.tup [.int u,.int v])=H8 at *
     have s08:=s07.trans s8
     walk_at "a"
     refine⟨ha,pa,pb,WM.hd w,⟨x,y⟩,⟨u,v⟩,714,rfl,(hha.mono s7).mono s8,e7.mono s8,e8,bh,by omega,hd20,fun H9 s9=>?_⟩
     have s09:=s08.trans s9
     have hha9:=((hha.mono s7).mono s8).mono s9
     have bl:=fO bh hd20
     dsimp only at bl ⊢
     have bq:WM.Bd 12900 (Rat.divInt (WM.bU (WM.hd w) ⟨u-x,v-y⟩^2) (WM.bU (WM.hd w) (WM.hd w))):=Bd.up (Bd.divInt (by omega) (sq_size bl) (fO bh bh)) (by omega)
     generalize WM.bU (WM.hd w) ⟨u-x,v-y⟩=z at *
     walk_at "a"
     refine⟨z,rfl,?_⟩
     walk_at "a"
     refine⟨by show 1≤sizeLine; rw[aw]; omega,fun p1 hp1=>?_⟩
     have s10:ax H9 (upd H9 p1 (.lst [.int (WM.sgn z)])):=ax.new hp1
     have e10:upd H9 p1 (.lst [.int (WM.sgn z)]) p1=some (.lst [.int (WM.sgn z)]):=ai
     generalize upd H9 p1 (.lst [.int (WM.sgn z)])=H10 at *
     walk_at "a"
     refine⟨ha,WM.hd w,z,714,rfl,hha9.mono s10,bh,by omega,hD,bA bl (by omega),fun qa H11 s11 hqa=>?_⟩
     walk_at "a"
     generalize Rat.divInt (z^2) (WM.bU (WM.hd w) (WM.hd w))=q at *
     have tl:=fb bq
     have k:=k _ hstep (by rw[List.length_cons]; omega)
     refine⟨qa,q,rfl,hqa,bq,fun p2 H12 s12 hp2 he2=>?_⟩
     have sAll:=((s09.trans s10).trans s11).trans s12
     refine rf ((s11.trans s12) _ _ e10) he2 ?_ fun p hp3=>?_
     ·rw[bG,aW,aw]; show 1+_≤_; omega
     ·refine k p _ (sAll.trans (ax.new hp3)) (sAll.free hp3) ?_
      rw[ai,bG]
      rfl
def sp_both(Z:Ad):Sp:=fun vs H Q _=>∃ (sea na st tb:Addr) (rs:List Rec) (l:List Stn) (ts:List Addr) (t:List Pnt) (x y tm u:Int) (more:List Int),vs=[.ref sea,.ref na]∧Wld Z H sea st rs l tb ts t∧H na=some (.lst (ib (x::y::tm::u::more)))∧Vbreal.isPlace x y=true∧Vbreal.isTime tm=true∧Vbreal.isTime u=true ∧
 ∀ p v1 v2 H',ax H H'→H' p=some (.lst [v1,v2])→OptW Z H' v1 (WM.bE l x y (tm:Rat))→OptW Z H' v2 (WM.bE l x y (u:Rat))→Q (.ref p) H'
theorem ox(T:Txt K mg Z):a9 P w K mg base CX0 8 Z.qz Z.qA ["sea", "numbers"] (sp_both Z):=by
 refine T.ju.fn.ok sc_both_winds (fun vs H Q E h=>?_) (fun cdv A0 outer s H vs Q E hr h=>?_)
 ·revert h; walk_at "len"
 refine⟨_,(ah (ao (aJ (ab (ag T.cK (cR T) hr (ab (pv 0) (ab (pv 1) af))) (ab (ag T.cK (cR T) hr (ab (pv 0) (ab (aJ (ab (aI (aB (K:=K) rfl) (pv 1) aj (fun _ _=>rfl)) (ab (aI (aB (K:=K) rfl) (pv 1) aj (fun _ _=>rfl)) (ab (aI (aB (K:=K) rfl) (pv 1) aj (fun _ _=>rfl)) af)))) af))) af))))),?_⟩
 obtain⟨sea,na,st,tb,rs,l,ts,t,x,y,tm,u,more,rfl,hw,hna,hp,ht,hu,k⟩:=h
 refine bB (σ':=[some (.ref sea),some (.ref na)]) ?_ rfl
 walk_at "a"
 refine⟨sea,na,st,tb,rs,l,ts,t,x,y,tm,u::more,rfl,hw,hna,hp,ht,fun v1 H1 s1 hv1=>?_⟩
 walk_at "a"
 refine aV (SqL.of (s1 _ _ hna)) (v:=.int x) (aE (j:=0) rfl) ?_
 walk_at "a"
 refine aV (SqL.of (s1 _ _ hna)) (v:=.int y) (aE (j:=1) rfl) ?_
 walk_at "a"
 refine aV (SqL.of (s1 _ _ hna)) (v:=.int u) (aE (j:=3) rfl) ?_
 walk_at "a"
 refine⟨by show 3≤sizeLine; rw[aw]; omega,fun nb' hnb=>?_⟩
 have s2:ax H1 (upd H1 nb' (.lst [.int x,.int y,.int u])):=ax.new hnb
 have e2:upd H1 nb' (.lst [.int x,.int y,.int u]) nb' = some (.lst (ib [x,y,u])):=ai
 generalize upd H1 nb' (.lst [.int x,.int y,.int u])=H2 at *
 walk_at "a"
 refine⟨sea,nb',st,tb,rs,l,ts,t,x,y,u,[],rfl,hw.mono (s1.trans s2),e2,hp,hu,fun v2 H3 s3 hv2=>?_⟩
 walk_at "a"
 refine⟨by show 2≤sizeLine; rw[aw]; omega,fun p hp=>?_⟩
 exact k p v1 v2 _ (((s1.trans s2).trans s3).trans (ax.new hp)) ai (((hv1.mono s2).mono s3).mono (ax.new hp)) (hv2.mono (ax.new hp))
theorem ws_two{Z:Ad}{H:Hp}{v1 v2:V}{o1 o2:Option (Rat×Rat)}(h1:OptW Z H v1 o1)(h2:OptW Z H v2 o2):WsAt Z H [v1,v2] [o1,o2]:=⟨rfl,fun i v' o' g1 g2=>by
 match i with
 | 0 =>
  cases g1
  cases g2
  exact h1
 | 1 =>
  cases g1
  cases g2
  exact h2
 | n+2=>cases g1⟩
theorem refuse_two(o p:Option (Rat×Rat)):refuse [o,p]=match o,p with
  | some a,some b=>if (a.1.num=0∧a.2.num=0)∨(b.1.num=0∧b.2.num=0) then -7 else 0
  | _,_=>-6:=by
 cases o with
 | none=>rfl
 | some a =>
  cases p with
  | none=>rfl
  | some b =>
   unfold refuse
   rw[if_neg (by simp[isN])]
   by_cases h:(a.1.num=0∧a.2.num=0)∨(b.1.num=0∧b.2.num=0)
   ·rw[if_pos (by simpa [isC] using h)]
    exact(if_pos h).symm
   ·rw[if_neg (by simpa [isC] using h)]
    exact(if_neg h).symm
theorem jE(t u:Int):within 0 100000 [t,u]=(Vbreal.isTime t&&Vbreal.isTime u):=by
 rw[← cC,← cC]
 unfold within
 simp only[List.all_cons,List.all_nil,Bool.and_true]
theorem at_two{l:List Stn}{t:List Pnt}{x y tm u:Int}(wo:WM.WOk l)(f:Vbreal.Vec→Vbreal.Vec→Vbreal.State×Vbreal.Ans):(match Vbreal.windAt l ⟨x,y⟩ (Vbreal.whole tm) with
   | none=>((⟨l,t⟩:Vbreal.State),[-6])
   | some a=>match Vbreal.windAt l ⟨x,y⟩ (Vbreal.whole u) with
    | none=>((⟨l,t⟩:Vbreal.State),[-6])
    | some b=>f a b)=match WM.bE l x y (tm:Rat),WM.bE l x y (u:Rat) with
  | some a,some b=>f (WM.a8 a) (WM.a8 b)
  | _,_=>(⟨l,t⟩,[-6]):=by
 rw[WM.cq,WM.cq,WM.rj l x y _ fun s hs=>(wo.each s hs).rise,WM.rj l x y _ fun s hs=>(wo.each s hs).rise]
 cases WM.bE l x y (tm:Rat)<;>cases WM.bE l x y (u:Rat)<;>rfl
def oy(x y t u:Int):Bool:=Vbreal.isPlace x y&&(Vbreal.isTime t&&Vbreal.isTime u)
theorem ok_shift(T:Txt K mg Z):a9 P w K mg base CX0 9 Z.rK Z.d_shift ["sea", "numbers", "row"] (dm Z (fun a _=>∃ x y t u,a=[x,y,t,u]) (fun a _=>match a with | [x,y,t,u]=>.shift x y t u | _=>.print)):=by
 refine T.f_shift.fn.ok jm (fun vs H Q E h=>?_) (fun cdv A0 outer s H vs Q E hr h=>?_)
 ·revert h; walk_at "len"
 refine⟨_,(ae (aP (PW.pt (dJ (bR (br (ag T.cJ (cQ T) hr (ab (bg (bj (K:=K) rfl) (pv 1) cD (bc aj)) af)))) (dw (bR (br (ag T.b7 (b5 T) hr (ab (bg (bj (K:=K) rfl) (pv 1) (bc aj) cD) af))))))) (ah (ao (aJ (ab (bM T.bf) af)))) aA) (ae (az (i:=3) jm.nd rfl (Or.inl rfl) (ag T.ju (ox T) hr (ab (pv 0) (ab (pv 1) af)))) (ae (az (i:=4) jm.nd rfl (Or.inl rfl) (ag T.fG (gc T) hr (ab (pv 3) af))) (ae (aP (aH qZ (pv 4) aj (aM _)) (ah (ao (aJ (ab (pv 4) af)))) aA) (ae (az (i:=5) jm.nd rfl (Or.inl rfl) (ag T.dQ (d7 T) hr (ab (aI (aB (K:=K) rfl) (pv 3) aj (fun _ _=>rfl)) af))) (ae (az (i:=6) jm.nd rfl (Or.inl rfl) (ag T.dQ (d7 T) hr (ab (aI (aB (K:=K) rfl) (pv 3) aj (fun _ _=>rfl)) af))) (ae (az (i:=7) jm.nd rfl (Or.inl rfl) (aJ (ab (ag T.iJ (jD T) hr (ab (ag T.rz (ok_across T) hr (ab (pv 5) (ab (pv 6) af))) af)) (ab (ag T.iJ (jD T) hr (ab (ag T.ie (gL T) hr (ab (pv 5) (ab (pv 6) af))) af)) af)))) (ah (ao (aF jf (pv 7) (ag T.cz (cx T) hr (ab (ag T.n8 (ok_sine_square T) hr (ab (pv 5) (ab (pv 6) af))) af)))))))))))),?_⟩
 obtain⟨sea,na,ra,st,tb,rs,l,ts,t,args,row,rfl,hw,hna,hra,⟨x,y,tm,u,rfl⟩,k⟩:=h
 have k:=fun ans hs hl=>bP (c:=.shift x y tm u) (ans:=ans) hw k hs hl
 refine bB (σ':=[some (.ref sea),some (.ref na),some (.ref ra),none,none,none,none,none]) ?_ rfl
 have bad:∀ H1,ax H H1→oy x y tm u=false→cH H1 Q (ib [-10]):=fun H1 s1 hb=>cH.after s1 (k [-10] (by
  show Vbreal.asked _ [(oy x y tm u,-10)] _=_
  rw[hb]; rfl) (by simp))
 walk_at "a"
 refine d8 (SqL.of hna) fun a1 h1=>?_
 have e1:fN (ib [x,y,tm,u]) none (some 2)=ib [x,y]:=rfl
 rw[e1]
 walk_at "a"
 refine⟨a1,[x,y],rfl,ai,?_⟩
 have s1:ax H (upd H a1 (.lst (ib [x,y]))):=ax.new h1
 generalize upd H a1 (.lst (ib [x,y]))=H1 at *
 rw[cM]
 walk_at "a"
 cases hp:Vbreal.isPlace x y with
 | false =>
  refine aD ?_
  walk_at "a"
  exact aK (bad H1 s1 (by unfold oy; rw[hp]; rfl))
 | true =>
  refine aG ?_
  walk_at "a"
  refine d8 (SqL.of (s1 _ _ hna)) fun a2 h2=>?_
  have e2:fN (ib [x,y,tm,u]) (some 2) none=ib [tm,u]:=rfl
  rw[e2]
  walk_at "a"
  refine⟨a2,[tm,u],rfl,ai,?_⟩
  have s2:ax H1 (upd H1 a2 (.lst (ib [tm,u]))):=ax.new h2
  generalize upd H1 a2 (.lst (ib [tm,u]))=H2 at *
  have s02:=s1.trans s2
  rw[jE]
  walk_at "a"
  cases htt:Vbreal.isTime tm&&Vbreal.isTime u with
  | false =>
   refine aD ?_
   walk_at "a"
   exact aK (bad H2 s02 (by unfold oy; rw[hp,htt]; rfl))
  | true =>
   have ht:=(Bool.and_eq_true_iff.mp htt).1
   have hu:=(Bool.and_eq_true_iff.mp htt).2
   have hstep:Vbreal.step ⟨l,t⟩ (.shift x y tm u)=match WM.bE l x y (tm:Rat),WM.bE l x y (u:Rat) with
     | some a,some b=>if Vbreal.speedSquare (WM.a8 a)=Vbreal.zero∨Vbreal.speedSquare (WM.a8 b)=Vbreal.zero then(⟨l,t⟩,[-7]) else
      (⟨l,t⟩,[Vbreal.turnOf (Vbreal.crossOf (WM.a8 a) (WM.a8 b)),Vbreal.turnOf (Vbreal.dotOf (WM.a8 a) (WM.a8 b))]++Vbreal.told (Vbreal.over (Vbreal.mul (Vbreal.crossOf (WM.a8 a) (WM.a8 b)) (Vbreal.crossOf (WM.a8 a) (WM.a8 b))) (Vbreal.mul (Vbreal.speedSquare (WM.a8 a)) (Vbreal.speedSquare (WM.a8 b)))))
     | _,_=>(⟨l,t⟩,[-6]):=by
    show Vbreal.asked _ [(oy x y tm u,-10)] _=_
    unfold oy
    rw[hp,htt]
    exact at_two (t:=t) hw.wo fun a b=>if Vbreal.speedSquare a=Vbreal.zero∨Vbreal.speedSquare b=Vbreal.zero then(⟨l,t⟩,[-7]) else
      (⟨l,t⟩,[Vbreal.turnOf (Vbreal.crossOf a b),Vbreal.turnOf (Vbreal.dotOf a b)]++Vbreal.told (Vbreal.over (Vbreal.mul (Vbreal.crossOf a b) (Vbreal.crossOf a b)) (Vbreal.mul (Vbreal.speedSquare a) (Vbreal.speedSquare b))))
   refine aG ?_
   walk_at "a"
   refine⟨sea,na,st,tb,rs,l,ts,t,x,y,tm,u,[],rfl,hw.mono s02,s02 _ _ hna,hp,ht,hu,fun wl v1 v2 H3 s3 hwl hv1 hv2=>?_⟩
   have s03:=s02.trans s3
   walk_at "a"
   refine⟨wl,[v1,v2],_,rfl,hwl,ws_two hv1 hv2,?_⟩
   rw[refuse_two]
   walk_at "a"
   have no:WM.bE l x y (tm:Rat)=none∨WM.bE l x y (u:Rat)=none→Vbreal.step ⟨l,t⟩ (.shift x y tm u)=(⟨l,t⟩,[-6]):=fun g=>by
    rw[hstep]
    rcases g with g | g
    ·rw[g]
    ·rw[g]
     cases WM.bE l x y (tm:Rat)<;>rfl
   cases hwa:WM.bE l x y (tm:Rat) with
   | none =>
    refine cG (fun _=>?_) (fun g=>absurd g (show ¬ ((-6:Int)=0) by decide))
    walk_at "a"
    exact aK (cH.after s03 (k [-6] (no (.inl hwa)) (by simp)))
   | some a =>
    cases hwb:WM.bE l x y (u:Rat) with
    | none =>
     refine cG (fun _=>?_) (fun g=>absurd g (show ¬ ((-6:Int)=0) by decide))
     walk_at "a"
     exact aK (cH.after s03 (k [-6] (no (.inr hwb)) (by simp)))
    | some b =>
     rw[hwa] at hv1
     rw[hwb] at hv2
     rw[hwa,hwb] at hstep
     obtain⟨aa,rfl,haa⟩:=hv1
     obtain⟨ba,rfl,hba⟩:=hv2
     have b1:=(dG hw.wo hp ht hwa).1
     have b2:=(dG hw.wo hp hu hwb).1
     dsimp only at hstep ⊢
     by_cases hc:(a.1.num=0∧a.2.num=0)∨(b.1.num=0∧b.2.num=0)
     ·rw[if_pos (by rw[WM.ef,WM.ef]; exact hc)] at hstep
      refine cG (fun _=>?_) (fun g=>absurd g (by rw[if_pos hc]; decide))
      rw[if_pos hc]
      walk_at "a"
      exact aK (cH.after s03 (k [-7] hstep (by simp)))
     ·rw[if_neg (by rw[WM.ef,WM.ef]; exact hc)] at hstep
      have ca:¬ (a.1.num=0∧a.2.num=0):=fun g=>hc (.inl g)
      have cb:¬ (b.1.num=0∧b.2.num=0):=fun g=>hc (.inr g)
      obtain⟨c,hcp,f1,f2,f3⟩:=WM.two_F ca cb
      rw[f3,f1,f2,WM.sgn_scale hcp,WM.sgn_scale hcp] at hstep
      have bh1:mJ 714 (WM.hd a):=WM.m6 ca b1.1 b1.2
      have bh2:mJ 714 (WM.hd b):=WM.m6 cb b2.1 b2.2
      have hD1:=WM.il ca
      have hD2:=WM.il cb
      refine cG (fun g=>absurd (if_neg hc) g) (fun _=>?_)
      rw[if_neg hc]
      walk_at "a"
      refine aV (SqL.of hwl) (v:=.ref aa) (aE (j:=0) rfl) ?_
      walk_at "a"
      refine⟨aa,a,357,rfl,haa,ca,b1.1,b1.2,by omega,fun pa H4 s4 hpa=>?_⟩
      walk_at "a"
      refine aV (SqL.of (s4 _ _ hwl)) (v:=.ref ba) (aE (j:=1) rfl) ?_
      walk_at "a"
      refine⟨ba,b,357,rfl,hba.mono s4,cb,b2.1,b2.2,by omega,fun pb H5 s5 hpb=>?_⟩
      have hpa5:=hpa.mono s5
      have s05:=(s03.trans s4).trans s5
      walk_at "a"
      refine⟨pa,pb,_,_,714,714,rfl,hpa5,hpb,bh1,bh2,by omega,?_⟩
      walk_at "a"
      refine⟨_,rfl,?_⟩
      walk_at "a"
      refine⟨pa,pb,_,_,714,714,rfl,hpa5,hpb,bh1,bh2,by omega,?_⟩
      walk_at "a"
      refine⟨_,rfl,?_⟩
      walk_at "a"
      refine⟨by show 2≤sizeLine; rw[aw]; omega,fun p1 hp1=>?_⟩
      have s6:ax H5 (upd H5 p1 (.lst [.int (WM.sgn (WM.d5 (WM.hd a) (WM.hd b))),.int (WM.sgn (WM.bU (WM.hd a) (WM.hd b)))])):=ax.new hp1
      have e6:upd H5 p1 (.lst [.int (WM.sgn (WM.d5 (WM.hd a) (WM.hd b))),.int (WM.sgn (WM.bU (WM.hd a) (WM.hd b)))]) p1=some (.lst (ib [WM.sgn (WM.d5 (WM.hd a) (WM.hd b)),WM.sgn (WM.bU (WM.hd a) (WM.hd b))])):=ai
      generalize upd H5 p1 (.lst [.int (WM.sgn (WM.d5 (WM.hd a) (WM.hd b))),.int (WM.sgn (WM.bU (WM.hd a) (WM.hd b)))])=H6 at *
      walk_at "a"
      refine⟨pa,pb,_,_,714,rfl,hpa5.mono s6,hpb.mono s6,bh1,bh2,by omega,hD1,hD2,fun qa H7 s7 hqa=>?_⟩
      have bq:WM.Bd 12900 (Rat.divInt (WM.d5 (WM.hd a) (WM.hd b)^2) (WM.bU (WM.hd a) (WM.hd a)*WM.bU (WM.hd b) (WM.hd b))):=Bd.up (Bd.divInt (Int.mul_ne_zero (by omega) (by omega)) (sq_size (pC bh1 bh2)) (aO (fO bh1 bh1) (fO bh2 bh2))) (by omega)
      generalize Rat.divInt (WM.d5 (WM.hd a) (WM.hd b)^2) (WM.bU (WM.hd a) (WM.hd a)*WM.bU (WM.hd b) (WM.hd b))=q at *
      have tl:=fb bq
      have k:=k _ hstep (by rw[List.length_append]; show 2+_≤_; omega)
      walk_at "a"
      refine⟨qa,q,rfl,hqa,bq,fun p2 H8 s8 hp2 he2=>?_⟩
      have sAll:=((s05.trans s6).trans s7).trans s8
      refine rf ((s7.trans s8) _ _ e6) he2 ?_ fun p hp3=>?_
      ·rw[bG,aW,aW,aw]; show 2+_≤_; omega
      ·refine k p _ (sAll.trans (ax.new hp3)) (sAll.free hp3) ?_
       rw[ai,bG,← hJ]
def tanOk(p q:Int):Bool:=Vbreal.within 0 p 1000&&Vbreal.within 1 q 1000
def sp_is_tangent:Sp:=fun vs H Q _=>∃ (a:Addr) (p q:Int),vs=[.ref a]∧H a=some (.lst (ib [p,q]))∧∀ H',ax H H'→Q (.bl (tanOk p q)) H'
theorem ok_is_tangent(T:Txt K mg Z):a9 P w K mg base CX0 2 Z.qB Z.qC ["numbers"] (sp_is_tangent):=by
 refine T.qH.fn.ok sc_is_tangent (fun vs H Q E h=>?_) (fun cdv A0 outer s H vs Q E hr h=>?_)
 ·revert h; walk_at "len"
 refine⟨_,(ah (ao (pe_and (ag T.cA (cy T) hr (ab (bg (bj (K:=K) rfl) (pv 0) cD (bc aj)) (ab aj (ab (bM T.c_STEEPEST) af)))) (qR (ag T.cA (cy T) hr (ab (bg (bj (K:=K) rfl) (pv 0) (bc aj) cD) (ab aj (ab (bM T.c_STEEPEST) af)))))))),?_⟩
 obtain⟨a,p,q,rfl,ha,k⟩:=h
 refine bB (σ':=[some (.ref a)]) ?_ rfl
 unfold tanOk at k
 walk_at "a"
 refine d8 (SqL.of ha) fun a1 h1=>?_
 rw[show fN (ib [p,q]) none (some 1)=ib [p] from rfl]
 walk_at "a"
 refine⟨a1,[p],_,_,rfl,.inl ai,?_⟩
 have s1:ax H (upd H a1 (.lst (ib [p]))):=ax.new h1
 generalize upd H a1 (.lst (ib [p]))=H1 at *
 rw[km]
 walk_at "a"
 cases hp:Vbreal.within 0 p 1000 with
 | false =>
  refine aG ?_
  rw[hp] at k
  exact k H1 s1
 | true =>
  refine aD ?_
  rw[hp] at k
  walk_at "a"
  refine d8 (SqL.of (s1 _ _ ha)) fun a2 h2=>?_
  rw[show fN (ib [p,q]) (some 1) none=ib [q] from rfl]
  walk_at "a"
  refine⟨a2,[q],_,_,rfl,.inl ai,?_⟩
  rw[km]
  exact k _ (s1.trans (ax.new h2))
def ip(x y t u p q:Int):Bool:=Vbreal.isPlace x y&&(Vbreal.isTime t&&(Vbreal.isTime u&&tanOk p q))
theorem ok_turned(T:Txt K mg Z):a9 P w K mg base CX0 9 Z.mG Z.d_turned ["sea", "numbers", "row"] (dm Z (fun a _=>∃ x y t u p q,a=[x,y,t,u,p,q]) (fun a _=>match a with | [x,y,t,u,p,q]=>.turned x y t u p q | _=>.print)):=by
 refine T.f_turned.fn.ok sc_turned (fun vs H Q E h=>?_) (fun cdv A0 outer s H vs Q E hr h=>?_)
 ·revert h; walk_at "len"
 refine⟨_,(ae (aP (PW.pt (dJ (bR (br (ag T.cJ (cQ T) hr (ab (bg (bj (K:=K) rfl) (pv 1) cD (bc aj)) af)))) (dJ (bR (br (ag T.b7 (b5 T) hr (ab (bg (bj (K:=K) rfl) (pv 1) (bc aj) (bc aj)) af)))) (dw (bR (br (ag T.qH (ok_is_tangent T) hr (ab (bg (bj (K:=K) rfl) (pv 1) (bc aj) cD) af)))))))) (ah (ao (aJ (ab (bM T.bf) af)))) aA) (ae (az (i:=3) sc_turned.nd rfl (Or.inl rfl) (ag T.ju (ox T) hr (ab (pv 0) (ab (pv 1) af)))) (ae (az (i:=4) sc_turned.nd rfl (Or.inl rfl) (ag T.fG (gc T) hr (ab (pv 3) af))) (ae (aP (aH qZ (pv 4) aj (aM _)) (ah (ao (aJ (ab (pv 4) af)))) aA) (ae (aP (br (ag T.gX (mK T) hr (ab (ag T.dQ (d7 T) hr (ab (aI (aB (K:=K) rfl) (pv 3) aj (fun _ _=>rfl)) af)) (ab (ag T.dQ (d7 T) hr (ab (aI (aB (K:=K) rfl) (pv 3) aj (fun _ _=>rfl)) af)) (ab (aI (aB (K:=K) rfl) (pv 1) aj (fun _ _=>rfl)) (ab (aI (aB (K:=K) rfl) (pv 1) aj (fun _ _=>rfl)) af)))))) (ah (ao (aJ (ab aj af)))) aA) (ah (ao (aJ (ab aj af))))))))),?_⟩
 obtain⟨sea,na,ra,st,tb,rs,l,ts,t,args,row,rfl,hw,hna,hra,⟨x,y,tm,u,pp,qq,rfl⟩,k⟩:=h
 have k:=fun ans hs hl=>bP (c:=.turned x y tm u pp qq) (ans:=ans) hw k hs hl
 refine bB (σ':=[some (.ref sea),some (.ref na),some (.ref ra),none,none]) ?_ rfl
 have bad:∀ H1,ax H H1→ip x y tm u pp qq=false→cH H1 Q (ib [-10]):=fun H1 s1 hb=>cH.after s1 (k [-10] (by
  show Vbreal.asked _ [(ip x y tm u pp qq,-10)] _=_
  rw[hb]; rfl) (by simp))
 walk_at "a"
 refine d8 (SqL.of hna) fun a1 h1=>?_
 have e1:fN (ib [x,y,tm,u,pp,qq]) none (some 2)=ib [x,y]:=rfl
 rw[e1]
 walk_at "a"
 refine⟨a1,[x,y],rfl,ai,?_⟩
 have s1:ax H (upd H a1 (.lst (ib [x,y]))):=ax.new h1
 generalize upd H a1 (.lst (ib [x,y]))=H1 at *
 rw[cM]
 walk_at "a"
 cases hp:Vbreal.isPlace x y with
 | false =>
  refine aD ?_
  refine aD ?_
  walk_at "a"
  exact aK (bad H1 s1 (by unfold ip; rw[hp]; rfl))
 | true =>
  refine aG ?_
  walk_at "a"
  refine d8 (SqL.of (s1 _ _ hna)) fun a2 h2=>?_
  have e2:fN (ib [x,y,tm,u,pp,qq]) (some 2) (some 4)=ib [tm,u]:=rfl
  rw[e2]
  walk_at "a"
  refine⟨a2,[tm,u],rfl,ai,?_⟩
  have s2:ax H1 (upd H1 a2 (.lst (ib [tm,u]))):=ax.new h2
  generalize upd H1 a2 (.lst (ib [tm,u]))=H2 at *
  have s02:=s1.trans s2
  rw[jE]
  walk_at "a"
  cases htt:Vbreal.isTime tm&&Vbreal.isTime u with
  | false =>
   refine aD ?_
   refine aD ?_
   walk_at "a"
   exact aK (bad H2 s02 (by unfold ip; rw[hp,← Bool.and_assoc (Vbreal.isTime tm),htt]; rfl))
  | true =>
   have ht:=(Bool.and_eq_true_iff.mp htt).1
   have hu:=(Bool.and_eq_true_iff.mp htt).2
   refine aG ?_
   walk_at "a"
   refine d8 (SqL.of (s02 _ _ hna)) fun a3 h3=>?_
   have e3:fN (ib [x,y,tm,u,pp,qq]) (some 4) none=ib [pp,qq]:=rfl
   rw[e3]
   walk_at "a"
   have s3:ax H2 (upd H2 a3 (.lst (ib [pp,qq]))):=ax.new h3
   refine⟨a3,pp,qq,rfl,ai,fun H3 s4=>?_⟩
   have s03:=(s02.trans s3).trans s4
   walk_at "a"
   cases hk:tanOk pp qq with
   | false =>
    refine aD ?_
    walk_at "a"
    exact aK (bad H3 s03 (by unfold ip; rw[hp,ht,hu,hk]; rfl))
   | true =>
    have hr:(0≤pp∧pp≤1000)∧(1≤qq∧qq≤1000):=by
     unfold tanOk Vbreal.within at hk
     simpa using hk
    have hstep:Vbreal.step ⟨l,t⟩ (.turned x y tm u pp qq)=match WM.bE l x y (tm:Rat),WM.bE l x y (u:Rat) with
      | some a,some b=>if Vbreal.speedSquare (WM.a8 a)=Vbreal.zero∨Vbreal.speedSquare (WM.a8 b)=Vbreal.zero then(⟨l,t⟩,[-7]) else
       (⟨l,t⟩,[if (Vbreal.atMost (Vbreal.dotOf (WM.a8 a) (WM.a8 b)) Vbreal.zero || Vbreal.less (Vbreal.mul (Vbreal.whole pp) (Vbreal.dotOf (WM.a8 a) (WM.a8 b))) (Vbreal.mul (Vbreal.whole qq) (if Vbreal.less (Vbreal.crossOf (WM.a8 a) (WM.a8 b)) Vbreal.zero=true then Vbreal.sub Vbreal.zero (Vbreal.crossOf (WM.a8 a) (WM.a8 b)) else Vbreal.crossOf (WM.a8 a) (WM.a8 b))))=true then 1 else 0])
      | _,_=>(⟨l,t⟩,[-6]):=by
     show Vbreal.asked _ [(ip x y tm u pp qq,-10)] _=_
     unfold ip
     rw[hp,ht,hu,hk]
     exact at_two (t:=t) hw.wo fun a b=>if Vbreal.speedSquare a=Vbreal.zero∨Vbreal.speedSquare b=Vbreal.zero then(⟨l,t⟩,[-7]) else
       (⟨l,t⟩,[if (Vbreal.atMost (Vbreal.dotOf a b) Vbreal.zero || Vbreal.less (Vbreal.mul (Vbreal.whole pp) (Vbreal.dotOf a b)) (Vbreal.mul (Vbreal.whole qq) (if Vbreal.less (Vbreal.crossOf a b) Vbreal.zero=true then Vbreal.sub Vbreal.zero (Vbreal.crossOf a b) else Vbreal.crossOf a b)))=true then 1 else 0])
    refine aG ?_
    walk_at "a"
    refine⟨sea,na,st,tb,rs,l,ts,t,x,y,tm,u,[pp,qq],rfl,hw.mono s03,s03 _ _ hna,hp,ht,hu,fun wl v1 v2 H4 s5 hwl hv1 hv2=>?_⟩
    have s04:=s03.trans s5
    walk_at "a"
    refine⟨wl,[v1,v2],_,rfl,hwl,ws_two hv1 hv2,?_⟩
    rw[refuse_two]
    walk_at "a"
    have no:WM.bE l x y (tm:Rat)=none∨WM.bE l x y (u:Rat)=none→Vbreal.step ⟨l,t⟩ (.turned x y tm u pp qq)=(⟨l,t⟩,[-6]):=fun g=>by
     rw[hstep]
     rcases g with g | g
     ·rw[g]
     ·rw[g]
      cases WM.bE l x y (tm:Rat)<;>rfl
    cases hwa:WM.bE l x y (tm:Rat) with
    | none =>
     refine cG (fun _=>?_) (fun g=>absurd g (show ¬ ((-6:Int)=0) by decide))
     walk_at "a"
     exact aK (cH.after s04 (k [-6] (no (.inl hwa)) (by simp)))
    | some a =>
     cases hwb:WM.bE l x y (u:Rat) with
     | none =>
      refine cG (fun _=>?_) (fun g=>absurd g (show ¬ ((-6:Int)=0) by decide))
      walk_at "a"
      exact aK (cH.after s04 (k [-6] (no (.inr hwb)) (by simp)))
     | some b =>
      rw[hwa] at hv1
      rw[hwb] at hv2
      rw[hwa,hwb] at hstep
      obtain⟨aa,rfl,haa⟩:=hv1
      obtain⟨ba,rfl,hba⟩:=hv2
      have b1:=(dG hw.wo hp ht hwa).1
      have b2:=(dG hw.wo hp hu hwb).1
      dsimp only at hstep ⊢
      by_cases hc:(a.1.num=0∧a.2.num=0)∨(b.1.num=0∧b.2.num=0)
      ·rw[if_pos (by rw[WM.ef,WM.ef]; exact hc)] at hstep
       refine cG (fun _=>?_) (fun g=>absurd g (by rw[if_pos hc]; decide))
       rw[if_pos hc]
       walk_at "a"
       exact aK (cH.after s04 (k [-7] hstep (by simp)))
      ·rw[if_neg (by rw[WM.ef,WM.ef]; exact hc)] at hstep
       have ca:¬ (a.1.num=0∧a.2.num=0):=fun g=>hc (.inl g)
       have cb:¬ (b.1.num=0∧b.2.num=0):=fun g=>hc (.inr g)
       obtain⟨c,hcp,f1,f2,f3⟩:=WM.two_F ca cb
       rw[f1,f2,WM.turned_F hcp] at hstep
       have bh1:mJ 714 (WM.hd a):=WM.m6 ca b1.1 b1.2
       have bh2:mJ 714 (WM.hd b):=WM.m6 cb b2.1 b2.2
       refine cG (fun g=>absurd (if_neg hc) g) (fun _=>?_)
       rw[if_neg hc]
       walk_at "a"
       refine aV (SqL.of hwl) (v:=.ref aa) (aE (j:=0) rfl) ?_
       walk_at "a"
       refine⟨aa,a,357,rfl,haa,ca,b1.1,b1.2,by omega,fun pa H5 s6 hpa=>?_⟩
       walk_at "a"
       refine aV (SqL.of (s6 _ _ hwl)) (v:=.ref ba) (aE (j:=1) rfl) ?_
       walk_at "a"
       refine⟨ba,b,357,rfl,hba.mono s6,cb,b2.1,b2.2,by omega,fun pb H6 s7 hpb=>?_⟩
       have s06:=(s04.trans s6).trans s7
       walk_at "a"
       refine aV (SqL.of (s06 _ _ hna)) (v:=.int pp) (aE (j:=4) rfl) ?_
       walk_at "a"
       refine aV (SqL.of (s06 _ _ hna)) (v:=.int qq) (aE (j:=5) rfl) ?_
       walk_at "a"
       refine⟨pa,pb,_,_,714,pp,qq,rfl,hpa.mono s7,hpb,bh1,bh2,by omega,by show _<1048576; omega,by show _<1048576; omega,?_⟩
       walk_at "a"
       have hb:beyond (WM.hd a) (WM.hd b) pp qq=(decide (WM.bU (WM.hd a) (WM.hd b)≤0) || decide (WM.bU (WM.hd a) (WM.hd b)*pp<((WM.d5 (WM.hd a) (WM.hd b)).natAbs:Int)*qq)):=rfl
       rw[← hb] at hstep
       cases hbe:beyond (WM.hd a) (WM.hd b) pp qq with
       | true =>
        rw[hbe] at hstep
        refine aD ?_
        walk_at "a"
        exact aK (cH.after s06 (k [1] hstep (by simp)))
       | false =>
        rw[hbe] at hstep
        refine aG ?_
        walk_at "a"
        exact aK (cH.after s06 (k [0] hstep (by simp)))
theorem ok_strongest(T:Txt K mg Z):a9 P w K mg base CX0 8 Z.gj Z.d_strongest ["sea", "numbers", "row"] (dm Z (fun a _=>∃ t,a=[t]) (fun a _=>match a with | [t]=>.strongest t | _=>.print)):=by
 refine T.mh.fn.ok qL (fun vs H Q E h=>?_) (fun cdv A0 outer s H vs Q E hr h=>?_)
 ·revert h; walk_at "len"
 refine⟨_,(ae (aP (bR (br (ag T.b7 (b5 T) hr (ab (pv 1) af)))) (ah (ao (aJ (ab (bM T.bf) af)))) aA) (ae (az (i:=3) qL.nd rfl (Or.inl rfl) (ag T.lG (ok_strongest_at T) hr (ab (ak (K:=K) rfl (pv 0) rfl) (ab (ag T.dO (dg T) hr (ab (aI (aB (K:=K) rfl) (pv 1) aj (fun _ _=>rfl)) af)) af)))) (ae (aP (cN (cV (pv 3))) (ah (ao (aJ (ab (bM T.gd) af)))) aA) (ah (ao (aF jf (aJ (ab (aI (aU (K:=K) rfl) (pv 3) aj (fun _ _=>rfl)) af)) (ag T.cz (cx T) hr (ab (aI (aU (K:=K) rfl) (pv 3) aj (fun _ _=>rfl)) af)))))))),?_⟩
 obtain⟨sea,na,ra,st,tb,rs,l,ts,t,args,row,rfl,hw,hna,hra,⟨tm,rfl⟩,k⟩:=h
 have k:=fun ans hs hl=>bP (c:=.strongest tm) (ans:=ans) hw k hs hl
 refine bB (σ':=[some (.ref sea),some (.ref na),some (.ref ra),none]) ?_ rfl
 walk_at "a"
 refine⟨na,[tm],rfl,hna,?_⟩
 rw[cC]
 walk_at "a"
 cases ht:Vbreal.isTime tm with
 | false =>
  refine aD ?_
  walk_at "a"
  exact aK (k [-10] (by
   show Vbreal.asked _ [(Vbreal.isTime tm,-10)] _=_
   rw[ht]; rfl) (by simp))
 | true =>
  have q:=kr ht
  have hstep:Vbreal.step ⟨l,t⟩ (.strongest tm)=match (WM.spkW (tm:Rat) 0 l).foldl WM.gI none with
    | none=>(⟨l,t⟩,[-6])
    | some x=>(⟨l,t⟩,Int.ofNat x.1::Vbreal.told (WM.F x.2)):=by
   show Vbreal.asked _ [(Vbreal.isTime tm,-10)] _=_
   rw[ht]
   have e:=WM.spkW_F (tm:Rat) l 0 fun s hs=>(hw.wo.each s hs).rise
   have e2:=WM.fold_F (WM.spkW (tm:Rat) 0 l) none
   show(match (((List.range l.length).zip l).filterMap fun p=>(Vbreal.windOf p.2.seen (Vbreal.whole tm)).map fun w=>(p.1+1,Vbreal.speedSquare w)).foldl (fun(m:Option (Nat×Vbreal.Frac)) x=>match m with
    | none=>some x
    | some y=>if Vbreal.less y.2 x.2=true then some x else some y) none with
   | none=>((⟨l,t⟩:Vbreal.State),([-6]:Vbreal.Ans))
   | some x=>(⟨l,t⟩,Int.ofNat x.1::Vbreal.told x.2))=_
   rw[WM.cq,List.range_eq_range',e]
   have e3:=congrArg (fun o:Option (Nat×Vbreal.Frac)=>match o with
    | none=>((⟨l,t⟩:Vbreal.State),([-6]:Vbreal.Ans))
    | some x=>(⟨l,t⟩,Int.ofNat x.1::Vbreal.told x.2)) e2
   refine Eq.trans e3 ?_
   cases(WM.spkW (tm:Rat) 0 l).foldl WM.gI none<;>rfl
  refine aG ?_
  walk_at "a"
  refine cI hw T ?_
  walk_at "a"
  refine aV (SqL.of hna) (v:=.int tm) (aE (j:=0) rfl) ?_
  walk_at "a"
  refine⟨tm,rfl,fun c H1 s1 hc=>?_⟩
  walk_at "a"
  refine⟨st,c,rs,l,_,rfl,hw.we.mono s1,hw.wo,hc,Bd.whole (by show _<131072; omega) (by omega),fun v H2 s2 hv=>?_⟩
  have s02:=s1.trans s2
  walk_at "a"
  cases ho:(WM.spkW (tm:Rat) 0 l).foldl WM.gI none with
  | none =>
   rw[ho] at hv hstep
   have hv:v = .non:=hv
   rw[decide_eq_true hv]
   refine aD ?_
   walk_at "a"
   exact aK (cH.after s02 (k [-6] hstep (by simp)))
  | some x =>
   rw[ho] at hv hstep
   obtain⟨tp,p,rfl,htp,hp,bp⟩:=hv
   have bp:WM.Bd 12900 x.2:=Bd.up bp (by omega)
   have tl:=fb bp
   have k:=k _ hstep (by rw[List.length_cons]; omega)
   rw[decide_eq_false (by intro g; cases g)]
   refine aG ?_
   walk_at "a"
   refine b9 (SqT.of htp) (v:=.int (x.1:Int)) rfl ?_
   walk_at "a"
   refine⟨by show 1≤sizeLine; rw[aw]; omega,fun p1 hp1=>?_⟩
   have s3:ax H2 (upd H2 p1 (.lst [.int (x.1:Int)])):=ax.new hp1
   have e3:upd H2 p1 (.lst [.int (x.1:Int)]) p1=some (.lst [.int (x.1:Int)]):=ai
   generalize upd H2 p1 (.lst [.int (x.1:Int)])=H3 at *
   walk_at "a"
   refine b9 (SqT.of (s3 _ _ htp)) (v:=.ref p) rfl ?_
   walk_at "a"
   refine⟨p,x.2,rfl,hp.mono s3,bp,fun p2 H4 s4 hp2 he2=>?_⟩
   have sAll:=(s02.trans s3).trans s4
   refine rf (s4 _ _ e3) he2 ?_ fun p3 hp3=>?_
   ·rw[bG,aW,aw]; show 1+_≤_; omega
   ·refine k p3 _ (sAll.trans (ax.new hp3)) (sAll.free hp3) ?_
    rw[ai,bG]
    rfl
theorem dR(a b:Option Rat):(match a.map WM.F,b.map WM.F with
  | some f,some g=>([if Vbreal.less f g=true then 1 else if Vbreal.less g f=true then 2 else 0]:List Int)
  | some _,none=>[1]
  | none,some _=>[2]
  | none,none=>[0])=[cmpT a b]:=by
 cases a with
 | none=>cases b<;>rfl
 | some p =>
  cases b with
  | none=>rfl
  | some q =>
   show [if Vbreal.less (WM.F p) (WM.F q)=true then(1:Int) else if Vbreal.less (WM.F q) (WM.F p)=true then 2 else 0]=[if decide (p<q)=true then 1 else if decide (q<p)=true then 2 else 0]
   rw[WM.fK,WM.fK]
theorem ok_between(T:Txt K mg Z):a9 P w K mg base CX0 8 Z.je Z.d_between ["sea", "numbers", "row"] (dm Z (fun a _=>∃ x y t dx dy,a=[x,y,t,dx,dy]) (fun a r=>match a with | [x,y,t,dx,dy]=>.between x y t dx dy r | _=>.print)):=by
 refine T.f_between.fn.ok kg (fun vs H Q E h=>?_) (fun cdv A0 outer s H vs Q E hr h=>?_)
 ·revert h; walk_at "len"
 refine⟨_,(ae (aP (bR (br (ag T.d9 (eX T) hr (ab (pv 1) af)))) (ah (ao (aJ (ab (bM T.bf) af)))) aA) (ae (aP (bR (br (ag T.o9 (ok_is_table T) hr (ab (pv 2) af)))) (ah (ao (aJ (ab (bM T.jw) af)))) aA) (ae (az (i:=3) kg.nd rfl (Or.inl rfl) (ag T.cK (cR T) hr (ab (pv 0) (ab (pv 1) af)))) (ae (aP (cN (cV (pv 3))) (ah (ao (aJ (ab (bM T.gd) af)))) aA) (ae (az (i:=4) kg.nd rfl (Or.inl rfl) (ag T.f7 (gq T) hr (ab (ak (K:=K) rfl (pv 0) rfl) (ab (pv 3) (ab (aI (aB (K:=K) rfl) (pv 1) aj (fun _ _=>rfl)) (ab (aI (aB (K:=K) rfl) (pv 1) aj (fun _ _=>rfl)) af)))))) (ae (az (i:=5) kg.nd rfl (Or.inl rfl) (ag T.f7 (gq T) hr (ab (ag T.kc (mr T) hr (ab (pv 2) af)) (ab (pv 3) (ab (aI (aB (K:=K) rfl) (pv 1) aj (fun _ _=>rfl)) (ab (aI (aB (K:=K) rfl) (pv 1) aj (fun _ _=>rfl)) af)))))) (ah (ao (aJ (ab (ag T.ka (rX T) hr (ab (pv 4) (ab (pv 5) af))) af)))))))))),?_⟩
 obtain⟨sea,na,ra,st,tb,rs,l,ts,t,args,row,rfl,hw,hna,hra,⟨x,y,tm,dx,dy,rfl⟩,k⟩:=h
 have k:=fun ans hs hl=>bP (c:=.between x y tm dx dy row) (ans:=ans) hw k hs hl
 refine bB (σ':=[some (.ref sea),some (.ref na),some (.ref ra),none,none,none]) ?_ rfl
 walk_at "a"
 refine⟨na,x,y,tm,dx,dy,[],rfl,hna,fun H1 s1=>?_⟩
 walk_at "a"
 cases hr:kG x y tm dx dy with
 | false =>
  refine aD ?_
  walk_at "a"
  exact aK (cH.after s1 (k [-10] (by
   show Vbreal.asked _ [(kG x y tm dx dy,-10)] _=_
   rw[hr]; rfl) (by simp)))
 | true =>
  obtain⟨hp,ht,hd⟩:=way_of hr
  have fd:=far_of hd
  have hstep:Vbreal.step ⟨l,t⟩ (.between x y tm dx dy row)=if hU row=true then(match WM.bE l x y (tm:Rat) with
    | none=>(⟨l,t⟩,[-6])
    | some w=>(⟨l,t⟩,[cmpT (WM.bC t w.1 w.2 dx dy) (WM.bC (bz row) w.1 w.2 dx dy)])) else(⟨l,t⟩,[-9]):=by
   show Vbreal.asked _ [(kG x y tm dx dy,-10)] _=_
   rw[hr]
   have e:=pairs_tab row ((⟨l,t⟩:Vbreal.State),([-9]:Vbreal.Ans)) fun b=>match Vbreal.windAt l ⟨x,y⟩ (Vbreal.whole tm) with
    | none=>((⟨l,t⟩:Vbreal.State),[-6])
    | some w=>match Vbreal.timeIn t w ⟨dx,dy⟩,Vbreal.timeIn b w ⟨dx,dy⟩ with
     | some f,some g=>(⟨l,t⟩,[if Vbreal.less f g=true then 1 else if Vbreal.less g f=true then 2 else 0])
     | some _,none=>(⟨l,t⟩,[1])
     | none,some _=>(⟨l,t⟩,[2])
     | none,none=>(⟨l,t⟩,[0])
   refine Eq.trans e ?_
   cases hU row with
   | false=>rfl
   | true =>
    rw[if_pos rfl,if_pos rfl]
    refine Eq.trans (at_eq (t:=t) hw.wo fun w=>match Vbreal.timeIn t w ⟨dx,dy⟩,Vbreal.timeIn (bz row) w ⟨dx,dy⟩ with
     | some f,some g=>(⟨l,t⟩,[if Vbreal.less f g=true then 1 else if Vbreal.less g f=true then 2 else 0])
     | some _,none=>(⟨l,t⟩,[1])
     | none,some _=>(⟨l,t⟩,[2])
     | none,none=>(⟨l,t⟩,[0])) ?_
    cases WM.bE l x y (tm:Rat) with
    | none=>rfl
    | some w =>
     have e1:Vbreal.timeIn t (WM.a8 w) ⟨dx,dy⟩=(WM.bC t w.1 w.2 dx dy).map WM.F:=WM.mC t w.1 w.2 ⟨dx,dy⟩
     have e2:Vbreal.timeIn (bz row) (WM.a8 w) ⟨dx,dy⟩=(WM.bC (bz row) w.1 w.2 dx dy).map WM.F:=WM.mC (bz row) w.1 w.2 ⟨dx,dy⟩
     dsimp only
     rw[e1,e2,← dR]
     cases WM.bC t w.1 w.2 dx dy<;>cases WM.bC (bz row) w.1 w.2 dx dy<;>rfl
  refine aG ?_
  walk_at "a"
  refine⟨ra,row,rfl,s1 _ _ hra,?_⟩
  walk_at "a"
  cases htr:hU row with
  | false =>
   rw[htr,if_neg (by decide)] at hstep
   refine aD ?_
   walk_at "a"
   exact aK (cH.after s1 (k [-9] hstep (by simp)))
  | true =>
   rw[htr,if_pos rfl] at hstep
   obtain⟨tok,n,hn,hn12,hpl⟩:=tab_ok htr
   refine aG ?_
   walk_at "a"
   refine⟨sea,na,st,tb,rs,l,ts,t,x,y,tm,[dx,dy],rfl,hw.mono s1,s1 _ _ hna,hp,ht,fun v H2 s2 hv=>?_⟩
   have s02:=s1.trans s2
   walk_at "a"
   cases hwq:WM.bE l x y (tm:Rat) with
   | none =>
    rw[hwq] at hv hstep
    have hv:v = .non:=hv
    rw[decide_eq_true hv]
    refine aD ?_
    walk_at "a"
    exact aK (cH.after s02 (k [-6] hstep (by simp)))
   | some w =>
    rw[hwq] at hv hstep
    obtain⟨wa,rfl,hwa⟩:=hv
    have bw:=dG hw.wo hp ht hwq
    rw[decide_eq_false (by intro g; cases g)]
    refine aG ?_
    walk_at "a"
    refine ij (hw.mono s02) T ?_
    walk_at "a"
    refine aV (SqL.of (s02 _ _ hna)) (v:=.int dx) (aE (j:=3) rfl) ?_
    walk_at "a"
    refine aV (SqL.of (s02 _ _ hna)) (v:=.int dy) (aE (j:=4) rfl) ?_
    walk_at "a"
    refine⟨tb,wa,ts,t,w,dx,dy,357,rfl,hw.tab.mono s02,hw.tok,hwa,bw.1.1,bw.1.2,by omega,fd.1,fd.2,fun r1 H3 s3 hr1=>?_⟩
    have s03:=s02.trans s3
    walk_at "a"
    refine⟨ra,row,n,rfl,s03 _ _ hra,hn,by omega,fun pt H4 ts1 s4 hp1 htab=>?_⟩
    have s04:=s03.trans s4
    walk_at "a"
    refine aV (SqL.of (s04 _ _ hna)) (v:=.int dx) (aE (j:=3) rfl) ?_
    walk_at "a"
    refine aV (SqL.of (s04 _ _ hna)) (v:=.int dy) (aE (j:=4) rfl) ?_
    walk_at "a"
    refine⟨pt,wa,ts1,bz row,w,dx,dy,357,rfl,htab,tok,(hwa.mono s3).mono s4,bw.1.1,bw.1.2,by omega,fd.1,fd.2,fun r2 H5 s5 hr2=>?_⟩
    have s05:=s04.trans s5
    walk_at "a"
    refine⟨r1,r2,_,_,755,rfl,(hr1.mono s4).mono s5,hr2,fun q hq=>bw.2 hw.tok fd.1 fd.2 hq,fun q hq=>bw.2 tok fd.1 fd.2 hq,by omega,?_⟩
    walk_at "a"
    exact aK (cH.after s05 (k _ hstep (by simp)))
def staV(s:Stn):List Int:=[s.place.x,s.place.y,Int.ofNat s.seen.length]
theorem sta_len(l:List Stn):(l.flatMap staV).length=3*l.length:=by
 induction l with
 | nil=>rfl
 | cons s r ih =>
  rw[List.flatMap_cons,List.length_append,ih,List.length_cons]
  show 3+_=_
  omega
theorem r0(T:Txt K mg Z):a9 P w K mg base CX0 1 Z.dS Z.j2 ["sea", "numbers", "row"] (dm Z (fun _ _=>True) (fun _ _=>.stations)):=by
 refine T.gy.fn.ok fP (fun vs H Q E h=>?_) (fun cdv A0 outer s H vs Q E hr h=>?_)
 ·revert h; walk_at "len"
 refine⟨_,(ae (az (i:=3) fP.nd rfl (Or.inl rfl) (aJ (ab (aT (aS (K:=K) rfl) rfl T.dE PySem.boot_len (ab (ak (K:=K) rfl (pv 0) rfl) af)) af))) (ae (cW PassesOwn.never rfl (bD (K:=K) rfl (ak (K:=K) rfl (pv 0) rfl)) (aZ (i:=4) fP.nd rfl (Or.inl rfl)) (ah (dk (fJ (K:=K) rfl PySem.F.plainAttrs_list PySem.F.slot_list_extend PySem.F.type_list_extend g7 (pv 3) (ab (aJ (ab (ak (K:=K) rfl (pv 4) rfl) (ab (ak (K:=K) rfl (pv 4) rfl) (ab (aT (aS (K:=K) rfl) rfl T.dE PySem.boot_len (ab (ak (K:=K) rfl (pv 4) rfl) af)) af)))) af))))) (ah (ao (pv 3))))),?_⟩
 obtain⟨sea,na,ra,st,tb,rs,l,ts,t,args,row,rfl,hw,hna,hra,_,k⟩:=h
 have hl6:=hw.wo.len
 have k:=bP (c:=.stations) (ans:=(l.length:Int)::l.flatMap staV) hw k rfl (by rw[List.length_cons,sta_len]; omega)
 refine bB (σ':=[some (.ref sea),some (.ref na),some (.ref ra),none,none]) ?_ rfl
 walk_at "a"
 refine cI hw T ?_
 walk_at "a"
 refine bV (SqL.of hw.we.lst) ?_
 rw[List.length_map,hw.we.len]
 walk_at "a"
 refine⟨by show 1≤sizeLine; rw[aw]; omega,fun p hp=>?_⟩
 have s1:ax H (upd H p (.lst [.int (l.length:Int)])):=ax.new hp
 have e1:upd H p (.lst [.int (l.length:Int)]) p=some (.lst (ib ((l.length:Int)::(l.take 0).flatMap staV))):=ai
 generalize upd H p (.lst [.int (l.length:Int)])=H1 at *
 walk_at "a"
 refine cI (hw.mono s1) T ?_
 refine⟨st,rfl,⟨_,SqL.of (s1 _ _ hw.we.lst)⟩,?_⟩
 refine bQ (K:=K) (a:=st) (xs:=rs.map fun r=>V.ref r.p) (fun i σ H'=>∃ v:Option V,σ=[some (.ref sea),some (.ref na),some (.ref ra),some (.ref p),v]∧ax H H'∧H' p=some (.lst (ib ((l.length:Int)::(l.take i).flatMap staV))))
  ⟨_,rfl,s1,e1⟩ (fun i σ H' _ ⟨_,_,s',_⟩=>SqL.of (s' _ _ hw.we.lst)) ?_ ?_
 ·rintro i y σ H' hi ⟨v,rfl,s',hpl⟩
  obtain⟨r,hri,rfl⟩:=i6 hi
  have hil:i<l.length:=by rw[← hw.we.len]; exact(List.getElem?_eq_some_iff.mp hri).1
  have hz:=List.getElem?_eq_getElem hil
  have hst:=(hw.we.at_ i r _ hri hz).mono s'
  rw[take_snoc hz,List.flatMap_append]
  have ln:((l.take i).flatMap staV).length≤18:=by rw[sta_len,List.length_take]; omega
  generalize l[i]=s0 at *
  walk_at "a"
  refine⟨ty_list (SqL.of hpl),?_⟩
  walk_at "a"
  refine rA hst T ?_
  walk_at "a"
  refine rB hst T ?_
  walk_at "a"
  refine b8 hst T ?_
  walk_at "a"
  refine bV (SqL.of hst.sl) ?_
  rw[List.length_map,hst.si.1]
  walk_at "a"
  refine⟨by show 3≤sizeLine; rw[aw]; omega,fun q hq=>?_⟩
  have hpq:p≠q:=aC hpl hq
  walk_at "a"
  refine ji (by rw[ay hpq]; exact hpl) ai (by rw[aW,List.length_cons,aw]; show _+3≤_; omega) ?_
  refine⟨_,rfl,(s'.trans (ax.new hq)).dB hp,?_⟩
  rw[ai]
  unfold ib staV
  simp
 ·rintro σ H' ⟨v,rfl,s',hpl⟩
  rw[List.length_map,hw.we.len,List.take_length] at hpl
  walk_at "a"
  exact k p H' s' hp hpl
def oz(t u:Int):Bool:=Vbreal.isTime t&&(Vbreal.isTime u&&decide (t<u))
theorem ok_mean(T:Txt K mg Z):a9 P w K mg base CX0 7 Z.a_mean Z.d_mean ["sea", "numbers", "row"] (dm Z (fun a _=>∃ i t u,a=[i,t,u]) (fun a _=>match a with | [i,t,u]=>.mean i t u | _=>.print)):=by
 refine T.f_mean.fn.ok sc_mean (fun vs H Q E h=>?_) (fun cdv A0 outer s H vs Q E hr h=>?_)
 ·revert h; walk_at "len"
 refine⟨_,(ae (aP (bR (br (ag T.jt (ow T) hr (ab (pv 0) (ab (aI (aB (K:=K) rfl) (pv 1) aj (fun _ _=>rfl)) af))))) (ah (ao (aJ (ab (bM T.qI) af)))) aA) (ae (aP (PW.pt (dJ (bR (br (ag T.b7 (b5 T) hr (ab (bg (bj (K:=K) rfl) (pv 1) (bc aj) cD) af)))) (dw (aH oK (aI (aB (K:=K) rfl) (pv 1) aj (fun _ _=>rfl)) (aI (aB (K:=K) rfl) (pv 1) aj (fun _ _=>rfl)) (aM _))))) (ah (ao (aJ (ab (bM T.bf) af)))) aA) (ae (az (i:=3) sc_mean.nd rfl (Or.inl rfl) (aI (aB (K:=K) rfl) (ak (K:=K) rfl (pv 0) rfl) (aF cX (aI (aB (K:=K) rfl) (pv 1) aj (fun _ _=>rfl)) aj) (fun _ _=>rfl))) (ae (cW PassesOwn.never rfl (bD (K:=K) rfl (bg (bj (K:=K) rfl) (pv 1) (bc aj) cD)) (aZ (i:=4) sc_mean.nd rfl (Or.inl rfl)) (ah (aP (cN (cV (ag T.cU (di T) hr (ab (pv 3) (ab (ag T.dO (dg T) hr (ab (pv 4) af)) af))))) (ah (ao (aJ (ab (bM T.gd) af)))) aA))) (ae (az (i:=5) sc_mean.nd rfl (Or.inl rfl) (ag T.f_mean_wind (ok_mean_wind T) hr (ab (pv 3) (ab (aI (aB (K:=K) rfl) (pv 1) aj (fun _ _=>rfl)) (ab (aI (aB (K:=K) rfl) (pv 1) aj (fun _ _=>rfl)) af))))) (ah (ao (aF jf (ag T.cz (cx T) hr (ab (ak (K:=K) rfl (pv 5) rfl) af)) (ag T.cz (cx T) hr (ab (ak (K:=K) rfl (pv 5) rfl) af)))))))))),?_⟩
 obtain⟨sea,na,ra,st,tb,rs,l,ts,t,args,row,rfl,hw,hna,hra,⟨i,tm,u,rfl⟩,k⟩:=h
 have k:=fun ans hs hl=>bP (c:=.mean i tm u) (ans:=ans) hw k hs hl
 refine bB (σ':=[some (.ref sea),some (.ref na),some (.ref ra),none,none,none]) ?_ rfl
 have bad:(Vbreal.within 1 i (Int.ofNat l.length))=false→cH H Q (ib [-2]):=fun hb=>k [-2] (by
  show Vbreal.asked _ [(Vbreal.within 1 i (Int.ofNat l.length),-2),(oz tm u,-10)] _=_
  rw[hb]; rfl) (by simp)
 have hwi:Vbreal.within 1 i (Int.ofNat l.length)=decide (1≤i∧i≤l.length):=by
  unfold Vbreal.within
  rw[Bool.decide_and]; rfl
 rw[hwi] at bad
 walk_at "a"
 refine aV (SqL.of hna) (v:=.int i) (aE (j:=0) rfl) ?_
 walk_at "a"
 refine⟨sea,st,tb,rs,l,ts,t,i,rfl,hw,?_⟩
 walk_at "a"
 refine cG (fun h1=>?_) (fun h1=>?_)
 ·walk_at "a"
  exact aK (bad (decide_eq_false h1))
 obtain⟨j,hj⟩:∃ j:Nat,i=(j:Int)+1:=⟨i.toNat-1,by omega⟩
 have hjn:i.toNat-1=j:=by omega
 have hrl:j<rs.length:=by rw[hw.we.len]; omega
 have hri:=List.getElem?_eq_getElem hrl
 have hjl:j<l.length:=by omega
 have hlj:=List.getElem?_eq_getElem hjl
 have hstep:Vbreal.step ⟨l,t⟩ (.mean i tm u)=Vbreal.asked ⟨l,t⟩ [(oz tm u,-10)] (if (Vbreal.windOf l[j].seen (Vbreal.whole tm)).isNone=true∨(Vbreal.windOf l[j].seen (Vbreal.whole u)).isNone=true then(⟨l,t⟩,[-6]) else
   (⟨l,t⟩,Vbreal.told (Vbreal.over (Vbreal.areaOf (fun z=>z.e) l[j].seen tm.toNat u.toNat) (Vbreal.whole (u-tm)))++Vbreal.told (Vbreal.over (Vbreal.areaOf (fun z=>z.n) l[j].seen tm.toNat u.toNat) (Vbreal.whole (u-tm))))):=by
  show Vbreal.asked _ [(Vbreal.within 1 i (Int.ofNat l.length),-2),(oz tm u,-10)] (match l[i.toNat-1]? with | none=>_ | some x=>_)=_
  rw[hwi,decide_eq_true h1,hjn,hlj]
  rfl
 generalize hs0:l[j]=s0 at *
 generalize hr0:rs[j]=r at *
 have hst:=hw.we.at_ j r s0 hri hlj
 have sk:=hw.wo.each s0 (List.mem_of_getElem? hlj)
 have bad2:∀ H1,ax H H1→oz tm u=false→cH H1 Q (ib [-10]):=fun H1 s1 hb=>cH.after s1 (k [-10] (by
  rw[hstep,hb]; rfl) (by simp))
 walk_at "a"
 refine d8 (SqL.of hna) fun a1 h3=>?_
 rw[show fN (ib [i,tm,u]) (some 1) none=ib [tm,u] from rfl]
 walk_at "a"
 refine⟨a1,[tm,u],rfl,ai,?_⟩
 have s1:ax H (upd H a1 (.lst (ib [tm,u]))):=ax.new h3
 generalize upd H a1 (.lst (ib [tm,u]))=H1 at *
 rw[jE]
 walk_at "a"
 cases htt:Vbreal.isTime tm&&Vbreal.isTime u with
 | false =>
  refine aD ?_
  refine aD ?_
  walk_at "a"
  exact aK (bad2 H1 s1 (by unfold oz; rw[← Bool.and_assoc,htt]; rfl))
 | true =>
  have ht:=(Bool.and_eq_true_iff.mp htt).1
  have hu:=(Bool.and_eq_true_iff.mp htt).2
  refine aG ?_
  walk_at "a"
  refine aV (SqL.of (s1 _ _ hna)) (v:=.int u) (aE (j:=2) rfl) ?_
  walk_at "a"
  refine aV (SqL.of (s1 _ _ hna)) (v:=.int tm) (aE (j:=1) rfl) ?_
  walk_at "a"
  refine w_ite (fun h4=>?_) (fun h4=>?_)
  ·walk_at "a"
   exact aK (bad2 H1 s1 (by unfold oz; rw[ht,hu,decide_eq_false (by omega)]; rfl))
  ·have t1:=kr ht
   have t2:=kr hu
   obtain⟨a,rfl⟩:=Int.eq_ofNat_of_zero_le t1.1
   obtain⟨b,rfl⟩:=Int.eq_ofNat_of_zero_le t2.1
   have hsp:oz (a:Int) (b:Int)=true:=by unfold oz; rw[ht,hu,decide_eq_true (by omega)]; rfl
   rw[hsp] at hstep
   have hstep:Vbreal.step ⟨l,t⟩ (.mean i (a:Int) (b:Int))=if (WM.bL s0.seen (a:Rat)).isSome=true∧(WM.bL s0.seen (b:Rat)).isSome=true then
     (⟨l,t⟩,Vbreal.told (Vbreal.over (Vbreal.areaOf (fun z=>z.e) s0.seen a b) (Vbreal.whole ((b:Int)-a)))++Vbreal.told (Vbreal.over (Vbreal.areaOf (fun z=>z.n) s0.seen a b) (Vbreal.whole ((b:Int)-a)))) else(⟨l,t⟩,[-6]):=by
    rw[hstep]
    show(if (Vbreal.windOf s0.seen (WM.F ((a:Nat):Rat))).isNone=true∨(Vbreal.windOf s0.seen (WM.F ((b:Nat):Rat))).isNone=true then _ else _)=_
    have w1:=iW (m:=(a:Rat)) sk.rise
    have w2:=iW (m:=(b:Rat)) sk.rise
    rw[← w1,← w2]
    cases Vbreal.windOf s0.seen (WM.F ((a:Nat):Rat))<;>cases Vbreal.windOf s0.seen (WM.F ((b:Nat):Rat))<;>rfl
   have b17:∀ {n:Nat},n≤100000→WM.Bd 17 ((n:Nat):Rat):=fun {n} h=>Bd.whole (n:=(n:Int)) (by show _<131072; omega) (by omega)
   walk_at "a"
   refine cI (hw.mono s1) T ?_
   walk_at "a"
   refine aV (SqL.of (s1 _ _ hna)) (v:=.int i) (aE (j:=0) rfl) ?_
   walk_at "a"
   rw[show i-1=(j:Int) by omega]
   refine aV (SqL.of (s1 _ _ hw.we.lst)) (v:=.ref r.p) (aE (by rw[List.getElem?_map,hri]; rfl)) ?_
   walk_at "a"
   refine d8 (SqL.of (s1 _ _ hna)) fun a2 h5=>?_
   rw[show fN (ib [i,(a:Int),(b:Int)]) (some 1) none=ib [(a:Int),(b:Int)] from rfl]
   have s2:ax H1 (upd H1 a2 (.lst (ib [(a:Int),(b:Int)]))):=ax.new h5
   have e2:upd H1 a2 (.lst (ib [(a:Int),(b:Int)])) a2=some (.lst (ib [(a:Int),(b:Int)])):=ai
   generalize upd H1 a2 (.lst (ib [(a:Int),(b:Int)]))=H2 at *
   have s02:=s1.trans s2
   refine⟨a2,rfl,⟨_,SqL.of e2⟩,?_⟩
   refine bQ (K:=K) (a:=a2) (xs:=ib [(a:Int),(b:Int)]) (fun i σ H'=>∃ v:Option V,σ=[some (.ref sea),some (.ref na),some (.ref ra),some (.ref r.p),v,none]∧ax H2 H'∧∀ n∈[a,b].take i,(WM.bL s0.seen (n:Rat)).isSome=true)
    ⟨_,rfl,ax.refl _,by simp⟩ (fun i σ H' _ ⟨_,_,s',_⟩=>SqL.of (s' _ _ e2)) ?_ ?_
   ·rintro m y σ H' hi ⟨v,rfl,s',hall⟩
    obtain⟨n,hn,rfl,hn5⟩:∃ n:Nat,[a,b][m]? = some n∧y = .int (n:Int)∧n≤100000:=by
     match m,hi with
     | 0,hi=>exact⟨a,rfl,(Option.some.inj hi).symm,by omega⟩
     | 1,hi=>exact⟨b,rfl,(Option.some.inj hi).symm,by omega⟩
     | n+2,hi=>cases hi
    have s03:=s02.trans s'
    walk_at "a"
    refine⟨(n:Int),rfl,fun c H3 s3 hc=>?_⟩
    walk_at "a"
    refine⟨r,c,s0,((n:Int):Rat),17,rfl,(hst.mono s03).mono s3,sk,hc,b17 hn5,by omega,fun v H4 s4 hv=>?_⟩
    walk_at "a"
    have s04:=(s03.trans s3).trans s4
    cases hwn:WM.bL s0.seen (n:Rat) with
    | none =>
     have hv:v = .non:=by
      have e:WM.bL s0.seen ((n:Int):Rat)=none:=hwn
      rw[e] at hv
      exact hv
     rw[decide_eq_true hv]
     refine aD ?_
     walk_at "a"
     refine aK (cH.after s04 (k [-6] ?_ (by simp)))
     rw[hstep,if_neg]
     rintro⟨g1,g2⟩
     match m,hn with
     | 0,hn =>
      have:a=n:=Option.some.inj hn
      rw[this,hwn] at g1
      cases g1
     | 1,hn =>
      have:b=n:=Option.some.inj hn
      rw[this,hwn] at g2
      cases g2
    | some w =>
     have e:WM.bL s0.seen ((n:Int):Rat)=some w:=hwn
     rw[e] at hv
     obtain⟨p,rfl,hp⟩:=hv
     rw[decide_eq_false (by intro g; cases g)]
     refine aG ?_
     walk_at "a"
     refine⟨_,rfl,(s'.trans s3).trans s4,fun z hz=>?_⟩
     rw[take_snoc hn] at hz
     rcases List.mem_append.mp hz with g | g
     ·exact hall z g
     ·rw[List.mem_singleton.mp g,hwn]; rfl
   ·rintro σ H' ⟨v,rfl,s',hall⟩
    have ha:=hall a (by show a∈[a,b]; simp)
    have hb:=hall b (by show b∈[a,b]; simp)
    have hab:a<b:=by omega
    rw[if_pos ⟨ha,hb⟩,WM.mean_F sk.rise (WM.tells_e sk.rise) hab ha hb,WM.mean_F sk.rise (WM.tells_n sk.rise) hab ha hb] at hstep
    have hstep:Vbreal.step ⟨l,t⟩ (.mean i (a:Int) (b:Int))=(⟨l,t⟩,Vbreal.told (WM.F (qV s0 a b).1)++Vbreal.told (WM.F (qV s0 a b).2)):=hstep
    have s03:=s02.trans s'
    walk_at "a"
    refine aV (SqL.of (s03 _ _ hna)) (v:=.int (a:Int)) (aE (j:=1) rfl) ?_
    walk_at "a"
    refine aV (SqL.of (s03 _ _ hna)) (v:=.int (b:Int)) (aE (j:=2) rfl) ?_
    walk_at "a"
    refine⟨r,s0,a,b,rfl,hst.mono s03,sk,hab,by omega,ha,hb,fun wa H3 s3 hwa b1 b2=>?_⟩
    generalize qV s0 a b=w at *
    have b1:=Bd.up b1 (show 3000≤12900 by decide)
    have b2:=Bd.up b2 (show 3000≤12900 by decide)
    have t1:=fb b1
    have t2:=fb b2
    have k:=k _ hstep (by rw[List.length_append]; omega)
    rw[hJ,← bG,← bG] at k
    have s04:=s03.trans s3
    walk_at "a"
    refine dN hwa T fun xe hxe=>?_
    walk_at "a"
    refine⟨xe,w.1,rfl,hxe,b1,fun p1 H4 s4 hp1 hpe1=>?_⟩
    walk_at "a"
    refine cY (hwa.mono s4) T fun xn hxn=>?_
    walk_at "a"
    refine⟨xn,w.2,rfl,hxn,b2,fun p2 H5 s5 hp2 hpe2=>?_⟩
    refine rf (s5 _ _ hpe1) hpe2 ?_ fun p hp3=>?_
    ·rw[bG,bG,aW,aW,aw]; omega
    ·exact k p _ (((s04.trans s4).trans s5).trans (ax.new hp3)) (((s04.trans s4).trans s5).free hp3) ai
def caF(n a r b:V):List (Str×V):=eD "behind" b (eD "row" r (eD "numbers" a (eD "number" n [])))
def oA(Z:Ad)(H:Hp)(p:Addr)(n:Int)(na ra:Addr)(b:Int):Prop:=∃ dx,H p=some (.ins Z.CCall dx (caF (.int n) (.ref na) (.ref ra) (.int b)))
section
variable {K:PySem.W.Frag}{mg:Str→Option Value}{Z:Ad}{H:Hp}{Q:VK}{p na ra:Addr}{n b:Int}
theorem fld_ca_number(h:oA Z H p n na ra b)(T:Txt K mg Z)(k:Q (.int n) H):Fld K (.ref p) "number" H Q:=by
 obtain⟨dx,h⟩:=h
 exact d4 h T.fL.cl T.ly (bF (by decide +kernel) (bF (by decide +kernel) (bF (by decide +kernel) dZ))) k
theorem fld_ca_numbers(h:oA Z H p n na ra b)(T:Txt K mg Z)(k:Q (.ref na) H):Fld K (.ref p) "numbers" H Q:=by
 obtain⟨dx,h⟩:=h
 exact d4 h T.fL.cl T.j6 (bF (by decide +kernel) (bF (by decide +kernel) dZ)) k
theorem fld_ca_row(h:oA Z H p n na ra b)(T:Txt K mg Z)(k:Q (.ref ra) H):Fld K (.ref p) "row" H Q:=by
 obtain⟨dx,h⟩:=h
 exact d4 h T.fL.cl T.na_Call_row (bF (by decide +kernel) dZ) k
theorem fld_ca_behind(h:oA Z H p n na ra b)(T:Txt K mg Z)(k:Q (.int b) H):Fld K (.ref p) "behind" H Q:=by
 obtain⟨dx,h⟩:=h
 exact d4 h T.fL.cl T.lz dZ k
end
def sp_Call(Z:Ad):Sp:=fun vs H Q _=>∃ (p dx:Addr) (x y z u:V),vs=[.ref p,x,y,z,u]∧H p=some (.ins Z.CCall dx [])∧Q .non (upd H p (.ins Z.CCall dx (caF x y z u)))
theorem qQ(T:Txt K mg Z):a9 P w K mg base CX0 1 Z.a_Call_init Z.d_Call_init ["self", "number", "numbers", "row", "behind"] (sp_Call Z):=by
 refine T.fL.fn.ok sc_Call_init (fun vs H Q E h=>?_) (fun cdv A0 outer s H vs Q E hr h=>?_)
 ·revert h; walk_at "len"
 refine⟨_,(ae (cB (K:=K) rfl (pv 0) (pv 1) rfl) (ae (cB (K:=K) rfl (pv 0) (pv 2) rfl) (ae (cB (K:=K) rfl (pv 0) (pv 3) rfl) (ah (cB (K:=K) rfl (pv 0) (pv 4) rfl))))),?_⟩
 obtain⟨p,dx,x,y,z,u,rfl,hp,k⟩:=h
 refine bB (σ':=[some (.ref p),some x,some y,some z,some u]) ?_ rfl
 walk_at "a"
 refine dh hp T.fL.cl T.ly (by show 0<1000; decide) ?_
 walk_at "a"
 refine dh ai T.fL.cl T.j6 (by show 1<1000; decide) ?_
 rw[bO]
 walk_at "a"
 refine dh ai T.fL.cl T.na_Call_row (by show 2<1000; decide) ?_
 rw[bO]
 walk_at "a"
 refine dh ai T.fL.cl T.lz (by show 3<1000; decide) ?_
 rw[bO]
 exact k
theorem mk_call{Z:Ad}{H:Hp}{Q:Addr→Hp→Prop}{E:XK}{n b:Int}{na ra:Addr}(k:∀ p H',ax H H'→oA Z H' p n na ra b→Q p H') :
  ∀ p dx,H p=none→H dx=none→dx≠p→sp_Call Z [.ref p,.int n,.ref na,.ref ra,.int b] (upd (upd H dx (.own p)) p (.ins Z.CCall dx [])) (fun v H2=>v = .non∧Q p H2) E:=by
 intro p dx hp hdx hne
 refine⟨p,dx,_,_,_,_,rfl,ai,rfl,?_⟩
 rw[bO]
 refine k p _ ?_ ⟨dx,ai⟩
 intro c o e
 rw[ay (aC e hp),ay (aC e hdx)]
 exact e
theorem SqL.mono{K:PySem.W.Frag}{H H':Hp}{a:Addr}{xs:List V}(s:ax H H')(h:SqL K H a xs):SqL K H' a xs:=by
 rcases h with(h | ⟨o,h⟩) | h
 ·exact .inl (.inl (s _ _ h))
 ·exact .inl (.inr ⟨o,s _ _ h⟩)
 ·exact .inr h
def sp_take_call(K:PySem.W.Frag)(Z:Ad):Sp:=fun vs H Q _=>∃ (a:Addr) (cs:List Int) (i num:Nat) (args row:List Int) (b:Nat),vs=[.ref a,.int (i:Int)]∧SqL K H a (ib cs)∧WM.Cut cs i num args row b ∧
 ∀ p H' na ra,ax H H'→oA Z H' p num na ra b→H' na=some (.lst (ib args))→H' ra=some (.lst (ib row))→Q (.ref p) H'
theorem ib_cut{cs:List Int}{i j:Nat}(h:i≤j)(hj:j≤cs.length):fN (ib cs) (some (i:Int)) (some (j:Int))=ib ((cs.drop i).take (j-i)):=by
 rw[cut_mid h (by rw[aW]; exact hj)]
 unfold ib
 rw[← List.map_drop,← List.map_take]
theorem ib_at{cs:List Int}{i:Nat}{v:Int}(h:cs[i]? = some v):(ib cs)[i]? = some (.int v):=by
 unfold ib
 rw[List.getElem?_map,h]
 rfl
theorem ok_take_call(T:Txt K mg Z):a9 P w K mg base CX0 3 Z.a_take_call Z.d_take_call ["calls", "place"] (sp_take_call K Z):=by
 refine T.f_take_call.fn.ok fI (fun vs H Q E h=>?_) (fun cdv A0 outer s H vs Q E hr h=>?_)
 ·revert h; walk_at "len"
 refine⟨_,(ae (az (i:=2) fI.nd rfl (Or.inl rfl) (aI (aB (K:=K) rfl) (pv 0) (pv 1) (fun _ _=>rfl))) (ae (az (i:=3) fI.nd rfl (Or.inl rfl) (aF dM (aF dM (pv 1) aj) (aI (aU (K:=K) rfl) (bM T.c_SIZES) (pv 2) (fun _ _=>rfl)))) (ae (az (i:=4) fI.nd rfl (Or.inl rfl) (bg (bj (K:=K) rfl) (pv 0) (bc (aF dM (pv 1) aj)) (bc (pv 3)))) (ae (aP (aH (op_notIn_seqK (K:=K) rfl) (pv 2) (bM T.c_WITH_ROW) (by with_unfolding_all rfl)) (ah (ao (ck T.fL.make (qQ T) (hr.mono (by decide)) rfl T.fL.mg T.fL.bind .nil eA (ab (pv 2) (ab (pv 4) (ab (aJ af) (ab (pv 3) af))))))) aA) (ae (az (i:=5) fI.nd rfl (Or.inl rfl) (aF dM (aF dM (pv 3) aj) (aI (aB (K:=K) rfl) (pv 0) (pv 3) (fun _ _=>rfl)))) (ah (ao (ck T.fL.make (qQ T) (hr.mono (by decide)) rfl T.fL.mg T.fL.bind .nil eA (ab (pv 2) (ab (pv 4) (ab (bg (bj (K:=K) rfl) (pv 0) (bc (aF dM (pv 3) aj)) (bc (pv 5))) (ab (pv 5) af)))))))))))),?_⟩
 obtain⟨a,cs,i,num,args,row,b,rfl,ha,C,k⟩:=h
 obtain⟨n,hn,rfl,hle,hc⟩:=C.cut
 refine bB (σ':=[some (.ref a),some (.int (i:Int)),none,none,none,none]) ?_ rfl
 walk_at "a"
 refine aV ha (v:=.int (num:Int)) (aE (ib_at C.hd)) ?_
 walk_at "a"
 refine b9 (T.tup_SIZES H) (v:=.int (n:Int)) (aE ?_) ?_
 ·have e:([.int (0),.int (0),.int (4),.int (3),.int (1),.int (0),.int (5),.int (1),.int (6),.int (4),.int (5),.int (4),.int (6),.int (1),.int (3),.int (5),.int (0)]:List V)=nb WM.SIZ:=rfl
  rw[e]
  unfold nb
  rw[List.getElem?_map,hn]
  rfl
 walk_at "a"
 rw[show(i:Int)+1+(n:Int)=((i+1+n:Nat):Int) by omega]
 rw[show(i:Int)+1=((i+1:Nat):Int) by omega]
 refine d8 ha fun a1 h1=>?_
 rw[ib_cut (by omega) hle,show i+1+n-(i+1)=n by omega]
 have s1:ax H (upd H a1 (.lst (ib ((cs.drop (i+1)).take n)))):=ax.new h1
 have e1:upd H a1 (.lst (ib ((cs.drop (i+1)).take n))) a1=some (.lst (ib ((cs.drop (i+1)).take n))):=ai
 generalize upd H a1 (.lst (ib ((cs.drop (i+1)).take n)))=H1 at *
 walk_at "a"
 refine⟨Z.o5,_,rfl,.inr (T.tup_WITH_ROW H1),rfl,rfl,?_⟩
 have hin:inV (.int (num:Int)) [.int (0),.int (5),.int (7),.int (15)]=decide (num∈WM.ROWS):=by
  show(decide ((0:Int)=(num:Int)) || (decide ((5:Int)=(num:Int)) || (decide ((7:Int)=(num:Int)) || (decide ((15:Int)=(num:Int)) || false))))=_
  rw[Bool.or_false,← Bool.decide_or,← Bool.decide_or,← Bool.decide_or]
  exact decide_eq_decide.mpr (by unfold WM.ROWS; simp only[List.mem_cons,List.mem_singleton,List.not_mem_nil,or_false]; omega)
 refine w_bl ?_
 rw[if_pos rfl,hin]
 refine cG (fun g=>?_) (fun g=>?_)
 ·rcases hc with⟨_,rfl,rfl⟩ | ⟨g2,_⟩
  ·walk_at "a"
   refine⟨Nat.zero_le _,fun a2 h2=>?_⟩
   have s2:ax H1 (upd H1 a2 (.lst [])):=ax.new h2
   have e2:upd H1 a2 (.lst []) a2=some (.lst []):=ai
   generalize upd H1 a2 (.lst [])=H2 at *
   walk_at "a"
   exact mk_call fun p H3 s3 hp=>k p H3 a1 a2 ((s1.trans s2).trans s3) hp ((s2.trans s3) _ _ e1) (s3 _ _ e2)
  ·exact absurd g2 g
 ·rcases hc with⟨g2,_⟩ | ⟨_,m,hm,rfl,rfl⟩
  ·exact absurd g g2
  ·have hle2:=C.le
   walk_at "a"
   refine aV (SqL.mono s1 ha) (v:=.int (m:Int)) (aE (ib_at hm)) ?_
   walk_at "a"
   rw[show((i+1+n:Nat):Int)+1+(m:Int)=((i+1+n+1+m:Nat):Int) by omega]
   rw[show((i+1+n:Nat):Int)+1=((i+1+n+1:Nat):Int) by omega]
   refine d8 (SqL.mono s1 ha) fun a2 h2=>?_
   rw[ib_cut (by omega) hle2,show i+1+n+1+m-(i+1+n+1)=m by omega]
   have s2:ax H1 (upd H1 a2 (.lst (ib ((cs.drop (i+1+n+1)).take m)))):=ax.new h2
   have e2:upd H1 a2 (.lst (ib ((cs.drop (i+1+n+1)).take m))) a2=some (.lst (ib ((cs.drop (i+1+n+1)).take m))):=ai
   generalize upd H1 a2 (.lst (ib ((cs.drop (i+1+n+1)).take m)))=H2 at *
   walk_at "a"
   exact mk_call fun p H3 s3 hp=>k p H3 a1 a2 ((s1.trans s2).trans s3) hp ((s2.trans s3) _ _ e1) (s3 _ _ e2)
structure Apart (Z:Ad) (H:Hp) (tl sea st:Addr) (rs:List Rec) (tb:Addr):Prop where
 st:st≠tl
 tb:tb≠tl
 sl:∀ r∈rs,r.sl≠tl
 nm:∀ r∈rs,r.nm≠tl
 sea:sea≠tl
theorem Wld.told{Z:Ad}{H:Hp}{sea st:Addr}{rs:List Rec}{l:List Stn}{tb:Addr}{ts:List Addr}{t:List Pnt}{tl:Addr}{xs:List V}{ys:List V}(h:Wld Z H sea st rs l tb ts t)(ht:H tl=some (.lst xs))(A:Apart Z H tl sea st rs tb) :
  Wld Z (upd H tl (.lst ys)) sea st rs l tb ts t:=by
 obtain⟨dx,hs⟩:=h.sea
 have ins:∀ {b C d fs},H b=some (.ins C d fs)→upd H tl (.lst ys) b=some (.ins C d fs):=fun {b C d fs} e=>by
  rw[ay (mL e ht (by intro z; cases z))]; exact e
 refine⟨⟨dx,ins hs⟩,⟨by rw[ay A.st]; exact h.we.lst,h.we.len,fun i r s hr hz=>?_⟩,h.sep,h.wo,⟨by rw[ay A.tb]; exact h.tab.lst,h.tab.len,fun i b v hb hv=>?_⟩,h.tok,h.tsep⟩
 ·have q:=h.we.at_ i r s hr hz
  have rm:=List.mem_of_getElem? hr
  obtain⟨d2,ho⟩:=q.ob
  refine⟨⟨d2,ins ho⟩,by rw[ay (A.nm r rm)]; exact q.nm,by rw[ay (A.sl r rm)]; exact q.sl,⟨q.si.1,fun i c z hc hz=>?_⟩,q.ne⟩
  obtain⟨d3,e⟩:=q.si.2 i c z hc hz
  exact⟨d3,ins e⟩
 ·have e:=h.tab.at_ i b v hb hv
  unfold iz at *
  rw[ay (mL e ht (by intro z; cases z))]; exact e
def oB(out:List Int):Prop:=out=[]∨∃ n r,out=n::r∧n≤(r.length:Int)
theorem not_name{out:List Int}{s:Stn}(h:oB out)(sk:WM.StOk s):ib out≠nb s.name:=by
 intro e
 rcases h with rfl | ⟨n,r,rfl,hn⟩
 ·cases hs:s.name with
  | nil=>exact sk.low.1 hs
  | cons c w=>rw[hs] at e; cases e
 ·cases hs:s.name with
  | nil=>exact sk.low.1 hs
  | cons c w =>
   have hl:=congrArg List.length e
   rw[aW,aL,List.length_cons] at hl
   rw[hs] at e
   have e1:V.int n=V.int (c:Int):=(List.cons.inj e).1
   injection e1 with e1
   have:=sk.low.2 c (by rw[hs]; exact List.mem_cons_self)
   have:=sk.name
   omega
theorem oB.snoc{out ans:List Int}(h:oB out):oB (out++((ans.length:Int)::ans)):=by
 rcases h with rfl | ⟨n,r,rfl,hn⟩
 ·exact .inr ⟨_,ans,rfl,Int.le_refl _⟩
 ·refine .inr ⟨n,r++((ans.length:Int)::ans),rfl,?_⟩
  rw[List.length_append]
  omega
theorem Apart.kept{Z:Ad}{H H':Hp}{sea st st' tb tb' tl p:Addr}{rs rs':List Rec}{l l':List Stn}{ts ts':List Addr}{t t':List Pnt}{out:List Int}(A:Apart Z H tl sea st rs tb)(ht:H tl=some (.lst (ib out)))(to:oB out)
 (K:Kept H H' sea st st' rs rs' tb tb' p)(hw':Wld Z H' sea st' rs' l' tb' ts' t'):H' tl=some (.lst (ib out))∧Apart Z H' tl sea st' rs' tb'∧p≠tl:=by
 have h1:H' tl=some (.lst (ib out)):=K.fr _ _ ht (Ne.symm A.sea) fun r hr=>Ne.symm (A.sl r hr)
 refine⟨h1,⟨?_,?_,fun r hr=>?_,fun r hr e=>?_,A.sea⟩,fun e=>?_⟩
 ·rcases K.st with e | e
  ·rw[e]; exact A.st
  ·exact fun g=>by rw[g,ht] at e; cases e
 ·rcases K.tb with e | e
  ·rw[e]; exact A.tb
  ·exact fun g=>by rw[g,ht] at e; cases e
 ·rcases K.old r hr with⟨q,hq,e⟩ | e
  ·rw[e]; exact A.sl q hq
  ·exact fun g=>by rw[g,ht] at e; cases e
 ·obtain⟨s,hs,hst⟩:=hw'.we.rec_of hr
  have:=hst.nm
  rw[e,h1] at this
  injection this with this
  injection this with this
  exact not_name to (hw'.wo.each s hs) this
 ·have:=K.p
  rw[e,ht] at this
  cases this
inductive gz (Z:Ad):Nat→Addr→(List Int→List Int→Prop)→(List Int→List Int→Vbreal.Call)→Prop
 | h0:gz Z 0 Z.a_load (fun _ r=>(∀ z∈r,0≤z)∧r.length≤5000) (fun _ r=>.load (VbrealNeutral.nats r))
 | h1:gz Z 1 Z.jb (fun _ _=>True) (fun _ _=>.print)
 | h2:gz Z 2 Z.jc (fun a _=>∃ i t e n,a=[i,t,e,n]) (fun a _=>match a with | [i,t,e,n]=>.observe i t e n | _=>.print)
 | h3:gz Z 3 Z.gf (fun a _=>∃ x y t,a=[x,y,t]) (fun a _=>match a with | [x,y,t]=>.wind x y t | _=>.print)
 | h4:gz Z 4 Z.rJ (fun a _=>∃ t,a=[t]) (fun a _=>match a with | [t]=>.speak t | _=>.print)
 | h5:gz Z 5 Z.gg (fun _ _=>True) (fun _ r=>.table r)
 | h6:gz Z 6 Z.gh (fun a _=>∃ x y t dx dy,a=[x,y,t,dx,dy]) (fun a _=>match a with | [x,y,t,dx,dy]=>.time x y t dx dy | _=>.print)
 | h7:gz Z 7 Z.mF (fun a _=>∃ t,a=[t]) (fun a r=>match a with | [t]=>.course t r | _=>.print)
 | h8:gz Z 8 Z.jd (fun a _=>∃ x y t dx dy n,a=[x,y,t,dx,dy,n]) (fun a _=>match a with | [x,y,t,dx,dy,n]=>.set x y t dx dy n | _=>.print)
 | h9:gz Z 9 Z.ic (fun a _=>∃ x y t n,a=[x,y,t,n]) (fun a _=>match a with | [x,y,t,n]=>.line x y t n | _=>.print)
 | h10:gz Z 10 Z.a_bias (fun a _=>∃ x y u v t,a=[x,y,u,v,t]) (fun a _=>match a with | [x,y,u,v,t]=>.bias x y u v t | _=>.print)
 | h11:gz Z 11 Z.rK (fun a _=>∃ x y t u,a=[x,y,t,u]) (fun a _=>match a with | [x,y,t,u]=>.shift x y t u | _=>.print)
 | h12:gz Z 12 Z.mG (fun a _=>∃ x y t u p q,a=[x,y,t,u,p,q]) (fun a _=>match a with | [x,y,t,u,p,q]=>.turned x y t u p q | _=>.print)
 | h13:gz Z 13 Z.gj (fun a _=>∃ t,a=[t]) (fun a _=>match a with | [t]=>.strongest t | _=>.print)
 | h14:gz Z 14 Z.a_mean (fun a _=>∃ i t u,a=[i,t,u]) (fun a _=>match a with | [i,t,u]=>.mean i t u | _=>.print)
 | h15:gz Z 15 Z.je (fun a _=>∃ x y t dx dy,a=[x,y,t,dx,dy]) (fun a r=>match a with | [x,y,t,dx,dy]=>.between x y t dx dy r | _=>.print)
 | h16:gz Z 16 Z.dS (fun _ _=>True) (fun _ _=>.stations)
def HR(Z:Ad)(f:Addr)(sp:Sp):Prop:=∃ num pre call,gz Z num f pre call∧sp=dm Z pre call
theorem hand_ok{P:Program}{w:World}{K:PySem.W.Frag}{mg:Str→Option Value}{base:Heap}{Z:Ad}(T:Txt K mg Z){N:Nat}{A:Around}(hN:9≤N)(hr:iP N A){f:Addr}{sp:Sp}(h:HR Z f sp) :
  ∃ k fd ps,a9 P w K mg base CX0 k f fd ps sp∧iP k A∧PySem.W.keepIn K (.ref f)=true∧Binds K fd ps []:=by
 obtain⟨num,pre,call,h,rfl⟩:=h
 cases h with
 | h0=>exact⟨_,_,_,ok_load T,hr.mono (Nat.le_trans (by decide) hN),T.f_load.fn.kp,T.f_load.bind⟩
 | h1=>exact⟨_,_,_,ok_printed T,hr.mono (Nat.le_trans (by decide) hN),T.f_printed.fn.kp,T.f_printed.bind⟩
 | h2=>exact⟨_,_,_,ok_observe T,hr.mono (Nat.le_trans (by decide) hN),T.f_observe.fn.kp,T.f_observe.bind⟩
 | h3=>exact⟨_,_,_,ok_tell_wind T,hr.mono (Nat.le_trans (by decide) hN),T.md.fn.kp,T.md.bind⟩
 | h4=>exact⟨_,_,_,ok_speak T,hr.mono (Nat.le_trans (by decide) hN),T.f_speak.fn.kp,T.f_speak.bind⟩
 | h5=>exact⟨_,_,_,ok_lay_table T,hr.mono (Nat.le_trans (by decide) hN),T.me.fn.kp,T.me.bind⟩
 | h6=>exact⟨_,_,_,ok_tell_time T,hr.mono (Nat.le_trans (by decide) hN),T.mf.fn.kp,T.mf.bind⟩
 | h7=>exact⟨_,_,_,ok_course T,hr.mono (Nat.le_trans (by decide) hN),T.f_course.fn.kp,T.f_course.bind⟩
 | h8=>exact⟨_,_,_,ok_set_leg T,hr.mono (Nat.le_trans (by decide) hN),T.f_set_leg.fn.kp,T.f_set_leg.bind⟩
 | h9=>exact⟨_,_,_,ok_lay_line T,hr.mono (Nat.le_trans (by decide) hN),T.pd.fn.kp,T.pd.bind⟩
 | h10=>exact⟨_,_,_,ok_bias T,hr.mono (Nat.le_trans (by decide) hN),T.f_bias.fn.kp,T.f_bias.bind⟩
 | h11=>exact⟨_,_,_,ok_shift T,hr.mono (Nat.le_trans (by decide) hN),T.f_shift.fn.kp,T.f_shift.bind⟩
 | h12=>exact⟨_,_,_,ok_turned T,hr.mono (Nat.le_trans (by decide) hN),T.f_turned.fn.kp,T.f_turned.bind⟩
 | h13=>exact⟨_,_,_,ok_strongest T,hr.mono (Nat.le_trans (by decide) hN),T.mh.fn.kp,T.mh.bind⟩
 | h14=>exact⟨_,_,_,ok_mean T,hr.mono (Nat.le_trans (by decide) hN),T.f_mean.fn.kp,T.f_mean.bind⟩
 | h15=>exact⟨_,_,_,ok_between T,hr.mono (Nat.le_trans (by decide) hN),T.f_between.fn.kp,T.f_between.bind⟩
 | h16=>exact⟨_,_,_,r0 T,hr.mono (Nat.le_trans (by decide) hN),T.gy.fn.kp,T.gy.bind⟩
theorem arm_sub(v sl:Expr)(p:Pos)(args:List Expr)(keywords:List Keyword)(pos:Pos)(env:Env):eval (.Call (.Subscript v sl p) args keywords pos) env=(do
  callWith pos (← eval (.Subscript v sl p) env) [] (backTo pos (starEach args env)) (backToKw pos (keywordEach keywords env))):=rfl
theorem wpCallSub{M:Model}{A:Around}{env:Env}{v sl:Expr}{p pos:Pos}{args:List Expr}{keywords:List Keyword}{Q:Value→Shared→Prop}{E:Value→Shared→Prop}{s:Shared}
 (h:wpAny M A (eval (.Subscript v sl p) env) (fun f s₁=>wpAny M A (callWith pos f [] (backTo pos (starEach args env)) (backToKw pos (keywordEach keywords env))) Q E s₁) E s) :
  wpAny M A (eval (.Call (.Subscript v sl p) args keywords pos) env) Q E s:=by
 rw[arm_sub]
 exact wpAny_bind h
theorem hand_of{Z:Ad}{num:Nat}{args row:List Int}{c:Vbreal.Call}(h:WM.eB num args row c) :
  ∃ f pre call,gz Z num f pre call∧pre args row∧call args row=c∧([.ref Z.a_load,.ref Z.jb,.ref Z.jc,.ref Z.gf,.ref Z.rJ,.ref Z.gg,.ref Z.gh,.ref Z.mF,.ref Z.jd,.ref Z.ic,.ref Z.a_bias,.ref Z.rK,.ref Z.mG,.ref Z.gj,.ref Z.a_mean,.ref Z.je,.ref Z.dS]:List V)[num]? = some (.ref f):=by
 cases h with
 | load r h1 h2=>exact⟨_,_,_,.h0,⟨h1,h2⟩,rfl,rfl⟩
 | print=>exact⟨_,_,_,.h1,trivial,rfl,rfl⟩
 | observe=>exact⟨_,_,_,.h2,⟨_,_,_,_,rfl⟩,rfl,rfl⟩
 | wind=>exact⟨_,_,_,.h3,⟨_,_,_,rfl⟩,rfl,rfl⟩
 | speak=>exact⟨_,_,_,.h4,⟨_,rfl⟩,rfl,rfl⟩
 | table=>exact⟨_,_,_,.h5,trivial,rfl,rfl⟩
 | time=>exact⟨_,_,_,.h6,⟨_,_,_,_,_,rfl⟩,rfl,rfl⟩
 | course=>exact⟨_,_,_,.h7,⟨_,rfl⟩,rfl,rfl⟩
 | set=>exact⟨_,_,_,.h8,⟨_,_,_,_,_,_,rfl⟩,rfl,rfl⟩
 | line=>exact⟨_,_,_,.h9,⟨_,_,_,_,rfl⟩,rfl,rfl⟩
 | bias=>exact⟨_,_,_,.h10,⟨_,_,_,_,_,rfl⟩,rfl,rfl⟩
 | shift=>exact⟨_,_,_,.h11,⟨_,_,_,_,rfl⟩,rfl,rfl⟩
 | turned=>exact⟨_,_,_,.h12,⟨_,_,_,_,_,_,rfl⟩,rfl,rfl⟩
 | strongest=>exact⟨_,_,_,.h13,⟨_,rfl⟩,rfl,rfl⟩
 | mean=>exact⟨_,_,_,.h14,⟨_,_,_,rfl⟩,rfl,rfl⟩
 | between=>exact⟨_,_,_,.h15,⟨_,_,_,_,_,rfl⟩,rfl,rfl⟩
 | stations=>exact⟨_,_,_,.h16,trivial,rfl,rfl⟩
theorem w_callX{R:Addr→Sp→Prop}{te:TE}{t:TA}{σ:List (Option V)}{H:Hp}{Q:VK}(h:te σ H fun x H1=>∃ f sp,x = .ref f∧R f sp∧t σ H1 fun vs H2=>sp vs H2 Q E0):tCallX R te t σ H Q:=h
theorem caF_len(a b c d:V):(caF a b c d).length=4:=rfl
def sp_answers(K:PySem.W.Frag):Sp:=fun vs H Q _=>∃ (a:Addr) (cs:List Int),vs=[.ref a]∧SqL K H a (ib cs)∧PyVbreal.answers_asked cs=true∧(∀ p H',ax H H'→H' p=some (.lst (ib (PyVbreal.answers cs)))→Q (.ref p) H')
def fk(l:List Stn)(t:List Pnt)(cl:List (List (List Int))):List Int:=PyFlat.told (PyFlat.played VbrealNeutral.step ⟨l,t⟩ (cl.map PyVbreal.whole))
theorem played_cons{l:List Stn}{t:List Pnt}{c:List (List Int)}{cl:List (List (List Int))}{x:Vbreal.Call}(h:VbrealNeutral.callOf (PyVbreal.whole c)=some x) :
  fk l t (c::cl)=((Vbreal.step ⟨l,t⟩ x).2.length:Int)::(Vbreal.step ⟨l,t⟩ x).2++fk (Vbreal.step ⟨l,t⟩ x).1.stations (Vbreal.step ⟨l,t⟩ x).1.table cl:=by
 have e:VbrealNeutral.step ⟨l,t⟩ (PyVbreal.whole c)=Vbreal.step ⟨l,t⟩ x:=by
  unfold VbrealNeutral.step
  rw[h]
 unfold fk PyFlat.told
 rw[List.map_cons]
 show List.flatMap _ ((VbrealNeutral.step ⟨l,t⟩ (PyVbreal.whole c)).2::PyFlat.played VbrealNeutral.step (VbrealNeutral.step ⟨l,t⟩ (PyVbreal.whole c)).1 (cl.map PyVbreal.whole))=_
 rw[e,List.flatMap_cons]
theorem asked_of{cs:List Int}(h:PyVbreal.answers_asked cs=true):∃ cl f,PyFlat.calls PyVbreal.shape f cs=some cl∧PyVbreal.answers cs=fk [] [] cl∧cl.length≤100∧∀ c∈cl,VbrealNeutral.asked1 (PyVbreal.whole c)=true:=by
 unfold PyVbreal.answers_asked at h
 unfold PyVbreal.answers
 unfold PyVbreal.calls at *
 cases hc:PyFlat.calls PyVbreal.shape cs.length cs with
 | none=>rw[hc] at h; cases h
 | some cl =>
  rw[hc] at h
  dsimp only at h
  refine⟨cl,cs.length,hc,rfl,?_,?_⟩
  ·rw[Bool.and_eq_true] at h
   have:=of_decide_eq_true h.1
   rwa [List.length_map] at this
  ·intro c hcm
   rw[Bool.and_eq_true] at h
   have h2:=h.2
   unfold VbrealNeutral.asked at h2
   rw[Bool.and_eq_true,List.all_eq_true] at h2
   exact h2.1 _ (List.mem_map_of_mem hcm)
theorem ok_answers(T:Txt K mg Z):a9 P w K mg base CX0 10 Z.a_answers Z.d_answers ["calls"] (sp_answers K):=by
 refine T.f_answers.fn.ok fg (fun vs H Q E h=>?_) (fun cdv A0 outer s H vs Q E hr h=>?_)
 ·revert h; walk_at "len"
 refine⟨_,(ae (az (i:=1) fg.nd rfl (Or.inl rfl) (pe_make0 T.rn.make (ok_Sea_init T) (hr.mono (by decide)) rfl T.rn.mg T.rn.bind .nil eA )) (ae (az (i:=2) fg.nd rfl (Or.inl rfl) (aJ af)) (ae (az (i:=3) fg.nd rfl (Or.inl rfl) aj) (ae (qX PassesOwn.never (aH iA (pv 3) (aT (aS (K:=K) rfl) rfl T.dE PySem.boot_len (ab (pv 0) af)) (aM _)) (ae (az (i:=4) fg.nd rfl (Or.inl rfl) (ag T.f_take_call (ok_take_call T) hr (ab (pv 0) (ab (pv 3) af)))) (ae (az (i:=5) fg.nd rfl (Or.inl rfl) (pe_callX (R:=HR Z) (fun f sp h=>hand_ok T (by decide) hr h) (aI (aU (K:=K) rfl) (bM T.c_HANDLERS) (ak (K:=K) rfl (pv 4) rfl) (fun _ _=>rfl)) (ab (pv 1) (ab (ak (K:=K) rfl (pv 4) rfl) (ab (ak (K:=K) rfl (pv 4) rfl) af))) (fun h=>wpCallSub h))) (ae (dk (fJ (K:=K) rfl PySem.F.plainAttrs_list PySem.F.slot_list_append PySem.F.type_list_append fm (pv 2) (ab (aT (aS (K:=K) rfl) rfl T.dE PySem.boot_len (ab (pv 5) af)) af))) (ae (dk (fJ (K:=K) rfl PySem.F.plainAttrs_list PySem.F.slot_list_extend PySem.F.type_list_extend g7 (pv 2) (ab (pv 5) af))) (ah (az (i:=3) fg.nd rfl (Or.inl rfl) (ak (K:=K) rfl (pv 4) rfl)))))))) (ah (ao (pv 2))))))),?_⟩
 obtain⟨a,cs,rfl,ha,hask,k⟩:=h
 obtain⟨cl0,f0,hcl0,hans,hmany,hall⟩:=asked_of hask
 rw[hans] at k
 refine bB (σ':=[some (.ref a),none,none,none,none,none]) ?_ rfl
 walk_at "a"
 intro sea dx hsea hdx hne
 refine⟨sea,dx,rfl,ai,fun st tb hst htb hts=>⟨rfl,?_⟩⟩
 have n1:st≠sea:=by
  rintro rfl
  rw[ai] at hst; cases hst
 have n2:tb≠sea:=by
  rintro rfl
  rw[ai] at htb; cases htb
 rw[ay n1] at hst
 rw[ay n2] at htb
 have n3:st≠dx:=by
  rintro rfl
  rw[ai] at hst; cases hst
 have n4:tb≠dx:=by
  rintro rfl
  rw[ai] at htb; cases htb
 rw[ay n3] at hst
 rw[ay n4] at htb
 generalize hH0:upd (upd (upd (upd (upd H dx (.own sea)) sea (.ins Z.CSea dx [])) st (.lst [])) tb (.lst [])) sea (.ins Z.CSea dx (pB (.ref st) (.ref tb)))=H0
 have s0:ax H H0:=by
  intro c o e
  rw[← hH0,ay (aC e hsea),ay (aC e htb),ay (aC e hst),ay (aC e hsea),ay (aC e hdx)]
  exact e
 have hse0:H0 sea=some (.ins Z.CSea dx (pB (.ref st) (.ref tb))):=by rw[← hH0]; exact ai
 have hst0:H0 st=some (.lst []):=by rw[← hH0,ay n1,ay (Ne.symm hts),ai]
 have htb0:H0 tb=some (.lst []):=by rw[← hH0,ay n2,ai]
 clear hH0
 have hw0:Wld Z H0 sea st [] [] tb [] []:=⟨⟨dx,hse0⟩,⟨hst0,rfl,fun i r s h=>by simp at h⟩,⟨by simp,by simp,by simp,by simp⟩,WM.WOk.nil,⟨htb0,rfl,fun i r s h=>by simp at h⟩,⟨by simp,by simp⟩,by simp⟩
 walk_at "a"
 refine⟨Nat.zero_le _,fun tl htl=>?_⟩
 have sT:ax H0 (upd H0 tl (.lst [])):=ax.new htl
 have eT:upd H0 tl (.lst []) tl=some (.lst (ib [])):=ai
 generalize upd H0 tl (.lst [])=H1 at *
 have apart0:Apart Z H1 tl sea st [] tb:=⟨(aC hst0 htl),(aC htb0 htl),by simp,by simp,(aC hse0 htl)⟩
 have htl0:H tl=none:=s0.free htl
 have s01:=s0.trans sT
 have hw1:=hw0.mono sT
 walk_at "a"
 refine while_w (fun σ H'=>∃ (i:Nat) (st:Addr) (rs:List Rec) (l:List Stn) (tb:Addr) (ts:List Addr) (t:List Pnt) (out:List Int) (cl:List (List (List Int))) (f done:Nat) (v1 v2:Option V),σ=[some (.ref a),some (.ref sea),some (.ref tl),some (.int (i:Int)),v1,v2] ∧
   ax H H'∧Wld Z H' sea st rs l tb ts t∧Apart Z H' tl sea st rs tb∧H' tl=some (.lst (ib out))∧oB out∧(∀ r∈rs,H r.sl=none)∧i≤cs.length ∧
   PyFlat.calls PyVbreal.shape f (cs.drop i)=some cl∧(∀ c∈cl,VbrealNeutral.asked1 (PyVbreal.whole c)=true)∧fk [] [] cl0=out++fk l t cl∧out.length≤100001*done∧done+cl.length≤100)
  (fun σ _=>cs.length-ixI σ 3) ⟨0,st,[],[],tb,[],[],[],cl0,f0,0,_,_,rfl,s01,hw1,apart0,eT,.inl rfl,by simp,Nat.zero_le _,hcl0,hall,rfl,by simp,by omega⟩ ?_
 rintro σ H' ⟨i,st,rs,l,tb,ts,t,out,cl,f,done,v1,v2,rfl,s',hw,A,hout,tout,hrs,hi,hcl,hasks,hpl,hsz,hdn⟩
 walk_at "a"
 refine bV (SqL.mono s' ha) ?_
 rw[aW]
 walk_at "a"
 refine w_ite (fun hlt=>?_) (fun hge=>?_)
 ·have hilt:i<cs.length:=by omega
  obtain⟨num,args,row,b,cl',f',C,hcl',rfl,hib⟩:=WM.parse hcl hilt
  obtain⟨c,hcis,hcof⟩:=WM.call_is C (hasks _ List.mem_cons_self)
  obtain⟨fh,pre,call,hR,hpre,rfl,hget⟩:=hand_of (Z:=Z) hcis
  have hbl:=C.le
  refine w_turn ?_
  walk_at "a"
  refine⟨a,cs,i,num,args,row,b,rfl,SqL.mono s' ha,C,fun p H2 na ra s2 hca hna hra=>?_⟩
  walk_at "a"
  refine w_callX ?_
  walk_at "a"
  refine fld_ca_number hca T ?_
  refine b9 (T.tup_HANDLERS H2) (v:=.ref fh) (aE hget) ?_
  refine⟨fh,_,rfl,⟨num,pre,call,hR,rfl⟩,?_⟩
  walk_at "a"
  refine fld_ca_numbers hca T ?_
  walk_at "a"
  refine fld_ca_row hca T ?_
  walk_at "a"
  refine⟨sea,na,ra,st,tb,rs,l,ts,t,args,row,rfl,hw.mono s2,hna,hra,hpre,fun pa H3 st' rs' l' tb' ts' t' hw' hst' hpa hlen hK=>?_⟩
  obtain⟨hout3,A3,hpt⟩:=Apart.kept (l:=l) (ts:=ts) (t:=t) ⟨A.st,A.tb,A.sl,A.nm,A.sea⟩ (s2 _ _ hout) tout hK hw'
  have s3:ax H H3:=fun b o e=>hK.fr b o (s2 _ _ (s' _ _ e)) (aC e hsea) fun r hr=>aC e (hrs r hr)
  have hrs3:∀ r∈rs',H r.sl=none:=fun r hr=>by
   rcases hK.old r hr with⟨q,hq,e⟩ | e
   ·rw[e]; exact hrs q hq
   ·exact(s'.trans s2).free e
  have hca3:oA Z H3 p num na ra b:=by
   obtain⟨d2,e⟩:=hca
   refine⟨d2,hK.fr _ _ e ?_ fun r hr=>?_⟩
   ·intro g
    obtain⟨d3,e3⟩:=(hw.mono s2).sea
    rw[g,e3] at e
    injection e with e
    injection e with _ _ e
    exact absurd (congrArg List.length e) (by rw[seaF_len,caF_len]; decide)
   ·intro g
    obtain⟨q,_,hq⟩:=(hw.mono s2).we.rec_of hr
    have:=hq.sl
    rw[← g,e] at this
    cases this
  have hpl':=hpl
  rw[played_cons hcof,hst'] at hpl'
  generalize (Vbreal.step ⟨l,t⟩ (call args row)).2=ans at *
  walk_at "a"
  refine⟨ty_list (SqL.of hout3),?_⟩
  walk_at "a"
  refine bV (SqL.of hpa) ?_
  rw[aW]
  walk_at "a"
  have hcl1:done+(cl'.length+1)≤100:=hdn
  refine gF hout3 (by rw[aW,aw]; omega) ?_
  walk_at "a"
  refine⟨ty_list (SqL.of ai),?_⟩
  walk_at "a"
  refine ji ai (by rw[ay hpt]; exact hpa) (by rw[List.length_append,aW,aW,aw]; show _+1+_≤_; omega) ?_
  rw[bO]
  have eo:ib out++[V.int (ans.length:Int)]++ib ans=ib (out++((ans.length:Int)::ans)):=by
   rw[hJ,List.append_assoc]
   rfl
  rw[eo]
  have hw5:=hw'.told (ys:=ib (out++((ans.length:Int)::ans))) hout3 A3
  have s5:ax H (upd H3 tl (.lst (ib (out++((ans.length:Int)::ans))))):=s3.dB htl0
  have hca5:oA Z (upd H3 tl (.lst (ib (out++((ans.length:Int)::ans))))) p num na ra b:=by
   obtain⟨d2,e⟩:=hca3
   exact⟨d2,by rw[ay (mL e hout3 (by intro z; cases z))]; exact e⟩
  walk_at "a"
  refine fld_ca_behind hca5 T ?_
  walk_at "a"
  refine⟨⟨b,st',rs',l',tb',ts',t',out++((ans.length:Int)::ans),cl',f',done+1,_,_,rfl,s5,hw5,⟨A3.st,A3.tb,A3.sl,A3.nm,A3.sea⟩,ai,tout.snoc,hrs3,hbl,hcl',fun c hc=>hasks c (List.mem_cons_of_mem _ hc),?_,?_,by omega⟩,?_⟩
  ·rw[List.append_assoc]; exact hpl'
  ·rw[List.length_append,List.length_cons]; omega
  ·show cs.length-(b:Int).natAbs<cs.length-(i:Int).natAbs
   omega
 ·have hic:i=cs.length:=by omega
  rw[hic,List.drop_length] at hcl
  have hcl2:cl=[]:=by
   cases f<;>cases hcl<;>rfl
  rw[hcl2] at hpl
  have hpl2:fk [] [] cl0=out:=by rw[hpl]; exact List.append_nil _
  walk_at "a"
  rw[hpl2] at k
  exact k tl H' s' hout
end WP
namespace L2
open PySem PySem.Spec PyProof.Rows
open PySem.W (WData Codec OpenSpec Well WellAll ReadsW ReadsAllW)
theorem walk_specE{r:OpenSpec}{k:Nat}{q:Program}{loose:List Str}{XP:(Str→Option Value)→Heap→Prop}{YP:World→Heap→Prop}{d:DefRec}{CX:CXT}{ps:List Str}{sp:PySem.W.Frag→Sp}
 (hwell:r.wellSaid=true)(hlen:r.args.length=ps.length)(hr:iP k callerA)
 (F:∀ (w:World) (mg:Str→Option Value) (fa:Addr) (h:Heap),YP w h→h.Ns mainGlobals mg→mg d.name=some (.ref fa)→∃ K:PySem.W.Frag,K.In h ∧
   ∃ fd:FuncData,(∀ (s:Shared) (us:List Value),us.length=ps.length→BindsTo s fd ⟨us,[]⟩ (ps.zip us)) ∧
    ∀ base:Heap,K.In base→base.Ns mainGlobals mg→a9 r.prog w K mg base CX k fa fd ps (sp K))
 (hsp:∀ (K:PySem.W.Frag) (H:Hp) (xs:List V) (a:Codec.denoteAll r.args),OnlyF H→Codec.withinAll r.args a=true→Codec.app r.args r.asked a=true→oN K H xs (Codec.encAll r.args a) →
   sp K xs H (fun v H'=>Dw K H' v (r.ret.enc (Codec.app r.args r.f a))) fun _ _ _=>False)
 (hCX:∀ (H:Hp) (s:Shared) (e:Value) (s':Shared),CX [] H s (fun _ _ _=>False) e s'→False) :
  PySem.W.WalkOS q loose XP YP r d [] (fun f vs=>PySem.call f vs):=by
 intro w s_0 s1 mg mb G Y fa o pm cd doc dV kV ho hd hcd hD hmg hg args vals as hpre hlay hrd hwl hlo
 obtain⟨a,e1,e2⟩:=PySem.W.os_pre_some hpre
 obtain⟨e3,hwi⟩:=Codec.encAll_of_decAll r.args args a e1
 subst e3
 obtain⟨K,KX,fd,hb,hF⟩:=F w mg fa _ Y G.T.g hmg
 refine PySem.W.enter_call (codeAny_mono (spec_call (R:=[]) (cl:=classAt s_0.heap) (d0:=r.ret.enc (Codec.app r.args r.f a)) KX G.T.g G.T.b G.T.builtins G.T.nolimit G.T.nodigits hg hwl (pl_encAll _ _) (layable_weight hlay) hr hF hb (by rw[encAll_len]; exact hlen)
  (fun H xs hO hS=>hsp K H xs a hO hwi e2 hS) fun H e s'=>hCX H s1 e s') fun r' s' hq=>?_)
 obtain⟨u,as',rfl,h1,h2,h3,h4⟩:=hq
 exact⟨.inl ⟨u,_,as',rfl,fun _=>rfl,h1,(OpenSpec.post_iff hwell hwi _ _).mpr rfl,fun z=>Bool.noConfusion (show false=true from z)⟩,h2,h3,h4⟩
end L2
namespace WP
open PySem PySem.Spec PyProof.Rows L2
theorem us0{P:List Value→Prop}(h:P []):∀ us:List Value,us.length=0→P us
 | [],_=>h
theorem us1{P:List Value→Prop}(h:∀ a0:Value,P [a0]):∀ us:List Value,us.length=1→P us
 | [a0],_=>h a0
theorem us2{P:List Value→Prop}(h:∀ a0 a1:Value,P [a0,a1]):∀ us:List Value,us.length=2→P us
 | [a0,a1],_=>h a0 a1
theorem us3{P:List Value→Prop}(h:∀ a0 a1 a2:Value,P [a0,a1,a2]):∀ us:List Value,us.length=3→P us
 | [a0,a1,a2],_=>h a0 a1 a2
theorem us4{P:List Value→Prop}(h:∀ a0 a1 a2 a3:Value,P [a0,a1,a2,a3]):∀ us:List Value,us.length=4→P us
 | [a0,a1,a2,a3],_=>h a0 a1 a2 a3
theorem us5{P:List Value→Prop}(h:∀ a0 a1 a2 a3 a4:Value,P [a0,a1,a2,a3,a4]):∀ us:List Value,us.length=5→P us
 | [a0,a1,a2,a3,a4],_=>h a0 a1 a2 a3 a4
theorem us6{P:List Value→Prop}(h:∀ a0 a1 a2 a3 a4 a5:Value,P [a0,a1,a2,a3,a4,a5]):∀ us:List Value,us.length=6→P us
 | [a0,a1,a2,a3,a4,a5],_=>h a0 a1 a2 a3 a4 a5
theorem us7{P:List Value→Prop}(h:∀ a0 a1 a2 a3 a4 a5 a6:Value,P [a0,a1,a2,a3,a4,a5,a6]):∀ us:List Value,us.length=7→P us
 | [a0,a1,a2,a3,a4,a5,a6],_=>h a0 a1 a2 a3 a4 a5 a6
theorem get_{A B:Type}{l:List A}{f g:A→B}(h:l.map f=l.map g){j:Nat}{e:A}(m:l[j]? = some e):f e=g e:=by
 have:=congrArg (fun z=>z[j]?) h
 simp only[List.getElem?_map,m,Option.map_some,Option.some.injEq] at this
 exact this
def fdOf(K:PySem.W.Frag)(f:Addr):FuncData:=match K.lookup f with
 | some ⟨_,_,.func fd,_⟩=>fd
 | _=>default
theorem fun_of{K:PySem.W.Frag}{f:Addr}{x qn:Str}{s:Stmt}(h:WT.fnV K f qn=WT.fnG x qn s):Fun K x qn s f (fdOf K f):=by
 unfold WT.fnV at h
 split at h
 ·rename_i oc od fd osl hl
  have hf:fdOf K f=fd:=by unfold fdOf; rw[hl]
  obtain⟨n,qu,pa,bo,sc,gl,cl,de,kw,dc,pm,an,cd,ct,bl⟩:=fd
  unfold WT.fnG at h
  simp only[Option.some.injEq,Prod.mk.injEq] at h
  obtain⟨rfl,rfl,rfl,rfl,rfl,rfl,rfl,rfl,rfl,hc⟩:=h
  exact⟨⟨oc,od,kw,dc,pm,an,cd,ct,osl,hf,by rw[hf]; exact hl,hc⟩,by unfold PySem.W.keepIn; dsimp only; rw[hl]⟩
 ·cases h
section
variable {K:PySem.W.Frag}{h:Heap}{mg:Str→Option Value}(X:K.In h)(G:h.Ns mainGlobals mg)(F:WT.Facts K)
include X G F
theorem aR(j:Nat)(i:Nat){x:Str}{ps:List Str}(f:Addr)(m:WT.fT[j]? = some (x,i,f):=by kernel_rfl)
 (hb:∀ (kV doc pm:Value) (an:Option Addr) (cdv ct:Value) (us:List Value),us.length=ps.length→bindArgs (PySem.W.fnOf x x (mW (WT.topP WT.pw i)) (kn (WT.topP WT.pw i)) (aq (WT.topP WT.pw i)) .none kV doc pm an cdv ct) ⟨us,[]⟩=pure (ps.zip us)):Gf K mg x (WT.topP WT.pw i) ps f (fdOf K f):=by
 have e:=get_ F.1 m
 obtain⟨e1,e2⟩:=Prod.mk.inj e
 have W:=fun_of e2
 exact⟨W,W.binds hb,PySem.W.mg_of X G e1⟩
theorem gk_of(j:Nat)(i k:Nat){x q:Str}{ps:List Str}(C f:Addr)(m:WT.cT[j]? = some (x,q,i,k,C,f):=by kernel_rfl)
 (hb:∀ (kV doc pm:Value) (an:Option Addr) (cdv ct:Value) (us:List Value),us.length=ps.length→bindArgs (PySem.W.fnOf "__init__" q (mW (inClass (WT.topP WT.pw i) k)) (kn (inClass (WT.topP WT.pw i) k)) (aq (inClass (WT.topP WT.pw i) k)) .none kV doc pm an cdv ct) ⟨us,[]⟩=pure (ps.zip us)):Gk K mg x q (inClass (WT.topP WT.pw i) k) ps C f (fdOf K f):=by
 obtain⟨e1,e2⟩:=Prod.mk.inj (get_ (Prod.mk.inj F.2.1).1 m)
 have e:=get_ (Prod.mk.inj F.2.2).1 m
 simp only[Prod.mk.injEq,Bool.and_eq_true] at e
 obtain⟨e3,e4,⟨⟨⟨⟨a1,a2⟩,a3⟩,a4⟩,a5⟩,a6⟩:=e
 have W:=fun_of e2
 exact⟨⟨a2,a3,a4,e4⟩,⟨a5,e3,a1,a6⟩,W,W.binds hb,PySem.W.mg_of X G e1⟩
theorem gE(j:Nat){C:Addr}{a:Str}(m:WT.nT[j]? = some (C,a):=by kernel_rfl):cg K C a:=get_ (Prod.mk.inj F.2.2).2 m
theorem fS(j:Nat){x:Str}{n:Int}(m:WT.iT[j]? = some (x,n):=by kernel_rfl):∃ u,mg x=some u∧RelV (.int n) u:=by
 have e:=get_ (Prod.mk.inj (Prod.mk.inj F.2.1).2).1 m
 dsimp only at e
 unfold WT.intV at e
 split at e
 ·rename_i i t hs
  cases e
  exact⟨_,PySem.W.mg_of X G hs,t,rfl⟩
 ·cases e
theorem n_of(j:Nat){x:Str}(m:WT.bT[j]? = some x:=by kernel_rfl):mg x=none:=PySem.W.mg_none_of X G (get_ (Prod.mk.inj (Prod.mk.inj (Prod.mk.inj F.2.1).2).2).2 m)
def plainV:V→Bool
 | .int _=>true
 | .ref _=>true
 | _=>false
def encV:V→Value
 | .int i=>.int i 0
 | .ref a=>.ref a
 | _=>.none
omit X G F in
theorem vals_of:∀ {xs:List V} {l:List Value},xs.all plainV=true→l.map WT.er=xs.map encV→Vals xs l
 | [],[],_,_=>.nil
 | [],_::_,_,h=>by cases h
 | _::_,[],_,h=>by cases h
 | x::xs,v::l,hx,h=>by
  rw[List.map_cons,List.map_cons] at h
  rw[List.all_cons,Bool.and_eq_true] at hx
  obtain⟨h1,h2⟩:=List.cons.inj h
  refine .cons ?_ (vals_of hx.2 h2)
  have hx:=hx.1
  cases x with
  | int i=>cases v<;>first | (cases h1; exact⟨_,rfl⟩) | cases h1
  | ref a=>cases v<;>first | (cases h1; rfl) | cases h1
  | _=>cases hx
theorem t_of(j:Nat){x:Str}{a:Addr}{xs:List V}(hx:xs.all plainV=true)(hl:xs.length≤sizeLine)(m:WT.tT[j]? = some (x,a,xs.map encV):=by kernel_rfl):(∃ u,mg x=some u∧RelV (.ref a) u)∧∀ H:Hp,SqT K H a xs:=by
 have e:=get_ (Prod.mk.inj (Prod.mk.inj (Prod.mk.inj F.2.1).2).2).1 m
 obtain⟨e1,e2⟩:=Prod.mk.inj e
 refine⟨⟨_,PySem.W.mg_of X G e1,rfl⟩,fun H=>?_⟩
 dsimp only at e2
 unfold WT.tupV at e2
 split at e2
 ·rename_i c od its n sl hl2
  simp only[Option.some.injEq,Prod.mk.injEq] at e2
  obtain⟨rfl,e3⟩:=e2
  have hv:=vals_of hx e3
  have hlen:=congrArg List.length e3
  simp only[List.length_map,Array.length_toList] at hlen
  exact .inr ⟨_,its,n,hl2,rfl,rfl,by rw[hlen]; exact hl,hv⟩
 ·cases e2
end
end WP
local macro_rules | `(tactic| walk_at "b0")=>`(tactic| exact(fun _ _ _ _ _ _=>WP.us0 (by kernel_rfl)))
local macro_rules | `(tactic| walk_at "b1")=>`(tactic| exact(fun _ _ _ _ _ _=>WP.us1 (fun _=>by kernel_rfl)))
local macro_rules | `(tactic| walk_at "b2")=>`(tactic| exact(fun _ _ _ _ _ _=>WP.us2 (fun _ _=>by kernel_rfl)))
local macro_rules | `(tactic| walk_at "b3")=>`(tactic| exact(fun _ _ _ _ _ _=>WP.us3 (fun _ _ _=>by kernel_rfl)))
local macro_rules | `(tactic| walk_at "b4")=>`(tactic| exact(fun _ _ _ _ _ _=>WP.us4 (fun _ _ _ _=>by kernel_rfl)))
local macro_rules | `(tactic| walk_at "b5")=>`(tactic| exact(fun _ _ _ _ _ _=>WP.us5 (fun _ _ _ _ _=>by kernel_rfl)))
local macro_rules | `(tactic| walk_at "b6")=>`(tactic| exact(fun _ _ _ _ _ _=>WP.us6 (fun _ _ _ _ _ _=>by kernel_rfl)))
local macro_rules | `(tactic| walk_at "b7")=>`(tactic| exact(fun _ _ _ _ _ _=>WP.us7 (fun _ _ _ _ _ _ _=>by kernel_rfl)))
namespace WP
open PySem PySem.Spec PyProof.Rows L2
def zOf(K:PySem.W.Frag):Ad:=⟨111,181,289,310,352,553,574,19,fdOf K 19,26,fdOf K 26,33,fdOf K 33,38,fdOf K 38,45,fdOf K 45,52,fdOf K 52,59,fdOf K 59,66,fdOf K 66,73,fdOf K 73,80,fdOf K 80,87,fdOf K 87,94,fdOf K 94,108,fdOf K 108,122,fdOf K 122,129,fdOf K 129,136,fdOf K 136,143,fdOf K 143,150,fdOf K 150,157,fdOf K 157,164,fdOf K 164,178,fdOf K 178,192,fdOf K 192,199,fdOf K 199,206,fdOf K 206,213,fdOf K 213,220,fdOf K 220,227,fdOf K 227,232,fdOf K 232,239,fdOf K 239,244,fdOf K 244,251,fdOf K 251,258,fdOf K 258,265,fdOf K 265,272,fdOf K 272,286,fdOf K 286,307,fdOf K 307,321,fdOf K 321,328,fdOf K 328,335,fdOf K 335,349,fdOf K 349,363,fdOf K 363,370,fdOf K 370,377,fdOf K 377,384,fdOf K 384,391,fdOf K 391,398,fdOf K 398,405,fdOf K 405,410,fdOf K 410,417,fdOf K 417,424,fdOf K 424,431,fdOf K 431,438,fdOf K 438,445,fdOf K 445,452,fdOf K 452,459,fdOf K 459,466,fdOf K 466,473,fdOf K 473,480,fdOf K 480,487,fdOf K 487,494,fdOf K 494,501,fdOf K 501,508,fdOf K 508,515,fdOf K 515,522,fdOf K 522,529,fdOf K 529,536,fdOf K 536,550,fdOf K 550,571,fdOf K 571,583,fdOf K 583,588,fdOf K 588,595,fdOf K 595,602,fdOf K 602,609,fdOf K 609,616,fdOf K 616,623,fdOf K 623,630,fdOf K 630,637,fdOf K 637,644,fdOf K 644,651,fdOf K 651,658,fdOf K 658,665,fdOf K 665,672,fdOf K 672,679,fdOf K 679,686,fdOf K 686,693,fdOf K 693,700,fdOf K 700,707,fdOf K 707,714,fdOf K 714,721,fdOf K 721,728,fdOf K 728,735,fdOf K 735,742,fdOf K 742,749,fdOf K 749,756,fdOf K 756,766,fdOf K 766,773,fdOf K 773,757,758,759⟩
set_option maxHeartbeats 0 in
theorem txt_of{K:PySem.W.Frag}{h:Heap}{mg:Str→Option Value}(X:K.In h)(G:h.Ns mainGlobals mg)(F:WT.Facts K):Txt K mg (zOf K):=by
 have t0:=t_of X G F 0 (x := "HANDLERS") (a:=757) (xs:=[.ref 588,.ref 595,.ref 609,.ref 623,.ref 630,.ref 644,.ref 658,.ref 672,.ref 679,.ref 693,.ref 700,.ref 714,.ref 728,.ref 735,.ref 742,.ref 749,.ref 756]) rfl (by rw[aw]; show 17≤_; decide)
 have t1:=t_of X G F 1 (x := "SIZES") (a:=758) (xs:=[.int (0),.int (0),.int (4),.int (3),.int (1),.int (0),.int (5),.int (1),.int (6),.int (4),.int (5),.int (4),.int (6),.int (1),.int (3),.int (5),.int (0)]) rfl (by rw[aw]; show 17≤_; decide)
 have t2:=t_of X G F 2 (x := "WITH_ROW") (a:=759) (xs:=[.int (0),.int (5),.int (7),.int (15)]) rfl (by rw[aw]; show 4≤_; decide)
 exact⟨gk_of X G F 0 26 0 111 108 (by kernel_rfl) (by walk_at "b3"),gE X G F 0,gE X G F 1,gk_of X G F 1 35 0 181 178 (by kernel_rfl) (by walk_at "b3"),gE X G F 2,gE X G F 3,gk_of X G F 2 63 0 289 286 (by kernel_rfl) (by walk_at "b4"),gE X G F 4,gE X G F 5,gE X G F 6,gk_of X G F 3 64 0 310 307 (by kernel_rfl) (by walk_at "b4"),gE X G F 7,gE X G F 8,gE X G F 9,gE X G F 10,gk_of X G F 4 70 0 352 349 (by kernel_rfl) (by walk_at "b1"),gE X G F 11,gE X G F 12,gk_of X G F 5 110 0 553 550 (by kernel_rfl) (by walk_at "b1"),gE X G F 13,gE X G F 14,gk_of X G F 6 111 0 574 571 (by kernel_rfl) (by walk_at "b5"),gE X G F 15,gE X G F 16,gE X G F 17,gE X G F 18,aR X G F 0 13 19 (by kernel_rfl) (by walk_at "b1"),aR X G F 1 14 26 (by kernel_rfl) (by walk_at "b2"),aR X G F 2 15 33 (by kernel_rfl) (by walk_at "b1"),aR X G F 3 16 38 (by kernel_rfl) (by walk_at "b1"),aR X G F 4 17 45 (by kernel_rfl) (by walk_at "b1"),aR X G F 5 18 52 (by kernel_rfl) (by walk_at "b1"),aR X G F 6 19 59 (by kernel_rfl) (by walk_at "b1"),aR X G F 7 20 66 (by kernel_rfl) (by walk_at "b1"),aR X G F 8 21 73 (by kernel_rfl) (by walk_at "b1"),aR X G F 9 22 80 (by kernel_rfl) (by walk_at "b1"),aR X G F 10 23 87 (by kernel_rfl) (by walk_at "b3"),aR X G F 11 24 94 (by kernel_rfl) (by walk_at "b1"),aR X G F 12 27 122 (by kernel_rfl) (by walk_at "b2"),aR X G F 13 28 129 (by kernel_rfl) (by walk_at "b1"),aR X G F 14 29 136 (by kernel_rfl) (by walk_at "b2"),aR X G F 15 30 143 (by kernel_rfl) (by walk_at "b2"),aR X G F 16 31 150 (by kernel_rfl) (by walk_at "b2"),aR X G F 17 32 157 (by kernel_rfl) (by walk_at "b2"),aR X G F 18 33 164 (by kernel_rfl) (by walk_at "b1"),aR X G F 19 36 192 (by kernel_rfl) (by walk_at "b1"),aR X G F 20 37 199 (by kernel_rfl) (by walk_at "b1"),aR X G F 21 38 206 (by kernel_rfl) (by walk_at "b1"),aR X G F 22 39 213 (by kernel_rfl) (by walk_at "b2"),aR X G F 23 40 220 (by kernel_rfl) (by walk_at "b3"),aR X G F 24 41 227 (by kernel_rfl) (by walk_at "b4"),aR X G F 25 42 232 (by kernel_rfl) (by walk_at "b2"),aR X G F 26 43 239 (by kernel_rfl) (by walk_at "b2"),aR X G F 27 44 244 (by kernel_rfl) (by walk_at "b3"),aR X G F 28 58 251 (by kernel_rfl) (by walk_at "b3"),aR X G F 29 59 258 (by kernel_rfl) (by walk_at "b1"),aR X G F 30 60 265 (by kernel_rfl) (by walk_at "b1"),aR X G F 31 61 272 (by kernel_rfl) (by walk_at "b1"),aR X G F 32 65 321 (by kernel_rfl) (by walk_at "b2"),aR X G F 33 66 328 (by kernel_rfl) (by walk_at "b1"),aR X G F 34 67 335 (by kernel_rfl) (by walk_at "b2"),aR X G F 35 71 363 (by kernel_rfl) (by walk_at "b1"),aR X G F 36 72 370 (by kernel_rfl) (by walk_at "b2"),aR X G F 37 73 377 (by kernel_rfl) (by walk_at "b2"),aR X G F 38 74 384 (by kernel_rfl) (by walk_at "b2"),aR X G F 39 75 391 (by kernel_rfl) (by walk_at "b2"),aR X G F 40 76 398 (by kernel_rfl) (by walk_at "b1"),aR X G F 41 77 405 (by kernel_rfl) (by walk_at "b1"),aR X G F 42 78 410 (by kernel_rfl) (by walk_at "b2"),aR X G F 43 80 417 (by kernel_rfl) (by walk_at "b4"),aR X G F 44 81 424 (by kernel_rfl) (by walk_at "b3"),aR X G F 45 82 431 (by kernel_rfl) (by walk_at "b2"),aR X G F 46 83 438 (by kernel_rfl) (by walk_at "b2"),aR X G F 47 84 445 (by kernel_rfl) (by walk_at "b2"),aR X G F 48 85 452 (by kernel_rfl) (by walk_at "b3"),aR X G F 49 86 459 (by kernel_rfl) (by walk_at "b4"),aR X G F 50 87 466 (by kernel_rfl) (by walk_at "b4"),aR X G F 51 88 473 (by kernel_rfl) (by walk_at "b2"),aR X G F 52 90 480 (by kernel_rfl) (by walk_at "b2"),aR X G F 53 91 487 (by kernel_rfl) (by walk_at "b2"),aR X G F 54 92 494 (by kernel_rfl) (by walk_at "b1"),aR X G F 55 93 501 (by kernel_rfl) (by walk_at "b2"),aR X G F 56 94 508 (by kernel_rfl) (by walk_at "b4"),aR X G F 57 95 515 (by kernel_rfl) (by walk_at "b2"),aR X G F 58 96 522 (by kernel_rfl) (by walk_at "b3"),aR X G F 59 97 529 (by kernel_rfl) (by walk_at "b3"),aR X G F 60 98 536 (by kernel_rfl) (by walk_at "b2"),aR X G F 61 112 583 (by kernel_rfl) (by walk_at "b1"),aR X G F 62 113 588 (by kernel_rfl) (by walk_at "b3"),aR X G F 63 114 595 (by kernel_rfl) (by walk_at "b3"),aR X G F 64 115 602 (by kernel_rfl) (by walk_at "b2"),aR X G F 65 116 609 (by kernel_rfl) (by walk_at "b3"),aR X G F 66 117 616 (by kernel_rfl) (by walk_at "b2"),aR X G F 67 118 623 (by kernel_rfl) (by walk_at "b3"),aR X G F 68 119 630 (by kernel_rfl) (by walk_at "b3"),aR X G F 69 120 637 (by kernel_rfl) (by walk_at "b1"),aR X G F 70 121 644 (by kernel_rfl) (by walk_at "b3"),aR X G F 71 122 651 (by kernel_rfl) (by walk_at "b1"),aR X G F 72 123 658 (by kernel_rfl) (by walk_at "b3"),aR X G F 73 124 665 (by kernel_rfl) (by walk_at "b1"),aR X G F 74 125 672 (by kernel_rfl) (by walk_at "b3"),aR X G F 75 126 679 (by kernel_rfl) (by walk_at "b3"),aR X G F 76 127 686 (by kernel_rfl) (by walk_at "b1"),aR X G F 77 128 693 (by kernel_rfl) (by walk_at "b3"),aR X G F 78 129 700 (by kernel_rfl) (by walk_at "b3"),aR X G F 79 130 707 (by kernel_rfl) (by walk_at "b2"),aR X G F 80 131 714 (by kernel_rfl) (by walk_at "b3"),aR X G F 81 132 721 (by kernel_rfl) (by walk_at "b1"),aR X G F 82 133 728 (by kernel_rfl) (by walk_at "b3"),aR X G F 83 134 735 (by kernel_rfl) (by walk_at "b3"),aR X G F 84 135 742 (by kernel_rfl) (by walk_at "b3"),aR X G F 85 136 749 (by kernel_rfl) (by walk_at "b3"),aR X G F 86 137 756 (by kernel_rfl) (by walk_at "b3"),aR X G F 87 141 766 (by kernel_rfl) (by walk_at "b2"),aR X G F 88 142 773 (by kernel_rfl) (by walk_at "b1"),fS X G F 0,fS X G F 1,fS X G F 2,fS X G F 3,fS X G F 4,fS X G F 5,fS X G F 6,fS X G F 7,fS X G F 8,fS X G F 9,fS X G F 10,fS X G F 11,fS X G F 12,fS X G F 13,fS X G F 14,fS X G F 15,fS X G F 16,fS X G F 17,fS X G F 18,fS X G F 19,fS X G F 20,fS X G F 21,fS X G F 22,fS X G F 23,fS X G F 24,fS X G F 25,fS X G F 26,fS X G F 27,fS X G F 28,fS X G F 29,fS X G F 30,fS X G F 31,fS X G F 32,fS X G F 33,fS X G F 34,t0.1,t0.2,t1.1,t1.2,t2.1,t2.2,n_of X G F 0,n_of X G F 1,n_of X G F 2,n_of X G F 3,n_of X G F 4,n_of X G F 5,n_of X G F 6,n_of X G F 7⟩
end WP
open PySem PySem.W PyProof.Rows
set_option maxRecDepth 100000 in
set_option maxHeartbeats 0 in
theorem PySem.Challenge.cw_windcourses_s01_answers_holds : PySem.Challenge.rw_windcourses_s01_answers.Holds := by
 refine WT.holds (L2.walk_specE (k := 10) (CX := L2.CX0) (ps := ["calls"]) (sp := WP.sp_answers) (by decide +kernel) rfl ⟨rfl, by decide, by decide⟩ ?F ?S (fun _ _ _ _ z => z))
 case F =>
  rintro w mg fa h ⟨K, X, F⟩ G hmg
  have T := WP.txt_of X G F
  have e := hmg.symm.trans T.f_answers.mg
  cases e
  obtain ⟨oc, od, kV, doc, pm, an, cdv, ct, osl, hfd, _, _⟩ := T.f_answers.fn.ex
  exact ⟨K, X, _, fun s us hu => by rw [hfd]; exact match us, hu with | [_], _ => .of_eq (by kernel_rfl), fun base _ _ => WP.ok_answers T⟩
 case S =>
  intro K H xs a hO hwi hask hx
  cases hx with
  | cons h1 h2 =>
   cases h2
   cases h1 with
   | lst hs ha =>
    have e := L2.ints_dw a.1 _ ha
    subst e
    exact ⟨_, a.1, rfl, hs, hask, fun p H' s hp => .lst (L2.SqL.of hp) (L2.dw_ints _)⟩
