import PyProof.Rows.All
import Wide.All
import OpenK.AllK
import Wide.FinOn
import Lean
import KE.RegKTryMore
import PySem.Challenge.RW_wagebook_k06_whole_paydays_explained
import KE.LcSums
import KE.KDictSum
import KE.KDictLaws
import KE.KPairComp
import PyProof.EqAt
import PyProof.EqKinds
import PyProof.TupleCall
import PyProof.NeKinds
import PyProof.ZipIter
import PyProof.Rows.SetFrom
import PyProof.Rows.SortShell
import PyProof.LongRange
import PyProof.CollectWalk
import PyProof.Rows.StrMul
import PyProof.Rows.SortStr
import KE.KTryMore
import PyProof.DictItems
open PySem renaming wpAny_bind→A0,wpAny_pure→A9,sizeLine→B2,wpAny_newObj_type→C4,wpAny_call_entry→C5
open List renaming length_map→A2,getElem?_eq_getElem→A3,getElem?_eq_some_iff→A6,mem_singleton→A7,getElem?_map→Aq,mem_cons→Ax,mem_cons_self→Aj,length_append→Ak,size_toArray→B0,map_append→B4,mem_append→B5,length_take→B7,take_add_one→B8,mem_of_getElem?→B9,getElem?_append_left→Bq,mem_map→Bw,getElem?_append_right→Bj,map_congr_left→C7,length_singleton→C8,getElem?_eq_none→Cz,length_range→Cj
open PySem.Heap renaming get?_push_of_some→A4,get?_push_size→Aw,lt_size→B3,get?_update_self→Cw
open Nat renaming le_refl→A5,ne_of_lt→B6,zero_le→Bz,lt_succ_of_lt→C6,lt_of_le_of_lt→C9,le_of_lt→Cq
open Sum renaming inr→A8,inl→Az
open Option renaming map_eq_some_iff→B1
open Int renaming emod_lt_of_pos→Bx,emod_nonneg→C0
set_option Elab.async false
set_option linter.all false
set_option maxRecDepth 100000
set_option maxHeartbeats 4000000
namespace L2
open PySem PySem.Spec PyProof.Rows
abbrev WF:=PySem.W.Frag
abbrev PL:=List (Addr×Obj)
abbrev VS:=Value->Shared->Prop
abbrev II:=List (Int×Int)
abbrev MO:=Str->Option Value
noncomputable def YT(s:Stmt)(j:Nat):Stmt:=match s with
 | .ClassDef _ _ _ body _ _ _ _ _ _ _=>body.getD j (.Pass ⟨0,0,0,0⟩)
 | _=>.Pass ⟨0,0,0,0⟩
noncomputable def JfR(s:Stmt):Arguments:=match s with
 | .FunctionDef _ a _ _ _ _ _ _ _ _=>a
 | _=>{ posonlyargs:=[],args:=[],vararg:=none,kwonlyargs:=[],kw_defaults:=[],kwarg:=none,defaults:=[] }
noncomputable def YM(s:Stmt):List Stmt:=match s with
 | .FunctionDef _ _ b _ _ _ _ _ _ _=>b
 | _=>[]
noncomputable def Jj(s:Stmt):Scope:=match s with
 | .FunctionDef _ _ _ _ _ _ sc _ _ _=>sc
 | _=>{ kind:=.function,names:=[],isGenerator:=false,isCoroutine:=false }
end L2
namespace Wb
open PySem PySem.W PySem.Calls PyProof.Rows
noncomputable abbrev lfT(o:Obj):BT:=.node o .nil .nil
noncomputable def Jr9(P:Params):BT:=
 .node (boot_o_0 P)
  (.node (boot_o_1 P) (.node (boot_o_3 P) (lfT (boot_o_7 P)) (lfT (Obj.mk (.type "tuple") none (.seq #[] 0) #[])))
   (.node (boot_o_5 P) (lfT (boot_o_9 P)) (lfT (Obj.mk (.type "code") none (.fields #[.str "<module>" 182,.str "<module>" 183,.str "/claim/cut.py" 184,.int 1 0,.int 0 0,.int 0 0,.int 0 0,.int 0 0,.ref 11,.bool false,.int 181 0,.ref 12,.none,.none,.none,.none,.int 185 0,.int 1 0,.str "/claim/cut.py" 186]) #[]))))
  (.node (boot_o_2 P) (.node (boot_o_4 P) (lfT (boot_o_8 P)) (lfT (Obj.mk .none none (.fields #[]) #[])))
   (.node (boot_o_6 P) (lfT (boot_o_10 P)) (lfT (Obj.mk (.type "frame") none .plain #[some (.ref 13),some (.ref 3),some (.ref 3),none,some (.str "__main__" 164),none,some (.ref 0)]))))
noncomputable abbrev S0(w:World)(os:OsState):SharedT:=⟨Jr9 w.params,15,⟨[],[],[],0,[],[],false,#[],[],0,false,false,false,0,[2000,10,10],false,0,true,[],[],0,false⟩,#[],⟨0,0,0,0⟩,187,os⟩
noncomputable abbrev env0(p:Program):Env:={ scope:=p.main.scope,locals:=mainNs,globals:=mainNs,cells:=[],code:=.ref 13,frame:=some 14 }
noncomputable abbrev cd0(p:Program):Code:=.body (behindTheImports p) (env0 p)
noncomputable abbrev ps0:Pos:=⟨0,0,0,0⟩
theorem JhB{p q:Program}{loose:List Str}{Xt:Shared->Bool}{α:Type}{Yf:Shared->α}{Ya:World->α}{N n1:Nat}{ann:Option Value}{pos2:Pos}
  (e:opening p=plainProg p.main.scope.names) (hN:Nat.ble 600 N=true) (f:∀s,fenceModules? p s=some s)
  (size:∀w:World,((boot_heap w.params).isNs mainGlobals,(boot_heap w.params).objs.size,(boot_heap w.params).nsMap mainGlobals "__annotations__")=(true,11,ann))
  (pre:∀(w:World)(os:OsState),topGo treeTable p w 11 ann 12 ⟨boot_heap w.params,Array.mk [],boot_drawn,boot_toks,os⟩ (topStub p)=some ((S0 w os).abs,⟨denote treeTable (cd0 p),cd0 p,ps0,[topFrame ps0]⟩))
  (block:∀(w:World)(os:OsState),segRun treeTable p w 11 ann 1 1 (S0 w os).abs (blockOf (behindTheImports p) (env0 p) (cd0 p) ps0 [topFrame ps0])=some (.next,(S0 w os).abs,cd0 p,ps0))
  (main:∀(w:World)(os:OsState),(segRunT treeTable p w 11 ann 1 n1 (S0 w os) (piecesOf (behindTheImports p) (env0 p) (cd0 p) ps0 [topFrame ps0])).map (fun r=>(r.1,r.2.2,(topRun treeTable p w 11 ann 2 r.2.1.abs (restOf [] (env0 p) (cd0 p) pos2 [topFrame ps0])).map fun s=>
   (staticsOk (importedModules p.main.body) (boot_heap w.params) s.heap&&namesBound p s.heap&&gensDone s&&laidKept (boot_heap w.params) s.heap,openSeen q loose (importedModules p.main.body) Xt true s,Yf s)))=some (.next,(cd0 p,pos2),some (true,openGood q loose,Ya w)))
  (le:12+(1+(n1+2))<=N):LeftO p q loose Xt Yf Ya N:=fun w=>by
 obtain⟨⟨h,gs,d,k,os⟩,eo,e'⟩ :=B1.mp (boot_open e hN f w);obtain⟨rfl,e2⟩ :=Prod.mk.inj e';obtain⟨rfl,e3⟩ :=Prod.mk.inj e2;obtain⟨rfl,rfl⟩ :=Prod.mk.inj e3;obtain⟨z1,e4⟩ :=Prod.mk.inj (size w);obtain⟨z2,z3⟩ :=Prod.mk.inj e4;obtain⟨⟨fl,s',c',p'⟩,hr,hF⟩ :=B1.mp (main w os);obtain⟨f1,f2⟩ :=Prod.mk.inj hF;obtain⟨f3,f4⟩ :=Prod.mk.inj f2;obtain⟨f5,f6⟩ :=Prod.mk.inj f3;obtain⟨s1,h1,h2⟩ :=B1.mp f4;obtain⟨l1,h3⟩ :=Prod.mk.inj h2;have a:=segRun_of hr;dsimp only at f1 f5 f6;rw[f1,f5,f6]at a;have b:=piece_app (rest:=[]) a h1;rw[List.append_nil]at b;have t:=go_top (pre w os) (piece_block (block w os) b);have r:=topRun_mono (N-(12+(1+(n1+2)))) _ _ _ _ t;rw[show 12+(1+(n1+2))+(N-(12+(1+(n1+2))))=N by omega]at r
 have t:topFrom treeTable p w N ⟨boot_heap w.params,Array.mk [],boot_drawn,boot_toks,os⟩=some s1:=by
  unfold topFrom;dsimp only;rw[z1,z2,z3,r];show(match staticsOk (importedModules p.main.body) (boot_heap w.params) s1.heap&&namesBound p s1.heap&&gensDone s1&&laidKept (boot_heap w.params) s1.heap with|true=>_|false=>_)=_
  rw[l1]
 unfold openEnds;rw[eo];show(topFrom treeTable p w N _).map _=_;rw[t];exact congrArg some h3
end Wb
namespace TLA
open PySem PySem.Spec PyProof.Rows L2 Wb
noncomputable def JaT(i:Nat):Stmt:=PySem.Challenge.pw_wagebook_k06_whole_paydays_explained.main.body.getD i (.Pass ⟨0,0,0,0⟩)
noncomputable abbrev JcZ:Stmt:=JaT 6
noncomputable abbrev Jej:Stmt:=JaT 7
noncomputable abbrev Jcn:Stmt:=JaT 8
noncomputable abbrev JeZ:Stmt:=JaT 9
noncomputable abbrev Jb6:Stmt:=JaT 12
noncomputable abbrev JaB:Stmt:=JaT 13
noncomputable abbrev Ja3:Stmt:=JaT 14
noncomputable abbrev Jed:Stmt:=JaT 18
noncomputable abbrev Jdf:Stmt:=JaT 19
noncomputable abbrev Jec:Stmt:=JaT 21
noncomputable abbrev JdI:Stmt:=JaT 22
noncomputable abbrev JaQ:Stmt:=JaT 23
noncomputable abbrev Jbq:Stmt:=YT (JaT 24) 0
noncomputable abbrev Y3:Stmt:=YT (JaT 24) 1
noncomputable abbrev Yr:Stmt:=YT (JaT 24) 2
noncomputable abbrev Y8:Stmt:=YT (JaT 24) 3
noncomputable abbrev Yq:Stmt:=YT (JaT 24) 4
noncomputable abbrev Yp:Stmt:=YT (JaT 24) 5
noncomputable abbrev YE:Stmt:=YT (JaT 24) 6
noncomputable abbrev Jcp:Stmt:=YT (JaT 27) 0
noncomputable abbrev Jas:Stmt:=YT (JaT 27) 1
noncomputable abbrev Jaa:Stmt:=YT (JaT 27) 2
noncomputable abbrev Jar:Stmt:=YT (JaT 27) 3
noncomputable abbrev Jao:Stmt:=YT (JaT 27) 4
noncomputable abbrev Yy:Stmt:=YT (JaT 27) 5
noncomputable abbrev Jbn:Stmt:=YT (JaT 27) 6
noncomputable abbrev Jba:Stmt:=YT (JaT 27) 7
noncomputable abbrev Jbm:Stmt:=YT (JaT 27) 8
noncomputable abbrev JaY:Stmt:=YT (JaT 27) 9
noncomputable abbrev Jbb:Stmt:=YT (JaT 27) 10
noncomputable abbrev JaK:Stmt:=YT (JaT 27) 11
noncomputable abbrev Jhr:Stmt:=JaT 29
noncomputable abbrev JjN:Stmt:=JaT 30
noncomputable abbrev Je4:Stmt:=JaT 31
noncomputable abbrev JbZ:Stmt:=JaT 32
noncomputable abbrev JbM:Stmt:=JaT 34
noncomputable abbrev Je6:Stmt:=JaT 35
noncomputable abbrev JdE:Stmt:=JaT 36
noncomputable abbrev Jbr:Stmt:=JaT 37
noncomputable abbrev Jde:Stmt:=JaT 38
noncomputable abbrev Jc4:Stmt:=JaT 39
noncomputable abbrev Jc5:Stmt:=JaT 40
noncomputable abbrev JaZ:Stmt:=JaT 41
noncomputable abbrev Jc3:Stmt:=JaT 42
noncomputable abbrev Ja8:Stmt:=JaT 43
noncomputable abbrev JdL:Stmt:=JaT 44
noncomputable abbrev Je9:Stmt:=JaT 45
noncomputable abbrev Jbv:Stmt:=JaT 46
noncomputable abbrev JdO:Stmt:=JaT 47
noncomputable abbrev Jea:Stmt:=JaT 48
noncomputable abbrev Jd9:Stmt:=JaT 49
noncomputable abbrev JgS:Stmt:=JaT 50
noncomputable abbrev Jaz:Stmt:=JaT 51
noncomputable abbrev Jcm:Stmt:=JaT 52
noncomputable abbrev JcX:Stmt:=JaT 53
noncomputable abbrev Jfa:Stmt:=JaT 54
noncomputable abbrev Ja4:Stmt:=JaT 55
noncomputable abbrev Jbt:Stmt:=JaT 56
noncomputable abbrev JkN:Stmt:=JaT 57
noncomputable abbrev fO(x q:Str)(s:Stmt)(pm cd:Value):Obj:=⟨.type "function",none,.func (PySem.W.fnOf x q (JfR s) (YM s) (Jj s) .none .none .none pm none cd .none),#[]⟩
noncomputable abbrev cO(n q:Str)(t l a f A B:Nat)(C D:Value)(E y:Nat):Obj:=⟨.type "code",none,.fields #[.str n t,.str q (t+1),.str "/claim/cut.py" (t+2),.int l 0,.int a 0,.int 0 0,.int 0 0,.int f 0,.ref A,.bool true,.int 181 0,.ref B,.none,C,D,.ref E,.int y 0,.int l 0,.str "/claim/cut.py" (y+1)],#[]⟩
noncomputable abbrev eN(P:Params)(x:Str)(t:Nat)(v:Value):DictEntry:=⟨PyData.keyHash P x,.str x t,v⟩
noncomputable def myK(P:Params):PySem.W.Frag:=
 (nat_lit 2,Obj.mk .none none (.dict #[] 0) #[]) ::
 (nat_lit 3,Obj.mk (.type "dict") none (.dict #[(eN P "__name__" 165 (.str "law_wagebook_k06_whole_paydays_explained" 645)),(eN P "__doc__" 166 .none),(eN P "__package__" 167 .none),(eN P "__loader__" 168 (.builtin "__main__.__loader__#opaque")),(eN P "__spec__" 169 .none),(eN P "__annotations__" 170 (.ref 6)),(eN P "__builtins__" 171 (.ref 4)),(eN P "__file__" 173 (.str "/claim/cut.py" 172)),(eN P "__cached__" 174 .none),(eN P "_wall" 193 (.ref 21)),(eN P "NoHours" 213 (.ref 31)),(eN P "NoTable" 231 (.ref 44)),(eN P "TooEarly" 249 (.ref 57)),(eN P "parts_of" 265 (.ref 67)),(eN P "worth" 271 (.ref 72)),(eN P "relief_of" 280 (.ref 79)),(eN P "due_of" 289 (.ref 86)),(eN P "GREATEST_EACH_OF_DUES" 293 (.int 100 292)),(eN P "holding" 299 (.ref 91)),(eN P "good_bands" 305 (.ref 96)),(eN P "good_dues" 311 (.ref 101)),(eN P "DAYS_OF_WEEK" 315 (.int 7 314)),(eN P "WEEKS_OF_MONTH" 317 (.int 4 316)),(eN P "week_of" 324 (.ref 108)),(eN P "month_of" 331 (.ref 115)),(eN P "pay_for" 343 (.ref 122)),(eN P "net_for" 353 (.ref 129)),(eN P "lines_between" 364 (.ref 136)),(eN P "Person" 470 (.ref 202)),(eN P "HOURS_OF_DAY" 474 (.int 24 473)),(eN P "Book" 609 (.ref 307)),(eN P "asked" 621 (.ref 318)),(eN P "done" 630 (.ref 325)),(eN P "answer" 638 (.ref 332)),(eN P "answers" 644 (.ref 337)),(eN P "_law_unturned" 658 (.ref 344)),(eN P "_law_room" 667 (.ref 351)),(eN P "_law_whole" 674 (.ref 358)),(eN P "_law_banded" 680 (.ref 363)),(eN P "_law_spoilt" 689 (.ref 370)),(eN P "_law_people" 698 (.ref 377)),(eN P "_law_so_far" 705 (.ref 384)),(eN P "_law_first_month" 713 (.ref 391)),(eN P "_law_penned" 732 (.ref 398)),(eN P "_law_written" 738 (.ref 403)),(eN P "_law_value" 751 (.ref 410)),(eN P "_law_owed" 760 (.ref 417)),(eN P "_law_can_be" 766 (.ref 422)),(eN P "_law_begun" 775 (.ref 429)),(eN P "_law_holds" 785 (.ref 436)),(eN P "_law_wages" 797 (.ref 443)),(eN P "_law_net" 810 (.ref 450)),(eN P "_law_all_nets" 816 (.ref 455)),(eN P "_law_refused" 827 (.ref 462)),(eN P "_law_paying" 842 (.ref 469)),(eN P "_law_done" 853 (.ref 476)),(eN P "_law_is_slip" 859 (.ref 481)),(eN P "_law_asking" 865 (.ref 486)),(eN P "law" 871 (.ref 491))] 59) #[]) ::
 (nat_lit 30,Obj.mk (.type "dict") none (.dict #[(eN P "__module__" 203 (.str "wagebook.errors" 194)),(eN P "__firstlineno__" 207 (.int 5 206)),(eN P "__static_attributes__" 208 (.ref 29)),(eN P "__weakref__" 210 (.ref 32)),(eN P "__doc__" 211 .none)] 3) #[]) ::
 (nat_lit 31,Obj.mk (.type "type") none (.cls (.mk "NoHours" [(.type "ValueError")] [(.ref 31),(.type "ValueError"),(.type "Exception"),(.type "BaseException"),(.type "object")] 30 "NoHours" true [] [] false none false)) #[(some (.ref 22)),none,(some (.str "NoHours" 196)),(some (.str "NoHours" 204)),(some (.builtin "ValueError.__new__")),(some (.bool true))]) ::
 (nat_lit 32,Obj.mk (.type "getset_descriptor") none (.fields #[(.str "__weakref__" 209),(.ref 31),(.builtin "ExceptionGroup.__weakref__"),.none]) #[]) ::
 (nat_lit 43,Obj.mk (.type "dict") none (.dict #[(eN P "__module__" 221 (.str "wagebook.errors" 194)),(eN P "__firstlineno__" 225 (.int 7 224)),(eN P "__static_attributes__" 226 (.ref 42)),(eN P "__weakref__" 228 (.ref 45)),(eN P "__doc__" 229 .none)] 3) #[]) ::
 (nat_lit 44,Obj.mk (.type "type") none (.cls (.mk "NoTable" [(.type "ValueError")] [(.ref 44),(.type "ValueError"),(.type "Exception"),(.type "BaseException"),(.type "object")] 43 "NoTable" true [] [] false none false)) #[(some (.ref 35)),none,(some (.str "NoTable" 214)),(some (.str "NoTable" 222)),(some (.builtin "ValueError.__new__")),(some (.bool true))]) ::
 (nat_lit 45,Obj.mk (.type "getset_descriptor") none (.fields #[(.str "__weakref__" 227),(.ref 44),(.builtin "ExceptionGroup.__weakref__"),.none]) #[]) ::
 (nat_lit 56,Obj.mk (.type "dict") none (.dict #[(eN P "__module__" 239 (.str "wagebook.errors" 194)),(eN P "__firstlineno__" 243 (.int 9 242)),(eN P "__static_attributes__" 244 (.ref 55)),(eN P "__weakref__" 246 (.ref 58)),(eN P "__doc__" 247 .none)] 3) #[]) ::
 (nat_lit 57,Obj.mk (.type "type") none (.cls (.mk "TooEarly" [(.type "ValueError")] [(.ref 57),(.type "ValueError"),(.type "Exception"),(.type "BaseException"),(.type "object")] 56 "TooEarly" true [] [] false none false)) #[(some (.ref 48)),none,(some (.str "TooEarly" 232)),(some (.str "TooEarly" 240)),(some (.builtin "ValueError.__new__")),(some (.bool true))]) ::
 (nat_lit 58,Obj.mk (.type "getset_descriptor") none (.fields #[(.str "__weakref__" 245),(.ref 57),(.builtin "ExceptionGroup.__weakref__"),.none]) #[]) ::
 (nat_lit 66,cO "parts_of" "parts_of" 252 12 2 3 61 62 (.ref 63) (.ref 64) 65 263) ::
 (nat_lit 67,fO "parts_of" "parts_of" JcZ (.str "wagebook.bands" 250) (.ref 66)) ::
 (nat_lit 71,cO "worth" "worth" 266 26 2 3 68 69 .none .none 70 269) ::
 (nat_lit 72,fO "worth" "worth" Jej (.str "wagebook.bands" 250) (.ref 71)) ::
 (nat_lit 78,cO "relief_of" "relief_of" 272 28 3 3 73 74 (.ref 75) (.ref 76) 77 278) ::
 (nat_lit 79,fO "relief_of" "relief_of" Jcn (.str "wagebook.bands" 250) (.ref 78)) ::
 (nat_lit 85,cO "due_of" "due_of" 281 30 2 3 80 81 (.ref 82) (.ref 83) 84 287) ::
 (nat_lit 86,fO "due_of" "due_of" JeZ (.str "wagebook.bands" 250) (.ref 85)) ::
 (nat_lit 90,cO "holding" "holding" 294 35 2 3 87 88 .none .none 89 297) ::
 (nat_lit 91,fO "holding" "holding" Jb6 (.str "wagebook.tables" 290) (.ref 90)) ::
 (nat_lit 95,cO "good_bands" "good_bands" 300 40 1 3 92 93 .none .none 94 303) ::
 (nat_lit 96,fO "good_bands" "good_bands" JaB (.str "wagebook.tables" 290) (.ref 95)) ::
 (nat_lit 100,cO "good_dues" "good_dues" 306 50 1 3 97 98 .none .none 99 309) ::
 (nat_lit 101,fO "good_dues" "good_dues" Ja3 (.str "wagebook.tables" 290) (.ref 100)) ::
 (nat_lit 107,cO "week_of" "week_of" 318 60 1 3 102 103 (.ref 104) (.ref 105) 106 322) ::
 (nat_lit 108,fO "week_of" "week_of" Jed (.str "wagebook.weeks" 312) (.ref 107)) ::
 (nat_lit 114,cO "month_of" "month_of" 325 62 1 3 109 110 (.ref 111) (.ref 112) 113 329) ::
 (nat_lit 115,fO "month_of" "month_of" Jdf (.str "wagebook.weeks" 312) (.ref 114)) ::
 (nat_lit 121,cO "pay_for" "pay_for" 334 65 3 3 116 117 (.ref 118) (.ref 119) 120 341) ::
 (nat_lit 122,fO "pay_for" "pay_for" Jec (.str "wagebook.person" 332) (.ref 121)) ::
 (nat_lit 128,cO "net_for" "net_for" 344 70 3 3 123 124 (.ref 125) (.ref 126) 127 351) ::
 (nat_lit 129,fO "net_for" "net_for" JdI (.str "wagebook.person" 332) (.ref 128)) ::
 (nat_lit 135,cO "lines_between" "lines_between" 354 75 2 3 130 131 (.ref 132) (.ref 133) 134 362) ::
 (nat_lit 136,fO "lines_between" "lines_between" JaQ (.str "wagebook.person" 332) (.ref 135)) ::
 (nat_lit 149,cO "__init__" "Person.__init__" 377 84 1 3 144 145 (.ref 146) (.ref 147) 148 381) ::
 (nat_lit 150,fO "__init__" "Person.__init__" Jbq (.str "wagebook.person" 332) (.ref 149)) ::
 (nat_lit 156,cO "set_hours" "Person.set_hours" 384 90 3 3 151 152 (.ref 153) (.ref 154) 155 390) ::
 (nat_lit 157,fO "set_hours" "Person.set_hours" Y3 (.str "wagebook.person" 332) (.ref 156)) ::
 (nat_lit 163,cO "hours_by_week" "Person.hours_by_week" 393 93 1 3 158 159 (.ref 160) (.ref 161) 162 401) ::
 (nat_lit 164,fO "hours_by_week" "Person.hours_by_week" Yr (.str "wagebook.person" 332) (.ref 163)) ::
 (nat_lit 170,cO "week_pay" "Person.week_pay" 404 100 3 3 165 166 (.ref 167) (.ref 168) 169 410) ::
 (nat_lit 171,fO "week_pay" "Person.week_pay" Y8 (.str "wagebook.person" 332) (.ref 170)) ::
 (nat_lit 177,cO "pays_by_month" "Person.pays_by_month" 413 103 3 3 172 173 (.ref 174) (.ref 175) 176 423) ::
 (nat_lit 178,fO "pays_by_month" "Person.pays_by_month" Yq (.str "wagebook.person" 332) (.ref 177)) ::
 (nat_lit 184,cO "nets_by_month" "Person.nets_by_month" 426 111 4 3 179 180 (.ref 181) (.ref 182) 183 436) ::
 (nat_lit 185,fO "nets_by_month" "Person.nets_by_month" Yp (.str "wagebook.person" 332) (.ref 184)) ::
 (nat_lit 191,cO "hold_payday" "Person.hold_payday" 439 117 4 3 186 187 (.ref 188) (.ref 189) 190 449) ::
 (nat_lit 192,fO "hold_payday" "Person.hold_payday" YE (.str "wagebook.person" 332) (.ref 191)) ::
 (nat_lit 198,cO "has_part" "Person.has_part" 452 128 1 3 193 194 (.ref 195) (.ref 196) 197 456) ::
 (nat_lit 201,Obj.mk (.type "dict") none (.dict #[(eN P "__module__" 372 (.str "wagebook.person" 332)),(eN P "__firstlineno__" 376 (.int 82 375)),(eN P "__init__" 383 (.ref 150)),(eN P "set_hours" 392 (.ref 157)),(eN P "hours_by_week" 403 (.ref 164)),(eN P "week_pay" 412 (.ref 171)),(eN P "pays_by_month" 425 (.ref 178)),(eN P "nets_by_month" 438 (.ref 185)),(eN P "hold_payday" 451 (.ref 192)),(eN P "has_part" 458 (.ref 199)),(eN P "__static_attributes__" 463 (.ref 200)),(eN P "__dict__" 465 (.ref 203)),(eN P "__weakref__" 467 (.ref 204)),(eN P "__doc__" 468 .none)] 4) #[]) ::
 (nat_lit 202,Obj.mk (.type "type") none (.cls (.mk "Person" [(.type "object")] [(.ref 202),(.type "object")] 201 "Person" true [] [] false none false)) #[none,none,(some (.str "Person" 365)),(some (.str "Person" 373)),(some (.builtin "object.__new__")),(some (.bool true))]) ::
 (nat_lit 203,Obj.mk (.type "getset_descriptor") none (.fields #[(.str "__dict__" 464),(.ref 202),(.builtin "function.__dict__"),(.builtin "function.__dict__#set")]) #[]) ::
 (nat_lit 204,Obj.mk (.type "getset_descriptor") none (.fields #[(.str "__weakref__" 466),(.ref 202),(.builtin "ExceptionGroup.__weakref__"),.none]) #[]) ::
 (nat_lit 219,cO "__init__" "Book.__init__" 487 134 1 3 214 215 (.ref 216) (.ref 217) 218 491) ::
 (nat_lit 220,fO "__init__" "Book.__init__" Jcp (.str "wagebook.book" 471) (.ref 219)) ::
 (nat_lit 226,cO "person_of" "Book.person_of" 494 139 2 3 221 222 (.ref 223) (.ref 224) 225 499) ::
 (nat_lit 227,fO "person_of" "Book.person_of" Jas (.str "wagebook.book" 471) (.ref 226)) ::
 (nat_lit 233,cO "tell_hours" "Book.tell_hours" 502 142 4 3 228 229 (.ref 230) (.ref 231) 232 509) ::
 (nat_lit 234,fO "tell_hours" "Book.tell_hours" Jaa (.str "wagebook.book" 471) (.ref 233)) ::
 (nat_lit 240,cO "tell_rate" "Book.tell_rate" 512 148 3 3 235 236 (.ref 237) (.ref 238) 239 518) ::
 (nat_lit 241,fO "tell_rate" "Book.tell_rate" Jar (.str "wagebook.book" 471) (.ref 240)) ::
 (nat_lit 247,cO "tell_dues" "Book.tell_dues" 521 153 3 3 242 243 (.ref 244) (.ref 245) 246 527) ::
 (nat_lit 248,fO "tell_dues" "Book.tell_dues" Jao (.str "wagebook.book" 471) (.ref 247)) ::
 (nat_lit 254,cO "hold_payday_of" "Book.hold_payday_of" 530 158 3 3 249 250 (.ref 251) (.ref 252) 253 536) ::
 (nat_lit 255,fO "hold_payday_of" "Book.hold_payday_of" Yy (.str "wagebook.book" 471) (.ref 254)) ::
 (nat_lit 261,cO "pay_of" "Book.pay_of" 539 161 3 3 256 257 (.ref 258) (.ref 259) 260 545) ::
 (nat_lit 262,fO "pay_of" "Book.pay_of" Jbn (.str "wagebook.book" 471) (.ref 261)) ::
 (nat_lit 268,cO "nets_of" "Book.nets_of" 548 164 3 3 263 264 (.ref 265) (.ref 266) 267 554) ::
 (nat_lit 269,fO "nets_of" "Book.nets_of" Jba (.str "wagebook.book" 471) (.ref 268)) ::
 (nat_lit 275,cO "net_of" "Book.net_of" 557 167 3 3 270 271 (.ref 272) (.ref 273) 274 563) ::
 (nat_lit 276,fO "net_of" "Book.net_of" Jbm (.str "wagebook.book" 471) (.ref 275)) ::
 (nat_lit 282,cO "right_of" "Book.right_of" 566 170 3 3 277 278 (.ref 279) (.ref 280) 281 572) ::
 (nat_lit 283,fO "right_of" "Book.right_of" JaY (.str "wagebook.book" 471) (.ref 282)) ::
 (nat_lit 289,cO "paid_to" "Book.paid_to" 575 173 2 3 284 285 (.ref 286) (.ref 287) 288 580) ::
 (nat_lit 290,fO "paid_to" "Book.paid_to" Jbb (.str "wagebook.book" 471) (.ref 289)) ::
 (nat_lit 296,cO "owing_to" "Book.owing_to" 583 176 3 3 291 292 (.ref 293) (.ref 294) 295 589) ::
 (nat_lit 297,fO "owing_to" "Book.owing_to" JaK (.str "wagebook.book" 471) (.ref 296)) ::
 (nat_lit 303,cO "names" "Book.names" 592 179 1 3 298 299 (.ref 300) (.ref 301) 302 596) ::
 (nat_lit 306,Obj.mk (.type "dict") none (.dict #[(eN P "__module__" 482 (.str "wagebook.book" 471)),(eN P "__firstlineno__" 486 (.int 132 485)),(eN P "__init__" 493 (.ref 220)),(eN P "person_of" 501 (.ref 227)),(eN P "tell_hours" 511 (.ref 234)),(eN P "tell_rate" 520 (.ref 241)),(eN P "tell_dues" 529 (.ref 248)),(eN P "hold_payday_of" 538 (.ref 255)),(eN P "pay_of" 547 (.ref 262)),(eN P "nets_of" 556 (.ref 269)),(eN P "net_of" 565 (.ref 276)),(eN P "right_of" 574 (.ref 283)),(eN P "paid_to" 582 (.ref 290)),(eN P "owing_to" 591 (.ref 297)),(eN P "names" 598 (.ref 304)),(eN P "__static_attributes__" 602 (.ref 305)),(eN P "__dict__" 604 (.ref 308)),(eN P "__weakref__" 606 (.ref 309)),(eN P "__doc__" 607 .none)] 4) #[]) ::
 (nat_lit 307,Obj.mk (.type "type") none (.cls (.mk "Book" [(.type "object")] [(.ref 307),(.type "object")] 306 "Book" true [] [] false none false)) #[none,none,(some (.str "Book" 475)),(some (.str "Book" 483)),(some (.builtin "object.__new__")),(some (.bool true))]) ::
 (nat_lit 308,Obj.mk (.type "getset_descriptor") none (.fields #[(.str "__dict__" 603),(.ref 307),(.builtin "function.__dict__"),(.builtin "function.__dict__#set")]) #[]) ::
 (nat_lit 309,Obj.mk (.type "getset_descriptor") none (.fields #[(.str "__weakref__" 605),(.ref 307),(.builtin "ExceptionGroup.__weakref__"),.none]) #[]) ::
 (nat_lit 317,cO "asked" "asked" 612 182 4 3 312 313 (.ref 314) (.ref 315) 316 619) ::
 (nat_lit 318,fO "asked" "asked" Jhr (.str "wagebook.day" 610) (.ref 317)) ::
 (nat_lit 324,cO "done" "done" 622 190 2 3 319 320 (.ref 321) (.ref 322) 323 628) ::
 (nat_lit 325,fO "done" "done" JjN (.str "wagebook.day" 610) (.ref 324)) ::
 (nat_lit 331,cO "answer" "answer" 631 205 2 3 326 327 (.ref 328) (.ref 329) 330 636) ::
 (nat_lit 332,fO "answer" "answer" Je4 (.str "wagebook.day" 610) (.ref 331)) ::
 (nat_lit 336,cO "answers" "answers" 639 214 1 3 333 334 .none .none 335 642) ::
 (nat_lit 337,fO "answers" "answers" JbZ (.str "wagebook.day" 610) (.ref 336)) ::
 (nat_lit 343,cO "_law_unturned" "_law_unturned" 647 218 2 3 338 339 (.ref 340) (.ref 341) 342 656) ::
 (nat_lit 344,fO "_law_unturned" "_law_unturned" JbM (.str "law_wagebook_k06_whole_paydays_explained" 645) (.ref 343)) ::
 (nat_lit 350,cO "_law_room" "_law_room" 659 239 3 3 345 346 (.ref 347) (.ref 348) 349 665) ::
 (nat_lit 351,fO "_law_room" "_law_room" Je6 (.str "law_wagebook_k06_whole_paydays_explained" 645) (.ref 350)) ::
 (nat_lit 357,cO "_law_whole" "_law_whole" 668 243 1 3 352 353 (.ref 354) (.ref 355) 356 672) ::
 (nat_lit 358,fO "_law_whole" "_law_whole" JdE (.str "law_wagebook_k06_whole_paydays_explained" 645) (.ref 357)) ::
 (nat_lit 362,cO "_law_banded" "_law_banded" 675 245 3 3 359 360 .none .none 361 678) ::
 (nat_lit 363,fO "_law_banded" "_law_banded" Jbr (.str "law_wagebook_k06_whole_paydays_explained" 645) (.ref 362)) ::
 (nat_lit 369,cO "_law_spoilt" "_law_spoilt" 681 259 2 3 364 365 (.ref 366) (.ref 367) 368 687) ::
 (nat_lit 370,fO "_law_spoilt" "_law_spoilt" Jde (.str "law_wagebook_k06_whole_paydays_explained" 645) (.ref 369)) ::
 (nat_lit 376,cO "_law_people" "_law_people" 690 265 1 3 371 372 (.ref 373) (.ref 374) 375 696) ::
 (nat_lit 377,fO "_law_people" "_law_people" Jc4 (.str "law_wagebook_k06_whole_paydays_explained" 645) (.ref 376)) ::
 (nat_lit 383,cO "_law_so_far" "_law_so_far" 699 270 1 3 378 379 (.ref 380) (.ref 381) 382 703) ::
 (nat_lit 384,fO "_law_so_far" "_law_so_far" Jc5 (.str "law_wagebook_k06_whole_paydays_explained" 645) (.ref 383)) ::
 (nat_lit 390,cO "_law_first_month" "_law_first_month" 706 272 1 3 385 386 (.ref 387) (.ref 388) 389 711) ::
 (nat_lit 391,fO "_law_first_month" "_law_first_month" JaZ (.str "law_wagebook_k06_whole_paydays_explained" 645) (.ref 390)) ::
 (nat_lit 397,cO "_law_penned" "_law_penned" 714 275 2 3 392 393 (.ref 394) (.ref 395) 396 730) ::
 (nat_lit 398,fO "_law_penned" "_law_penned" Jc3 (.str "law_wagebook_k06_whole_paydays_explained" 645) (.ref 397)) ::
 (nat_lit 402,cO "_law_written" "_law_written" 733 308 1 3 399 400 .none .none 401 736) ::
 (nat_lit 403,fO "_law_written" "_law_written" Ja8 (.str "law_wagebook_k06_whole_paydays_explained" 645) (.ref 402)) ::
 (nat_lit 409,cO "_law_value" "_law_value" 739 310 2 3 404 405 (.ref 406) (.ref 407) 408 749) ::
 (nat_lit 410,fO "_law_value" "_law_value" JdL (.str "law_wagebook_k06_whole_paydays_explained" 645) (.ref 409)) ::
 (nat_lit 416,cO "_law_owed" "_law_owed" 752 320 2 3 411 412 (.ref 413) (.ref 414) 415 758) ::
 (nat_lit 417,fO "_law_owed" "_law_owed" Je9 (.str "law_wagebook_k06_whole_paydays_explained" 645) (.ref 416)) ::
 (nat_lit 421,cO "_law_can_be" "_law_can_be" 761 323 2 3 418 419 .none .none 420 764) ::
 (nat_lit 422,fO "_law_can_be" "_law_can_be" Jbv (.str "law_wagebook_k06_whole_paydays_explained" 645) (.ref 421)) ::
 (nat_lit 428,cO "_law_begun" "_law_begun" 767 333 1 3 423 424 (.ref 425) (.ref 426) 427 773) ::
 (nat_lit 429,fO "_law_begun" "_law_begun" JdO (.str "law_wagebook_k06_whole_paydays_explained" 645) (.ref 428)) ::
 (nat_lit 435,cO "_law_holds" "_law_holds" 776 341 2 3 430 431 (.ref 432) (.ref 433) 434 783) ::
 (nat_lit 436,fO "_law_holds" "_law_holds" Jea (.str "law_wagebook_k06_whole_paydays_explained" 645) (.ref 435)) ::
 (nat_lit 442,cO "_law_wages" "_law_wages" 786 349 3 3 437 438 (.ref 439) (.ref 440) 441 795) ::
 (nat_lit 443,fO "_law_wages" "_law_wages" Jd9 (.str "law_wagebook_k06_whole_paydays_explained" 645) (.ref 442)) ::
 (nat_lit 449,cO "_law_net" "_law_net" 798 357 4 3 444 445 (.ref 446) (.ref 447) 448 808) ::
 (nat_lit 450,fO "_law_net" "_law_net" JgS (.str "law_wagebook_k06_whole_paydays_explained" 645) (.ref 449)) ::
 (nat_lit 454,cO "_law_all_nets" "_law_all_nets" 811 366 3 3 451 452 .none .none 453 814) ::
 (nat_lit 455,fO "_law_all_nets" "_law_all_nets" Jaz (.str "law_wagebook_k06_whole_paydays_explained" 645) (.ref 454)) ::
 (nat_lit 461,cO "_law_refused" "_law_refused" 817 368 2 3 456 457 (.ref 458) (.ref 459) 460 825) ::
 (nat_lit 462,fO "_law_refused" "_law_refused" Jcm (.str "law_wagebook_k06_whole_paydays_explained" 645) (.ref 461)) ::
 (nat_lit 468,cO "_law_paying" "_law_paying" 828 380 3 3 463 464 (.ref 465) (.ref 466) 467 840) ::
 (nat_lit 469,fO "_law_paying" "_law_paying" JcX (.str "law_wagebook_k06_whole_paydays_explained" 645) (.ref 468)) ::
 (nat_lit 475,cO "_law_done" "_law_done" 843 393 2 3 470 471 (.ref 472) (.ref 473) 474 851) ::
 (nat_lit 476,fO "_law_done" "_law_done" Jfa (.str "law_wagebook_k06_whole_paydays_explained" 645) (.ref 475)) ::
 (nat_lit 480,cO "_law_is_slip" "_law_is_slip" 854 414 1 3 477 478 .none .none 479 857) ::
 (nat_lit 481,fO "_law_is_slip" "_law_is_slip" Ja4 (.str "law_wagebook_k06_whole_paydays_explained" 645) (.ref 480)) ::
 (nat_lit 485,cO "_law_asking" "_law_asking" 860 426 2 3 482 483 .none .none 484 863) ::
 (nat_lit 486,fO "_law_asking" "_law_asking" Jbt (.str "law_wagebook_k06_whole_paydays_explained" 645) (.ref 485)) ::
 (nat_lit 490,cO "law" "law" 866 438 1 3 487 488 .none .none 489 869) ::
 (nat_lit 491,fO "law" "law" JkN (.str "law_wagebook_k06_whole_paydays_explained" 645) (.ref 490))::[]
noncomputable def JsO:List Addr:=[2,3,30,31,32,43,44,45,56,57,58,66,67,71,72,78,79,85,86,90,91,95,96,100,101,107,108,114,115,121,122,128,129,135,136,149,150,156,157,163,164,170,171,177,178,184,185,191,192,198,201,202,203,204,219,220,226,227,233,234,240,241,247,248,254,255,261,262,268,269,275,276,282,283,289,290,296,297,303,306,307,308,309,317,318,324,325,331,332,336,337,343,344,350,351,357,358,362,363,369,370,376,377,383,384,390,391,397,398,402,403,409,410,416,417,421,422,428,429,435,436,442,443,449,450,454,455,461,462,468,469,475,476,480,481,485,486,490,491]
noncomputable abbrev hk:PySem.W.Hook:=PySem.W.kHook myK JsO fun _=>by kernel_rfl
noncomputable abbrev vw:Program:=PySem.W.view PySem.Challenge.pw_wagebook_k06_whole_paydays_explained [0,2,3,4,6,7,8,9,11,12,13,14,16,17,18,19,21,22,23,24,26,27,29,30,31,32,34,35,36,37,38,39,40,41,42,43,44,45,46,47,48,49,50,51,52,53,54,55,56,57]
noncomputable abbrev Jso(s:Shared):Bool:=PySem.W.xlAt vw [] s&&PySem.W.recOk PySem.Challenge.rw_wagebook_k06_whole_paydays_explained.row.toRowW.records s
theorem left:PySem.W.LeftO PySem.Challenge.pw_wagebook_k06_whole_paydays_explained vw [] Jso hk.obs hk.val 3193:=by
 refine JhB (n1:=3093) (pos2:=⟨438,0,473,15⟩) (ann:=some (.ref 6)) ?e ?n ?f ?s ?p ?b ?m ?l
 case e=>kernel_rfl
 case n=>rfl
 case f=>intro s;kernel_rfl
 case s=>intro w;kernel_rfl
 case p=>intro w os;kernel_rfl
 case b=>intro w os;kernel_rfl
 case m=>intro w os;kernel_rfl
 case l=>decide
end TLA
namespace L2
open PySem PySem.Spec PyProof.Rows
noncomputable abbrev Key:=Sum Int Str
noncomputable def JhZ:Key->Value->Bool
 | .inl k,v=>Value.isInt k v
 | .inr x,v=>Value.isStrOf x v
noncomputable def Jsr(w:World):Key->Int
 | .inl k=>hashInt k
 | .inr x=>hashStr w x
theorem YD:∀{k:Key}{v:Value},JhZ k v=true->(∃i t,k=Az i/\v=Value.int i t)\/(∃x t,k=A8 x/\v=Value.str x t)
 | .inl i,v,h=>by
  obtain⟨t,e⟩ :=Value.isInt_shape (k:=i) (v:=v) h;exact .inl ⟨i,t,rfl,e⟩
 | .inr x,v,h=>by
  obtain⟨t,e⟩ :=Value.isStrOf_shape (x:=x) (v:=v) h;exact .inr ⟨x,t,rfl,e⟩
theorem Jlb(i:Int)(t:Tok):JhZ (.inl i) (.int i t)=true:=by simp[JhZ,Value.isInt]
theorem JlL(x:Str)(t:Tok):JhZ (.inr x) (.str x t)=true:=by simp[JhZ,Value.isStrOf]
theorem JqM(a b:Int):decide ((Az a:Key)=Az b)=(a==b):=by
 by_cases e:a=b
 .subst e;simp
 .have h:¬(Az a:Key)=Az b:=fun q=>e (Az.inj q);rw[decide_eq_false h];exact(beq_eq_false_iff_ne.mpr e).symm
theorem Jqt(a b:Str):decide ((A8 a:Key)=A8 b)=decide (a=b):=by
 by_cases e:a=b
 .subst e;simp
 .have h:¬(A8 a:Key)=A8 b:=fun q=>e (A8.inj q);rw[decide_eq_false h,decide_eq_false e]
theorem JqT(a:Int)(b:Str):decide ((Az a:Key)=A8 b)=false:=decide_eq_false (fun q=>nomatch q)
theorem JqQ(a:Str)(b:Int):decide ((A8 a:Key)=Az b)=false:=decide_eq_false (fun q=>nomatch q)
noncomputable def Yc(prog:Program)(w:World):PySem.KeyKind prog w Key where
 is:=JhZ
 hash:=Jsr w
 inj:=fun v a b ha hb=>by
  rcases YD ha with⟨i,t,rfl,rfl⟩|⟨x,t,rfl,rfl⟩
  .rcases YD hb with⟨j,u,rfl,e⟩|⟨y,u,rfl,e⟩
   .injection e with e1 _;rw[e1]
   .exact nomatch e
  .rcases YD hb with⟨j,u,rfl,e⟩|⟨y,u,rfl,e⟩
   .exact nomatch e
   .injection e with e1 _;rw[e1]
 byValue:=fun k v h=>by
  rcases YD h with⟨i,t,rfl,rfl⟩|⟨x,t,rfl,rfl⟩<;>rfl
 pyHash:=fun hv h=>by
  rcases YD hv with⟨i,t,rfl,rfl⟩|⟨x,t,rfl,rfl⟩
  .exact wpAny_pyHash_int h
  .exact wpAny_pyHash_str h
 eqBool:=fun hu hv h=>by
  rcases YD hu with⟨i,t,rfl,rfl⟩|⟨x,t,rfl,rfl⟩
  .rcases YD hv with⟨j,u,rfl,rfl⟩|⟨y,u,rfl,rfl⟩
   .rw[JqM]at h;exact wpAny_eqBool_int h
   .rw[JqT]at h;exact SeqAt.EqAt.int_str i t y u _ _ _ _ h
  .rcases YD hv with⟨j,u,rfl,rfl⟩|⟨y,u,rfl,rfl⟩
   .rw[JqQ]at h;exact SeqAt.EqAt.str_int x t j u _ _ _ _ h
   .rw[Jqt]at h;exact wpAny_eqBool_str h
 «strs»:=fun k x t v h=>by
  rcases YD h with⟨i,u,rfl,e⟩|⟨y,u,rfl,e⟩
  .exact nomatch e
  .injection e with e1 _
   subst e1;cases v<;>rfl
theorem Ji6(prog:Program)(w:World)(i:Int)(t:Tok):(Yc prog w).is (.inl i) (.int i t)=true:=Jlb i t
theorem Ji2(prog:Program)(w:World)(x:Str)(t:Tok):(Yc prog w).is (.inr x) (.str x t)=true:=JlL x t
end L2
namespace L2
open PySem PySem.Spec PyProof.Rows
inductive V where
 | non | bl (b:Bool) | int (i:Int) | str (x:Str) | byt (b:Array UInt8) | flt (b:UInt64) | ref (a:Addr) | ty (n:String)
 deriving DecidableEq
noncomputable def Jad:V->Value->Prop
 | .non,u=>u=Value.none
 | .bl b,u=>u=Value.bool b
 | .int i,u=>∃t,u=Value.int i t
 | .str x,u=>∃t,u=Value.str x t
 | .byt b,u=>∃t,u=Value.bytes b t
 | .flt b,u=>∃t,u=Value.float b t
 | .ref a,u=>u=Value.ref a
 | .ty n,u=>u=Value.type n
noncomputable abbrev YZ:List V->List Value->Prop:=Paired Jad
theorem YZ.length{xs:List V}{us:List Value}(r:YZ xs us):xs.length=us.length:=Paired.length r
theorem YZ.get:∀{xs:List V}{us:List Value}{i:Nat}{x:V},YZ xs us->xs[i]?=some x->∃u,us[i]?=some u/\Jad x u
 | _,_,_,_,.nil,e=>by simp at e
 | _,_,0,_,.cons r _,e=>by simp at e;subst e;exact⟨_,rfl,r⟩
 | _,_,i+1,x,.cons _ t,e=>by
  obtain⟨u,h1,h2⟩ :=YZ.get (i:=i) (x:=x) t (by simpa using e);exact⟨u,by simpa using h1,h2⟩
theorem YZ.append:∀{xs ys:List V}{us ws:List Value},YZ xs us->YZ ys ws->YZ (xs++ys) (us++ws)
 | _,_,_,_,.nil,s=>s
 | _,_,_,_,.cons r t,s=>.cons r (YZ.append t s)
theorem YZ.take:∀{xs:List V}{us:List Value}(n:Nat),YZ xs us->YZ (xs.take n) (us.take n)
 | _,_,0,_=>.nil
 | _,_,_+1,.nil=>.nil
 | _,_,n+1,.cons r t=>.cons r (YZ.take n t)
theorem YZ.drop:∀{xs:List V}{us:List Value}(n:Nat),YZ xs us->YZ (xs.drop n) (us.drop n)
 | _,_,0,r=>r
 | _,_,_+1,.nil=>.nil
 | _,_,n+1,.cons _ t=>YZ.drop n t
noncomputable def Jhz:Option V->Option Value->Prop
 | some v,some u=>Jad v u
 | none,none=>True
 | _,_=>False
noncomputable def KV{κ:Type}:List (κ×V)->List (κ×Value)->Prop:=Paired fun(p:κ×V)(q:κ×Value)=>p.1=q.1/\Jad p.2 q.2
noncomputable def kV:Key->V
 | .inl i=>.int i
 | .inr x=>.str x
inductive HO where
 | lst (xs:List V)
 | tup (xs:List V)
 | dK (kvs:List (Key×V)) | dT (kvs:List (List Key×V))
 | set (S:Int->Bool) (n:Nat)
 | ins (C dx:Addr) (fs:List (Str×V))
 | own (x:Addr)
 | xd (fs:List (Str×V))
 | met (f x:Addr)
 | rng (lo hi:Int)
 | frz (o:Obj) (u:HO)
 | tbl (ps:Array Value)
 | ext (φ:Heap->Prop)
noncomputable abbrev Hp:=Addr->Option HO
noncomputable def upd(H:Hp)(a:Addr)(o:HO):Hp:=fun b=>if b=a then some o else H b
theorem Ja{H:Hp}{a:Addr}{o:HO}:upd H a o a=some o:=by unfold upd;rw[if_pos rfl]
theorem Jf{H:Hp}{a b:Addr}{o:HO}(h:b≠a):upd H a o b=H b:=by unfold upd;rw[if_neg h]
theorem Jdw{H:Hp}{a:Addr}{o u:HO}:upd (upd H a o) a u=upd H a u:=by
 funext b;unfold upd;split<;>rfl
theorem Jac{H:Hp}{a b:Addr}{o u:HO}(h:H a=some o)(h':H b=some u)(d:o≠u):a≠b:=by
 intro e;subst e;rw[h]at h';exact d (Option.some.inj h')
theorem Ji{H:Hp}{a b:Addr}{o:HO}(h:H a=some o)(h':H b=none):a≠b:=by
 intro e;subst e;rw[h]at h';cases h'
section
variable (P:Program) (w:World)
noncomputable def Ym(H:Hp)(h:Heap)(a:Addr):HO->Prop
 | .lst xs=>xs.length<=B2/\∃(its:List Value)(n:Nat),YZ xs its/\h.get? a=some { cls:=.type "list",data:=.seq its.toArray n }
 | .tup xs=>xs.length<=B2/\∃its:List Value,YZ xs its/\IsTup h a its.toArray
 | .dK kvs=>kvs.length<=B2/\(a==sysModules)=false/\∃vs,KV kvs vs/\h.DictOf (Yc P w) a vs
 | .dT kvs=>kvs.length<=B2/\(a==sysModules)=false/\∃xs:List (List Key×Addr×Value),
   Paired (fun(p:List Key×V)(q:List Key×Addr×Value)=>p.1=q.1/\H q.2.1=some (.tup (p.1.map kV))/\Jad p.2 q.2.2) kvs xs/\
   ∃o es ep,h.get? a=some o/\o.ExactDict/\o.data=.dict es ep/\es.toList=xs.map (entryOfKey (tupleKind (Yc P w)))/\(xs.map (·.1)).Nodup
 | .set S n=>h.SetOf (intKind P w) a S n
 | .ins C dx fs=>H dx=some (.own a)/\fs.length<=1000/\dx≠a/\h.get? a=some (PySem.W.instObj C dx)/\
   ∃mA,h.Ns1 dx mA/\(∀f,Jhz (fs.lookup f) (mA f))/\PySem.Within mA (fs.map (·.1))
 | .own _=>∃o,h.get? a=some o
 | .xd fs=>∃mA,h.Ns1 a mA/\∀f,Jhz (fs.lookup f) (mA f)
 | .rng lo hi=>∃t u v,h.get? a=some { cls:=.type "range",data:=.fields #[.int lo t,.int hi u,.int 1 v] }
 | .frz o u=>h.get? a=some o/\Ym H h a u
 | .tbl ps=>h.get? a=some { cls:=.none,data:=.fields ps }
 | .met f x=>h.get? a=some (PySem.W.methodObj (.ref f) (.ref x))
 | .ext φ=>φ h/\(∃o,h.get? a=some o)/\∀h1 h2:Heap,φ h1->(∀o,h1.get? a=some o->h2.get? a=some o)->φ h2
def HOk(H:Hp)(h:Heap):Prop:=∀a o,H a=some o->Ym P w H h a o
end
section
variable {P:Program} {w:World} {H H':Hp} {h h':Heap} {a:Addr} {o:HO}
theorem Ym.lt(x:Ym P w H h a o):a<h.objs.size:=by
 cases o with
 | lst xs=>obtain⟨_,_,_,_,e⟩ :=x;exact B3 e
 | tup xs=>obtain⟨_,_,_,p⟩ :=x;exact p.lt
 | dK kvs=>obtain⟨_,_,_,_,o,_,_,e,_⟩ :=x;exact B3 e
 | dT kvs=>obtain⟨_,_,_,_,o,_,_,e,_⟩ :=x;exact B3 e
 | set S n=>obtain⟨o,_,_,_,e,_⟩ :=x;exact B3 e
 | ins C dx fs=>obtain⟨_,_,_,e,_⟩ :=x;exact B3 e
 | own y=>obtain⟨_,e⟩ :=x;exact B3 e
 | xd fs=>obtain⟨_,⟨_,_,_,e,_⟩,_⟩ :=x;exact B3 e
 | rng lo hi=>obtain⟨_,_,_,e⟩ :=x;exact B3 e
 | frz ob u=>obtain⟨e,_⟩ :=x;exact B3 e
 | tbl ps=>exact B3 (show h.get? a=some _ from x)
 | met f y=>exact B3 (show h.get? a=some _ from x)
 | ext φ=>obtain⟨_,⟨_,e⟩,_⟩ :=x;exact B3 e
theorem Paired.mapP{α β:Type}{F G:α->β->Prop}:∀{l₁:List α}{l₂:List β},Paired F l₁ l₂->(∀a b,F a b->G a b)->Paired G l₁ l₂
 | _,_,.nil,_=>.nil
 | _,_,.cons r t,f=>.cons (f _ _ r) (Paired.mapP t f)
theorem Ym.stay(x:Ym P w H h a o)(k:∀b u,(b=a\/H b=some (.own a))->h.get? b=some u->h'.get? b=some u)
  (ho:∀b,H b=some (.own a)->H' b=some (.own a)) (ht:∀b xs,H b=some (.tup xs)->H' b=some (.tup xs)):Ym P w H' h' a o:=by
 induction o with
 | lst xs=>obtain⟨z,its,n,r,e⟩ :=x;exact⟨z,its,n,r,k _ _ (.inl rfl) e⟩
 | tup xs=>obtain⟨z,its,r,ob,e,c⟩ :=x;exact⟨z,its,r,ob,k _ _ (.inl rfl) e,c⟩
 | dK kvs=>obtain⟨z,y,vs,r,ob,es,ep,e,c⟩ :=x;exact⟨z,y,vs,r,ob,es,ep,k _ _ (.inl rfl) e,c⟩
 | dT kvs=>
  obtain⟨z,y,xs,r,ob,es,ep,e,c⟩ :=x;exact⟨z,y,xs,Paired.mapP r fun p q z=>⟨z.1,ht _ _ z.2.1,z.2.2⟩,ob,es,ep,k _ _ (.inl rfl) e,c⟩
 | set S n=>obtain⟨ob,es,ep,t,e,c⟩ :=x;exact⟨ob,es,ep,t,k _ _ (.inl rfl) e,c⟩
 | ins C dx fs=>
  obtain⟨d,z,ne,e,mA,⟨od,es,ep,e2,c⟩,r⟩ :=x;exact⟨ho _ d,z,ne,k _ _ (.inl rfl) e,mA,⟨od,es,ep,k _ _ (.inr d) e2,c⟩,r⟩
 | own y=>obtain⟨ob,e⟩ :=x;exact⟨ob,k _ _ (.inl rfl) e⟩
 | xd fs=>obtain⟨mA,⟨od,es,ep,e,c⟩,r⟩ :=x;exact⟨mA,⟨od,es,ep,k _ _ (.inl rfl) e,c⟩,r⟩
 | rng lo hi=>obtain⟨t,u,v,e⟩ :=x;exact⟨t,u,v,k _ _ (.inl rfl) e⟩
 | frz ob u ih=>obtain⟨e,q⟩ :=x;exact⟨k _ _ (.inl rfl) e,ih q⟩
 | tbl ps=>
  have e:h.get? a=some { cls:=.none,data:=.fields ps }:=x;show h'.get? a=some { cls:=.none,data:=.fields ps };exact k a _ (.inl rfl) e
 | met f y=>
  have e:h.get? a=some (PySem.W.methodObj (.ref f) (.ref y)):=x;show h'.get? a=some (PySem.W.methodObj (.ref f) (.ref y));exact k a _ (.inl rfl) e
 | ext φ=>obtain⟨p,⟨o,e⟩,st⟩ :=x;exact⟨st _ _ p fun o q=>k _ _ (.inl rfl) q,⟨o,k _ _ (.inl rfl) e⟩,st⟩
theorem HOk.lt(x:HOk P w H h)(e:H a=some o):a<h.objs.size:=(x a o e).lt
theorem HOk.fresh(x:HOk P w H h)(e:h.objs.size<=a):H a=none:=by
 cases q:H a with
 | none=>rfl
 | some u=>exact absurd (Nat.lt_of_lt_of_le (x.lt q) e) (Nat.lt_irrefl _)
theorem HOk.kept(x:HOk P w H h)(k:∀b u,h.get? b=some u->h'.get? b=some u):HOk P w H h':=fun a o e=>
 (x a o e).stay (fun b u _ q=>k b u q) (fun _ q=>q) fun _ _ q=>q
theorem HOk.laid(x:HOk P w H h)(k:∀b u,h.get? b=some u->h'.get? b=some u)(hp:h.objs.size<=a)(new:Ym P w (upd H a o) h' a o):HOk P w (upd H a o) h':=fun b u e=>by
 have hn:=x.fresh hp
 by_cases hb:b=a
 .subst hb;rw[Ja]at e;cases e;exact new
 .rw[Jf hb]at e
  exact(x b u e).stay (fun c v _ q=>k c v q) (fun c q=>by rw[Jf (Ji q hn)];exact q) fun c xs q=>by rw[Jf (Ji q hn)];exact q
end
def Rd(H:Hp)(a:Addr)(u:HO):Prop:=H a=some u\/∃o,H a=some (.frz o u)
theorem Rd.ok{P:Program}{w:World}{H:Hp}{h:Heap}{a:Addr}{u:HO}(r:Rd H a u)(x:HOk P w H h):Ym P w H h a u:=by
 rcases r with r|⟨o,r⟩
 .exact x a u r
 .obtain⟨_,q⟩ :=x a _ r;exact q
noncomputable def Mut:Option HO->Prop
 | some (.lst _)=>True
 | some (.dK _)=>True
 | some (.dT _)=>True
 | some (.set _ _)=>True
 | some (.ins _ _ _)=>True
 | some (.ext _)=>True
 | _=>False
section
variable {P:Program} {w:World} {H:Hp} {h h':Heap} {x e:Addr} {o':HO}
theorem HOk.write(ok:HOk P w H h)(mu:Mut (H x))(he:e=x\/H e=some (.own x))(k:∀b u,b≠e->h.get? b=some u->h'.get? b=some u)(heo:∃u,h'.get? e=some u)
  (new:Ym P w (upd H x o') h' x o'):HOk P w (upd H x o') h':=fun b u q=>by
 have nown:∀c y,H c=some (.own y)->c≠x:=fun c y r z=>by subst z;rw[r]at mu;exact mu
 have ntup:∀c xs,H c=some (.tup xs)->c≠x:=fun c xs r z=>by subst z;rw[r]at mu;exact mu
 by_cases hb:b=x
 .subst hb;rw[Ja]at q;cases q;exact new
 .rw[Jf hb]at q
  by_cases hbe:b=e
  .have q':H b=some (.own x):=by
    rcases he with z|z
    .exact absurd (hbe.trans z) hb
    .rw[hbe];exact z
   rw[q]at q';cases q';obtain⟨v,hv⟩ :=heo;exact⟨v,by rw[hbe];exact hv⟩
  .refine(ok b u q).stay (fun c v hc r=>k c v ?_ r) (fun c r=>by rw[Jf (nown c b r)];exact r) fun c xs r=>by rw[Jf (ntup c xs r)];exact r
   rcases hc with rfl|hc
   .exact hbe
   .rintro rfl
    rcases he with z|z
    .exact nown c b hc z
    .rw[hc]at z;cases z;exact hb rfl
end
structure Un(fs ex:List Addr)(H H':Hp)(h h':Heap):Prop where
 keep:∀b o,h.get? b=some o->H b=none->b∉fs->b∉ex->h'.get? b=some o
 slot:∀b o,h.get? b=some o->H b=none->b∈fs->b∉ex->∃sl,h'.get? b=some { o with slots:=sl }
 free:∀b o,h.get? b=some o->H b=none->b∉ex->H' b=none
 there:∀b o,h.get? b=some o->b∉ex->∃o',h'.get? b=some o'
 tups:∀b xs,H b=some (.tup xs)->H' b=some (.tup xs)
 frzs:∀b o u,H b=some (.frz o u)->H' b=some (.frz o u)
 tbls:∀b ps,H b=some (.tbl ps)->∃more,H' b=some (.tbl (ps++more))
section
variable {fs fs' ex ex':List Addr} {H H1 H2:Hp} {h h1 h2 h':Heap} {a x e:Addr} {o:HO}
theorem Un.any(u:Un fs ex H H1 h h1){b:Addr}{ob:Obj}(q:h.get? b=some ob)(n:H b=none)(hx:b∉ex):∃sl,h1.get? b=some { ob with slots:=sl }:=by
 by_cases hb:b∈fs
 .exact u.slot b ob q n hb hx
 .exact⟨ob.slots,u.keep b ob q n hb hx⟩
theorem Un.kept(k:∀b u,h.get? b=some u->h'.get? b=some u):Un fs ex H H h h':=
 ⟨fun b ob q _ _ _=>k b ob q,fun b ob q _ _ _=>⟨ob.slots,k b ob q⟩,fun _ _ _ n _=>n,fun b ob q _=>⟨ob,k b ob q⟩,fun _ _ q=>q,fun _ _ _ q=>q,fun _ ps q=>⟨#[],by rw[q];simp⟩⟩
theorem Un.refl:Un fs ex H H h h:=Un.kept fun _ _ q=>q
theorem Un.laid(k:∀b u,h.get? b=some u->h'.get? b=some u)(hp:h.objs.size<=a)(hn:H a=none):Un fs ex H (upd H a o) h h' where
 keep:=fun b u q _ _ _=>k b u q
 slot:=fun b u q _ _ _=>⟨u.slots,k b u q⟩
 free:=fun b u q n _=>by rw[Jf (B6 (Nat.lt_of_lt_of_le (B3 q) hp))];exact n
 there:=fun b u q _=>⟨u,k b u q⟩
 tups:=fun b xs q=>by rw[Jf (Ji q hn)];exact q
 frzs:=fun b u xs q=>by rw[Jf (Ji q hn)];exact q
 tbls:=fun b ps q=>⟨#[],by rw[Jf (Ji q hn),q];simp⟩
theorem Un.write(mu:Mut (H x))(he:e=x\/H e=some (.own x))(k:∀b u,b≠e->h.get? b=some u->h'.get? b=some u)(heo:∃u,h'.get? e=some u):Un fs ex H (upd H x o) h h':=by
 have hx:∀b,H b=none->b≠x:=fun b n z=>by subst z;rw[n]at mu;exact mu
 have hb:∀b,H b=none->b≠e:=fun b n z=>by
  subst z
  rcases he with r|r
  .exact hx b n r
  .rw[n]at r;cases r
 have hm:∀b u,H b=some u->¬Mut (some u)->b≠x:=fun b u q nm z=>by subst z;rw[q]at mu;exact nm mu
 refine⟨fun b u q n _ _=>k b u (hb b n) q,fun b u q n _ _=>⟨u.slots,k b u (hb b n) q⟩,fun b u q n _=>by rw[Jf (hx b n)];exact n,fun b u q _=>?_,
  fun b xs q=>by rw[Jf (hm b _ q fun z=>z)];exact q,fun b u xs q=>by rw[Jf (hm b _ q fun z=>z)];exact q,fun b ps q=>⟨#[],by rw[Jf (hm b _ q fun z=>z),q];simp⟩⟩
 by_cases hbe:b=e
 .subst hbe;exact heo
 .exact⟨u,k b u hbe q⟩
end
noncomputable def trk(h:Heap)(H:Hp):List Addr:=(List.range h.objs.size).filter fun a=>(H a).isSome
noncomputable def JnS(h:Heap)(H:Hp):Heap:=PySem.W.hideAll h (trk h H)
theorem JmN(h:Heap)(H:Hp):(JnS h H).objs.size=h.objs.size:=PySem.W.hideAll_size _ _
theorem JnI{h:Heap}{H:Hp}{b:Addr}{o:Obj}(e:h.get? b=some o)(n:H b=none):(JnS h H).get? b=some o:=
 PySem.W.hideAll_get _ e fun hm=>by
  have q:(H b).isSome=true:=(List.mem_filter.mp hm).2;rw[n]at q;simp at q
theorem JpI{h:Heap}{H:Hp}{b:Addr}{o:Obj}(e:(JnS h H).get? b=some o):h.get? b=some o/\H b=none:=by
 have e':h.get? b=some o:=PySem.W.of_hideAll (trk h H) e;refine⟨e',?_⟩
 cases q:H b with
 | none=>rfl
 | some x=>
  have hm:b∈trk h H:=List.mem_filter.mpr ⟨List.mem_range.mpr (B3 e'),by simp[q]⟩;have z:(JnS h H).get? b=none:=PySem.W.hideAll_none (trk h H) hm;rw[z]at e;cases e
noncomputable def Jo9(g h:Heap)(L:Addr):PL:=(List.range h.objs.size).filterMap fun a=>if a=L\/(g.get? a).isSome=true then none else(h.get? a).map fun o=>(a,o)
noncomputable def rest(g h:Heap)(L d:Addr):PL:=(Jo9 g h L).filter fun p=>decide (p.1≠d)
end L2
namespace L2
open PySem PySem.Spec PyProof.Rows
structure Mod(K:WF)(mg:MO)(base:Heap):Prop where
 kin:K.In base
 glob:base.Ns mainGlobals mg
 blt:∃mb,base.Ns builtinsNs mb/\∀x:Str,x≠"__name__"->mb x=bootBuiltins x
 nolimit:base.NoLimit
structure Cx where
 prog:Program
 w:World
 K:WF
 mg:MO
 base:Heap
 A:Around
 N:List Str
 s₀:Shared
 H₀:Hp
 env:Env
 outer:List Env
 stack:List Env
 ex:List Addr
 fn:Str->Bool
 calm:Bool
 pn:PL
 xe:VS
noncomputable def frs(l:List Env):List Addr:=l.filterMap (·.frame)
noncomputable abbrev Cx.fs(X:Cx):List Addr:=frs X.outer
def Vis(sc:Scope)(x:Str):Prop:=sc.names.lookup x=some .local\/sc.names.lookup x=some .cell\/sc.names.lookup x=some .free
def Loc(sc:Scope)(x:Str):Prop:=sc.names.lookup x=some .local\/sc.names.lookup x=some .cell
def Jsw(env:Env)(h:Heap)(m:MO)(x:Str)(u:Value):Prop:=
 (env.kindOf x=some .local/\m x=some u)\/((env.kindOf x=some .cell\/env.kindOf x=some .free)/\∃c,env.cells.lookup x=some c/\h.IsCell c (some u))
structure Cx.Ok(X:Cx):Prop where
 mod:Mod X.K X.mg X.base
 kind:X.env.scope.kind=.function
 glob:X.env.globals=mainGlobals
 blt:X.env.builtins=builtinsNs
 above:X.s₀.heap.objs.size<=X.env.locals
 inj:∀x y c,X.env.cells.lookup x=some c->X.env.cells.lookup y=some c->x=y
 has:∀x,(X.env.kindOf x=some .cell\/X.env.kindOf x=some .free)->∃c,X.env.cells.lookup x=some c
 cab:∀x c,X.fn x=true->X.env.cells.lookup x=some c->X.s₀.heap.objs.size<=c
 hd:X.calm=true->X.A.handled=none
 frames:X.A.frames=some X.stack
 stk:X.stack=X.outer\/(X.stack=X.env::X.outer/\X.env.frame=some X.env.locals)
 exf:∀b∈X.ex,b≠X.env.locals/\∀x c,X.env.cells.lookup x=some c->c≠b
 bs:∀b o,X.base.get? b=some o->X.s₀.heap.get? b=some o/\X.H₀ b=none
 bsz:X.base.objs.size<=X.s₀.heap.objs.size
 noex:∀b o,X.base.get? b=some o->b∉X.ex
 exfs:∀b∈X.ex,b∉X.fs
 funs:X.s₀.heap.FunFrames X.base X.outer
 frf:∀b∈X.fs,X.H₀ b=none
structure Inv(X:Cx)(pins:PL)(σ:List (Option V))(H:Hp)(s:Shared):Prop where
 ok:X.Ok
 os:s.os=X.s₀.os
 bare:AllBare s.gens
 base:Un X.fs X.ex X.H₀ H X.s₀.heap s.heap
 loc:∃m,s.heap.Ns X.env.locals m/\∀(i:Nat)(x:Str)(v:V),X.N[i]?=some x->σ[i]?=some (some v)->Vis X.env.scope x->∃u,Jad v u/\Jsw X.env s.heap m x u
 cell:∀x c,X.env.cells.lookup x=some c->∃v,s.heap.IsCell c v
 free:H X.env.locals=none
 freeC:∀x c,X.env.cells.lookup x=some c->H c=none
 pin:∀p∈X.pn++pins,s.heap.get? p.1=some p.2/\H p.1=none/\p.1≠X.env.locals/\p.1∉X.fs/\∀v,p.2.data≠.cell v
 hok:HOk X.prog X.w H s.heap
 len:σ.length=X.N.length
section
variable {X:Cx} {pins:PL} {σ:List (Option V)} {H H':Hp} {s:Shared} {h':Heap}
theorem Cx.Ok.nofr(ok:X.Ok){b:Addr}{o:Obj}(e:X.base.get? b=some o):b∉X.fs:=fun hb=>by
 have:=(ok.funs.mem hb).1;rw[e]at this;cases this
theorem Inv.bs(I:Inv X pins σ H s):∀b o,X.base.get? b=some o->s.heap.get? b=some o/\H b=none:=fun b o e=>
 ⟨I.base.keep b o (I.ok.bs b o e).1 (I.ok.bs b o e).2 (I.ok.nofr e) (I.ok.noex b o e),I.base.free b o (I.ok.bs b o e).1 (I.ok.bs b o e).2 (I.ok.noex b o e)⟩
theorem Inv.bk(I:Inv X pins σ H s):∀b o,X.base.get? b=some o->s.heap.get? b=some o:=fun b o e=>(I.bs b o e).1
theorem Inv.mod(I:Inv X pins σ H s):Mod X.K X.mg X.base:=I.ok.mod
theorem Inv.kIn(I:Inv X pins σ H s):X.K.In s.heap:=I.ok.mod.kin.keeps I.bk
theorem Inv.lt(I:Inv X pins σ H s):X.env.locals<s.heap.objs.size:=let ⟨_,hn,_⟩ :=I.loc;hn.lt
theorem Inv.sz(I:Inv X pins σ H s):X.s₀.heap.objs.size<=s.heap.objs.size:=Nat.le_trans I.ok.above (Cq I.lt)
theorem Inv.nofs(I:Inv X pins σ H s){a:Addr}(h:s.heap.objs.size<=a):a∉X.fs:=fun hb=>by
 obtain⟨_,o,ho,_⟩ :=I.ok.funs.mem hb;exact absurd (Nat.lt_of_lt_of_le (B3 ho) (Nat.le_trans I.sz h)) (Nat.lt_irrefl _)
theorem Inv.cne(I:Inv X pins σ H s):∀x c,X.env.cells.lookup x=some c->c≠X.env.locals:=fun x c e z=>by
 obtain⟨v,o,ho,hd⟩ :=I.cell x c e;obtain⟨m,⟨o',es,ep,ho',hd',_⟩,_⟩ :=I.loc;rw[z,ho']at ho;cases ho;rw[hd']at hd;cases hd
theorem Inv.funs(I:Inv X pins σ H s):s.heap.FunFrames X.base X.outer:=by
 have all:∀(l:List Env),(∀b∈frs l,b∈X.fs)->X.s₀.heap.FunFrames X.base l->s.heap.FunFrames X.base l:=by
  intro l
  induction l with
  | nil=>intro _ _;trivial
  | cons env r ih=>
   intro hs hl;obtain⟨hk,⟨L,o,hf,hn,ho,hd⟩,hr⟩ :=hl;have hL:L∈X.fs:=hs L (by unfold frs;rw[List.filterMap_cons,hf];exact Aj);obtain⟨sl,e⟩ :=I.base.slot L o ho (I.ok.frf L hL) hL fun z=>I.ok.exfs L z hL;exact⟨hk,⟨L,_,hf,hn,e,hd⟩,ih (fun b hb=>hs b (by unfold frs;rw[List.filterMap_cons,hf];exact List.mem_cons_of_mem _ hb)) hr⟩
 exact all X.outer (fun _ hb=>hb) I.ok.funs
theorem Inv.stack(I:Inv X pins σ H s):s.heap.FunFrames X.base X.stack:=by
 rcases I.ok.stk with e|⟨e,hf⟩
 .rw[e];exact I.funs
 .rw[e];obtain⟨m,hn,_⟩ :=I.loc;refine .cons (by rw[I.ok.kind];decide) hf hn ?_ I.funs;exact Heap.get?_none_of_le (Nat.le_trans I.ok.bsz I.ok.above)
theorem Inv.stkSub(I:Inv X pins σ H s):∀b∈frs X.stack,b∈X.env.locals::X.fs:=fun b hb=>by
 rcases I.ok.stk with e|⟨e,hf⟩
 .rw[e]at hb;exact List.mem_cons_of_mem _ hb
 .rw[e]at hb;unfold frs at hb;rw[List.filterMap_cons,hf]at hb;exact hb
theorem Inv.stkFree(I:Inv X pins σ H s):∀b∈frs X.stack,H b=none:=fun b hb=>by
 rcases Ax.mp (I.stkSub b hb)with e|hb
 .rw[e];exact I.free
 .obtain⟨_,o,ho,_⟩ :=I.ok.funs.mem hb;exact I.base.free b o ho (I.ok.frf b hb) fun z=>I.ok.exfs b z hb
theorem Inv.step{g':Array GenState}{t':Nat}{d':Drawn}{ch:List Addr}(I:Inv X pins σ H s)
  (hch:∀b∈ch,(b∈X.ex\/X.s₀.heap.objs.size<=b)/\b≠X.env.locals/\(∀x c,X.env.cells.lookup x=some c->c≠b)/\∀p∈X.pn++pins,p.1≠b)
  (keep:∀b o,b≠X.env.locals->b∉X.fs->b∉ch->s.heap.get? b=some o->H b=none->h'.get? b=some o)
  (slot:∀b o,b≠X.env.locals->b∈X.fs->b∉ch->s.heap.get? b=some o->H b=none->∃sl,h'.get? b=some { o with slots:=sl }) (free:∀b o,b∉ch->s.heap.get? b=some o->H b=none->H' b=none)
  (there:∀b o,b∉ch->s.heap.get? b=some o->∃o',h'.get? b=some o')
  (tups:∀b xs,H b=some (.tup xs)->H' b=some (.tup xs)) (frzs:∀b o u,H b=some (.frz o u)->H' b=some (.frz o u)) (tbls:∀b ps,H b=some (.tbl ps)->∃more,H' b=some (.tbl (ps++more)))
  (ns:∀m,s.heap.Ns X.env.locals m->h'.Ns X.env.locals m) (hok:HOk X.prog X.w H' h') (hg:AllBare g') :
  Inv X pins σ H' { s with heap:=h',gens:=g',drawn:=d',toks:=t' }:=by
 have neL:∀b o,X.s₀.heap.get? b=some o->b≠X.env.locals:=fun b o e=>B6 (Nat.lt_of_lt_of_le (B3 e) I.ok.above)
 have neC:∀b o,X.s₀.heap.get? b=some o->b∉X.ex->b∉ch:=fun b o e hx hb=>by
  rcases(hch b hb).1 with z|z
  .exact hx z
  .exact absurd (Nat.lt_of_lt_of_le (B3 e) z) (Nat.lt_irrefl _)
 have cellK:∀x c,X.env.cells.lookup x=some c->∀v,s.heap.IsCell c v->h'.IsCell c v:=fun x c e v ⟨o,ho,hd⟩ =>by
  have nch:c∉ch:=fun z=>(hch c z).2.2.1 x c e rfl
  by_cases hc:c∈X.fs
  .obtain⟨sl,q⟩ :=slot c o (I.cne x c e) hc nch ho (I.freeC x c e);exact⟨_,q,hd⟩
  .exact⟨o,keep c o (I.cne x c e) hc nch ho (I.freeC x c e),hd⟩
 refine⟨I.ok,I.os,hg,⟨fun b o e n hb hx=>?_,fun b o e n hb hx=>?_,fun b o e n hx=>?_,fun b o e hx=>?_,fun b xs e=>tups b xs (I.base.tups b xs e),fun b o xs e=>frzs b o xs (I.base.frzs b o xs e),fun b ps e=>?_⟩,?_,fun x c e=>?_,?_,fun x c e=>?_,fun p hp=>?_,hok,I.len⟩
 .exact keep b o (neL b o e) hb (neC b o e hx) (I.base.keep b o e n hb hx) (I.base.free b o e n hx)
 .obtain⟨sl,e1⟩ :=I.base.slot b o e n hb hx;obtain⟨sl',e2⟩ :=slot b _ (neL b o e) hb (neC b o e hx) e1 (I.base.free b o e n hx);exact⟨sl',e2⟩
 .obtain⟨o',e1⟩ :=I.base.there b o e hx;exact free b o' (neC b o e hx) e1 (I.base.free b o e n hx)
 .obtain⟨o',e1⟩ :=I.base.there b o e hx;exact there b o' (neC b o e hx) e1
 .obtain⟨m1,e1⟩ :=I.base.tbls b ps e;obtain⟨m2,e2⟩ :=tbls b _ e1;exact⟨m1++m2,by rw[e2,Array.append_assoc]⟩
 .obtain⟨m,hn,hl⟩ :=I.loc;refine⟨m,ns m hn,fun i x v e1 e2 e3=>?_⟩;obtain⟨u,r,l⟩ :=hl i x v e1 e2 e3;refine⟨u,r,?_⟩
  rcases l with l|⟨k,c,e,z⟩
  .exact .inl l
  .exact .inr ⟨k,c,e,cellK x c e _ z⟩
 .obtain⟨v,z⟩ :=I.cell x c e;exact⟨v,cellK x c e v z⟩
 .obtain⟨m,⟨o,_,_,ho,_⟩,_⟩ :=I.loc;exact free _ o (fun z=>(hch _ z).2.1 rfl) ho I.free
 .obtain⟨v,o,ho,hd⟩ :=I.cell x c e;exact free c o (fun z=>(hch c z).2.2.1 x c e rfl) ho (I.freeC x c e)
 .obtain⟨e,n,ne,nf,d⟩ :=I.pin p hp;have nch:p.1∉ch:=fun z=>(hch p.1 z).2.2.2 p hp rfl;exact⟨keep p.1 p.2 ne nf nch e n,free p.1 p.2 nch e n,ne,nf,d⟩
theorem Inv.un{t':Nat}(I:Inv X pins σ H s)(u:Un X.fs [] H H' s.heap h')(hok:HOk X.prog X.w H' h'):Inv X pins σ H' { s with heap:=h',toks:=t' }:=by
 obtain⟨m,⟨o,es,ep,ho,r⟩,_⟩ :=id I.loc;obtain⟨sl,hL⟩ :=u.any ho I.free (by simp)
 exact I.step (g':=s.gens) (d':=s.drawn) (ch:=[]) (fun _ z=>nomatch z) (fun b o _ hb _ e n=>u.keep b o e n hb (by simp)) (fun b o _ hb _ e n=>u.slot b o e n hb (by simp)) (fun b o _ e n=>u.free b o e n (by simp)) (fun b o _ e=>u.there b o e (by simp)) u.tups u.frzs u.tbls (fun m' hm=>by
  obtain⟨o',es',ep',ho',r'⟩ :=hm;rw[ho]at ho';cases ho'
  exact⟨_,es',ep',hL,r'⟩) hok I.bare
theorem Inv.call{g':Array GenState}{t':Nat}{d':Drawn}{ch:List Addr}(I:Inv X pins σ H s)(u:Un (frs X.stack) ch H H' s.heap h')(hok:HOk X.prog X.w H' h')(hg:AllBare g')
  (hch:∀b∈ch,(b∈X.ex\/X.s₀.heap.objs.size<=b)/\b≠X.env.locals/\(∀x c,X.env.cells.lookup x=some c->c≠b)/\∀p∈X.pn++pins,p.1≠b) :
  Inv X pins σ H' { s with heap:=h',gens:=g',drawn:=d',toks:=t' }:=by
 obtain⟨m,⟨o,es,ep,ho,r⟩,_⟩ :=id I.loc;obtain⟨sl,hL⟩ :=u.any ho I.free fun z=>(hch _ z).2.1 rfl
 exact I.step (ch:=ch) hch (fun b o hL hb hc e n=>u.keep b o e n (fun z=>(Ax.mp (I.stkSub b z)).elim hL hb) hc) (fun b o _ _ hc e n=>u.any e n hc) (fun b o hc e n=>u.free b o e n hc) (fun b o hc e=>u.there b o e hc) u.tups u.frzs u.tbls (fun m' hm=>by
  obtain⟨o',es',ep',ho',r'⟩ :=hm;rw[ho]at ho';cases ho'
  exact⟨_,es',ep',hL,r'⟩) hok hg
theorem Inv.turned{t':Nat}{it:Addr}(I:Inv X pins σ H s)(k:∀b o,b≠it->s.heap.get? b=some o->h'.get? b=some o)(hn:H it=none)(hL:it≠X.env.locals)
  (h1:it∈X.ex\/X.s₀.heap.objs.size<=it) (h2:∀x c,X.env.cells.lookup x=some c->c≠it) (h3:∀p∈X.pn++pins,p.1≠it):Inv X pins σ H { s with heap:=h',toks:=t' }:=by
 have nit:∀b u,H b=some u->b≠it:=fun b u e z=>by rw[z,hn]at e;cases e
 refine I.step (g':=s.gens) (d':=s.drawn) (ch:=[it]) (fun b hb=>?_) (fun b o _ _ hc e _=>k b o (fun z=>hc (by simp[z])) e) (fun b o _ _ hc e _=>⟨o.slots,k b o (fun z=>hc (by simp[z])) e⟩) (fun _ _ _ _ n=>n)
  (fun b o hc e=>⟨o,k b o (fun z=>hc (by simp[z])) e⟩) (fun _ _ e=>e) (fun _ _ _ e=>e) (fun b ps e=>⟨#[],by rw[e];simp⟩) (fun m hm=>?_) (fun b u e=>?_) I.bare
 .have e:b=it:=by simpa using hb
  subst e;exact⟨h1,hL,h2,h3⟩
 .obtain⟨o,es,ep,ho,r⟩ :=hm;exact⟨o,es,ep,k _ o (Ne.symm hL) ho,r⟩
 .refine(I.hok b u e).stay (fun c v hc q=>k c v ?_ q) (fun _ q=>q) fun _ _ q=>q
  rcases hc with z|z
  .rw[z];exact nit b u e
  .exact nit c _ z
theorem Inv.tok(I:Inv X pins σ H s)(t:Nat):Inv X pins σ H { s with toks:=t }:=I.un (h':=s.heap) (t':=t) Un.refl I.hok
theorem Inv.kept{t':Nat}(I:Inv X pins σ H s)(k:∀b u,s.heap.get? b=some u->h'.get? b=some u):Inv X pins σ H { s with heap:=h',toks:=t' }:=I.un (Un.kept k) (I.hok.kept k)
theorem Inv.laid{a:Addr}{o:HO}{t':Nat}(I:Inv X pins σ H s)(k:∀b u,s.heap.get? b=some u->h'.get? b=some u)(hp:s.heap.objs.size<=a)(new:Ym X.prog X.w (upd H a o) h' a o) :
  Inv X pins σ (upd H a o) { s with heap:=h',toks:=t' }:=I.un (Un.laid k hp (I.hok.fresh hp)) (I.hok.laid k hp new)
theorem Inv.write{x e:Addr}{o:HO}{t':Nat}(I:Inv X pins σ H s)(mu:Mut (H x))(he:e=x\/H e=some (.own x))(k:∀b u,b≠e->s.heap.get? b=some u->h'.get? b=some u)(heo:∃u,h'.get? e=some u)
  (new:Ym X.prog X.w (upd H x o) h' x o):Inv X pins σ (upd H x o) { s with heap:=h',toks:=t' }:=I.un (Un.write mu he k heo) (I.hok.write mu he k heo new)
theorem Inv.pins_of{pins':PL}(I:Inv X pins σ H s)(h:∀p∈pins',s.heap.get? p.1=some p.2/\H p.1=none/\p.1≠X.env.locals/\p.1∉X.fs/\∀v,p.2.data≠.cell v):Inv X pins' σ H s:=
 ⟨I.ok,I.os,I.bare,I.base,I.loc,I.cell,I.free,I.freeC,fun p hp=>(B5.mp hp).elim (fun z=>I.pin p (List.mem_append_left _ z)) (h p),I.hok,I.len⟩
theorem JjL{N:List Str}(hN:N.Nodup){i j:Nat}{x:Str}(a:N[i]?=some x)(b:N[j]?=some x):i=j:=by
 obtain⟨h1,e1⟩ :=A6.mp a;obtain⟨h2,e2⟩ :=A6.mp b;exact(List.getElem_inj hN).mp (e1.trans e2.symm)
theorem JmW{M:Model}{A:Around}{E:VS}{i:Nat}{x:Str}{v:V}{u:Value}{Q:Unit->Shared->Prop}(I:Inv X pins σ H s)(hN:X.N.Nodup)(hi:X.N[i]?=some x)(hx:Loc X.env.scope x)(r:Jad v u)
  (h:∀s',Inv X pins (σ.set i (some v)) H s'->(∃a,Heap.SameBut a s.heap s'.heap/\(a=X.env.locals\/X.env.cells.lookup x=some a))->Q () s') (hf:X.fn x=true\/X.env.scope.names.lookup x=some .local:=by first|exact .inl rfl|exact .inr rfl|assumption):wpAny M A (storeName X.env x u) Q E s:=by
 obtain⟨m,hn,hl⟩ :=id I.loc
 have hcls:(X.env.scope.kind==.class||(X.env.scope.kind==.module&&X.env.locals != X.env.globals))=false:=by rw[I.ok.kind];rfl
 have hiσ:i<σ.length:=by rw[I.len];exact(A6.mp hi).1
 have cne:=I.cne
 have tracked:∀{a:Addr}{h':Heap},(∃o,s.heap.get? a=some o/\H a=none)->Heap.SameBut a s.heap h'->HOk X.prog X.w H h':=fun{a h'} ha hs b ob e=>by
  obtain⟨_,_,hfree⟩ :=ha;refine(I.hok b ob e).stay (fun c w' hc q=>(hs.2 c ?_).trans q) (fun _ q=>q) fun _ _ q=>q;rintro rfl
  rcases hc with rfl|hc
  .rw[hfree]at e;cases e
  .rw[hfree]at hc;cases hc
 rcases hx with hk|hk
 .refine wpAny_storeName_local hk hn (fun h' hn' hs=>?_) hcls;obtain⟨oL,_,_,hoL,_⟩ :=id hn;refine h _ ⟨I.ok,I.os,I.bare,⟨fun b o e n hb hx=>?_,fun b o e n hb hx=>?_,I.base.free,fun b o e hx=>?_,I.base.tups,I.base.frzs,I.base.tbls⟩,⟨_,hn',fun j y v' e1 e2 e3=>?_⟩,fun y c e=>?_,I.free,I.freeC,fun p hp=>?_,tracked ⟨oL,hoL,I.free⟩ hs,by simpa using I.len⟩ ⟨_,hs,.inl rfl⟩
  .exact(hs.2 b (B6 (Nat.lt_of_lt_of_le (B3 e) I.ok.above))).trans (I.base.keep b o e n hb hx)
  .obtain⟨sl,e1⟩ :=I.base.slot b o e n hb hx;exact⟨sl,(hs.2 b (B6 (Nat.lt_of_lt_of_le (B3 e) I.ok.above))).trans e1⟩
  .obtain⟨o',e1⟩ :=I.base.there b o e hx;exact⟨o',(hs.2 b (B6 (Nat.lt_of_lt_of_le (B3 e) I.ok.above))).trans e1⟩
  .by_cases hj:j=i
   .subst hj;rw[hi]at e1;cases e1;rw[List.getElem?_set_self hiσ]at e2;cases e2;exact⟨u,r,.inl ⟨hk,by simp⟩⟩
   .rw[List.getElem?_set_ne (Ne.symm hj)]at e2;obtain⟨u',r',q⟩ :=hl j y v' e1 e2 e3;refine⟨u',r',?_⟩
    rcases q with⟨k,e⟩|⟨k,c,e,z⟩
    .refine .inl ⟨k,?_⟩;have:y≠x:=fun e=>hj (JjL hN e1 (e ▸ hi));simp[this,e]
    .exact .inr ⟨k,c,e,z.sameBut hs (cne y c e)⟩
  .obtain⟨w',z⟩ :=I.cell y c e;exact⟨w',z.sameBut hs (cne y c e)⟩
  .obtain⟨e,n,ne,nf,d⟩ :=I.pin p hp;exact⟨(hs.2 p.1 ne).trans e,n,ne,nf,d⟩
 .have hfn:X.fn x=true:=by
   rcases hf with z|z
   .exact z
   .rw[z]at hk;cases hk
  obtain⟨c,hc⟩ :=I.ok.has x (.inl hk);obtain⟨w',z⟩ :=I.cell x c hc;refine wpAny_storeName_cell I.ok.kind hk hc z (fun h' hc' hs=>?_);obtain⟨oc,hoc,hocd⟩ :=id z;refine h { s with heap:=h' } ⟨I.ok,I.os,I.bare,⟨fun b o e n hb hx=>?_,fun b o e n hb hx=>?_,I.base.free,fun b o e hx=>?_,I.base.tups,I.base.frzs,I.base.tbls⟩,⟨m,hn.sameBut hs (Ne.symm (cne x c hc)),fun j y v' e1 e2 e3=>?_⟩,fun y c' e=>?_,I.free,I.freeC,fun p hp=>?_,tracked ⟨oc,hoc,I.freeC x c hc⟩ hs,by simpa using I.len⟩ ⟨c,hs,.inr hc⟩
  .exact(hs.2 b (B6 (Nat.lt_of_lt_of_le (B3 e) (I.ok.cab x c hfn hc)))).trans (I.base.keep b o e n hb hx)
  .obtain⟨sl,e1⟩ :=I.base.slot b o e n hb hx;exact⟨sl,(hs.2 b (B6 (Nat.lt_of_lt_of_le (B3 e) (I.ok.cab x c hfn hc)))).trans e1⟩
  .obtain⟨o',e1⟩ :=I.base.there b o e hx;exact⟨o',(hs.2 b (B6 (Nat.lt_of_lt_of_le (B3 e) (I.ok.cab x c hfn hc)))).trans e1⟩
  .by_cases hj:j=i
   .subst hj;rw[hi]at e1;cases e1;rw[List.getElem?_set_self hiσ]at e2;cases e2;exact⟨u,r,.inr ⟨.inl hk,c,hc,hc'⟩⟩
   .rw[List.getElem?_set_ne (Ne.symm hj)]at e2;obtain⟨u',r',q⟩ :=hl j y v' e1 e2 e3;refine⟨u',r',?_⟩
    rcases q with q|⟨k,c',e,z'⟩
    .exact .inl q
    .refine .inr ⟨k,c',e,z'.sameBut hs ?_⟩;rintro rfl;exact hj (JjL hN e1 (I.ok.inj _ _ _ e hc ▸ hi))
  .by_cases hcc:c'=c
   .subst hcc;exact⟨_,hc'⟩
   .obtain⟨w2,z2⟩ :=I.cell y c' e;exact⟨w2,z2.sameBut hs hcc⟩
  .obtain⟨e,n,ne,nf,d⟩ :=I.pin p hp;refine⟨(hs.2 p.1 ?_).trans e,n,ne,nf,d⟩;intro q;rw[q,hoc]at e;have q':oc=p.2:=Option.some.inj e;exact d w' (by rw[<- q'];exact hocd)
theorem Jjx{M:Model}{A:Around}{E:VS}{i:Nat}{x:Str}{v:V}{u:Value}{Q:Unit->Shared->Prop}(I:Inv X pins σ H s)(hN:X.N.Nodup)(hi:X.N[i]?=some x)(hx:Loc X.env.scope x)(r:Jad v u)
  (h:∀s',Inv X pins (σ.set i (some v)) H s'->Q () s') (hf:X.fn x=true\/X.env.scope.names.lookup x=some .local:=by first|exact .inl rfl|exact .inr rfl|assumption):wpAny M A (storeName X.env x u) Q E s:=
 JmW I hN hi hx r (fun s' I' _=>h s' I') hf
theorem Inv.call'{s':Shared}{ch:List Addr}(I:Inv X pins σ H s)(ho:s'.os=s.os)(u:Un (frs X.stack) ch H H' s.heap s'.heap)(hok:HOk X.prog X.w H' s'.heap)(hg:AllBare s'.gens)
  (hch:∀b∈ch,(b∈X.ex\/X.s₀.heap.objs.size<=b)/\b≠X.env.locals/\(∀x c,X.env.cells.lookup x=some c->c≠b)/\∀p∈X.pn++pins,p.1≠b):Inv X pins σ H' s':=by
 obtain⟨h',g',d',t',o'⟩ :=s';have e:o'=s.os:=ho;subst e;exact I.call (g':=g') (t':=t') (d':=d') u hok hg hch
end
noncomputable abbrev XK:=Value->Option Addr->Hp->Prop
noncomputable abbrev St:=List (Option V)
noncomputable abbrev VK:=V->Hp->Prop
noncomputable abbrev TE:=St->Hp->VK->Prop
noncomputable abbrev TT:=St->Hp->(Bool->Hp->Prop)->Prop
noncomputable abbrev TA:=St->Hp->(List V->Hp->Prop)->Prop
structure Jnf where
 nx:St->Hp->Prop
 rt:VK
 bk:St->Hp->Prop:=fun _ _=>False
 ct:St->Hp->Prop:=fun _ _=>False
noncomputable abbrev TS:=Jnf->St->Hp->Prop
def EP(X:Cx)(pins:PL)(σ:St)(Q:VK)(u:Value)(s':Shared):Prop:=∃v H',Inv X pins σ H' s'/\Jad v u/\Q v H'
def TP(X:Cx)(pins:PL)(σ:St)(Q:Bool->Hp->Prop)(b:Bool)(s':Shared):Prop:=∃H',Inv X pins σ H' s'/\Q b H'
def AP(X:Cx)(pins:PL)(σ:St)(Q:List V->Hp->Prop)(us:List Value)(s':Shared):Prop:=∃vs H',Inv X pins σ H' s'/\YZ vs us/\Q vs H'
def SP(X:Cx)(pins:PL)(D:Jnf)(f:Flow)(s':Shared):Prop:=
 match f with
 | .next=>∃σ' H',Inv X pins σ' H' s'/\D.nx σ' H'
 | .brk=>∃σ' H',Inv X pins σ' H' s'/\D.bk σ' H'
 | .cont=>∃σ' H',Inv X pins σ' H' s'/\D.ct σ' H'
 | .ret u=>∃v σ' H',Inv X pins σ' H' s'/\Jad v u/\D.rt v H'
def PE(X:Cx)(e:Expr)(t:TE):Prop:=
 ∀(pins:PL) (s:Shared) (σ:St) (H:Hp) (Q:VK),Inv X pins σ H s->t σ H Q->wpAny (model X.prog X.w) X.A (eval e X.env) (EP X pins σ Q) X.xe s
def PT(X:Cx)(e:Expr)(t:TT):Prop:=
 ∀(pins:PL) (s:Shared) (σ:St) (H:Hp) (Q:Bool->Hp->Prop),Inv X pins σ H s->t σ H Q->wpAny (model X.prog X.w) X.A (isTrue e X.env (eval e X.env)) (TP X pins σ Q) X.xe s
def PW(X:Cx)(e:Expr)(t:TT):Prop:=
 ∀(whole:Sem Value) (pins:PL) (s:Shared) (σ:St) (H:Hp) (Q:Bool->Hp->Prop),Inv X pins σ H s->t σ H Q->wpAny (model X.prog X.w) X.A (isTrue e X.env whole) (TP X pins σ Q) X.xe s
theorem PW.pt{X:Cx}{e:Expr}{t:TT}(h:PW X e t):PT X e t:=h _
def PA(X:Cx)(es:List Expr)(t:TA):Prop:=
 ∀(pos:Pos) (pins:PL) (s:Shared) (σ:St) (H:Hp) (Q:List V->Hp->Prop),Inv X pins σ H s->t σ H Q->wpAny (model X.prog X.w) X.A (spliced (backTo pos (starEach es X.env))) (AP X pins σ Q) X.xe s
def PS(X:Cx)(st:Stmt)(t:TS):Prop:=
 ∀(pins:PL) (s:Shared) (σ:St) (H:Hp) (D:Jnf),Inv X pins σ H s->t D σ H->wpAny (model X.prog X.w) X.A (exec st X.env) (SP X pins D) X.xe s
def PSs(X:Cx)(st:List Stmt)(t:TS):Prop:=
 ∀(pins:PL) (s:Shared) (σ:St) (H:Hp) (D:Jnf),Inv X pins σ H s->t D σ H->wpAny (model X.prog X.w) X.A (execs st X.env) (SP X pins D) X.xe s
theorem thn{α:Type}{t:Sem α}{Q Q':α->Shared->Prop}{M:Model}{A:Around}{E:VS}{s:Shared}(h:wpAny M A t Q E s)(hQ:∀a s,Q a s->Q' a s):wpAny M A t Q' E s:=wpAny_mono h hQ fun _ _ x=>x
end L2
namespace L2
open PySem PySem.Spec PyProof.Rows
section
variable {X:Cx}
noncomputable def JrV(i:Nat):TE:=fun σ H Q=>∃v,σ[i]?=some (some v)/\Q v H
noncomputable def tC(v:V):TE:=fun _ H Q=>Q v H
theorem JqR{i:Nat}{x:Str}{pos:Pos}(hN:X.N[i]?=some x)(hv:Vis X.env.scope x)(hd:(x==("__debug__" : Str))=false:=by decide)(hcd:(x==("__classdict__" : Str))=false:=by decide):PE X (.Name x pos) (JrV i):=by
 intro pins s σ H Q I h;obtain⟨v,e,h⟩ :=h;obtain⟨m,hn,hl⟩ :=I.loc;obtain⟨u,r,l⟩ :=hl i x v hN e hv;have fin:EP X pins σ Q u s:=⟨v,H,I,r,h⟩
 rcases l with⟨hk,hm⟩|⟨hk,c,hc,hcell⟩
 .exact wpAny_Name (wpAny_loadName_local I.ok.kind hk hn hm fin) hd
 .rcases hk with hk|hk
  .exact wpAny_Name (wpAny_loadName_cell I.ok.kind hk hc hcell fin) hd
  .exact wpAny_Name (wpAny_loadName_free I.ok.kind hk hc hcell fin hcd) hd
theorem Jb{i j pos}:PE X (.Constant (.int i) j pos) (tC (.int i)):=fun _ _ _ H _ I h=>wpAny_Constant_int ⟨.int i,H,I.tok _,⟨_,rfl⟩,h⟩
theorem Jbg{b j pos}:PE X (.Constant (.bool b) j pos) (tC (.bl b)):=fun _ _ _ H _ I h=>Constant_bool ⟨.bl b,H,I,rfl,h⟩
theorem JcD{j pos}:PE X (.Constant .none j pos) (tC .non):=fun _ _ _ H _ I h=>Constant_none ⟨.non,H,I,rfl,h⟩
theorem Jt{x j pos}:PE X (.Constant (.str x) j pos) (tC (.str x)):=fun _ _ _ H _ I h=>Calls.Constant_str ⟨.str x,H,I.tok _,⟨_,rfl⟩,h⟩
def Gl(X:Cx)(x:Str):Prop:=X.env.kindOf x=some .globalImplicit
theorem Jfz{E:VS}{pins:PL}{s:Shared}{σ:St}{H:Hp}{x:Str}{u:Value}{pos:Pos}{Q:VS}(I:Inv X pins σ H s)(hg:Gl X x)(hm:X.mg x=some u)(h:Q u s)
  (hd:(x==("__debug__" : Str))=false:=by decide):wpAny (model X.prog X.w) X.A (eval (.Name x pos) X.env) Q E s:=
 Calls.Name_function_global I.ok.kind hg (Calls.loadGlobal_global (by rw[I.ok.glob];exact I.mod.glob.keeps I.bk) hm h) hd
theorem Jgb{E:VS}{pins:PL}{s:Shared}{σ:St}{H:Hp}{x:Str}{u:Value}{pos:Pos}{Q:VS}(I:Inv X pins σ H s)(hg:Gl X x)(hm:X.mg x=none)(hv:bootBuiltins x=some u)(h:Q u s)
  (hn:x≠"__name__":=by decide) (hd:(x==("__debug__" : Str))=false:=by decide):wpAny (model X.prog X.w) X.A (eval (.Name x pos) X.env) Q E s:=by
 obtain⟨mb,h1,h2⟩ :=I.mod.blt;exact Calls.Name_function_global I.ok.kind hg (Calls.loadGlobal_builtin (by rw[I.ok.glob];exact I.mod.glob.keeps I.bk) hm (by rw[I.ok.blt];exact h1.keeps I.bk) ((h2 x hn).trans hv) h) hd
theorem Jpf{x:Str}{v:V}{u:Value}{pos:Pos}(hg:Gl X x)(hm:X.mg x=some u)(r:Jad v u)(hd:(x==("__debug__" : Str))=false:=by decide):PE X (.Name x pos) (tC v):=
 fun _ _ _ H _ I h=>Jfz I hg hm ⟨v,H,I,r,h⟩ hd
theorem Y0{x:Str}{v:V}{u:Value}{pos:Pos}(hg:Gl X x)(hm:X.mg x=none)(hv:bootBuiltins x=some u)(r:Jad v u)(hn:x≠"__name__":=by decide)(hd:(x==("__debug__" : Str))=false:=by decide):PE X (.Name x pos) (tC v):=
 fun _ _ _ H _ I h=>Jgb I hg hm hv ⟨v,H,I,r,h⟩ hn hd
variable {a b:Expr} {ta tb:TE} {pos:Pos}
def PC(X:Cx)(op:CmpOp)(a b:Expr)(t:TE):Prop:=
 ∀(pins:PL) (s:Shared) (σ:St) (H:Hp) (Q:VK),Inv X pins σ H s->t σ H Q->
  wpAny (model X.prog X.w) X.A (eval a X.env) (fun v s₁=>wpAny (model X.prog X.w) X.A (eval b X.env) (fun u s₂=>wpAny (model X.prog X.w) X.A (compareOp op v u) (EP X pins σ Q) X.xe s₂) X.xe s₁) X.xe s
theorem Jn0(b:Expr){op:CmpOp}(h:op≠.In)(h2:op≠.NotIn):behindInMarks op b=false:=by
 have e1:(op==CmpOp.In)=false:=by cases op<;>first|rfl|exact absurd rfl h
 have e2:(op==CmpOp.NotIn)=false:=by cases op<;>first|rfl|exact absurd rfl h2
 cases b<;>simp[behindInMarks,e1,e2]
noncomputable def JsF(ta:TE):TE:=fun σ H Q=>ta σ H fun x H1=>Q (.bl (decide (x=.non))) H1
noncomputable def JrF(ta:TE):TE:=fun σ H Q=>ta σ H fun x H1=>Q (.bl (!decide (x=.non))) H1
theorem Jad.none_iff{x:V}{v:Value}(r:Jad x v):(v==Value.none)=decide (x=.non):=by
 cases x with
 | non=>cases r;rfl
 | bl _=>cases r;rfl
 | int _=>obtain⟨t,rfl⟩ :=r;rfl
 | str _=>obtain⟨t,rfl⟩ :=r;rfl
 | byt _=>obtain⟨t,rfl⟩ :=r;rfl
 | flt _=>obtain⟨t,rfl⟩ :=r;rfl
 | ref _=>cases r;rfl
 | ty _=>cases r;rfl
theorem JcT{j pos'}(ha:PE X a ta):PC X .Is a (.Constant .none j pos') (JsF ta):=by
 intro pins s σ H Q I h;refine thn (ha pins s σ H _ I h) fun v s1 hzz=>?_;obtain⟨x,H1,I1,r1,q1⟩ :=hzz;exact Constant_none (is_none_gen ⟨.bl _,H1,I1,by rw[r1.none_iff];rfl,q1⟩)
theorem JcN{j pos'}(ha:PE X a ta):PC X .IsNot a (.Constant .none j pos') (JrF ta):=by
 intro pins s σ H Q I h;refine thn (ha pins s σ H _ I h) fun v s1 hzz=>?_;obtain⟨x,H1,I1,r1,q1⟩ :=hzz;exact Constant_none (isnot_none_gen ⟨.bl _,H1,I1,by rw[r1.none_iff];rfl,q1⟩)
inductive BlI(x:V)(H:Hp)(Q:Bool->Hp->Prop):Prop
 | mk (c:Bool) (e:x=.bl c) (q:Q c H):BlI x H Q
noncomputable def tB(t:TE):TT:=fun σ H Q=>t σ H fun x H1=>BlI x H1 Q
theorem JaN{op:CmpOp}{t:TE}(h:PC X op a b t)(h1:behindInMarks op b=false:=by first|exact Jn0 _ (by decide) (by decide)|rfl):PT X (.Compare a [op] [b] pos) (tB t):=by
 intro pins s σ H Q I hw;refine wpAny_isTrue_Compare1 (thn (h pins s σ H _ I hw) fun v s1 h1=>thn h1 fun u s2 h2=>thn h2 fun c s3 hzz=>?_) h1;obtain⟨x,H1,I1,r1,q1⟩ :=hzz;obtain⟨d,rfl,q⟩ :=q1;cases r1;exact wpAny_truthy_bool ⟨H1,I1,q⟩
theorem JaI{e:Expr}{t:TE}(h:PE X e t)(he:∀whole,isTrue e X.env whole=(do let v <- whole;standAt e.pos;holding [v] (truthy v)):=by intro _;rfl):PT X e (tB t):=by
 intro pins s σ H Q I hw;refine isTrue_plain (thn (h pins s σ H _ I hw) fun v s1 hzz=>?_) (he _);obtain⟨x,H1,I1,r1,q1⟩ :=hzz;obtain⟨d,rfl,q⟩ :=q1;cases r1;exact wpAny_truthy_bool ⟨H1,I1,q⟩
variable {tA tB':TT} {rest:List Expr}
noncomputable def JsD(t u:TT):TT:=fun σ H Q=>t σ H fun c H1=>if c=true then u σ H1 Q else Q false H1
noncomputable def tOr(t u:TT):TT:=fun σ H Q=>t σ H fun c H1=>if c=true then Q true H1 else u σ H1 Q
noncomputable def JsK(t:TT):TT:=fun σ H Q=>t σ H fun c H1=>Q (!c) H1
theorem Jbe(ha:PT X a tA):PW X (.BoolOp .And [a] pos) tA:=by
 intro wh pins s σ H Q I h;refine isTrue_and (thn (ha pins s σ H Q I h) fun c s1 e=>?_)
 cases c with
 | true=>exact isTrue_and_nil e
 | false=>exact e
theorem JaX(ha:PT X a tA):PW X (.BoolOp .Or [a] pos) tA:=by
 intro wh pins s σ H Q I h;refine isTrue_or (thn (ha pins s σ H Q I h) fun c s1 e=>?_)
 cases c with
 | false=>exact isTrue_or_nil e
 | true=>exact e
theorem Jcu(ha:PT X a tA)(hb:PW X (.BoolOp .And (b::rest) pos) tB'):PW X (.BoolOp .And (a::b::rest) pos) (JsD tA tB'):=by
 intro wh pins s σ H Q I h;refine isTrue_and (thn (ha pins s σ H _ I h) fun c s1 hzz=>?_);obtain⟨H1,I1,q1⟩ :=hzz
 cases c with
 | true=>exact hb wh pins s1 σ H1 Q I1 q1
 | false=>exact⟨H1,I1,q1⟩
theorem JbI(ha:PT X a tA)(hb:PW X (.BoolOp .Or (b::rest) pos) tB'):PW X (.BoolOp .Or (a::b::rest) pos) (tOr tA tB'):=by
 intro wh pins s σ H Q I h;refine isTrue_or (thn (ha pins s σ H _ I h) fun c s1 hzz=>?_);obtain⟨H1,I1,q1⟩ :=hzz
 cases c with
 | true=>exact⟨H1,I1,q1⟩
 | false=>exact hb wh pins s1 σ H1 Q I1 q1
theorem JaD(ha:PT X a tA):PT X (.UnaryOp .Not a pos) (JsK tA):=by
 intro pins s σ H Q I h;exact isTrue_not (ha pins s σ H (fun c H1=>Q (!c) H1) I h)
noncomputable def JrN(ta tb:TE):TE:=fun σ H Q=>ta σ H fun x H1=>∃c,x=.bl c/\if c=true then tb σ H1 Q else Q (.bl false) H1
noncomputable def Jr4(ta:TE):TE:=fun σ H Q=>ta σ H fun x H1=>∃c,x=.bl c/\Q (.bl (!c)) H1
theorem Jom{op}{t:TE}(h:PE X a t):PE X (.BoolOp op [a] pos) t:=fun pins s σ H Q I hw=>BoolOp_one (h pins s σ H Q I hw)
theorem JoL(ha:PE X a ta)(hb:PE X (.BoolOp .And (b::rest) pos) tb):PE X (.BoolOp .And (a::b::rest) pos) (JrN ta tb):=by
 intro pins s σ H Q I h;refine BoolOp_and (thn (ha pins s σ H _ I h) fun v s1 hzz=>?_);obtain⟨x,H1,I1,r1,q1⟩ :=hzz;obtain⟨c,rfl,q1⟩ :=q1;cases r1;refine wpAny_truthy_bool ?_
 cases c with
 | true=>exact hb pins s1 σ H1 Q I1 q1
 | false=>exact⟨.bl false,H1,I1,rfl,q1⟩
theorem JqB(ha:PE X a ta):PE X (.UnaryOp .Not a pos) (Jr4 ta):=by
 intro pins s σ H Q I h;refine UnaryOp_ (thn (ha pins s σ H _ I h) fun v s1 hzz=>?_);obtain⟨x,H1,I1,r1,q1⟩ :=hzz;obtain⟨c,rfl,q1⟩ :=q1;cases r1;exact not_of (wpAny_truthy_bool ⟨.bl (!c),H1,I1,rfl,q1⟩)
end
end L2
namespace L2
open PySem PySem.Spec PyProof.Rows
def SqL(K:WF)(H:Hp)(a:Addr)(xs:List V):Prop:=
 Rd H a (.lst xs)\/
  ∃(o:Obj)(its:Array Value)(n:Nat),K.lookup a=some o/\o.cls=.type "list"/\o.dict=none/\o.data=.seq its n/\its.size<=B2/\YZ xs its.toList
def SqT(K:WF)(H:Hp)(a:Addr)(xs:List V):Prop:=
 Rd H a (.tup xs)\/
  ∃(o:Obj)(its:Array Value)(n:Nat),K.lookup a=some o/\o.cls=.type "tuple"/\o.data=.seq its n/\its.size<=B2/\YZ xs its.toList
noncomputable def Jsu:Value->Option V
 | .none=>some .non
 | .bool b=>some (.bl b)
 | .int i _=>some (.int i)
 | .str x _=>some (.str x)
 | .bytes b _=>some (.byt b)
 | .float b _=>some (.flt b)
 | .ref a=>some (.ref a)
 | .type n=>some (.ty n)
 | _=>none
theorem Jad.abs{x:V}{u:Value}(r:Jad x u):Jsu u=some x:=by
 cases x with
 | non=>cases r;rfl
 | bl _=>cases r;rfl
 | int _=>obtain⟨t,rfl⟩ :=r;rfl
 | str _=>obtain⟨t,rfl⟩ :=r;rfl
 | byt _=>obtain⟨t,rfl⟩ :=r;rfl
 | flt _=>obtain⟨t,rfl⟩ :=r;rfl
 | ref _=>cases r;rfl
 | ty _=>cases r;rfl
theorem Jad.inj{x y:V}{u:Value}(r:Jad x u)(q:Jad y u):x=y:=Option.some.inj (r.abs.symm.trans q.abs)
theorem YZ.inj:∀{xs ys:List V}{us:List Value},YZ xs us->YZ ys us->xs=ys
 | _,_,_,.nil,.nil=>rfl
 | _,_,_,.cons r t,.cons r' t'=>by rw[r.inj r',YZ.inj t t']
section
variable {X:Cx} {pins:PL} {σ:St} {H:Hp} {s:Shared} {a:Addr} {xs ys:List V}
theorem SqL.of{K:WF}(h:H a=some (.lst xs)):SqL K H a xs:=.inl (.inl h)
theorem SqT.of{K:WF}(h:H a=some (.tup xs)):SqT K H a xs:=.inl (.inl h)
theorem Inv.list(I:Inv X pins σ H s)(h:SqL X.K H a xs):∃its:List Value,YZ xs its/\PlainL s.heap a its.toArray/\xs.length<=B2:=by
 rcases h with h|⟨o,its,n,hk,hc,hd,hs,hz,r⟩
 .obtain⟨z,its,n,r,e⟩ :=h.ok I.hok;exact⟨its,r,⟨_,n,e,rfl,rfl,rfl⟩,z⟩
 .refine⟨its.toList,r,⟨o,n,I.kIn a o hk,hc,hd,by simpa using hs⟩,?_⟩;have e:=r.length;simp only[Array.length_toList]at e;omega
theorem Inv.tuple(I:Inv X pins σ H s)(h:SqT X.K H a xs):∃its:List Value,YZ xs its/\IsTup s.heap a its.toArray/\xs.length<=B2:=by
 rcases h with h|⟨o,its,n,hk,hc,hs,hz,r⟩
 .obtain⟨z,its,r,p⟩ :=h.ok I.hok;exact⟨its,r,p,z⟩
 .refine⟨its.toList,r,⟨o,I.kIn a o hk,hc,n,by simpa using hs⟩,?_⟩;have e:=r.length;simp only[Array.length_toList]at e;omega
theorem Inv.list_inj(I:Inv X pins σ H s)(h:SqL X.K H a xs)(h':SqL X.K H a ys):xs=ys:=by
 obtain⟨its,r,⟨o,n,e,_,_,d⟩,_⟩ :=I.list h;obtain⟨its',r',⟨o',n',e',_,_,d'⟩,_⟩ :=I.list h';rw[e]at e';cases e';rw[d]at d'
 injection d' with d1 _
 have:its=its':=by simpa using congrArg Array.toList d1
 subst this;exact r.inj r'
theorem Inv.tuple_inj(I:Inv X pins σ H s)(h:SqT X.K H a xs)(h':SqT X.K H a ys):xs=ys:=by
 obtain⟨its,r,⟨o,e,_,n,d⟩,_⟩ :=I.tuple h;obtain⟨its',r',⟨o',e',_,n',d'⟩,_⟩ :=I.tuple h';rw[e]at e';cases e';rw[d]at d'
 injection d' with d1 _
 have:its=its':=by simpa using congrArg Array.toList d1
 subst this;exact r.inj r'
end
noncomputable abbrev Cx.wish(X:Cx)(E:VS):Cx:={ X with xe:=E }
noncomputable abbrev Cx.nox(X:Cx):Cx:=X.wish fun _ _=>False
theorem Cx.Ok.wish{X:Cx}(ok:X.Ok)(E:VS):(X.wish E).Ok:=
 ⟨ok.mod,ok.kind,ok.glob,ok.blt,ok.above,ok.inj,ok.has,ok.cab,ok.hd,ok.frames,ok.stk,ok.exf,ok.bs,ok.bsz,ok.noex,ok.exfs,ok.funs,ok.frf⟩
theorem Cx.Ok.unwish{X:Cx}{E:VS}(ok:(X.wish E).Ok):X.Ok:=
 ⟨ok.mod,ok.kind,ok.glob,ok.blt,ok.above,ok.inj,ok.has,ok.cab,ok.hd,ok.frames,ok.stk,ok.exf,ok.bs,ok.bsz,ok.noex,ok.exfs,ok.funs,ok.frf⟩
section
variable {X:Cx} {pins:PL} {σ:St} {H:Hp} {s:Shared} {E:Value→Shared→Prop}
theorem Inv.wish(I:Inv X pins σ H s)(E:VS):Inv (X.wish E) pins σ H s:=⟨I.ok.wish E,I.os,I.bare,I.base,I.loc,I.cell,I.free,I.freeC,I.pin,I.hok,I.len⟩
theorem Inv.unwish(I:Inv (X.wish E) pins σ H s):Inv X pins σ H s:=⟨I.ok.unwish,I.os,I.bare,I.base,I.loc,I.cell,I.free,I.freeC,I.pin,I.hok,I.len⟩
theorem SP.unwish{D:Jnf}{f:Flow}{s':Shared}(h:SP (X.wish E) pins D f s'):SP X pins D f s':=by
 cases f with
 | next=>obtain⟨σ',H',I,q⟩ :=h;exact⟨σ',H',I.unwish,q⟩
 | brk=>obtain⟨σ',H',I,q⟩ :=h;exact⟨σ',H',I.unwish,q⟩
 | cont=>obtain⟨σ',H',I,q⟩ :=h;exact⟨σ',H',I.unwish,q⟩
 | ret u=>obtain⟨v,σ',H',I,r,q⟩ :=h;exact⟨v,σ',H',I.unwish,r,q⟩
theorem PSs.nox{st:List Stmt}{t:TS}(h:PSs X.nox st t):PSs X st t:=fun pins s σ H D I hw=>
 wpAny_mono (h pins s σ H D (I.wish _) hw) (fun _ _ q=>q.unwish) fun _ _ z=>False.elim z
end
section
variable {X:Cx} {st:Stmt} {rest:List Stmt} {t u:TS} {e:Expr} {te:TE} {pos:Pos}
noncomputable def JrZ:TS:=fun D σ H=>D.nx σ H
noncomputable def JsW(t u:TS):TS:=fun D σ H=>t { D with nx:=u D } σ H
theorem Jr:PSs X [] JrZ:=fun _ _ σ H _ I h=>wpAny_execs_nil ⟨σ,H,I,h⟩
theorem Jjv(h1:PS X st t)(h2:PSs X rest u):PSs X (st::rest) (JsW t u):=by
 intro pins s σ H D I h;refine wpAny_execs_cons (thn (h1 pins s σ H { D with nx:=u D } I h) fun f s1 q=>?_)
 cases f with
 | next=>
  obtain⟨σ',H',I',q⟩ :=q;exact h2 pins s1 σ' H' D I' q
 | ret v=>exact q
 | brk=>exact q
 | cont=>exact q
theorem Jg(h1:PS X st t):PSs X [st] t:=by
 intro pins s σ H D I h;refine wpAny_execs_cons (thn (h1 pins s σ H D I h) fun f s1 q=>?_)
 cases f with
 | next=>exact wpAny_execs_nil q
 | ret v=>exact q
 | brk=>exact q
 | cont=>exact q
theorem Inv.quiet{pins:PL}{σ:St}{H:Hp}{s:Shared}(I:Inv X pins σ H s):interactive X.env=false:=by simp[interactive,I.ok.kind]
noncomputable def Jr2(te:TE):TS:=fun D σ H=>te σ H fun _ H1=>D.nx σ H1
theorem Jbh(he:PE X e te)(hs:swapsWith e none pos.line X.env=pure false:=by rfl):PS X (.Expr e pos) (Jr2 te):=by
 intro pins s σ H D I h;refine wpAny_Expr_any (thn (he pins s σ H _ I h) fun v s1 hzz=>?_) I.quiet hs;obtain⟨x,H1,I1,r1,q1⟩ :=hzz;exact⟨σ,H1,I1,q1⟩
noncomputable def JsQ(te:TE):TS:=fun D σ H=>te σ H D.rt
theorem Jn(he:PE X e te):PS X (.Return (some e) pos) (JsQ te):=by
 intro pins s σ H D I h;refine wpAny_Return_some (thn (he pins s σ H _ I h) fun v s1 hzz=>?_);obtain⟨x,H1,I1,r1,q1⟩ :=hzz;exact⟨x,σ,H1,I1,r1,q1⟩
noncomputable def JsU(c:TT)(t u:TS):TS:=fun D σ H=>c σ H fun b H1=>if b=true then t D σ H1 else u D σ H1
theorem JL{c:Expr}{a b:List Stmt}{tc:TT}(hc:PT X c tc)(ha:PSs X a t)(hb:PSs X b u):PS X (.If c a b pos) (JsU tc t u):=by
 intro pins s σ H D I h;refine wpAny_If (thn (hc pins s σ H _ I h) fun d s1 hzz=>?_);obtain⟨H1,I1,q1⟩ :=hzz
 cases d with
 | true=>exact ha pins s1 σ H1 D I1 q1
 | false=>exact hb pins s1 σ H1 D I1 q1
end
noncomputable abbrev TG:=V->St->Hp->(St->Hp->Prop)->Prop
noncomputable abbrev TGs:=List V->St->Hp->(St->Hp->Prop)->Prop
def PG(X:Cx)(target:Expr)(t:TG):Prop:=
 ∀(pins:PL) (s:Shared) (σ:St) (H:Hp) (v:V) (u:Value) (Q:St->Hp->Prop),Inv X pins σ H s->Jad v u->t v σ H Q->
  wpAny (model X.prog X.w) X.A (assign target X.env u) (fun _ s'=>∃σ' H',Inv X pins σ' H' s'/\Q σ' H') X.xe s
def PGs(X:Cx)(ts:List Expr)(t:TGs):Prop:=
 ∀(pins:PL) (s:Shared) (σ:St) (H:Hp) (vs:List V) (us:List Value) (Q:St->Hp->Prop),Inv X pins σ H s->YZ vs us->t vs σ H Q->
  wpAny (model X.prog X.w) X.A (assignInOrder ((assignEach ts X.env).map (·.2)) us) (fun _ s'=>∃σ' H',Inv X pins σ' H' s'/\Q σ' H') X.xe s
section
variable {X:Cx} {pos:Pos}
noncomputable def JcP(i:Nat):TG:=fun v σ H Q=>Q (σ.set i (some v)) H
theorem JH{i:Nat}{x:Str}(hN:X.N.Nodup)(hi:X.N[i]?=some x)(hx:Loc X.env.scope x)(hf:X.fn x=true\/X.env.scope.names.lookup x=some .local:=by first|exact .inl rfl|exact .inr rfl|assumption):PG X (.Name x pos) (JcP i):=by
 intro pins s σ H v u Q I r h;exact wpAny_assign_Name (Jjx I hN hi hx r (fun s' I'=>⟨_,H,I',h⟩) hf)
noncomputable def Jsq:TGs:=fun vs σ H Q=>vs=[]/\Q σ H
inductive GCI(t:TG)(u:TGs)(vs:List V)(σ:St)(H:Hp)(Q:St->Hp->Prop):Prop
 | mk (v:V) (r:List V) (e:vs=v::r) (q:t v σ H fun σ' H'=>u r σ' H' Q):GCI t u vs σ H Q
noncomputable def Jps(t:TG)(u:TGs):TGs:=fun vs σ H Q=>GCI t u vs σ H Q
theorem JcL:PGs X [] Jsq:=by
 intro pins s σ H vs us Q I r h;obtain⟨e,h⟩ :=h;subst e;cases r;exact assignInOrder_nil ⟨σ,H,I,h⟩
theorem YA{e:Expr}{es:List Expr}{t:TG}{u:TGs}(h1:PG X e t)(h2:PGs X es u)
  (hs:(assignEach (e::es) X.env).map (·.2)=assign e X.env::(assignEach es X.env).map (·.2):=by rfl):PGs X (e::es) (Jps t u):=by
 intro pins s σ H vs us Q I r h;obtain⟨v,vr,e1,h⟩ :=h;subst e1
 cases r with
 | cons r rr=>
  rw[hs];refine assignInOrder_cons (thn (h1 pins s σ H _ _ _ I r h) fun _ s1 hzz=>?_);obtain⟨σ1,H1,I1,q1⟩ :=hzz;exact h2 pins s1 σ1 H1 _ _ Q I1 rr q1
inductive GTI(K:WF)(n:Nat)(t:TGs)(v:V)(σ:St)(H:Hp)(Q:St->Hp->Prop):Prop
 | mk (a:Addr) (xs:List V) (e:v=.ref a) (h:SqT K H a xs) (l:xs.length=n) (q:t xs σ H Q):GTI K n t v σ H Q
noncomputable def Jsl(K:WF)(n:Nat)(t:TGs):TG:=fun v σ H Q=>GTI K n t v σ H Q
theorem JeK{es:List Expr}{k:Nat}{t:TGs}{n:Nat}(hc:X.calm=true)(h:PGs X es t)
  (hn:(assignEach es X.env).length=n:=by rfl) (hst:(assignEach es X.env).findIdx? (·.1)=none:=by rfl):PG X (.Tuple es k pos) (Jsl X.K n t):=by
 intro pins s σ H v u Q I r hw;obtain⟨a,xs,e1,hq,hl,hw⟩ :=hw;subst e1;cases r;obtain⟨its,rv,ht,hz⟩ :=I.tuple hq;refine assign_Tuple_tuple (I.ok.hd hc) ht (by simp[hn,<- hl,rv.length]) hst fun h' hx=>?_;have I1:Inv X pins σ H { s with heap:=h' }:=I.kept (t':=s.toks) fun b o e=>hx b o (B6 (B3 e)) e;exact h pins _ σ H xs _ Q I1 (by simpa using rv) hw
noncomputable def JrC(te:TE)(g:TG):TS:=fun D σ H=>te σ H fun x H1=>g x σ H1 D.nx
theorem JoT{tg e:Expr}{te:TE}{g:TG}(he:PE X e te)(hg:PG X tg g)(hs:swapsWithSole [tg] e pos.line X.env=pure false:=by rfl)(hw:swappedStores [tg] e X.env=pure none:=by rfl)
  (h1:(assignEach [tg] X.env).map (·.2)=[assign tg X.env]:=by rfl):PS X (.Assign [tg] e pos) (JrC te g):=by
 intro pins s σ H D I h;refine wpAny_Assign_stores (thn (he pins s σ H _ I h) fun v s1 hzz=>?_) hs hw;obtain⟨x,H1,I1,r1,q1⟩ :=hzz;rw[h1];exact thn (hg pins s1 σ H1 x v _ I1 r1 q1) fun _ s2 q=>q
theorem Jfp{i:Nat}{x:Str}{e:Expr}{te:TE}{pos':Pos}(hN:X.N.Nodup)(hi:X.N[i]?=some x)(hx:Loc X.env.scope x)(he:PE X e te)(hs:swapsWith e (some (.Name x pos')) pos.line X.env=pure false:=by rfl)(hf:X.fn x=true\/X.env.scope.names.lookup x=some .local:=by first|exact .inl rfl|exact .inr rfl|assumption) :
  PS X (.Assign [.Name x pos'] e pos) (JrC te (JcP i)):=by
 intro pins s σ H D I h;refine wpAny_Assign_Name (thn (he pins s σ H _ I h) fun v s1 hzz=>?_) hs;obtain⟨y,H1,I1,r1,q1⟩ :=hzz;exact Jjx I1 hN hi hx r1 (fun s2 I2=>⟨_,H1,I2,q1⟩) hf
end
section
variable {X:Cx} {pos:Pos}
noncomputable def Jp2(c:TT)(tb:TS):TS:=fun D σ H=>∃W:Nat->St->Hp->Prop,(∃m,W m σ H)/\∀m σ H,W m σ H->
 c σ H fun b H1=>if b=true then∃N:St->Hp->Prop,(∀σ' H',N σ' H'->∃m',m'<m/\W m' σ' H')/\tb { D with nx:=N,ct:=N,bk:=D.nx } σ H1 else D.nx σ H1
theorem Jn9{c:Expr}{body:List Stmt}{tc:TT}{tb:TS}(hp:PassesOwn (model X.prog X.w) X.A X.env X.xe)(hc:PT X c tc)(hb:PSs X body tb):PS X (.While c body [] pos) (Jp2 tc tb):=by
 intro pins s σ H D I h;obtain⟨W,⟨m0,w0⟩,turn⟩ :=h;refine wpAny_While (codeAny_whileLoop (fun n s'=>∃σ' H',Inv X pins σ' H' s'/\W n σ' H') ?_ m0 ⟨σ,H,I,w0⟩);rintro n s1 ⟨σ1,H1,I1,w1⟩;refine wpAny_passesOwn hp (thn (hc pins s1 σ1 H1 _ I1 (turn n σ1 H1 w1)) fun b s2 hzz=>?_);obtain⟨H2,I2,q2⟩ :=hzz
 cases b with
 | true=>
  obtain⟨N,hN,q2⟩ :=q2;rw[if_pos rfl];refine wpAny_passesOwn hp (thn (hb pins s2 σ1 H2 _ I2 q2) fun f s3 q3=>?_)
  cases f with
  | next=>
   obtain⟨σ3,H3,I3,n3⟩ :=q3;obtain⟨m',hm,w3⟩ :=hN σ3 H3 n3;exact⟨m',hm,σ3,H3,I3,w3⟩
  | cont=>
   obtain⟨σ3,H3,I3,n3⟩ :=q3;obtain⟨m',hm,w3⟩ :=hN σ3 H3 n3;exact⟨m',hm,σ3,H3,I3,w3⟩
  | brk=>exact q3
  | ret v=>exact q3
 | false=>
  rw[if_neg Bool.false_ne_true];exact wpAny_execs_nil ⟨σ1,H2,I2,q2⟩
end
structure It where
 go:Nat->Hp->Prop
 yld:Nat->Hp->V->Hp->Prop
 stop:Nat->Hp->Prop
def JkX(X:Cx)(pins:PL)(H:Hp)(b:Addr):Prop:=
 H b=none/\b≠X.env.locals/\b∉X.fs/\(b∈X.ex\/X.s₀.heap.objs.size<=b)/\(∀x c,X.env.cells.lookup x=some c->c≠b)/\∀p∈X.pn++pins,p.1≠b
theorem Inv.fpOk{X:Cx}{pins:PL}{σ:St}{H H':Hp}{s:Shared}{b:Addr}(I:Inv X pins σ H s)(hb:s.heap.objs.size<=b)(hn:H' b=none):JkX X pins H' b:=by
 refine⟨hn,Nat.ne_of_gt (Nat.lt_of_lt_of_le I.lt hb),I.nofs hb,.inr (Nat.le_trans I.sz hb),fun x c e z=>?_,fun p hp z=>?_⟩
 .obtain⟨v,q⟩ :=I.cell x c e;exact absurd (Nat.lt_of_lt_of_le q.lt (by rw[z];exact hb)) (Nat.lt_irrefl _)
 .exact absurd (Nat.lt_of_lt_of_le (B3 (I.pin p hp).1) (by rw[z];exact hb)) (Nat.lt_irrefl _)
structure Jod(P:Program)(w:World)(K:WF)(tg:Expr)(J:It)(fp:List Addr)(it:Addr)(tn:Nat->Heap->Prop):Prop where
 mem:it∈fp
 obj:∀i h,tn i h->∀b∈fp,∃o,h.get? b=some o/\∀v,o.data≠.cell v
 keep:∀i h h',tn i h->(∀b∈fp,∀o,h.get? b=some o->h'.get? b=some o)->tn i h'
 item:∀(X:Cx),X.prog=P->X.w=w->X.K=K->X.calm=true->∀(i:Nat) (pins:PL) (s:Shared) (σ:St) (H:Hp) (E:VS),Inv X pins σ H s->(∀b∈fp,JkX X pins H b)->tn i s.heap->J.go i H->
  wpAny (model P w) X.A (pyNext (.ref it)) (fun r s1=>∃u,r=some u/\
   wpAny (model P w) X.A (letOwnedTupleGo tg (.ref it) u) (fun _ s2=>∃x H',Inv X pins σ H' s2/\Jad x u/\J.yld i H x H'/\tn (i+1) s2.heap/\∀b∈fp,H' b=none) E s1) E s
 done:∀(X:Cx),X.prog=P->X.w=w->X.K=K->X.calm=true->∀(i:Nat) (pins:PL) (s:Shared) (σ:St) (H:Hp) (E:VS),Inv X pins σ H s->(∀b∈fp,JkX X pins H b)->tn i s.heap->J.stop i H->
  wpAny (model P w) X.A (pyNext (.ref it)) (fun r s1=>r=none/\Inv X pins σ H s1) E s
 self:∀(A:Around)(i:Nat)(s:Shared)(Q:VS)(E:VS),tn i s.heap->Q (.ref it) s->wpAny (model P w) A (pyIter (.ref it)) Q E s
noncomputable abbrev TI:=St->Hp->(It->Hp->Prop)->Prop
def PIE(X:Cx)(pins:PL)(σ:St)(tg:Expr)(R:It->Hp->Prop)(itv:Value)(s2:Shared):Prop:=
 ∃(it:Addr)(fp:List Addr)(tn:Nat->Heap->Prop)(J:It)(H':Hp),itv=.ref it/\Inv X pins σ H' s2/\Jod X.prog X.w X.K tg J fp it tn/\tn 0 s2.heap/\(∀b∈fp,JkX X pins H' b)/\R J H'
def PI(X:Cx)(tg iter:Expr)(wi:TI):Prop:=
 ∀(pins:PL) (s:Shared) (σ:St) (H:Hp) (R:It->Hp->Prop),Inv X pins σ H s->wi σ H R->
  wpAny (model X.prog X.w) X.A (eval iter X.env) (fun v s1=>wpAny (model X.prog X.w) X.A (pyIter v) (PIE X pins σ tg R) X.xe s1) X.xe s
theorem Jlx{M:Model}{A:Around}{E:VS}{s:Shared}{tg:Expr}{it:Addr}{u:Value}{o:Obj}{n:String}{vs:Array Value}{Q:Unit->Shared->Prop}(ho:s.heap.get? it=some o)(hc:o.cls=.type n)(hd:o.data=.fields vs)
  (hn:["enumerate", "zip", "dict_itemiterator", "dict_reverseitemiterator", "odict_iterator", "itertools.zip_longest", "itertools.pairwise"].contains n=false) (hQ:Q () s):wpAny M A (letOwnedTupleGo tg (.ref it) u) Q E s:=by
 unfold letOwnedTupleGo
 cases tg<;>first
  | exact A9 hQ
  | (cases u<;>first
    | exact A9 hQ
    | (refine A0 (wpAny_load ho ?_);rw[hc,hd];show wpAny M A (if(["enumerate", "zip", "dict_itemiterator", "dict_reverseitemiterator", "odict_iterator", "itertools.zip_longest", "itertools.pairwise"].contains n&&vs[0]?==some (rawInt _))=true then _ else _) Q E s;rw[if_neg (by intro h;rw[hn,Bool.false_and]at h;cases h)];exact A9 hQ))
noncomputable def Itl(K:WF)(a:Addr):It:=
 ⟨fun i H=>∃xs x,SqL K H a xs/\xs[i]?=some x,fun i H x H'=>H'=H/\∀xs,SqL K H a xs->xs[i]?=some x,fun i H=>∃xs,SqL K H a xs/\xs.length<=i⟩
noncomputable def Itt(K:WF)(a:Addr):It:=
 ⟨fun i H=>∃xs x,SqT K H a xs/\xs[i]?=some x,fun i H x H'=>H'=H/\∀xs,SqT K H a xs->xs[i]?=some x,fun i H=>∃xs,SqT K H a xs/\xs.length<=i⟩
noncomputable def Itr(lo:Int)(n:Nat):It:=⟨fun i _=>i<n,fun i H x H'=>H'=H/\x=.int (lo+i),fun i _=>n<=i⟩
theorem Jl6{P:Program}{w:World}{K:WF}{tg:Expr}(a it:Addr):Jod P w K tg (Itl K a) [it] it (fun i h=>h.IsListIter it a i) where
 mem:=by simp
 obj:=fun i h st b hb=>by
  have e:b=it:=by simpa using hb
  subst e;obtain⟨o,e,c,d⟩ :=st;exact⟨o,e,fun v z=>by rw[d]at z;cases z⟩
 keep:=fun i h h' st k=>st.at fun o e=>k it (by simp) o e
 item:=by
  intro X hP hw hK hc i pins s σ H E I hf st hg;subst hP hw hK;obtain⟨xs,x,hq,hx⟩ :=hg;obtain⟨its,rv,p,hz⟩ :=I.list hq;obtain⟨u,hu,ru⟩ :=rv.get hx;obtain⟨f0,f1,f2,f3,f4,f5⟩ :=hf it (by simp);refine wpAny_pyNext_list_item st p.isList (x:=u) (by simpa using hu) fun h' st' sb=>?_;have I1:Inv X pins σ H { s with heap:=h' }:=I.turned (t':=s.toks) (fun b o hb e=>(sb.2 b hb).trans e) f0 f1 f3 f4 f5;obtain⟨o,e,c,d⟩ :=id st';exact⟨u,rfl,Jlx (s:={ s with heap:=h' }) e c d (by decide) ⟨x,H,I1,ru,⟨rfl,fun ys hy=>by rw[I.list_inj hy hq];exact hx⟩,st',fun b hb=>(hf b hb).1⟩⟩
 done:=by
  intro X hP hw hK hc i pins s σ H E I hf st hg;subst hP hw hK;obtain⟨xs,hq,hx⟩ :=hg;obtain⟨its,rv,p,hz⟩ :=I.list hq;obtain⟨f0,f1,f2,f3,f4,f5⟩ :=hf it (by simp);have hl:=rv.length;exact wpAny_pyNext_list_end (I.ok.hd hc) st p.isList (by simp;omega) fun h' eb=>⟨rfl,I.turned (t':=s.toks) (fun b o hb e=>eb b o hb e) f0 f1 f3 f4 f5⟩
 self:=fun _ _ _ _ _ st h=>wpAny_pyIter_listiter st h
theorem JkR{P:Program}{w:World}{K:WF}{tg:Expr}(a it:Addr):Jod P w K tg (Itt K a) [it] it (fun i h=>h.IsTupleIter it a i) where
 mem:=by simp
 obj:=fun i h st b hb=>by
  have e:b=it:=by simpa using hb
  subst e;obtain⟨o,e,c,d⟩ :=st;exact⟨o,e,fun v z=>by rw[d]at z;cases z⟩
 keep:=fun i h h' st k=>st.at fun o e=>k it (by simp) o e
 item:=by
  intro X hP hw hK hc i pins s σ H E I hf st hg;subst hP hw hK;obtain⟨xs,x,hq,hx⟩ :=hg;obtain⟨its,rv,p,hz⟩ :=I.tuple hq;obtain⟨u,hu,ru⟩ :=rv.get hx;obtain⟨f0,f1,f2,f3,f4,f5⟩ :=hf it (by simp);refine wpAny_pyNext_tuple_item st (show s.heap.IsTuple a its.toArray from p) (x:=u) (by simpa using hu) fun h' st' sb=>?_;have I1:Inv X pins σ H { s with heap:=h' }:=I.turned (t':=s.toks) (fun b o hb e=>(sb.2 b hb).trans e) f0 f1 f3 f4 f5;obtain⟨o,e,c,d⟩ :=id st';exact⟨u,rfl,Jlx (s:={ s with heap:=h' }) e c d (by decide) ⟨x,H,I1,ru,⟨rfl,fun ys hy=>by rw[I.tuple_inj hy hq];exact hx⟩,st',fun b hb=>(hf b hb).1⟩⟩
 done:=by
  intro X hP hw hK hc i pins s σ H E I hf st hg;subst hP hw hK;obtain⟨xs,hq,hx⟩ :=hg;obtain⟨its,rv,p,hz⟩ :=I.tuple hq;obtain⟨f0,f1,f2,f3,f4,f5⟩ :=hf it (by simp);have hl:=rv.length;exact wpAny_pyNext_tuple_end (I.ok.hd hc) st (show s.heap.IsTuple a its.toArray from p) (by simp;omega) fun h' eb=>⟨rfl,I.turned (t':=s.toks) (fun b o hb e=>eb b o hb e) f0 f1 f3 f4 f5⟩
 self:=fun _ _ _ _ _ st h=>wpAny_pyIter_tupleiter st h
theorem Jgd{P:Program}{w:World}{K:WF}{tg:Expr}(it:Addr)(lo:Int)(n:Nat):Jod P w K tg (Itr lo n) [it] it (fun i h=>IsRangeIter h it (lo+(i:Nat)*1) ((n:Int)-(i:Nat)) 1) where
 mem:=by simp
 obj:=fun i h st b hb=>by
  have e:b=it:=by simpa using hb
  subst e
  exact⟨_,st,fun v z=>by
   have z':Data.fields _=Data.cell v:=z
   cases z'⟩
 keep:=fun i h h' st k=>k it (by simp) _ st
 item:=by
  intro X hP hw hK hc i pins s σ H E I hf st hg;subst hP hw hK;obtain⟨f0,f1,f2,f3,f4,f5⟩ :=hf it (by simp);have W:=Walks.range (prog:=X.prog) (w:=X.w) (I.ok.hd hc) it lo 1 n;refine W.item i s _ _ hg st fun v h' tk hv st' kk=>?_;obtain⟨t,rfl⟩ :=hv;have I1:Inv X pins σ H { s with heap:=h',toks:=tk }:=I.turned (fun b o hb e=>kk b o (by simpa using hb) e) f0 f1 f3 f4 f5;refine⟨_,rfl,Jlx (s:={ s with heap:=h',toks:=tk }) (n:="range_iterator") st' rfl rfl (by decide) ⟨.int (lo+i),H,I1,⟨t,?_⟩,⟨rfl,rfl⟩,st',fun b hb=>(hf b hb).1⟩⟩;rw[Int.mul_one]
 done:=by
  intro X hP hw hK hc i pins s σ H E I hf st hg;subst hP hw hK;obtain⟨f0,f1,f2,f3,f4,f5⟩ :=hf it (by simp);exact wpAny_pyNext_range_end (I.ok.hd hc) st (by have:n<=i:=hg;omega) fun h' eb=>⟨rfl,I.turned (t':=s.toks) (fun b o hb e=>eb b o hb e) f0 f1 f3 f4 f5⟩
 self:=fun _ _ _ _ _ st h=>wpAny_pyIter_rangeiter st h
end L2
namespace L2
open PySem PySem.Spec PyProof.Rows
section
variable {X:Cx} {tg:Expr}
inductive JoQ(K:WF)(x:V)(H:Hp)(R:It->Hp->Prop):Prop
 | mk (a:Addr) (e:x=.ref a) (h:∃xs,SqL K H a xs) (q:R (Itl K a) H):JoQ K x H R
noncomputable def JrS(K:WF)(tl:TE):TI:=fun σ H R=>tl σ H fun x H1=>JoQ K x H1 R
inductive Jp5(K:WF)(x:V)(H:Hp)(R:It->Hp->Prop):Prop
 | mk (a:Addr) (e:x=.ref a) (h:∃xs,SqT K H a xs) (q:R (Itt K a) H):Jp5 K x H R
noncomputable def JsI(K:WF)(tl:TE):TI:=fun σ H R=>tl σ H fun x H1=>Jp5 K x H1 R
theorem Ja5{l:Expr}{tl:TE}(hl:PE X l tl):PI X tg l (JrS X.K tl):=by
 intro pins s σ H R I h;refine thn (hl pins s σ H _ I h) fun v s1 hzz=>?_;obtain⟨x,H1,I1,r1,q1⟩ :=hzz;obtain⟨a,e,⟨xs,hq⟩,q⟩ :=q1;subst e;cases r1;obtain⟨its,rv,p,hz⟩ :=I1.list hq;refine wpAny_pyIter_list p.isList ?_;refine⟨s1.heap.objs.size,[s1.heap.objs.size],_,_,H1,rfl,I1.kept (t':=s1.toks) fun b o e=>A4 _ e,Jl6 a _,⟨_,Aw _ rfl,rfl,rfl⟩,fun b hb=>?_,q⟩
 have e:b=s1.heap.objs.size:=by simpa using hb
 subst e;exact I1.fpOk (A5 _) (I1.hok.fresh (A5 _))
theorem JfE{l:Expr}{tl:TE}(hl:PE X l tl):PI X tg l (JsI X.K tl):=by
 intro pins s σ H R I h;refine thn (hl pins s σ H _ I h) fun v s1 hzz=>?_;obtain⟨x,H1,I1,r1,q1⟩ :=hzz;obtain⟨a,e,⟨xs,hq⟩,q⟩ :=q1;subst e;cases r1;obtain⟨its,rv,p,hz⟩ :=I1.tuple hq;refine wpAny_pyIter_tuple (show s1.heap.IsTuple a its.toArray from p) ?_;refine⟨s1.heap.objs.size,[s1.heap.objs.size],_,_,H1,rfl,I1.kept (t':=s1.toks) fun b o e=>A4 _ e,JkR a _,⟨_,Aw _ rfl,rfl,rfl⟩,fun b hb=>?_,q⟩
 have e:b=s1.heap.objs.size:=by simpa using hb
 subst e;exact I1.fpOk (A5 _) (I1.hok.fresh (A5 _))
theorem JnK{pins:PL}{σ:St}{H:Hp}{s:Shared}{R:It->Hp->Prop}{E:VS}{lo hi:Int}{t u v:Tok}{tk:Nat}(I:Inv X pins σ H s)(h1 : -(2^62)<=lo)(h2:lo<2^62)(h3 : -(2^62)<=hi)(h4:hi<2^62)
  (q:R (Itr lo (hi-lo).toNat) H):wpAny (model X.prog X.w) X.A (pyIter (.ref s.heap.objs.size)) (PIE X pins σ tg R) E { s with heap:=s.heap.push { cls:=.type "range",data:=.fields #[.int lo t,.int hi u,.int 1 v] },toks:=tk }:=by
 refine wpAny_pyIter_range (IsRange.new ..) (small_one h1 h2 h3 h4) ?_;have I1:Inv X pins σ H { s with heap:=s.heap.push { cls:=.type "range",data:=.fields #[.int lo t,.int hi u,.int 1 v] },toks:=tk }:=I.kept fun b o e=>A4 _ e
 refine⟨(s.heap.push { cls:=.type "range",data:=.fields #[.int lo t,.int hi u,.int 1 v] }).objs.size,[(s.heap.push { cls:=.type "range",data:=.fields #[.int lo t,.int hi u,.int 1 v] }).objs.size],_,_,H,rfl,
  I1.kept (t':=tk) fun b o e=>A4 _ e,Jgd _ lo (hi-lo).toNat,?_,fun b hb=>?_,q⟩
 .have e1:lo+((0:Nat):Int)*1=lo:=by simp
  have e2:(((hi-lo).toNat:Nat):Int)-((0:Nat):Int)=Builtin.Range.rangeSize lo hi 1:=by rw[rangeSize_one];split<;>omega
  show IsRangeIter _ _ (lo+((0:Nat):Int)*1) ((((hi-lo).toNat:Nat):Int)-((0:Nat):Int)) 1;rw[e1,e2];exact Aw _ rfl
 .have e:b=(s.heap.push { cls:=.type "range",data:=.fields #[.int lo t,.int hi u,.int 1 v] }).objs.size:=by simpa using hb
  subst e;exact I1.fpOk (A5 _) (I1.hok.fresh (A5 _))
noncomputable def Jrz(ta:TA):TI:=fun σ H R=>ta σ H fun vs H1=>∃j:Int,vs=[.int j]/\-(2^62)<=j/\j<2^62/\R (Itr 0 j.toNat) H1
theorem Jca{a:Expr}{ta:TA}{p pos:Pos}(hg:Gl X "range")(hm:X.mg "range" = none)(ha:PA X [a] ta)(hs:starEach [a] X.env=[(false,eval a X.env)]:=by rfl):PI X tg (.Call (.Name "range" p) [a] [] pos) (Jrz ta):=by
 intro pins s σ H R I h;refine Call_ (Jgb I hg hm boot_range (PyProof.Rows.callWith_type1 (thn (ha pos pins s σ H _ I h) fun us s1 hzz=>?_) hs rfl));obtain⟨vs,H1,I1,r1,q1⟩ :=hzz;obtain⟨j,e,q1,q2,q⟩ :=q1;subst e
 cases r1 with
 | cons r rr=>
  cases rr;obtain⟨t,rfl⟩ :=r;exact call_range_1 (JnK I1 (by omega) (by omega) q1 q2 (by simpa using q))
noncomputable def JsJ(wi:TI)(g:TG)(tb:TS):TS:=fun D σ H=>wi σ H fun J H1=>∃W:Nat->Nat->St->Hp->Prop,(∃m,W 0 m σ H1)/\∀i m σ H,W i m σ H->
 (J.stop i H/\D.nx σ H)\/(J.go i H/\∃N:St->Hp->Prop,(∀σ' H',N σ' H'->∃m',m'<m/\W (i+1) m' σ' H')/\∀x H',J.yld i H x H'->g x σ H' fun σ2 H2=>tb { D with nx:=N,ct:=N,bk:=D.nx } σ2 H2)
noncomputable def JhC(fp:List Addr)(h:Heap):PL:=fp.filterMap fun b=>(h.get? b).map fun o=>(b,o)
theorem Jdg{fp:List Addr}{h:Heap}{b:Addr}{o:Obj}(hb:b∈fp)(e:h.get? b=some o):(b,o)∈JhC fp h:=List.mem_filterMap.mpr ⟨b,hb,by rw[e];rfl⟩
theorem JmG{fp:List Addr}{h:Heap}{p:Addr×Obj}(hp:p∈JhC fp h):p.1∈fp/\h.get? p.1=some p.2:=by
 obtain⟨b,hb,e⟩ :=List.mem_filterMap.mp hp
 cases q:h.get? b with
 | none=>rw[q]at e;cases e
 | some o=>
  rw[q]at e;have e':(b,o)=p:=Option.some.inj e;subst e';exact⟨hb,q⟩
theorem Inv.pinned{pins:PL}{σ:St}{H:Hp}{s:Shared}{fp:List Addr}(I:Inv X pins σ H s)(hf:∀b∈fp,JkX X pins H b)(ho:∀b∈fp,∃o,s.heap.get? b=some o/\∀v,o.data≠.cell v):Inv X (pins++JhC fp s.heap) σ H s:=
 I.pins_of fun p hp=>(B5.mp hp).elim (fun z=>I.pin p (List.mem_append_right _ z)) fun z=>by
  obtain⟨hb,e⟩ :=JmG z;obtain⟨f0,f1,f2,_⟩ :=hf p.1 hb;obtain⟨o,e',d⟩ :=ho p.1 hb;rw[e]at e';cases e';exact⟨e,f0,f1,f2,d⟩
theorem Inv.unpinned{pins pl:PL}{σ:St}{H:Hp}{s:Shared}(I:Inv X (pins++pl) σ H s):Inv X pins σ H s:=I.pins_of fun p hp=>I.pin p (List.mem_append_right _ (List.mem_append_left _ hp))
theorem Jam{iter:Expr}{body:List Stmt}{wi:TI}{g:TG}{tb:TS}{pos:Pos}(hp:PassesOwn (model X.prog X.w) X.A X.env X.xe)(hc:X.calm=true)(hi:PI X tg iter wi)(hg:PG X tg g)(hb:PSs X body tb)
  (hs:∀x,foldedSetIterable iter X.env x=pure x:=by intro _;rfl):PS X (.For tg iter body [] pos) (JsJ wi g tb):=by
 intro pins s σ H D I h;refine wpAny_For (thn (hi pins s σ H _ I h) fun v s1 h1=>thn h1 fun itv s2 h2=>?_) hs;obtain⟨it,fp,tn,J,H2,e,I2,T,st2,f2,W,⟨m0,w0⟩,turn⟩ :=h2;subst e;have stat:∀{H':Hp},(∀b∈fp,H' b=none)->∀b∈fp,JkX X pins H' b:=fun hn b hb=>⟨hn b hb,(f2 b hb).2⟩;refine codeAny_forLoop_any (fun n s'=>∃i σ' H',Inv X pins σ' H' s'/\tn i s'.heap/\(∀b∈fp,H' b=none)/\W i n σ' H') ?_ m0 ⟨0,σ,H2,I2,st2,fun b hb=>(f2 b hb).1,w0⟩;rintro n s3 ⟨i,σ3,H3,I3,st3,fr3,w3⟩
 rcases turn i n σ3 H3 w3 with⟨stop,qn⟩|⟨go,N,hN,step⟩
 .refine wpAny_passesOwn hp (thn (T.done X rfl rfl rfl hc i pins s3 σ3 H3 X.xe I3 (stat fr3) st3 stop) fun r s4 hzz=>?_);obtain⟨hr,I4⟩ :=hzz;subst hr;exact wpAny_execs_nil ⟨σ3,H3,I4,qn⟩
 .refine wpAny_passesOwn hp (thn (T.item X rfl rfl rfl hc i pins s3 σ3 H3 X.xe I3 (stat fr3) st3 go) fun r s4 hzz=>?_);obtain⟨u,hr,h4⟩ :=hzz;subst hr;refine wpAny_passesOwn hp (thn h4 fun _ s5 hzz=>?_);obtain⟨x,H5,I5,r5,y5,st5,fr5⟩ :=hzz;have I5':=I5.pinned (stat fr5) (T.obj _ _ st5);refine wpAny_passesOwn hp (thn (hg _ s5 σ3 H5 x u _ I5' r5 (step x H5 y5)) fun _ s6 hzz=>?_);obtain⟨σ6,H6,I6,q6⟩ :=hzz;refine wpAny_passesOwn hp (thn (hb _ s6 σ6 H6 _ I6 q6) fun f s7 q7=>?_)
  have again:∀{σ7:St}{H7:Hp},Inv X (pins++JhC fp s5.heap) σ7 H7 s7->N σ7 H7->∃m,m<n/\∃i σ' H',Inv X pins σ' H' s7/\tn i s7.heap/\(∀b∈fp,H' b=none)/\W i m σ' H':=fun{σ7 H7} I7 n7=>by
   obtain⟨m',hm,w7⟩ :=hN σ7 H7 n7;refine⟨m',hm,i+1,σ7,H7,I7.unpinned,T.keep _ _ _ st5 fun b hb o e=>(I7.pin (b,o) (List.mem_append_right _ (List.mem_append_right _ (Jdg hb e)))).1,fun b hb=>?_,w7⟩;obtain⟨o,e,d⟩ :=T.obj _ _ st5 b hb;exact(I7.pin (b,o) (List.mem_append_right _ (List.mem_append_right _ (Jdg hb e)))).2.1
  cases f with
  | next=>obtain⟨σ7,H7,I7,n7⟩ :=q7;exact again I7 n7
  | cont=>obtain⟨σ7,H7,I7,n7⟩ :=q7;exact again I7 n7
  | brk=>obtain⟨σ7,H7,I7,q7⟩ :=q7;exact⟨σ7,H7,I7.unpinned,q7⟩
  | ret v=>obtain⟨x7,σ7,H7,I7,r7,q7⟩ :=q7;exact⟨x7,σ7,H7,I7.unpinned,r7,q7⟩
end
theorem JbO{K:WF}{a:Addr}{xs:List V}{g:TG}{tb:TS}{D:Jnf}{σ:St}{H:Hp}(Pv:Nat->St->Hp->Prop)(h0:Pv 0 σ H)(hl:∀i σ H,i<=xs.length->Pv i σ H->SqL K H a xs)
  (hs:∀i x σ H,xs[i]?=some x->Pv i σ H->g x σ H fun σ2 H2=>tb { D with nx:=Pv (i+1),ct:=Pv (i+1),bk:=D.nx } σ2 H2) (hd:∀σ H,Pv xs.length σ H->D.nx σ H) :
  ∃W:Nat->Nat->St->Hp->Prop,(∃m,W 0 m σ H)/\∀i m σ H,W i m σ H->
   ((Itl K a).stop i H/\D.nx σ H)\/((Itl K a).go i H/\∃N:St->Hp->Prop,(∀σ' H',N σ' H'->∃m',m'<m/\W (i+1) m' σ' H')/\∀x H',(Itl K a).yld i H x H'->g x σ H' fun σ2 H2=>tb { D with nx:=N,ct:=N,bk:=D.nx } σ2 H2):=by
 refine⟨fun i m σ H=>m=xs.length-i/\i<=xs.length/\Pv i σ H,⟨xs.length,by simp,Bz _,h0⟩,?_⟩;rintro i m σ H ⟨rfl,hi,p⟩;have q:=hl i σ H hi p
 by_cases hlt:i<xs.length
 .refine .inr ⟨⟨xs,xs[i],q,by simp[hlt]⟩,Pv (i+1),fun σ' H' p'=>⟨xs.length-(i+1),by omega,rfl,hlt,p'⟩,fun x H' y=>?_⟩;obtain⟨e,y⟩ :=y;subst e;exact hs i x σ _ (y xs q) p
 .have e:i=xs.length:=by omega
  subst e;exact .inl ⟨⟨xs,q,A5 _⟩,hd σ H p⟩
theorem JfD{K:WF}{a:Addr}{xs:List V}{g:TG}{tb:TS}{D:Jnf}{σ:St}{H:Hp}(Pv:Nat->St->Hp->Prop)(h0:Pv 0 σ H)(hl:∀i σ H,i<=xs.length->Pv i σ H->SqT K H a xs)
  (hs:∀i x σ H,xs[i]?=some x->Pv i σ H->g x σ H fun σ2 H2=>tb { D with nx:=Pv (i+1),ct:=Pv (i+1),bk:=D.nx } σ2 H2) (hd:∀σ H,Pv xs.length σ H->D.nx σ H) :
  ∃W:Nat->Nat->St->Hp->Prop,(∃m,W 0 m σ H)/\∀i m σ H,W i m σ H->
   ((Itt K a).stop i H/\D.nx σ H)\/((Itt K a).go i H/\∃N:St->Hp->Prop,(∀σ' H',N σ' H'->∃m',m'<m/\W (i+1) m' σ' H')/\∀x H',(Itt K a).yld i H x H'->g x σ H' fun σ2 H2=>tb { D with nx:=N,ct:=N,bk:=D.nx } σ2 H2):=by
 refine⟨fun i m σ H=>m=xs.length-i/\i<=xs.length/\Pv i σ H,⟨xs.length,by simp,Bz _,h0⟩,?_⟩;rintro i m σ H ⟨rfl,hi,p⟩;have q:=hl i σ H hi p
 by_cases hlt:i<xs.length
 .refine .inr ⟨⟨xs,xs[i],q,by simp[hlt]⟩,Pv (i+1),fun σ' H' p'=>⟨xs.length-(i+1),by omega,rfl,hlt,p'⟩,fun x H' y=>?_⟩;obtain⟨e,y⟩ :=y;subst e;exact hs i x σ _ (y xs q) p
 .have e:i=xs.length:=by omega
  subst e;exact .inl ⟨⟨xs,q,A5 _⟩,hd σ H p⟩
theorem Jb1{lo:Int}{n:Nat}{g:TG}{tb:TS}{D:Jnf}{σ:St}{H:Hp}(Pv:Nat->St->Hp->Prop)(h0:Pv 0 σ H)
  (hs:∀i σ H,i<n->Pv i σ H->g (.int (lo+i)) σ H fun σ2 H2=>tb { D with nx:=Pv (i+1),ct:=Pv (i+1),bk:=D.nx } σ2 H2) (hd:∀σ H,Pv n σ H->D.nx σ H) :
  ∃W:Nat->Nat->St->Hp->Prop,(∃m,W 0 m σ H)/\∀i m σ H,W i m σ H->
   ((Itr lo n).stop i H/\D.nx σ H)\/((Itr lo n).go i H/\∃N:St->Hp->Prop,(∀σ' H',N σ' H'->∃m',m'<m/\W (i+1) m' σ' H')/\∀x H',(Itr lo n).yld i H x H'->g x σ H' fun σ2 H2=>tb { D with nx:=N,ct:=N,bk:=D.nx } σ2 H2):=by
 refine⟨fun i m σ H=>m=n-i/\i<=n/\Pv i σ H,⟨n,by simp,Bz _,h0⟩,?_⟩;rintro i m σ H ⟨rfl,hi,p⟩
 by_cases hlt:i<n
 .refine .inr ⟨hlt,Pv (i+1),fun σ' H' p'=>⟨n-(i+1),by omega,rfl,hlt,p'⟩,fun x H' y=>?_⟩;obtain⟨e,y⟩ :=y;subst e y;exact hs i σ _ hlt p
 .have e:i=n:=by omega
  subst e;exact .inl ⟨A5 _,hd σ H p⟩
end L2
namespace L2
open PySem PySem.Spec PyProof.Rows
noncomputable abbrev R2:=V->V->Hp->VK->Prop
def OpR(X:Cx)(f:Value->Value->Sem Value)(r:R2):Prop:=
 ∀(pins:PL) (s:Shared) (σ:St) (H:Hp) (x y:V) (v u:Value) (Q:VK),Inv X pins σ H s->Jad x v->Jad y u->r x y H Q->
  wpAny (model X.prog X.w) X.A (f v u) (EP X pins σ Q) X.xe s
def UnR(X:Cx)(f:Value->Sem Value)(r:V->Hp->VK->Prop):Prop:=
 ∀(pins:PL) (s:Shared) (σ:St) (H:Hp) (x:V) (v:Value) (Q:VK),Inv X pins σ H s->Jad x v->r x H Q->
  wpAny (model X.prog X.w) X.A (f v) (EP X pins σ Q) X.xe s
def JbX(X:Cx)(f:Value)(r:List V->Hp->VK->Prop):Prop:=
 ∀(pins:PL) (s:Shared) (σ:St) (H:Hp) (xs:List V) (us:List Value) (Q:VK),Inv X pins σ H s->YZ xs us->r xs H Q->
  wpAny (model X.prog X.w) X.A (call f us) (EP X pins σ Q) X.xe s
def JsG(X:Cx)(r:V->Hp->(Bool->Hp->Prop)->Prop):Prop:=
 ∀(pins:PL) (s:Shared) (σ:St) (H:Hp) (x:V) (v:Value) (Q:Bool->Hp->Prop),Inv X pins σ H s->Jad x v->r x H Q->
  wpAny (model X.prog X.w) X.A (truthy v) (TP X pins σ Q) X.xe s
noncomputable def tOp(r:R2)(ta tb:TE):TE:=fun σ H Q=>ta σ H fun x H1=>tb σ H1 fun y H2=>r x y H2 Q
noncomputable def tUn(r:V->Hp->VK->Prop)(ta:TE):TE:=fun σ H Q=>ta σ H fun x H1=>r x H1 Q
noncomputable def rI(C:Int->Int->Prop)(g:Int->Int->V):R2:=fun x y H Q=>∃i j,x=.int i/\y=.int j/\C i j/\Q (g i j) H
noncomputable def rI0(g:Int->Int->V):R2:=fun x y H Q=>∃i j,x=.int i/\y=.int j/\Q (g i j) H
noncomputable def rU(g:Int->V):V->Hp->VK->Prop:=fun x H Q=>∃i,x=.int i/\Q (g i) H
section
variable {X:Cx} {a b c:Expr} {ta tb tc:TE} {pos:Pos}
theorem JrP(ha:PE X a ta)(hb:PE X b tb){pins:PL}{s:Shared}{σ:St}{H:Hp}{R:V->V->Hp->Prop}(I:Inv X pins σ H s)
  (h:ta σ H fun x H1=>tb σ H1 fun y H2=>R x y H2) {Q:VS} {f:Value->Value->Sem Value}
  (hf:∀v u s2 x y H2,Inv X pins σ H2 s2->Jad x v->Jad y u->R x y H2->wpAny (model X.prog X.w) X.A (f v u) Q X.xe s2) :
  wpAny (model X.prog X.w) X.A (eval a X.env) (fun v s₁=>wpAny (model X.prog X.w) X.A (eval b X.env) (fun u s₂=>wpAny (model X.prog X.w) X.A (f v u) Q X.xe s₂) X.xe s₁) X.xe s:=by
 refine thn (ha pins s σ H _ I h) fun v s1 hzz=>?_;obtain⟨x,H1,I1,r1,q1⟩ :=hzz;refine thn (hb pins s1 σ H1 _ I1 q1) fun u s2 hzz=>?_;obtain⟨y,H2,I2,r2,q2⟩ :=hzz;exact hf v u s2 x y H2 I2 r1 r2 q2
theorem Jk{op:Operator}{r:R2}(ho:OpR X (binaryOp op) r)(ha:PE X a ta)(hb:PE X b tb):PE X (.BinOp a op b pos) (tOp r ta tb):=by
 intro pins s σ H Q I h;exact wpAny_BinOp (JrP ha hb I h fun v u s2 x y H2 I2 rx ry q=>ho pins s2 σ H2 x y v u Q I2 rx ry q)
theorem Jdh{op:UnaryOp}{r:V->Hp->VK->Prop}(ho:UnR X (unaryOp op) r)(ha:PE X a ta):PE X (.UnaryOp op a pos) (tUn r ta):=by
 intro pins s σ H Q I h;refine UnaryOp_ (thn (ha pins s σ H _ I h) fun v s1 hzz=>?_);obtain⟨x,H1,I1,r1,q1⟩ :=hzz;exact ho pins s1 σ H1 x v Q I1 r1 q1
theorem opI{f:Value->Value->Sem Value}{C:Int->Int->Prop}{g:Int->Int->Int}
  (rule:∀(i j:Int)(t u:Tok)(s:Shared)(Q:VS)(E:VS),C i j->Q (.int (g i j) s.toks) { s with toks:=s.toks+1 }->wpAny (model X.prog X.w) X.A (f (.int i t) (.int j u)) Q E s) :
  OpR X f (rI C fun i j=>.int (g i j)):=by
 intro pins s σ H x y v u Q I rx ry h;obtain⟨i,j,rfl,rfl,hc,q⟩ :=h;obtain⟨t,rfl⟩ :=rx;obtain⟨t',rfl⟩ :=ry;exact rule i j t t' s _ _ hc ⟨.int (g i j),H,I.tok _,⟨_,rfl⟩,q⟩
theorem Jsk{f:Value->Value->Sem Value}{g:Int->Int->Int}
  (rule:∀(i j:Int)(t u:Tok)(s:Shared)(Q:VS)(E:VS),Q (.int (g i j) s.toks) { s with toks:=s.toks+1 }->wpAny (model X.prog X.w) X.A (f (.int i t) (.int j u)) Q E s) :
  OpR X f (rI0 fun i j=>.int (g i j)):=by
 intro pins s σ H x y v u Q I rx ry h;obtain⟨i,j,rfl,rfl,q⟩ :=h;obtain⟨t,rfl⟩ :=rx;obtain⟨t',rfl⟩ :=ry;exact rule i j t t' s _ _ ⟨.int (g i j),H,I.tok _,⟨_,rfl⟩,q⟩
theorem Jrq{f:Value->Value->Sem Value}{g:Int->Int->Bool}
  (rule:∀(i j:Int)(t u:Tok)(s:Shared)(Q:VS)(E:VS),Q (.bool (g i j)) s->wpAny (model X.prog X.w) X.A (f (.int i t) (.int j u)) Q E s) :
  OpR X f (rI0 fun i j=>.bl (g i j)):=by
 intro pins s σ H x y v u Q I rx ry h;obtain⟨i,j,rfl,rfl,q⟩ :=h;obtain⟨t,rfl⟩ :=rx;obtain⟨t',rfl⟩ :=ry;exact rule i j t t' s _ _ ⟨.bl (g i j),H,I,rfl,q⟩
def Jsh(i j:Int):Prop:=0<=j/\j<=1000000/\i.natAbs<2^64
def JrK(i j:Int):Prop:=(-(2^64)<i/\i<2^64)\/(-(2^64)<j/\j<2^64)
theorem JrK.ok{i j:Int}(h:JrK i j):IntMulOk i j:=by
 rcases h with⟨h1,h2⟩|⟨h1,h2⟩
 .exact .of_left (intBits_le_64 h1 h2)
 .exact .of_right (intBits_le_64 h1 h2)
theorem Jqu:OpR X (binaryOp .Add) (rI0 fun i j=>.int (i+j)):=Jsk fun _ _ _ _ _ _ _ q=>add_int q
theorem JqW:OpR X (binaryOp .Sub) (rI0 fun i j=>.int (i-j)):=Jsk fun _ _ _ _ _ _ _ q=>sub_int q
theorem Jqw:OpR X (binaryOp .Mod) (rI (fun _ j=>0<j) fun i j=>.int (i%j)):=opI fun i j _ _ _ _ _ hc q=>by
 have h1:(0:Int)<j:=hc;exact mod_int' (by omega) (by rw[Int.fmod_eq_emod_of_nonneg i (by omega)];exact q)
theorem Jrd:OpR X (binaryOp .Pow) (rI Jsh fun i j=>.int (i^j.toNat)):=opI fun _ _ _ _ _ _ _ hc q=>pow_int_small hc.1 hc.2.1 hc.2.2 q
theorem unI{f:Value->Sem Value}{g:Int->Int}
  (rule:∀(i:Int)(t:Tok)(s:Shared)(Q:VS)(E:VS),Q (.int (g i) s.toks) { s with toks:=s.toks+1 }->wpAny (model X.prog X.w) X.A (f (.int i t)) Q E s) :
  UnR X f (rU fun i=>.int (g i)):=by
 intro pins s σ H x v Q I rx h;obtain⟨i,rfl,q⟩ :=h;obtain⟨t,rfl⟩ :=rx;exact rule i t s _ _ ⟨.int (g i),H,I.tok _,⟨_,rfl⟩,q⟩
theorem Jon:UnR X (unaryOp .USub) (rU fun i=>.int (-i)):=unI fun _ _ _ _ _ q=>neg_int q
end
noncomputable def JrQ:V->V->Bool
 | .non,.non=>true | .non,.int _=>true | .int _,.non=>true | .non,.bl _=>true | .bl _,.non=>true | .non,.str _=>true | .str _,.non=>true
 | .int _,.int _=>true | .bl _,.bl _=>true | .str _,.str _=>true | .byt _,.byt _=>true
 | .int _,.str _=>true | .str _,.int _=>true | .bl _,.str _=>true | .str _,.bl _=>true
 | _,_=>false
noncomputable def rEq:R2:=fun x y H Q=>JrQ x y=true/\Q (.bl (decide (x=y))) H
noncomputable def rNe:R2:=fun x y H Q=>JrQ x y=true/\Q (.bl (!decide (x=y))) H
theorem Jl0{i j:Int}:decide (V.int i=V.int j)=(i==j):=by
 rw[Bool.eq_iff_iff];simp
theorem JoW{i j:Bool}:decide (V.bl i=V.bl j)=(i==j):=by
 rw[Bool.eq_iff_iff];simp
theorem JlM{i j:Str}:decide (V.str i=V.str j)=(i==j):=by
 rw[Bool.eq_iff_iff];simp
theorem JmM{i j:Array UInt8}:decide (V.byt i=V.byt j)=(i.toList==j.toList):=by
 rw[Bool.eq_iff_iff];cases i;cases j;simp
section
variable {X:Cx} {a b c:Expr} {ta tb tc:TE} {pos:Pos}
theorem Yu{pins:PL}{σ:St}{H:Hp}{s:Shared}{Q:VK}{k k':Bool}(I:Inv X pins σ H s)(q:Q (.bl k) H)(e:k=k'):EP X pins σ Q (.bool k') s:=by
 subst e;exact⟨.bl k,H,I,rfl,q⟩
theorem Y1:OpR X (compareOp .Eq) rEq:=by
 intro pins s σ H x y v u Q I rx ry h;obtain⟨hs,q⟩ :=h
 cases x with
 | non=>
  cases rx
  cases y with
  | non=>cases ry;exact PySem.EqNone.eq_none_none (Yu I q (by simp))
  | bl j=>cases ry;exact PySem.EqNone.eq_none_bool (Yu I q (by simp))
  | int j=>obtain⟨t',rfl⟩ :=ry;exact PySem.EqNone.eq_none_int (Yu I q (by simp))
  | str j=>obtain⟨t',rfl⟩ :=ry;exact PySem.EqNone.eq_none_str (Yu I q (by simp))
  | _=>exact absurd (show false=true from hs) Bool.false_ne_true
 | bl i=>
  cases rx
  cases y with
  | non=>cases ry;exact PySem.EqNone.eq_bool_none (Yu I q (by simp))
  | bl j=>cases ry;exact eq_bool (Yu I q JoW)
  | str j=>obtain⟨t',rfl⟩ :=ry;exact PySem.EqMixed.eq_bool_str (Yu I q (by simp))
  | _=>exact absurd (show false=true from hs) Bool.false_ne_true
 | int i=>
  obtain⟨t,rfl⟩ :=rx
  cases y with
  | non=>cases ry;exact PySem.EqNone.eq_int_none (Yu I q (by simp))
  | int j=>obtain⟨t',rfl⟩ :=ry;exact eq_int (Yu I q Jl0)
  | str j=>obtain⟨t',rfl⟩ :=ry;exact PySem.EqMixed.eq_int_str (Yu I q (by simp))
  | _=>exact absurd (show false=true from hs) Bool.false_ne_true
 | str i=>
  obtain⟨t,rfl⟩ :=rx
  cases y with
  | non=>cases ry;exact PySem.EqNone.eq_str_none (Yu I q (by simp))
  | bl j=>cases ry;exact PySem.EqMixed.eq_str_bool (Yu I q (by simp))
  | int j=>obtain⟨t',rfl⟩ :=ry;exact PySem.EqMixed.eq_str_int (Yu I q (by simp))
  | str j=>obtain⟨t',rfl⟩ :=ry;exact eq_str (Yu I q JlM)
  | _=>exact absurd (show false=true from hs) Bool.false_ne_true
 | byt i=>
  obtain⟨t,rfl⟩ :=rx
  cases y with
  | byt j=>obtain⟨t',rfl⟩ :=ry;exact PySem.W.eq_bytes (Yu I q JmM)
  | _=>exact absurd (show false=true from hs) Bool.false_ne_true
 | _=>cases y<;>exact absurd (show false=true from hs) Bool.false_ne_true
theorem JdX:OpR X (compareOp .NotEq) rNe:=by
 intro pins s σ H x y v u Q I rx ry h;obtain⟨hs,q⟩ :=h
 cases x with
 | non=>
  cases rx
  cases y with
  | non=>cases ry;exact PySem.EqNone.ne_none_none (Yu I q (by simp))
  | bl j=>cases ry;exact PySem.EqNone.ne_none_bool (Yu I q (by simp))
  | int j=>obtain⟨t',rfl⟩ :=ry;exact PySem.EqNone.ne_none_int (Yu I q (by simp))
  | str j=>obtain⟨t',rfl⟩ :=ry;exact PySem.EqNone.ne_none_str (Yu I q (by simp))
  | _=>exact absurd (show false=true from hs) Bool.false_ne_true
 | bl i=>
  cases rx
  cases y with
  | non=>cases ry;exact PySem.EqNone.ne_bool_none (Yu I q (by simp))
  | bl j=>cases ry;exact ne_bool (Yu I q (congrArg not JoW))
  | str j=>obtain⟨t',rfl⟩ :=ry;exact PySem.EqMixed.ne_bool_str (Yu I q (by simp))
  | _=>exact absurd (show false=true from hs) Bool.false_ne_true
 | int i=>
  obtain⟨t,rfl⟩ :=rx
  cases y with
  | non=>cases ry;exact PySem.EqNone.ne_int_none (Yu I q (by simp))
  | int j=>obtain⟨t',rfl⟩ :=ry;exact ne_int (Yu I q (congrArg not Jl0))
  | str j=>obtain⟨t',rfl⟩ :=ry;exact PySem.EqMixed.ne_int_str (Yu I q (by simp))
  | _=>exact absurd (show false=true from hs) Bool.false_ne_true
 | str i=>
  obtain⟨t,rfl⟩ :=rx
  cases y with
  | non=>cases ry;exact PySem.EqNone.ne_str_none (Yu I q (by simp))
  | bl j=>cases ry;exact PySem.EqMixed.ne_str_bool (Yu I q (by simp))
  | int j=>obtain⟨t',rfl⟩ :=ry;exact PySem.EqMixed.ne_str_int (Yu I q (by simp))
  | str j=>obtain⟨t',rfl⟩ :=ry;exact ne_str (Yu I q (congrArg not JlM))
  | _=>exact absurd (show false=true from hs) Bool.false_ne_true
 | byt i=>
  obtain⟨t,rfl⟩ :=rx
  cases y with
  | byt j=>obtain⟨t',rfl⟩ :=ry;exact PySem.W.ne_bytes (Yu I q (congrArg not JmM))
  | _=>exact absurd (show false=true from hs) Bool.false_ne_true
 | _=>cases y<;>exact absurd (show false=true from hs) Bool.false_ne_true
theorem JrM:OpR X (compareOp .Lt) (rI0 fun i j=>.bl (decide (i<j))):=Jrq fun _ _ _ _ _ _ _ q=>lt_int q
theorem JrE:OpR X (compareOp .LtE) (rI0 fun i j=>.bl (decide (i<=j))):=Jrq fun _ _ _ _ _ _ _ q=>le_int q
theorem JrA:OpR X (compareOp .Gt) (rI0 fun i j=>.bl (decide (j<i))):=Jrq fun _ _ _ _ _ _ _ q=>gt_int q
theorem Jsb:OpR X (compareOp .GtE) (rI0 fun i j=>.bl (decide (j<=i))):=Jrq fun _ _ _ _ _ _ _ q=>ge_int q
theorem Jx(b:Expr){op:CmpOp}(h:op≠.In:=by decide)(h2:op≠.NotIn:=by decide):behindInMarks op b=false:=by
 have e1:(op==CmpOp.In)=false:=by cases op<;>first|rfl|exact absurd rfl h
 have e2:(op==CmpOp.NotIn)=false:=by cases op<;>first|rfl|exact absurd rfl h2
 cases b<;>simp[behindInMarks,e1,e2]
theorem Jcl{op:CmpOp}{r:R2}(ho:OpR X (compareOp op) r)(ha:PE X a ta)(hb:PE X b tb)(hm:behindInMarks op b=false):PE X (.Compare a [op] [b] pos) (tOp r ta tb):=by
 intro pins s σ H Q I h;exact wpAny_Compare1 (JrP ha hb I h fun v u s2 x y H2 I2 rx ry q=>ho pins s2 σ H2 x y v u Q I2 rx ry q) hm
noncomputable def Jqz(t:TE):TT:=fun σ H Q=>t σ H fun x H'=>BlI x H' Q
theorem Jq{op:CmpOp}{r:R2}(ho:OpR X (compareOp op) r)(ha:PE X a ta)(hb:PE X b tb)(hm:behindInMarks op b=false):PT X (.Compare a [op] [b] pos) (Jqz (tOp r ta tb)):=by
 intro pins s σ H Q I h;refine wpAny_isTrue_Compare1 (thn (ha pins s σ H _ I h) fun v s1 hzz=>?_) hm;obtain⟨x,H1,I1,r1,q1⟩ :=hzz;refine thn (hb pins s1 σ H1 _ I1 q1) fun u s2 hzz=>?_;obtain⟨y,H2,I2,r2,q2⟩ :=hzz;refine thn (ho pins s2 σ H2 x y v u _ I2 r1 r2 q2) fun c s3 hzz=>?_;obtain⟨z,H3,I3,r3,k,e,q3⟩ :=hzz;subst e;cases r3;exact wpAny_truthy_bool ⟨H3,I3,q3⟩
noncomputable def Jqf(r r':R2)(ta tb tc:TE):TE:=fun σ H Q=>ta σ H fun x H1=>tb σ H1 fun y H2=>r x y H2 fun z H3=>∃k,z=.bl k/\
 (if k=true then tc σ H3 fun w' H4=>r' y w' H4 Q else Q (.bl false) H3)
theorem JnD{op op':CmpOp}{r r':R2}(ho:OpR X (compareOp op) r)(ho':OpR X (compareOp op') r')(ha:PE X a ta)(hb:PE X b tb)(hc:PE X c tc)
  (hm:lastMarks [op,op'] [b,c]=false:=by with_unfolding_all rfl):PT X (.Compare a [op,op'] [b,c] pos) (Jqz (Jqf r r' ta tb tc)):=by
 intro pins s σ H Q I h;refine isTrue_chain (thn (ha pins s σ H _ I h) fun v s1 hzz=>?_) hm;obtain⟨x,H1,I1,r1,q1⟩ :=hzz;refine test_link (thn (hb pins s1 σ H1 _ I1 q1) fun u s2 hzz=>?_);obtain⟨y,H2,I2,r2,q2⟩ :=hzz;refine thn (ho pins s2 σ H2 x y v u _ I2 r1 r2 q2) fun d s3 hzz=>?_;obtain⟨z,H3,I3,r3,k,e,q3⟩ :=hzz;subst e;cases r3;refine wpAny_truthy_bool ?_
 cases k with
 | false=>
  obtain⟨k',e',q'⟩ :=q3;cases e';exact ite_ff ⟨H3,I3,q'⟩
 | true=>
  refine ite_tt (test_last (thn (hc pins s3 σ H3 _ I3 q3) fun w' s4 hzz=>?_));obtain⟨z',H4,I4,r4,q4⟩ :=hzz;refine thn (ho' pins s4 σ H4 y z' u w' _ I4 r2 r4 q4) fun d' s5 hzz=>?_;obtain⟨z2,H5,I5,r5,k2,e2,q5⟩ :=hzz;subst e2;cases r5;exact wpAny_truthy_bool ⟨H5,I5,q5⟩
def Jsj(K:WF)(x:V)(H:Hp)(k:Bool):Prop:=
 match x with
 | .non=>k=false
 | .bl b=>k=b
 | .int i=>k=(i != 0)
 | .str y=>y.length<=B2/\k=((y.length:Int) != 0)
 | .byt y=>y.size<=B2/\k=((y.size:Int) != 0)
 | .ref p=>(∃xs,SqL K H p xs/\k=!xs.isEmpty)\/(∃xs,SqT K H p xs/\k=!xs.isEmpty)\/∃kvs,H p=some (.dK kvs)/\k=!kvs.isEmpty
 | _=>False
theorem JkS{κ:Type}{kvs:List (κ×V)}{vs:List (κ×Value)}(r:KV kvs vs):(!vs.isEmpty)=!kvs.isEmpty:=by
 cases r<;>rfl
theorem Jgu{xs:List V}{its:List Value}(r:YZ xs its):(!its.toArray.isEmpty)=!xs.isEmpty:=by
 cases r<;>simp
theorem Jis:(B2:Nat)<2^63:=by rw[sizeLine_eq];decide
theorem JqS:JsG X (fun x H Q=>∃k,Jsj X.K x H k/\Q k H):=by
 intro pins s σ H x v Q I rx h;obtain⟨k,e,q⟩ :=h;have hl:=Jis;have hs:B2=16777216:=sizeLine_eq
 cases x with
 | non=>
  cases rx;have e':k=false:=e;subst e';exact truthy_none ⟨H,I,q⟩
 | bl b=>
  cases rx;have e':k=b:=e;subst e';exact wpAny_truthy_bool ⟨H,I,q⟩
 | int i=>
  obtain⟨t,rfl⟩ :=rx;have e':k=(i != 0):=e;subst e';exact PySem.P.truthy_int ⟨H,I,q⟩
 | str y=>
  obtain⟨t,rfl⟩ :=rx;obtain⟨hy,e'⟩:y.length<=B2/\k=((y.length:Int) != 0):=e;subst e';exact PySem.P.truthy_str (by omega) ⟨H,I.tok _,q⟩
 | byt y=>
  obtain⟨t,rfl⟩ :=rx;obtain⟨hy,e'⟩:y.size<=B2/\k=((y.size:Int) != 0):=e;subst e';exact PySem.W.truthy_bytes (by omega) ⟨H,I.tok _,q⟩
 | ref p=>
  cases rx;have e':(∃xs,SqL X.K H p xs/\k=!xs.isEmpty)\/(∃xs,SqT X.K H p xs/\k=!xs.isEmpty)\/∃kvs,H p=some (.dK kvs)/\k=!kvs.isEmpty:=e
  rcases e' with⟨xs,hx,e'⟩|⟨xs,hx,e'⟩|⟨kvs,hx,e'⟩
  .subst e';obtain⟨its,r,pl,hz⟩ :=I.list hx;have hlen:=r.length;exact wpAny_truthy_list pl.isList (by simp only[B0];omega) ⟨H,I.tok _,by rw[Jgu r];exact q⟩
  .subst e';obtain⟨its,r,pl,hz⟩ :=I.tuple hx;have hlen:=r.length;exact truthy_tuple pl (by simp only[B0];omega) ⟨H,I.tok _,by rw[Jgu r];exact q⟩
  .subst e';obtain⟨hz,hS,vs,r,m⟩:kvs.length<=B2/\(p==sysModules)=false/\∃vs,KV kvs vs/\s.heap.DictOf (Yc X.prog X.w) p vs:=I.hok p _ hx;have hlen:kvs.length=vs.length:=Paired.length r;exact wpAny_truthy_dict hS m (by omega) ⟨H,I.tok _,by rw[JkS r];exact q⟩
 | _=>exact(show False from e).elim
theorem Jj0(ha:PE X a ta)(he:∀whole,isTrue a X.env whole=(do let v <- whole;standAt a.pos;holding [v] (truthy v))) :
  PT X a (fun σ H Q=>ta σ H fun x H'=>∃k,Jsj X.K x H' k/\Q k H'):=by
 intro pins s σ H Q I h;refine isTrue_plain (thn (ha pins s σ H _ I h) fun v s1 hzz=>?_) (he _);obtain⟨x,H1,I1,r1,q1⟩ :=hzz;exact JqS pins s1 σ H1 x v Q I1 r1 q1
theorem Jgt:OpR X (binaryOp .Add) (fun x y H Q=>∃i j,x=.str i/\y=.str j/\i.length+j.length<=B2/\Q (.str (i++j)) H):=by
 intro pins s σ H x y v u Q I rx ry h;obtain⟨i,j,rfl,rfl,hz,q⟩ :=h;obtain⟨t,rfl⟩ :=rx;obtain⟨t',rfl⟩ :=ry;exact add_str (fun t' tk=>⟨.str (i++j),H,I.tok _,⟨_,rfl⟩,q⟩) hz
theorem Jds{x:V}{us:List Value}(r:YZ [x] us):∃u,us=[u]/\Jad x u:=by
 cases r with
 | cons r1 r2=>cases r2;exact⟨_,rfl,r1⟩
theorem Jja{x y:V}{us:List Value}(r:YZ [x,y] us):∃u w',us=[u,w']/\Jad x u/\Jad y w':=by
 cases r with
 | cons r1 r2=>
  cases r2 with
  | cons r3 r4=>cases r4;exact⟨_,_,rfl,r1,r3⟩
theorem Jbd(hc:X.calm=true):JbX X (.builtin "max") (fun xs H Q=>∃i j,xs=[.int i,.int j]/\Q (.int (if j>i then j else i)) H):=by
 intro pins s σ H xs us Q I r h;obtain⟨i,j,rfl,q⟩ :=h;obtain⟨u,w',rfl,⟨t,rfl⟩,⟨t',rfl⟩⟩ :=Jja r;refine max_two_ints (I.ok.hd hc) fun h' tk k=>⟨_,H,I.kept k,?_,q⟩
 by_cases hj:j>i
 .rw[if_pos hj,if_pos hj];exact⟨_,rfl⟩
 .rw[if_neg hj,if_neg hj];exact⟨_,rfl⟩
theorem Jcy(hc:X.calm=true):JbX X (.builtin "min") (fun xs H Q=>∃i j,xs=[.int i,.int j]/\Q (.int (if j<i then j else i)) H):=by
 intro pins s σ H xs us Q I r h;obtain⟨i,j,rfl,q⟩ :=h;obtain⟨u,w',rfl,⟨t,rfl⟩,⟨t',rfl⟩⟩ :=Jja r;refine min_two_ints (I.ok.hd hc) fun h' tk k=>⟨_,H,I.kept k,?_,q⟩
 by_cases hj:j<i
 .rw[if_pos hj,if_pos hj];exact⟨_,rfl⟩
 .rw[if_neg hj,if_neg hj];exact⟨_,rfl⟩
theorem JdG:JbX X (.type "int") (fun xs H Q=>(∃i,xs=[.int i]/\Q (.int i) H)\/∃k,xs=[.bl k]/\Q (.int (if k then 1 else 0)) H):=by
 intro pins s σ H xs us Q I r h
 rcases h with⟨i,rfl,q⟩|⟨k,rfl,q⟩
 .obtain⟨u,rfl,t,rfl⟩ :=Jds r;exact call_int_int ⟨.int i,H,I,⟨_,rfl⟩,q⟩
 .obtain⟨u,rfl,r1⟩ :=Jds r;cases r1;exact call_int_bool ⟨.int (if k then 1 else 0),H,I.tok _,⟨_,rfl⟩,q⟩
end
end L2
namespace L2
open PySem PySem.Spec PyProof.Rows
structure JpT(h:Heap)(x dx C:Addr)(mA:MO):Prop where
 obj:h.get? x=some (PySem.W.instObj C dx)
 ns:h.Ns1 dx mA
 ne:dx≠x
theorem Jm6{h:Heap}{dx:Addr}{mA:MO}(n:h.Ns1 dx mA):∃od,h.get? dx=some od/\∀name,PySem.W.lookIn name od=some (mA name):=by
 obtain⟨o,es,ep,ho,hd,hk,_,hm⟩ :=n;refine⟨o,ho,fun name=>?_⟩;have e:=hm name;unfold nsFind findBy at e;rw[<- Array.find?_toList]at e;unfold PySem.W.lookIn;rw[hd];dsimp only;split
 .rename_i y q;rw[q]at e;exact congrArg some e
 .rename_i q;rw[q]at e
  have a:es.toList.any (·.refKey)=false:=by
   rw[List.any_eq_false];intro y hy;obtain⟨z,t,hkey⟩ :=hk y (Array.mem_toList_iff.mp hy);simp[DictEntry.refKey,hkey]
  have a':¬es.toList.any (·.refKey)=true:=by rw[a];exact Bool.false_ne_true
  rw[if_neg a'];exact congrArg some e
theorem JpT.look{h:Heap}{x dx C:Addr}{mA:MO}(I:JpT h x dx C mA):∃od,PySem.W.InstAt h x (PySem.W.instObj C dx) C (some od)/\∀name,PySem.W.lookIn name od=some (mA name):=
 let ⟨od,ho,hl⟩ :=Jm6 I.ns
 ⟨od,⟨I.obj,rfl,rfl,ho⟩,hl⟩
section
variable {prog:Program} {w:World} {A:Around} {E:Value→Shared→Prop} {s:Shared} {K:WF} {x dx C f:Addr} {mA:Str→Option Value} {name:Str} {v:Value}
theorem Jpm{expr:Bool}{Q:VS}(X:K.In s.heap)(I:JpT s.heap x dx C mA)(hg:PySem.W.plainGet K C name=true)(hh:PySem.W.hasDictIn K C=true)
  (ha:PySem.W.findIn K (.ref C) name=some none) (hv:mA name=some v) (hv':PySem.W.handedIn v=true) (h:Q v { s with toks:=s.toks+1 }) :
  wpAny (model prog w) A (getAttr (.ref x) name expr) Q E s:=by
 obtain⟨od,J,hl⟩ :=I.look;exact PySem.W.get_value X J (PySem.W.plainGet_of hg).1 (PySem.W.findObj_own hh ha rfl (by rw[hl,hv])) hv' h
theorem Jnt{pl:Sem Bool}{Q:Value×List Value->Shared->Prop}(X:K.In s.heap)(I:JpT s.heap x dx C mA)(hg:PySem.W.plainGet K C name=true)
  (hf:PySem.W.findIn K (.ref C) name=some (some (.ref f))) (ht:PySem.W.isFn K (.ref f)=true) (hv:mA name=none) (h:Q (.ref f,[.ref x]) s) :
  wpAny (model prog w) A (getMethod (.ref x) name pl) Q E s:=by
 obtain⟨od,J,hl⟩ :=I.look;exact PySem.W.method_fn X J (PySem.W.plainGet_of hg).1 (PySem.W.plainGet_of hg).2 hf (beq_iff_eq.mp ht) (by show(PySem.W.lookIn name od).map (·.isSome)=some false;rw[hl,hv];rfl) h
theorem JpO{ns:List Str}{Q:Unit->Shared->Prop}(X:K.In s.heap)(I:JpT s.heap x dx C mA)
  (hs:PySem.W.findIn K (.ref C) "__setattr__" = some (some (.builtin "object.__setattr__"))) (hp:PySem.W.plainOver K C=true) (ht:PySem.W.takerIn K C name=some none) (hh:PySem.W.hasDictIn K C=true)
  (hw:PySem.Within mA ns) (hsz:ns.length<=B2)
  (h:∀h',JpT h' x dx C (fun y=>if y=name then some v else mA y)->Heap.SameBut dx s.heap h'->Q () { s with heap:=h',toks:=s.toks+2 }) :
  wpAny (model prog w) A (setAttr (.ref x) name v) Q E s:=by
 obtain⟨od,J,hl⟩ :=I.look;refine PySem.W.set_plain X J hs (PySem.W.osa_open (s:={ s with toks:=s.toks+1 }) (r:=none) X J hp ht fun b=>?_);obtain⟨cd,hc,hd'⟩ :=PySem.W.any_some hh;have hx:s.heap.get? x=some ⟨.ref C,some dx,.plain,#[]⟩ :=I.obj;refine A0 (A9 (A0 (A0 (wpAny_loadPart hx (A0 (PySem.W.Looks.here (s:={ s with toks:=s.toks+1 }) (PySem.W.looks_clsIn X hc) ?_))))));rw[hd'];refine A9 (a:=some dx) (A0 (A9 (A0 ?_)));refine wpAny_nsSet1 (s:={ s with toks:=s.toks+1 }) I.ns fun h' hn2 hs2=>?_;obtain⟨oD,esD,epD,hoD,hdD,hcD⟩ :=hn2.count (PySem.Within.cons name v hw);refine A0 (wpAny_lookBehind hoD (by rw[hdD];exact pastItsLine_dict (Nat.le_trans hcD (by rw[List.length_cons];omega))) ?_);exact A9 (h _ ⟨(hs2.2 _ (Ne.symm I.ne)).trans I.obj,hn2,I.ne⟩ hs2)
theorem JnF{R:Result->Shared->Prop}{vs:List Value}{kw:List (Str×Value)}(X:K.In s.heap)(hm:PySem.W.makesIn K C=true)
  (hi:PySem.W.findIn K (.ref C) "__init__" = some (some (.ref f))) (hf:PySem.W.typeIn K (.ref f)=some (.type "function"))
  (h:codeAny (model prog w) (A.under (.builtin "type.__call__" ⟨.ref C::vs,kw⟩)) (.call (.ref f) ⟨.ref (s.heap.objs.size+1)::vs,kw⟩) (PySem.W.InitBack (s.heap.objs.size+1) R)
   { s with heap:=(s.heap.push PySem.W.emptyDict).push (PySem.W.instObj C s.heap.objs.size) }) :
  codeAny (model prog w) A (.call (.ref C) ⟨vs,kw⟩) R s:=by
 obtain⟨hh,g,d,t,os⟩ :=s;exact PySem.W.make_core (PySem.W.makes_of X hm) (PySem.W.looks_findIn X hi) (fun self=>PySem.W.bind_fn X self hf) (.inl rfl) h
end
noncomputable def Jdb(f:Str)(v:V):List (Str×V)->List (Str×V)
 | []=>[(f,v)]
 | (g,x)::r=>if g=f then(g,v)::r else(g,x)::Jdb f v r
theorem Yn(f g:Str)(v:V):∀fs:List (Str×V),(Jdb f v fs).lookup g=if g=f then some v else fs.lookup g
 | []=>by
  show List.lookup g [(f,v)]=_
  by_cases h:g=f
  .have hb:(g==f)=true:=beq_iff_eq.mpr h;simp only[List.lookup,hb,if_pos h]
  .have hb:(g==f)=false:=beq_eq_false_iff_ne.mpr h;simp only[List.lookup,hb,if_neg h]
 | (k,x)::r=>by
  have ih:=Yn f g v r;rw[show Jdb f v ((k,x)::r)=(if k=f then(k,v)::r else(k,x)::Jdb f v r) from rfl]
  by_cases hk:k=f
  .rw[if_pos hk]
   by_cases h:g=k
   .have hb:(g==k)=true:=beq_iff_eq.mpr h;simp only[List.lookup,hb,if_pos (h.trans hk)]
   .have hb:(g==k)=false:=beq_eq_false_iff_ne.mpr h;simp only[List.lookup,hb,if_neg (fun e:g=f=>h (e.trans hk.symm))]
  .rw[if_neg hk]
   by_cases h:g=k
   .have hb:(g==k)=true:=beq_iff_eq.mpr h;simp only[List.lookup,hb,if_neg (fun e:g=f=>hk (h.symm.trans e))]
   .have hb:(g==k)=false:=beq_eq_false_iff_ne.mpr h;simp only[List.lookup,hb];exact ih
theorem Jfm(f:Str)(v:V):∀fs:List (Str×V),f∈(Jdb f v fs).map (·.1)/\∀g,g∈fs.map (·.1)->g∈(Jdb f v fs).map (·.1)
 | []=>⟨by simp[Jdb],fun g h=>by simp at h⟩
 | (k,x)::r=>by
  obtain⟨i1,i2⟩ :=Jfm f v r;rw[show Jdb f v ((k,x)::r)=(if k=f then(k,v)::r else(k,x)::Jdb f v r) from rfl]
  by_cases hk:k=f
  .rw[if_pos hk];subst hk;exact⟨by simp,fun g h=>by simpa using h⟩
  .rw[if_neg hk];refine⟨?_,fun g h=>?_⟩
   .rw[List.map_cons];exact List.mem_cons_of_mem _ i1
   .rw[List.map_cons]at h ⊢
    rcases Ax.mp h with e|e
    .exact Ax.mpr (.inl e)
    .exact List.mem_cons_of_mem _ (i2 g e)
theorem Jfu(f:Str)(v:V):∀fs:List (Str×V),(Jdb f v fs).length<=fs.length+1
 | []=>by simp[Jdb]
 | (k,x)::r=>by
  have ih:=Jfu f v r;rw[show Jdb f v ((k,x)::r)=(if k=f then(k,v)::r else(k,x)::Jdb f v r) from rfl]
  by_cases hk:k=f
  .rw[if_pos hk,List.length_cons,List.length_cons];omega
  .rw[if_neg hk,List.length_cons,List.length_cons];omega
theorem Jhz.some_of{v:V}{o:Option Value}(r:Jhz (some v) o):∃u,o=some u/\Jad v u:=by
 cases o with
 | none=>exact(show False from r).elim
 | some u=>exact⟨u,rfl,r⟩
theorem Jhz.none_of{o:Option Value}(r:Jhz none o):o=none:=by
 cases o with
 | none=>rfl
 | some u=>exact(show False from r).elim
theorem Jmi{v:V}{u:Value}(r:Jad v u):PySem.W.handedIn u=true:=by
 cases v with
 | non=>cases(show u=Value.none from r);rfl
 | bl b=>cases(show u=Value.bool b from r);rfl
 | int i=>obtain⟨t,e⟩ :=(show∃t,u=Value.int i t from r);cases e;rfl
 | str x=>obtain⟨t,e⟩ :=(show∃t,u=Value.str x t from r);cases e;rfl
 | byt b=>obtain⟨t,e⟩ :=(show∃t,u=Value.bytes b t from r);cases e;rfl
 | flt b=>obtain⟨t,e⟩ :=(show∃t,u=Value.float b t from r);cases e;rfl
 | ref a=>cases(show u=Value.ref a from r);rfl
 | ty n=>cases(show u=Value.type n from r);rfl
section
variable {P:Program} {w:World} {H H':Hp} {h h':Heap} {a C dx:Addr} {fs fs':List (Str×V)}
theorem Jg7(hok:HOk P w H h)(e:H a=some (.ins C dx fs)):∃mA,JpT h a dx C mA/\(∀f,Jhz (fs.lookup f) (mA f))/\PySem.Within mA (fs.map (·.1))/\fs.length<=1000/\H dx=some (.own a):=by
 obtain⟨d,z,ne,ob,mA,n,r,q⟩ :=(show Ym P w H h a (.ins C dx fs) from hok a _ e);exact⟨mA,⟨ob,n,ne⟩,r,q,z,d⟩
end
structure Cls(K:WF)(C:Addr):Prop where
 pg:PySem.W.plainGet K C Str.empty=true
 hd:PySem.W.hasDictIn K C=true
 po:PySem.W.plainOver K C=true
 sa:PySem.W.findIn K (.ref C) "__setattr__" = some (some (.builtin "object.__setattr__"))
theorem Cls.get{K:WF}{C:Addr}(c:Cls K C)(f:Str):PySem.W.plainGet K C f=true:=c.pg
def Jal(K:WF)(C:Addr)(f:Str):Prop:=PySem.W.findIn K (.ref C) f=some none
theorem Jal.taker{K:WF}{C:Addr}{f:Str}(n:Jal K C f):PySem.W.takerIn K C f=some none:=by
 unfold PySem.W.takerIn;rw[show PySem.W.findIn K (.ref C) f=some none from n];rfl
structure Jrs(K:WF)(C:Addr)(m:Str)(f:Addr):Prop where
 at_:PySem.W.findIn K (.ref C) m=some (some (.ref f))
 fn:PySem.W.isFn K (.ref f)=true
 kp:PySem.W.keepIn K (.ref f)=true
section
variable {X:Cx} {pins:PL} {σ:St} {H:Hp} {s:Shared} {a C dx:Addr} {fs:List (Str×V)} {f:Str} {v:V} {A:Around} {E:Value→Shared→Prop}
theorem Jko{b:Bool}{Q:VS}(I:Inv X pins σ H s)(e:H a=some (.ins C dx fs))(c:Cls X.K C)(n:Jal X.K C f)(l:fs.lookup f=some v)
  (h:∀u s',Inv X pins σ H s'->Jad v u->Q u s'):wpAny (model X.prog X.w) A (getAttr (.ref a) f b) Q E s:=by
 obtain⟨mA,O,r,_,_,_⟩ :=Jg7 I.hok e;obtain⟨u,hu,ru⟩ :=Jhz.some_of (v:=v) (o:=mA f) (by rw[<- l];exact r f);exact Jpm I.kIn O (c.get f) c.hd n hu (Jmi ru) (h u _ (I.tok _) ru)
theorem Jgw{m:Str}{g:Addr}{pl:Sem Bool}{Q:Value×List Value->Shared->Prop}(I:Inv X pins σ H s)(e:H a=some (.ins C dx fs))(c:Cls X.K C)(k:Jrs X.K C m g)(l:fs.lookup m=none)
  (h:Q (.ref g,[.ref a]) s):wpAny (model X.prog X.w) A (getMethod (.ref a) m pl) Q E s:=by
 obtain⟨mA,O,r,_,_,_⟩ :=Jg7 I.hok e;have hn:mA m=none:=Jhz.none_of (by rw[<- l];exact r m);exact Jnt I.kIn O (c.get m) k.at_ k.fn hn h
theorem Jkm{y:V}{u:Value}{Q:Unit->Shared->Prop}(I:Inv X pins σ H s)(e:H a=some (.ins C dx fs))(c:Cls X.K C)(n:Jal X.K C f)(hl:fs.length<1000)(ry:Jad y u)
  (h:∀s',Inv X pins σ (upd H a (.ins C dx (Jdb f y fs))) s'->Q () s'):wpAny (model X.prog X.w) A (setAttr (.ref a) f u) Q E s:=by
 obtain⟨mA,O,r,wi,_,ho⟩ :=Jg7 I.hok e
 have hz:(fs.map (·.1)).length<=B2:=by rw[A2,sizeLine_eq];omega
 refine JpO I.kIn O c.sa c.po n.taker c.hd wi hz fun h' O' sb=>h _ ?_
 have hd:∃o,h'.get? dx=some o:=let ⟨o,_,_,e',_⟩ :=O'.ns;⟨o,e'⟩
 refine I.write (x:=a) (e:=dx) (by rw[e];exact True.intro) (.inr ho) (fun b q hb z=>(sb.2 b hb).trans z) hd ?_;refine⟨by rw[Jf O.ne];exact ho,?_,O.ne,O'.obj,_,O'.ns,fun g=>?_,fun g hg=>?_⟩
 .have:=Jfu f y fs;omega
 .show Jhz ((Jdb f y fs).lookup g) (if g=f then some u else mA g);rw[Yn]
  by_cases q:g=f
  .rw[if_pos q,if_pos q];exact ry
  .rw[if_neg q,if_neg q];exact r g
 .by_cases q:g=f
  .rw[q];exact(Jfm f y fs).1
  .refine(Jfm f y fs).2 g (wi g fun z=>hg ?_);show(if g=f then some u else mA g)=none;rw[if_neg q];exact z
theorem Inv.made(I:Inv X pins σ H s):Inv X pins σ (upd (upd H s.heap.objs.size (.own (s.heap.objs.size+1))) (s.heap.objs.size+1) (.ins C s.heap.objs.size []))
  { s with heap:=(s.heap.push PySem.W.emptyDict).push (PySem.W.instObj C s.heap.objs.size) }:=by
 have e1:(s.heap.push PySem.W.emptyDict).get? s.heap.objs.size=some PySem.W.emptyDict:=Aw s.heap rfl
 have e2:((s.heap.push PySem.W.emptyDict).push (PySem.W.instObj C s.heap.objs.size)).get? (s.heap.objs.size+1)=some (PySem.W.instObj C s.heap.objs.size):=by
  have:=Aw (s.heap.push PySem.W.emptyDict) (o:=PySem.W.instObj C s.heap.objs.size) rfl
  rwa [Heap.size_push]at this
 have e3:(s.heap.push PySem.W.emptyDict).Ns s.heap.objs.size (fun _=>none):=⟨PySem.W.emptyDict,#[],_,e1,rfl,(fun e he=>absurd he (by simp)),fun _=>rfl⟩;have I1:=I.laid (a:=s.heap.objs.size) (o:=.own (s.heap.objs.size+1)) (h':=s.heap.push PySem.W.emptyDict) (t':=s.toks) (fun b u q=>A4 _ q) (A5 _) ⟨_,e1⟩;refine I1.laid (a:=s.heap.objs.size+1) (o:=.ins C s.heap.objs.size []) (t':=s.toks) (fun b u q=>A4 _ q) (Nat.le_of_eq (Heap.size_push _ _)) ?_;have ne:s.heap.objs.size≠s.heap.objs.size+1:=B6 (Nat.lt_succ_self _);refine⟨by rw[Jf ne,Ja],Bz _,ne,e2,fun _=>none,(Heap.Ns1.of_empty e3).at fun o q=>A4 _ q,fun _=>True.intro,fun y hy=>absurd rfl hy⟩
theorem JpS{prog:Program}{w:World}{env:Env}{e:Expr}{f:Str}{pos:Pos}{s:Shared}{Q:VS}(hb:attributeBase e f env (eval e env)=eval e env)
  (h:wpAny (model prog w) A (eval e env) (fun o s₁=>wpAny (model prog w) A (getAttr o f true) Q E s₁) E s):wpAny (model prog w) A (eval (.Attribute e f pos) env) Q E s:=
 Attribute_any_ h (by rw[arm_eval_Attribute,hb])
end
inductive FlI(K:WF)(f:Str)(x:V)(H:Hp)(Q:VK):Prop
 | mk (a C dx:Addr) (fs:List (Str×V)) (v:V) (e:x=.ref a) (h:H a=some (.ins C dx fs)) (c:Cls K C) (n:Jal K C f) (l:fs.lookup f=some v) (q:Q v H):FlI K f x H Q
noncomputable def JsY(K:WF)(ta:TE)(f:Str):TE:=fun σ H Q=>ta σ H fun x H1=>FlI K f x H1 Q
inductive FsI(K:WF)(f:Str)(x y:V)(H:Hp)(Q:Hp->Prop):Prop
 | mk (a C dx:Addr) (fs:List (Str×V)) (e:x=.ref a) (h:H a=some (.ins C dx fs)) (c:Cls K C) (n:Jal K C f) (l:fs.length<1000) (q:Q (upd H a (.ins C dx (Jdb f y fs)))):FsI K f x y H Q
noncomputable def Jss(K:WF)(ta tv:TE)(f:Str):TS:=fun D σ H=>tv σ H fun y H1=>ta σ H1 fun x H2=>FsI K f x y H2 (D.nx σ)
section
variable {X:Cx} {o e value:Expr} {f:Str} {pos pos' tpos:Pos} {ta tv:TE}
theorem Jbk(he:PE X e ta)(hb:attributeBase e f X.env (eval e X.env)=eval e X.env):PE X (.Attribute e f pos) (JsY X.K ta f):=by
 intro pins s σ H Q I h;refine JpS hb (thn (he pins s σ H _ I h) fun u s1 hzz=>?_);obtain⟨x,H1,I1,rx,a,C,dx,fs,v,ex,ea,c,n,l,q⟩ :=hzz;subst ex;obtain rfl:u=Value.ref a:=rx;exact Jko I1 ea c n l fun u' s2 I2 ru=>⟨v,H1,I2,ru,q⟩
theorem Jdm(ha:PE X o ta)(hv:PE X value tv)(hs:swapsWith value (some (.Attribute o f pos')) pos.line X.env=pure false):PS X (.Assign [.Attribute o f pos'] value pos) (Jss X.K ta tv f):=by
 intro pins s σ H D I h;refine plainObj_wpAny_Assign_Attribute (thn (hv pins s σ H _ I h) fun u s1 hzz=>?_) hs;obtain⟨y,H1,I1,ry,q⟩ :=hzz;refine thn (ha pins s1 σ H1 _ I1 q) fun ov s2 hzz=>?_;obtain⟨x,H2,I2,rx,a,C,dx,fs,ex,ea,c,n,l,q2⟩ :=hzz;subst ex;obtain rfl:ov=Value.ref a:=rx;exact Jkm I2 ea c n l ry fun s3 I3=>⟨σ,_,I3,q2⟩
end
section
variable {X:Cx} {pins:PL} {σ:St} {H:Hp} {s:Shared} {A:Around} {E:Value→Shared→Prop} {Q:Value→Shared→Prop} {c:Value} {b:Bool}
inductive Jjq(K:WF)(H:Hp):V->Value->Prop where
 | non:Jjq K H .non (.type "NoneType")
 | bl (x:Bool):Jjq K H (.bl x) (.type "bool")
 | int (i:Int):Jjq K H (.int i) (.type "int")
 | str (x:Str):Jjq K H (.str x) (.type "str")
 | flt (x:UInt64):Jjq K H (.flt x) (.type "float")
 | lst {a:Addr} {xs:List V} (e:H a=some (.lst xs)):Jjq K H (.ref a) (.type "list")
 | frz {a:Addr} {o:Obj} {xs:List V} (e:H a=some (.frz o (.lst xs))):Jjq K H (.ref a) (.type "list")
 | tup {a:Addr} {xs:List V} (e:H a=some (.tup xs)):Jjq K H (.ref a) (.type "tuple")
 | dK {a:Addr} {kvs:List (Key×V)} (e:H a=some (.dK kvs)):Jjq K H (.ref a) (.type "dict")
 | dT {a:Addr} {kvs:List (List Key×V)} (e:H a=some (.dT kvs)):Jjq K H (.ref a) (.type "dict")
 | ins {a C dx:Addr} {fs:List (Str×V)} (e:H a=some (.ins C dx fs)) (cl:Cls K C) (ha:PySem.W.findIn K (.ref C) "__class__" = some (some (.builtin "object.__class__")))
   (hn:PySem.W.specialIn K (.builtin "object.__class__") "__get__" = some (some (.builtin "getset_descriptor.__get__"))) (htk:PySem.W.takesIn K (.builtin "object.__class__")=some true)
   (hm:PySem.W.mroIn K C (.type "object")=some true):Jjq K H (.ref a) (.ref C)
theorem JlA{x:V}{u t:Value}(I:Inv X pins σ H s)(rx:Jad x u)(ty:Jjq X.K H x t)(e:PySem.W.kitOne X.K t c=some b)(h:∀tk,Q (.bool b) { s with toks:=tk }) :
  wpAny (model X.prog X.w) A (call (.builtin "isinstance") [u,c]) Q E s:=by
 cases ty with
 | non=>cases(show u=Value.none from rx);exact PySem.W.kia_one PySem.W.kitx_none I.kIn True.intro e (fun z=>nomatch z) h
 | bl y=>cases(show u=Value.bool y from rx);exact PySem.W.kia_one PySem.W.kitx_bool I.kIn True.intro e (fun z=>nomatch z) h
 | int i=>obtain⟨t,q⟩ :=(show∃t,u=Value.int i t from rx);cases q;exact PySem.W.kia_one PySem.W.kitx_int I.kIn True.intro e (fun z=>nomatch z) h
 | str y=>obtain⟨t,q⟩ :=(show∃t,u=Value.str y t from rx);cases q;exact PySem.W.kia_one PySem.W.kitx_str I.kIn True.intro e (fun z=>nomatch z) h
 | flt y=>obtain⟨t,q⟩ :=(show∃t,u=Value.float y t from rx);cases q;exact PySem.W.kia_one PySem.W.kitx_float I.kIn True.intro e (fun z=>nomatch z) h
 | @lst a xs ea=>
  cases(show u=Value.ref a from rx);obtain⟨_,_,n,_,h1⟩ :=(show Ym X.prog X.w H s.heap a (.lst xs) from I.hok a _ ea);exact PySem.W.kia_one PySem.W.kitx_list I.kIn ⟨_,h1,rfl⟩ e (fun z=>nomatch z) h
 | @frz a ob xs ea=>
  cases(show u=Value.ref a from rx);obtain⟨_,_,_,n,_,h1⟩ :=(show Ym X.prog X.w H s.heap a (.frz ob (.lst xs)) from I.hok a _ ea);exact PySem.W.kia_one PySem.W.kitx_list I.kIn ⟨_,h1,rfl⟩ e (fun z=>nomatch z) h
 | @tup a xs ea=>
  cases(show u=Value.ref a from rx);obtain⟨_,_,_,p⟩ :=(show Ym X.prog X.w H s.heap a (.tup xs) from I.hok a _ ea);obtain⟨o,h1,h2,_⟩ :=p;exact PySem.W.kia_one PySem.W.kitx_tuple I.kIn ⟨o,h1,h2⟩ e (fun z=>nomatch z) h
 | @dK a kvs ea=>
  cases(show u=Value.ref a from rx);obtain⟨_,_,vs,_,p⟩ :=(show Ym X.prog X.w H s.heap a (.dK kvs) from I.hok a _ ea);obtain⟨o,es,ep,h1,h2,_⟩ :=p;exact PySem.W.kia_one PySem.W.kitx_dict I.kIn ⟨o,h1,h2.1⟩ e (fun z=>nomatch z) h
 | @dT a kvs ea=>
  cases(show u=Value.ref a from rx);obtain⟨_,_,xs,_,o,es,ep,h1,h2,_⟩ :=(show Ym X.prog X.w H s.heap a (.dT kvs) from I.hok a _ ea);exact PySem.W.kia_one PySem.W.kitx_dict I.kIn ⟨o,h1,h2.1⟩ e (fun z=>nomatch z) h
 | @ins a C dx fs ea cl ha hn htk hm=>
  cases(show u=Value.ref a from rx);obtain⟨mA,O,_⟩ :=Jg7 I.hok ea;obtain⟨od,J,_⟩ :=O.look;exact PySem.W.kia_one (PySem.W.kitx_own (cl.get _) cl.hd ha hn htk hm) I.kIn J e (fun z=>nomatch z) h
end
end L2
namespace L2
open PySem PySem.Spec PyProof.Rows
structure Jee(k:Nat)(A:Around):Prop where
 hd:A.handled=none
 dp:A.depth+3*k+5<recursionLimit
 un:A.units+16*k+200<cLine
theorem Jee.mono{j k:Nat}{A:Around}(r:Jee k A)(h:j<=k):Jee j A:=⟨r.hd,by have:=r.dp;omega,by have:=r.un;omega⟩
theorem Jee.deeper{k:Nat}{A:Around}(r:Jee (k+1) A)(env:Env):Jee k (A.deeper env):=
 ⟨r.hd,by have:=r.dp;show A.depth+1+3*k+5<_;omega,by have:=r.un;show A.units+3+16*k+200<_;omega⟩
theorem JkP{A:Around}{C:Addr}{us:List Value}{kw:List (Str×Value)}:(A.under (.builtin "type.__call__" ⟨.ref C::us,kw⟩)).depth=A.depth+1:=by
 first|rfl|simp[Around.under,Code.weight,Code.isCreation,Code.isGuard,Code.isCaller,Code.frames,Code.isFrame,guardIds]
theorem Jky{A:Around}{C:Addr}{us:List Value}{kw:List (Str×Value)}:(A.under (.builtin "type.__call__" ⟨.ref C::us,kw⟩)).units=A.units+1:=by
 first|rfl|simp[Around.under,Code.cUnits,Code.frames,Code.isFrame]
theorem Jee.make{k:Nat}{A:Around}(r:Jee (k+1) A)(C:Addr)(us:List Value)(kw:List (Str×Value)):Jee k (A.under (.builtin "type.__call__" ⟨.ref C::us,kw⟩)):=
 ⟨r.hd,by have:=r.dp;rw[JkP];omega,by have:=r.un;rw[Jky];omega⟩
theorem Jee.depth{k:Nat}{A:Around}(r:Jee k A):A.depth<recursionLimit:=by have:=r.dp;omega
theorem Jee.units{k:Nat}{A:Around}(r:Jee k A):A.units+64<cLine:=by have:=r.un;omega
noncomputable def Jro:TA:=fun _ H Q=>Q [] H
noncomputable def Jq3(ta:TE)(tr:TA):TA:=fun σ H Q=>ta σ H fun x H1=>tr σ H1 fun xs H2=>Q (x::xs) H2
section
variable {X:Cx} {e:Expr} {es:List Expr} {te:TE} {t:TA} {pos:Pos}
theorem JV:PA X [] Jro:=fun _ _ _ _ H Q I h=>Calls.spliced_nil ⟨[],H,I,.nil,h⟩
theorem Jc(ha:PE X e te)(hr:PA X es t)(hs:starEach (e::es) X.env=(false,eval e X.env)::starEach es X.env:=by rfl):PA X (e::es) (Jq3 te t):=by
 intro pos pins s σ H Q I h;rw[hs];show wpAny _ _ (spliced ((false,eval e X.env)::backTo pos (starEach es X.env))) _ _ s;refine Calls.spliced_cons (thn (ha pins s σ H _ I h) fun u s1 hzz=>?_);obtain⟨x,H1,I1,r1,q1⟩ :=hzz;refine thn (hr pos pins s1 σ H1 _ I1 q1) fun us s2 hzz=>?_;obtain⟨xs,H2,I2,r2,q2⟩ :=hzz;exact⟨x::xs,H2,I2,.cons r1 r2,q2⟩
noncomputable def JsX(t:TA):TE:=fun σ H Q=>t σ H fun xs H1=>xs.length<=B2/\∀p,H1 p=none->Q (.ref p) (upd H1 p (.tup xs))
noncomputable def JsC(t:TA):TE:=fun σ H Q=>t σ H fun xs H1=>xs.length<=B2/\∀p,H1 p=none->Q (.ref p) (upd H1 p (.lst xs))
theorem J2{x1}(h:PA X es t):PE X (.Tuple es x1 pos) (JsX t):=by
 intro pins s σ H Q I hq;refine wpAny_Tuple_spliced (thn (h pos pins s σ H _ I hq) fun us s1 ⟨xs,H1,I1,r,z,q⟩ =>⟨by rw[<- r.length];exact z,?_⟩);have hf:H1 s1.heap.objs.size=none:=I1.hok.fresh (A5 _);refine⟨.ref s1.heap.objs.size,upd H1 s1.heap.objs.size (.tup xs),I1.laid (t':=s1.toks) (fun b u e=>A4 _ e) (A5 _) ?_,rfl,q _ hf⟩;exact⟨z,us,r,⟨_,Aw _ rfl,rfl,_,rfl⟩⟩
theorem Yd(h:PA X es t):PE X (.List es pos) (JsC t):=by
 intro pins s σ H Q I hq;refine wpAny_List_spliced (thn (h pos pins s σ H _ I hq) fun us s1 ⟨xs,H1,I1,r,z,q⟩ =>⟨by rw[<- r.length];exact z,?_⟩);have hf:H1 s1.heap.objs.size=none:=I1.hok.fresh (A5 _);refine⟨.ref s1.heap.objs.size,upd H1 s1.heap.objs.size (.lst xs),I1.laid (t':=s1.toks) (fun b u e=>A4 _ e) (A5 _) ?_,rfl,q _ hf⟩;exact⟨z,us,0,r,Aw _ rfl⟩
end
noncomputable abbrev Sp:=List V->Hp->VK->XK->Prop
noncomputable abbrev CXT:=List Env->Hp->Shared->XK->Value->Shared->Prop
structure JpH(P:Program)(w:World)(K:WF)(mg:MO)(base:Heap)(A:Around)(outer:List Env)(s:Shared)(H:Hp):Prop where
 frames:A.frames=some outer
 mod:Mod K mg base
 bs:∀b o,base.get? b=some o->s.heap.get? b=some o/\H b=none
 bsz:base.objs.size<=s.heap.objs.size
 funs:s.heap.FunFrames base outer
 frf:∀b∈frs outer,H b=none
 hok:HOk P w H s.heap
 bare:AllBare s.gens
def CE(outer:List Env)(P:Program)(w:World)(H:Hp)(s:Shared)(Q:VK)(u:Value)(s':Shared):Prop:=
 ∃v H',s'.os=s.os/\AllBare s'.gens/\Un (frs outer) [] H H' s.heap s'.heap/\HOk P w H' s'.heap/\Jad v u/\Q v H'
def CR(CX:CXT)(outer:List Env)(P:Program)(w:World)(H:Hp)(s:Shared)(Q:VK)(E:XK)(r:Result)(s':Shared):Prop:=
 match r with
 | .ok (.ret u)=>CE outer P w H s Q u s'
 | .ok _=>False
 | .error e=>CX outer H s E e s'
structure YO(P:Program)(w:World)(K:WF)(mg:MO)(base:Heap)(CX:CXT)(k:Nat)(f:Addr)(fd:FuncData)(ps:List Str)(sp:Sp):Prop where
 len:∀vs H Q E,sp vs H Q E->vs.length=ps.length
 run:∀(A:Around)(outer:List Env)(s:Shared)(H:Hp)(args:Args)(us:List Value)(vs:List V)(Q:VK)(E:XK),Jee k A->JpH P w K mg base A outer s H->BindsTo s fd args (ps.zip us)->YZ vs us->sp vs H Q E->
  codeAny (model P w) A (.call (.ref f) args) (CR CX outer P w H s Q E) s
theorem JpH.make{P:Program}{w:World}{K:WF}{mg:MO}{base:Heap}{A:Around}{outer:List Env}{s:Shared}{H:Hp}(e:JpH P w K mg base A outer s H)(C:Addr)(us:List Value)(kw:List (Str×Value)) :
  JpH P w K mg base (A.under (.builtin "type.__call__" ⟨.ref C::us,kw⟩)) outer s H:=⟨by first|exact e.frames|(simpa[Around.under,Code.envs,Code.isFrame,pushEnvs]using e.frames),e.mod,e.bs,e.bsz,e.funs,e.frf,e.hok,e.bare⟩
section
variable {X:Cx} {pins:PL} {σ:St} {H:Hp} {s s':Shared}
theorem Inv.env0(I:Inv X pins σ H s):JpH X.prog X.w X.K X.mg X.base X.A X.stack s H:=
 ⟨I.ok.frames,I.ok.mod,I.bs,Nat.le_trans I.ok.bsz I.sz,I.stack,I.stkFree,I.hok,I.bare⟩
theorem Inv.after{Q:VK}{u:Value}(I:Inv X pins σ H s)(h:CE X.stack X.prog X.w H s Q u s'):EP X pins σ Q u s':=by
 obtain⟨v,H',os,bare,un,hok,r,q⟩ :=h;obtain⟨hh,g,d,t,os'⟩ :=s';obtain rfl:os'=s.os:=os;exact⟨v,H',I.call (h':=hh) (g':=g) (d':=d) (t':=t) (ch:=[]) un hok bare (fun b z=>absurd z (by simp)),r,q⟩
end
noncomputable def Jp7(sp:Sp)(dvs:List V)(E:XK)(t:TA):TE:=fun σ H Q=>t σ H fun vs H1=>sp (vs++dvs) H1 Q E
inductive MtI(C:Addr)(m:Str)(x:V)(H:Hp)(Q:Prop):Prop
 | mk (a dx:Addr) (fs:List (Str×V)) (e:x=.ref a) (h:H a=some (.ins C dx fs)) (l:fs.lookup m=none) (q:Q):MtI C m x H Q
noncomputable def Jqq(C:Addr)(m:Str)(sp:Sp)(dvs:List V)(E:XK)(ta:TE)(t:TA):TE:=fun σ H Q=>ta σ H fun x H1=>MtI C m x H1 (t σ H1 fun vs H2=>sp (x::(vs++dvs)) H2 Q E)
noncomputable def JrB(C:Addr)(sp:Sp)(dvs:List V)(E:XK)(t:TA):TE:=fun σ H Q=>t σ H fun vs H1=>∀x dx,H1 x=none->H1 dx=none->dx≠x->
 sp (.ref x::(vs++dvs)) (upd (upd H1 dx (.own x)) x (.ins C dx [])) (fun v H2=>v=.non/\Q (.ref x) H2) E
def Jdi(K:WF)(fd:FuncData)(ps:List Str)(ds:List Value):Prop:=
 ∀(s:Shared)(us:List Value),K.In s.heap->(us++ds).length=ps.length->BindsTo s fd ⟨us,[]⟩ (ps.zip (us++ds))
theorem Jdi.all{K:WF}{fd:FuncData}{ps:List Str}(h:∀us:List Value,us.length=ps.length->bindArgs fd ⟨us,[]⟩=pure (ps.zip us)):Jdi K fd ps []:=fun s us _ hl=>by
 rw[List.append_nil]at hl ⊢;exact .of_eq (h us hl)
def JeO(CX:CXT)(X:Cx)(E:XK):Prop:=∀(pins:PL) (σ:St) (H:Hp) (s:Shared) (e:Value) (s':Shared),Inv X pins σ H s->CX X.stack H s E e s'->X.xe e s'
section
variable {X:Cx} {CX:CXT} {k:Nat} {f C:Addr} {fd:FuncData} {ps:List Str} {sp:Sp} {dvs:List V} {ds:List Value} {E:XK} {x m:Str} {p pos apos:Pos} {e o:Expr} {es:List Expr} {ta:TE} {t:TA}
theorem JmV{pins:PL}{σ:St}{H:Hp}{s:Shared}{Q:VK}{us:List Value}{vs:List V}(F:YO X.prog X.w X.K X.mg X.base CX k f fd ps sp)(hr:Jee k X.A)(hb:Jdi X.K fd ps ds)(hd:YZ dvs ds)(hx:JeO CX X E)
  (I:Inv X pins σ H s) (r:YZ vs us) (h:sp (vs++dvs) H Q E):wpAny (model X.prog X.w) X.A (call (.ref f) us) (EP X pins σ Q) X.xe s:=by
 have r2:YZ (vs++dvs) (us++ds):=r.append hd
 have hl:(us++ds).length=ps.length:=by rw[<- r2.length];exact F.len _ _ _ _ h
 refine wpAny_call (codeAny_mono (F.run X.A X.stack s H ⟨us,[]⟩ (us++ds) (vs++dvs) Q E hr I.env0 (hb s us I.kIn hl) r2 h) fun r s' hq=>?_)
 cases r with
 | error e=>exact hx pins σ H s e s' I hq
 | ok fl=>
  cases fl with
  | ret u=>exact I.after hq
  | next=>exact False.elim hq
  | brk=>exact False.elim hq
  | cont=>exact False.elim hq
theorem Ji5(F:YO X.prog X.w X.K X.mg X.base CX k f fd ps sp)(hr:Jee k X.A)(hg:Gl X x)(hm:X.mg x=some (.ref f))(hk:PySem.W.keepIn X.K (.ref f)=true)(hb:Jdi X.K fd ps ds)(hd:YZ dvs ds)(hx:JeO CX X E)
  (ha:PA X (e::es) t) (hdb:(x==("__debug__" : Str))=false:=by decide) (he:starEach (e::es) X.env=(false,eval e X.env)::starEach es X.env:=by rfl) (hpl:(backTo pos (starEach es X.env)).any (·.1)=false:=by rfl) :
  PE X (.Call (.Name x p) (e::es) [] pos) (Jp7 sp dvs E t):=by
 intro pins s σ H Q I h;refine wpAny_Call_Name_kw (Jfz I hg hm ?_ hdb);refine PySem.W.callWith_K (h₀:=X.base) I.ok.mod.kin hk (thn (ha pos pins s σ H _ I h) fun us s1 hzz=>?_) he hpl;obtain⟨vs,H1,I1,r,q⟩ :=hzz;refine⟨I1.kIn,?_⟩;exact JmV F hr hb hd hx I1 r q
theorem Yh{pl:Sem Bool}(he:PE X o ta)(c:Cls X.K C)(hm:Jrs X.K C m f)(F:YO X.prog X.w X.K X.mg X.base CX k f fd ps sp)(hr:Jee k X.A)(hb:Jdi X.K fd ps ds)(hd:YZ dvs ds)(hx:JeO CX X E)(ha:PA X (e::es) t)
  (hst:starEach (e::es) X.env=(false,eval e X.env)::starEach es X.env:=by rfl) (hpl:(backTo pos (starEach es X.env)).any (·.1)=false:=by rfl)
  (ht:eval (.Call (.Attribute o m apos) (e::es) [] pos) X.env=(do
   let ov <- eval o X.env
   standAt apos.atName
   let (f,first) <- holding [ov] (getMethod ov m pl)
   callWith pos f first (backTo pos (starEach (e::es) X.env)) (backToKw pos (keywordEach [] X.env))):=by rfl) :
  PE X (.Call (.Attribute o m apos) (e::es) [] pos) (Jqq C m sp dvs E ta t):=by
 intro pins s σ H Q I h;refine PySem.W.methodCall_KW (pl:=pl) (thn (he pins s σ H _ I h) fun u s1 hzz=>?_) ht;obtain⟨x,H1,I1,rx,a,dx,fs,ex,ea,l,q⟩ :=hzz;subst ex;obtain rfl:u=Value.ref a:=rx;refine Jgw I1 ea c hm l ?_;refine PySem.W.callWith_K (first:=[.ref a]) (h₀:=X.base) I.ok.mod.kin hm.kp (thn (ha pos pins s1 σ H1 _ I1 q) fun us s2 hzz=>?_) hst hpl;obtain⟨vs,H2,I2,r,q2⟩ :=hzz;refine⟨I2.kIn,?_⟩;exact JmV (us:=.ref a::us) (vs:=.ref a::vs) F hr hb hd hx I2 (.cons rfl r) q2
theorem Jj5{pl:Sem Bool}(he:PE X o ta)(c:Cls X.K C)(hm:Jrs X.K C m f)(F:YO X.prog X.w X.K X.mg X.base CX k f fd ps sp)(hr:Jee k X.A)(hb:Jdi X.K fd ps ds)(hd:YZ dvs ds)(hx:JeO CX X E)
  (ht:eval (.Call (.Attribute o m apos) [] [] pos) X.env=(do
   let ov <- eval o X.env
   standAt apos.atName
   let (f,first) <- holding [ov] (getMethod ov m pl)
   callWith pos f first (backTo pos (starEach [] X.env)) (backToKw pos (keywordEach [] X.env))):=by rfl) :
  PE X (.Call (.Attribute o m apos) [] [] pos) (Jqq C m sp dvs E ta Jro):=by
 intro pins s σ H Q I h;refine PySem.W.methodCall_KW (pl:=pl) (thn (he pins s σ H _ I h) fun u s1 hzz=>?_) ht;obtain⟨x,H1,I1,rx,a,dx,fs,ex,ea,l,q⟩ :=hzz;subst ex;obtain rfl:u=Value.ref a:=rx;refine Jgw I1 ea c hm l ?_;exact PySem.W.callWith_K0 (first:=[.ref a]) I1.kIn hm.kp (JmV (us:=[.ref a]) (vs:=[.ref a]) F hr hb hd hx I1 (.cons rfl .nil) q)
structure Mk(K:WF)(C f:Addr):Prop where
 makes:PySem.W.makesIn K C=true
 init:PySem.W.findIn K (.ref C) "__init__" = some (some (.ref f))
 fn:PySem.W.isFn K (.ref f)=true
 kp:PySem.W.keepIn K (.ref C)=true
theorem Jn3{pins:PL}{σ:St}{H:Hp}{s:Shared}{Q:VK}{us:List Value}{vs:List V}(M:Mk X.K C f)(F:YO X.prog X.w X.K X.mg X.base CX k f fd ps sp)(hr:Jee (k+1) X.A)(hb:Jdi X.K fd ps ds)(hd:YZ dvs ds)
  (hx:JeO CX X E) (I:Inv X pins σ H s) (r:YZ vs us)
  (h:∀x dx,H x=none->H dx=none->dx≠x->sp (.ref x::(vs++dvs)) (upd (upd H dx (.own x)) x (.ins C dx [])) (fun v H2=>v=.non/\Q (.ref x) H2) E) :
  wpAny (model X.prog X.w) X.A (call (.ref C) us) (EP X pins σ Q) X.xe s:=by
 have hq:=h (s.heap.objs.size+1) s.heap.objs.size (I.hok.fresh (Nat.le_succ _)) (I.hok.fresh (A5 _)) (B6 (Nat.lt_succ_self _));have I2:=Inv.made (C:=C) I;have r2:YZ (V.ref (s.heap.objs.size+1)::(vs++dvs)) (Value.ref (s.heap.objs.size+1)::(us++ds)):=.cons rfl (r.append hd)
 have hl:(Value.ref (s.heap.objs.size+1)::us++ds).length=ps.length:=by
  have e:=r2.length;rw[F.len _ _ _ _ hq]at e;exact e.symm
 refine wpAny_call (JnF (f:=f) I.kIn M.makes M.init (beq_iff_eq.mp M.fn) (codeAny_mono (F.run _ X.stack _ _ ⟨Value.ref (s.heap.objs.size+1)::us,[]⟩ (Value.ref (s.heap.objs.size+1)::(us++ds)) _ _ E (hr.make C us [])
  (I2.env0.make C us []) (hb _ (Value.ref (s.heap.objs.size+1)::us) I2.kIn hl) r2 hq) fun r s' hq'=>?_))
 cases r with
 | error e=>exact hx pins σ _ _ e s' I2 hq'
 | ok fl=>
  cases fl with
  | ret u=>
   obtain⟨v,H',I3,rv,ev,q3⟩ :=I2.after hq';subst ev;exact⟨rv,⟨V.ref (s.heap.objs.size+1),H',I3,rfl,q3⟩⟩
  | next=>exact False.elim hq'
  | brk=>exact False.elim hq'
  | cont=>exact False.elim hq'
theorem JjI(M:Mk X.K C f)(F:YO X.prog X.w X.K X.mg X.base CX k f fd ps sp)(hr:Jee (k+1) X.A)(hg:Gl X x)(hm:X.mg x=some (.ref C))(hb:Jdi X.K fd ps ds)(hd:YZ dvs ds)(hx:JeO CX X E)
  (hdb:(x==("__debug__" : Str))=false:=by decide):PE X (.Call (.Name x p) [] [] pos) (JrB C sp dvs E Jro):=by
 intro pins s σ H Q I h;refine wpAny_Call_Name_kw (Jfz I hg hm ?_ hdb);exact PySem.W.callWith_K0 I.kIn M.kp (Jn3 (us:=[]) M F hr hb hd hx I .nil h)
end
section
variable {X:Cx} {CX:CXT} {k:Nat} {f C:Addr} {fd:FuncData} {ps ks:List Str} {sp:Sp} {E:XK} {x m:Str} {p pos apos kpos:Pos} {e o:Expr} {es:List Expr} {kws:List Keyword} {te ta:TE} {t tk:TA} {nm:Option Str}
variable {g:List Value→List Value→List Value} {gV:List V→List V→List V}
end
structure Jw(N P:List Str)(sc:Scope):Prop where
 kind:sc.kind=.function
 co:sc.isCoroutine=false
 gen:sc.isGenerator=false
 nd:N.Nodup
 pre:N.take P.length=P
 par:∀x∈P,sc.names.lookup x=some .local\/sc.names.lookup x=some .cell
 nofree:∀y∈sc.names,y.2≠.free
theorem Jh2{kindOf:Str->Option NameKind}{x:Str}:∀{binds:List (Str×Value)} {m:MO},(∀v,(x,v)∉binds)->bindL kindOf binds m x=m x
 | [],_,_=>rfl
 | (n,v)::r,m,h=>by
  unfold bindL;rw[Jh2 fun w hw=>h w (List.mem_cons_of_mem _ hw)];split
  .have:x≠n:=by rintro rfl;exact h v Aj
   simp[this]
  .rfl
theorem JiB{kindOf:Str->Option NameKind}{x:Str}:∀{binds:List (Str×Value)} {m:MO},(∀v,(x,v)∉binds)->bindC kindOf binds m x=m x
 | [],_,_=>rfl
 | (n,v)::r,m,h=>by
  unfold bindC;rw[JiB fun w hw=>h w (List.mem_cons_of_mem _ hw)];split
  .rfl
  .have:x≠n:=by rintro rfl;exact h v Aj
   simp[this]
theorem Jiq{kindOf:Str->Option NameKind}{x:Str}{v:Value}:∀{P:List Str}{vs:List Value}{i:Nat}{m:MO},P.Nodup->P[i]?=some x->vs[i]?=some v->kindOf x=some .local->
  bindL kindOf (P.zip vs) m x=some v
 | [],_,_,_,_,h,_,_=>by simp at h
 | _::_,[],_,_,_,_,h,_=>by simp at h
 | p::P,w::vs,0,m,nd,h1,h2,hk=>by
  simp at h1 h2;subst h1;subst h2;show bindL kindOf ((p,w)::P.zip vs) m p=_;unfold bindL;rw[Jh2 fun v hv=>(List.nodup_cons.mp nd).1 (List.of_mem_zip hv).1,if_pos hk];simp
 | p::P,w::vs,i+1,m,nd,h1,h2,hk=>by
  show bindL kindOf ((p,w)::P.zip vs) m x=_;unfold bindL;exact Jiq (i:=i) (List.nodup_cons.mp nd).2 (by simpa using h1) (by simpa using h2) hk
theorem Jif{kindOf:Str->Option NameKind}{x:Str}{v:Value}:∀{P:List Str}{vs:List Value}{i:Nat}{m:MO},P.Nodup->P[i]?=some x->vs[i]?=some v->kindOf x≠some .local->
  bindC kindOf (P.zip vs) m x=some v
 | [],_,_,_,_,h,_,_=>by simp at h
 | _::_,[],_,_,_,_,h,_=>by simp at h
 | p::P,w::vs,0,m,nd,h1,h2,hk=>by
  simp at h1 h2;subst h1;subst h2;show bindC kindOf ((p,w)::P.zip vs) m p=_;unfold bindC;rw[JiB fun v hv=>(List.nodup_cons.mp nd).1 (List.of_mem_zip hv).1,if_neg hk];simp
 | p::P,w::vs,i+1,m,nd,h1,h2,hk=>by
  show bindC kindOf ((p,w)::P.zip vs) m x=_;unfold bindC;exact Jif (i:=i) (List.nodup_cons.mp nd).2 (by simpa using h1) (by simpa using h2) hk
noncomputable def Jg4(N:List Str)(vs:List V):St:=vs.map some++List.replicate (N.length-vs.length) none
noncomputable def Jgr(CX:CXT)(P:Program)(w:World)(K:WF)(mg:MO)(base:Heap)(N:List Str)(qual:Str)(scope:Scope)(f:Addr)(cd:Value)(A:Around)(outer:List Env)(s:Shared)(H:Hp)(E:XK):Cx where
 prog:=P
 w:=w
 K:=K
 mg:=mg
 base:=base
 A:=A.deeper (envOfC qual scope s.heap.objs.size f cd)
 N:=N
 s₀:=s
 H₀:=H
 env:=envOfC qual scope s.heap.objs.size f cd
 outer:=outer
 stack:=envOfC qual scope s.heap.objs.size f cd::outer
 ex:=[]
 calm:=true
 fn:=fun _=>true
 pn:=[]
 xe:=fun e s'=>wpAny (model P w) (A.deeper (envOfC qual scope s.heap.objs.size f cd)) (leaving (envOfC qual scope s.heap.objs.size f cd) e) (fun _ s''=>CX outer H s E e s'') (fun e' s''=>CX outer H s E e' s'') s'
theorem Jjz{sc:Scope}{n:Nat}{x:Str}(h:sc.names.lookup x=some .cell):∃c,(cellsFrom n sc.names []).lookup x=some c:=by
 have q:=PySem.W.cellsFrom_some sc.names n [] (.inl h);exact Option.isSome_iff_exists.mp q
theorem Jla{CX:CXT}{P:Program}{w:World}{K:WF}{mg:MO}{base:Heap}{N ps:List Str}{qual:Str}{scope:Scope}{f:Addr}{cd:Value}{A:Around}{outer:List Env}{s s1:Shared}{H:Hp}{E:XK}{us:List Value}{vs:List V}
  (S:Jw N ps scope) (hd:A.handled=none) (e0:JpH P w K mg base A outer s H) (hl:vs.length=ps.length) (r:YZ vs us)
  (x:InCallC s s.heap.objs.size (bindL (envOfC qual scope s.heap.objs.size f cd).kindOf (ps.zip us) fun _=>none) (cellsFrom (s.heap.objs.size+1) scope.names []) (bindC (envOfC qual scope s.heap.objs.size f cd).kindOf (ps.zip us) fun _=>none) s1) :
  Inv (Jgr CX P w K mg base N qual scope f cd A outer s H E) [] (Jg4 N vs) H s1:=by
 have hpl:ps.length<=N.length:=by have:=congrArg List.length S.pre;rw[B7]at this;omega
 obtain⟨h1,tk,rfl,hk⟩ :=x.done;have noA:∀b:Addr,b∉(Jgr CX P w K mg base N qual scope f cd A outer s H E).ex:=fun b z=>absurd (show b∈([]:List Addr) from z) (by simp)
 refine⟨⟨e0.mod,S.kind,rfl,rfl,A5 _,fun y z c h1 h2=>?_,fun y hy=>?_,fun y c _ h=>?_,fun _=>hd,Around.frames_deeper e0.frames,.inr ⟨rfl,rfl⟩,fun b z=>absurd z (noA b),e0.bs,e0.bsz,fun b _ _=>noA b,fun b z=>absurd z (noA b),e0.funs,e0.frf⟩,
  rfl,e0.bare,Un.kept hk,⟨_,x.toInCall.ns,fun i y v h1 h2 h3=>?_⟩,fun y c h=>⟨_,x.cell y c h⟩,e0.hok.fresh (A5 _),fun y c h=>?_,fun p hp=>absurd (show p∈([]:PL) from hp) (by simp),e0.hok.kept hk,?_⟩
 .exact name_of_addr x.apart (PySem.mem_of_lookup h1) (PySem.mem_of_lookup h2)
 .have hy:scope.names.lookup y=some .cell\/scope.names.lookup y=some .free:=hy
  rcases hy with hy|hy
  .exact Jjz hy
  .exact absurd rfl (S.nofree _ (PySem.mem_of_lookup hy))
 .exact Cq (x.above y c (PySem.mem_of_lookup h))
 .have hi:i<vs.length:=by
   unfold Jg4 at h2
   by_cases hi:i<vs.length
   .exact hi
   .rw[Bj (by simpa using hi)]at h2;rw[List.getElem?_replicate]at h2;split at h2<;>cases h2
  have ha:vs[i]?=some v:=by
   unfold Jg4 at h2;rw[Bq (by simpa using hi),Aq]at h2
   cases e:vs[i]? with
   | none=>rw[e]at h2;cases h2
   | some a=>rw[e]at h2;cases h2;rfl
  obtain⟨u,hu,rv⟩ :=r.get ha
  have hp:ps[i]?=some y:=by
   rw[<- S.pre,List.getElem?_take_of_lt (by omega)];exact h1
  have ndP:ps.Nodup:=by rw[<- S.pre];exact S.nd.sublist (List.take_sublist _ _)
  refine⟨u,rv,?_⟩
  rcases S.par y (B9 hp)with k|k
  .exact .inl ⟨k,Jiq ndP hp hu k⟩
  .obtain⟨c,e⟩ :=Jjz (n:=s.heap.objs.size+1) k;refine .inr ⟨.inl k,c,e,?_⟩;have q:=x.cell y c e;rw[Jif ndP hp hu (by show scope.names.lookup y≠_;rw[k];decide)]at q;exact q
 .exact e0.hok.fresh (Cq (x.above y c (PySem.mem_of_lookup h)))
 .unfold Jg4;show _=N.length;rw[Ak,A2,List.length_replicate];omega
theorem Jq5{CX:CXT}{P:Program}{w:World}{K:WF}{mg:MO}{base:Heap}{k:Nat}{f:Addr}{name qual:Str}{params:Arguments}{body:List Stmt}{scope:Scope}{dV kV doc pm cdv ct oc:Value}{an od:Option Addr}
  {osl:Array (Option Value)} {N ps:List Str} {sp:Sp} (lk:K.lookup f=some ⟨oc,od,.func (PySem.W.fnOf name qual params body scope dV kV doc pm an cdv ct),osl⟩) (hcd:PySem.W.codeIn K cdv qual=true) (S:Jw N ps scope)
  (len:∀vs H Q E,sp vs H Q E->vs.length=ps.length)
  (hbody:∀(A:Around)(outer:List Env)(s:Shared)(H:Hp)(vs:List V)(Q:VK)(E:XK),Jee k (A.deeper (envOfC qual scope s.heap.objs.size f cdv))->sp vs H Q E->
   ∃t,PSs (Jgr CX P w K mg base N qual scope f cdv A outer s H E) body t/\t { nx:=fun _ H'=>Q .non H',rt:=Q } (Jg4 N vs) H) :
  YO P w K mg base CX (k+1) f (PySem.W.fnOf name qual params body scope dV kV doc pm an cdv ct) ps sp:=by
 refine⟨len,fun A outer s H args us vs Q E hr e0 hb r hsp=>?_⟩;have hl:=len _ _ _ _ hsp;have KX:K.In s.heap:=e0.mod.kin.keeps fun b o e=>(e0.bs b o e).1;have lim:s.heap.NoLimit:=e0.mod.nolimit.keeps fun b o e=>(e0.bs b o e).1
 have hkind:∀y∈ps.zip us,scope.names.lookup y.1=some .local\/(scope.names.lookup y.1=some .cell/\((cellsFrom (s.heap.objs.size+1) scope.names []).lookup y.1).isSome=true):=fun⟨n,v⟩ hy=>by
  rcases S.par n (List.of_mem_zip hy).1 with q|q
  .exact .inl q
  .exact .inr ⟨q,PySem.W.cellsFrom_some _ _ _ (.inl q)⟩
 refine codeAny_call_function hr.depth (KX _ _ lk) rfl S.co S.gen rfl (PySem.W.codeRec_of KX hcd) (hb _ _ _ _ ?_);refine wpAny_newFunctionEnv_cells S.kind hkind fun env he s1 x=>?_;subst he;refine⟨lim.keeps x.toInCall.keep,codeAny_func ?_⟩;obtain⟨t,ht,hq⟩ :=hbody A outer s H vs Q E (hr.deeper _) hsp;have I:Inv (Jgr CX P w K mg base N qual scope f cdv A outer s H E) [] (Jg4 N vs) H s1:=Jla S hr.hd e0 hl r x;refine wpAny_mono (ht [] s1 (Jg4 N vs) H _ I hq) (fun fl s' hs=>?_) fun e s' hs=>hs
 have fin:∀{σ':St}{H':Hp}{v:V}{u:Value},Inv (Jgr CX P w K mg base N qual scope f cdv A outer s H E) [] σ' H' s'->Jad v u->Q v H'->CE outer P w H s Q u s':=
  fun{σ' H' v u} J rv q=>⟨v,H',J.os,J.bare,J.base,J.hok,rv,q⟩
 cases fl with
 | ret u=>
  obtain⟨v,σ',H',J,rv,q⟩ :=hs;exact fin J rv q
 | next=>
  obtain⟨σ',H',J,q⟩ :=hs;exact fin (v:=V.non) (u:=Value.none) J rfl q
 | brk=>
  obtain⟨_,_,_,q⟩ :=hs;exact False.elim q
 | cont=>
  obtain⟨_,_,_,q⟩ :=hs;exact False.elim q
end L2
namespace L2
open PySem PySem.Spec PyProof.Rows
section
variable {X:Cx} {x:Str} {p pos:Pos} {e:Expr} {es:List Expr} {t:TA} {id T:String} {r:List V→Hp→VK→Prop}
noncomputable def tCB(r:List V->Hp->VK->Prop)(t:TA):TE:=fun σ H Q=>t σ H fun vs H1=>r vs H1 Q
theorem Jp(hc:JbX X (.builtin id) r)(hg:Gl X x)(hm:X.mg x=none)(hv:bootBuiltins x=some (.builtin id))(ha:PA X (e::es) t)(hn:x≠"__name__":=by decide)(hdb:(x==("__debug__" : Str))=false:=by decide)
  (he:starEach (e::es) X.env=(false,eval e X.env)::starEach es X.env:=by rfl) (hpl:(backTo pos (starEach es X.env)).any (·.1)=false:=by rfl):PE X (.Call (.Name x p) (e::es) [] pos) (tCB r t):=by
 intro pins s σ H Q I h;refine wpAny_Call_Name_kw (Jgb I hg hm hv ?_ hn hdb);refine PyProof.Rows.callWith_builtin1 (thn (ha pos pins s σ H _ I h) fun us s1 hzz=>?_) he hpl;obtain⟨vs,H1,I1,r1,q1⟩ :=hzz;exact hc pins s1 σ H1 vs us Q I1 r1 q1
theorem YK(hc:JbX X (.type T) r)(hg:Gl X x)(hm:X.mg x=none)(hv:bootBuiltins x=some (.type T))(ha:PA X (e::es) t)(hn:x≠"__name__":=by decide)(hdb:(x==("__debug__" : Str))=false:=by decide)
  (he:starEach (e::es) X.env=(false,eval e X.env)::starEach es X.env:=by rfl) (hpl:(backTo pos (starEach es X.env)).any (·.1)=false:=by rfl):PE X (.Call (.Name x p) (e::es) [] pos) (tCB r t):=by
 intro pins s σ H Q I h;refine wpAny_Call_Name_kw (Jgb I hg hm hv ?_ hn hdb);refine PyProof.Rows.callWith_type1 (thn (ha pos pins s σ H _ I h) fun us s1 hzz=>?_) he hpl;obtain⟨vs,H1,I1,r1,q1⟩ :=hzz;exact hc pins s1 σ H1 vs us Q I1 r1 q1
end
end L2
namespace L2
open PySem PySem.Spec PyProof.Rows
section
variable {κ:Type} [DecidableEq κ]
noncomputable def Jau(kvs:List (κ×V))(k:κ):Option V:=(kvs.find? fun kv=>decide (kv.1=k)).map (·.2)
noncomputable def Yt(kvs:List (κ×V))(k:κ)(v:V):List (κ×V):=
 if(kvs.any fun kv=>decide (kv.1=k))=true then kvs.map (fun kv=>if kv.1=k then(kv.1,v)else kv)else kvs++[(k,v)]
theorem Job{k:κ}:Jau ([]:List (κ×V)) k=none:=rfl
theorem Y2{p:κ×V}{r:List (κ×V)}{k:κ}(e:p.1=k):Jau (p::r) k=some p.2:=by simp[Jau,List.find?_cons,e]
theorem Y4{p:κ×V}{r:List (κ×V)}{k:κ}(e:¬p.1=k):Jau (p::r) k=Jau r k:=by simp[Jau,List.find?_cons,e]
theorem Jcg(k:κ):∀kvs:List (κ×V),(kvs.any fun kv=>decide (kv.1=k))=(Jau kvs k).isSome
 | []=>rfl
 | p::r=>by
  rw[List.any_cons]
  by_cases e:p.1=k
  .simp only[Y2 e,decide_eq_true e,Bool.true_or,Option.isSome_some]
  .rw[Y4 e,decide_eq_false e,Bool.false_or];exact Jcg k r
theorem JjZ(k j:κ)(y:V):∀kvs:List (κ×V),Jau (kvs.map fun kv=>if kv.1=k then(kv.1,y)else kv) j=(Jau kvs j).map fun x=>if j=k then y else x
 | []=>rfl
 | p::r=>by
  have ih:=JjZ k j y r;rw[List.map_cons]
  by_cases h:p.1=k
  .rw[if_pos h]
   by_cases e:p.1=j
   .rw[Y2 (p:=(p.1,y)) e,Y2 e,Option.map_some,if_pos (e.symm.trans h)]
   .rw[Y4 (p:=(p.1,y)) e,Y4 e,ih]
  .rw[if_neg h]
   by_cases e:p.1=j
   .rw[Y2 (p:=p) e,Y2 e,Option.map_some,if_neg (fun z=>h (e.trans z))]
   .rw[Y4 (p:=p) e,Y4 e,ih]
theorem JhY(k j:κ)(y:V):∀kvs:List (κ×V),Jau kvs k=none->Jau (kvs++[(k,y)]) j=if j=k then some y else Jau kvs j
 | [],_=>by
  by_cases e:k=j
  .rw[if_pos e.symm];exact Y2 (p:=(k,y)) e
  .rw[if_neg (fun z=>e z.symm)];exact Y4 (p:=(k,y)) e
 | p::r,hn=>by
  rw[List.cons_append]
  have hk:¬p.1=k:=fun z=>by rw[Y2 z]at hn;cases hn
  rw[Y4 hk]at hn;have ih:=JhY k j y r hn
  by_cases e:p.1=j
  .rw[Y2 e,Y2 e,if_neg (fun z=>hk (e.trans z))]
  .rw[Y4 e,Y4 e,ih]
theorem JaV(kvs:List (κ×V))(k j:κ)(y:V):Jau (Yt kvs k y) j=if j=k then some y else Jau kvs j:=by
 unfold Yt
 by_cases a:(kvs.any fun kv=>decide (kv.1=k))=true
 .rw[if_pos a,JjZ];rw[Jcg]at a
  by_cases e:j=k
  .obtain⟨x,hx⟩ :=Option.isSome_iff_exists.mp a;rw[if_pos e,e,hx,Option.map_some,if_pos rfl]
  .rw[if_neg e]
   cases Jau kvs j with
   | none=>rfl
   | some x=>rw[Option.map_some,if_neg e]
 .rw[if_neg a];refine JhY k j y kvs ?_;rw[Jcg]at a
  cases q:Jau kvs k with
  | none=>rfl
  | some x=>rw[q]at a;exact(a rfl).elim
theorem Jcd(kvs:List (κ×V))(k:κ)(v:V):(Yt kvs k v).length<=kvs.length+1:=by
 unfold Yt;split
 .rw[A2];omega
 .rw[Ak,List.length_cons,List.length_nil];omega
theorem Jn8{kvs:List (κ×V)}{k:κ}(v:V)(h:Jau kvs k=none):Yt kvs k v=kvs++[(k,v)]:=by
 unfold Yt;rw[Jcg,h];exact if_neg (by decide)
theorem Jhz.isSome_eq{o:Option V}{u:Option Value}(r:Jhz o u):o.isSome=u.isSome:=by
 cases o with
 | none=>cases u with
  | none=>rfl
  | some _=>exact(show False from r).elim
 | some _=>cases u with
  | none=>exact(show False from r).elim
  | some _=>rfl
theorem Jhz.getD{o:Option V}{u:Option Value}{d:V}{d':Value}(r:Jhz o u)(rd:Jad d d'):Jad (o.getD d) (u.getD d'):=by
 cases o with
 | none=>cases u with
  | none=>exact rd
  | some _=>exact(show False from r).elim
 | some _=>cases u with
  | none=>exact(show False from r).elim
  | some _=>exact r
theorem KV.val{kvs:List (κ×V)}{vs:List (κ×Value)}(r:KV kvs vs)(k:κ):Jhz (Jau kvs k) (valueAt vs k):=by
 unfold KV at r
 induction r with
 | nil=>exact True.intro
 | @cons p q ps qs h t ih=>
  obtain⟨h1,h2⟩ :=h
  by_cases e:p.1=k
  .have e':q.1=k:=h1.symm.trans e
   have b:valueAt (q::qs) k=some q.2:=by simp[valueAt,List.find?_cons,e']
   rw[Y2 e,b];exact h2
  .have e':¬q.1=k:=fun z=>e (h1.trans z)
   have b:valueAt (q::qs) k=valueAt qs k:=by simp[valueAt,List.find?_cons,e']
   rw[Y4 e,b];exact ih
theorem KV.any{kvs:List (κ×V)}{vs:List (κ×Value)}(r:KV kvs vs)(k:κ):(kvs.any fun kv=>decide (kv.1=k))=vs.any fun kv=>decide (kv.1=k):=by
 unfold KV at r
 induction r with
 | nil=>rfl
 | cons h t ih=>rw[List.any_cons,List.any_cons,ih,h.1]
theorem KV.repl{kvs:List (κ×V)}{vs:List (κ×Value)}(r:KV kvs vs)(k:κ){y:V}{u:Value}(ry:Jad y u) :
  KV (kvs.map fun kv=>if kv.1=k then(kv.1,y)else kv) (vs.map fun kv=>if kv.1=k then(kv.1,u)else kv):=by
 unfold KV at r ⊢
 induction r with
 | nil=>exact .nil
 | @cons p q ps qs h t ih=>
  rw[List.map_cons,List.map_cons];refine .cons ?_ ih;obtain⟨h1,h2⟩ :=h
  by_cases e:p.1=k
  .rw[if_pos e,if_pos (h1.symm.trans e)];exact⟨h1,ry⟩
  .rw[if_neg e,if_neg (fun z=>e (h1.trans z))];exact⟨h1,h2⟩
theorem KV.put{kvs:List (κ×V)}{vs:List (κ×Value)}(r:KV kvs vs)(k:κ){y:V}{u:Value}(ry:Jad y u):KV (Yt kvs k y) (stored vs k u):=by
 unfold Yt stored;rw[r.any k]
 by_cases e:(vs.any fun kv=>decide (kv.1=k))=true
 .rw[if_pos e,if_pos e];exact r.repl k ry
 .rw[if_neg e,if_neg e];exact Paired.snoc r ⟨rfl,ry⟩
theorem KV.length{kvs:List (κ×V)}{vs:List (κ×Value)}(r:KV kvs vs):kvs.length=vs.length:=Paired.length r
end
theorem JkC{P:Program}{w:World}{k:Key}{u:Value}(r:Jad (kV k) u):(Yc P w).is k u=true:=by
 cases k with
 | inl i=>obtain⟨t,e⟩ :=(show∃t,u=Value.int i t from r);subst e;exact Ji6 P w i t
 | inr x=>obtain⟨t,e⟩ :=(show∃t,u=Value.str x t from r);subst e;exact Ji2 P w x t
theorem JiA{P:Program}{w:World}:∀{ks:List Key}{us:List Value},YZ (ks.map kV) us->ItemsAre (Yc P w) ks us
 | [],_,r=>by rw[List.map_nil]at r;cases r;exact .nil
 | k::ks,_,r=>by
  rw[List.map_cons]at r
  cases r with
  | cons h t=>exact .cons (JkC h) (JiA t)
noncomputable abbrev KT(H:Hp):List (List Key×V)->List (List Key×Addr×Value)->Prop:=Paired fun p q=>p.1=q.1/\H q.2.1=some (.tup (p.1.map kV))/\Jad p.2 q.2.2
theorem KT.val{H:Hp}{kvs:List (List Key×V)}{xs:List (List Key×Addr×Value)}(r:KT H kvs xs)(k:List Key):Jhz (Jau kvs k) ((atKey xs k).map (·.2)):=by
 induction r with
 | nil=>exact True.intro
 | @cons p q ps qs h t ih=>
  obtain⟨h1,_,h2⟩ :=h
  by_cases e:p.1=k
  .have e':q.1=k:=h1.symm.trans e
   have b:atKey (q::qs) k=some q.2:=by simp[atKey,List.find?_cons,e']
   rw[Y2 e,b];exact h2
  .have e':¬q.1=k:=fun z=>e (h1.trans z)
   have b:atKey (q::qs) k=atKey qs k:=by simp[atKey,List.find?_cons,e']
   rw[Y4 e,b];exact ih
theorem KT.repl{H:Hp}{kvs:List (List Key×V)}{xs:List (List Key×Addr×Value)}(r:KT H kvs xs)(k:List Key){y:V}{u:Value}(ry:Jad y u) :
  KT H (kvs.map fun kv=>if kv.1=k then(kv.1,y)else kv) (xs.map (putAt k u)):=by
 induction r with
 | nil=>exact .nil
 | @cons p q ps qs h t ih=>
  rw[List.map_cons,List.map_cons];refine .cons ?_ ih;obtain⟨h1,h2,h3⟩ :=h;unfold putAt
  by_cases e:p.1=k
  .rw[if_pos e,if_pos (h1.symm.trans e)];exact⟨h1,h2,ry⟩
  .rw[if_neg e,if_neg (fun z=>e (h1.trans z))];exact⟨h1,h2,h3⟩
theorem KT.put{H:Hp}{kvs:List (List Key×V)}{xs:List (List Key×Addr×Value)}(r:KT H kvs xs)(k:List Key){b:Addr}{y:V}{u:Value}(hb:H b=some (.tup (k.map kV)))(ry:Jad y u) :
  KT H (Yt kvs k y) (storedH xs k b u):=by
 have e:(kvs.any fun kv=>decide (kv.1=k))=(atKey xs k).isSome:=by
  rw[Jcg,(r.val k).isSome_eq,Option.isSome_map]
 unfold Yt storedH;rw[e]
 by_cases q:(atKey xs k).isSome=true
 .rw[if_pos q,if_pos q];exact r.repl k ry
 .rw[if_neg q,if_neg q];exact Paired.snoc r ⟨rfl,hb,ry⟩
theorem KT.keeps{H H':Hp}{kvs:List (List Key×V)}{xs:List (List Key×Addr×Value)}(r:KT H kvs xs)(ht:∀b ys,H b=some (.tup ys)->H' b=some (.tup ys)):KT H' kvs xs:=
 Paired.mapP r fun _ _ z=>⟨z.1,ht _ _ z.2.1,z.2.2⟩
section
variable {P:Program} {w:World} {H:Hp} {h:Heap} {a:Addr}
theorem Jq2{u:HO}(ok:HOk P w H h)(e:Rd H a u):Ym P w H h a u:=e.ok ok
theorem JkE{kvs:List (Key×V)}(ok:HOk P w H h)(e:Rd H a (.dK kvs)):kvs.length<=B2/\(a==sysModules)=false/\∃vs,KV kvs vs/\h.DictOf (Yc P w) a vs:=
 show Ym P w H h a (.dK kvs) from Jq2 ok e
theorem JiU{kvs:List (Key×V)}(ok:HOk P w H h)(e:H a=some (.dK kvs)):kvs.length<=B2/\(a==sysModules)=false/\∃vs,KV kvs vs/\h.DictOf (Yc P w) a vs:=JkE ok (.inl e)
theorem JjO{ks:List Key}(ok:HOk P w H h)(e:H a=some (.tup (ks.map kV))):(tupleKind (Yc P w)).is h ks a:=by
 obtain⟨_,its,r,o,h1,h2,n,h3⟩ :=(show Ym P w H h a (.tup (ks.map kV)) from ok a _ e);exact⟨o,its.toArray,n,h1,h2,h3,by simpa using JiA r⟩
theorem JlQ{kvs:List (List Key×V)}(ok:HOk P w H h)(e:Rd H a (.dT kvs)):kvs.length<=B2/\(a==sysModules)=false/\
  ∃xs,KT H kvs xs/\h.DictOfH (tupleKind (Yc P w)) a xs:=by
 obtain⟨z,y,xs,r,o,es,ep,h1,h2,h3,h4,h5⟩ :=(show Ym P w H h a (.dT kvs) from Jq2 ok e);refine⟨z,y,xs,r,o,es,ep,h1,h2,h3,h4,fun x hx=>?_,h5⟩
 have all:∀{l:List (List Key×V)} {m:List (List Key×Addr×Value)},KT H l m->∀x∈m,(tupleKind (Yc P w)).is h x.1 x.2.1:=by
  intro l m q
  induction q with
  | nil=>intro x hx;exact nomatch hx
  | @cons p q ps qs hq t ih=>
   intro x hx
   rcases Ax.mp hx with e|hx
   .subst e;exact JjO ok (by rw[<- hq.1];exact hq.2.1)
   .exact ih x hx
 exact all r x hx
theorem JrD{kvs:List (List Key×V)}(ok:HOk P w H h)(e:H a=some (.dT kvs)):kvs.length<=B2/\(a==sysModules)=false/\
  ∃xs,KT H kvs xs/\h.DictOfH (tupleKind (Yc P w)) a xs:=JlQ ok (.inl e)
end
def Jbc(H:Hp)(a:Addr)(y:V)(r:Option V):Prop:=
 (∃kvs k,Rd H a (.dK kvs)/\y=kV k/\r=Jau kvs k)\/∃kvs k b,Rd H a (.dT kvs)/\y=.ref b/\H b=some (.tup (k.map kV))/\r=Jau kvs k
def Jei(H:Hp)(a:Addr)(y v:V)(H':Hp):Prop:=
 (∃kvs k,H a=some (.dK kvs)/\y=kV k/\kvs.length<B2/\H'=upd H a (.dK (Yt kvs k v)))\/
 ∃kvs k b,H a=some (.dT kvs)/\y=.ref b/\H b=some (.tup (k.map kV))/\kvs.length<B2/\H'=upd H a (.dT (Yt kvs k v))
theorem Jbc.k{H:Hp}{a:Addr}{kvs:List (Key×V)}{k:Key}(e:H a=some (.dK kvs)):Jbc H a (kV k) (Jau kvs k):=.inl ⟨kvs,k,.inl e,rfl,rfl⟩
theorem Jbc.t{H:Hp}{a b:Addr}{kvs:List (List Key×V)}{k:List Key}(e:H a=some (.dT kvs))(eb:H b=some (.tup (k.map kV))):Jbc H a (.ref b) (Jau kvs k):=.inr ⟨kvs,k,b,.inl e,rfl,eb,rfl⟩
theorem Jei.k{H:Hp}{a:Addr}{kvs:List (Key×V)}{k:Key}{v:V}(e:H a=some (.dK kvs))(hl:kvs.length<B2):Jei H a (kV k) v (upd H a (.dK (Yt kvs k v))):=.inl ⟨kvs,k,e,rfl,hl,rfl⟩
theorem Jei.t{H:Hp}{a b:Addr}{kvs:List (List Key×V)}{k:List Key}{v:V}(e:H a=some (.dT kvs))(eb:H b=some (.tup (k.map kV)))(hl:kvs.length<B2) :
  Jei H a (.ref b) v (upd H a (.dT (Yt kvs k v))):=.inr ⟨kvs,k,b,e,rfl,eb,hl,rfl⟩
section
variable {X:Cx} {pins:PL} {σ:St} {H:Hp} {s:Shared} {a:Addr} {y v:V} {u r:Value} {o:Option V} {A:Around} {E:Value→Shared→Prop}
theorem Inv.big(I:Inv X pins σ H s):sysModules<s.heap.objs.size:=by
 have h:mainGlobals<s.heap.objs.size:=(I.mod.glob.keeps I.bk).lt;exact Nat.lt_trans (by decide) h
theorem Jm3{Q:VS}(hu:A.units+1<cLine)(I:Inv X pins σ H s)(g:Jbc H a y (some v))(ry:Jad y u)(h:∀w' s',Inv X pins σ H s'->Jad v w'->Q w' s') :
  wpAny (model X.prog X.w) A (getItem (.ref a) u) Q E s:=by
 rcases g with⟨kvs,k,e,ey,l⟩|⟨kvs,k,b,e,ey,eb,l⟩
 .subst ey;obtain⟨z,hd,vs,rel,dd⟩ :=JkE I.hok e;obtain⟨w',hw,rw'⟩ :=Jhz.some_of (v:=v) (o:=valueAt vs k) (by rw[l];exact rel.val k);exact wpAny_getItem_of (JkC ry) dd.mapOf hw (h w' _ (I.tok _) rw')
 .subst ey;cases(show u=Value.ref b from ry);obtain⟨z,hd,xs,rel,dd⟩ :=JlQ I.hok e;obtain⟨w',hw,rw'⟩ :=Jhz.some_of (v:=v) (o:=(atKey xs k).map (·.2)) (by rw[l];exact rel.val k);obtain⟨p,hp,hp2⟩ :=B1.mp hw;refine wpAny_getItem_heap (tupleKind_room_in1 hu) (JjO I.hok eb) dd hp ?_;rw[hp2];exact h w' _ (I.tok _) rw'
theorem JgR{h':Heap}{t':Nat}{ob:HO}(I:Inv X pins σ H s)(mu:Mut (H a))(hs:Heap.SameBut a s.heap h')(he:∃q,h'.get? a=some q)(new:Ym X.prog X.w (upd H a ob) h' a ob) :
  Inv X pins σ (upd H a ob) { s with heap:=h',toks:=t' }:=
 I.write (x:=a) (e:=a) mu (.inl rfl) (fun b q hb z=>(hs.2 b hb).trans z) he new
theorem JlJ{P:Program}{w:World}{H':Hp}{h':Heap}{kvs:List (Key×V)}{vs:List (Key×Value)}(z:kvs.length<=B2)(hd:(a==sysModules)=false)(rel:KV kvs vs)(dd:h'.DictOf (Yc P w) a vs) :
  Ym P w H' h' a (.dK kvs):=⟨z,hd,vs,rel,dd⟩
theorem Jlp{H':Hp}{Q:Unit->Shared->Prop}(hu:A.units+1<cLine)(I:Inv X pins σ H s)(g:Jei H a y v H')(ry:Jad y u)(rv:Jad v r)(h:∀s',Inv X pins σ H' s'->Q () s') :
  wpAny (model X.prog X.w) A (setItem (.ref a) u r) Q E s:=by
 rcases g with⟨kvs,k,e,ey,l,eH⟩|⟨kvs,k,b,e,ey,eb,l,eH⟩
 .subst ey eH;obtain⟨z,hd,vs,rel,dd⟩ :=JiU I.hok e
  have hz:vs.length<=B2:=by rw[<- rel.length];exact z
  have hl:(Yt kvs k v).length<=B2:=by have:=Jcd kvs k v;omega
  refine wpAny_setItem_pairs (hsz:=hz) (JkC ry) dd fun h' dd' hs=>h _ ?_
  have he:∃q,h'.get? a=some q:=let ⟨q,_,_,hq,_⟩ :=dd';⟨q,hq⟩
  exact JgR I (by rw[e];exact True.intro) hs he (JlJ hl hd (rel.put k rv) dd')
 .subst ey eH;cases(show u=Value.ref b from ry);obtain⟨z,hd,xs,rel,dd⟩ :=JrD I.hok e
  have hz:xs.length<=B2:=by rw[<- Paired.length rel];exact z
  have hl:(Yt kvs k v).length<=B2:=by have:=Jcd kvs k v;omega
  refine wpAny_setItem_heap (hsz:=hz) (tupleKind_room_in1 hu) (JjO I.hok eb) dd fun h' dd' hs=>h _ ?_;obtain⟨q,es,ep,hq,h2,h3,h4,_,h5⟩ :=dd';refine JgR I (by rw[e];exact True.intro) hs ⟨q,hq⟩ ⟨hl,hd,_,(rel.put k eb rv).keeps fun c ys ec=>?_,q,es,ep,hq,h2,h3,h4,h5⟩;rw[Jf (Jac ec e (fun z=>nomatch z))];exact ec
end
section
variable {X:Cx} {pins:PL} {σ:St} {H:Hp} {s:Shared} {a:Addr} {kvs:List (Key×V)} {k:Key} {u:Value} {A:Around} {E:Value→Shared→Prop}
end
def Jsd(i:Expr):Prop:=∀ov iv,subscripted i false ov iv=operate [ov,iv] (getItem ov iv)
theorem Jpw{prog:Program}{w:World}{A:Around}{E:VS}{s:Shared}{env:Env}{value slice:Expr}{pos:Pos}{T id:String}{Q:VS}
  (hl:typeLookup (.type T) "__getitem__" = pure (some (.builtin id))) (hs:Jsd slice)
  (h:wpAny (model prog w) A (eval value env) (fun o s₁=>wpAny (model prog w) A (eval slice env) (fun i s₂=>s₂.TypeIs o T/\wpAny (model prog w) A (getItem o i) Q E s₂) E s₁) E s) :
  wpAny (model prog w) A (eval (.Subscript value slice pos) env) Q E s:=by
 refine Subscript_ (wpAny_mono h (fun o s₁ h₁=>wpAny_mono h₁ (fun i s₂ h₂=>?_) fun _ _ x=>x) fun _ _ x=>x);obtain⟨hT,h₂⟩ :=h₂;unfold subscriptTail;refine A0 ?_;rw[getitemInPython_of_ne hT.not_modules];refine A0 (wpAny_specialOf hT hl ?_)
 have fin:wpAny (model prog w) A (subscripted slice false o i) (fun r s₃=>wpAny (model prog w) A (letTemporaryGo value o r >>= fun _=>pure r) Q E s₃) E s₂:=by
  rw[hs o i];exact wpAny_operating (wpAny_mono h₂ (fun r s₃ h₃=>A0 (wpAny_letTemporaryGo (A9 h₃))) fun _ _ x=>x)
 first
  | exact A9 (A0 fin)
  | exact A0 (A9 (A0 fin))
  | exact A0 fin
theorem Jjb{X:Cx}{pins:PL}{σ:St}{H:Hp}{s:Shared}{a:Addr}{y:V}{o:Option V}(I:Inv X pins σ H s)(g:Jbc H a y o):s.TypeIs (.ref a) "dict":=by
 rcases g with⟨kvs,k,e,_,_⟩|⟨kvs,k,b,e,_,_,_⟩
 .obtain⟨_,_,vs,_,dd⟩ :=JkE I.hok e;exact dd.typeIs
 .obtain⟨_,_,xs,_,dd⟩ :=JlQ I.hok e;exact dd.typeIs
inductive DgI(x y:V)(H:Hp)(Q:VK):Prop
 | mk (a:Addr) (v:V) (e:x=.ref a) (h:Jbc H a y (some v)) (q:Q v H):DgI x y H Q
noncomputable def Jrx(td ty:TE):TE:=fun σ H Q=>td σ H fun x H1=>ty σ H1 fun y H2=>DgI x y H2 Q
inductive DpI(x y v:V)(H:Hp)(Q:Hp->Prop):Prop
 | mk (a:Addr) (H4:Hp) (e:x=.ref a) (h:Jei H a y v H4) (q:Q H4):DpI x y v H Q
noncomputable def JrG(td ty tv:TE):TS:=fun D σ H=>tv σ H fun v H1=>td σ H1 fun x H2=>ty σ H2 fun y H3=>DpI x y v H3 (D.nx σ)
section
variable {X:Cx} {o i e value:Expr} {pos pos' tpos:Pos} {td ty tv:TE}
theorem J6(hu:X.A.units+1<cLine)(ho:PE X o td)(hi:PE X i ty)(hs:Jsd i):PE X (.Subscript o i pos) (Jrx td ty):=by
 intro pins s σ H Q I h;refine Jpw PySem.F.slot_dict_getitem.lookup hs (thn (ho pins s σ H _ I h) fun u s1 hzz=>?_);obtain⟨x,H1,I1,rx,q1⟩ :=hzz;refine thn (hi pins s1 σ H1 _ I1 q1) fun iv s2 hzz=>?_;obtain⟨y,H2,I2,ry,a,v,ex,g,q2⟩ :=hzz;subst ex;obtain rfl:u=Value.ref a:=rx;exact⟨Jjb I2 g,Jm3 hu I2 g ry fun w' s3 I3 rw'=>⟨v,H2,I3,rw',q2⟩⟩
theorem YI(hu:X.A.units+1<cLine)(ho:PE X o td)(hi:PE X i ty)(hv:PE X value tv)(hs:swapsWith value (some (.Subscript o i pos')) pos.line X.env=pure false) :
  PS X (.Assign [.Subscript o i pos'] value pos) (JrG td ty tv):=by
 intro pins s σ H D I h;refine wpAny_Assign_Subscript (thn (hv pins s σ H _ I h) fun r s1 hzz=>?_) hs;obtain⟨v,H1,I1,rv,q1⟩ :=hzz;refine thn (ho pins s1 σ H1 _ I1 q1) fun u s2 hzz=>?_;obtain⟨x,H2,I2,rx,q2⟩ :=hzz;refine thn (hi pins s2 σ H2 _ I2 q2) fun iv s3 hzz=>?_;obtain⟨y,H3,I3,ry,a,H4,ex,g,q3⟩ :=hzz;subst ex;obtain rfl:u=Value.ref a:=rx;exact Jlp hu I3 g ry rv fun s4 I4=>⟨σ,H4,I4,q3⟩
end
theorem JjU{P:Program}{w:World}{H:Hp}(h:Heap)(hb:sysModules<h.objs.size):Ym P w H (h.push { cls:=.type "dict",data:=.dict #[] }) h.objs.size (.dK []):=
 ⟨Bz _,beq_eq_false_iff_ne.mpr (Ne.symm (B6 hb)),[],.nil,Heap.DictOf.new h⟩
theorem Joj{P:Program}{w:World}{H:Hp}(h:Heap)(hb:sysModules<h.objs.size):Ym P w H (h.push { cls:=.type "dict",data:=.dict #[] }) h.objs.size (.dT []):=
 ⟨Bz _,beq_eq_false_iff_ne.mpr (Ne.symm (B6 hb)),[],.nil,_,#[],0,Aw _ rfl,⟨rfl,rfl,rfl⟩,rfl,rfl,List.nodup_nil⟩
noncomputable def Jqx:TE:=fun _ H Q=>∀p,H p=none->Q (.ref p) (upd H p (.dK []))
noncomputable def Jp3:TE:=fun _ H Q=>∀p,H p=none->Q (.ref p) (upd H p (.dT []))
section
variable {X:Cx} {pos:Pos}
theorem Yw:PE X (.Dict [] [] pos) Jqx:=fun pins s σ H Q I h=>
 wpAny_Dict_empty ⟨.ref s.heap.objs.size,_,I.laid (a:=s.heap.objs.size) (o:=.dK []) (t':=s.toks) (fun _ _ q=>A4 _ q) (A5 _) (JjU s.heap I.big),rfl,h _ (I.hok.fresh (A5 _))⟩
theorem JnR:PE X (.Dict [] [] pos) Jp3:=fun pins s σ H Q I h=>
 wpAny_Dict_empty ⟨.ref s.heap.objs.size,_,I.laid (a:=s.heap.objs.size) (o:=.dT []) (t':=s.toks) (fun _ _ q=>A4 _ q) (A5 _) (Joj s.heap I.big),rfl,h _ (I.hok.fresh (A5 _))⟩
end
noncomputable def Jm8:List (TE×TE)->St->Hp->(List (V×V)->Hp->Prop)->Prop
 | [],_,H,Q=>Q [] H
 | (tk,tv)::r,σ,H,Q=>tk σ H fun x H1=>tv σ H1 fun y H2=>Jm8 r σ H2 fun ps H3=>Q ((x,y)::ps) H3
noncomputable abbrev VV:List (V×V)->List (Value×Value)->Prop:=Paired fun p q=>Jad p.1 q.1/\Jad p.2 q.2
def PPs(X:Cx)(pos:Pos)(keys:List (Option Expr))(values:List Expr)(trs:List (TE×TE)):Prop:=
 ∀(pins:PL) (s:Shared) (σ:St) (H:Hp) (Q:List (V×V)->Hp->Prop),Inv X pins σ H s->Jm8 trs σ H Q->
  wpAny (model X.prog X.w) X.A (evalPairs (pairTrees keys values X.env pos)) (fun vs s'=>∃ps H',Inv X pins σ H' s'/\VV ps vs/\Q ps H') X.xe s
theorem Jpo{X:Cx}{pos:Pos}:PPs X pos [] [] []:=fun pins s σ H Q I h=>pairTrees_nil_walk ⟨[],H,I,.nil,h⟩
theorem Jc0{X:Cx}{pos:Pos}{k v:Expr}{ks:List (Option Expr)}{vs:List Expr}{tk tv:TE}{trs:List (TE×TE)}(hk:PE X k tk)(hv:PE X v tv)(hr:PPs X pos ks vs trs) :
  PPs X pos (some k::ks) (v::vs) ((tk,tv)::trs):=fun pins s σ H Q I h=>
 pairTrees_cons_walk (thn (hk pins s σ H _ I h) fun u s1 ⟨x,H1,I1,rx,q1⟩ =>thn (hv pins s1 σ H1 _ I1 q1) fun w2 s2 ⟨y,H2,I2,ry,q2⟩ =>
  thn (hr pins s2 σ H2 _ I2 q2) fun ws s3 ⟨ps,H3,I3,rel,q3⟩ =>⟨(x,y)::ps,H3,I3,.cons ⟨rx,ry⟩ rel,q3⟩)
noncomputable def Jgi(kvs more:List (Key×V)):List (Key×V):=more.foldl (fun acc kv=>Yt acc kv.1 kv.2) kvs
theorem KV.merge:∀{more:List (Key×V)} {rs:List (Key×Value)} {kvs:List (Key×V)} {vs:List (Key×Value)},KV more rs->KV kvs vs->KV (Jgi kvs more) (merged vs rs):=by
 intro more rs kvs vs r;unfold KV at r
 induction r generalizing kvs vs with
 | nil=>intro q;exact q
 | @cons p q ps qs h t ih=>
  intro r0
  have e:KV (Yt kvs p.1 p.2) (stored vs q.1 q.2):=by
   have:=r0.put p.1 h.2;rw[<- h.1];exact this
  exact ih e
theorem Jd3:∀(more kvs:List (Key×V)),(Jgi kvs more).length<=kvs.length+more.length
 | [],kvs=>by show kvs.length<=kvs.length+0;omega
 | p::r,kvs=>by
  have h1:=Jd3 r (Yt kvs p.1 p.2);have h2:=Jcd kvs p.1 p.2;show(Jgi (Yt kvs p.1 p.2) r).length<=_;rw[List.length_cons];omega
theorem JgG{P:Program}{w:World}:∀{kvs:List (Key×V)} {ws:List (Value×Value)},VV (kvs.map fun kv=>(kV kv.1,kv.2)) ws->∃rs,Carries (Yc P w) ws rs/\KV kvs rs
 | [],_,r=>by rw[List.map_nil]at r;cases r;exact⟨[],True.intro,.nil⟩
 | p::kvs,_,r=>by
  rw[List.map_cons]at r
  cases r with
  | @cons a b as bs h t=>
   obtain⟨rs,c,q⟩ :=JgG (P:=P) (w:=w) t;obtain⟨b1,b2⟩ :=b;exact⟨(p.1,b2)::rs,⟨JkC h.1,rfl,c⟩,.cons ⟨rfl,h.2⟩ q⟩
noncomputable def JqK(trs:List (TE×TE)):TE:=fun σ H Q=>∀p,H p=none->Jm8 trs σ (upd H p (.dK [])) fun ps H2=>H2 p=some (.dK [])/\∃kvs:List (Key×V),ps=kvs.map (fun kv=>(kV kv.1,kv.2))/\kvs.length<=15/\Q (.ref p) (upd H2 p (.dK (Jgi [] kvs)))
theorem JpU{X:Cx}{pos:Pos}{keys:List (Option Expr)}{values:List Expr}{trs:List (TE×TE)}(h:PPs X pos keys values trs)(hall:keys.all (·.isSome)=true)(hl:keys.length=values.length)(h0:keys≠[])
  (h15:keys.length<=15):PE X (.Dict keys values pos) (JqK trs):=by
 intro pins s σ H Q I q;have hn:=I.hok.fresh (A5 s.heap.objs.size);have I1:=I.laid (a:=s.heap.objs.size) (o:=.dK []) (h':=s.heap.push { cls:=.type "dict",data:=.dict #[] }) (t':=s.toks) (fun _ _ q=>A4 _ q) (A5 _) (JjU s.heap I.big);refine wpAny_Dict_walk (knd:=Yc X.prog X.w) hall hl h0 h15 (thn (h pins _ σ _ _ I1 (q _ hn)) fun ws s2 hzz=>?_);obtain⟨ps,H2,I2,rel,e,kvs,ep,lk,q2⟩ :=hzz;subst ep;obtain⟨rs,c,rk⟩ :=JgG (P:=X.prog) (w:=X.w) rel;obtain⟨z,hd,vs0,r0,dd⟩ :=JiU I2.hok e;cases r0;refine⟨rs,c,dd,fun h' dd' hs=>⟨.ref s.heap.objs.size,_,?_,rfl,q2⟩⟩
 have hz:(Jgi [] kvs).length<=B2:=by
  have h1:=Jd3 kvs [];rw[List.length_nil]at h1;rw[sizeLine_eq];omega
 have he:∃q,h'.get? s.heap.objs.size=some q:=let ⟨q,_,_,hq,_⟩ :=dd';⟨q,hq⟩
 exact JgR I2 (by rw[e];exact True.intro) hs he (JlJ hz hd (rk.merge .nil) dd')
structure M2(X:Cx)(o:Expr)(m:Str)(apos:Pos)(e f:Expr)(cpos:Pos):Prop where
 base:attributeBase o m X.env (eval o X.env)=eval o X.env
 few:((backTo cpos (starEach [e,f] X.env)).all (fun x=>!x.1)&&(backToKw cpos (keywordEach [] X.env)).all (fun x=>x.1.isSome)
 &&decide (([e,f]:List Expr).length+([]:List Keyword).length+(if([]:List Keyword).isEmpty then 0 else 1)<30))=true
 line:(apos.endLine==cpos.line)=true
 trees:backTo cpos (starEach [e,f] X.env)=[(false,eval e X.env),(false,eval f X.env)]
def IsD(H:Hp)(a:Addr):Prop:=(∃kvs,Rd H a (.dK kvs))\/∃kvs,Rd H a (.dT kvs)
theorem JoZ{X:Cx}{pins:PL}{σ:St}{H:Hp}{s:Shared}{a:Addr}(I:Inv X pins σ H s)(d:IsD H a) :
  s.TypeIs (.ref a) "dict"/\(∀b,Value.ref a=.ref b->∃ob,s.heap.get? b=some ob/\ob.dict=none)/\(a==sysModules)=false:=by
 rcases d with⟨kvs,e⟩|⟨kvs,e⟩
 .obtain⟨_,hd,vs,_,dd⟩ :=JkE I.hok e;refine⟨dd.typeIs,fun b q=>?_,hd⟩;cases q;obtain⟨ob,_,_,h1,h2,_⟩ :=dd;exact⟨ob,h1,h2.2.1⟩
 .obtain⟨_,hd,xs,_,dd⟩ :=JlQ I.hok e;refine⟨dd.typeIs,fun b q=>?_,hd⟩;cases q;obtain⟨ob,_,_,h1,h2,_⟩ :=dd;exact⟨ob,h1,h2.2.1⟩
section
variable {X:Cx} {pins:PL} {σ:St} {H:Hp} {s:Shared} {a:Addr} {y d:V} {u r:Value} {o:Option V} {A:Around} {E:Value→Shared→Prop}
theorem Jp8{Q:VS}(hu:A.units+1<cLine)(I:Inv X pins σ H s)(g:Jbc H a y o)(ry:Jad y u)(rd:Jad d r)(h:∀w' s',Inv X pins σ H s'->Jad (o.getD d) w'->Q w' s') :
  wpAny (model X.prog X.w) A (call (.builtin "dict.get") [.ref a,u,r]) Q E s:=by
 rcases g with⟨kvs,k,e,ey,l⟩|⟨kvs,k,b,e,ey,eb,l⟩
 .subst ey;obtain⟨z,hd,vs,rel,dd⟩ :=JkE I.hok e;refine call_meetsIn PySem.F.slot_dict_get dd.typeIs PySem.F.entry_dict_get (PySem.F.args_dict_get_3 _ _ _) (meets_dict_get_default (Yc X.prog X.w) a (JkC ry) hd r) ⟨_,dd.mapOf,h _ _ (I.tok _) ?_⟩;rw[l];exact(rel.val k).getD rd
 .subst ey;cases(show u=Value.ref b from ry);obtain⟨z,hd,xs,rel,dd⟩ :=JlQ I.hok e;refine call_meetsIn PySem.F.slot_dict_get dd.typeIs PySem.F.entry_dict_get (PySem.F.args_dict_get_3 _ _ _) (meetsH_dict_get_default (tupleKind (Yc X.prog X.w)) a b hd r) ⟨tupleKind_room_in1 hu,k,xs,JjO I.hok eb,dd,h _ _ (I.tok _) ?_⟩;rw[l];exact(rel.val k).getD rd
end
inductive DaI(x:V)(H:Hp)(Q:Addr->Prop):Prop
 | mk (a:Addr) (e:x=.ref a) (h:IsD H a) (q:Q a):DaI x H Q
inductive DoI(a:Addr)(y z:V)(H:Hp)(Q:VK):Prop
 | mk (o:Option V) (h:Jbc H a y o) (q:Q (o.getD z) H):DoI a y z H Q
noncomputable def Jrl(td ty tx:TE):TE:=fun σ H Q=>td σ H fun x H1=>DaI x H1 fun a=>ty σ H1 fun y H2=>tx σ H2 fun z H3=>DoI a y z H3 Q
section
variable {X:Cx} {o e f:Expr} {apos cpos:Pos} {td ty tx:TE}
theorem Y9(hu:X.A.units+1<cLine)(ho:PE X o td)(he:PE X e ty)(hf:PE X f tx)(m:M2 X o "get" apos e f cpos):PE X (.Call (.Attribute o "get" apos) [e,f] [] cpos) (Jrl td ty tx):=by
 intro pins s σ H Q I h;refine wpAny_Call_method m.base m.few m.line PySem.F.plainAttrs_dict PySem.F.slot_dict_get PySem.F.type_dict_get (thn (ho pins s σ H _ I h) fun u s1 hzz=>?_);obtain⟨x,H1,I1,rx,a,ex,d,q1⟩ :=hzz;subst ex;obtain rfl:u=Value.ref a:=rx;obtain⟨t1,t2,_⟩ :=JoZ I1 d;refine⟨t1,t2,?_⟩;rw[m.trees];refine Calls.callWith_builtin rfl (Calls.evalArgs_plain (Calls.spliced_cons (thn (he pins s1 σ H1 _ I1 q1) fun iv s2 hzz=>?_)));obtain⟨y,H2,I2,ry,q2⟩ :=hzz;refine Calls.spliced_cons (thn (hf pins s2 σ H2 _ I2 q2) fun fv s3 hzz=>?_);obtain⟨z,H3,I3,rz,ov,g,q3⟩ :=hzz;refine Calls.spliced_nil ?_;exact Jp8 hu I3 g ry rz fun w' s4 I4 rw'=>⟨_,H3,I4,rw',q3⟩
end
section
variable {X:Cx} {pins:PL} {σ:St} {H:Hp} {s:Shared} {a:Addr} {kvs:List (Key×V)} {A:Around} {E:Value→Shared→Prop}
end
section
variable {X:Cx} {pins:PL} {σ:St} {H:Hp} {s:Shared} {a:Addr} {y:V} {u:Value} {A:Around} {E:Value→Shared→Prop}
end
end L2
namespace HT
open PySem PyProof.Rows
section
open PySem.SeqAt
open PySem.AutoSeq1 (wpAny_loadPart')
open PySem.MeetsSeq PySem.MeetsSeq2 PySem.MeetsSeq3
end
section
variable {prog:Program} {w:World} {A:Around} {E:Value→Shared→Prop} {s:Shared}
theorem JpK{t b:Addr}{vs ws:List Value}{Q:Value->Shared->Prop}(ht:IsTup s.heap t vs.toArray)(hb:IsTup s.heap b ws.toArray)(hv:vs≠[])
  (h1:ws=[]->Q (.ref t) s) (h2:ws≠[]->Q (.ref s.heap.objs.size) { s with heap:=s.heap.push { cls:=.type "tuple",data:=.seq (vs++ws).toArray } })
  (hsz:vs.length+ws.length<=B2):wpAny (model prog w) A (binaryOp .Add (.ref t) (.ref b)) Q E s:=by
 obtain⟨⟨cls,dd,data,sl⟩,ho,hc,n,hd⟩ :=id ht;obtain⟨⟨cls2,dd2,data2,sl2⟩,ho2,hc2,n2,hd2⟩ :=id hb;simp only at hc hd hc2 hd2;subst hc hd hc2 hd2
 have e:vs.toArray++ws.toArray=(vs++ws).toArray:=by simp
 by_cases hw:ws=[]
 .exact concat_meets ⟨_,ho,rfl⟩ ⟨_,ho2,rfl⟩ noFill_tuple_add seq_tuple_add PySem.F.slot_tuple_add PySem.F.entry_tuple_add (PySem.F.args_tuple_add_2 _ _)
   (tuple_addW1 t b vs.toArray ws.toArray n n2 dd dd2 sl sl2 (by simpa using hv) (by simp[hw])) ⟨ho,ho2,h1 hw⟩
 .refine concat_meets ⟨_,ho,rfl⟩ ⟨_,ho2,rfl⟩ noFill_tuple_add seq_tuple_add PySem.F.slot_tuple_add PySem.F.entry_tuple_add (PySem.F.args_tuple_add_2 _ _)
   (tuple_addW2 t b vs.toArray ws.toArray n n2 dd dd2 sl sl2 (by simpa using hv) (by simpa using hw) (by rw[B0,B0];exact hsz)) ⟨ho,ho2,?_⟩
  rw[e];exact h2 hw
noncomputable def sIx(n d:Nat):Option Int->Nat
 | none=>d
 | some v=>if v<0 then(v+(n:Int)).toNat else min v.toNat n
theorem JjD(n d:Nat):sIx n d none=d:=rfl
theorem JiQ(n d k:Nat):sIx n d (some (k:Int))=min k n:=by
 show(if(k:Int)<0 then((k:Int)+(n:Int)).toNat else min (k:Int).toNat n)=min k n;rw[if_neg (by omega),Int.toNat_natCast]
theorem Jp1(n d:Nat)(hd:d<=n)(o:Option Int):sIx n d o<=n:=by
 cases o with
 | none=>exact hd
 | some v=>
  show(if v<0 then(v+(n:Int)).toNat else min v.toNat n)<=n
  by_cases hv:v<0
  .rw[if_pos hv];omega
  .rw[if_neg hv];exact Nat.min_le_right _ _
theorem Jmf(v:Int)(n d:Nat):(if v<0 then max (v+(n:Int)) 0 else min v (n:Int))=((sIx n d (some v):Nat):Int):=by
 show(if v<0 then max (v+(n:Int)) 0 else min v (n:Int))=(((if v<0 then(v+(n:Int)).toNat else min v.toNat n):Nat):Int)
 by_cases hv:v<0
 .simp only[if_pos hv];omega
 .simp only[if_neg hv];omega
theorem JkH(lo hi:Option Int)(n:Nat):Builtin.Slice.sliceAdjust lo hi 1 (n:Int)=(((sIx n 0 lo:Nat):Int),((sIx n n hi:Nat):Int)):=by
 have h1:¬((1:Int)<0):=by omega
 unfold Builtin.Slice.sliceAdjust;simp only[h1,if_false];refine Prod.ext ?_ ?_
 .cases lo with
  | none=>rfl
  | some v=>exact Jmf v n 0
 .cases hi with
  | none=>rfl
  | some v=>exact Jmf v n n
theorem JkU(i j:Nat):Builtin.Slice.slicePlaces (i:Int) (j:Int) 1=j-i:=by
 unfold Builtin.Slice.slicePlaces
 have h1:(1:Int)>0:=by omega
 simp only[h1,if_true,Int.ediv_one];split<;>omega
theorem Jgf{v:Value}{o:Option Int}{Q:Option Int->Shared->Prop}(p:IsPart v o)(h:Q o s):wpAny (model prog w) A (Builtin.Slice.slicePartIndex v) Q E s:=by
 cases p with
 | none=>exact slicePart_none h
 | int i t=>exact slicePart_int h
theorem JeV{sl:Addr}{vl vu:Value}{lo hi:Option Int}{n:Nat}{Q:Int×Int×Nat->Shared->Prop}(hs:s.heap.IsSliceOf sl vl vu .none)(pl:IsPart vl lo)(pu:IsPart vu hi)
  (h:Q (((sIx n 0 lo:Nat):Int),1,sIx n n hi-sIx n 0 lo) s):wpAny (model prog w) A (Builtin.Slice.sliceApplied (.ref sl) (pure (n:Int))) Q E s:=by
 obtain⟨os,hos,hcs,hds⟩ :=id hs;unfold Builtin.Slice.sliceApplied Builtin.Slice.sliceFields;refine A0 (A0 (wpAny_field hos hds (x:=vl) rfl (A0 (wpAny_field hos hds (x:=vu) rfl (A0 (wpAny_field hos hds (x:=.none) rfl (A9 ?_)))))));refine A0 (slicePart_none ?_);show wpAny _ _ (if((1:Int)==0)=true then _ else _) _ _ s;rw[if_neg (by decide)];refine A0 (Jgf pl (A0 (Jgf pu (A0 (A9 ?_)))));show wpAny _ _ (match Builtin.Slice.sliceAdjust lo hi 1 (n:Int)with|(lo,hi)=>pure (lo,(1:Int),Builtin.Slice.slicePlaces lo hi 1)) _ _ s
 rw[JkH lo hi n];show wpAny _ _ (pure (((sIx n 0 lo:Nat):Int),(1:Int),Builtin.Slice.slicePlaces ((sIx n 0 lo:Nat):Int) ((sIx n n hi:Nat):Int) 1)) _ _ s;rw[JkU];exact A9 h
theorem JnW(xs:Array Value)(i k:Nat):((List.range k).filterMap fun(m:Nat)=>xs[((i:Int)+(m:Int)*1).toNat]?).toArray=((xs.toList.drop i).take k).toArray:=by
 have e:(fun(m:Nat)=>xs[((i:Int)+(m:Int)*1).toNat]?)=fun m=>xs[i+m]?:=by
  funext m
  have:((i:Int)+(m:Int)*1).toNat=i+m:=by omega
  rw[this]
 rw[e];have:=pick_run xs i k;rw[List.filterMap_map]at this;have e2:((fun x=>xs[x]?) ∘ fun x=>i+x)=fun m=>xs[i+m]?:=rfl;rw[e2]at this;rw[this]
theorem JeB{t sl:Addr}{items:Array Value}{vl vu:Value}{lo hi:Option Int}{Q:Value->Shared->Prop}(ht:IsTup s.heap t items)(hs:s.heap.IsSliceOf sl vl vu .none)(pl:IsPart vl lo)(pu:IsPart vu hi)
  (hw:¬(sIx items.size 0 lo=0/\sIx items.size items.size hi=items.size))
  (h:Q (.ref s.heap.objs.size) { s with heap:=s.heap.push { cls:=.type "tuple",data:=.seq ((items.toList.drop (sIx items.size 0 lo)).take (sIx items.size items.size hi-sIx items.size 0 lo)).toArray } })
  (hsz:items.size<=B2):wpAny (model prog w) A (getItem (.ref t) (.ref sl)) Q E s:=by
 have htake:sizeOk (.seq ((items.toList.drop (sIx items.size 0 lo)).take (sIx items.size items.size hi-sIx items.size 0 lo)).toArray):=by
  show((items.toList.drop (sIx items.size 0 lo)).take (sIx items.size items.size hi-sIx items.size 0 lo)).toArray.size<=B2;rw[B0,B7,List.length_drop,Array.length_toList];omega
 have hj:sIx items.size items.size hi<=items.size:=Jp1 _ _ (A5 _) hi;obtain⟨os,hos,hcs,hds⟩ :=id hs;have hTs:s.TypeIs (.ref sl) "slice":=⟨os,hos,hcs⟩;unfold getItem
 try with_reducible refine wpAny_holding ?_
 first|refine A0 (A9 ?_)|skip
 refine A0 (wpAny_sequenceKey ht.typeIs (by decide) ?_)
 refine A0 (wpAny_callSpecial?_slot (name:=Str.ofString "__getitem__") ht.typeIs PyProof.Rows.slot_tuple_getitem
  (C5 PyProof.Rows.slot_tuple_getitem ht.typeIs entry_tuple_getitem ?_ (args_tuple_getitem _ _)))
 show wpAny _ _ (Builtin.Tuple.tupleItemsOf (.ref t) >>= _) _ _ s;refine A0 (tupleItemsOf_ ht ?_);refine A0 (wpAny_typeOf hTs ?_);rw[if_pos (by decide)];refine A0 (JeV hs pl pu ?_)
 have hno:¬((((sIx items.size 0 lo:Nat):Int)==0&&(1:Int)==1&&(sIx items.size items.size hi-sIx items.size 0 lo)==items.size)=true):=by
  intro q;rw[Bool.and_eq_true,Bool.and_eq_true]at q;have q1:((sIx items.size 0 lo:Nat):Int)=0:=eq_of_beq q.1.1;have q2:sIx items.size items.size hi-sIx items.size 0 lo=items.size:=eq_of_beq q.2;exact hw ⟨by omega,by omega⟩
 show wpAny _ _ (if(((sIx items.size 0 lo:Nat):Int)==0&&(1:Int)==1&&(sIx items.size items.size hi-sIx items.size 0 lo)==items.size)=true then _ else _) _ _ s;rw[if_neg hno,JnW]
 first
  | exact A0 (m:=Builtin.Tuple.tupleExact _) (C4 (A9 ⟨_,rfl,A9 h⟩) htake)
  | exact A0 (m:=Builtin.Tuple.tupleExact _) (C4 (A0 (A9 (A9 ⟨_,rfl,A9 h⟩))) htake)
  | exact A0 (A0 (m:=Builtin.Tuple.tupleExact _) (C4 (A9 (A9 ⟨_,rfl,A9 h⟩)) htake))
  | exact A0 (A0 (m:=Builtin.Tuple.tupleExact _) (C4 (A9 ⟨_,rfl,A9 h⟩) htake))
end
end HT
namespace L2
open PySem PySem.Spec PyProof.Rows
noncomputable abbrev TO:=St->Hp->(Option Int->Hp->Prop)->Prop
def PO(X:Cx)(e:Option Expr)(t:TO):Prop:=
 ∀(pins:PL) (s:Shared) (σ:St) (H:Hp) (Q:Option Int->Hp->Prop),Inv X pins σ H s->t σ H Q->
  wpAny (model X.prog X.w) X.A (evalPart e X.env) (fun u s'=>∃o H',Inv X pins σ H' s'/\IsPart u o/\Q o H') X.xe s
noncomputable def Jpr:TO:=fun _ H Q=>Q none H
noncomputable def Jq7(t:TE):TO:=fun σ H Q=>t σ H fun x H1=>∃i,x=.int i/\Q (some i) H1
theorem Jbx{ns:List Int}:∀{us:List Value},YZ (ns.map V.int) us->IntsAre us ns:=by
 induction ns with
 | nil=>intro us r;rw[List.map_nil]at r;cases r;exact .nil
 | cons n ns ih=>
  intro us r;rw[List.map_cons]at r
  cases r with
  | cons r1 r2=>
   obtain⟨t,e⟩ :=r1;subst e;exact .cons n t (ih r2)
section
variable {X:Cx} {e:Expr} {te:TE} {lo hi:Option Expr} {tl th:TO} {pos p2:Pos}
theorem JaH:PO X none Jpr:=by
 intro pins s σ H Q I h;rw[evalPart_none];exact A9 ⟨none,H,I,.none,h⟩
theorem Jpk(h:PE X e te):PO X (some e) (Jq7 te):=by
 intro pins s σ H Q I hw;rw[evalPart_some];refine thn (h pins s σ H _ I hw) fun u s1 hzz=>?_;obtain⟨x,H1,I1,r1,q1⟩ :=hzz;obtain⟨i,rfl,q⟩ :=q1;obtain⟨t,rfl⟩ :=r1;exact⟨some i,H1,I1,.int i t,q⟩
def SlR(X:Cx)(r:V->Option Int->Option Int->Hp->VK->Prop):Prop:=
 ∀(pins:PL) (s:Shared) (σ:St) (H:Hp) (x:V) (v vl vu:Value) (lo hi:Option Int) (sl:Addr) (Q:VK),Inv X pins σ H s->Jad x v->s.heap.IsSliceOf sl vl vu .none->IsPart vl lo->IsPart vu hi->r x lo hi H Q->
  ∃T id,typeLookup (.type T) "__getitem__" = pure (some (.builtin id))/\s.TypeIs v T/\wpAny (model X.prog X.w) X.A (getItem v (.ref sl)) (EP X pins σ Q) X.xe s
noncomputable def tSl(r:V->Option Int->Option Int->Hp->VK->Prop)(te:TE)(tl th:TO):TE:=fun σ H Q=>te σ H fun x H1=>tl σ H1 fun l H2=>th σ H2 fun u H3=>r x l u H3 Q
theorem YS{r:V->Option Int->Option Int->Hp->VK->Prop}(hr:SlR X r)(he:PE X e te)(hl:PO X lo tl)(hu:PO X hi th):PE X (.Subscript e (.Slice lo hi none p2) pos) (tSl r te tl th):=by
 intro pins s σ H Q I h;refine Subscript_ (thn (he pins s σ H _ I h) fun v s1 hzz=>?_);obtain⟨x,H1,I1,r1,q1⟩ :=hzz;refine wpAny_Slice (thn (hl pins s1 σ H1 _ I1 q1) fun vl s2 hzz=>?_);obtain⟨l,H2,I2,pl,q2⟩ :=hzz;refine thn (hu pins s2 σ H2 _ I2 q2) fun vu s3 hzz=>?_;obtain⟨u,H3,I3,pu,q3⟩ :=hzz;rw[evalPart_none];refine A9 ?_;have I4:Inv X pins σ H3 { s3 with heap:=s3.heap.push { cls:=.type "slice",data:=.fields #[vl,vu,.none] } }:=I3.kept (t':=s3.toks) fun b ob q=>A4 _ q;obtain⟨T,id,hT,ht,hg⟩ :=hr pins { s3 with heap:=s3.heap.push { cls:=.type "slice",data:=.fields #[vl,vu,.none] } } σ H3 x v vl vu l u s3.heap.objs.size Q I4 r1 (Heap.IsSliceOf.new ..) pl pu q3;show wpAny (model X.prog X.w) X.A (subscriptTail e (.Slice lo hi none p2) v (.ref s3.heap.objs.size)) (EP X pins σ Q) X.xe { s3 with heap:=s3.heap.push { cls:=.type "slice",data:=.fields #[vl,vu,.none] } };exact tail_any (ops:=[.ref s3.heap.objs.size,v]) ht hT hg (by with_unfolding_all rfl)
noncomputable def Jf6(xs:List V)(lo hi:Option Int):List V:=(xs.drop (HT.sIx xs.length 0 lo)).take (HT.sIx xs.length xs.length hi-HT.sIx xs.length 0 lo)
theorem JfY(xs:List V)(lo hi:Option Int):(Jf6 xs lo hi).length<=xs.length:=by
 unfold Jf6;rw[B7,List.length_drop];omega
inductive StI(K:WF)(x:V)(lo hi:Option Int)(H:Hp)(Q:VK):Prop
 | mk (a:Addr) (xs:List V) (e:x=.ref a) (h:SqT K H a xs) (n:¬(HT.sIx xs.length 0 lo=0/\HT.sIx xs.length xs.length hi=xs.length)) (q:∀p,H p=none->Q (.ref p) (upd H p (.tup (Jf6 xs lo hi)))):StI K x lo hi H Q
noncomputable def Jsz(K:WF):V->Option Int->Option Int->Hp->VK->Prop:=fun x lo hi H Q=>StI K x lo hi H Q
theorem Jir:SlR X (Jsz X.K):=by
 intro pins s σ H x v vl vu lo hi sl Q I rx hs pl pu h;obtain⟨a,xs,rfl,hx,hw,q⟩ :=h;cases rx;obtain⟨its,r,ht,hz⟩ :=I.tuple hx
 have hlen:its.toArray.size=xs.length:=by rw[B0];exact r.length.symm
 refine⟨"tuple",_,PyProof.Rows.slot_tuple_getitem.lookup,ht.typeIs,?_⟩;refine HT.JeB ht hs pl pu (by rw[hlen];exact hw) ?_ (by rw[hlen];exact hz);rw[hlen];refine⟨.ref s.heap.objs.size,_,I.laid (t':=s.toks) (o:=.tup (Jf6 xs lo hi)) (fun b ob q=>A4 _ q) (A5 _) ?_,rfl,q _ (I.hok.fresh (A5 _))⟩;exact⟨Nat.le_trans (JfY xs lo hi) hz,_,(r.drop (HT.sIx xs.length 0 lo)).take (HT.sIx xs.length xs.length hi-HT.sIx xs.length 0 lo),IsTup.new _ _⟩
noncomputable def Jr5(K:WF):R2:=fun x y H Q=>∃a b xs ys,x=.ref a/\y=.ref b/\SqT K H a xs/\SqT K H b ys/\xs≠[]/\xs.length+ys.length<=B2/\
 (ys=[]->Q (.ref a) H)/\(ys≠[]->∀p,H p=none->Q (.ref p) (upd H p (.tup (xs++ys))))
theorem YZ.nil_iff{xs:List V}{us:List Value}(r:YZ xs us):us=[]↔xs=[]:=by
 cases r with
 | nil=>simp
 | cons _ _=>simp
theorem Jo5:OpR X (binaryOp .Add) (Jr5 X.K):=by
 intro pins s σ H x y v u Q I rx ry h;obtain⟨a,b,xs,ys,rfl,rfl,ha,hb,hx,hz,q1,q2⟩ :=h;cases rx;cases ry;obtain⟨its,r1,p1,_⟩ :=I.tuple ha;obtain⟨its2,r2,p2,_⟩ :=I.tuple hb;refine HT.JpK p1 p2 (fun z=>hx (r1.nil_iff.mp z)) (fun z=>⟨.ref a,H,I,rfl,q1 (r2.nil_iff.mp z)⟩) (fun z=>?_) (by rw[<- r1.length,<- r2.length];exact hz);refine⟨.ref s.heap.objs.size,_,I.laid (t':=s.toks) (o:=.tup (xs++ys)) (fun b ob q=>A4 _ q) (A5 _) ?_,rfl,q2 (fun w=>z (r2.nil_iff.mpr w)) _ (I.hok.fresh (A5 _))⟩;exact⟨by rw[Ak];exact hz,_,r1.append r2,IsTup.new _ _⟩
end
end L2
namespace L2
open PySem PySem.Spec PyProof.Rows
noncomputable def ixN(n:Nat)(i:Int):Option Nat:=if 0<=i then(if i<n then some i.toNat else none)else if -(n:Int)<=i then some (i+n).toNat else none
noncomputable def atI{α:Type}(xs:List α)(i:Int):Option α:=(ixN xs.length i).bind fun j=>xs[j]?
theorem JpF{n:Nat}{i:Int}{j:Nat}(h:ixN n i=some j):seqIndex? i n=some j/\j<n/\-(n:Int)<=i/\i<n:=by
 unfold ixN at h
 by_cases h0:0<=i
 .rw[if_pos h0]at h
  by_cases h1:i<n
  .rw[if_pos h1]at h;have e:i.toNat=j:=Option.some.inj h;exact⟨by rw[seqIndex_of h0 h1,e],by omega,by omega,h1⟩
  .rw[if_neg h1]at h;cases h
 .rw[if_neg h0]at h
  by_cases h1 : -(n:Int)<=i
  .rw[if_pos h1]at h;have e:(i+n).toNat=j:=Option.some.inj h;exact⟨by rw[seqIndex_neg (by omega) h1,e],by omega,h1,by omega⟩
  .rw[if_neg h1]at h;cases h
theorem JiZ{α:Type}{xs:List α}{i:Int}{v:α}(h:atI xs i=some v):∃j,seqIndex? i xs.length=some j/\xs[j]?=some v/\j<xs.length/\-(xs.length:Int)<=i/\i<xs.length:=by
 unfold atI at h
 cases e:ixN xs.length i with
 | none=>rw[e]at h;cases h
 | some j=>
  rw[e]at h;obtain⟨h1,h2,h3,h4⟩ :=JpF e;exact⟨j,h1,h,h2,h3,h4⟩
theorem Jh{α:Type}{xs:List α}{j:Nat}{v:α}(h:xs[j]?=some v):atI xs (j:Int)=some v:=by
 have hj:j<xs.length:=(A6.mp h).1
 have e:ixN xs.length (j:Int)=some j:=by
  unfold ixN;rw[if_pos (by omega),if_pos (by omega)];simp
 unfold atI;rw[e];exact h
theorem Joa{α:Type}(xs:List α)(v:α):atI (xs++[v]) (-1)=some v:=by
 have hl:(xs++[v]).length=xs.length+1:=by simp
 have e:ixN (xs++[v]).length (-1)=some xs.length:=by
  unfold ixN;rw[hl,if_neg (by decide),if_pos (by omega)];congr 1;omega
 unfold atI;rw[e];show(xs++[v])[xs.length]?=some v;simp
def Jpx(b:Expr):Prop:=∀o i,subscripted b false o i=operate [o,i] (getItem o i)
def IxR(X:Cx)(r:R2):Prop:=
 ∀(value slice:Expr) (pins:PL) (s:Shared) (σ:St) (H:Hp) (x y:V) (v u:Value) (Q:VK),Inv X pins σ H s->Jad x v->Jad y u->r x y H Q->
  subscripted slice false v u=operate [v,u] (getItem v u)->wpAny (model X.prog X.w) X.A (subscriptTail value slice v u) (EP X pins σ Q) X.xe s
def MtR(X:Cx)(id:String)(r:V->List V->Hp->VK->Prop):Prop:=
 ∀(pins:PL) (s:Shared) (σ:St) (H:Hp) (x:V) (xs:List V) (v:Value) (us:List Value) (Q:VK),Inv X pins σ H s->Jad x v->YZ xs us->r x xs H Q->
  wpAny (model X.prog X.w) X.A (call (.builtin id) (v::us)) (EP X pins σ Q) X.xe s
section
variable {X:Cx} {a b:Expr} {ta tb:TE} {pos:Pos}
theorem IxR.or{r r':R2}(h:IxR X r)(h':IxR X r'):IxR X (fun x y H Q=>r x y H Q\/r' x y H Q):=by
 intro value slice pins s σ H x y v u Q I rx ry q hs
 rcases q with q|q
 .exact h value slice pins s σ H x y v u Q I rx ry q hs
 .exact h' value slice pins s σ H x y v u Q I rx ry q hs
theorem Ju{r:R2}(hr:IxR X r)(ha:PE X a ta)(hb:PE X b tb)(hs:Jpx b):PE X (.Subscript a b pos) (tOp r ta tb):=by
 intro pins s σ H Q I h;exact Subscript_ (JrP ha hb I h fun v u s2 x y H2 I2 rx ry q=>hr a b pins s2 σ H2 x y v u Q I2 rx ry q (hs _ _))
inductive JqI(K:WF)(x y:V)(H:Hp)(Q:VK):Prop
 | mk (p:Addr) (xs:List V) (i:Int) (v:V) (e:x=.ref p) (d:y=.int i) (h:SqL K H p xs) (l:atI xs i=some v) (q:Q v H):JqI K x y H Q
noncomputable def Jse(K:WF):R2:=fun x y H Q=>JqI K x y H Q
inductive Jql(K:WF)(x y:V)(H:Hp)(Q:VK):Prop
 | mk (p:Addr) (xs:List V) (i:Int) (v:V) (e:x=.ref p) (d:y=.int i) (h:SqT K H p xs) (l:atI xs i=some v) (q:Q v H):Jql K x y H Q
noncomputable def Jot(K:WF):R2:=fun x y H Q=>Jql K x y H Q
noncomputable def Jsf:R2:=fun x y H Q=>∃z i c,x=.str z/\y=.int i/\z.length<=B2/\atI z.cps.toList i=some c/\Q (.str ⟨#[c]⟩) H
theorem JK:IxR X (Jse X.K):=by
 intro value slice pins s σ H x y v u Q I rx ry h hs;obtain⟨p,xs,i,z,rfl,rfl,hq,he,q⟩ :=h;cases rx;obtain⟨t,rfl⟩ :=ry;obtain⟨its,r,pl,hz⟩ :=I.list hq;obtain⟨j,h1,h2,h3,h4,h5⟩ :=JiZ he;obtain⟨w,ew,rw'⟩ :=r.get h2;have hl:=r.length;have hn:=Jis;have fin:EP X pins σ Q w s:=⟨z,H,I,rw',q⟩
 by_cases h0:0<=i
 .have hj:i.toNat=j:=by
   rw[seqIndex_of h0 h5]at h1;exact Option.some.inj h1
  exact item_listR pl.isList h0 (by omega) (by rw[hj];simpa using ew) fin hs
 .have hj:(i+(its.toArray.size:Int)).toNat=j:=by
   rw[seqIndex_neg (by omega) h4]at h1;rw[B0,<- hl];exact Option.some.inj h1
  exact subscriptTail_builtinR (x:=w) pl.isList.typeIs slot_list_getitem.lookup
   (wpAny_getItem_list_neg (Q:=fun r s'=>r=w/\EP X pins σ Q r s') pl.isList (by omega) (by rw[B0]<;>omega) (by omega) (by rw[hj];simpa using ew) ⟨rfl,fin⟩) hs
theorem Js:IxR X (Jot X.K):=by
 intro value slice pins s σ H x y v u Q I rx ry h hs;obtain⟨p,xs,i,z,rfl,rfl,hq,he,q⟩ :=h;cases rx;obtain⟨t,rfl⟩ :=ry;obtain⟨its,r,pl,hz⟩ :=I.tuple hq;obtain⟨j,h1,h2,h3,h4,h5⟩ :=JiZ he;obtain⟨w,ew,rw'⟩ :=r.get h2;have hl:=r.length;have hn:=Jis;have fin:EP X pins σ Q w s:=⟨z,H,I,rw',q⟩
 exact subscriptTail_builtinR (x:=w) pl.typeIs slot_tuple_getitem.lookup
  (getItem_tuple (j:=j) (Q:=fun r s'=>r=w/\EP X pins σ Q r s') pl (by omega) (by omega) (by rw[B0,<- hl];exact h1) (by simpa using ew) ⟨rfl,fin⟩) hs
theorem Jqp:IxR X Jsf:=by
 intro value slice pins s σ H x y v u Q I rx ry h hs;obtain⟨z,i,c,rfl,rfl,hz,he,q⟩ :=h;obtain⟨t,rfl⟩ :=rx;obtain⟨t',rfl⟩ :=ry;obtain⟨j,h1,h2,h3,h4,h5⟩ :=JiZ he
 have hl:z.cps.toList.length=z.length:=by simp[Str.length]
 rw[hl]at h1 h4 h5;have hn:=Jis
 exact tail_any (typeIs_str s z t) slot_str_getitem.lookup (getItem_str (c:=c) (by
  have e1:decide (i < -(2^63:Int))=false:=decide_eq_false (by omega);have e2:decide (i ≥ 2^63)=false:=decide_eq_false (by omega)
  rw[e1,e2,Bool.or_false]) (by rw[h1];simpa using h2) ⟨.str ⟨#[c]⟩,H,I.tok _,⟨_,rfl⟩,q⟩) hs
noncomputable def rIx(K:WF):R2:=fun x y H Q=>Jse K x y H Q\/Jot K x y H Q\/Jsf x y H Q
theorem Jou:IxR X (rIx X.K):=JK.or (Js.or Jqp)
theorem JhM(lo hi:Option Int)(n:Nat):(sliceBounds lo hi none n).1=((HT.sIx n 0 lo:Nat):Int)/\(sliceBounds lo hi none n).2.1=((HT.sIx n n hi:Nat):Int)/\(sliceBounds lo hi none n).2.2=1:=by
 refine⟨?_,?_,rfl⟩
 .cases lo with
  | none=>simp[sliceBounds,HT.sIx]
  | some i=>
   simp only[sliceBounds,HT.sIx,Option.getD_none,show(1:Int)>0 by decide,if_true]
   by_cases h:i<0
   .simp only[h,if_true]<;>omega
   .simp only[h,if_false]<;>omega
 .cases hi with
  | none=>simp[sliceBounds,HT.sIx]
  | some i=>
   simp only[sliceBounds,HT.sIx,Option.getD_none,show(1:Int)>0 by decide,if_true]
   by_cases h:i<0
   .simp only[h,if_true]<;>omega
   .simp only[h,if_false]<;>omega
theorem JgM(its:List Value)(lo hi:Option Int):slicePick its.toArray lo hi none=((its.drop (HT.sIx its.length 0 lo)).take (HT.sIx its.length its.length hi-HT.sIx its.length 0 lo)).toArray:=by
 obtain⟨h1,h2,h3⟩ :=JhM lo hi its.toArray.size;unfold slicePick;rw[h1,h2,h3];simp only[sliceRange_one,pick_run,B0]<;>rfl
inductive SlI(K:WF)(x:V)(lo hi:Option Int)(H:Hp)(Q:VK):Prop
 | mk (a:Addr) (xs:List V) (e:x=.ref a) (h:SqL K H a xs) (q:∀p,H p=none->Q (.ref p) (upd H p (.lst (Jf6 xs lo hi)))):SlI K x lo hi H Q
noncomputable def JsA(K:WF):V->Option Int->Option Int->Hp->VK->Prop:=fun x lo hi H Q=>SlI K x lo hi H Q
theorem JbW:SlR X (JsA X.K):=by
 intro pins s σ H x v vl vu lo hi sl Q I rx hs pl pu h;obtain⟨a,xs,rfl,hx,q⟩ :=h;cases rx;obtain⟨its,r,ht,hz⟩ :=I.list hx;have hlen:=r.length;refine⟨"list",_,slot_list_getitem.lookup,ht.isList.typeIs,?_⟩;refine wpAny_getItem_list_slice ht.isList hs pl pu .none (by simp) ?_ (by rw[B0]<;>omega)
 rw[JgM,<- hlen];refine⟨.ref s.heap.objs.size,_,I.laid (t':=s.toks) (o:=.lst (Jf6 xs lo hi)) (fun b ob q=>A4 _ q) (A5 _) ?_,rfl,q _ (I.hok.fresh (A5 _))⟩;exact⟨Nat.le_trans (JfY xs lo hi) hz,_,0,(r.drop (HT.sIx xs.length 0 lo)).take (HT.sIx xs.length xs.length hi-HT.sIx xs.length 0 lo),Aw _ rfl⟩
noncomputable def JgW:V->Bool
 | .non=>true
 | .bl _=>true
 | .int _=>true
 | .str _=>true
 | _=>false
noncomputable def eqV:V->V->Bool
 | .non,.non=>true
 | .bl a,.bl b=>a==b
 | .bl a,.int b=>(if a then 1 else 0)==b
 | .int a,.bl b=>a==(if b then 1 else 0)
 | .int a,.int b=>a==b
 | .str a,.str b=>a==b
 | _,_=>false
theorem Jq4{A:Around}{s:Shared}{y x:V}{u v:Value}(ry:Jad y u)(rx:Jad x v)(fy:JgW y=true)(fx:JgW x=true):SeqAt.EqAt A s u v (eqV y x):=by
 cases y with
 | non=>
  cases ry
  cases x with
  | non=>cases rx;exact SeqAt.EqAt.same _
  | bl b=>cases rx;exact SeqAt.EqAt.none_bool b
  | int b=>obtain⟨t,rfl⟩ :=rx;exact SeqAt.EqAt.none_int b t
  | str b=>obtain⟨t,rfl⟩ :=rx;exact SeqAt.EqAt.none_str b t
  | _=>exact absurd (show false=true from fx) Bool.false_ne_true
 | bl a=>
  cases ry
  cases x with
  | non=>cases rx;exact SeqAt.EqAt.bool_none a
  | bl b=>cases rx;exact SeqAt.EqAt.bool_bool a b
  | int b=>obtain⟨t,rfl⟩ :=rx;exact SeqAt.EqAt.bool_int a b t
  | str b=>obtain⟨t,rfl⟩ :=rx;exact SeqAt.EqAt.bool_str a b t
  | _=>exact absurd (show false=true from fx) Bool.false_ne_true
 | int a=>
  obtain⟨t',rfl⟩ :=ry
  cases x with
  | non=>cases rx;exact SeqAt.EqAt.int_none a t'
  | bl b=>cases rx;exact SeqAt.EqAt.int_bool a t' b
  | int b=>obtain⟨t,rfl⟩ :=rx;exact SeqAt.EqAt.int_int a t' b t
  | str b=>obtain⟨t,rfl⟩ :=rx;exact SeqAt.EqAt.int_str a t' b t
  | _=>exact absurd (show false=true from fx) Bool.false_ne_true
 | str a=>
  obtain⟨t',rfl⟩ :=ry
  cases x with
  | non=>cases rx;exact SeqAt.EqAt.str_none a t'
  | bl b=>cases rx;exact SeqAt.EqAt.str_bool a t' b
  | int b=>obtain⟨t,rfl⟩ :=rx;exact SeqAt.EqAt.str_int a t' b t
  | str b=>obtain⟨t,rfl⟩ :=rx;exact SeqAt.EqAt.str_str a t' b t
  | _=>exact absurd (show false=true from fx) Bool.false_ne_true
 | _=>exact absurd (show false=true from fy) Bool.false_ne_true
noncomputable def eqU(x:V)(u:Value):Bool:=match u with
 | .none=>eqV .non x
 | .bool b=>eqV (.bl b) x
 | .int i _=>eqV (.int i) x
 | .str z _=>eqV (.str z) x
 | _=>false
theorem JoX{x y:V}{u:Value}(r:Jad y u)(f:JgW y=true):eqU x u=eqV y x:=by
 cases y with
 | non=>cases r;rfl
 | bl b=>cases r;rfl
 | int i=>obtain⟨t,rfl⟩ :=r;rfl
 | str z=>obtain⟨t,rfl⟩ :=r;rfl
 | _=>exact absurd (show false=true from f) Bool.false_ne_true
theorem Ji1{x:V}:∀{xs:List V}{us:List Value},YZ xs us->xs.all JgW=true->us.any (eqU x)=xs.any fun y=>eqV y x
 | _,_,.nil,_=>rfl
 | y::xs,u::us,.cons r t,f=>by
  rw[List.all_cons,Bool.and_eq_true]at f;rw[List.any_cons,List.any_cons,JoX r f.1,Ji1 t f.2]
theorem Jhp{A:Around}{s:Shared}{x:V}{v:Value}(rx:Jad x v)(fx:JgW x=true):∀{xs:List V}{us:List Value},YZ xs us->xs.all JgW=true->∀u∈us,SeqAt.EqAt A s u v (eqU x u)
 | _,_,.nil,_=>fun u hu=>by cases hu
 | y::xs,u::us,.cons r t,f=>fun u' hu=>by
  rw[List.all_cons,Bool.and_eq_true]at f
  rcases Ax.mp hu with rfl|hu
  .rw[JoX r f.1];exact Jq4 r rx f.1 fx
  .exact Jhp rx fx t f.2 u' hu
noncomputable def inV(x:V)(xs:List V):Bool:=xs.any fun y=>eqV y x
noncomputable def rIn(K:WF)(neg:Bool):R2:=fun x y H Q=>∃p xs,y=.ref p/\(SqL K H p xs\/SqT K H p xs)/\JgW x=true/\xs.all JgW=true/\Q (.bl (if neg then !inV x xs else inV x xs)) H
theorem JfC:OpR X (compareOp .In) (rIn X.K false):=by
 intro pins s σ H x y v u Q I rx ry h;obtain⟨p,xs,rfl,hq,fx,fs,q⟩ :=h;cases ry
 rcases hq with hq|hq
 .obtain⟨its,r,pl,hz⟩ :=I.list hq;refine SeqAt.in_listAt (eqU x) pl.isList (fun w hw=>Jhp rx fx r fs w (by simpa using hw)) ⟨.bl _,H,I,rfl,?_⟩;rw[show its.toArray.any (eqU x)=its.any (eqU x) by simp,Ji1 r fs];exact q
 .obtain⟨its,r,pl,hz⟩ :=I.tuple hq;refine SeqAt.in_tupleAt (eqU x) pl (fun w hw=>Jhp rx fx r fs w (by simpa using hw)) ⟨.bl _,H,I,rfl,?_⟩;rw[show its.toArray.any (eqU x)=its.any (eqU x) by simp,Ji1 r fs];exact q
theorem JO:JbX X (.builtin "len") (fun xs H Q=>∃p ys,xs=[.ref p]/\(SqL X.K H p ys\/SqT X.K H p ys)/\Q (.int ys.length) H):=by
 intro pins s σ H xs us Q I r h;obtain⟨p,ys,rfl,hq,q⟩ :=h;obtain⟨u,rfl,rx⟩ :=Jds r;cases rx;have hn:=Jis
 rcases hq with hq|hq
 .obtain⟨its,r',pl,hz⟩ :=I.list hq;have hlen:=r'.length;exact Calls.call_len_list pl.isList (by simp only[B0]<;>omega) ⟨.int ys.length,H,I.tok _,⟨s.toks+1,by rw[B0,hlen]⟩,q⟩
 .obtain⟨its,r',pl,hz⟩ :=I.tuple hq;have hlen:=r'.length;exact len_tuple pl (by simp only[B0]<;>omega) ⟨.int ys.length,H,I.tok _,⟨s.toks+1,by rw[B0,hlen]⟩,q⟩
theorem Jio:JbX X (.type "list") (fun xs H Q=>∃p ys,xs=[.ref p]/\(SqL X.K H p ys\/SqT X.K H p ys)/\∀l,H l=none->Q (.ref l) (upd H l (.lst ys))):=by
 intro pins s σ H xs us Q I r h;obtain⟨p,ys,rfl,hq,q⟩ :=h;obtain⟨u,rfl,rx⟩ :=Jds r;cases rx
 have fin:∀(its:List Value),YZ ys its->ys.length<=B2->∀(h':Heap)(c':Nat),(∀b o',s.heap.get? b=some o'->h'.get? b=some o')->
   h'.get? s.heap.objs.size=some { cls:=.type "list",dict:=none,data:=.seq its.toArray c',slots:=#[] }->EP X pins σ Q (.ref s.heap.objs.size) { s with heap:=h' }:=fun its r' hz h' c' kp e=>
  ⟨.ref s.heap.objs.size,_,I.laid (t':=s.toks) kp (A5 _) (show Ym X.prog X.w _ h' _ (.lst ys) from⟨hz,its,c',r',e⟩),rfl,q _ (I.hok.fresh (A5 _))⟩
 rcases hq with hq|hq
 .obtain⟨its,r',pl,hz⟩ :=I.list hq;have hlen:=r'.length;obtain⟨o,ho,hc,n,hd⟩ :=pl.isList;exact call_list_seq p (.inl rfl) ho hc hd (fun h' c' kp e=>fin its r' hz h' c' kp e) (by simp only[B0]<;>omega)
 .obtain⟨its,r',pl,hz⟩ :=I.tuple hq;have hlen:=r'.length;obtain⟨o,ho,hc,n,hd⟩ :=pl;exact call_list_seq p (.inr rfl) ho hc hd (fun h' c' kp e=>fin its r' hz h' c' kp e) (by simp only[B0]<;>omega)
theorem JgQ:JbX X (.type "tuple") (fun xs H Q=>∃p ys,xs=[.ref p]/\((SqL X.K H p ys/\∀l,H l=none->Q (.ref l) (upd H l (.tup ys)))\/(SqT X.K H p ys/\Q (.ref p) H))):=by
 intro pins s σ H xs us Q I r h;obtain⟨p,ys,rfl,h⟩ :=h;obtain⟨u,rfl,rx⟩ :=Jds r;cases rx
 rcases h with⟨hq,q⟩|⟨hq,q⟩
 .obtain⟨its,r',pl,hz⟩ :=I.list hq;have hlen:=r'.length;refine call_tuple_list pl.isList (fun h' kp=>?_) (by simp only[B0]<;>omega)
  have I1:Inv X pins σ H { s with heap:=h' }:=I.kept (t':=s.toks) kp
  have I2:Inv X pins σ (upd H h'.objs.size (.tup ys)) { s with heap:=h'.push { cls:=.type "tuple",data:=.seq its.toArray } }:=
   I1.laid (t':=s.toks) (fun b o e=>A4 _ e) (A5 _) (show Ym X.prog X.w _ _ _ (.tup ys) from⟨hz,its,r',IsTup.new _ _⟩)
  exact⟨.ref h'.objs.size,_,I2,rfl,q _ (I1.hok.fresh (A5 _))⟩
 .obtain⟨its,r',pl,hz⟩ :=I.tuple hq;exact call_tuple_same pl ⟨.ref p,H,I,rfl,q⟩
def tyV(K:WF)(T:String)(x:V)(H:Hp):Prop:=match x with
 | .str _=>T = "str"
 | .int _=>T = "int"
 | .ref p=>(T = "list"/\∃xs,SqL K H p xs)\/(T = "tuple"/\∃o,K.lookup p=some o/\o.cls=.type "tuple"/\o.dict=none)\/
   (T = "dict"/\((∃kvs,H p=some (.dK kvs))\/∃kvs,H p=some (.dT kvs)))\/(T = "set"/\∃S n,H p=some (.set S n))
 | _=>False
theorem Joz{pins:PL}{σ:St}{H:Hp}{s:Shared}{T:String}{x:V}{v:Value}(I:Inv X pins σ H s)(r:Jad x v)(ty:tyV X.K T x H) :
  s.TypeIs v T/\∀a,v=.ref a->∃ob,s.heap.get? a=some ob/\ob.dict=none:=by
 cases x with
 | str z=>
  obtain⟨t,rfl⟩ :=r;cases(show T = "str" from ty);exact⟨typeIs_str s z t,fun _ e=>nomatch e⟩
 | int i=>
  obtain⟨t,rfl⟩ :=r;cases(show T = "int" from ty);exact⟨typeIs_int s i t,fun _ e=>nomatch e⟩
 | ref p=>
  cases r
  rcases ty with⟨rfl,xs,hq⟩|⟨rfl,o,hk,hc,hd⟩|⟨rfl,hk⟩|⟨rfl,S,n,hk⟩
  .obtain⟨its,_,pl,_⟩ :=I.list hq;refine⟨pl.isList.typeIs,fun a e=>?_⟩;cases e;obtain⟨o,n,e,c,hd,_⟩ :=pl;exact⟨o,e,hd⟩
  .refine⟨⟨o,I.kIn p o hk,hc⟩,fun a e=>?_⟩;cases e;exact⟨o,I.kIn _ o hk,hd⟩
  .have z:∃o,s.heap.get? p=some o/\o.ExactDict:=by
    rcases hk with⟨kvs,hk⟩|⟨kvs,hk⟩
    .obtain⟨_,_,_,_,o,_,_,e,ex,_⟩ :=I.hok p _ hk;exact⟨o,e,ex⟩
    .obtain⟨_,_,_,_,o,_,_,e,ex,_⟩ :=I.hok p _ hk;exact⟨o,e,ex⟩
   obtain⟨o,e,ex⟩ :=z;refine⟨⟨o,e,ex.1⟩,fun a e2=>?_⟩;cases e2;exact⟨o,e,ex.2.1⟩
  .obtain⟨o,_,_,_,e,ex,_⟩ :=I.hok p _ hk;refine⟨⟨o,e,ex.1⟩,fun a e2=>?_⟩;cases e2;exact⟨o,e,ex.2.1⟩
 | _=>exact False.elim ty
noncomputable def JrW(K:WF)(T:String)(r:V->List V->Hp->VK->Prop)(to:TE):TE:=fun σ H Q=>to σ H fun x H1=>tyV K T x H1/\r x [] H1 Q
noncomputable def tBM(K:WF)(T:String)(r:V->List V->Hp->VK->Prop)(to:TE)(t:TA):TE:=fun σ H Q=>to σ H fun x H1=>tyV K T x H1/\t σ H1 fun xs H2=>r x xs H2 Q
variable {o e:Expr} {es:List Expr} {to:TE} {t:TA} {name:Str} {apos cpos:Pos} {T id:String} {r:V→List V→Hp→VK→Prop}
theorem JmU(pa:PlainAttrs T)(slot:Slot T name id)(hty:typeOf (.builtin id)=pure (.type "method_descriptor"))(hm:MtR X id r)(ho:PE X o to)
  (hbase:attributeBase o name X.env (eval o X.env)=eval o X.env:=by rfl) (hline:(apos.endLine==cpos.line)=true:=by rfl):PE X (.Call (.Attribute o name apos) [] [] cpos) (JrW X.K T r to):=by
 intro pins s σ H Q I h;refine wpAny_Call_method0_late hbase hline (thn (ho pins s σ H _ I h) fun v s1 hzz=>?_);obtain⟨x,H1,I1,r1,ty,q1⟩ :=hzz;obtain⟨h1,h2⟩ :=Joz I1 r1 ty;exact⟨T,id,pa,slot,hty,h1,h2,Calls.callWith_builtin rfl (PySem.evalArgs_none (hm pins s1 σ H1 x [] v [] Q I1 r1 .nil q1))⟩
theorem Jhf(pa:PlainAttrs T)(slot:Slot T name id)(hty:typeOf (.builtin id)=pure (.type "method_descriptor"))(hm:MtR X id r)(ho:PE X o to)(ha:PA X (e::es) t)
  (hbase:attributeBase o name X.env (eval o X.env)=eval o X.env:=by rfl)
  (hfew:((backTo cpos (starEach (e::es) X.env)).all (fun x=>!x.1)&&(backToKw cpos (keywordEach [] X.env)).all (fun x=>x.1.isSome)
  &&decide ((e::es).length+([]:List Keyword).length+(if([]:List Keyword).isEmpty then 0 else 1)<30))=true:=by rfl)
  (hline:(apos.endLine==cpos.line)=true:=by rfl) (hs:starEach (e::es) X.env=(false,eval e X.env)::starEach es X.env:=by rfl) (hplain:(backTo cpos (starEach es X.env)).any (·.1)=false:=by rfl) :
  PE X (.Call (.Attribute o name apos) (e::es) [] cpos) (tBM X.K T r to t):=by
 intro pins s σ H Q I h;refine wpAny_Call_method_late hbase hfew hline rfl (thn (ho pins s σ H _ I h) fun v s1 hzz=>?_);obtain⟨x,H1,I1,r1,ty,q1⟩ :=hzz;obtain⟨h1,h2⟩ :=Joz I1 r1 ty;refine⟨T,id,pa,slot,hty,h1,h2,?_⟩;have hA:=ha cpos pins s1 σ H1 _ I1 q1;rw[hs]at hA ⊢;refine Calls.callWith_builtin (by show(false||(backTo cpos (starEach es X.env)).any (·.1))=false;rw[hplain]<;>rfl) (Calls.evalArgs_plain ?_)
 refine thn hA fun us s2 hzz=>?_;obtain⟨vs,H2,I2,r2,q2⟩ :=hzz;exact hm pins s2 σ H2 x vs v us Q I2 r1 r2 q2
end
end L2
namespace L2
open PySem PySem.Spec PyProof.Rows
def MtM(X:Cx)(id:String)(r:V->List V->Hp->VK->Prop):Prop:=
 ∀(pins:PL) (s:Shared) (σ:St) (H:Hp) (x:V) (xs:List V) (v:Value) (us:List Value) (Q:VK),Inv X pins σ H s->Jad x v->YZ xs us->r x xs H Q->
  wpAny (model X.prog X.w) X.A (call (.builtin id) (v::us)) (EP X pins σ Q) X.xe s
theorem YZ.one:∀{x:V}{us:List Value},YZ [x] us->∃u,us=[u]/\Jad x u
 | _,_,.cons r .nil=>⟨_,rfl,r⟩
theorem YZ.zero:∀{us:List Value},YZ [] us->us=[]
 | _,.nil=>rfl
theorem YZ.dropLast{xs:List V}{us:List Value}(h:YZ xs us):YZ xs.dropLast us.dropLast:=by
 induction h with
 | nil=>exact .nil
 | cons r t ih=>
  cases t with
  | nil=>exact .nil
  | cons q t'=>exact .cons r ih
theorem YZ.rep{xs:List V}{us:List Value}(h:YZ xs us):∀k:Nat,YZ (List.replicate k xs).flatten (List.replicate k us).flatten
 | 0=>.nil
 | k+1=>by
  rw[List.replicate_succ,List.replicate_succ,List.flatten_cons,List.flatten_cons];exact YZ.append h (YZ.rep h k)
theorem Jkp{α:Type}(l:List α):l.eraseIdx (l.length-1)=l.dropLast:=by
 induction l with
 | nil=>rfl
 | cons a r ih=>
  cases r with
  | nil=>rfl
  | cons b r=>
   have e:(a::b::r).length-1=((b::r).length-1)+1:=by
    have h1:(a::b::r).length=r.length+2:=rfl;have h2:(b::r).length=r.length+1:=rfl;omega
   rw[e,List.eraseIdx_cons_succ,ih]
   all_goals rfl
theorem JhD(its:List Value):∀(k:Nat)(acc:List Value),
  List.foldl (fun x1 x2=>x1++x2) acc.toArray (List.replicate k its.toArray)=(acc++(List.replicate k its).flatten).toArray
 | 0,acc=>by simp
 | k+1,acc=>by
  have e:acc.toArray++its.toArray=(acc++its).toArray:=by simp
  have e2:(acc++its)++(List.replicate k its).flatten=acc++(List.replicate (k+1) its).flatten:=by
   rw[List.replicate_succ,List.flatten_cons,List.append_assoc]
  rw[<- e2,<- JhD its k (acc++its),<- e,List.replicate_succ,List.foldl_cons]
section
variable {X:Cx} {pins:PL} {σ:St} {H:Hp} {s:Shared} {l b:Addr} {xs ys zs:List V}
theorem Inv.lset{its its':List Value}{n:Nat}{f:Array Value->Array Value}{t':Nat}(I:Inv X pins σ H s)(hH:H l=some (.lst xs))
  (e:s.heap.get? l=some { cls:=.type "list",data:=.seq its.toArray n }) (hf:f its.toArray=its'.toArray) (hv:YZ ys its') (hz:ys.length<=B2) :
  Inv X pins σ (upd H l (.lst ys)) { s with heap:=s.heap.update l (Obj.mapSeq f),toks:=t' }:=by
 have q:=PySem.IsL.update e f;rw[hf]at q;refine I.write (x:=l) (e:=l) (by rw[hH];exact trivial) (.inl rfl) (fun b' u hb hu=>(Heap.get?_update_other s.heap (Obj.mapSeq f) (Ne.symm hb)).trans hu) ⟨_,q⟩ ?_;exact⟨hz,its',_,hv,q⟩
theorem Inv.lnew{its:List Value}{t':Nat}(I:Inv X pins σ H s)(hv:YZ ys its)(hz:ys.length<=B2) :
  Inv X pins σ (upd H s.heap.objs.size (.lst ys)) { s with heap:=s.heap.push { cls:=.type "list",data:=.seq its.toArray },toks:=t' }:=
 I.laid (fun _ _ q=>A4 _ q) (A5 _) ⟨hz,its,0,hv,Aw _ rfl⟩
theorem Inv.fresh(I:Inv X pins σ H s):H s.heap.objs.size=none:=I.hok.fresh (A5 _)
theorem Inv.lstM(I:Inv X pins σ H s)(hH:H l=some (.lst xs)):xs.length<=B2/\∃(its:List Value)(n:Nat),YZ xs its/\xs.length=its.length/\s.heap.get? l=some { cls:=.type "list",data:=.seq its.toArray n }:=by
 obtain⟨z,its,n,r,e⟩ :=I.hok l _ hH;exact⟨z,its,n,r,r.length,e⟩
theorem JnH{n:Nat}(h:n<=B2):Builtin.List.listTooLong n=false:=by
 unfold Builtin.List.listTooLong;exact decide_eq_false (by omega)
end
section
variable {X:Cx}
inductive ApI(x:V)(vs:List V)(H:Hp)(Q:VK):Prop
 | mk (l:Addr) (xs:List V) (y:V) (e:x=.ref l) (d:vs=[y]) (h:H l=some (.lst xs)) (z:xs.length<B2) (q:Q .non (upd H l (.lst (xs++[y])))):ApI x vs H Q
noncomputable def Jo4:V->List V->Hp->VK->Prop:=fun x vs H Q=>ApI x vs H Q
theorem Jah:MtM X "list.append" Jo4:=by
 intro pins s σ H x vs v us Q I rx rv h;obtain⟨l,xs,y,rfl,rfl,hH,hz,q⟩ :=h;cases rx;obtain⟨u,rfl,ru⟩ :=rv.one;obtain⟨z,its,n,r,hl,e⟩ :=I.lstM hH;refine call_meets F.slot_list_append ⟨_,e,rfl⟩ F.entry_list_append (F.args_list_append_2 _ _) (PySem.list_append l its.toArray n u (by rw[B0];omega)) ⟨e,?_⟩;refine⟨.non,_,I.lset (its':=its++[u]) hH e (by simp) (r.append (.cons ru .nil)) ?_,rfl,q⟩;rw[Ak,C8];omega
noncomputable def JsB:V->List V->Hp->VK->Prop:=fun x vs H Q=>∃l xs y,x=.ref l/\vs=[]/\H l=some (.lst xs)/\xs[xs.length-1]?=some y/\Q y (upd H l (.lst xs.dropLast))
theorem Jp6:MtM X "list.pop" JsB:=by
 intro pins s σ H x vs v us Q I rx rv h;obtain⟨l,xs,y,rfl,rfl,hH,hy,q⟩ :=h;cases rx;have hus:=rv.zero;subst hus;obtain⟨z,its,n,r,hl,e⟩ :=I.lstM hH;obtain⟨u,hu,ru⟩ :=r.get hy
 have hy':its.toArray[its.toArray.size-1]?=some u:=by
  show its.toArray[its.length-1]?=some u;rw[<- Array.getElem?_toList,<- hl];exact hu
 refine call_meets F.slot_list_pop ⟨_,e,rfl⟩ F.entry_list_pop (F.args_list_pop_1 _) (MeetsSeq.list_pop_last l its.toArray n u hy' (by rw[B0];omega)) ⟨e,?_⟩;refine⟨y,_,I.lset (its':=its.dropLast) hH e ?_ r.dropLast ?_,ru,q⟩
 .show its.toArray.eraseIdxIfInBounds (its.toArray.size-1)=its.dropLast.toArray;rw[B0,List.eraseIdxIfInBounds_toArray,Jkp]
 .rw[List.length_dropLast];omega
inductive CaI(x y:V)(H:Hp)(Q:VK):Prop
 | mk (l b:Addr) (xs zs:List V) (e:x=.ref l) (d:y=.ref b) (h:H l=some (.lst xs)) (j:H b=some (.lst zs)) (z:xs.length+zs.length<=B2) (q:∀p,H p=none->Q (.ref p) (upd H p (.lst (xs++zs)))):CaI x y H Q
noncomputable def JsR:R2:=fun x y H Q=>CaI x y H Q
theorem JhG:OpR X (binaryOp .Add) JsR:=by
 intro pins s σ H x y v u Q I rx ry h;obtain⟨l,b,xs,zs,rfl,rfl,hH,hB,hz,q⟩ :=h;cases rx;cases ry;obtain⟨z,its,n,r,hl,e⟩ :=I.lstM hH;obtain⟨z2,its2,n2,r2,hl2,e2⟩ :=I.lstM hB;refine PySem.P.add_list e e2 ?_ (by rw[B0,B0];omega)
 have ea:its.toArray++its2.toArray=(its++its2).toArray:=by simp
 rw[ea];exact⟨.ref _,_,I.lnew (t':=s.toks) (r.append r2) (by rw[Ak];omega),rfl,q _ I.fresh⟩
noncomputable def JsT:R2:=fun x y H Q=>∃l k xs,x=.ref l/\y=.int k/\H l=some (.lst xs)/\-(2^63)<=k/\k<2^63/\xs.length*k.toNat<=B2/\
 ∀p,H p=none->Q (.ref p) (upd H p (.lst (List.replicate k.toNat xs).flatten))
theorem Jpt{α:Type}(xs:List α)(k:Nat):(List.replicate k xs).flatten.length=k*xs.length:=by
 induction k with
 | zero=>simp
 | succ k ih=>rw[List.replicate_succ,List.flatten_cons,Ak,ih,Nat.succ_mul,Nat.add_comm]
theorem JqV:OpR X (binaryOp .Mult) JsT:=by
 intro pins s σ H x y v u Q I rx ry h;obtain⟨l,k,xs,rfl,rfl,hH,h1,h2,hz,q⟩ :=h;cases rx;obtain⟨t,rfl⟩ :=ry;obtain⟨z,its,n,r,hl,e⟩ :=I.lstM hH
 have hlen:its.toArray.size*k.toNat<=B2:=by rw[B0,<- hl];exact hz
 have hcap:¬its.toArray.size*k.toNat>(2^63-1)/8:=by
  have:(B2:Nat)<=(2^63-1)/8:=by decide
  omega
 have hfit:¬(!Builtin.List.listFitsIndex k)=true:=by
  rw[fitsIndex_both h1 h2];exact Bool.false_ne_true
 have hlong:¬Builtin.List.listTooLong (its.toArray.size*k.toNat)=true:=by
  rw[JnH hlen];exact Bool.false_ne_true
 have hnew:List.foldl (fun x1 x2=>x1++x2) #[] (List.replicate (if its.toArray.isEmpty=true then 0 else k.toNat) its.toArray)=(List.replicate k.toNat its).flatten.toArray:=by
  have f0:∀m:Nat,List.foldl (fun x1 x2=>x1++x2) #[] (List.replicate m its.toArray)=(List.replicate m its).flatten.toArray:=fun m=>by
   have:=JhD its m [];rw[List.nil_append]at this;exact this
  rw[f0]
  cases its with
  | nil=>simp
  | cons a r'=>rw[if_neg (by simp)]
 refine wpAny_binaryOp_repeat_ref (T:="list") (U:="int") (by decide) ⟨_,e,rfl⟩ (fun s'=>typeIs_int s' k t) noFill_list_mul F.fills_int_mul F.slot_int_rmul repeat_list F.slot_int_index.lookup
  (call_meets F.slot_int_rmul (typeIs_int s k t) F.entry_int_rmul (F.args_int_rmul_2 _ _) (int___rmul___int_list k t l its.toArray n)
   ⟨e,rfl,⟨_,e,rfl⟩,call_meets F.slot_list_mul ⟨_,e,rfl⟩ F.entry_list_mul (F.args_list_mul_2 _ _) (AutoListH.list___mul___list_int_3 l its.toArray n k t hfit hcap hlong) ⟨e,?_⟩⟩)
 rw[hnew];exact⟨.ref _,_,I.lnew (t':=s.toks) (r.rep k.toNat) (by rw[Jpt,Nat.mul_comm];exact hz),rfl,q _ I.fresh⟩
end
section
variable {prog:Program} {w:World} {A:Around} {E:Value→Shared→Prop} {s:Shared}
end
section
variable {X:Cx}
end
end L2
namespace Att
open PySem PySem.W PySem.Calls PyProof.Rows
theorem Jfr{P:Params}{h:Heap}:∀(ns:List Int)(vs:List Value),WellAll P h vs (ns.map WData.int)->IntsAre vs ns:=by
 intro ns
 induction ns with
 | nil=>
  intro vs w;rw[List.map_nil]at w;cases w;exact .nil
 | cons n ns ih=>
  intro vs w;rw[List.map_cons]at w
  cases w with
  | cons a b=>
   cases a;exact .cons _ _ (ih _ b)
theorem Jly{l:OpenLaw}{n:Nat}(hn:l.most=some n){P:Params}{h:Heap}{args:List WData}{vals:List Value}
  (hpre:l.row.toRowW.claim.pre args=true) (hwl:WellAll P h vals args) :
  ∃a vs ns,vals=[Value.ref a]/\args=[WData.list (ns.map WData.int)]/\h.get? a=some { cls:=.type "list",data:=.seq vs.toArray }/\IntsAre vs ns/\ns.length<=n:=by
 have hsh:WShape.hasAll [] args [.list .int]=true:=(pre_splitW hpre).1;have hc:l.pre.holds [] { args:=args }=true:=(pre_splitW hpre).2;obtain⟨d,r,rfl,h1,h2⟩ :=hasAllW_cons hsh;obtain rfl:=hasAllW_nil h2;obtain⟨xs,rfl,h3⟩ :=hasW_list h1;obtain⟨ns,rfl⟩ :=items_int h3
 have hlen:ns.length<=n:=by
  unfold OpenLaw.pre at hc
  have h4:(WTm.not (.lt (.lit (.int (n:Int))) (.len (.arg 0)))).holds [] { args:=[.list (ns.map .int)] }=true:=by
   have h4:=(holds_andW hc).1;rw[hn]at h4;exact h4
  have h5:=condW_of h4 (w_not (w_lt w_lit (w_len_list (w_arg rfl))));rw[A2]at h5;refine Nat.le_of_not_lt fun q=>?_
  have q':(n:Int)<((ns.length:Nat):Int):=by omega
  first
   | (rw[decide_eq_true q']at h5;exact absurd h5 (by decide))
   | (simp at h5;omega)
 cases hwl with
 | cons w1 w2=>
  cases w2
  cases w1 with
  | list ho hall=>exact⟨_,_,ns,rfl,rfl,ho,Jfr ns _ hall,hlen⟩
theorem JmS(l:OpenLaw)(args:List WData):l.row.toRowW.claim.post args (.bool true) args=true:=
 postW_of (r:=l.row.toRowW) (X:=(true==true))
  (show WShape.has [] (.bool true) .bool=true by first|rfl|decide|simp[WShape.has,WShape.arms,WShape.armsAll])
  (show(WTm.eq .res (.lit (.bool true))).value [] { args:=args,res:=some (.bool true),after:=args }=some (.bool (true==true)) from w_eq_bool (w_res rfl) w_lit) rfl
theorem attach_call{l:OpenLaw}{n:Nat}{q:Program}{loose:List Str}{XP:(Str->Option Value)->Heap->Prop}{YP:World->Heap->Prop}{d:DefRec}
  (hn:l.most=some n) (hdf:d.params.defaults=[])
  (call:∀(w:World)(s₀ s₁:Shared)(mg mb:Str->Option Value)(fa:Addr)(o:Obj)(pm cd doc:Value)(a:Addr)(vs:List Value)(ns:List Int),
   Ground q loose [] XP w s₀ mg mb s₁.heap->YP w s₁.heap->
   s₁.heap.get? fa=some o->o.data=.func (docDef d.name d.params d.body d.scope pm cd doc)->s₁.heap.CodeRec cd d.name->mg d.name=some (.ref fa)->
   s₁.heap.get? a=some { cls:=.type "list",data:=.seq vs.toArray }->IntsAre vs ns->ns.length<=n->s₁.gens=#[]->
   codeAny (model l.prog w) callerA (.call (.ref fa) ⟨[.ref a],[]⟩) (fun r s'=>r=.ok (.ret (.bool true))/\OldK s₁.heap s'.heap/\s'.os=s₁.os/\AllBare s'.gens) s₁) :
  WalkO q loose XP YP l.row.toRowW d [] (fun f vs=>PySem.call f vs):=by
 intro w s₀ s₁ mg mb G Y fa o pm cd doc dV kV ho hd hcd hD hmg hg args vals as hpre hlay hrd hwl hlo;obtain rfl:dV=.none:=Dflts.none hD hdf;obtain rfl:kV=.none:=Dflts.noKw hD;obtain⟨a,vs,ns,rfl,rfl,hobj,hints,hlen⟩ :=Jly hn hpre hwl;refine enter_call (codeAny_mono (call w s₀ s₁ mg mb fa o pm cd doc a vs ns G Y ho (fd_plain hd) hcd hmg hobj hints hlen hg) fun r s' hq=>?_);obtain⟨rfl,h2,h3,h4⟩ :=hq;exact⟨.inl ⟨.bool true,.bool true,[],rfl,fun _=>rfl,.bool true,JmS l _,fun _=>⟨List.Pairwise.nil,fun _ hm=>(nomatch hm)⟩⟩,h2,h3,h4⟩
section
variable {prog:Program} {w:World} {A:Around} {E:Value→Shared→Prop} {s:Shared} {K:Frag}
noncomputable def Jsg(h:Heap)(L d:Addr):List (Addr×Obj):=(List.range h.objs.size).filterMap fun a=>if a=L\/a=d then none else(h.get? a).map fun o=>(a,o)
end
end Att
namespace L2
open PySem PySem.Spec PyProof.Rows
theorem Jii:∀{vs:List Value}{ns:List Int},IntsAre vs ns->YZ (ns.map V.int) vs
 | _,_,.nil=>.nil
 | _,_,.cons n t h=>.cons ⟨t,rfl⟩ (Jii h)
def JrU(H:Hp):Prop:=∀b,H b=none\/∃o xs,H b=some (.frz o (.lst xs))
theorem Jnz{P:Program}{w:World}{K:WF}{mg mb:MO}{CX:CXT}{k:Nat}{fa a:Addr}{fd:FuncData}{x:Str}{sp:Sp}{s₁:Shared}{vs:List Value}{ns:List Int}
  (KX:K.In s₁.heap) (hns:s₁.heap.Ns mainGlobals mg) (hb:s₁.heap.Ns builtinsNs mb) (hbb:∀x:Str,x≠"__name__"->mb x=bootBuiltins x) (hlim:s₁.heap.NoLimit) (hg:s₁.gens=#[])
  (ha:s₁.heap.get? a=some { cls:=.type "list",data:=.seq vs.toArray }) (hi:IntsAre vs ns) (hl:ns.length<=B2) (hr:Jee k callerA)
  (F:∀base:Heap,K.In base->base.Ns mainGlobals mg->YO P w K mg base CX k fa fd [x] sp) (hbind:∀(s:Shared)(u:Value),BindsTo s fd ⟨[u],[]⟩ [(x,u)])
  (hsp:∀H:Hp,JrU H->SqL K H a (ns.map V.int)->sp [.ref a] H (fun v _=>v=.bl true) fun _ _ _=>False)
  (hCX:∀H e s',CX [] H s₁ (fun _ _ _=>False) e s'->False) :
  codeAny (model P w) callerA (.call (.ref fa) ⟨[.ref a],[]⟩) (fun r s'=>r=.ok (.ret (.bool true))/\OldK s₁.heap s'.heap/\s'.os=s₁.os/\AllBare s'.gens) s₁:=by
 have rv:=Jii hi;have lenV:=hi.length
 have core:∀H:Hp,JrU H->SqL K H a (ns.map V.int)->HOk P w H s₁.heap->(∀b,H b≠none->b=a)->(H a≠none->K.lookup a=none)->
   codeAny (model P w) callerA (.call (.ref fa) ⟨[.ref a],[]⟩) (fun r s'=>r=.ok (.ret (.bool true))/\OldK s₁.heap s'.heap/\s'.os=s₁.os/\AllBare s'.gens) s₁:=by
  intro H hO hS hok hA hK;have base_of:∀{b:Addr}{o:Obj},s₁.heap.get? b=some o->H b=none->(JnS s₁.heap H).get? b=some o:=fun e n=>JnI e n
  have noA:∀{b:Addr}{o:Obj}{es:Array DictEntry}{ep:Nat},s₁.heap.get? b=some o->o.data=.dict es ep->H b=none:=fun{b o es ep} e d=>by
   cases q:H b with
   | none=>rfl
   | some u=>
    have e':b=a:=hA b (by rw[q];simp);subst e';rw[ha]at e;cases e;have d':Data.seq vs.toArray _=Data.dict es ep:=d;cases d'
  have nsK:∀{b:Addr}{m:MO},s₁.heap.Ns b m->(JnS s₁.heap H).Ns b m:=fun{b m} ⟨o,es,ep,e,d,r⟩ =>⟨o,es,ep,base_of e (noA e d),d,r⟩
  have hKb:K.In (JnS s₁.heap H):=fun b o e=>base_of (KX b o e) (by
   cases q:H b with
   | none=>rfl
   | some u=>
    have e':b=a:=hA b (by rw[q];simp);subst e'
    rw[hK (by rw[q];simp)]at e;cases e)
  have hM:Mod K mg (JnS s₁.heap H):=⟨hKb,nsK hns,⟨mb,nsK hb,hbb⟩,let ⟨mc,h1,h2⟩ :=hlim;⟨mc,nsK h1,h2⟩⟩;have e0:JpH P w K mg (JnS s₁.heap H) callerA [] s₁ H:=⟨rfl,hM,fun b o e=>JpI e,Nat.le_of_eq (JmN _ _),trivial,fun b hb=>absurd (show b∈([]:List Addr) from hb) (by simp),hok,.of_eq hg⟩;refine codeAny_mono ((F _ hKb (nsK hns)).run callerA [] s₁ H ⟨[.ref a],[]⟩ [.ref a] [.ref a] _ _ hr e0 (hbind s₁ (.ref a)) (.cons rfl .nil) (hsp H hO hS)) fun r s' h=>?_
  cases r with
  | error e=>exact(hCX H e s' h).elim
  | ok fl=>
   cases fl with
   | next=>exact False.elim h
   | brk=>exact False.elim h
   | cont=>exact False.elim h
   | ret u=>
    obtain⟨v,H',os,bare,un,hok',r',q⟩ :=h;have q':v=.bl true:=q;subst q';obtain rfl:u=Value.bool true:=r';refine⟨rfl,OldK.of_keep fun b o e=>?_,os,bare⟩
    cases q:H b with
    | none=>exact un.keep b o e q (by intro z;exact absurd (show b∈([]:List Addr) from z) (by simp)) (by simp)
    | some u=>
     rcases hO b with z|⟨ob,xs,z⟩
     .rw[q]at z;cases z
     .have z2:=un.frzs b ob _ z;obtain⟨e1,_⟩ :=hok b _ z;obtain⟨e2,_⟩ :=hok' b _ z2;rw[e]at e1;cases e1;exact e2
 cases hk:K.lookup a with
 | some o=>
  have e:=KX a o hk;rw[ha]at e;cases e;refine core (fun _=>none) (fun _=>.inl rfl) (.inr ⟨_,vs.toArray,_,hk,rfl,rfl,rfl,by rw[B0,lenV];exact hl,by simpa using rv⟩) (fun b u z=>by have z':(none:Option HO)=some u:=z;cases z') (fun b z=>absurd rfl z) fun z=>absurd rfl z
 | none=>
  refine core (fun b=>if b=a then some (.frz { cls:=.type "list",data:=.seq vs.toArray } (.lst (ns.map V.int)))else none) (fun b=>?_) (.inl (.inr ⟨{ cls:=.type "list",data:=.seq vs.toArray },if_pos rfl⟩)) (fun b u z=>?_) (fun b z=>?_) fun _=>hk
  .by_cases hb:b=a
   .exact .inr ⟨_,_,if_pos hb⟩
   .exact .inl (if_neg hb)
  .by_cases hb:b=a
   .have z':=(if_pos hb).symm.trans z;cases z';subst hb;exact⟨ha,by rw[A2];exact hl,vs,_,rv,ha⟩
   .have z':=(if_neg hb).symm.trans z;cases z'
  .by_cases hb:b=a
   .exact hb
   .exact absurd (if_neg hb) z
end L2
namespace L2
open PySem PySem.Spec PyProof.Rows
noncomputable abbrev KOf{K:WF}{h:Heap}(_:K.In h):WF:=K
theorem JpW{l:PySem.W.OpenLaw}{n k:Nat}{q:Program}{loose:List Str}{XP:(MO)->Heap->Prop}{YP:World->Heap->Prop}{d:DefRec}{K:Params->WF}{CX:World->CXT}{sp:World->Sp}{x:Str}
  (hn:l.most=some n) (hn2:n<=B2) (hdf:d.params.defaults=[]) (hr:Jee k callerA)
  (hY:∀(w:World)(h:Heap),YP w h->(K w.params).In h)
  (F:∀(w:World)(mg:MO)(fa:Addr)(h:Heap),(K w.params).In h->h.Ns mainGlobals mg->mg d.name=some (.ref fa)->
   ∃fd:FuncData,(∀(s:Shared)(u:Value),BindsTo s fd ⟨[u],[]⟩ [(x,u)])/\
    ∀base:Heap,(K w.params).In base->base.Ns mainGlobals mg->YO l.prog w (K w.params) mg base (CX w) k fa fd [x] (sp w))
  (hsp:∀(w:World)(H:Hp)(a:Addr)(ns:List Int),ns.length<=n->JrU H->SqL (K w.params) H a (ns.map V.int)->sp w [.ref a] H (fun v _=>v=.bl true) fun _ _ _=>False)
  (hCX:∀(w:World)(H:Hp)(s:Shared)(e:Value)(s':Shared),CX w [] H s (fun _ _ _=>False) e s'->False) :
  PySem.W.WalkO q loose XP YP l.row.toRowW d [] (fun f vs=>PySem.call f vs):=by
 refine Att.attach_call hn hdf fun w s₀ s₁ mg mb fa o pm cd doc a vs ns G Y ho hd hcd hmg hobj hints hlen hg=>?_;have KX:=hY w _ Y;obtain⟨fd,hb,hF⟩ :=F w mg fa _ KX G.T.g hmg;exact Jnz KX G.T.g G.T.b G.T.builtins G.T.nolimit hg hobj hints (Nat.le_trans hlen hn2) hr hF hb (fun H hO hS=>hsp w H a ns hlen hO hS) fun H e s'=>hCX w H s₁ e s'
end L2
namespace L2
open PySem PySem.Spec PyProof.Rows
noncomputable abbrev CX0:CXT:=fun _ _ _ _ _ _=>False
noncomputable abbrev E0:XK:=fun _ _ _=>False
theorem Ja2{X:Cx}:JeO CX0 X E0:=fun _ _ _ _ _ _ _ h=>h.elim
structure Fun(K:WF)(x qual:Str)(st:Stmt)(f:Addr)(fd:FuncData):Prop where
 ex:∃(oc:Value)(od:Option Addr)(kV doc pm:Value)(an:Option Addr)(cdv ct:Value) (osl:Array (Option Value)),
  fd=PySem.W.fnOf x qual (JfR st) (YM st) (Jj st) .none kV doc pm an cdv ct/\K.lookup f=some ⟨oc,od,.func fd,osl⟩ /\PySem.W.codeIn K cdv qual=true
 kp:PySem.W.keepIn K (.ref f)=true
section
variable {P:Program} {w:World} {K:WF} {mg:Str→Option Value} {base:Heap}
theorem Fun.ok{x qual:Str}{st:Stmt}{f:Addr}{fd:FuncData}{N ps:List Str}{k:Nat}{sp:Sp}(F:Fun K x qual st f fd)(S:Jw N ps (Jj st))(len:∀vs H Q E,sp vs H Q E->vs.length=ps.length)
  (hbody:∀(cdv:Value)(A:Around)(outer:List Env)(s:Shared)(H:Hp)(vs:List V)(Q:VK)(E:XK),Jee k (A.deeper (envOfC qual (Jj st) s.heap.objs.size f cdv))->sp vs H Q E->
   ∃t,PSs (Jgr CX0 P w K mg base N qual (Jj st) f cdv A outer s H E).nox (YM st) t/\t { nx:=fun _ H'=>Q .non H',rt:=Q } (Jg4 N vs) H):YO P w K mg base CX0 (k+1) f fd ps sp:=by
 obtain⟨oc,od,kV,doc,pm,an,cdv,ct,osl,rfl,lk,hcd⟩ :=F.ex;refine Jq5 lk hcd S len fun A outer s H vs Q E hr hsp=>?_;obtain⟨t,h,q⟩ :=hbody cdv A outer s H vs Q E hr hsp;exact⟨t,h.nox,q⟩
theorem Fun.binds{x qual:Str}{st:Stmt}{f:Addr}{fd:FuncData}{ps:List Str}(F:Fun K x qual st f fd)
  (h:∀(kV doc pm:Value)(an:Option Addr)(cdv ct:Value)(us:List Value),us.length=ps.length->bindArgs (PySem.W.fnOf x qual (JfR st) (YM st) (Jj st) .none kV doc pm an cdv ct) ⟨us,[]⟩=pure (ps.zip us)):Jdi K fd ps []:=by
 obtain⟨oc,od,kV,doc,pm,an,cdv,ct,osl,rfl,lk,hcd⟩ :=F.ex;exact .all (h kV doc pm an cdv ct)
theorem JoG{x qual:Str}{st:Stmt}{f:Addr}{oc:Value}{od an:Option Addr}{osl:Array (Option Value)}{kV doc pm cdv ct:Value}(l:K.lookup f=some ⟨oc,od,.func (PySem.W.fnOf x qual (JfR st) (YM st) (Jj st) .none kV doc pm an cdv ct),osl⟩)
  (c:PySem.W.codeIn K cdv qual=true) (k:PySem.W.keepIn K (.ref f)=true):Fun K x qual st f (PySem.W.fnOf x qual (JfR st) (YM st) (Jj st) .none kV doc pm an cdv ct):=⟨⟨oc,od,kV,doc,pm,an,cdv,ct,osl,rfl,l,c⟩,k⟩
end
theorem JbB{A:Around}{k:Nat}(hr:Jee k A):A.units+1<cLine:=C9 (Nat.add_le_add_left (by decide:1<=64) _) hr.units
theorem Jy{n:Nat}(h:n<=1000):n<B2:=C9 h (by decide)
section
variable {X:Cx}
theorem pv(i:Nat){x:Str}{pos:Pos}(hN:X.N[i]?=some x:=by rfl)(hv:Vis X.env.scope x:=by first|exact Or.inl rfl|exact Or.inr (Or.inl rfl)|exact Or.inr (Or.inr rfl))(hd:(x==("__debug__" : Str))=false:=by decide)
  (hcd:(x==("__classdict__" : Str))=false:=by decide):PE X (.Name x pos) (JrV i):=JqR hN hv hd hcd
end
theorem JcM{A B:Prop}(h:B):if false=true then A else B:=by
 rw[if_neg Bool.false_ne_true];exact h
theorem JfH{A B:Prop}(h:A):if true=true then A else B:=by
 rw[if_pos rfl];exact h
theorem JT{c A B:Prop}[Decidable c](h1:c->A)(h2:¬c->B):if c then A else B:=by
 by_cases h:c
 .rw[if_pos h];exact h1 h
 .rw[if_neg h];exact h2 h
theorem Jhq{c A B:Prop}[Decidable c](hc:c)(h:B):if(!decide c)=true then A else B:=by
 rw[decide_eq_true hc];exact JcM h
def JX(H H':Hp):Prop:=∀b o,H b=some o->H' b=some o
theorem JX.refl(H:Hp):JX H H:=fun _ _ h=>h
theorem JX.trans{H H1 H2:Hp}(a:JX H H1)(b:JX H1 H2):JX H H2:=fun c o h=>b c o (a c o h)
theorem JX.free{H H':Hp}(e:JX H H'){l:Addr}(h:H' l=Option.none):H l=Option.none:=by
 cases q:H l with
 | none=>rfl
 | some o=>
  rw[e l o q]at h;cases h
theorem JX.seq{K:WF}{H H':Hp}{a:Addr}{xs:List V}(e:JX H H')(h:SqL K H a xs):SqL K H' a xs:=by
 rcases h with(h|⟨o,h⟩)|h
 .exact .inl (.inl (e _ _ h))
 .exact .inl (.inr ⟨o,e _ _ h⟩)
 .exact .inr h
section
variable {κ:Type} [DecidableEq κ]
end
end L2
namespace L2
open PySem PySem.Spec PyProof.Rows
section
variable {prog:Program} {w:World} {A:Around} {R:Result→Shared→Prop} {s:Shared}
theorem Ji0{elt target iter:Expr}{ifs:List Expr}{scope:Scope}{pos:Pos}{it acc:Value}{env:Env}(I:Nat->Shared->Prop)
  (turn:∀n s,I n s->wpAny (model prog w) A (pyNext it) (fun r s₁=>match r with
   | none=>R (.ok .next) s₁
   | some v=>wpAny (model prog w) A (letOwnedTupleGo target it v) (fun _ s₁'=>wpAny (model prog w) A (assign target env v) (fun _ s₂=>
     wpAny (model prog w) A (forIn ifs true fun c r=>if r=true then do let ok <- isTrue c env (eval c env);pure (ForInStep.yield ok)else pure (ForInStep.yield r)) (fun ok s₃=>
      if ok=true then wpAny (model prog w) A (eval elt env) (fun x s₄=>
       wpAny (model prog w) A (call (.builtin "list.append") [acc,x]) (fun _ s₅=>∃m,m<n/\I m s₅) (fun _ _=>False) s₄) (fun _ _=>False) s₃
      else∃m,m<n/\I m s₃) (fun _ _=>False) s₂) (fun _ _=>False) s₁') (fun _ _=>False) s₁) (fun _ _=>False) s)
  (n:Nat) (h:I n s) :
  codeAny (model prog w) A (.compLoop (.ListComp elt [⟨target,iter,ifs,0⟩] scope pos) 0 it acc env) R s:=by
 refine codeAny_loop rfl I (fun n s hI=>?_) n h;show wpAny _ A ((compTurn (.ListComp elt [⟨target,iter,ifs,0⟩] scope pos) 0 it acc env).onRaise (fun x=>do noteFrame x env;theTreesLotGoes x)) _ _ s;refine wpAny_noted (wpAny_noRaise ?_);rw[compTurn_list];refine A0 (wpAny_standAt (A0 (thn (turn n s hI) fun r s₁ h₁=>?_)))
 cases r with
 | none=>exact A9 h₁
 | some v=>
  refine A0 (thn h₁ fun _ s₁' h₁'=>?_);refine A0 (thn h₁' fun _ s₂ h₂=>A0 (thn h₂ fun ok s₃ h₃=>?_))
  cases ok with
  | false=>exact A9 ⟨rfl,h₃⟩
  | true=>exact A0 (A0 (thn h₃ fun x s₄ h₄=>A0 (thn h₄ fun _ s₅ h₅=>A9 (A9 ⟨rfl,h₅⟩))))
end
noncomputable def Jjf(env:Env):List (Str×NameKind)->List (Str×Addr)->List (Str×Addr)
 | [],acc=>acc
 | (n,k)::r,acc=>if(k==NameKind.free)=true then Jjf env r ((n,(env.cells.lookup n).getD 0)::acc)else Jjf env r acc
theorem JcS{env:Env}:∀(l:List (Str×NameKind)) (acc:List (Str×Addr)),(∀y∈l,y.2=.free->∃c,env.cells.lookup y.1=some c)->
  (forIn l acc (fun(x:Str×NameKind) (cs:List (Str×Addr))=>(if(x.2==NameKind.free)=true then(cellOf env x.1 >>= fun a=>pure (ForInStep.yield ((x.1,a)::cs)))else pure (ForInStep.yield cs):Sem (ForInStep (List (Str×Addr))))):Sem (List (Str×Addr)))=pure (Jjf env l acc)
 | [],acc,_=>rfl
 | (n,k)::r,acc,h=>by
  rw[List.forIn_cons];have hr:∀y∈r,y.2=.free->∃c,env.cells.lookup y.1=some c:=fun y hy=>h y (List.mem_cons_of_mem _ hy)
  by_cases hk:(k==NameKind.free)=true
  .obtain⟨c,hc⟩ :=h (n,k) Aj (by simpa using hk)
   have hc':cellOf env n=pure c:=by
    unfold cellOf;rw[hc]
   simp only[hk,if_true,hc',pure_bind,Jjf,hc,Option.getD_some];exact JcS r _ hr
  .simp only[hk,if_false,pure_bind,Jjf,Bool.false_eq_true];exact JcS r _ hr
theorem JhA{env:Env}{scope:Scope}(h:∀y∈scope.names,y.2=.free->∃c,env.cells.lookup y.1=some c):closureFor scope env=pure (Jjf env scope.names []):=by
 have q:=JcS (env:=env) scope.names [] h;rw[<- q];unfold closureFor;rw[<- bind_pure (forIn scope.names ([]:List (Str×Addr)) _)]
theorem Jg1{env:Env}:∀(l:List (Str×NameKind)) (acc:List (Str×Addr)),(∀y∈l,y.2=.free->∃c,env.cells.lookup y.1=some c)->(∀x c,acc.lookup x=some c->env.cells.lookup x=some c)->
  ∀x c,(Jjf env l acc).lookup x=some c->env.cells.lookup x=some c
 | [],acc,_,ha=>ha
 | (n,k)::r,acc,h,ha=>by
  have hr:∀y∈r,y.2=.free->∃c,env.cells.lookup y.1=some c:=fun y hy=>h y (List.mem_cons_of_mem _ hy);unfold Jjf
  by_cases hk:(k==NameKind.free)=true
  .rw[if_pos hk];obtain⟨c',hc⟩ :=h (n,k) Aj (by simpa using hk);refine Jg1 r _ hr fun x c e=>?_;rw[List.lookup_cons]at e
   cases hx:(x==n)with
   | true=>
    rw[hx]at e
    have hxn:x=n:=by simpa using hx
    subst hxn;have hc:env.cells.lookup x=some c':=hc;rw[hc]at e ⊢;simpa using e
   | false=>
    rw[hx]at e;exact ha x c e
  .rw[if_neg hk];exact Jg1 r acc hr ha
theorem Jfb{env:Env}:∀(l:List (Str×NameKind)) (acc:List (Str×Addr)) (x:Str),((x,NameKind.free)∈l\/(acc.lookup x).isSome=true)->((Jjf env l acc).lookup x).isSome=true
 | [],acc,x,h=>h.elim (fun z=>nomatch z) id
 | (n,k)::r,acc,x,h=>by
  unfold Jjf
  by_cases hk:(k==NameKind.free)=true
  .rw[if_pos hk];refine Jfb r _ x ?_
   rcases h with h|h
   .rcases Ax.mp h with e|h
    .right
     cases e;simp
    .exact .inl h
   .right
    rw[List.lookup_cons];split
    .rfl
    .exact h
  .rw[if_neg hk];refine Jfb r acc x ?_
   rcases h with h|h
   .rcases Ax.mp h with e|h
    .cases e;exact absurd rfl hk
    .exact .inl h
   .exact .inr h
theorem Jin{scope:Scope}{env:Env}(hcell:∀y∈scope.names,y.2≠.cell){x:Str}(h:(relabel scope env).names.lookup x=some .cell\/(relabel scope env).names.lookup x=some .free):(x,NameKind.free)∈scope.names:=by
 have aux:∀k,(k=NameKind.cell\/k=NameKind.free)->(x,k)∈(relabel scope env).names->(x,NameKind.free)∈scope.names:=by
  intro k hk hm;unfold relabel at hm;obtain⟨⟨n,k'⟩,hy,e⟩ :=Bw.mp hm
  by_cases hc:(k'==NameKind.free&&env.scope.kind==.function&&env.kindOf n==some .cell)=true
  .have e:(if(k'==NameKind.free&&env.scope.kind==.function&&env.kindOf n==some .cell)=true then(n,NameKind.cell)else(n,k'))=(x,k):=e;rw[if_pos hc]at e;have hn:n=x:=congrArg Prod.fst e;subst hn;simp only[Bool.and_eq_true]at hc
   have:k'=.free:=by simpa using hc.1.1
   subst this;exact hy
  .have e:(if(k'==NameKind.free&&env.scope.kind==.function&&env.kindOf n==some .cell)=true then(n,NameKind.cell)else(n,k'))=(x,k):=e;rw[if_neg hc]at e;cases e
   rcases hk with hk|hk
   .exact absurd hk (hcell _ hy)
   .subst hk;exact hy
 rcases h with h|h
 .exact aux _ (.inl rfl) (PySem.mem_of_lookup h)
 .exact aux _ (.inr rfl) (PySem.mem_of_lookup h)
theorem JbH{env:Env}:∀{names:List (Str×NameKind)} {x:Str},names.lookup x=some .free->
  (names.map fun(n,k)=>if(k==NameKind.free&&env.scope.kind==.function&&env.kindOf n==some .cell)then(n,NameKind.cell)else(n,k)).lookup x=some .cell\/
  (names.map fun(n,k)=>if(k==NameKind.free&&env.scope.kind==.function&&env.kindOf n==some .cell)then(n,NameKind.cell)else(n,k)).lookup x=some .free
 | [],_,h=>by simp at h
 | (n,k)::r,x,h=>by
  have ih:=@JbH env r x;show List.lookup x ((if(k==NameKind.free&&env.scope.kind==.function&&env.kindOf n==some .cell)=true then(n,NameKind.cell)else(n,k))::_)=_\/List.lookup x ((if(k==NameKind.free&&env.scope.kind==.function&&env.kindOf n==some .cell)=true then(n,NameKind.cell)else(n,k))::_)=_
  cases hx:x==n with
  | true=>
   simp only[List.lookup_cons,hx]at h;cases h
   by_cases hc:(NameKind.free==NameKind.free&&env.scope.kind==.function&&env.kindOf n==some .cell)=true
   .left;rw[if_pos hc];simp[List.lookup_cons,hx]
   .right;rw[if_neg hc];simp[List.lookup_cons,hx]
  | false=>
   simp only[List.lookup_cons,hx]at h
   by_cases hc:(k==NameKind.free&&env.scope.kind==.function&&env.kindOf n==some .cell)=true
   .rw[if_pos hc];simp only[List.lookup_cons,hx];exact ih h
   .rw[if_neg hc];simp only[List.lookup_cons,hx];exact ih h
noncomputable def Cx.blk(X:Cx)(N':List Str)(scope:Scope)(C:Addr)(s₀:Shared)(H₀:Hp)(fp:List Addr):Cx:=
 { X with N:=N',s₀:=s₀,H₀:=H₀,env:=compEnvC scope (Jjf X.env scope.names []) C X.env,outer:=X.stack,stack:=X.stack,ex:=fp,fn:=fun _=>false,pn:=[],xe:=fun _ _=>False }
noncomputable def JpY(src:List (Option Nat))(σ:St):St:=src.map fun o=>o.bind fun j=>(σ[j]?).join
structure JbU(N:List Str)(sc:Scope)(N':List Str)(scope:Scope)(src:List (Option Nat)):Prop where
 kind:scope.kind=.function
 cell:∀y∈scope.names,y.2≠.cell
 free:∀y∈scope.names,y.2=.free->sc.names.lookup y.1=some .cell\/sc.names.lookup y.1=some .free
 names:∀y∈scope.names,y.2=.local->scope.names.lookup y.1=some .local
 nd:N'.Nodup
 len:src.length=N'.length
 src:∀p∈N'.zip src,∀j∈p.2.toList,N[j]?=some p.1/\scope.names.lookup p.1=some .free
section
variable {X:Cx} {N':List Str} {scope:Scope} {src:List (Option Nat)} {pins:PL} {σ:St} {H:Hp} {s:Shared} {fp:List Addr} {C:Addr}
theorem Inv.cells(I:Inv X pins σ H s)(B:JbU X.N X.env.scope N' scope src):∀y∈scope.names,y.2=.free->∃c,X.env.cells.lookup y.1=some c:=fun y hy e=>I.ok.has y.1 (B.free y hy e)
theorem Inv.clSub(I:Inv X pins σ H s)(B:JbU X.N X.env.scope N' scope src){x:Str}{c:Addr}(e:(Jjf X.env scope.names []).lookup x=some c):X.env.cells.lookup x=some c:=
 Jg1 scope.names [] (I.cells B) (fun x c e=>by simp at e) x c e
theorem Inv.blkOk(I:Inv X pins σ H s)(B:JbU X.N X.env.scope N' scope src)(hC:s.heap.objs.size<=C)(hf:∀b∈fp,JkX X pins H b)(hlt:∀b∈fp,b<s.heap.objs.size):(X.blk N' scope C s H fp).Ok where
 mod:=I.ok.mod
 kind:=B.kind
 glob:=I.ok.glob
 blt:=I.ok.blt
 above:=hC
 inj:=fun x y c h1 h2=>I.ok.inj x y c (I.clSub B h1) (I.clSub B h2)
 has:=fun x hx=>Option.isSome_iff_exists.mp (Jfb scope.names [] x (.inl (Jin B.cell hx)))
 cab:=fun x c h _=>Bool.noConfusion h
 hd:=I.ok.hd
 frames:=I.ok.frames
 stk:=.inl rfl
 exf:=fun b hb=>⟨B6 (Nat.lt_of_lt_of_le (hlt b hb) hC),fun x c e=>(hf b hb).2.2.2.2.1 x c (I.clSub B e)⟩
 bs:=I.bs
 bsz:=I.env0.bsz
 noex:=fun b o e hb=>by
  rcases(hf b hb).2.2.2.1 with z|z
  .exact I.ok.noex b o e z
  .exact absurd (Nat.lt_of_lt_of_le (B3 e) I.ok.bsz) (Nat.not_lt.mpr z)
 exfs:=fun b hb z=>(Ax.mp (I.stkSub b z)).elim (hf b hb).2.1 (hf b hb).2.2.1
 funs:=I.env0.funs
 frf:=I.env0.frf
theorem Inv.blk(I:Inv X pins σ H s)(B:JbU X.N X.env.scope N' scope src)(hC:s.heap.objs.size<=C)(hf:∀b∈fp,JkX X pins H b)(hlt:∀b∈fp,b<s.heap.objs.size)
  {h1:Heap} {t1:Nat} {m:MO} (hn:h1.Ns C m) (hk:∀b o,s.heap.get? b=some o->h1.get? b=some o):Inv (X.blk N' scope C s H fp) [] (JpY src σ) H { s with heap:=h1,toks:=t1 }:=by
 obtain⟨mp,hmp,hl⟩ :=id I.loc;refine⟨I.blkOk B hC hf hlt,rfl,I.bare,Un.kept hk,⟨m,hn,fun i x v e1 e2 e3=>?_⟩,fun x c e=>?_,I.hok.fresh hC,fun x c e=>I.freeC x c (I.clSub B e),fun p hp=>absurd (show p∈([]:PL) from hp) (by simp),I.hok.kept hk,?_⟩
 .have e1:N'[i]?=some x:=e1;unfold JpY at e2;rw[Aq]at e2
  cases es:src[i]? with
  | none=>rw[es]at e2;cases e2
  | some o=>
   rw[es]at e2
   cases o with
   | none=>cases e2
   | some j=>
    have e2:(σ[j]?).join=some v:=Option.some.inj e2
    have e2:σ[j]?=some (some v):=by
     cases q:σ[j]? with
     | none=>rw[q]at e2;cases e2
     | some r=>rw[q]at e2;exact congrArg some e2
    have hz:(x,some j)∈N'.zip src:=by
     refine B9 (i:=i) ?_;rw[List.getElem?_zip_eq_some];exact⟨e1,es⟩
    obtain⟨hN,hfr⟩ :=B.src _ hz j Aj;have hkx:=B.free (x,.free) (PySem.mem_of_lookup hfr) rfl;obtain⟨u,r,q⟩ :=hl j x v hN e2 (hkx.elim (fun z=>.inr (.inl z)) fun z=>.inr (.inr z));refine⟨u,r,?_⟩
    rcases q with⟨k,_⟩|⟨_,c,hc,hcell⟩
    .have k:X.env.scope.names.lookup x=some .local:=k
     rcases hkx with z|z
     .have z:X.env.scope.names.lookup x=some .cell:=z;rw[k]at z;cases z
     .have z:X.env.scope.names.lookup x=some .free:=z;rw[k]at z;cases z
    .refine .inr ⟨JbH hfr,c,?_,hcell.keeps hk⟩;obtain⟨c',hc'⟩ :=Option.isSome_iff_exists.mp (Jfb (env:=X.env) scope.names [] x (.inl (PySem.mem_of_lookup hfr)));have:=I.clSub B hc';rw[hc]at this;cases this;exact hc'
 .obtain⟨v,z⟩ :=I.cell x c (I.clSub B e);exact⟨v,z.keeps hk⟩
 .unfold JpY;rw[A2];exact B.len
end
def PF(X:Cx)(ifs:List Expr)(t:TT):Prop:=
 ∀(pins:PL) (s:Shared) (σ:St) (H:Hp) (Q:Bool->Hp->Prop),Inv X pins σ H s->t σ H Q->
  wpAny (model X.prog X.w) X.A (forIn ifs true fun c r=>if r=true then do let ok <- isTrue c X.env (eval c X.env);pure (ForInStep.yield ok)else pure (ForInStep.yield r)) (TP X pins σ Q) X.xe s
noncomputable def JeS:TT:=fun _ H Q=>Q true H
theorem JcF{X:Cx}:PF X [] JeS:=fun _ _ _ H _ I h=>wpAny_tests_nil ⟨H,I,h⟩
theorem Jqa{X:Cx}{c:Expr}{t:TT}(h:PT X c t):PF X [c] t:=fun pins s σ H Q I q=>wpAny_tests_one (h pins s σ H Q I q)
def Jih(J:It)(acc:Addr)(g:TG)(tc:TT)(te:TE)(Q:VK)(σ:St)(H:Hp):Prop:=
 ∃W:Nat->Nat->List V->St->Hp->Prop,(∃m,W 0 m [] σ H)/\∀i m ys σ' H',W i m ys σ' H'->
  (J.stop i H'/\Q (.ref acc) H')\/(J.go i H'/\ys.length<B2/\∃N:List V->St->Hp->Prop,(∀zs σ2 H2,N zs σ2 H2->∃m',m'<m/\W (i+1) m' zs σ2 H2)/\∀x H2,J.yld i H' x H2->g x σ' H2 fun σ3 H3=>tc σ3 H3 fun b H4=>
   if b=true then te σ3 H4 fun y H5=>H5 acc=some (.lst ys)/\N (ys++[y]) σ3 (upd H5 acc (.lst (ys++[y])))else N ys σ3 H4)
noncomputable def Jpi(wi:TI)(src:List (Option Nat))(g:TG)(tc:TT)(te:TE):TE:=fun σ H Q=>wi σ H fun J H1=>∀acc,H1 acc=none->Jih J acc g tc te Q (JpY src σ) (upd H1 acc (.lst []))
section
variable {X:Cx} {elt target iter:Expr} {ifs:List Expr} {scope:Scope} {pos:Pos} {wi:TI} {g:TG} {tc:TT} {te:TE} {N':List Str} {src:List (Option Nat)}
structure Off(X:Cx)(pins:PL)(C:Addr):Prop where
 young:X.s₀.heap.objs.size<=C
 loc:C≠X.env.locals
 cells:∀x c,X.env.cells.lookup x=some c->c≠C
 pins:∀p∈X.pn++pins,p.1≠C
theorem JpV{RR:Result->Shared->Prop}{Q:VK}{pins:PL}{σ:St}{s3:Shared}{H3:Hp}{acc it C:Addr}{fp:List Addr}{tn:Nat->Heap->Prop}{J:It}{h4:Heap}{t4:Nat}{m4:MO}
  (hc:X.calm=true) (B:JbU X.N X.env.scope N' scope src)
  (hg:∀C s₀ H₀ fp,PG (X.blk N' scope C s₀ H₀ fp) target g) (ht:∀C s₀ H₀ fp,PF (X.blk N' scope C s₀ H₀ fp) ifs tc) (he:∀C s₀ H₀ fp,PE (X.blk N' scope C s₀ H₀ fp) elt te)
  (I3:Inv X pins σ H3 s3) (T:Jod X.prog X.w X.K target J fp it tn) (st3:tn 0 s3.heap) (f3:∀b∈fp,JkX X pins H3 b) (hC:C=s3.heap.objs.size) (hn4:h4.Ns C m4)
  (old4:∀b o,s3.heap.get? b=some o->h4.get? b=some o)
  (hW:Jih J acc g tc te Q (JpY src σ) H3)
  (fin:∀(oC:Obj)(H':Hp)(s':Shared),Inv X (pins++[(C,oC)]) σ H' s'->Off X pins C->(∃m,∀h':Heap,h'.get? C=some oC->h'.Ns C m)->Q (.ref acc) H'->RR (.ok .next) s') :
  codeAny (model X.prog X.w) X.A (.compStart (.ListComp elt [⟨target,iter,ifs,0⟩] scope pos) 0 (.ref it) (.ref acc) (compEnvC scope (Jjf X.env scope.names []) C X.env)) RR { s3 with heap:=h4,toks:=t4 }:=by
 obtain⟨W,⟨m0,w0⟩,turn⟩ :=hW
 have hlt3:∀b∈fp,b<s3.heap.objs.size:=fun b hb=>let ⟨_,e,_⟩ :=T.obj 0 _ st3 b hb;B3 e
 have hC':s3.heap.objs.size<=C:=Nat.le_of_eq hC.symm;have I4:Inv (X.blk N' scope C s3 H3 fp) [] (JpY src σ) H3 { s3 with heap:=h4,toks:=t4 }:=I3.blk B hC' f3 hlt3 hn4 old4;have ok4:=I4.ok
 have stat:∀{H':Hp},(∀b∈fp,H' b=none)->∀b∈fp,JkX (X.blk N' scope C s3 H3 fp) [] H' b:=fun hn b hb=>
  ⟨hn b hb,(ok4.exf b hb).1,ok4.exfs b hb,.inl hb,(ok4.exf b hb).2,fun p hp=>absurd (show p∈([]:PL) from hp) (by simp)⟩
 have st4:tn 0 h4:=T.keep _ _ _ st3 fun b _ o e=>old4 b o e
 have off:Off X pins C:=by
  have hl:=I3.lt;refine⟨Nat.le_trans I3.ok.above (Nat.le_trans (Cq hl) hC'),fun e=>?_,fun x c e q=>?_,fun p hp q=>?_⟩
  .rw[e]at hC';exact absurd hl (Nat.not_lt.mpr hC')
  .obtain⟨v,o,ho,_⟩ :=I3.cell x c e;have:=B3 ho;rw[q]at this;exact absurd this (Nat.not_lt.mpr hC')
  .have:=B3 (I3.pin p hp).1;rw[q]at this;exact absurd this (Nat.not_lt.mpr hC')
 have nfs:C∉X.fs:=fun z=>by
  obtain⟨o,ho⟩ :=(I3.ok.funs.mem z).2;exact absurd (Nat.lt_of_lt_of_le (B3 ho.1) (Nat.le_trans I3.ok.above (Cq I3.lt))) (Nat.not_lt.mpr hC')
 have loop:codeAny (model X.prog X.w) X.A (.compLoop (.ListComp elt [⟨target,iter,ifs,0⟩] scope pos) 0 (.ref it) (.ref acc) (compEnvC scope (Jjf X.env scope.names []) C X.env)) RR { s3 with heap:=h4,toks:=t4 }:=by
  refine Ji0 (fun n s'=>∃i ys σ' H',Inv (X.blk N' scope C s3 H3 fp) [] σ' H' s'/\tn i s'.heap/\(∀b∈fp,H' b=none)/\W i n ys σ' H') ?_ m0 ⟨0,[],_,_,I4,st4,fun b hb=>(f3 b hb).1,w0⟩;rintro n s5 ⟨i,ys,σ5,H5,I5,st5,fr5,w5⟩
  rcases turn i n ys σ5 H5 w5 with⟨stop,qn⟩|⟨go,hsz,N,hN,step⟩
  .refine thn (T.done (X.blk N' scope C s3 H3 fp) rfl rfl rfl hc i [] s5 σ5 H5 (fun _ _=>False) I5 (stat fr5) st5 stop) fun r s6 hzz=>?_;obtain⟨hr,I6⟩ :=hzz;subst hr;obtain⟨mC,⟨oC,es,ep,hoC,hdC,rC⟩,_⟩ :=id I6.loc;have Ip:Inv X pins σ H5 s6:=I3.call' (ch:=fp) I6.os I6.base I6.hok I6.bare fun b hb=>⟨(f3 b hb).2.2.2.1,(f3 b hb).2.1,(f3 b hb).2.2.2.2.1,(f3 b hb).2.2.2.2.2⟩;refine fin oC H5 s6 (Ip.pins_of fun p hp=>?_) off ⟨mC,fun h' e=>⟨oC,es,ep,e,hdC,rC⟩⟩ qn
   rcases B5.mp hp with z|z
   .exact Ip.pin p (List.mem_append_right _ z)
   .have e:p=(C,oC):=by simpa using z
    subst e;exact⟨hoC,I6.free,off.loc,nfs,fun v q=>by have q:oC.data=.cell v:=q;rw[hdC]at q;cases q⟩
  .refine thn (T.item (X.blk N' scope C s3 H3 fp) rfl rfl rfl hc i [] s5 σ5 H5 (fun _ _=>False) I5 (stat fr5) st5 go) fun r s6 hzz=>?_;obtain⟨u,hr,h6⟩ :=hzz;subst hr;refine thn h6 fun _ s7 hzz=>?_;obtain⟨x,H7,I7,r7,y7,st7,fr7⟩ :=hzz;have I7':=I7.pinned (stat fr7) (T.obj _ _ st7);refine thn (hg C s3 H3 fp _ s7 σ5 H7 x u _ I7' r7 (step x H7 y7)) fun _ s8 hzz=>?_;obtain⟨σ8,H8,I8,q8⟩ :=hzz;refine thn (ht C s3 H3 fp _ s8 σ8 H8 _ I8 q8) fun ok s9 hzz=>?_;obtain⟨H9,I9,q9⟩ :=hzz
   have back:∀{σ':St}{H':Hp}{s':Shared},Inv (X.blk N' scope C s3 H3 fp) ([]++JhC fp s7.heap) σ' H' s'->Inv (X.blk N' scope C s3 H3 fp) [] σ' H' s'/\tn (i+1) s'.heap/\∀b∈fp,H' b=none:=fun{σ' H' s'} I'=>
    ⟨I'.unpinned,T.keep _ _ _ st7 fun b hb o e=>(I'.pin (b,o) (List.mem_append_right _ (List.mem_append_right _ (Jdg hb e)))).1,fun b hb=>by
     obtain⟨o,e,d⟩ :=T.obj _ _ st7 b hb
     exact(I'.pin (b,o) (List.mem_append_right _ (List.mem_append_right _ (Jdg hb e)))).2.1⟩
   cases ok with
   | false=>
    rw[if_neg (by simp)]at q9 ⊢;obtain⟨m',hm,w9⟩ :=hN _ _ _ q9;obtain⟨b1,b2,b3⟩ :=back I9;exact⟨m',hm,i+1,ys,σ8,H9,b1,b2,b3,w9⟩
   | true=>
    rw[if_pos rfl]at q9 ⊢;refine thn (he C s3 H3 fp _ s9 σ8 H9 _ I9 q9) fun y s10 hzz=>?_;obtain⟨v10,H10,I10,r10,hacc10,n10⟩ :=hzz;refine thn (Jah (X:=X.blk N' scope C s3 H3 fp) _ s10 σ8 H10 (.ref acc) [v10] (.ref acc) [y] (fun _ H11=>H11=upd H10 acc (.lst (ys++[v10]))) I10 rfl (.cons r10 .nil) ⟨acc,ys,v10,rfl,rfl,hacc10,hsz,rfl⟩) fun _ s11 hzz=>?_;obtain⟨_,H11,I11,_,e11⟩ :=hzz;subst e11;obtain⟨b1,b2,b3⟩ :=back I11;obtain⟨m',hm,w10⟩ :=hN _ _ _ n10;exact⟨m',hm,i+1,ys++[v10],σ8,_,b1,b2,b3,w10⟩
 exact codeAny_compStart_list loop (T.self X.A 0 _ _ _ st4 loop)
theorem JiD{use:Option (Value->Sem Unit)}{Qv:VS}{Q:VK}{pins:PL}{s:Shared}{σ:St}{H:Hp}
  (hc:X.calm=true) (B:JbU X.N X.env.scope N' scope src) (hi:PI X target iter wi)
  (hg:∀C s₀ H₀ fp,PG (X.blk N' scope C s₀ H₀ fp) target g) (ht:∀C s₀ H₀ fp,PF (X.blk N' scope C s₀ H₀ fp) ifs tc) (he:∀C s₀ H₀ fp,PE (X.blk N' scope C s₀ H₀ fp) elt te)
  (hs:∀x,foldedSetIterable iter X.env x=pure x) (I:Inv X pins σ H s) (h:Jpi wi src g tc te σ H Q)
  (fin:∀(acc C:Addr)(oC:Obj)(H':Hp)(s':Shared),Inv X (pins++[(C,oC)]) σ H' s'->Off X pins C->(∃m,∀h':Heap,h'.get? C=some oC->h'.Ns C m)->Q (.ref acc) H'->
   compPost (model X.prog X.w) X.A X.xe use Qv (.ref acc) C (.ok .next) s') :
  wpAny (model X.prog X.w) X.A (comprehension (.ListComp elt [⟨target,iter,ifs,0⟩] scope pos) scope X.env (firstIterPos [⟨target,iter,ifs,0⟩] pos) (newList []) false (eval iter X.env) use) Qv X.xe s:=by
 refine wpAny_comprehension_free (cl:=Jjf X.env scope.names []) rfl hs (JhA (I.cells B)) B.kind B.names ?_;refine thn (hi pins s σ H _ I h) fun v s1 h1=>thn h1 fun itv s2 h2=>?_;obtain⟨it,fp,tn,J,H2,e,I2,T,st2,f2,hW⟩ :=h2;subst e
 have hlt2:∀b∈fp,b<s2.heap.objs.size:=fun b hb=>let ⟨_,e,_⟩ :=T.obj 0 _ st2 b hb;B3 e
 refine C4 ?_;refine wpAny_newFunctionEnv B.cell (by intro y hy;simp at hy) (fun h4 hns4 hsb4=>?_) B.kind
 refine JpV (s3:={ s2 with heap:=s2.heap.push { cls:=.type "list",data:=.seq ([]:List Value).toArray } }) (H3:=upd H2 s2.heap.objs.size (.lst [])) hc B hg ht he
  (I2.lnew (its:=[]) (t':=s2.toks) .nil (Bz _)) T (T.keep _ _ _ st2 fun b _ o e=>A4 _ e)
  (fun b hb=>⟨by rw[Jf (B6 (hlt2 b hb))];exact(f2 b hb).1,(f2 b hb).2⟩) rfl hns4
  (fun b o e=>hsb4.extBut b o (B6 (B3 e)) (A4 _ e)) (hW _ I2.fresh)
  fun oC H' s' Ic off hm q=>fin _ _ oC H' s' Ic off hm q
theorem JcI(N':List Str)(src:List (Option Nat))(hc:X.calm=true)(B:JbU X.N X.env.scope N' scope src)(hi:PI X target iter wi)
  (hg:∀C s₀ H₀ fp,PG (X.blk N' scope C s₀ H₀ fp) target g) (ht:∀C s₀ H₀ fp,PF (X.blk N' scope C s₀ H₀ fp) ifs tc) (he:∀C s₀ H₀ fp,PE (X.blk N' scope C s₀ H₀ fp) elt te)
  (hs:∀x,foldedSetIterable iter X.env x=pure x:=by intro _;rfl):PE X (.ListComp elt [⟨target,iter,ifs,0⟩] scope pos) (Jpi wi src g tc te):=by
 intro pins s σ H Q I h;rw[eval_ListComp];refine JiD (use:=none) hc B hi hg ht he hs I h fun acc C oC H' s' Ic off ⟨m,hm⟩ q=>?_;have pc:=Ic.pin (C,oC) (List.mem_append_right _ (List.mem_append_right _ Aj));exact⟨m,hm _ pc.1,fun h' hs'=>⟨.ref acc,H',Ic.unpinned.turned (t':=s'.toks) (fun b o hb e=>hs'.extBut b o hb e) pc.2.1 off.loc (.inr off.young) off.cells off.pins,rfl,q⟩⟩
theorem Jdd{i:Nat}{y:Str}{py spos:Pos}(N':List Str)(src:List (Option Nat))(hN:X.N.Nodup)(hy:X.N[i]?=some y)(hx:Loc X.env.scope y)(hc:X.calm=true)(B:JbU X.N X.env.scope N' scope src)(hi:PI X target iter wi)
  (hg:∀C s₀ H₀ fp,PG (X.blk N' scope C s₀ H₀ fp) target g) (ht:∀C s₀ H₀ fp,PF (X.blk N' scope C s₀ H₀ fp) ifs tc) (he:∀C s₀ H₀ fp,PE (X.blk N' scope C s₀ H₀ fp) elt te)
  (hsw:swapsWith (.ListComp elt [⟨target,iter,ifs,0⟩] scope pos) (some (.Name y py)) spos.line X.env=pure true:=by rfl)
  (hs:∀x,foldedSetIterable iter X.env x=pure x:=by intro _;rfl) (hf:X.fn y=true\/X.env.scope.names.lookup y=some .local:=by first|exact .inl rfl|exact .inr rfl|assumption) :
  PS X (.Assign [.Name y py] (.ListComp elt [⟨target,iter,ifs,0⟩] scope pos) spos) (fun D σ H=>Jpi wi src g tc te σ H fun v H1=>D.nx (σ.set i (some v)) H1):=by
 intro pins s σ H D I h;rw[exec_Assign_Name_used _ _ _ _ hsw];refine A0 (wpAny_standAt (A0 ?_));show wpAny _ X.A (do let _ <- comprehension (.ListComp elt [⟨target,iter,ifs,0⟩] scope pos) scope X.env _ (newList []) false (eval iter X.env) (some (assign (.Name y py) X.env))) _ _ s;refine A0 (thn (JiD (use:=some (assign (.Name y py) X.env)) (Qv:=fun _ s'=>SP X pins D .next s') hc B hi hg ht he hs I h fun acc C oC H' s' Ic off ⟨m,hm⟩ q=>?_) fun _ s' hq=>A9 (A9 hq));refine thn (JH (X:=X) (i:=i) (pos:=py) hN hy hx hf _ s' σ H' (.ref acc) (.ref acc) (fun σ2 H2=>D.nx σ2 H2) Ic rfl q) fun _ s'' hzz=>?_;obtain⟨σ2,H2,I2,q2⟩ :=hzz;have pc:=I2.pin (C,oC) (List.mem_append_right _ (List.mem_append_right _ Aj));exact⟨m,hm _ pc.1,fun h' hs'=>⟨σ2,H2,I2.unpinned.turned (t':=s''.toks) (fun b o hb e=>hs'.extBut b o hb e) pc.2.1 off.loc (.inr off.young) off.cells off.pins,q2⟩⟩
end
theorem JfU{J:It}{n:Nat}{acc:Addr}{g:TG}{tc:TT}{te:TE}{Q:VK}{σ:St}{H:Hp}(Pv:Nat->List V->St->Hp->Prop)(h0:Pv 0 [] σ H)
  (hs:∀i ys σ H,i<n->Pv i ys σ H->J.go i H/\ys.length<B2/\∀x H2,J.yld i H x H2->g x σ H2 fun σ3 H3=>tc σ3 H3 fun b H4=>
   if b=true then te σ3 H4 fun y H5=>H5 acc=some (.lst ys)/\Pv (i+1) (ys++[y]) σ3 (upd H5 acc (.lst (ys++[y])))else Pv (i+1) ys σ3 H4)
  (hd:∀ys σ H,Pv n ys σ H->J.stop n H/\Q (.ref acc) H):Jih J acc g tc te Q σ H:=by
 refine⟨fun i m ys σ H=>m=n-i/\i<=n/\Pv i ys σ H,⟨n,by simp,Bz _,h0⟩,?_⟩;rintro i m ys σ H ⟨rfl,hi,p⟩
 by_cases hlt:i<n
 .obtain⟨a,b,c⟩ :=hs i ys σ H hlt p;exact .inr ⟨a,b,Pv (i+1),fun zs σ2 H2 p'=>⟨n-(i+1),by omega,rfl,hlt,p'⟩,c⟩
 .have e:i=n:=by omega
  subst e;exact .inl (hd ys σ H p)
theorem Jgg{lo:Int}{n:Nat}{acc:Addr}{g:TG}{tc:TT}{te:TE}{Q:VK}{σ:St}{H:Hp}(Pv:Nat->List V->St->Hp->Prop)(h0:Pv 0 [] σ H)
  (hs:∀i ys σ H,i<n->Pv i ys σ H->ys.length<B2/\g (.int (lo+i)) σ H fun σ3 H3=>tc σ3 H3 fun b H4=>
   if b=true then te σ3 H4 fun y H5=>H5 acc=some (.lst ys)/\Pv (i+1) (ys++[y]) σ3 (upd H5 acc (.lst (ys++[y])))else Pv (i+1) ys σ3 H4)
  (hd:∀ys σ H,Pv n ys σ H->Q (.ref acc) H):Jih (Itr lo n) acc g tc te Q σ H:=
 JfU Pv h0 (fun i ys σ H hi p=>⟨hi,(hs i ys σ H hi p).1,fun x H2 ⟨e1,e2⟩ =>by subst e1 e2;exact(hs i ys σ _ hi p).2⟩) fun ys σ H p=>⟨A5 _,hd ys σ H p⟩
theorem JcE{K:WF}{a:Addr}{xs:List V}{acc:Addr}{g:TG}{tc:TT}{te:TE}{Q:VK}{σ:St}{H:Hp}(Pv:Nat->List V->St->Hp->Prop)(h0:Pv 0 [] σ H)
  (hl:∀i ys σ H,Pv i ys σ H->SqL K H a xs)
  (hs:∀i x ys σ H,xs[i]?=some x->Pv i ys σ H->ys.length<B2/\g x σ H fun σ3 H3=>tc σ3 H3 fun b H4=>
   if b=true then te σ3 H4 fun y H5=>H5 acc=some (.lst ys)/\Pv (i+1) (ys++[y]) σ3 (upd H5 acc (.lst (ys++[y])))else Pv (i+1) ys σ3 H4)
  (hd:∀ys σ H,Pv xs.length ys σ H->Q (.ref acc) H):Jih (Itl K a) acc g tc te Q σ H:=
 JfU (n:=xs.length) Pv h0
  (fun i ys σ H hi p=>⟨⟨xs,xs[i],hl i ys σ H p,A3 hi⟩,(hs i xs[i] ys σ H (A3 hi) p).1,fun x H2 ⟨e1,e2⟩ =>by subst e1;exact(hs i x ys σ _ (e2 xs (hl i ys σ _ p)) p).2⟩)
  fun ys σ H p=>⟨⟨xs,hl _ ys σ H p,A5 _⟩,hd ys σ H p⟩
theorem JgY{K:WF}{a:Addr}{xs:List V}{acc:Addr}{g:TG}{tc:TT}{te:TE}{Q:VK}{σ:St}{H:Hp}(Pv:Nat->List V->St->Hp->Prop)(h0:Pv 0 [] σ H)
  (hl:∀i ys σ H,Pv i ys σ H->SqT K H a xs)
  (hs:∀i x ys σ H,xs[i]?=some x->Pv i ys σ H->ys.length<B2/\g x σ H fun σ3 H3=>tc σ3 H3 fun b H4=>
   if b=true then te σ3 H4 fun y H5=>H5 acc=some (.lst ys)/\Pv (i+1) (ys++[y]) σ3 (upd H5 acc (.lst (ys++[y])))else Pv (i+1) ys σ3 H4)
  (hd:∀ys σ H,Pv xs.length ys σ H->Q (.ref acc) H):Jih (Itt K a) acc g tc te Q σ H:=
 JfU (n:=xs.length) Pv h0
  (fun i ys σ H hi p=>⟨⟨xs,xs[i],hl i ys σ H p,A3 hi⟩,(hs i xs[i] ys σ H (A3 hi) p).1,fun x H2 ⟨e1,e2⟩ =>by subst e1;exact(hs i x ys σ _ (e2 xs (hl i ys σ _ p)) p).2⟩)
  fun ys σ H p=>⟨⟨xs,hl _ ys σ H p,A5 _⟩,hd ys σ H p⟩
end L2
namespace L2
open PySem PySem.Spec PyProof.Rows
def Jlk(i j:Int):Prop:=JrK i j\/(i.natAbs<2^4096/\j.natAbs<2^4096)
theorem Jgy{k:Int}(h:k.natAbs<2^4096):Builtin.Int.intBits k<=2^20:=by
 unfold Builtin.Int.intBits;split
 .exact Bz _
 .have:k.natAbs.log2<4096:=by
   rcases Nat.eq_zero_or_pos k.natAbs with h0|hp
   .rw[h0];decide
   .exact(Nat.log2_lt (Nat.ne_of_gt hp)).mpr h
  have e:(2:Nat)^20=1048576:=by decide
  omega
theorem Jlk.ok{i j:Int}(h:Jlk i j):IntMulOk i j:=by
 rcases h with h|⟨h1,h2⟩
 .exact h.ok
 .exact .of_bits (Jgy h1) (Jgy h2)
def Jqv(_ j:Int):Prop:=0<j/\j.natAbs<2^4096
section
variable {X:Cx}
theorem Jpa:OpR X (binaryOp .Mult) (rI Jlk fun i j=>.int (i*j)):=opI fun _ _ _ _ _ _ _ hc q=>mul_int q hc.ok
theorem JnT:OpR X (binaryOp .FloorDiv) (rI Jqv fun i j=>.int (i/j)):=opI fun i j _ _ _ _ _ hc q=>by
 have h1:(0:Int)<j:=hc.1
 have hl:j.natAbs.log2<9000:=by
  rcases Nat.eq_zero_or_pos j.natAbs with h0|hp
  .rw[h0];decide
  .exact Nat.lt_trans ((Nat.log2_lt (Nat.ne_of_gt hp)).mpr hc.2) (by decide)
 refine floordiv_int (by omega) ?_ (.inl (PyProof.noPylong_of_log2 hl));rw[Int.fdiv_eq_ediv_of_nonneg _ (Int.le_of_lt h1)];exact q
end
noncomputable def Jf7(T U:String):Bool:=decide (T=U)||(decide (T = "bool")&&decide (U = "int"))
noncomputable def JsL(T:String):Bool:=["int", "bool", "str", "list", "tuple", "dict", "NoneType"].contains T
theorem Jng:(["int", "bool", "str", "list", "tuple", "dict", "NoneType"].all fun T=>["int", "bool", "str", "list", "tuple", "dict"].all fun U=>
  PySem.W.kitMeta U&&decide (((fastBuiltinMro T).map (·.contains (Value.type U)))=some (Jf7 T U)))=true:=by decide +kernel
theorem JoS{K:WF}{T U:String}(hT:T∈["int", "bool", "str", "list", "tuple", "dict", "NoneType"])(hU:U∈["int", "bool", "str", "list", "tuple", "dict"]):PySem.W.kitOne K (.type T) (.type U)=some (Jf7 T U):=by
 have h:=List.all_eq_true.mp (List.all_eq_true.mp Jng T hT) U hU;rw[Bool.and_eq_true]at h;have h2:=of_decide_eq_true h.2;unfold PySem.W.kitOne
 by_cases e:(Value.type T==Value.type U)=true
 .rw[if_pos e]
  have e':T=U:=by
   have:=beq_iff_eq.mp e;injection this
  subst e';simp[Jf7]
 .rw[if_neg e];show(if PySem.W.kitMeta U=true then PySem.W.subIn K (.type T) (.type U)else none)=_;rw[if_pos h.1];exact h2
noncomputable abbrev tyL:List String:=["int", "bool", "str", "list", "tuple", "dict", "NoneType"]
noncomputable abbrev tyU:List String:=["int", "bool", "str", "list", "tuple", "dict"]
section
variable {X:Cx}
theorem Jap:JbX X (.builtin "isinstance") (fun xs H Q=>∃x T U,xs=[x,.ty U]/\Jjq X.K H x (.type T)/\T∈tyL/\U∈tyU/\Q (.bl (Jf7 T U)) H):=by
 intro pins s σ H xs us Q I r h;obtain⟨x,T,U,rfl,ty,hT,hU,q⟩ :=h;obtain⟨u,c,rfl,ru,rc⟩ :=Jja r;cases(show c=Value.type U from rc);exact JlA I ru ty (JoS hT hU) fun tk=>⟨.bl (Jf7 T U),H,I.tok tk,rfl,q⟩
theorem JbV{K:WF}{T:String}(hT:T∈tyL):∀(Us:List String),(∀U∈Us,U∈tyU)->PySem.W.kitAny K (.type T) (Us.map Value.type)=some (Us.any (Jf7 T))
 | [],_=>rfl
 | U::r,h=>by
  show(match PySem.W.kitOne K (.type T) (.type U)with|some true=>some true|some false=>PySem.W.kitAny K (.type T) (r.map Value.type)|none=>none)=_
  rw[JoS hT (h U Aj),JbV hT r fun V hV=>h V (List.mem_cons_of_mem _ hV),List.any_cons];cases Jf7 T U<;>rfl
theorem Jlo:∀{Us:List String}{its:List Value},YZ (Us.map V.ty) its->its=Us.map Value.type
 | [],_,.nil=>rfl
 | U::r,_,.cons a t=>by
  cases(show _=Value.type U from a);rw[Jlo t];rfl
theorem Jfn:JbX X (.builtin "isinstance") (fun xs H Q=>∃(x:V)(T:String)(tp:Addr)(Us:List String),xs=[x,.ref tp]/\H tp=some (.tup (Us.map V.ty))/\Jjq X.K H x (.type T)/\T∈tyL/\(∀U∈Us,U∈tyU)/\Q (.bl (Us.any (Jf7 T))) H):=by
 intro pins s σ H xs us Q I r h;obtain⟨x,T,tp,Us,rfl,ht,ty,hT,hU,q⟩ :=h;obtain⟨u,c,rfl,ru,rc⟩ :=Jja r;cases(show c=Value.ref tp from rc);obtain⟨_,its,rv,o,ho,hc,n,hd⟩ :=(show Ym X.prog X.w H s.heap tp (.tup (Us.map V.ty)) from I.hok tp _ ht);have e:=Jlo rv;subst e;obtain⟨oc,od,odt,osl⟩ :=o;have hc:oc=.type "tuple":=hc;have hd:odt=.seq (Us.map Value.type).toArray n:=hd;subst hc hd;have fin:∀tk,EP X pins σ Q (.bool (Us.any (Jf7 T))) { s with toks:=tk }:=fun tk=>⟨.bl (Us.any (Jf7 T)),H,I.tok tk,rfl,q⟩
 cases ty with
 | non=>cases(show u=Value.none from ru);exact PySem.W.kia_tup PySem.W.kitx_none I.kIn True.intro ho (JbV hT Us hU) (fun z=>nomatch z) fin
 | bl y=>cases(show u=Value.bool y from ru);exact PySem.W.kia_tup PySem.W.kitx_bool I.kIn True.intro ho (JbV hT Us hU) (fun z=>nomatch z) fin
 | int i=>obtain⟨t,z⟩ :=(show∃t,u=Value.int i t from ru);cases z;exact PySem.W.kia_tup PySem.W.kitx_int I.kIn True.intro ho (JbV hT Us hU) (fun z=>nomatch z) fin
 | str y=>obtain⟨t,z⟩ :=(show∃t,u=Value.str y t from ru);cases z;exact PySem.W.kia_tup PySem.W.kitx_str I.kIn True.intro ho (JbV hT Us hU) (fun z=>nomatch z) fin
 | flt y=>simp[tyL]at hT
 | @lst a xs ea=>
  cases(show u=Value.ref a from ru);obtain⟨_,_,n,_,h1⟩ :=(show Ym X.prog X.w H s.heap a (.lst xs) from I.hok a _ ea);exact PySem.W.kia_tup PySem.W.kitx_list I.kIn ⟨_,h1,rfl⟩ ho (JbV hT Us hU) (fun z=>nomatch z) fin
 | @frz a ob xs ea=>
  cases(show u=Value.ref a from ru);obtain⟨_,_,_,n,_,h1⟩ :=(show Ym X.prog X.w H s.heap a (.frz ob (.lst xs)) from I.hok a _ ea);exact PySem.W.kia_tup PySem.W.kitx_list I.kIn ⟨_,h1,rfl⟩ ho (JbV hT Us hU) (fun z=>nomatch z) fin
 | @tup a xs ea=>
  cases(show u=Value.ref a from ru);obtain⟨_,_,_,p⟩ :=(show Ym X.prog X.w H s.heap a (.tup xs) from I.hok a _ ea);obtain⟨o,h1,h2,_⟩ :=p;exact PySem.W.kia_tup PySem.W.kitx_tuple I.kIn ⟨o,h1,h2⟩ ho (JbV hT Us hU) (fun z=>nomatch z) fin
 | @dK a kvs ea=>
  cases(show u=Value.ref a from ru);obtain⟨_,_,vs,_,p⟩ :=(show Ym X.prog X.w H s.heap a (.dK kvs) from I.hok a _ ea);obtain⟨o,es,ep,h1,h2,_⟩ :=p;exact PySem.W.kia_tup PySem.W.kitx_dict I.kIn ⟨o,h1,h2.1⟩ ho (JbV hT Us hU) (fun z=>nomatch z) fin
 | @dT a kvs ea=>
  cases(show u=Value.ref a from ru);obtain⟨_,_,xs,_,o,es,ep,h1,h2,_⟩ :=(show Ym X.prog X.w H s.heap a (.dT kvs) from I.hok a _ ea);exact PySem.W.kia_tup PySem.W.kitx_dict I.kIn ⟨o,h1,h2.1⟩ ho (JbV hT Us hU) (fun z=>nomatch z) fin
theorem Jgv{its:List Value}{ns:List Int}(rv:YZ (ns.map V.int) its):∃xs:Array (Int×Tok),its.toArray=intItems xs/\ns=xs.toList.map (·.1):=by
 have hi:=Jbx rv;obtain⟨xs,e⟩ :=hi.allInts.items;exact⟨xs,e,by rw[<- hi.numsOf,<- nums_intItems,<- e]⟩
theorem Jmr(hc:X.calm=true):JbX X (.builtin "max") (fun xs H Q=>∃(a:Addr)(ns:List Int),xs=[.ref a]/\SqL X.K H a (ns.map V.int)/\ns≠[]/\∀M,M∈ns->(∀b∈ns,b<=M)->Q (.int M) H):=by
 intro pins s σ H xs us Q I r h;obtain⟨a,ns,rfl,hq,hne,q⟩ :=h;obtain⟨u,rfl,ru⟩ :=Jds r;cases ru;obtain⟨its,rv,pl,hz⟩ :=I.list hq;obtain⟨ys,e,rfl⟩ :=Jgv rv;have hl:=pl.isList;rw[e]at hl
 have hsz:0<ys.size:=by
  cases z:ys.toList with
  | nil=>rw[z]at hne;exact absurd rfl hne
  | cons y t=>rw[<- Array.length_toList,z];exact Nat.succ_pos _
 refine max_intList (I.ok.hd hc) hl hsz fun v h' tk hv hk=>?_;obtain⟨t,rfl⟩ :=intItems_at hv;obtain⟨h1,h2⟩ :=argBest_gt (numAt ys) (ys.size-1);refine⟨.int _,H,I.kept (t':=tk) hk,⟨t,rfl⟩,q _ ?_ fun b hb=>?_⟩
 .rw[numAt_eq];refine getD_mem ?_;rw[A2,Array.length_toList];omega
 .obtain⟨j,hj,rfl⟩ :=mem_getD hb;rw[A2,Array.length_toList]at hj;rw[<- numAt_eq];exact h2 j (by omega)
theorem JaJ(hc:X.calm=true):JbX X (.builtin "sum") (fun xs H Q=>∃(a:Addr)(ns:List Int),xs=[.ref a]/\SqL X.K H a (ns.map V.int)/\Q (.int ns.sum) H):=by
 intro pins s σ H xs us Q I r h;obtain⟨a,ns,rfl,hq,q⟩ :=h;obtain⟨u,rfl,ru⟩ :=Jds r;cases ru;obtain⟨its,rv,pl,hz⟩ :=I.list hq;obtain⟨ys,e,rfl⟩ :=Jgv rv;have hl:=pl.isList;rw[e]at hl;refine sum_intListG (I.ok.hd hc) hl fun h' tk t' hk=>?_;refine⟨.int _,H,I.kept (t':=tk) hk,⟨t',rfl⟩,?_⟩;rw[preSum_eq,List.take_of_length_le (by simp)];exact q
end
end L2
namespace L2
open PySem PySem.Spec PyProof.Rows
theorem JhO{α β:Type}{F:α->β->Prop}:∀{l₁:List α}{l₂:List β},l₁.length=l₂.length->(∀(j:Nat) a b,l₁[j]?=some a->l₂[j]?=some b->F a b)->Paired F l₁ l₂
 | [],[],_,_=>.nil
 | [],_::_,h,_=>by simp at h
 | _::_,[],h,_=>by simp at h
 | a::r,b::t,h,g=>.cons (g 0 a b rfl rfl) (JhO (by simpa using h) fun j x y e1 e2=>g (j+1) x y (by simpa using e1) (by simpa using e2))
theorem Jby{α β:Type}{F:α->β->Prop}:∀{l₁:List α}{l₂:List β},Paired F l₁ l₂->∀(j:Nat) a b,l₁[j]?=some a->l₂[j]?=some b->F a b
 | _,_,.nil,j,a,b,e,_=>by simp at e
 | _,_,.cons q _,0,a,b,e1,e2=>by
  cases e1;cases e2;exact q
 | _,_,.cons _ t,j+1,a,b,e1,e2=>Jby t j a b (by simpa using e1) (by simpa using e2)
theorem Jhl{k:Key}{v:Value}(h:JhZ k v=true):Jad (kV k) v:=by
 rcases YD h with⟨i,t,rfl,rfl⟩|⟨x,t,rfl,rfl⟩
 .exact⟨t,rfl⟩
 .exact⟨t,rfl⟩
section
variable {X:Cx}
theorem Jkx(hc:X.calm=true):JbX X (.type "list") (fun xs H Q=>∃(a:Addr) (kvs:List (Key×V)),xs=[.ref a]/\Rd H a (.dK kvs)/\∀l,H l=none->Q (.ref l) (upd H l (.lst (kvs.map fun p=>kV p.1)))):=by
 intro pins s σ H xs us Q I r h;obtain⟨a,kvs,rfl,hd,q⟩ :=h;obtain⟨u,rfl,ru⟩ :=Jds r;cases ru;obtain⟨z,hs,vs,rel,dd⟩ :=JkE I.hok hd;obtain⟨ep,hat⟩ :=dd.dictAt;have hlen:=rel.length;refine PySem.W.kdl_call (PySem.W.kdl_dict hs) (I.ok.hd hc) hat (by rw[<- hlen];exact z) fun h' tk acc c hk hD hacc=>?_;refine⟨.ref s.heap.objs.size,_,I.laid (t':=tk) hk (A5 _) (show Ym X.prog X.w _ h' _ (.lst (kvs.map fun p=>kV p.1)) from⟨by rw[A2];exact z,acc.toList,c,?_,by rw[hD]⟩),rfl,q _ (I.hok.fresh (A5 _))⟩;refine JhO (by rw[A2,hlen,<- hacc.1];simp) fun j x y e1 e2=>?_;rw[Aq]at e1;obtain⟨p,ep,rfl⟩ :=B1.mp e1;obtain⟨k,v,ek,hkey⟩ :=hacc.2 j y (by rw[<- Array.getElem?_toList];exact e2);have hp:=(Jby rel j p (k,v) ep ek).1;have hp:p.1=k:=hp;rw[hp];exact Jhl hkey
noncomputable def JqY(K:WF):R2:=fun x y H Q=>∃(a b:Addr)(xs:List V),x=.ref a/\y=.ref b/\SqL K H a xs/\SqL K H b []/\Q (.bl (!xs.isEmpty)) H
theorem JhE(hu:X.A.units+1<cLine):OpR X (compareOp .NotEq) (JqY X.K):=by
 intro pins s σ H x y v u Q I rx ry h;obtain⟨a,b,xs,rfl,rfl,ha,hb,q⟩ :=h;cases rx;cases ry;obtain⟨its,rv,pl,_⟩ :=I.list ha;obtain⟨its2,rv2,pl2,_⟩ :=I.list hb
 have e2:its2=[]:=by
  cases rv2;rfl
 subst e2
 have hu':X.A.units<cLine:=by omega
 have hlen:=rv.length
 cases xs with
 | nil=>
  have e1:its=[]:=by
   cases rv;rfl
  subst e1;exact PySem.SeqAt.RcNeAt.lists (e:=fun _=>true) pl.isList pl2.isList rfl hu' (fun j h1 _=>by simp at h1) X.prog X.w _ _ ⟨.bl false,H,I,rfl,q⟩
 | cons x r=>
  refine PySem.SeqAt.RcNeAt.lists_lengths pl.isList pl2.isList ?_ hu' X.prog X.w _ _ ⟨.bl true,H,I,rfl,q⟩
  have:its.toArray.size=(x::r).length:=by rw[B0,<- hlen]
  rw[this];rfl
end
section
variable {X:Cx} {pins:PL} {σ:St} {H:Hp} {s:Shared} {a:Addr}
def JgH(H₀:Hp)(a:Addr):Prop:=∀o u,H₀ a≠some (.frz o u)
theorem Inv.told{u o':HO}(I:Inv X pins σ H s)(e:H a=some u)(nt:∀xs,u≠.tup xs)(nb:∀ps,u≠.tbl ps)(no:∀x,u≠.own x)(nf:JgH X.H₀ a)(new:Ym X.prog X.w (upd H a o') s.heap a o'):Inv X pins σ (upd H a o') s:=by
 have ne:∀b,H b=none->b≠a:=fun b hb z=>by rw[z,e]at hb;cases hb
 refine⟨I.ok,I.os,I.bare,⟨I.base.keep,I.base.slot,fun b o h1 h2 h3=>?_,I.base.there,fun b xs h=>?_,fun b o v h=>?_,fun b ps h=>?_⟩,I.loc,I.cell,?_,fun x c h=>?_,fun p hp=>?_,fun b ob hb=>?_,I.len⟩
 .have:=I.base.free b o h1 h2 h3;rw[Jf (ne b this)];exact this
 .have q:=I.base.tups b xs h
  by_cases z:b=a
  .rw[z,e]at q;exact absurd (Option.some.inj q) (nt xs)
  .rw[Jf z];exact q
 .by_cases z:b=a
  .rw[z]at h;exact absurd h (nf o v)
  .rw[Jf z];exact I.base.frzs b o v h
 .obtain⟨more,q⟩ :=I.base.tbls b ps h
  by_cases z:b=a
  .rw[z,e]at q;exact absurd (Option.some.inj q) (nb _)
  .exact⟨more,by rw[Jf z];exact q⟩
 .rw[Jf (ne _ I.free)];exact I.free
 .rw[Jf (ne _ (I.freeC x c h))];exact I.freeC x c h
 .obtain⟨p1,p2,p3⟩ :=I.pin p hp;exact⟨p1,by rw[Jf (ne _ p2)];exact p2,p3⟩
 .by_cases z:b=a
  .subst z;rw[Ja]at hb;cases hb;exact new
  .rw[Jf z]at hb;refine(I.hok b ob hb).stay (fun _ _ _ q=>q) (fun c q=>?_) fun c xs q=>?_
   .have:c≠a:=fun w=>by rw[w,e]at q;exact absurd (Option.some.inj q) (no b)
    rw[Jf this];exact q
   .have:c≠a:=fun w=>by rw[w,e]at q;exact absurd (Option.some.inj q) (nt xs)
    rw[Jf this];exact q
theorem Inv.notFrz{u:HO}(I:Inv X pins σ H s)(e:H a=some u)(n:∀o v,u≠.frz o v):JgH X.H₀ a:=fun o v h=>by
 have:=I.base.frzs a o v h;rw[e]at this;exact n o v (Option.some.inj this)
theorem Inv.freeze{kvs:List (Key×V)}(I:Inv X pins σ H s)(e:H a=some (.dK kvs)):∃o,Inv X pins σ (upd H a (.frz o (.dK kvs))) s:=by
 have x:=I.hok a _ e;obtain⟨_,_,vs,_,o,es,ep,ho,_⟩ :=id (show Ym X.prog X.w H s.heap a (.dK kvs) from x);exact⟨o,I.told e (fun _ z=>nomatch z) (fun _ z=>nomatch z) (fun _ z=>nomatch z) (I.notFrz e fun _ _ z=>nomatch z) ⟨ho,x⟩⟩
theorem Inv.thaw{o:Obj}{kvs:List (Key×V)}(I:Inv X pins σ H s)(e:H a=some (.frz o (.dK kvs)))(nf:JgH X.H₀ a):Inv X pins σ (upd H a (.dK kvs)) s:=by
 have x:=(show Ym X.prog X.w H s.heap a (.frz o (.dK kvs)) from I.hok a _ e).2;exact I.told e (fun _ z=>nomatch z) (fun _ z=>nomatch z) (fun _ z=>nomatch z) nf x
end
noncomputable def Itd(a:Addr)(o:Obj)(kvs:List (Key×V)):It:=
 ⟨fun i H=>H a=some (.frz o (.dK kvs))/\i<kvs.length,fun i H x H'=>H'=H/\∃k v,kvs[i]?=some (k,v)/\x=kV k,fun i H=>H a=some (.frz o (.dK kvs))/\kvs.length<=i⟩
noncomputable def Jru(o:Obj):Nat:=match o.data with
 | .dict _ ep=>ep
 | _=>0
theorem Jga{X:Cx}{pins:PL}{σ:St}{H:Hp}{s:Shared}{a:Addr}{o:Obj}{kvs:List (Key×V)}(I:Inv X pins σ H s)(e:H a=some (.frz o (.dK kvs))) :
  (a==sysModules)=false/\∃vs,KV kvs vs/\s.heap.DictAt (Yc X.prog X.w) a vs (Jru o):=by
 obtain⟨h1,_,h3,vs,rel,o',es,ep,h4,h5,h6,r⟩ :=(show Ym X.prog X.w H s.heap a (.frz o (.dK kvs)) from I.hok a _ e);rw[h1]at h4;cases h4;refine⟨h3,vs,rel,o,es,h1,h5,?_,r⟩;unfold Jru;rw[h6]
theorem Jli{P:Program}{w:World}{K:WF}{tg:Expr}(a it:Addr)(o:Obj)(kvs:List (Key×V)):Jod P w K tg (Itd a o kvs) [it] it (fun i h=>h.IsKeyIter it a i kvs.length (Jru o)) where
 mem:=Aj
 obj:=fun i h hi b hb=>by
  have e:b=it:=by simpa using hb
  subst e;obtain⟨ob,h1,_,h3⟩ :=hi;exact⟨ob,h1,fun v z=>by rw[h3]at z;cases z⟩
 keep:=fun i h h' hi k=>hi.at fun ob e=>k it Aj ob e
 item:=fun X hP hw hK hc i pins s σ H E I f hi go=>by
  subst hP hw hK;obtain⟨e,hlt⟩ :=go;obtain⟨_,vs,rel,hat⟩ :=Jga I e;have hlen:=rel.length;obtain⟨f0,f1,f2,f3,f4,f5⟩ :=f it Aj
  have hv:i<vs.length:=by omega
  refine wpAny_pyNext_dict_item (k:=(vs[i]).1) (v:=(vs[i]).2) (by rw[<- hlen];exact hi) hat (A3 hv) fun key h' hkey hit' hs=>⟨key,rfl,?_⟩;obtain⟨ob,o1,o2,o3⟩ :=id hit';refine Jlx o1 o2 o3 (by decide) ⟨kV (vs[i]).1,H,I.turned (t':=s.toks) (fun b q hb eq=>hs.extBut b q hb eq) f0 f1 f3 f4 f5,Jhl hkey,⟨rfl,(kvs[i]).1,(kvs[i]).2,A3 hlt,?_⟩,by rw[hlen];exact hit',fun b hb=>by rw[A7.mp hb];exact f0⟩;have:=(Jby rel i kvs[i] vs[i] (A3 hlt) (A3 hv)).1;rw[this]
 done:=fun X hP hw hK hc i pins s σ H E I f hi stop=>by
  subst hP hw hK;obtain⟨e,hle⟩ :=stop;obtain⟨_,vs,rel,hat⟩ :=Jga I e;have hlen:=rel.length;obtain⟨f0,f1,f2,f3,f4,f5⟩ :=f it Aj;exact wpAny_pyNext_dict_end (I.ok.hd hc) (by rw[<- hlen];exact hi) hat (Cz (by omega)) fun h' hx=>⟨rfl,I.turned (t':=s.toks) (fun b q hb eq=>hx b q hb eq) f0 f1 f3 f4 f5⟩
 self:=fun A i s Q E hi q=>wpAny_pyIter_keyiter hi q
noncomputable def JrR(H₀:Hp)(td:TE):TI:=fun σ H R=>td σ H fun x H1=>∃(a:Addr) (kvs:List (Key×V)),x=.ref a/\H1 a=some (.dK kvs)/\∀o,JgH H₀ a->R (Itd a o kvs) (upd H1 a (.frz o (.dK kvs)))
theorem Jpu{X:Cx}{tg l:Expr}{tl:TE}(hl:PE X l tl):PI X tg l (JrR X.H₀ tl):=by
 intro pins s σ H R I h;refine thn (hl pins s σ H _ I h) fun v s1 hzz=>?_;obtain⟨x,H1,I1,r1,q1⟩ :=hzz;obtain⟨a,kvs,e,hd,q⟩ :=q1;subst e;cases r1
 have nf:=I1.notFrz hd fun _ _ z=>nomatch z
 obtain⟨o,I2⟩ :=I1.freeze hd;obtain⟨hs,vs,rel,hat⟩ :=Jga I2 Ja;have hlen:=rel.length;refine wpAny_pyIter_dict hs hat ?_;refine⟨s1.heap.objs.size,[s1.heap.objs.size],_,_,_,rfl,I2.kept (t':=s1.toks) fun b ob e=>A4 _ e,Jli a _ o kvs,⟨_,Aw _ rfl,rfl,by rw[hlen];rfl⟩,fun b hb=>?_,q o nf⟩
 have e:b=s1.heap.objs.size:=by simpa using hb
 subst e;exact I2.fpOk (A5 _) (I2.hok.fresh (A5 _))
noncomputable def thawQ(H₀:Hp)(Q:Hp->Prop):Hp->Prop:=fun H=>Q H\/∃(a:Addr)(o:Obj) (kvs:List (Key×V)),H a=some (.frz o (.dK kvs))/\JgH H₀ a/\Q (upd H a (.dK kvs))
theorem Inv.thawQ{X:Cx}{pins:PL}{σ:St}{H:Hp}{s:Shared}{Q:Hp->Prop}(I:Inv X pins σ H s)(h:L2.thawQ X.H₀ Q H):∃H',Inv X pins σ H' s/\Q H':=by
 rcases h with h|⟨a,o,kvs,e,nf,h⟩
 .exact⟨H,I,h⟩
 .exact⟨_,I.thaw e nf,h⟩
noncomputable def JrO(H₀:Hp)(t:TS):TS:=fun D σ H=>t { nx:=fun σ=>thawQ H₀ (D.nx σ),rt:=fun v=>thawQ H₀ (D.rt v),bk:=fun σ=>thawQ H₀ (D.bk σ),ct:=fun σ=>thawQ H₀ (D.ct σ) } σ H
theorem Jho{X:Cx}{st:Stmt}{t:TS}(h:PS X st t):PS X st (JrO X.H₀ t):=fun pins s σ H D I q=>
 thn (h pins s σ H _ I q) fun f s' z=>by
  cases f with
  | next=>obtain⟨σ',H',I',q'⟩ :=z;obtain⟨H2,I2,q2⟩ :=I'.thawQ q';exact⟨σ',H2,I2,q2⟩
  | brk=>obtain⟨σ',H',I',q'⟩ :=z;obtain⟨H2,I2,q2⟩ :=I'.thawQ q';exact⟨σ',H2,I2,q2⟩
  | cont=>obtain⟨σ',H',I',q'⟩ :=z;obtain⟨H2,I2,q2⟩ :=I'.thawQ q';exact⟨σ',H2,I2,q2⟩
  | ret u=>obtain⟨v,σ',H',I',r,q'⟩ :=z;obtain⟨H2,I2,q2⟩ :=I'.thawQ q';exact⟨v,σ',H2,I2,r,q2⟩
theorem JmK{a:Addr}{o:Obj}{kvs:List (Key×V)}{acc:Addr}{g:TG}{tc:TT}{te:TE}{Q:VK}{σ:St}{H:Hp}(Pv:Nat->List V->St->Hp->Prop)(h0:Pv 0 [] σ H)
  (hl:∀i ys σ H,Pv i ys σ H->H a=some (.frz o (.dK kvs)))
  (hs:∀i k v ys σ H,kvs[i]?=some (k,v)->Pv i ys σ H->ys.length<B2/\g (kV k) σ H fun σ3 H3=>tc σ3 H3 fun b H4=>
   if b=true then te σ3 H4 fun y H5=>H5 acc=some (.lst ys)/\Pv (i+1) (ys++[y]) σ3 (upd H5 acc (.lst (ys++[y])))else Pv (i+1) ys σ3 H4)
  (hd:∀ys σ H,Pv kvs.length ys σ H->Q (.ref acc) H):Jih (Itd a o kvs) acc g tc te Q σ H:=
 JfU (n:=kvs.length) Pv h0
  (fun i ys σ H hi p=>⟨⟨hl i ys σ H p,hi⟩,(hs i kvs[i].1 kvs[i].2 ys σ H (A3 hi) p).1,fun x H2 ⟨e1,k,v,e2,e3⟩ =>by subst e1 e3;exact(hs i k v ys σ _ e2 p).2⟩)
  fun ys σ H p=>⟨⟨hl _ ys σ H p,A5 _⟩,hd ys σ H p⟩
end L2
namespace L2
open PySem PySem.Spec PyProof.Rows
section
variable {prog:Program} {w:World} {A:Around} {E:Value→Shared→Prop} {s:Shared}
theorem Jqm{j t:Addr}{i:Nat}{its:Array Value}{x:Value}{Q:VS}(b1:s.heap.IsTupleIter j t i)(b2:s.heap.IsTuple t its)(b3:its[i]?=some x)
  (k:∀g,g.IsTupleIter j t (i+1)->Heap.SameBut j s.heap g->Q x { s with heap:=g }):wpAny (model prog w) A (Builtin.SmallTypes.nextOf (.ref j)) Q E s:=by
 obtain⟨oj,ej,cj,dj⟩ :=id b1;obtain⟨ot,et,_,nt,dt⟩ :=b2;unfold Builtin.SmallTypes.nextOf;refine A0 (wpAny_callSpecial?_slot (name:=Str.ofString "__next__") b1.typeIs PySem.F.slot_tuple_iterator_next (C5 PySem.F.slot_tuple_iterator_next b1.typeIs PySem.F.entry_tuple_iterator_next ?_ (PySem.F.args_tuple_iterator_next_1 _)));show wpAny _ _ (field (.ref j) 0 >>= _) _ _ s;refine A0 (wpAny_field ej dj (x:=.ref t) rfl ?_);show wpAny _ _ (if(Value.ref t==.none)=true then _ else _) _ _ s;rw[if_neg (show¬((Value.ref t==.none)=true) from Bool.false_ne_true)];show wpAny _ _ (field (.ref j) 1 >>= _) _ _ s;refine A0 (wpAny_field ej dj (x:=.int i 0) rfl ?_);show wpAny (model prog w) _ (seqItems? (.ref t) >>= _) _ _ s;refine A0 (wpAny_seqItems et dt ?_);simp only[Int.toNat_natCast,b3];refine A0 (wpAny_setField ej dj (by simp) (A9 ⟨x,rfl,A9 (k _ ?_ (Heap.SameBut.update ..))⟩));refine⟨_,Cw _ ej (Obj.isFreed_of_fields (Obj.data_mapFields dj _)),(Obj.cls_mapFields ..).trans cj,?_⟩;rw[Obj.data_mapFields dj];simp[rawInt]
theorem JiP{z T1 T2 j1 j2 l1 l2:Addr}{n1 n2:Nat}{xs ys:Array Value}{x y p q:Value}{Q:VS}(D:ZipApart z T1 T2 j1 j2 l1 l2)
  (cz:IsZip s.heap z T1 T2 .none) (c1:IsPair s.heap T1 (.ref j1) (.ref j2)) (c2:IsPair s.heap T2 p q)
  (k1:s.heap.IsListIter j1 l1 n1) (k2:s.heap.IsTupleIter j2 l2 n2) (m1:s.heap.IsList l1 xs) (m2:s.heap.IsTuple l2 ys) (ex:xs[n1]?=some x) (ey:ys[n2]?=some y)
  (fin:∀g,IsZip g z T1 T2 (rawInt s.heap.objs.size)->IsPair g T2 x y->g.IsListIter j1 l1 (n1+1)->g.IsTupleIter j2 l2 (n2+1)->IsPair g s.heap.objs.size x y->g.objs.size=s.heap.objs.size+1->
   (∀c o,c≠z->c≠T2->c≠j1->c≠j2->s.heap.get? c=some o->g.get? c=some o)->Q (.ref s.heap.objs.size) { s with heap:=g }) :
  wpAny (model prog w) A (Builtin.«zip.__next__» ⟨[.ref z],[]⟩) (fun r s'=>∃v,r=.done (.ret v)/\Q v s') E s:=by
 have tat:∀{g g':Heap}{j t n:Nat},g.IsTupleIter j t n->(∀o,g.get? j=some o->g'.get? j=some o)->g'.IsTupleIter j t n:=fun h e=>let ⟨o,ho,r⟩ :=h;⟨o,e o ho,r⟩
 have tup:∀{g g':Heap}{t:Nat}{vs:Array Value},g.IsTuple t vs->(∀o,g.get? t=some o->g'.get? t=some o)->g'.IsTuple t vs:=fun h e=>let ⟨o,ho,r⟩ :=h;⟨o,e o ho,r⟩
 show wpAny (model prog w) _ (field (.ref z) 2 >>= _) _ _ _;refine A0 (wpAny_field cz rfl (x:=.bool false) rfl ?_);show wpAny (model prog w) _ (field (.ref z) 3 >>= _) _ _ _;refine A0 (wpAny_field cz rfl (x:=.ref T1) rfl ?_);refine A0 (wpAny_seqItems c1 rfl ?_);show wpAny (model prog w) _ (Builtin.SmallTypes.ownedTupleIsFree (.ref z) >>= _) _ _ _;refine A0 ?_;unfold Builtin.SmallTypes.ownedTupleIsFree;refine A0 (wpAny_field cz rfl (x:=.none) rfl (A9 ?_));simp only[if_true];refine A0 (wpAny_rule ?_);refine A0 (wpAny_field cz rfl (x:=.ref T2) rfl ?_);refine A0 (wpAny_setField_rec cz (by simp) fun g1 z1 e1=>?_);have z1:IsZip g1 z T1 T2 .ellipsis:=z1;refine A0 ?_;simp only[List.zipIdx_cons,List.zipIdx_nil,List.forIn_cons,List.forIn_nil];refine A0 (A0 (wpAny_onRaise ?_));show wpAny (model prog w) _ (Builtin.SmallTypes.nextOf (.ref j1) >>= _) _ _ _;refine A0 (wpAny_nextOf_list_item (k1.extBut e1.extBut D.i1z) (m1.extBut e1.extBut D.l1z) ex fun g2 f2 e2=>A9 ?_);have t2:IsPair g2 T2 p q:=e2.extBut _ _ D.TOi1 (e1.extBut _ _ D.TOz c2);refine A0 (wpAny_seqItems t2 rfl ?_);refine A0 (wpAny_updateSeq_pair t2 fun g3 t3 e3=>?_);have t3:IsPair g3 T2 x q:=t3;refine A0 (wpAny_letGo (A9 ?_));refine A0 (A0 (wpAny_onRaise ?_));show wpAny (model prog w) _ (Builtin.SmallTypes.nextOf (.ref j2) >>= _) _ _ _;refine A0 (Jqm (tat k2 fun o h=>e3.extBut _ _ D.TOi2.symm (e2.extBut _ _ D.i12.symm (e1.extBut _ _ D.i2z h))) (tup m2 fun o h=>e3.extBut _ _ D.l2TO (e2.extBut _ _ D.l2i1 (e1.extBut _ _ D.l2z h))) ey fun g4 f4 e4=>A9 ?_);have t4:IsPair g4 T2 x q:=e4.extBut _ _ D.TOi2 t3;refine A0 (wpAny_seqItems t4 rfl ?_);refine A0 (wpAny_updateSeq_pair t4 fun g5 t5 e5=>?_);have t5:IsPair g5 T2 x y:=t5;refine A0 (wpAny_letGo (A9 (A9 ?_)));refine A0 (wpAny_seqItems t5 rfl ?_);refine A0 (wpAny_newTuple ?_)
 have sz:g5.objs.size=s.heap.objs.size:=by rw[e5.1,e4.1,e3.1,e2.1,e1.1]
 have z5:IsZip g5 z T1 T2 .ellipsis:=e5.extBut _ _ D.TOz.symm (e4.extBut _ _ D.i2z.symm (e3.extBut _ _ D.TOz.symm (e2.extBut _ _ D.i1z.symm z1)));have keep:∀c o,c≠z->c≠T2->c≠j1->c≠j2->s.heap.get? c=some o->g5.get? c=some o:=fun c o n1 n2 n3 n4 h=>e5.extBut _ _ n2 (e4.extBut _ _ n4 (e3.extBut _ _ n2 (e2.extBut _ _ n3 (e1.extBut _ _ n1 h))));have f15:g5.IsListIter j1 l1 (n1+1):=((f2.extBut e3.extBut D.TOi1.symm).extBut e4.extBut D.i12).extBut e5.extBut D.TOi1.symm;have f25:g5.IsTupleIter j2 l2 (n2+1):=tat f4 fun o h=>e5.extBut _ _ D.TOi2.symm h;have zlt:z<g5.objs.size:=B3 z5;show wpAny (model prog w) _ (Builtin.SmallTypes.ownedTupleHandOut (.ref z) (.ref g5.objs.size) >>= _) _ _ _;refine A0 ?_;unfold Builtin.SmallTypes.ownedTupleHandOut;have z6:IsZip (g5.push { cls:=.type "tuple",data:=.seq #[x,y] }) z T1 T2 .ellipsis:=A4 _ z5;refine A0 (wpAny_setField_rec z6 (by simp) fun g7 z7 e7=>?_);have z7:IsZip g7 z T1 T2 (rawInt g5.objs.size):=z7;refine wpAny_setField_rec z7 (by simp) fun g8 z8 e8=>?_;have z8:IsZip g8 z T1 T2 (rawInt g5.objs.size):=z8;have up:∀c o,c≠z->g5.get? c=some o->g8.get? c=some o:=fun c o n1 h=>e8.extBut _ _ n1 (e7.extBut _ _ n1 (A4 _ h));have t8:IsPair g8 g5.objs.size x y:=e8.extBut _ _ (Nat.ne_of_gt zlt) (e7.extBut _ _ (Nat.ne_of_gt zlt) (Aw _ rfl))
 have s8:g8.objs.size=g5.objs.size+1:=by rw[e8.1,e7.1,Heap.size_push]
 rw[sz]at z8 t8 s8;refine A9 ⟨_,rfl,?_⟩;show Q (.ref g5.objs.size) _;rw[sz];exact fin g8 z8 (up _ _ D.TOz t5) (f15.at fun o h=>up _ o D.i1z h) (tat f25 fun o h=>up _ o D.i2z h) t8 s8 fun c o n1 n2 n3 n4 h=>up c o n1 (keep c o n1 n2 n3 n4 h)
theorem Jkr{z T1 T2 j1 j2 l1 l2:Addr}{n1:Nat}{xs:Array Value}{p q:Value}{Q:Fin->Shared->Prop}(hh:A.handled=none)(D:ZipApart z T1 T2 j1 j2 l1 l2)
  (cz:IsZip s.heap z T1 T2 .none) (c1:IsPair s.heap T1 (.ref j1) (.ref j2)) (c2:IsPair s.heap T2 p q) (k1:s.heap.IsListIter j1 l1 n1) (m1:s.heap.IsList l1 xs) (ex:xs[n1]?=none)
  (fin:∀g e,(∀c o,c≠z->c≠T2->c≠j1->c≠j2->s.heap.get? c=some o->g.get? c=some o)->(∃o,g.get? e=some o/\o.cls=.type "StopIteration")->E (.ref e) { s with heap:=g }) :
  wpAny (model prog w) A (Builtin.«zip.__next__» ⟨[.ref z],[]⟩) Q E s:=by
 show wpAny (model prog w) _ (field (.ref z) 2 >>= _) _ _ _;refine A0 (wpAny_field cz rfl (x:=.bool false) rfl ?_);show wpAny (model prog w) _ (field (.ref z) 3 >>= _) _ _ _;refine A0 (wpAny_field cz rfl (x:=.ref T1) rfl ?_);refine A0 (wpAny_seqItems c1 rfl ?_);show wpAny (model prog w) _ (Builtin.SmallTypes.ownedTupleIsFree (.ref z) >>= _) _ _ _;refine A0 ?_;unfold Builtin.SmallTypes.ownedTupleIsFree;refine A0 (wpAny_field cz rfl (x:=.none) rfl (A9 ?_));simp only[if_true];refine A0 (wpAny_rule ?_);refine A0 (wpAny_field cz rfl (x:=.ref T2) rfl ?_);refine A0 (wpAny_setField_rec cz (by simp) fun g1 z1 e1=>?_);have z1:IsZip g1 z T1 T2 .ellipsis:=z1;refine A0 ?_;simp only[List.zipIdx_cons,List.zipIdx_nil,List.forIn_cons,List.forIn_nil];refine A0 (A0 (wpAny_onRaise ?_));show wpAny (model prog w) _ (Builtin.SmallTypes.nextOf (.ref j1) >>= _) _ _ _;refine A0 (wpAny_nextOf_list_end hh (k1.extBut e1.extBut D.i1z) (m1.extBut e1.extBut D.l1z) ex fun g2 e e2 hzz=>?_);obtain⟨oe,he,ce⟩ :=hzz;have z2:IsZip g2 z T1 T2 .ellipsis:=e2 _ _ D.i1z.symm z1
 have ne:e≠z:=fun h=>by
  subst h;rw[z2]at he;cases he;simp at ce
 exact wpAny_setField_rec z2 (by simp) fun g3 _ e3=>fin g3 e (fun c o n1 _ n3 _ h=>e3.extBut _ _ n1 (e2 _ _ n3 (e1.extBut _ _ n1 h))) ⟨oe,e3.extBut _ _ ne he,ce⟩
theorem JiV{z T1 T2 j1 j2 l1 l2:Addr}{n1 n2:Nat}{xs ys:Array Value}{x y p q:Value}{Q:Option Value->Shared->Prop}(D:ZipApart z T1 T2 j1 j2 l1 l2)
  (cz:IsZip s.heap z T1 T2 .none) (c1:IsPair s.heap T1 (.ref j1) (.ref j2)) (c2:IsPair s.heap T2 p q)
  (k1:s.heap.IsListIter j1 l1 n1) (k2:s.heap.IsTupleIter j2 l2 n2) (m1:s.heap.IsList l1 xs) (m2:s.heap.IsTuple l2 ys) (ex:xs[n1]?=some x) (ey:ys[n2]?=some y)
  (fin:∀g,IsZip g z T1 T2 (rawInt s.heap.objs.size)->IsPair g T2 x y->g.IsListIter j1 l1 (n1+1)->g.IsTupleIter j2 l2 (n2+1)->IsPair g s.heap.objs.size x y->g.objs.size=s.heap.objs.size+1->
   (∀c o,c≠z->c≠T2->c≠j1->c≠j2->s.heap.get? c=some o->g.get? c=some o)->Q (some (.ref s.heap.objs.size)) { s with heap:=g }):wpAny (model prog w) A (pyNext (.ref z)) Q E s:=by
 have ty:s.TypeIs (.ref z) "zip":=⟨_,cz,rfl⟩;unfold pyNext
 exact A0 (wpAny_attempt (wpAny_callSpecial?_slot (name:=Str.ofString "__next__") ty PySem.F.slot_zip_next (C5 PySem.F.slot_zip_next ty PySem.F.entry_zip_next
  (JiP D cz c1 c2 k1 k2 m1 m2 ex ey fun g a1 a2 a3 a4 a5 a6 a7=>A9 (fin g a1 a2 a3 a4 a5 a6 a7)) (PySem.F.args_zip_next_1 _))))
theorem JiN{z T1 T2 j1 j2 l1 l2:Addr}{n1:Nat}{xs:Array Value}{p q:Value}{Q:Option Value->Shared->Prop}(hh:A.handled=none)(D:ZipApart z T1 T2 j1 j2 l1 l2)
  (cz:IsZip s.heap z T1 T2 .none) (c1:IsPair s.heap T1 (.ref j1) (.ref j2)) (c2:IsPair s.heap T2 p q) (k1:s.heap.IsListIter j1 l1 n1) (m1:s.heap.IsList l1 xs) (ex:xs[n1]?=none)
  (fin:∀g,(∀c o,c≠z->c≠T2->c≠j1->c≠j2->s.heap.get? c=some o->g.get? c=some o)->Q none { s with heap:=g }):wpAny (model prog w) A (pyNext (.ref z)) Q E s:=by
 have ty:s.TypeIs (.ref z) "zip":=⟨_,cz,rfl⟩;unfold pyNext
 refine A0 (wpAny_attempt (wpAny_callSpecial?_slot (name:=Str.ofString "__next__") ty PySem.F.slot_zip_next (C5 PySem.F.slot_zip_next ty PySem.F.entry_zip_next
  (Jkr hh D cz c1 c2 k1 m1 ex fun g e hk ⟨o,ho,hc⟩ =>?_) (PySem.F.args_zip_next_1 _))))
 exact A0 (wpAny_isInstance (T:="StopIteration") (b:=true) ⟨o,ho,hc⟩ isSubtype_stop (A9 (fin _ hk)))
theorem Jkv(l1 l2:Addr)(xs ys:Array Value):Meets (Builtin.«zip.__new__» ⟨[.type "zip",.ref l1,.ref l2],[]⟩) (fun _ R s=>s.heap.IsList l1 xs/\s.heap.IsTuple l2 ys/\
   R (.ok (.ret (.ref (s.heap.objs.size+4)))) { s with heap:=((((s.heap.push { cls:=.type "list_iterator",data:=.fields #[.ref l1,.int 0 0] }).push { cls:=.type "tuple_iterator",data:=.fields #[.ref l2,.int 0 0] }).push
    { cls:=.type "tuple",data:=.seq #[.ref s.heap.objs.size,.ref (s.heap.objs.size+1)] }).push { cls:=.type "tuple",data:=.seq #[.none,.none] }).push { cls:=.type "zip",data:=.fields #[.none,.bool false,.bool false,.ref (s.heap.objs.size+2),.ref (s.heap.objs.size+3)] } }):=
 .of_wp fun prog w A R s h=>by
  obtain⟨hp,g,d,tk,os⟩ :=s;obtain⟨m1,m2,h⟩ :=h;have hsub:=sub_zip;have q1:Heap.IsList (Shared.heap ⟨hp,g,d,tk,os⟩) l1 xs:=m1
  have q2:Heap.IsTuple (Shared.heap ⟨hp.push { cls:=.type "list_iterator",data:=.fields #[.ref l1,.int 0 0] },g,d,tk,os⟩) l2 ys:=let ⟨o,ho,r⟩ :=m2;⟨o,A4 _ ho,r⟩
  wp_walk using wpAny_pyIter_list q1,wpAny_pyIter_tuple q2
  refine⟨_,rfl,?_⟩;simp only[Heap.size_push]at h ⊢;exact h
end
section
variable {prog:Program} {w:World} {A:Around} {E:Value→Shared→Prop} {s:Shared}
theorem Jjk{l1 l2:Addr}{xs ys:Array Value}{Q:VS}(m1:s.heap.IsList l1 xs)(m2:s.heap.IsTuple l2 ys)
  (k:∀g,IsZip g (s.heap.objs.size+4) (s.heap.objs.size+2) (s.heap.objs.size+3) .none->IsPair g (s.heap.objs.size+2) (.ref s.heap.objs.size) (.ref (s.heap.objs.size+1))->IsPair g (s.heap.objs.size+3) .none .none->
   g.IsListIter s.heap.objs.size l1 0->g.IsTupleIter (s.heap.objs.size+1) l2 0->(∀c o,s.heap.get? c=some o->g.get? c=some o)->Q (.ref (s.heap.objs.size+4)) { s with heap:=g }) :
  wpAny (model prog w) A (call (.type "zip") [.ref l1,.ref l2]) Q E s:=by
 refine callType_new PySem.F.called_zip (by decide) (PySem.F.typeCall_zip_2 _ _) (PySem.F.newCall_zip_2 _ _) (fun obj=>PySem.F.args_object_init_3 obj _ _) PySem.F.entry_zip_new (Jkv l1 l2 xs ys) ⟨m1,m2,?_⟩;generalize hA:s.heap.push { cls:=.type "list_iterator",data:=.fields #[.ref l1,.int 0 0] }=a1
 have sa:a1.objs.size=s.heap.objs.size+1:=by rw[<- hA,Heap.size_push]
 have oa:a1.get? s.heap.objs.size=some { cls:=.type "list_iterator",data:=.fields #[.ref l1,.int 0 0] }:=by rw[<- hA];exact Aw _ rfl
 have ka:∀c o,s.heap.get? c=some o->a1.get? c=some o:=fun c o h=>by rw[<- hA];exact A4 _ h
 clear hA;generalize hB:a1.push { cls:=.type "tuple_iterator",data:=.fields #[.ref l2,.int 0 0] }=a2
 have sb:a2.objs.size=s.heap.objs.size+2:=by rw[<- hB,Heap.size_push,sa]
 have ob:a2.get? (s.heap.objs.size+1)=some { cls:=.type "tuple_iterator",data:=.fields #[.ref l2,.int 0 0] }:=by rw[<- hB,<- sa];exact Aw _ rfl
 have kb:∀c o,a1.get? c=some o->a2.get? c=some o:=fun c o h=>by rw[<- hB];exact A4 _ h
 clear hB;generalize hC:a2.push { cls:=.type "tuple",data:=.seq #[.ref s.heap.objs.size,.ref (s.heap.objs.size+1)] }=a3
 have sc:a3.objs.size=s.heap.objs.size+3:=by rw[<- hC,Heap.size_push,sb]
 have oc:a3.get? (s.heap.objs.size+2)=some { cls:=.type "tuple",data:=.seq #[.ref s.heap.objs.size,.ref (s.heap.objs.size+1)] }:=by rw[<- hC,<- sb];exact Aw _ rfl
 have kc:∀c o,a2.get? c=some o->a3.get? c=some o:=fun c o h=>by rw[<- hC];exact A4 _ h
 clear hC;generalize hD:a3.push { cls:=.type "tuple",data:=.seq #[.none,.none] }=a4
 have sd:a4.objs.size=s.heap.objs.size+4:=by rw[<- hD,Heap.size_push,sc]
 have od:a4.get? (s.heap.objs.size+3)=some { cls:=.type "tuple",data:=.seq #[.none,.none] }:=by rw[<- hD,<- sc];exact Aw _ rfl
 have kd:∀c o,a3.get? c=some o->a4.get? c=some o:=fun c o h=>by rw[<- hD];exact A4 _ h
 clear hD
 have oe:(a4.push { cls:=.type "zip",data:=.fields #[.none,.bool false,.bool false,.ref (s.heap.objs.size+2),.ref (s.heap.objs.size+3)] }).get? (s.heap.objs.size+4)=some { cls:=.type "zip",data:=.fields #[.none,.bool false,.bool false,.ref (s.heap.objs.size+2),.ref (s.heap.objs.size+3)] }:=by
  rw[<- sd];exact Aw _ rfl
 have ke:∀c o,a4.get? c=some o->(a4.push { cls:=.type "zip",data:=.fields #[.none,.bool false,.bool false,.ref (s.heap.objs.size+2),.ref (s.heap.objs.size+3)] }).get? c=some o:=fun c o h=>A4 _ h;exact⟨⟨_,oe,rfl⟩,k _ oe (ke _ _ (kd _ _ oc)) (ke _ _ od) ⟨_,ke _ _ (kd _ _ (kc _ _ (kb _ _ oa))),rfl,rfl⟩ ⟨_,ke _ _ (kd _ _ (kc _ _ ob)),rfl,rfl⟩ fun c o h=>ke _ _ (kd _ _ (kc _ _ (kb _ _ (ka _ _ h))))⟩
end
theorem Inv.turnedT{X:Cx}{pins:PL}{σ:St}{H:Hp}{s:Shared}{h':Heap}{ch:List Addr}{x y:V}{u v:Value}(I:Inv X pins σ H s)
  (k:∀c o,c∉ch->s.heap.get? c=some o->h'.get? c=some o) (hf:∀b∈ch,JkX X pins H b) (hlive:∀b∈ch,∃o,h'.get? b=some o) (rx:Jad x u) (ry:Jad y v) (ht:IsPair h' s.heap.objs.size u v) :
  Inv X pins σ (upd H s.heap.objs.size (.tup [x,y])) { s with heap:=h' }:=by
 have hn:H s.heap.objs.size=none:=I.hok.fresh (A5 _)
 have nch:∀b o,H b=some o->b∉ch:=fun b o e hb=>by rw[(hf b hb).1]at e;cases e
 refine I.call (g':=s.gens) (t':=s.toks) (d':=s.drawn) (ch:=ch) ⟨fun b o e n hb hc=>k b o hc e,fun b o e n hb hc=>⟨o.slots,k b o hc e⟩,fun b o e n hc=>?_,fun b o e hc=>⟨o,k b o hc e⟩,fun b xs e=>?_,fun b o z e=>?_,fun b ps e=>⟨#[],?_⟩⟩ (fun b o e=>?_) I.bare
  fun b hb=>⟨(hf b hb).2.2.2.1,(hf b hb).2.1,(hf b hb).2.2.2.2.1,(hf b hb).2.2.2.2.2⟩
 .rw[Jf (B6 (B3 e))];exact n
 .rw[Jf (Ji e hn)];exact e
 .rw[Jf (Ji e hn)];exact e
 .rw[Jf (Ji e hn),e];simp
 .by_cases hb:b=s.heap.objs.size
  .subst hb;rw[Ja]at e;cases e;exact⟨by show 2<=B2;decide,[u,v],.cons rx (.cons ry .nil),_,ht,rfl,0,rfl⟩
  .rw[Jf hb]at e;refine(I.hok b o e).stay (fun c q hc hq=>k c q ?_ hq) (fun c q=>?_) fun c xs q=>?_
   .rcases hc with rfl|hc
    .exact nch _ _ e
    .exact nch _ _ hc
   .rw[Jf (Ji q hn)];exact q
   .rw[Jf (Ji q hn)];exact q
noncomputable def Itz(K:WF)(a b:Addr):It:=
 ⟨fun i H=>∃xs ys x y,SqL K H a xs/\SqT K H b ys/\xs[i]?=some x/\ys[i]?=some y,
  fun i H v H'=>∃t x y,v=.ref t/\H t=none/\H'=upd H t (.tup [x,y])/\(∀xs,SqL K H a xs->xs[i]?=some x)/\∀ys,SqT K H b ys->ys[i]?=some y,
  fun i H=>∃xs,SqL K H a xs/\xs.length<=i⟩
def Jqe(a b z T1 T2 j1 j2:Addr)(i:Nat)(h:Heap):Prop:=
 IsZip h z T1 T2 .none/\IsPair h T1 (.ref j1) (.ref j2)/\(∃p q,IsPair h T2 p q)/\h.IsListIter j1 a i/\h.IsTupleIter j2 b i
theorem JnA{P:Program}{w:World}{K:WF}{es:List Expr}{kk:Nat}{tp:Pos}{a b z T1 T2 j1 j2:Addr}(D:ZipApart z T1 T2 j1 j2 a b):Jod P w K (.Tuple es kk tp) (Itz K a b) [z,T1,T2,j1,j2] z (Jqe a b z T1 T2 j1 j2) where
 mem:=Aj
 obj:=fun i h ⟨h1,h2,⟨p,q,h3⟩,⟨o4,e4,_,d4⟩,⟨o5,e5,_,d5⟩⟩ c hc=>by
  simp only[Ax,List.not_mem_nil,or_false]at hc
  rcases hc with rfl|rfl|rfl|rfl|rfl
  .exact⟨_,h1,fun v e=>nomatch e⟩
  .exact⟨_,h2,fun v e=>nomatch e⟩
  .exact⟨_,h3,fun v e=>nomatch e⟩
  .exact⟨_,e4,fun v e=>by rw[d4]at e;cases e⟩
  .exact⟨_,e5,fun v e=>by rw[d5]at e;cases e⟩
 keep:=fun i h h' ⟨h1,h2,⟨p,q,h3⟩,h4,h5⟩ k=>⟨k z (by simp) _ h1,k T1 (by simp) _ h2,⟨p,q,k T2 (by simp) _ h3⟩,h4.at fun o e=>k j1 (by simp) o e,h5.at fun o e=>k j2 (by simp) o e⟩
 item:=by
  intro X hP hw hK hc i pins s σ H E I hf st hg;subst hP hw hK;obtain⟨xs,ys,x,y,hq1,hq2,hx,hy⟩ :=hg;obtain⟨h1,h2,⟨p,q,h3⟩,h4,h5⟩ :=st;obtain⟨its,rv,pl,_⟩ :=I.list hq1;obtain⟨its2,rv2,pl2,_⟩ :=I.tuple hq2;obtain⟨u,hu,ru⟩ :=rv.get hx;obtain⟨v,hv,rv'⟩ :=rv2.get hy;refine JiV D h1 h2 h3 h4 h5 pl.isList (show s.heap.IsTuple b its2.toArray from pl2) (x:=u) (y:=v) (by simpa using hu) (by simpa using hv) fun g a1 a2 a3 a4 a5 a6 a7=>⟨_,rfl,?_⟩;refine wpAny_letOwnedTupleGo_zip a1 fun g' z' e'=>?_;have lt:∀{c o},s.heap.get? c=some o->s.heap.objs.size≠c:=fun e=>Nat.ne_of_gt (B3 e)
  have kz:∀c o,c∉[z,T1,T2,j1,j2]->s.heap.get? c=some o->g'.get? c=some o:=fun c o hc e=>by
   simp only[Ax,List.not_mem_nil,or_false,not_or]at hc;exact e'.extBut _ _ hc.1 (a7 c o hc.1 hc.2.2.1 hc.2.2.2.1 hc.2.2.2.2 e)
  have tn':Jqe a b z T1 T2 j1 j2 (i+1) g':=⟨z',e'.extBut _ _ D.TIz (a7 _ _ D.TIz D.TITO D.TIi1 D.TIi2 h2),⟨_,_,e'.extBut _ _ D.TOz a2⟩,a3.at fun o e=>e'.extBut _ _ D.i1z e,a4.at fun o e=>e'.extBut _ _ D.i2z e⟩
  have fresh:∀c∈[z,T1,T2,j1,j2],c≠s.heap.objs.size:=fun c hc=>by
   simp only[Ax,List.not_mem_nil,or_false]at hc
   rcases hc with rfl|rfl|rfl|rfl|rfl
   .exact(lt h1).symm
   .exact(lt h2).symm
   .exact(lt h3).symm
   .obtain⟨o,e,_⟩ :=h4;exact(lt e).symm
   .obtain⟨o,e,_⟩ :=h5;exact(lt e).symm
  have Iz:=I.turnedT (h':=g') (ch:=[z,T1,T2,j1,j2]) kz hf (fun c hc=>?_) ru rv' (e'.extBut _ _ (lt h1) a5)
  .refine⟨.ref s.heap.objs.size,_,Iz,rfl,⟨_,x,y,rfl,I.hok.fresh (A5 _),rfl,fun zs hz=>by rw[I.list_inj hz hq1];exact hx,fun zs hz=>by rw[I.tuple_inj hz hq2];exact hy⟩,tn',fun c hc=>?_⟩;rw[Jf (fresh c hc)];exact(hf c hc).1
  .obtain⟨n1,n2,⟨p',q',n3⟩,⟨o4,e4,_⟩,⟨o5,e5,_⟩⟩ :=tn';simp only[Ax,List.not_mem_nil,or_false]at hc
   rcases hc with rfl|rfl|rfl|rfl|rfl
   .exact⟨_,n1⟩
   .exact⟨_,n2⟩
   .exact⟨_,n3⟩
   .exact⟨_,e4⟩
   .exact⟨_,e5⟩
 done:=by
  intro X hP hw hK hc i pins s σ H E I hf st hg;subst hP hw hK;obtain⟨xs,hq1,hx⟩ :=hg;obtain⟨h1,h2,⟨p,q,h3⟩,h4,h5⟩ :=st;obtain⟨its,rv,pl,_⟩ :=I.list hq1;have hl:=rv.length;refine JiN (I.ok.hd hc) D h1 h2 h3 h4 pl.isList (by simp;omega) fun g hk=>⟨rfl,?_⟩
  refine I.call (g':=s.gens) (t':=s.toks) (d':=s.drawn) (ch:=[z,T2,j1,j2]) ⟨fun c o e n hb hc=>hk c o (fun w=>hc (by simp[w])) (fun w=>hc (by simp[w])) (fun w=>hc (by simp[w])) (fun w=>hc (by simp[w])) e,
   fun c o e n hb hc=>⟨o.slots,hk c o (fun w=>hc (by simp[w])) (fun w=>hc (by simp[w])) (fun w=>hc (by simp[w])) (fun w=>hc (by simp[w])) e⟩,fun c o e n hc=>n,fun c o e hc=>⟨o,hk c o (fun w=>hc (by simp[w])) (fun w=>hc (by simp[w])) (fun w=>hc (by simp[w])) (fun w=>hc (by simp[w])) e⟩,
   fun c zs e=>e,fun c o v e=>e,fun c ps e=>⟨#[],by rw[e];simp⟩⟩ (fun c o e=>?_) I.bare fun c hc=>?_
  .have nch:∀{c':Addr}{o':HO},H c'=some o'->c'≠z/\c'≠T2/\c'≠j1/\c'≠j2:=fun{c' o'} e'=>
    ⟨fun w=>(by rw[w,(hf z (by simp)).1]at e';cases e'),fun w=>(by rw[w,(hf T2 (by simp)).1]at e';cases e'),fun w=>(by rw[w,(hf j1 (by simp)).1]at e';cases e'),fun w=>(by rw[w,(hf j2 (by simp)).1]at e';cases e')⟩
   refine(I.hok c o e).stay (fun c' q' hc' hq'=>?_) (fun _ q'=>q') fun _ _ q'=>q'
   rcases hc' with rfl|hc'
   .exact hk _ _ (nch e).1 (nch e).2.1 (nch e).2.2.1 (nch e).2.2.2 hq'
   .exact hk _ _ (nch hc').1 (nch hc').2.1 (nch hc').2.2.1 (nch hc').2.2.2 hq'
  .have hc':c∈[z,T1,T2,j1,j2]:=by
    simp only[Ax,List.not_mem_nil,or_false]at hc ⊢
    rcases hc with h|h|h|h
    .exact .inl h
    .exact .inr (.inr (.inl h))
    .exact .inr (.inr (.inr (.inl h)))
    .exact .inr (.inr (.inr (.inr h)))
   exact⟨(hf c hc').2.2.2.1,(hf c hc').2.1,(hf c hc').2.2.2.2.1,(hf c hc').2.2.2.2.2⟩
 self:=fun _ _ _ _ _ st h=>wpAny_pyIter_zip st.1 h
noncomputable def JsS(K:WF)(ta:TA):TI:=fun σ H R=>ta σ H fun vs H1=>∃a b,vs=[.ref a,.ref b]/\(∃xs,SqL K H1 a xs)/\(∃ys,SqT K H1 b ys)/\R (Itz K a b) H1
theorem JqJ{X:Cx}{es:List Expr}{kk:Nat}{tp:Pos}{e1 e2:Expr}{ta:TA}{p pos:Pos}(hg:Gl X "zip")(hm:X.mg "zip" = none)(ha:PA X [e1,e2] ta)(hs:starEach [e1,e2] X.env=[(false,eval e1 X.env),(false,eval e2 X.env)]:=by rfl)
  (hs2:starEach [e2] X.env=[(false,eval e2 X.env)]:=by rfl):PI X (.Tuple es kk tp) (.Call (.Name "zip" p) [e1,e2] [] pos) (JsS X.K ta):=by
 intro pins s σ H R I h
 have hv:bootBuiltins "zip" = some (.type "zip"):=by decide +kernel
 refine Call_ (Jgb I hg hm hv (PyProof.Rows.callWith_type1 (thn (ha pos pins s σ H _ I h) fun us s1 ⟨vs,H1,I1,r1,q1⟩ =>?_) (by rw[hs,hs2]) (by rw[hs2];rfl)));obtain⟨a,b,e,⟨xs,hq1⟩,⟨ys,hq2⟩,q⟩ :=q1;subst e;obtain⟨u,v,rfl,ru,rv⟩ :=Jja r1;cases(show u=Value.ref a from ru);cases(show v=Value.ref b from rv);obtain⟨its,rv1,pl,_⟩ :=I1.list hq1;obtain⟨its2,rv2,pl2,_⟩ :=I1.tuple hq2
 have la:a<s1.heap.objs.size:=by obtain⟨o,e,_⟩ :=pl.isList;exact B3 e
 have lb:b<s1.heap.objs.size:=pl2.lt;refine Jjk pl.isList (show s1.heap.IsTuple b its2.toArray from pl2) fun g g1 g2 g3 g4 g5 gk=>?_;refine wpAny_pyIter_zip g1 ?_;refine⟨s1.heap.objs.size+4,[s1.heap.objs.size+4,s1.heap.objs.size+2,s1.heap.objs.size+3,s1.heap.objs.size,s1.heap.objs.size+1],_,_,H1,rfl,I1.kept (t':=s1.toks) gk,JnA (a:=a) (b:=b) (z:=s1.heap.objs.size+4) (T1:=s1.heap.objs.size+2) (T2:=s1.heap.objs.size+3) (j1:=s1.heap.objs.size) (j2:=s1.heap.objs.size+1) ?_,⟨g1,g2,⟨_,_,g3⟩,g4,g5⟩,fun c hc=>?_,q⟩
 .constructor<;>(intro h;have h:@Eq Nat _ _:=h;have la:@LT.lt Nat _ a s1.heap.objs.size:=la;have lb:@LT.lt Nat _ b s1.heap.objs.size:=lb;omega)
 .simp only[Ax,List.not_mem_nil,or_false]at hc
  have hc':s1.heap.objs.size<=c:=by
   rcases hc with rfl|rfl|rfl|rfl|rfl
   .exact Nat.le_add_right _ _
   .exact Nat.le_add_right _ _
   .exact Nat.le_add_right _ _
   .exact A5 _
   .exact Nat.le_add_right _ _
  exact I1.fpOk hc' (I1.hok.fresh hc')
theorem JnG{K:WF}{a b:Addr}{xs ys:List V}{acc:Addr}{g:TG}{tc:TT}{te:TE}{Q:VK}{σ:St}{H:Hp}(hlen:xs.length=ys.length)(Pv:Nat->List V->St->Hp->Prop)(h0:Pv 0 [] σ H)
  (hl:∀i zs σ H,Pv i zs σ H->SqL K H a xs/\SqT K H b ys)
  (hs:∀i x y t zs σ H,xs[i]?=some x->ys[i]?=some y->Pv i zs σ H->H t=none->zs.length<B2/\g (.ref t) σ (upd H t (.tup [x,y])) fun σ3 H3=>tc σ3 H3 fun c H4=>
   if c=true then te σ3 H4 fun z H5=>H5 acc=some (.lst zs)/\Pv (i+1) (zs++[z]) σ3 (upd H5 acc (.lst (zs++[z])))else Pv (i+1) zs σ3 H4)
  (hz:∀i zs σ H,Pv i zs σ H->zs.length<B2)
  (hd:∀zs σ H,Pv xs.length zs σ H->Q (.ref acc) H):Jih (Itz K a b) acc g tc te Q σ H:=
 JfU (n:=xs.length) Pv h0
  (fun i zs σ H hi p=>⟨⟨xs,ys,xs[i],ys[i]'(by omega),(hl i zs σ H p).1,(hl i zs σ H p).2,A3 hi,A3 (by omega)⟩,hz i zs σ H p,
   fun v H2 ⟨t,x,y,e1,e2,e3,e4,e5⟩ =>by subst e1 e3;exact(hs i x y t zs σ H (e4 xs (hl i zs σ H p).1) (e5 ys (hl i zs σ H p).2) p e2).2⟩)
  fun zs σ H p=>⟨⟨xs,(hl _ zs σ H p).1,A5 _⟩,hd zs σ H p⟩
end L2
namespace HT
open PySem PyProof.Rows PySem.MeetsSeq PySem.MeetsSeq2 PySem.MeetsSeq3
theorem JsV{prog:Program}{w:World}{A:Around}{E:Value->Shared->Prop}{s:Shared}{Q:Value->Shared->Prop}(t b:Addr)(ws:List Value)(n n2:Nat)(dd dd2:Option Addr)(sl sl2:Array (Option Value))
  (ho:s.heap.get? t=some { cls:=.type "tuple",dict:=dd,data:=.seq ([]:List Value).toArray n,slots:=sl }) (ho2:s.heap.get? b=some { cls:=.type "tuple",dict:=dd2,data:=.seq ws.toArray n2,slots:=sl2 }) (q:Q (.ref b) s) :
  wpAny (model prog w) A (binaryOp .Add (.ref t) (.ref b)) Q E s:=
 concat_meets ⟨_,ho,rfl⟩ ⟨_,ho2,rfl⟩ noFill_tuple_add seq_tuple_add PySem.F.slot_tuple_add PySem.F.entry_tuple_add (PySem.F.args_tuple_add_2 _ _) (tuple_addW0 t b ([]:List Value).toArray ws.toArray n n2 dd dd2 sl sl2 rfl) ⟨ho,ho2,q⟩
end HT
namespace L2
open PySem PySem.Spec PyProof.Rows
end L2
namespace Wb
open PySem PySem.Spec PyProof.Rows L2
theorem Jbj:bootBuiltins "len" = some (.builtin "len"):=by decide +kernel
theorem JhL:bootBuiltins "min" = some (.builtin "min"):=by decide +kernel
theorem JdS:bootBuiltins "max" = some (.builtin "max"):=by decide +kernel
theorem JcV:bootBuiltins "sum" = some (.builtin "sum"):=by decide +kernel
theorem JM:bootBuiltins "isinstance" = some (.builtin "isinstance"):=by decide +kernel
theorem Jgm:bootBuiltins "int" = some (.type "int"):=by decide +kernel
theorem JiL:bootBuiltins "bool" = some (.type "bool"):=by decide +kernel
theorem Jk6:bootBuiltins "str" = some (.type "str"):=by decide +kernel
theorem JbT:bootBuiltins "list" = some (.type "list"):=by decide +kernel
theorem JdY:bootBuiltins "tuple" = some (.type "tuple"):=by decide +kernel
noncomputable def noE:Expr:=.Constant .none 0 ⟨0,0,0,0⟩
noncomputable def Jp9(e:Expr)(i:Nat):Expr:=match e with
 | .BoolOp _ vs _=>vs.getD i noE
 | .BinOp l _ r _=>[l,r].getD i noE
 | .UnaryOp _ o _=>o
 | .IfExp a b c _=>[a,b,c].getD i noE
 | .Compare l _ cs _=>(l::cs).getD i noE
 | .Call f as _ _=>(f::as).getD i noE
 | .Attribute v _ _=>v
 | .Subscript v s _=>[v,s].getD i noE
 | .List es _=>es.getD i noE
 | .Tuple es _ _=>es.getD i noE
 | .ListComp e gs _ _=>(e::gs.map (·.iter)).getD i noE
 | _=>noE
noncomputable def JkZ(s:Stmt):Expr:=match s with
 | .Assign _ v _=>v
 | .Return (some v) _=>v
 | .Expr v _=>v
 | .If t _ _ _=>t
 | .For _ it _ _ _=>it
 | .While t _ _ _=>t
 | _=>noE
noncomputable def Jr3(s:Stmt)(i:Nat):List Stmt:=match s with
 | .If _ a b _=>[a,b].getD i []
 | .For _ _ b _ _=>b
 | .While _ b _ _=>b
 | _=>[]
noncomputable def JiM(l:List Stmt)(i:Nat):Stmt:=l.getD i (.Pass ⟨0,0,0,0⟩)
noncomputable def lcS(e:Expr):Scope:=match e with
 | .ListComp _ _ s _=>s
 | _=>{ kind:=.function,names:=[],isGenerator:=false,isCoroutine:=false }
structure JI(P:Program)(w:World)(K:WF)(mg:MO)(base:Heap)(x:Str)(ps:List Str)(sp:Sp)(k:Nat)(f:Addr)(fd:FuncData):Prop where
 ok:YO P w K mg base CX0 k f fd ps sp
 mg:mg x=some (.ref f)
 kp:PySem.W.keepIn K (.ref f)=true
 b:Jdi K fd ps []
noncomputable def Jry(t u:TS):TS:=fun D σ H=>∀Nthen:L2.St->Hp->Prop,(∀{σ' H'},u D σ' H'->Nthen σ' H')->t { D with nx:=Nthen } σ H
theorem Jd{X:Cx}{st:Stmt}{rest:List Stmt}{t u:TS}(h1:PS X st t)(h2:PSs X rest u):PSs X (st::rest) (Jry t u):=fun pins s σ H D I h=>Jjv h1 h2 pins s σ H D I (h _ fun z=>z)
noncomputable def JsE(t u:TS):TS:=fun D σ H=>∃P:L2.St->Hp->Prop,t { D with nx:=P } σ H/\∀σ' H',P σ' H'->u D σ' H'
theorem JaO{X:Cx}{st:Stmt}{rest:List Stmt}{t u:TS}(h1:PS X st t)(h2:PSs X rest u):PSs X (st::rest) (JsE t u):=by
 rintro pins s σ H D I ⟨P,ht,hu⟩
 have h2':PSs X rest (fun D' σ' H'=>D'=D/\P σ' H'):=fun pins s σ H D' I ⟨e,hp⟩ =>by
  subst e;exact h2 pins s σ H D' I (hu σ H hp)
 refine Jjv h1 h2' pins s σ H D I ?_;show t { D with nx:=fun σ' H'=>D=D/\P σ' H' } σ H
 have e:(fun σ' H'=>D=D/\P σ' H')=P:=by
  funext a b;exact propext ⟨And.right,fun h=>⟨rfl,h⟩⟩
 rw[e];exact ht
noncomputable abbrev Bd:=Option Int×Int
noncomputable def oV:Option Int->V
 | none=>.non
 | some i=>.int i
def JG(H:Hp)(a:Addr)(bs:List Bd):Prop:=
 ∃ps:List Addr,H a=some (.tup (ps.map V.ref))/\ps.length=bs.length/\∀(i:Nat)(p:Addr)(b:Bd),ps[i]?=some p->bs[i]?=some b->H p=some (.tup [oV b.1,.int b.2])
theorem JG.same{H H':Hp}{a:Addr}{bs:List Bd}(h:JG H a bs)(s:JX H H'):JG H' a bs:=by
 obtain⟨ps,h1,h2,h3⟩ :=h;exact⟨ps,s _ _ h1,h2,fun i p b e1 e2=>s _ _ (h3 i p b e1 e2)⟩
theorem Je{H:Hp}{l:Addr}{o:HO}(h:H l=none):JX H (upd H l o):=fun b u e=>by
 rw[Jf (Ji e h)];exact e
theorem JR{H H':Hp}{l:Addr}{o:HO}(s:JX H H')(h:H l=none):JX H (upd H' l o):=fun b u e=>by
 rw[Jf (Ji e h)];exact s b u e
noncomputable def pgo(left floor:Int):List Bd->List Int
 | []=>[]
 | (none,_)::r=>left::pgo left floor r
 | (some u,_)::r=>(if u-floor<left then u-floor else left)::pgo (left-(if u-floor<left then u-floor else left)) u r
theorem Jfi:∀(bs:List Bd)(l f:Int),(pgo l f bs).length=bs.length
 | [],_,_=>rfl
 | (none,_)::r,l,f=>by simp only[pgo,List.length_cons,Jfi r]
 | (some u,_)::r,l,f=>by simp only[pgo,List.length_cons,Jfi r]
noncomputable def Wf:Int->List Bd->Prop
 | _,[]=>False
 | _,(none,_)::r=>r=[]
 | lo,(some u,_)::r=>lo<u/\Wf u r
theorem Wf.ne{lo:Int}:∀{bs:List Bd},Wf lo bs->bs≠[]
 | _::_,_=>List.cons_ne_nil _ _
theorem JcQ{α:Type}{l:List α}{i:Nat}{x:α}(h:l[i]?=some x):l.drop i=x::l.drop (i+1):=by
 obtain⟨h1,h2⟩ :=A6.mp h;rw[List.drop_eq_getElem_cons h1,h2]
structure Jrp(m:V)(bs:List Bd):Prop where
 wf:Wf 0 bs
 len:bs.length<=13
 each:∀b∈bs,0<=b.2/\b.2<10^52/\(m≠.non->b.2<=100)
 upto:∀b∈bs,∀u∈b.1.toList,u<10^10
theorem at2{a b:Int}(k:Bool):atI ([.int a,.int b]:List V) (if k=true then 1 else 0)=some (.int (if k=true then b else a)):=by cases k<;>rfl
theorem Wf.app:∀(n:Nat)(lo c:Int)(g:Nat->Int)(e:Int),lo<c->Wf lo ((List.range n).map (fun j:Nat=>(some (c+3*(j:Int)),g j))++[(none,e)])
 | 0,lo,c,g,e,_=>by simp[Wf]
 | n+1,lo,c,g,e,h=>by
  rw[List.range_succ_eq_map,List.map_cons,List.cons_append,List.map_map];refine⟨by simpa using h,?_⟩;have q:=Wf.app n (c+3*((0:Nat):Int)) (c+3) (fun j=>g (j+1)) e (by simp;omega)
  have e1:(List.range n).map ((fun j:Nat=>(some (c+3*(j:Int)),g j)) ∘ Nat.succ)=(List.range n).map (fun j:Nat=>(some (c+3+3*(j:Int)),g (j+1))):=by
   refine C7 fun j _=>?_;show(some (c+3*((j+1:Nat):Int)),g (j+1))=(some (c+3+3*(j:Int)),g (j+1))
   have:c+3*((j+1:Nat):Int)=c+3+3*(j:Int):=by omega
   rw[this]
  rw[e1];exact q
theorem Jev{H:Hp}{a:Addr}{ps:List Addr}{bs:List Bd}(h:H a=some (.tup (ps.map V.ref)))(r:Paired (fun(p:Addr)(b:Bd)=>H p=some (.tup [oV b.1,.int b.2])) ps bs):JG H a bs:=by
 refine⟨ps,h,r.length,?_⟩;clear h
 induction r with
 | nil=>intro i p b e;simp at e
 | cons q _ ih=>
  intro i p b e1 e2
  cases i with
  | zero=>
   cases e1;cases e2;exact q
  | succ i=>exact ih i p b (by simpa using e1) (by simpa using e2)
theorem Wf.good{m:V}{bs:List Bd}(h:Wf 0 bs)(hl:bs.length<=13)(h1:∀b∈bs,0<=b.2/\b.2<10^52/\(m≠.non->b.2<=100))(h2:∀b∈bs,∀u∈b.1.toList,u<10^10):Jrp m bs:=⟨h,hl,h1,h2⟩
theorem Jsc{α:Type}{p:α->Prop}{a b c:α}(ha:p a)(hb:p b)(hc:p c):∀x∈[a,b,c],p x:=fun x hx=>by
 rcases Ax.mp hx with rfl|hx
 .exact ha
 .rcases Ax.mp hx with rfl|hx
  .exact hb
  .rw[A7.mp hx];exact hc
theorem Jsm{α:Type}{p:α->Prop}{b c:α}(hb:p b)(hc:p c):∀x∈[b,c],p x:=fun x hx=>by
 rcases Ax.mp hx with rfl|hx
 .exact hb
 .rw[A7.mp hx];exact hc
theorem JrT{α:Type}{p:α->Prop}{c:α}(hc:p c):∀x∈[c],p x:=fun x hx=>by
 rw[A7.mp hx];exact hc
theorem upS{u m:Int}(h:u<m):∀v∈(some u).toList,v<m:=JrT h
theorem upN{m:Int}:∀v∈(none:Option Int).toList,v<m:=fun _ h=>nomatch h
theorem Jow{α:Type}{xs:List α}{i:Nat}{v:α}(h:xs[i]?=some v):atI xs (0+(i:Int))=some v:=by
 rw[Int.zero_add];exact Jh h
theorem Jnj(xs:List V):Jf6 xs none (some (-1))=xs.take (xs.length-1):=by
 unfold Jf6
 have e:HT.sIx xs.length xs.length (some (-1))=xs.length-1:=by
  show(if(-1:Int)<0 then(-1+(xs.length:Int)).toNat else min (-1:Int).toNat xs.length)=_;rw[if_pos (by decide)];omega
 rw[e,HT.JjD];simp
theorem JjE(u:Int):(!decide (oV (some u)=V.non))=true:=by
 rw[decide_eq_false (show¬oV (some u)=V.non from fun z=>nomatch z)];rfl
end Wb
namespace Wb
open PySem PySem.Spec PyProof.Rows L2
inductive Dt where
 | non
 | bl (b:Bool)
 | int (i:Int)
 | str (x:Str)
 | tup (l:List Dt)
 | lst (l:List Dt)
mutual
noncomputable def Rep(H:Hp):Dt->V->Prop
 | .non,v=>v=.non
 | .bl b,v=>v=.bl b
 | .int i,v=>v=.int i
 | .str x,v=>v=.str x
 | .tup l,v=>∃a vs,v=.ref a/\H a=some (.tup vs)/\YL H l vs
 | .lst l,v=>∃a vs,v=.ref a/\H a=some (.lst vs)/\YL H l vs
noncomputable def YL(H:Hp):List Dt->List V->Prop
 | [],vs=>vs=[]
 | d::r,vs=>∃v t,vs=v::t/\Rep H d v/\YL H r t
end
mutual
noncomputable def dsz:Dt->Nat
 | .non=>1
 | .bl _=>1
 | .int _=>1
 | .str _=>1
 | .tup l=>1+Jex l
 | .lst l=>1+Jex l
noncomputable def Jex:List Dt->Nat
 | []=>0
 | d::r=>dsz d+Jex r
end
theorem Jlj(d:Dt):1<=dsz d:=by cases d<;>simp only[dsz]<;>omega
theorem Jd7:∀(a b:List Dt),Jex (a++b)=Jex a+Jex b
 | [],b=>by simp[Jex]
 | d::r,b=>by
  show dsz d+Jex (r++b)=dsz d+Jex r+Jex b;rw[Jd7 r b];omega
theorem JgP:∀(a:List Dt),a.length<=Jex a
 | []=>Bz _
 | d::r=>by
  have:=JgP r;have:=Jlj d;simp only[Jex,List.length_cons];omega
mutual
theorem Rep.same{H H':Hp}(s:JX H H'):∀{d:Dt}{v:V},Rep H d v->Rep H' d v
 | .non,_,h=>h
 | .bl _,_,h=>h
 | .int _,_,h=>h
 | .str _,_,h=>h
 | .tup l,_,⟨a,vs,e,h,r⟩ =>⟨a,vs,e,s _ _ h,YL.same s r⟩
 | .lst l,_,⟨a,vs,e,h,r⟩ =>⟨a,vs,e,s _ _ h,YL.same s r⟩
theorem YL.same{H H':Hp}(s:JX H H'):∀{l:List Dt}{vs:List V},YL H l vs->YL H' l vs
 | [],_,h=>h
 | _::_,_,⟨v,t,e,h,r⟩ =>⟨v,t,e,Rep.same s h,YL.same s r⟩
end
theorem YL.length{H:Hp}:∀{l:List Dt}{vs:List V},YL H l vs->vs.length=l.length
 | [],_,h=>by rw[show _=[] from h];rfl
 | _::_,_,⟨v,t,e,_,r⟩ =>by rw[e,List.length_cons,List.length_cons,YL.length r]
theorem YL.get{H:Hp}:∀{l:List Dt}{vs:List V},YL H l vs->∀(i:Nat) v d,vs[i]?=some v->l[i]?=some d->Rep H d v
 | [],_,h,i,v,d,e1,e2=>by simp at e2
 | _::_,_,⟨v',t,e,h,r⟩,0,v,d,e1,e2=>by
  subst e;cases e1;cases e2;exact h
 | _::_,_,⟨v',t,e,h,r⟩,i+1,v,d,e1,e2=>by
  subst e;exact YL.get r i v d (by simpa using e1) (by simpa using e2)
theorem YL.of{H:Hp}:∀{l:List Dt}{vs:List V},vs.length=l.length->(∀(i:Nat) v d,vs[i]?=some v->l[i]?=some d->Rep H d v)->YL H l vs
 | [],[],_,_=>rfl
 | [],_::_,h,_=>by simp at h
 | _::_,[],h,_=>by simp at h
 | d::r,v::t,h,g=>⟨v,t,rfl,g 0 v d rfl rfl,YL.of (by simpa using h) fun i x y e1 e2=>g (i+1) x y (by simpa using e1) (by simpa using e2)⟩
noncomputable def dty:Dt->String
 | .non=>"NoneType"
 | .bl _=>"bool"
 | .int _=>"int"
 | .str _=>"str"
 | .tup _=>"tuple"
 | .lst _=>"list"
theorem Rep.ty{K:WF}{H:Hp}:∀{d:Dt}{v:V},Rep H d v->Jjq K H v (.type (dty d))
 | .non,_,h=>by cases(show _=V.non from h);exact .non
 | .bl b,_,h=>by cases(show _=V.bl b from h);exact .bl _
 | .int i,_,h=>by cases(show _=V.int i from h);exact .int _
 | .str x,_,h=>by cases(show _=V.str x from h);exact .str _
 | .tup l,_,⟨a,vs,e,h,_⟩ =>by subst e;exact .tup h
 | .lst l,_,⟨a,vs,e,h,_⟩ =>by subst e;exact .lst h
theorem Jch(d:Dt):dty d∈tyL:=by cases d<;>simp[dty]
def Ye(H H':Hp):Prop:=(∀b xs,H b=some (.tup xs)->H' b=some (.tup xs))/\∀b xs,H b=some (.lst xs)->H' b=some (.lst xs)
theorem Ye.of{H H':Hp}(s:JX H H'):Ye H H':=⟨fun b xs h=>s b _ h,fun b xs h=>s b _ h⟩
theorem Ye.trans{H H1 H2:Hp}(a:Ye H H1)(b:Ye H1 H2):Ye H H2:=⟨fun c xs h=>b.1 c xs (a.1 c xs h),fun c xs h=>b.2 c xs (a.2 c xs h)⟩
theorem Ye.dict{H:Hp}{d:Addr}{kvs:List (Key×V)}{o:HO}(e:H d=some (.dK kvs)):Ye H (upd H d o):=
 ⟨fun b xs h=>by rw[Jf (Jac h e (by intro z;cases z))];exact h,fun b xs h=>by rw[Jf (Jac h e (by intro z;cases z))];exact h⟩
mutual
theorem Rep.sameS{H H':Hp}(s:Ye H H'):∀{d:Dt}{v:V},Rep H d v->Rep H' d v
 | .non,_,h=>h
 | .bl _,_,h=>h
 | .int _,_,h=>h
 | .str _,_,h=>h
 | .tup l,_,⟨a,vs,e,h,r⟩ =>⟨a,vs,e,s.1 _ _ h,YL.sameS s r⟩
 | .lst l,_,⟨a,vs,e,h,r⟩ =>⟨a,vs,e,s.2 _ _ h,YL.sameS s r⟩
theorem YL.sameS{H H':Hp}(s:Ye H H'):∀{l:List Dt}{vs:List V},YL H l vs->YL H' l vs
 | [],_,h=>h
 | _::_,_,⟨v,t,e,h,r⟩ =>⟨v,t,e,Rep.sameS s h,YL.sameS s r⟩
end
structure Jk0(H:Hp)(l:Addr)(ps:List Addr)(ds:List Dt)(Hc:Hp):Prop where
 same:JX H Hc
 lst:Hc l=some (.lst (ps.map V.ref))
 len:ps.length=ds.length
 prs:∀(i:Nat) p d,ps[i]?=some p->ds[i]?=some d->∃u v,Hc p=some (.tup [u,v])/\Rep H d u/\Rep H d v
theorem Jk0.new{H:Hp}{l:Addr}{ps:List Addr}{ds:List Dt}{Hc:Hp}(W:Jk0 H l ps ds Hc){t:Addr}{o:HO}(h:Hc t=none):Jk0 H l ps ds (upd Hc t o):=
 ⟨JR W.same (W.same.free h),Je h _ _ W.lst,W.len,fun i p d e1 e2=>let ⟨u,v,q,r⟩ :=W.prs i p d e1 e2;⟨u,v,Je h _ _ q,r⟩⟩
theorem Jk0.pop{H:Hp}{l:Addr}{ps:List Addr}{p:Addr}{ds:List Dt}{d:Dt}{Hc:Hp}(hl:H l=none)(W:Jk0 H l (ps++[p]) (ds++[d]) Hc):Jk0 H l ps ds (upd Hc l (.lst (ps.map V.ref)))/\∃u v,Hc p=some (.tup [u,v])/\upd Hc l (.lst (ps.map V.ref)) p=some (.tup [u,v])/\Rep H d u/\Rep H d v:=by
 have hlen:ps.length=ds.length:=by have:=W.len;simpa using this
 refine⟨⟨JR W.same hl,Ja,hlen,fun i q e e1 e2=>?_⟩,?_⟩
 .have i1:=(A6.mp e1).1;have i2:=(A6.mp e2).1;obtain⟨u,v,h,r⟩ :=W.prs i q e (by rw[Bq i1];exact e1) (by rw[Bq i2];exact e2);exact⟨u,v,by rw[Jf (Jac h W.lst (by intro z;cases z))];exact h,r⟩
 .obtain⟨u,v,h,r⟩ :=W.prs ps.length p d (by simp) (by rw[hlen];simp);exact⟨u,v,h,by rw[Jf (Jac h W.lst (by intro z;cases z))];exact h,r⟩
theorem Jk0.push{H:Hp}{l t:Addr}{ps:List Addr}{ds:List Dt}{d:Dt}{u v:V}{Hc:Hp}(hl:H l=none)(W:Jk0 H l ps ds Hc)(ht:Hc t=none)(hu:Rep H d u)(hv:Rep H d v) :
  Jk0 H l (ps++[t]) (ds++[d]) (upd (upd Hc t (.tup [u,v])) l (.lst (ps.map V.ref++[V.ref t]))):=by
 have hne:t≠l:=(Ji W.lst ht).symm;refine⟨JR (JR W.same (W.same.free ht)) hl,by rw[Ja,B4];rfl,by rw[Ak,Ak,W.len];rfl,fun i q e e1 e2=>?_⟩
 by_cases hi:i<ps.length
 .rw[Bq hi]at e1;rw[Bq (by rw[<- W.len];exact hi)]at e2;obtain⟨u,v,h,r⟩ :=W.prs i q e e1 e2;exact⟨u,v,by rw[Jf (Jac h W.lst (by intro z;cases z)),Jf (Ji h ht)];exact h,r⟩
 .have:i=ps.length:=by
   have:=(A6.mp e1).1;rw[Ak,C8]at this;omega
  subst this;rw[Bj (A5 _),Nat.sub_self]at e1;rw[W.len,Bj (A5 _),Nat.sub_self]at e2;cases e1;cases e2;exact⟨u,v,by rw[Jf hne,Ja],hu,hv⟩
theorem JjP{K:WF}{H Hc:Hp}{dl:List Dt}{d:Dt}{v:V}(hd:d=.tup dl\/d=.lst dl)(h:Rep H d v)(s:JX H Hc){i:Nat}{e:Dt}(he:dl[i]?=some e) :
  ∃x,Rep H e x/\∀Q:VK,Q x Hc->rIx K v (.int (0+(i:Int))) Hc Q:=by
 rcases hd with rfl|rfl
 .obtain⟨a,vs,rfl,ha,r⟩ :=h
  have hi:i<vs.length:=by rw[r.length];exact(A6.mp he).1
  exact⟨vs[i],r.get i _ _ (A3 hi) he,fun Q q=>.inr (.inl ⟨a,vs,_,vs[i],rfl,rfl,SqT.of (s _ _ ha),Jow (A3 hi),q⟩)⟩
 .obtain⟨a,vs,rfl,ha,r⟩ :=h
  have hi:i<vs.length:=by rw[r.length];exact(A6.mp he).1
  exact⟨vs[i],r.get i _ _ (A3 hi) he,fun Q q=>.inl ⟨a,vs,_,vs[i],rfl,rfl,SqL.of (s _ _ ha),Jow (A3 hi),q⟩⟩
theorem Jmu{K:WF}{H Hc:Hp}{dl:List Dt}{d:Dt}{v:V}(hd:d=.tup dl\/d=.lst dl)(h:Rep H d v)(s:JX H Hc) :
  ∃a ys,v=.ref a/\(SqL K Hc a ys\/SqT K Hc a ys)/\ys.length=dl.length:=by
 rcases hd with rfl|rfl
 .obtain⟨a,vs,rfl,ha,r⟩ :=h;exact⟨a,vs,rfl,.inr (SqT.of (s _ _ ha)),r.length⟩
 .obtain⟨a,vs,rfl,ha,r⟩ :=h;exact⟨a,vs,rfl,.inl (SqL.of (s _ _ ha)),r.length⟩
theorem Jpe{d:Dt}{dl:List Dt}(h:d=.tup dl\/d=.lst dl):(["list", "tuple"].any (Jf7 (dty d)))=true:=by
 have h1:(["list", "tuple"].any (Jf7 "tuple"))=true:=by decide
 have h2:(["list", "tuple"].any (Jf7 "list"))=true:=by decide
 rcases h with rfl|rfl
 .exact h1
 .exact h2
structure Jr6(d:Dt)(z:V):Prop where
 nn:z≠.non
 sc:JrQ z z=true
 no:¬(["list", "tuple"].any (Jf7 (dty d)))=true
 si:(["str", "int"].any (Jf7 (dty d)))=true
theorem Jo3{H:Hp}{d:Dt}{u v:V}(hn:∀dl,d≠.tup dl/\d≠.lst dl)(hu:Rep H d u)(hv:Rep H d v):(d=.non/\u=.non/\v=.non)\/(u=v/\Jr6 d v):=by
 have b1:¬(["list", "tuple"].any (Jf7 "bool"))=true:=by decide
 have b2:(["str", "int"].any (Jf7 "bool"))=true:=by decide
 have i1:¬(["list", "tuple"].any (Jf7 "int"))=true:=by decide
 have i2:(["str", "int"].any (Jf7 "int"))=true:=by decide
 have s1:¬(["list", "tuple"].any (Jf7 "str"))=true:=by decide
 have s2:(["str", "int"].any (Jf7 "str"))=true:=by decide
 cases d with
 | non=>exact .inl ⟨rfl,hu,hv⟩
 | bl b=>
  cases(show u=V.bl b from hu);cases(show v=V.bl b from hv);exact .inr ⟨rfl,⟨(fun z=>by cases z),rfl,b1,b2⟩⟩
 | int i=>
  cases(show u=V.int i from hu);cases(show v=V.int i from hv);exact .inr ⟨rfl,⟨(fun z=>by cases z),rfl,i1,i2⟩⟩
 | str x=>
  cases(show u=V.str x from hu);cases(show v=V.str x from hv);exact .inr ⟨rfl,⟨(fun z=>by cases z),rfl,s1,s2⟩⟩
 | tup dl=>exact absurd rfl (hn dl).1
 | lst dl=>exact absurd rfl (hn dl).2
end Wb
namespace L2
open PySem
end L2
namespace Wb
open PySem PySem.Spec PyProof.Rows L2
noncomputable def wgo(left floor:Int)(bs:List Bd):List Int:=((pgo left floor bs).zip bs).map fun q=>q.1*q.2.2
noncomputable def mx(i j:Int):Int:=if j>i then j else i
noncomputable def mn(i j:Int):Int:=if j<i then j else i
noncomputable def lv(a low:Int):List Bd->Int
 | []=>0
 | (none,e)::r=>mx 0 (a-low)*e+lv a low r
 | (some u,e)::r=>mn (mx 0 (a-low)) (u-low)*e+lv a u r
noncomputable def nx(a:Int):List Bd->Int
 | []=>0
 | (none,e)::_=>e
 | (some u,e)::r=>if a<u then e else nx a r
theorem JoJ:∀(bs:List Bd)(a f:Int),Wf f bs->(wgo (mx 0 (a-f)) f bs).sum=lv a f bs
 | [],_,_,h=>h.elim
 | (none,e)::r,a,f,h=>by
  have:r=[]:=h;subst this;simp[wgo,pgo,lv]
 | (some u,e)::r,a,f,h=>by
  have hw:=JoJ r a u h.2;have hu:f<u:=h.1
  have e1:mx 0 (a-f)-mn (mx 0 (a-f)) (u-f)=mx 0 (a-u):=by
   unfold mn mx;split<;>split<;>split<;>omega
  have e2:wgo (mx 0 (a-f)) f ((some u,e)::r)=mn (mx 0 (a-f)) (u-f)*e::wgo (mx 0 (a-f)-mn (mx 0 (a-f)) (u-f)) u r:=rfl;rw[e2,List.sum_cons,e1,hw];rfl
theorem Jq8{a:Int}{bs:List Bd}(ha:0<=a)(h:Wf 0 bs):(wgo a 0 bs).sum=lv a 0 bs:=by
 have e:mx 0 (a-0)=a:=by unfold mx;split<;>omega
 have:=JoJ bs a 0 h;rw[e]at this;exact this
theorem JmA:∀(bs:List Bd)(a f:Int),Wf f bs->a<=f->lv a f bs=0
 | [],_,_,h,_=>h.elim
 | (none,e)::r,a,f,h,ha=>by
  have:r=[]:=h;subst this
  have e1:mx 0 (a-f)=0:=by unfold mx;split<;>omega
  simp[lv,e1]
 | (some u,e)::r,a,f,h,ha=>by
  have hu:f<u:=h.1
  have e1:mn (mx 0 (a-f)) (u-f)=0:=by unfold mn mx;split<;>split<;>omega
  simp only[lv,e1,Int.zero_mul,Int.zero_add];exact JmA r a u h.2 (by omega)
noncomputable def JlH(pay top per:Int):Int:=mx 0 (top-pay/per)
noncomputable def due(pay:Int)(bs:List Bd)(top per:Int):Int:=mx 0 (lv pay 0 bs/100-JlH pay top per)
theorem Jic:∀(bs:List Bd)(l f:Int),Wf f bs->0<=l->∀p∈pgo l f bs,0<=p/\p<=l
 | [],_,_,h,_,_,_=>h.elim
 | (none,e)::r,l,f,h,hl,p,hp=>by
  have:r=[]:=h;subst this
  rcases Ax.mp hp with rfl|hp
  .exact⟨hl,Int.le_refl _⟩
  .simp[pgo]at hp
 | (some u,e)::r,l,f,h,hl,p,hp=>by
  have hu:f<u:=h.1;have hp:p∈(if u-f<l then u-f else l)::pgo (l-(if u-f<l then u-f else l)) u r:=hp
  rcases Ax.mp hp with rfl|hp
  .split<;>omega
  .have hl':0<=l-(if u-f<l then u-f else l):=by split<;>omega
   have:=Jic r _ u h.2 hl' p hp
   have hle:l-(if u-f<l then u-f else l)<=l:=by split<;>omega
   omega
theorem Jgc{p:Int}(h0:0<=p)(h1:p<10^103):p.natAbs<2^4096:=by
 have h2:p.natAbs<10^103:=by omega
 exact Nat.lt_of_lt_of_le h2 (by decide +kernel)
end Wb
namespace L2
open PySem PySem.Spec PyProof.Rows
abbrev Up(l:List Nat):Prop:=l.Pairwise (·<·)
theorem Jke{l:List Nat}(h:Up l){i j:Nat}{x y:Nat}(hij:i<j)(hx:l[i]?=some x)(hy:l[j]?=some y):x<y:=by
 obtain⟨h1,e1⟩ :=A6.mp hx;obtain⟨h2,e2⟩ :=A6.mp hy;rw[<- e1,<- e2];exact List.pairwise_iff_getElem.mp h i j h1 h2 hij
theorem JgO{xs:Array Nat}{j:Nat}(h:Up xs.toList):∀(fuel lo hi:Nat),hi-lo<fuel+1->lo<=hi->hi<=xs.size->
  (∀i x,i<lo->xs[i]?=some x->x<j)->(∀i x,hi<=i->xs[i]?=some x->j<=x)->
  SetTable.below.go xs j fuel lo hi<=xs.size/\(∀i x,i<SetTable.below.go xs j fuel lo hi->xs[i]?=some x->x<j)/\∀i x,SetTable.below.go xs j fuel lo hi<=i->xs[i]?=some x->j<=x
 | 0,lo,hi,hf,hl,hs,h1,h2=>by
  have:lo=hi:=by omega
  subst this;exact⟨hs,h1,h2⟩
 | fuel+1,lo,hi,hf,hl,hs,h1,h2=>by
  unfold SetTable.below.go
  by_cases c:lo<hi
  .rw[if_pos c]
   have hm1:lo<=(lo+hi)/2:=by omega
   have hm2:(lo+hi)/2<hi:=by omega
   have hms:(lo+hi)/2<xs.size:=by omega
   have hg:xs[(lo+hi)/2]?=some (xs.getD ((lo+hi)/2) j):=by
    rw[Array.getElem?_eq_getElem hms];simp[Array.getD,hms]
   dsimp only;generalize(lo+hi)/2=mid at hm1 hm2 hms hg ⊢
   by_cases d:xs.getD mid j<j
   .rw[if_pos d];refine JgO h fuel (mid+1) hi (by omega) (by omega) hs (fun i x hi' hx=>?_) h2
    by_cases e:i=mid
    .rw[e,hg]at hx;rw[<- Option.some.inj hx];exact d
    .exact Nat.lt_trans (Jke h (show i<mid by omega) (by rw[<- hx];simp) (by rw[<- hg];simp)) d
   .rw[if_neg d];refine JgO h fuel lo mid (by omega) hm1 (by omega) h1 (fun i x hi' hx=>?_)
    by_cases e:i=mid
    .rw[e,hg]at hx;rw[<- Option.some.inj hx];omega
    .have:=Jke h (show mid<i by omega) (by rw[<- hg];simp) (y:=x) (by rw[<- hx];simp);omega
  .rw[if_neg c]
   have:lo=hi:=by omega
   subst this;exact⟨hs,h1,h2⟩
theorem Jgp{xs:Array Nat}(h:Up xs.toList)(j:Nat) :
  SetTable.below xs j<=xs.size/\(∀i x,i<SetTable.below xs j->xs[i]?=some x->x<j)/\∀i x,SetTable.below xs j<=i->xs[i]?=some x->j<=x:=by
 unfold SetTable.below
 exact JgO h xs.size 0 xs.size (by omega) (Bz _) (A5 _) (fun i x hi=>by omega) (fun i x hi hx=>by
  have:=(Array.getElem?_eq_some_iff.mp hx).1
  omega)
theorem JgI{α:Type}(xs:Array α)(p:Nat)(x:α)(hp:p<=xs.size):(SetTable.insertAt xs p x).toList=xs.toList.take p++x::xs.toList.drop p:=by
 unfold SetTable.insertAt;simp[Array.toList_extract,List.extract_eq_drop_take];rw[List.take_of_length_le (by simp)]
theorem Jqh{xs:Array Nat}(h:Up xs.toList){j:Nat}(hj:xs[SetTable.below xs j]?≠some j):Up (SetTable.insertAt xs (SetTable.below xs j) j).toList:=by
 obtain⟨b0,b1,b2⟩ :=Jgp h j;rw[JgI _ _ _ b0];refine List.pairwise_append.mpr ⟨h.sublist (List.take_sublist _ _),List.pairwise_cons.mpr ⟨fun y hy=>?_,h.sublist (List.drop_sublist _ _)⟩,fun a ha y hy=>?_⟩
 .obtain⟨i,hi⟩ :=List.getElem?_of_mem hy;rw[List.getElem?_drop]at hi;have h2:=b2 _ y (Nat.le_add_right _ i) (by rw[<- hi];simp)
  by_cases e:i=0
  .subst e;have hne:j≠y:=fun z=>hj (by rw[z];rw[z]at hi;rw[<- hi];simp);omega
  .have hsz:SetTable.below xs j<xs.size:=by
    have:=(A6.mp hi).1;simp at this;omega
   have hb:xs[SetTable.below xs j]?=some xs[SetTable.below xs j]:=Array.getElem?_eq_getElem hsz;have h3:=b2 _ _ (A5 _) hb;have h4:=Jke h (show SetTable.below xs j<SetTable.below xs j+i by omega) (x:=xs[SetTable.below xs j]) (by rw[<- hb];simp) hi;omega
 .obtain⟨i,hi⟩ :=List.getElem?_of_mem ha
  have hil:i<SetTable.below xs j:=by
   have:=(A6.mp hi).1;rw[B7]at this;omega
  rw[List.getElem?_take_of_lt hil]at hi;have h1:=b1 i a hil (by rw[<- hi];simp)
  rcases Ax.mp hy with rfl|hy
  .exact h1
  .obtain⟨k,hk⟩ :=List.getElem?_of_mem hy;rw[List.getElem?_drop]at hk;have:=b2 _ y (Nat.le_add_right _ k) (by rw[<- hk];simp);omega
structure Jcw(t:SetTable)(led:Bool):Prop where
 led:t.led=led
 dum:t.dummies=#[]
 up:t.plain=true->Up t.place.toList
theorem Jmg(led:Bool):Jcw (.fresh 0 0 led) led:=⟨rfl,rfl,fun _=>List.Pairwise.nil⟩
theorem Jcw.standIn{t:SetTable}{led:Bool}(h:Jcw t led)(n:Nat):Jcw (t.standIn n) led:=⟨h.led,rfl,fun z=>by cases z⟩
theorem Jcw.orStandIn{t:SetTable}{led:Bool}(h:Jcw t led)(n:Nat):Jcw (t.orStandIn n) led:=by
 unfold SetTable.orStandIn;split
 .exact h
 .exact h.standIn n
theorem Jjy{t:SetTable}(hd:t.dummies=#[])(f:Nat->Int)(h:Int):∀(fuel:Nat)(p:SetTable.Probe),p.dummy=none->∀j d,SetTable.probe.go t f h fuel p=some (.empty j d)->d=none/\t.slot j=.empty
 | 0,p,_,j,d,e=>by simp[SetTable.probe.go]at e
 | fuel+1,p,hp,j,d,e=>by
  unfold SetTable.probe.go at e
  have adv:∀q:SetTable.Probe,q.dummy=none->(t.advance q).dummy=none:=fun q hq=>by
   unfold SetTable.advance;split
   .exact hq
   .exact hq
  cases hs:t.slot p.j with
  | empty=>
   rw[hs]at e;have e:=Option.some.inj e
   injection e with e1 e2
   subst e1;exact⟨by rw[<- e2];exact hp,hs⟩
  | dummy=>
   exfalso
   unfold SetTable.slot at hs;dsimp only at hs;rw[hd]at hs;split at hs
   .cases hs
   .have:SetTable.has #[] p.j=false:=by simp[SetTable.has]
    rw[this]at hs;simp at hs
  | live i=>
   rw[hs]at e;dsimp only at e;split at e
   .cases e
   .exact Jjy hd f h fuel _ (adv p hp) j d e
theorem JkW{t:SetTable}(hd:t.dummies=#[]){h:Int}{j:Nat}{b:Bool}(e:t.freeSlot h=some (j,b)):t.slot j=.empty:=by
 unfold SetTable.freeSlot SetTable.probe at e
 cases hg:SetTable.probe.go t (fun _=>h+1) h (10*SetTable.turns t.mask) (t.probeStart h)with
 | none=>rw[hg]at e;cases e
 | some m=>
  rw[hg]at e
  cases m with
  | candidate a b c=>cases e
  | empty j' d=>
   obtain⟨rfl,hs⟩ :=Jjy hd _ h _ _ rfl j' d hg;have e:=Option.some.inj e
   injection e with e1 e2
   subst e1;exact hs
theorem JkO{t:SetTable}{j:Nat}(h:t.slot j=.empty):t.place[SetTable.below t.place j]?≠some j:=fun z=>by
 unfold SetTable.slot at h;dsimp only at h;rw[z]at h;simp at h
theorem Jcw.put{t:SetTable}{led:Bool}(h:Jcw t led){j:Nat}(hj:t.slot j=.empty):Jcw (t.put j).1 led:=by
 refine⟨h.led,?_,fun hp=>Jqh (h.up hp) (JkO hj)⟩;show(if SetTable.has t.dummies j=true then SetTable.eraseAt t.dummies (SetTable.below t.dummies j)else t.dummies)=#[];rw[h.dum]
 have:SetTable.has #[] j=false:=by simp[SetTable.has]
 rw[this];rfl
theorem Jcw.layNew{t:SetTable}{led:Bool}(h:Jcw t led)(es:Array (Int×Value))(x:Int)(v:Value):Jcw (PySem.layNew t es x v).2.1 led:=by
 unfold PySem.layNew
 cases e:t.freeSlot x with
 | none=>exact h.standIn _
 | some p=>
  obtain⟨j,b⟩ :=p;exact(h.put (JkW h.dum e)).orStandIn _
theorem JfL{β:Type}(f:Nat->Option β):∀l:List Nat,(l.filterMap fun j=>(f j).map (j,·)).map (·.1)=l.filter fun j=>(f j).isSome
 | []=>rfl
 | j::r=>by
  rw[List.filterMap_cons,List.filter_cons]
  cases e:f j with
  | none=>simpa using JfL f r
  | some b=>simpa using JfL f r
theorem Jcw.relay{t:SetTable}{led:Bool}(h:Jcw t led)(es:Array (Int×Value))(n:Nat):Jcw (relayAll t es n).2.1 led:=by
 unfold relayAll
 cases e:t.relaid (es.map (·.1)) n with
 | none=>exact h.standIn _
 | some p=>
  obtain⟨t',order⟩ :=p;dsimp only;split
  .unfold SetTable.relaid SetTable.laid at e
   cases ho:SetTable.layClean (SetTable.sizeAbove n-1) (es.map (·.1))with
   | none=>rw[ho]at e;cases e
   | some ow=>
    rw[ho]at e;have e:=Option.some.inj e
    injection e with e1 e2
    subst e1;refine⟨h.led,rfl,fun _=>?_⟩;dsimp only;have hr:(List.range (SetTable.sizeAbove n-1+1)).Pairwise (·<·):=List.pairwise_lt_range;have hm:((List.range (SetTable.sizeAbove n-1+1)).filterMap fun j=>(ow.getD j none).map (j,·)).map (·.1)=(List.range (SetTable.sizeAbove n-1+1)).filter fun j=>(ow.getD j none).isSome:=JfL _ _;show Up _;rw[hm];exact hr.sublist List.filter_sublist
  .exact h.standIn _
end L2
namespace L2
open PySem PySem.Spec PyProof.Rows
section
variable (prog:Program) (w:World)
structure Jo2(es:Array (Int×Value))(ms:List Int):Prop where
 el:ElemsOf (intKind prog w) es.toList
 ia:IntsAre (es.toList.map (·.2)) ms
structure JkF(h:Heap)(a:Addr)(led:Bool)(ns:List Int):Prop where
 ex:∃es ep t ms,h.get? a=some { cls:=.type "set",dict:=none,data:=.set es ep t,slots:=#[] }/\Jo2 prog w es ms/\ms.Perm ns/\t.fits es.size=true/\Jcw t led
 nd:ns.Nodup
end
section
variable {prog:Program} {w:World} {A:Around} {E:Value→Shared→Prop} {s:Shared}
theorem IntsAre.app{us vs:List Value}{ms ns:List Int}(h:IntsAre us ms)(g:IntsAre vs ns):IntsAre (us++vs) (ms++ns):=by
 induction h with
 | nil=>exact g
 | cons n t hr ih=>exact .cons n t ih
theorem JhW{us vs:List Value}(p:us.Perm vs):∀{ms:List Int},IntsAre us ms->∃ns,IntsAre vs ns/\ms.Perm ns:=by
 induction p with
 | nil=>intro ms h;exact⟨ms,h,.refl _⟩
 | cons x _ ih=>
  intro ms h
  cases h with
  | cons n t hr=>
   obtain⟨ns,g,q⟩ :=ih hr;exact⟨n::ns,.cons n t g,q.cons n⟩
 | swap x y l=>
  intro ms h
  cases h with
  | cons n t hr=>
   cases hr with
   | cons n' t' hr'=>exact⟨n'::n::_,.cons n' t' (.cons n t hr'),.swap ..⟩
 | trans _ _ ih1 ih2=>
  intro ms h;obtain⟨ns,g,q⟩ :=ih1 h;obtain⟨ks,g2,q2⟩ :=ih2 g;exact⟨ks,g2,q.trans q2⟩
theorem JnZ{us:List Value}{ms:List Int}(h:IntsAre us ms)(k:Int):k∈ms↔∃v∈us,(intKind prog w).is k v=true:=by
 induction h with
 | nil=>simp
 | cons n t hr ih=>
  rw[Ax,ih];constructor
  .rintro(rfl|⟨v,hv,q⟩)
   .exact⟨_,Aj,intKind_is _ _ _ _⟩
   .exact⟨v,List.mem_cons_of_mem _ hv,q⟩
  .rintro⟨v,hv,q⟩
   rcases Ax.mp hv with rfl|hv
   .exact .inl ((intKind prog w).inj _ k n q (intKind_is _ _ _ _))
   .exact .inr ⟨v,hv,q⟩
theorem Jo2.perm{es es':Array (Int×Value)}{ms:List Int}(h:Jo2 prog w es ms)(p:es'.toList.Perm es.toList):∃ns,Jo2 prog w es' ns/\ms.Perm ns:=by
 obtain⟨ns,g,q⟩ :=JhW (p.symm.map (·.2)) h.ia;exact⟨ns,⟨h.el.perm p,g⟩,q⟩
theorem Jo2.size{es:Array (Int×Value)}{ms:List Int}(h:Jo2 prog w es ms):es.size=ms.length:=by
 rw[<- IntsAre.length h.ia];simp
theorem Jms{a:Addr}{es es':Array (Int×Value)}{ep:Nat}{t t':SetTable}{h:Heap}(g:h.get? a=some { cls:=.type "set",dict:=none,data:=.set es ep t,slots:=#[] }) :
  (h.update a (Obj.putSet es' t')).get? a=some { cls:=.type "set",dict:=none,data:=.set es' (ep+1) t',slots:=#[] }:=by
 have q:=Cw (Obj.putSet es' t') g (by rw[putSet_of es' t' rfl];rfl);rw[putSet_of es' t' rfl]at q;exact q
theorem Jpz{a:Addr}{led:Bool}{ns:List Int}{k:Int}{tk:Tok}{Q:Bool->Shared->Prop}(G:JkF prog w s.heap a led ns)(hr:ns.length+1<scanBound)
  (q:∀b h',Heap.SameBut a s.heap h'->JkF prog w h' a led (step_dedup ns k)->Q b { s with heap:=h' }):wpAny (model prog w) A (setAddHashed a (.int k tk) ((intKind prog w).hash k)) Q E s:=by
 obtain⟨⟨es,ep,t,ms,g0,en,pm,ft,tb⟩,nd⟩ :=G;have ik:(intKind prog w).is k (.int k tk)=true:=intKind_is _ _ _ _
 have hm:k∈ns↔∃e∈es.toList,(intKind prog w).is k e.2=true:=by
  rw[<- pm.mem_iff,JnZ (prog:=prog) (w:=w) en.ia];constructor
  .rintro⟨v,hv,z⟩;obtain⟨e,he,rfl⟩ :=Bw.mp hv;exact⟨e,he,z⟩
  .rintro⟨e,he,z⟩;exact⟨e.2,Bw.mpr ⟨e,he,rfl⟩,z⟩
 have sz:es.size=ns.length:=en.size.trans pm.length_eq;have bs:byScan (.int k tk) es=true:=byScan_of rfl (by omega) en.el;unfold setAddHashed setAddHashedIn;refine wpAny_holding (A0 (wpAny_setState_of g0 rfl ft ?_));dsimp only;rw[bs,if_pos rfl];unfold setAddByScan;refine A0 (A0 (wpAny_rule (A0 (wpAny_setScan_of ik g0 rfl ft en.el ?_))))
 cases hf:List.findIdx? (fun e=>(intKind prog w).is k e.2) es.toList with
 | some j=>
  obtain⟨j1,j2,_⟩ :=List.findIdx?_eq_some_iff_getElem.mp hf;have hk:k∈ns:=hm.mpr ⟨es.toList[j],List.getElem_mem j1,j2⟩
  have e1:step_dedup ns k=ns:=by
   unfold step_dedup;rw[if_pos (by simpa using hk)]
  dsimp only;have:=q false s.heap (Heap.SameBut.refl a s.heap) (by rw[e1];exact⟨⟨es,ep,t,ms,g0,en,pm,ft,tb⟩,nd⟩);exact A9 (A9 this)
 | none=>
  have hk:k∉ns:=fun z=>by
   obtain⟨e,he,hp⟩ :=hm.mp z;have:=List.findIdx?_eq_none_iff.mp hf e he;rw[hp]at this;cases this
  have e1:step_dedup ns k=ns++[k]:=by
   unfold step_dedup;rw[if_neg (by simpa using hk)]
  rw[e1]at q;have nd1:(ns++[k]).Nodup:=List.nodup_append.mpr ⟨nd,by simp,fun a ha b hb=>by rw[A7.mp hb];exact fun z=>hk (z ▸ ha)⟩
  have gw:∀(b:Bool){s₁:Shared}{Q':Unit->Shared->Prop},Q' () s₁->wpAny (model prog w) A (match b with|true=>rule "set.scan.the-table-gave-way" | false=>pure ()) Q' E s₁:=fun b s₁ Q' z=>by
   cases b
   .exact A9 z
   .exact wpAny_rule z
  have p1:=layNew_perm t es ((intKind prog w).hash k) (.int k tk);have f1:=layNew_fits t es ((intKind prog w).hash k) (.int k tk);have t1:=tb.layNew es ((intKind prog w).hash k) (.int k tk);dsimp only;generalize hL:layNew t es ((intKind prog w).hash k) (.int k tk)=L at p1 f1 t1 ⊢;obtain⟨es1,u1,wd,gv⟩ :=L;dsimp only at p1 f1 t1 ⊢;rw[Array.toList_push]at p1
  have en0:Jo2 prog w (es.push ((intKind prog w).hash k,.int k tk)) (ms++[k]):=by
   refine⟨?_,?_⟩
   .rw[Array.toList_push];exact en.el.push ik rfl
   .rw[Array.toList_push,B4];exact IntsAre.app en.ia (.cons k tk .nil)
  obtain⟨ms1,en1,pm1⟩ :=en0.perm (es':=es1) (by rw[Array.toList_push];exact p1);have pm1':ms1.Perm (ns++[k]):=pm1.symm.trans (pm.append_right _)
  have sz1:es1.size=ns.length+1:=by
   rw[en1.size,pm1'.length_eq,Ak];rfl
  refine A0 (gw _ ?_);have hv:hashByValue 8 (.int k tk)=pure true:=rfl
  have tail:wpAny (model prog w) A (do
    storeSet a es1 u1
    if(!wd&&u1.tooFull)=true then do
      (match(relayAll u1 es1 (SetTable.grown es1.size)).2.2 with|true=>rule "set.scan.the-table-gave-way" | false=>pure ())
      storeSet a (relayAll u1 es1 (SetTable.grown es1.size)).1 (relayAll u1 es1 (SetTable.grown es1.size)).2.1
      pure (some true)
     else pure (some true)) (fun r s'=>wpAny (model prog w) A (match r with|some added=>pure added|none=>setAddHashedIn a (.int k tk) ((intKind prog w).hash k) 99999) Q E s') E s:=by
   refine A0 (wpAny_storeSet_of g0 rfl ?_ (fits_of_scanBound (by omega)));have g1:=Jms (es':=es1) (t':=u1) g0;have sb1:=Heap.SameBut.update s.heap a (Obj.putSet es1 u1);split
   .have p2:=relayAll_perm u1 es1 (SetTable.grown es1.size);have f2:=relayAll_fits u1 es1 (SetTable.grown es1.size);have t2:=t1.relay es1 (SetTable.grown es1.size);generalize relayAll u1 es1 (SetTable.grown es1.size)=L2 at p2 f2 t2 ⊢;obtain⟨es2,u2,gv2⟩ :=L2;dsimp only at p2 f2 t2 ⊢;obtain⟨ms2,en2,pm2⟩ :=en1.perm (es':=es2) p2
    have sz2:es2.size=es1.size:=by rw[en2.size,<- pm2.length_eq,<- en1.size]
    refine A0 (gw _ (A0 (wpAny_storeSet_of g1 rfl ?_ (fits_of_scanBound (by omega)))));exact A9 (A9 (q true _ (sb1.trans (Heap.SameBut.update _ a _)) ⟨⟨es2,_,u2,ms2,Jms g1,en2,pm2.symm.trans pm1',f2,t2⟩,nd1⟩))
   .exact A9 (A9 (q true _ sb1 ⟨⟨es1,_,u1,ms1,g1,en1,pm1',f1,t1⟩,nd1⟩))
  split
  .refine A0 ?_;rw[hv];refine A9 ?_;rw[if_pos rfl];exact tail
  .refine A0 (A9 ?_);rw[if_pos rfl];exact tail
end
end L2
namespace L2
open PySem PySem.Spec PyProof.Rows
noncomputable def byT(w:World):Bool:=w.params.followText "set-order"
section
variable {prog:Program} {w:World} {A:Around} {R:Result→Shared→Prop} {I:Addr} {fp wr:List Addr} {Gn:Array GenState→Array GenState→Prop} {n:Nat} {P:Nat→Value→Prop} {St:Nat→Shared→Prop}
theorem JkF.at{h h':Heap}{a:Addr}{led:Bool}{ns:List Int}(G:JkF prog w h a led ns)(k:∀o,h.get? a=some o->h'.get? a=some o):JkF prog w h' a led ns:=by
 obtain⟨⟨es,ep,t,ms,g0,r⟩,nd⟩ :=G;exact⟨⟨es,ep,t,ms,k _ g0,r⟩,nd⟩
theorem JnL(W:WalksS prog w A.in1 I fp wr Gn n P St)(S:Addr)(hS:S∉fp)(led:Bool)(val:Nat->Int)(hv:∀i v,P i v->∃t,v=.int (val i) t)(hb:n+1<scanBound) :
  ∀(k i:Nat)(s:Shared),n-i=k->i<=n->St i s->JkF prog w s.heap S led (firstMet val i)->
   (∀s',Moved (S::wr) Gn s s'->JkF prog w s'.heap S led (firstMet val n)->R (.ok (.ret .none)) s')->codeAny (model prog w) A (.builtin "set.update.loop" ⟨[.ref S,.ref I],[]⟩) R s:=by
 have hw:S∉wr:=fun z=>hS (W.sub _ z);have hs:∀b∈wr,b∈S::wr:=fun b z=>List.mem_cons_of_mem _ z;intro k
 induction k with
 | zero=>
  intro i s e hi st G q
  obtain rfl:i=n:=by omega
  refine codeAny_builtin PyProof.Rows.F.entry_set_update_loop ?_;rw[Around.under_plainId PyProof.Rows.F.plain_set_update_loop _];refine A0 (W.done s _ _ st fun s' m=>?_);exact A9 (q s' (m.mono hs) (G.at fun o z=>m.heap S _ hw z))
 | succ k ih=>
  intro i s e hi st G q
  have hl:i<n:=by omega
  refine codeAny_builtin PyProof.Rows.F.entry_set_update_loop ?_;rw[Around.under_plainId PyProof.Rows.F.plain_set_update_loop _];refine A0 (W.item i s _ _ hl st fun v s' hp st' m=>?_);obtain⟨t,rfl⟩ :=hv i v hp;have G1:=G.at (h':=s'.heap) fun o z=>m.heap S _ hw z;show wpAny _ A.in1 (holding [Value.int (val i) t] (setAdd S (.int (val i) t)) >>= _) _ _ s';refine A0 (wpAny_holding ?_);unfold setAdd;refine wpAny_holding (A0 ((intKind prog w).pyHash (k:=val i) (intKind_is _ _ _ _) ?_));have hl2:=firstMet_length_le val i;refine Jpz (s:={ s' with toks:=s'.toks+1 }) G1 (by omega) fun b h' sb G2=>?_;rw[<- firstMet_succ]at G2;refine A9 ⟨plainId_quiet PyProof.Rows.F.plain_set_update_loop _,ih (i+1) _ (by omega) hl (W.frame _ s' _ _ st' (Nat.le_succ _) fun c hc o z=>?_) G2 fun s'' m'' G3=>?_⟩
  .rw[sb.2 c (fun y:c=S=>hS (by rw[<- y];exact hc))];exact z
  .refine q s'' (Moved.trans W.gtrans ((m.mono hs).then_heap (Nat.le_succ _) fun c o hc z=>?_) m'') G3;rw[sb.2 c (fun y:c=S=>hc (by rw[y];exact Aj))];exact z
end
section
variable {prog:Program} {w:World} {A:Around} {E:Value→Shared→Prop} {s:Shared}
noncomputable abbrev Ja9(led:Bool):Obj:={ cls:=.type "set",dict:=none,data:=.set #[] 0 (.fresh 0 0 led) }
theorem Ji9(a:Value){Q₁:VS}(h:Q₁ (.ref s.heap.objs.size) { s with heap:=s.heap.push (Ja9 (!byT w)) }) :
  codeAny (model prog w) A (.call (.builtin "set.__new__") ⟨[.type "set",a],[]⟩) (wants Q₁ E) s:=by
 refine codeAny_of_tree ?_;show wpAny _ A.in1 (do checkBuiltinCall "set.__new__" ⟨[.type "set",a],[]⟩;again (.builtin "set.__new__" ⟨[.type "set",a],[]⟩)) _ _ s;refine A0 (wpAny_of_eq (PySem.F.newCall_set_1 a) (A9 ⟨plainId_quiet PySem.F.plain_set_new _,codeAny_builtin PySem.F.entry_set_new ?_⟩));rw[Around.under_plainId PySem.F.plain_set_new _];unfold Builtin.«set.__new__» Builtin.Frozenset.newClass;have hsub:=sub_set_self;obtain⟨hp,g,d,tk,os⟩ :=s;dsimp only
 wp_walk
 refine wpAny_askSetting (A9 ?_);dsimp only;simp only[newObj];exact A0 (wpAny_alloc (A9 (A9 h)))
theorem JmE{l:Addr}{vs:Array Value}{ns:List Int}{Q:VS}(hh:A.handled=none)(hl:s.heap.IsList l vs)(hi:IntsAre vs.toList ns)(hb:vs.size+1<scanBound)
  (q:∀(h':Heap)(tk:Nat),JkF prog w h' s.heap.objs.size (!byT w) (firstMet (fun i=>ns.getD i 0) vs.size)->(∀b o,b<s.heap.objs.size->s.heap.get? b=some o->h'.get? b=some o)->Q (.ref s.heap.objs.size) { s with heap:=h',toks:=tk }) :
  wpAny (model prog w) A (call (.type "set") [.ref l]) Q E s:=by
 obtain⟨c,tl,hmro⟩ :=PySem.F.called_set.mro;have hmade:=PySem.F.called_set.made;have hsub:=PySem.F.called_set.sub;refine wpAny_call (codeAny_of_tree ?_);show wpAny _ _ (callAny (.type "set") _) _ _ _;refine A9 ⟨Code.quiet_builtin _ (by decide +kernel),codeAny_builtin PySem.F.entry_type_call ?_⟩;rw[Around.under_plain (weight_type_call_type "set" [.ref l] []) rfl];have n1:=PySem.F.called_set.notType;have n2:=PySem.F.called_set.canCreate;have n3:=PySem.F.typeCall_set_1 (.ref l)
 repeat (any_goals (first|assumption|wp_step))
 refine codeAny_mono (Ji9 (.ref l) (E:=E) (Q₁:=fun ob s₁=>ob=.ref s.heap.objs.size/\s₁={ s with heap:=s.heap.push (Ja9 (!byT w)) }) ⟨rfl,rfl⟩) fun r s₁ hr=>?_
 cases r with
 | error e=>exact hr
 | ok fl=>
  cases fl with
  | ret ob=>
   obtain⟨rfl,rfl⟩ :=hr;have g0:(s.heap.push (Ja9 (!byT w))).get? s.heap.objs.size=some (Ja9 (!byT w)):=Aw _ rfl;have hT:Shared.TypeIs { s with heap:=s.heap.push (Ja9 (!byT w)) } (.ref s.heap.objs.size) "set":=⟨_,g0,rfl⟩;have m1:=PySem.F.called_set.init.lookup;have m2:=PySem.F.called_set.init.bind (.ref s.heap.objs.size)
   repeat (any_goals (first|assumption|wp_step))
   refine codeAny_mono (codeAny_call_builtin (R:=wants (fun r s₂=>r=.none/\∃h' tk,s₂={ s with heap:=h',toks:=tk }/\JkF prog w h' s.heap.objs.size (!byT w) (firstMet (fun i=>ns.getD i 0) vs.size)/\
     (∀b o,b<s.heap.objs.size->s.heap.get? b=some o->h'.get? b=some o)) E) PySem.F.called_set.init.plain PySem.F.entry_set_init (check_set_init_1 hT ?_)) fun r₂ s₂ hr₂=>?_
   .obtain⟨ol,hol,hcl,nl,hdl⟩ :=hl;obtain⟨ocls,odict,odata,oslots⟩ :=ol;simp only at hcl hdl;subst hcl hdl;have hol':(s.heap.push (Ja9 (!byT w))).get? l=some { cls:=.type "list",dict:=odict,data:=.seq vs nl,slots:=oslots }:=A4 _ hol;have k1:=PySem.F.sub_list_set;have k2:=PySem.F.sub_list_frozenset
    have k3:(Value.type "list"==Value.type "dict")=false:=by decide
    have hl1:(s.heap.push (Ja9 (!byT w))).IsList l vs:=⟨_,hol',rfl,nl,rfl⟩;unfold Builtin.«set.__init__» noKeywords Builtin.Frozenset.updateFrom;generalize hPI:pyIter=PI
    wp_walk
    subst hPI;refine wpAny_pyIter_list hl1 (A0 (wpAny_runValue ?_));have lt:l<s.heap.objs.size:=B3 hol
    have hh3:A.in1.in1.in1.handled=none:=by simp[hh]
    have ne:l≠(s.heap.push (Ja9 (!byT w))).objs.size:=by
     rw[Heap.size_push];exact B6 (C6 lt)
    have nm:s.heap.objs.size∉[(s.heap.push (Ja9 (!byT w))).objs.size,l]:=by
     rw[Heap.size_push];simp only[Ax,A7,List.not_mem_nil,or_false,not_or];exact⟨B6 (Nat.lt_succ_self _),Nat.ne_of_gt lt⟩
    have hval:∀(i:Nat)(v:Value),vs[i]?=some v->∃t,v=.int ((fun i=>ns.getD i 0) i) t:=fun i v z=>PyProof.Rows.IntsAre.int_at hi i v (by rw[Array.getElem?_toList];exact z);refine JnL ((Walks.list hh3 _ l ne vs).toS) s.heap.objs.size nm (!byT w) (fun i=>ns.getD i 0) hval hb (vs.size-0) 0 _ (by omega) (Bz _) ⟨⟨_,Aw _ rfl,rfl,rfl⟩,(hl1.push _)⟩ ?_ ?_
    .refine⟨⟨#[],0,.fresh 0 0 (!byT w),[],A4 _ g0,⟨fun e he=>by simp at he,.nil⟩,.refl _,by rfl,Jmg _⟩,List.nodup_nil⟩
    .intro s' hm G';obtain⟨h',g',d',tk',os'⟩ :=s';obtain rfl:g'=s.gens:=hm.gens;obtain rfl:d'=s.drawn:=hm.drawn;obtain rfl:os'=s.os:=hm.os;refine A9 (A9 ⟨rfl,h',tk',rfl,G',fun b o hb e=>?_⟩);have b1:b≠s.heap.objs.size:=B6 hb
     have b2:b≠(s.heap.push (Ja9 (!byT w))).objs.size:=by
      rw[Heap.size_push];exact B6 (C6 hb)
     exact hm.heap b o (by simp only[Ax,A7,List.not_mem_nil,or_false,not_or];exact⟨b1,b2⟩) (A4 _ (A4 _ e))
   .cases r₂ with
    | error e=>exact hr₂
    | ok fl₂=>
     cases fl₂ with
     | ret r=>
      obtain⟨rfl,h',tk,rfl,G',hk'⟩ :=hr₂
      repeat (any_goals (first|assumption|wp_step))
      exact q _ _ G' hk'
     | _=>exact hr₂.elim
  | _=>exact hr.elim
end
end L2
namespace L2
open PySem PySem.Spec PyProof.Rows
theorem Jik:Manifest.owners.lookup (String.ofList "rotareti_tes".toList.reverse)=some Manifest.sig_set_iterator:=by kernel_rfl
theorem JQ:Slot "set_iterator" "__next__" "set_iterator.__next__":=
 .of (owner:="set_iterator") (n:="__next__") (by rw[typeLookup_type,builtinLookup_eq_fast];kernel_rfl) (by decide +kernel) (by decide +kernel) (by decide +kernel) (by first|exact .inl (by decide +kernel)|exact .inr (by decide +kernel)) (by rw[isSubtype_type];kernel_rfl)
theorem Jat:entryFor table "set_iterator.__next__" = some Builtin.«set_iterator.__next__»:=entryFor_of_tree (by kernel_rfl)
theorem JaS(a:Value):argsOk "set_iterator.__next__" ⟨[a],[]⟩ :=by
 unfold argsOk;rw[signature?_of (id:="set_iterator.__next__") (n:="__txen__".toList) (o:="rotareti_tes".toList) (by kernel_rfl) Jik]
 kernel_rfl
theorem JcR:Slot "set_iterator" "__iter__" "set_iterator.__iter__":=
 .of (owner:="set_iterator") (n:="__iter__") (by rw[typeLookup_type,builtinLookup_eq_fast];kernel_rfl) (by decide +kernel) (by decide +kernel) (by decide +kernel) (by first|exact .inl (by decide +kernel)|exact .inr (by decide +kernel)) (by rw[isSubtype_type];kernel_rfl)
theorem JfN(a:Value):argsOk "set_iterator.__iter__" ⟨[a],[]⟩ :=by
 unfold argsOk;rw[signature?_of (id:="set_iterator.__iter__") (n:="__reti__".toList) (o:="rotareti_tes".toList) (by kernel_rfl) Jik]
 kernel_rfl
theorem JeR:entryFor table "set_iterator.__iter__" = some Builtin.«dict_keyiterator.__iter__»:=
 entryFor_alias (id':="dict_keyiterator.__iter__") (by kernel_rfl) (by first|rfl|decide +kernel|(unfold String.splitOn;simp +decide [String.splitOnAux])) (by decide +kernel) (by kernel_rfl)
theorem Jf1:entryFor table "set.__iter__" = some Builtin.«frozenset.__iter__»:=
 entryFor_alias (id':="frozenset.__iter__") (by kernel_rfl) (by first|rfl|decide +kernel|(unfold String.splitOn;simp +decide [String.splitOnAux])) (by decide +kernel) (by kernel_rfl)
noncomputable abbrev itO(first:Value)(i:Int)(a:Addr)(n ep:Nat):Obj:={ cls:=.type "set_iterator",dict:=none,data:=.fields #[first,rawInt i,.ref a,rawInt n,rawInt ep],slots:=#[] }
noncomputable abbrev Jne(es:Array (Int×Value))(ep:Nat)(t:SetTable):Obj:={ cls:=.type "set",dict:=none,data:=.set es ep t,slots:=#[] }
section
variable {prog:Program} {w:World} {A:Around} {E:Value→Shared→Prop} {s:Shared}
theorem JgD{I a:Addr}{first:Value}{i:Int}{n ep:Nat}{Q:VS}(g:s.heap.get? I=some (itO first i a n ep))(h:Q (.ref I) s):wpAny (model prog w) A (pyIter (.ref I)) Q E s:=by
 have hT:s.TypeIs (.ref I) "set_iterator":=⟨_,g,rfl⟩;refine wpAny_pyIter_slot hT JcR (C5 JcR hT JeR ?_ (JfN _));show wpAny _ _ (ret (.ref I)) _ _ s;exact A9 ⟨_,rfl, "set_iterator",_,hT,JQ.lookup,h⟩
noncomputable def JeH(xs:Array Nat):Nat->Nat
 | 0=>0
 | i+1=>xs.getD i 0+1
theorem Jks{xs:Array Nat}(h:Up xs.toList){i:Nat}(hi:i<=xs.size):SetTable.below xs (JeH xs i)=i:=by
 obtain⟨b0,b1,b2⟩ :=Jgp h (JeH xs i)
 have gt:∀j,j<xs.size->xs[j]?=some (xs.getD j 0):=fun j hj=>by
  rw[Array.getElem?_eq_getElem hj];simp[Array.getD,hj]
 rcases Nat.lt_trichotomy (SetTable.below xs (JeH xs i)) i with c|c|c
 .exfalso
  cases i with
  | zero=>omega
  | succ j=>
   have h1:=b2 j _ (by omega) (gt j (by omega));have:JeH xs (j+1)=xs.getD j 0+1:=rfl;omega
 .exact c
 .exfalso
  have h1:=b1 i _ c (gt i (by omega))
  cases i with
  | zero=>simp[JeH]at h1
  | succ j=>
   have h2:=Jke h (Nat.lt_succ_self j) (x:=xs.getD j 0) (y:=xs.getD (j+1) 0) (by rw[<- gt j (by omega)];simp) (by rw[<- gt (j+1) (by omega)];simp);have:JeH xs (j+1)=xs.getD j 0+1:=rfl;omega
end
end L2
namespace L2
open PySem PySem.Spec PyProof.Rows
section
variable {prog:Program} {w:World} {A:Around} {E:Value→Shared→Prop} {s:Shared}
theorem JbP{M:Model}{I a:Addr}{first:Value}{i:Int}{n ep:Nat}{Q:Array Value->Shared->Prop}(g:s.heap.get? I=some (itO first i a n ep))(h:Q #[first,rawInt i,.ref a,rawInt n,rawInt ep] s) :
  wpAny M A (fieldsOf (.ref I)) Q E s:=by
 unfold fieldsOf;exact A0 (wpAny_load g (A9 h))
theorem Jkz{I a:Addr}{slot i nxt n ep:Nat}{es:Array (Int×Value)}{t:SetTable}{x:Value}{Q:Option Value->Shared->Prop}(g:s.heap.get? I=some (itO (rawInt slot) i a n ep))(gs:s.heap.get? a=some (Jne es ep t))
  (ft:t.fits es.size=true) (hn:es.size=n) (hs:∀(E':VS) (Q':Option (Value×Nat)->Shared->Prop),Q' (some (x,nxt)) s->wpAny (model prog w) A.in1 (setNext a slot i ep) Q' E' s)
  (q:∀h',h'.get? I=some (itO (rawInt nxt) ((i+1:Nat):Int) a n ep)->Heap.SameBut I s.heap h'->Q (some x) { s with heap:=h' }):wpAny (model prog w) A (pyNext (.ref I)) Q E s:=by
 have hT:s.TypeIs (.ref I) "set_iterator":=⟨_,g,rfl⟩;unfold pyNext;refine A0 (wpAny_attempt (wpAny_callSpecial?_slot (name:=Str.ofString "__next__") hT JQ (C5 JQ hT Jat ?_ (JaS _))));unfold Builtin.«set_iterator.__next__»;refine A0 (A9 ?_);refine A0 (JbP g ?_);show wpAny _ A.in1 (setEntries a >>= _) _ _ s;refine A0 (wpAny_setEntries_of gs rfl ft ?_);dsimp only;rw[if_neg (by rw[hn];simp)];show wpAny _ A.in1 (setNext a slot i ep >>= _) _ _ s;refine A0 (hs _ _ ?_);dsimp only;refine A0 (wpAny_setField_rec g (by simp) fun h1 e1 b1=>?_);refine A0 (wpAny_setField_rec e1 (by simp) fun h2 e2 b2=>?_);exact A9 ⟨_,rfl,A9 (q h2 e2 (b1.trans b2))⟩
theorem Jm0{I a:Addr}{slot i n ep:Nat}{es:Array (Int×Value)}{t:SetTable}{Q:Option Value->Shared->Prop}(hh:A.handled=none)(g:s.heap.get? I=some (itO (rawInt slot) i a n ep))(gs:s.heap.get? a=some (Jne es ep t))
  (ft:t.fits es.size=true) (hn:es.size=n) (hs:∀(E':VS) (Q':Option (Value×Nat)->Shared->Prop),Q' none s->wpAny (model prog w) A.in1 (setNext a slot i ep) Q' E' s)
  (q:∀h',Heap.ExtBut I s.heap h'->Q none { s with heap:=h' }):wpAny (model prog w) A (pyNext (.ref I)) Q E s:=by
 have hT:s.TypeIs (.ref I) "set_iterator":=⟨_,g,rfl⟩;unfold pyNext;refine A0 (wpAny_attempt (wpAny_callSpecial?_slot (name:=Str.ofString "__next__") hT JQ (C5 JQ hT Jat ?_ (JaS _))));unfold Builtin.«set_iterator.__next__»;refine A0 (A9 ?_);refine A0 (JbP g ?_);show wpAny _ A.in1 (setEntries a >>= _) _ _ s;refine A0 (wpAny_setEntries_of gs rfl ft ?_);dsimp only;rw[if_neg (by rw[hn];simp)];show wpAny _ A.in1 (setNext a slot i ep >>= _) _ _ s;refine A0 (hs _ _ ?_);dsimp only;refine A0 (wpAny_setField_rec g (by simp) fun h1 e1 b1=>?_);refine A0 ?_;simp only[newExc,newTuple];refine A0 (C4 ?_ (by size_fits));refine A0 (m:=firstArgMember _ _) (wpAny_of_eq (a:=Value.none) (by first|rfl|(simp only[firstArgMember];rfl)) ?_)
 refine C4 ?_ (by size_fits);simp only[raiseNew];refine A0 (wpAny_handled ?_);rw[show A.in1.handled=none from hh];refine A0 (A9 (wpAny_throw ?_));refine A0 (wpAny_isInstance (T:="StopIteration") (b:=true) ⟨_,Aw _ rfl,rfl⟩ isSubtype_stop ?_);exact A9 (q _ ((b1.extBut.push _).push _))
end
end L2
namespace L2
open PySem PySem.Spec PyProof.Rows
theorem Jgn{α:Type}{l:List α}{k:Nat}{x:α}(h:l[k]?=some x):(x::l.eraseIdx k).Perm l:=by
 obtain⟨h1,h2⟩ :=A6.mp h;rw[List.eraseIdx_eq_take_drop_succ,<- h2]
 have e:l.take k++l[k]::l.drop (k+1)=l:=by rw[<- List.drop_eq_getElem_cons h1,List.take_append_drop]
 exact(List.perm_middle.symm).trans (by rw[e])
theorem Jh7{α:Type}(next:Nat->Nat):∀(fuel k:Nat)(left:List α)(out:Array α),left.length=fuel->(pickOrder.go next fuel k left out).toList.Perm (out.toList++left)
 | 0,k,left,out,h=>by
  have:left=[]:=List.length_eq_zero_iff.mp h;subst this;simp[pickOrder.go]
 | fuel+1,k,left,out,h=>by
  unfold pickOrder.go;have hl:next k%left.length<left.length:=Nat.mod_lt _ (by omega);rw[A3 hl];dsimp only;have e:=A3 hl;refine(Jh7 next fuel (k+1) _ _ (by rw[List.length_eraseIdx_of_lt hl];omega)).trans ?_;rw[Array.toList_push,List.append_assoc];exact List.Perm.append_left _ (Jgn e)
theorem Jf4{α:Type}(next:Nat->Nat)(xs:Array α):(pickOrder next xs).toList.Perm xs.toList:=by
 unfold pickOrder;have:=Jh7 next xs.size 0 xs.toList #[] (by simp);simpa using this
section
variable {prog:Program} {w:World} {A:Around} {E:Value→Shared→Prop} {s:Shared} {a:Addr} {es:Array (Int×Value)} {ep:Nat} {t:SetTable}
theorem Jc8{Q:Bool->Shared->Prop}(h:Q (byT w) s):wpAny (model prog w) A setsByText Q E s:=by
 unfold setsByText;exact A0 (wpAny_askSetting (A9 h))
noncomputable def Jrr(w:World)(a:Addr)(ep:Nat)(es:Array (Int×Value)):Array (Int×Value):=pickOrder (w.params.setOrder a ep) es
theorem Jiw(gs:s.heap.get? a=some (Jne es ep t))(ft:t.fits es.size=true)(hb:byT w=true){slot i:Nat}{Q:Option (Value×Nat)->Shared->Prop}(q:Q (((Jrr w a ep es)[i]?).map fun e=>(e.2,slot)) s) :
  wpAny (model prog w) A (setNext a slot i ep) Q E s:=by
 unfold setNext;refine A0 (wpAny_setState_of gs rfl ft ?_);dsimp only;refine A0 (Jc8 ?_);rw[hb,if_pos rfl,if_neg (by simp)];unfold setWalk;refine A0 ?_;refine A0 (wpAny_setState_of gs rfl ft ?_);dsimp only;refine A0 (Jc8 ?_);rw[hb,if_pos rfl];refine A0 (wpAny_askSetting (A9 ?_));exact A9 q
noncomputable def dr(es:Array (Int×Value))(t:SetTable):Bool:=!t.plain&&decide (es.size>1)
theorem JhT(gs:s.heap.get? a=some (Jne es ep t))(ft:t.fits es.size=true)(hb:byT w=false)(hd:dr es t=false)(hl:t.led=true){slot i:Nat}{Q:Option (Value×Nat)->Shared->Prop}
  (q:Q (match es[SetTable.below t.place slot]?,t.place[SetTable.below t.place slot]? with|some (_,x),some j=>some (x,j+1)|_,_=>none) s):wpAny (model prog w) A (setNext a slot i ep) Q E s:=by
 unfold setNext;refine A0 (wpAny_setState_of gs rfl ft ?_);dsimp only;refine A0 (Jc8 ?_);rw[hb,if_neg (by simp)];show wpAny _ _ (if dr es t=true then _ else _) _ _ s;rw[hd,if_neg (by simp)];refine A0 ?_;show wpAny _ _ (if(!t.led&&!es.isEmpty)=true then _ else _) _ _ s;rw[hl,if_neg (by simp)];exact A9 (A9 q)
end
end L2
namespace L2
open PySem PySem.Spec PyProof.Rows
section
variable {prog:Program} {w:World} {A:Around} {E:Value→Shared→Prop} {s:Shared} {a:Addr} {es:Array (Int×Value)} {ep:Nat} {t:SetTable}
theorem Ji3{I T:Addr}{i n pl:Nat}{x:Value}{h0:Int}{ps:Array Value}{tn:Nat}{Q:Option Value->Shared->Prop}(g:s.heap.get? I=some (itO (.ref T) i a n ep))(gs:s.heap.get? a=some (Jne es ep t))
  (gt:s.heap.get? T=some { cls:=.type "tuple",data:=.seq ps tn }) (ft:t.fits es.size=true) (hn:es.size=n) (hp:ps[i]?=some (rawInt pl)) (he:es[pl]?=some (h0,x))
  (q:∀h',h'.get? I=some (itO (.ref T) ((i+1:Nat):Int) a n ep)->Heap.SameBut I s.heap h'->Q (some x) { s with heap:=h' }):wpAny (model prog w) A (pyNext (.ref I)) Q E s:=by
 have hT:s.TypeIs (.ref I) "set_iterator":=⟨_,g,rfl⟩;unfold pyNext;refine A0 (wpAny_attempt (wpAny_callSpecial?_slot (name:=Str.ofString "__next__") hT JQ (C5 JQ hT Jat ?_ (JaS _))));unfold Builtin.«set_iterator.__next__»;refine A0 (A9 ?_);refine A0 (JbP g ?_);show wpAny _ A.in1 (setEntries a >>= _) _ _ s;refine A0 (wpAny_setEntries_of gs rfl ft ?_);dsimp only;rw[if_neg (by rw[hn];simp)];refine A0 (wpAny_seqItems gt rfl ?_);dsimp only;rw[show(i:Int).toNat=i from rfl,hp];refine A0 ?_;show wpAny _ A.in1 (setNextDrawn a pl ep) _ _ s;unfold setNextDrawn;refine A0 (wpAny_setState_of gs rfl ft ?_);dsimp only;rw[if_neg (by simp),he];refine A9 ?_;refine A0 (wpAny_setField_rec g (by simp) fun h1 e1 b1=>?_);exact A9 ⟨_,rfl,A9 (q h1 e1 b1)⟩
theorem JkD{I T:Addr}{i n:Nat}{ps:Array Value}{tn:Nat}{Q:Option Value->Shared->Prop}(hh:A.handled=none)(g:s.heap.get? I=some (itO (.ref T) i a n ep))(gs:s.heap.get? a=some (Jne es ep t))
  (gt:s.heap.get? T=some { cls:=.type "tuple",data:=.seq ps tn }) (ft:t.fits es.size=true) (hn:es.size=n) (hp:ps[i]?=none)
  (q:∀h',Heap.ExtBut I s.heap h'->Q none { s with heap:=h' }):wpAny (model prog w) A (pyNext (.ref I)) Q E s:=by
 have hT:s.TypeIs (.ref I) "set_iterator":=⟨_,g,rfl⟩;unfold pyNext;refine A0 (wpAny_attempt (wpAny_callSpecial?_slot (name:=Str.ofString "__next__") hT JQ (C5 JQ hT Jat ?_ (JaS _))));unfold Builtin.«set_iterator.__next__»;refine A0 (A9 ?_);refine A0 (JbP g ?_);show wpAny _ A.in1 (setEntries a >>= _) _ _ s;refine A0 (wpAny_setEntries_of gs rfl ft ?_);dsimp only;rw[if_neg (by rw[hn];simp)];refine A0 (wpAny_seqItems gt rfl ?_);dsimp only;rw[show(i:Int).toNat=i from rfl,hp];dsimp only;refine A0 (wpAny_setField_rec g (by simp) fun h0 e0 b0=>?_);refine A0 (wpAny_setField_rec e0 (by simp) fun h1 e1 b1=>?_);refine A0 ?_;simp only[newExc,newTuple];refine A0 (C4 ?_ (by size_fits));refine A0 (m:=firstArgMember _ _) (wpAny_of_eq (a:=Value.none) (by first|rfl|(simp only[firstArgMember];rfl)) ?_)
 refine C4 ?_ (by size_fits);simp only[raiseNew];refine A0 (wpAny_handled ?_);rw[show A.in1.handled=none from hh];refine A0 (A9 (wpAny_throw ?_));refine A0 (wpAny_isInstance (T:="StopIteration") (b:=true) ⟨_,Aw _ rfl,rfl⟩ isSubtype_stop ?_);exact A9 (q _ (((b0.trans b1).extBut.push _).push _))
theorem JlD{α:Type}:∀(n:Nat)(xs:List α)(s:Shared)(Q:List α->Shared->Prop),xs.length=n->(∀ys d,ys.Perm xs->Q ys { s with drawn:=d })->wpAny (model prog w) A (drawOrder n xs) Q E s:=by
 intro n
 induction n with
 | zero=>
  intro xs s Q h q;have:xs=[]:=List.length_eq_zero_iff.mp h;subst this;exact A9 (q [] s.drawn (.refl _))
 | succ n ih=>
  intro xs s Q h q
  cases xs with
  | nil=>cases h
  | cons x r=>
   unfold drawOrder;refine A0 ?_;intro Γ p hΓ;unfold choose;rw[Sem.wp_choose];refine⟨by simp,?_⟩;refine(show wpAny (model prog w) A (Sem.pure _) _ E _ from A9 ?_) Γ p hΓ;generalize hk:(model prog w).w.draws Source.order (s.drawn.get Source.order)%(x::r).length=k
   have hl:k<(x::r).length:=by
    rw[<- hk];exact Nat.mod_lt _ (by simp)
   rw[A3 hl];dsimp only;refine A0 (ih _ _ _ (by rw[List.length_eraseIdx_of_lt hl];simp at h ⊢;omega) fun ys d p=>?_);refine A9 ?_;have:=q ((x::r)[k]::ys) d ((p.cons _).trans (Jgn (A3 hl)));exact this
end
end L2
namespace L2
open PySem PySem.Spec PyProof.Rows
section
variable {prog:Program} {w:World} {A:Around} {E:Value→Shared→Prop} {s:Shared} {a:Addr} {es:Array (Int×Value)} {ep:Nat} {t:SetTable}
theorem JfV(hh:A.handled=none){I:Addr}(ne:a≠I)(ft:t.fits es.size=true)(sl:Nat->Nat)(ord:List Value)(hl:ord.length=es.size)
  (nx:∀(s:Shared)(i:Nat)(E':VS) (Q':Option (Value×Nat)->Shared->Prop),s.heap.get? a=some (Jne es ep t)->i<=es.size->Q' ((ord[i]?).map fun x=>(x,sl (i+1))) s->wpAny (model prog w) A.in1 (setNext a (sl i) i ep) Q' E' s) :
  Walks prog w A I [I,a] [I] ord.length (fun i v=>ord[i]?=some v) (fun i h=>h.get? I=some (itO (rawInt (sl i)) (i:Nat) a es.size ep)/\h.get? a=some (Jne es ep t)) where
 sub:=fun b hb=>by
  simp at hb;simp[hb]
 frame:=fun _ _ _ st k=>⟨k I (by simp) _ st.1,k a (by simp) _ st.2⟩
 item:=fun i s Q E hi st q=>by
  obtain⟨x,hx⟩:∃x,ord[i]?=some x:=⟨ord[i],A3 hi⟩;refine Jkz (x:=x) (nxt:=sl (i+1)) st.1 st.2 ft rfl (fun E' Q' z=>nx s i E' Q' st.2 (by omega) (by rw[hx];exact z)) fun h' e' b'=>?_;exact q x h' s.toks hx ⟨e',(b'.2 a ne).trans st.2⟩ fun b o hb z=>(b'.2 b (fun y=>hb (by simp[y]))).trans z
 done:=fun s Q E st q=>Jm0 hh st.1 st.2 ft rfl (fun E' Q' z=>nx s _ E' Q' st.2 (by omega) (by rw[Cz (A5 _)];exact z)) fun h' e'=>q h' s.toks fun b o hb z=>e' b o (fun y=>hb (by simp[y])) z
 self:=fun _ _ _ _ st q=>JgD st.1 q
theorem JiX(hh:A.handled=none){I T:Addr}(ne:a≠I)(nt:T≠I)(ft:t.fits es.size=true)(pl:List Nat)(tn:Nat)(hl:pl.length=es.size)(hp:∀k∈pl,k<es.size) :
  Walks prog w A I [I,a,T] [I] (pl.map fun k=>(es.getD k (0,.none)).2).length (fun i v=>(pl.map fun k=>(es.getD k (0,.none)).2)[i]?=some v) (fun i h=>h.get? I=some (itO (.ref T) (i:Nat) a es.size ep)/\h.get? a=some (Jne es ep t)/\h.get? T=some { cls:=.type "tuple",data:=.seq (pl.map fun(k:Nat)=>rawInt (k:Int)).toArray tn }) where
 sub:=fun b hb=>by
  simp at hb;simp[hb]
 frame:=fun _ _ _ st k=>⟨k I (by simp) _ st.1,k a (by simp) _ st.2.1,k T (by simp) _ st.2.2⟩
 item:=fun i s Q E hi st q=>by
  have hi':i<pl.length:=by simpa using hi
  have hk:pl[i]<es.size:=hp _ (List.getElem_mem hi');refine Ji3 (pl:=pl[i]) (x:=(es.getD pl[i] (0,.none)).2) (h0:=(es.getD pl[i] (0,.none)).1) st.1 st.2.1 st.2.2 ft rfl (by simp[hi']) (by simp[Array.getD,hk]) fun h' e' b'=>?_;exact q _ h' s.toks (by simp[hi']) ⟨e',(b'.2 a ne).trans st.2.1,(b'.2 T nt).trans st.2.2⟩ fun b o hb z=>(b'.2 b (fun y=>hb (by simp[y]))).trans z
 done:=fun s Q E st q=>JkD hh st.1 st.2.1 st.2.2 ft rfl (by simp) fun h' e'=>q h' s.toks fun b o hb z=>e' b o (fun y=>hb (by simp[y])) z
 self:=fun _ _ _ _ st q=>JgD st.1 q
theorem JnP(hh:A.handled=none)(gs:s.heap.get? a=some (Jne es ep t))(ft:t.fits es.size=true)(tb:Jcw t (!byT w))(hz:es.size<=B2){Q:VS}
  (q:∀(h':Heap)(d:Drawn)(I:Addr)(fp:List Addr)(ord:List Value)(St:Nat->Heap->Prop),(∀b o,s.heap.get? b=some o->h'.get? b=some o)->s.heap.objs.size<=I->(∀b∈fp,b=a\/s.heap.objs.size<=b)->(∀b∈fp,b<h'.objs.size)->
   ord.Perm (es.toList.map (·.2))->Walks prog w A I fp [I] ord.length (fun i v=>ord[i]?=some v) St->St 0 h'->Q (.ref I) { s with heap:=h',drawn:=d }):wpAny (model prog w) A (pyIter (.ref a)) Q E s:=by
 have hT:s.TypeIs (.ref a) "set":=⟨_,gs,rfl⟩;have la:a<s.heap.objs.size:=B3 gs;refine wpAny_pyIter_slot hT PySem.F.slot_set_iter (C5 PySem.F.slot_set_iter hT Jf1 ?_ (PySem.F.args_set_iter_1 _));unfold Builtin.«frozenset.__iter__» Builtin.Frozenset.slot0;refine A0 (A0 (A9 (A9 ?_)));refine A0 ?_;unfold Builtin.Frozenset.sizeOf;refine A0 (wpAny_setEntries_of gs rfl ft (A9 ?_));refine A0 ?_;unfold setDrawn;refine A0 (wpAny_setState_of gs rfl ft ?_);dsimp only;refine A0 (Jc8 ?_);show wpAny _ _ (pure (!byT w&&dr es t)) _ _ s;refine A9 ?_
 by_cases hd:(!byT w&&dr es t)=true
 .rw[if_pos hd];refine A0 (JlD es.size (List.range es.size) s _ Cj fun ys d p=>?_);refine A0 ?_;refine wpAny_newTuple ?_ (by rw[A2,p.length_eq,Cj];exact hz);have gs1:=A4 { cls:=.type "tuple",data:=.seq (ys.map fun(k:Nat)=>rawInt (k:Int)).toArray } gs;refine A0 (wpAny_setEpoch_of gs1 rfl ft ?_);refine A0 (C4 ?_ (by size_fits));refine A9 ⟨_,rfl, "set_iterator",_,⟨_,Aw _ rfl,rfl⟩,JQ.lookup,?_⟩;have e1:(s.heap.push { cls:=.type "tuple",data:=.seq (ys.map fun(k:Nat)=>rawInt (k:Int)).toArray }).objs.size=s.heap.objs.size+1:=Heap.size_push _ _;have hpl:∀k∈ys,k<es.size:=fun k hk=>List.mem_range.mp (p.mem_iff.mp hk)
  have hyl:ys.length=es.size:=by rw[p.length_eq,Cj]
  have W:=JiX (prog:=prog) (w:=w) (A:=A) (I:=s.heap.objs.size+1) (T:=s.heap.objs.size) (ep:=ep) (t:=t) hh (B6 (C6 la)) (B6 (Nat.lt_succ_self _)) ft ys 0 hyl hpl
  have e0:∀P:Addr->Prop,P (s.heap.objs.size+1)->P (s.heap.push { cls:=.type "tuple",data:=.seq (ys.map fun(k:Nat)=>rawInt (k:Int)).toArray }).objs.size:=fun P z=>by
   rw[e1];exact z
  refine e0 (fun I=>Q (.ref I) _) ?_;refine q _ d (s.heap.objs.size+1) _ _ _ (fun b o z=>A4 _ (A4 _ z)) (by omega) (fun b hb=>?_) (fun b hb=>?_) ?_ W ⟨?_,A4 _ gs1,A4 _ (Aw _ rfl)⟩
  .rcases Ax.mp hb with rfl|hb
   .exact .inr (Nat.le_succ _)
   .rcases Ax.mp hb with rfl|hb
    .exact .inl rfl
    .rw[A7.mp hb];exact .inr (A5 _)
  .rw[Heap.size_push,e1]
   rcases Ax.mp hb with rfl|hb
   .exact Nat.lt_succ_self _
   .rcases Ax.mp hb with rfl|hb
    .exact C6 (C6 la)
    .rw[A7.mp hb];exact C6 (Nat.lt_succ_self _)
  .have r:(ys.map fun k=>(es.getD k (0,.none)).2).Perm ((List.range es.size).map fun k=>(es.getD k (0,.none)).2):=p.map _;refine r.trans (List.Perm.of_eq ?_);refine List.ext_getElem (by simp) fun i h1 h2=>?_
   have:i<es.size:=by simpa using h1
   simp[Array.getD,this]
  .rw[<- e1];exact Aw _ rfl
 .rw[if_neg hd];refine A0 (A9 ?_);refine A0 (wpAny_setEpoch_of gs rfl ft ?_);refine A0 (C4 ?_ (by size_fits));refine A9 ⟨_,rfl, "set_iterator",_,⟨_,Aw _ rfl,rfl⟩,JQ.lookup,?_⟩;have ne:a≠s.heap.objs.size:=B6 la
  have lt2:∀(o:Obj),∀b∈[s.heap.objs.size,a],b<(s.heap.push o).objs.size:=fun o b hb=>by
   rw[Heap.size_push]
   rcases Ax.mp hb with rfl|hb
   .exact Nat.lt_succ_self _
   .rw[A7.mp hb];exact C6 la
  have fpo:∀b∈[s.heap.objs.size,a],b=a\/s.heap.objs.size<=b:=fun b hb=>by
   rcases Ax.mp hb with rfl|hb
   .exact .inr (A5 _)
   .exact .inl (A7.mp hb)
  cases hb:byT w with
  | true=>
   have pm:=(Jf4 (w.params.setOrder a ep) es).map (·.2)
   have W:=JfV (prog:=prog) (w:=w) (A:=A) (I:=s.heap.objs.size) (ep:=ep) (t:=t) hh ne ft (fun _=>0) ((Jrr w a ep es).toList.map (·.2)) (by rw[show((Jrr w a ep es).toList.map (·.2)).length=_ from pm.length_eq];simp) fun s' i E' Q' g' _ z=>Jiw g' ft hb (by
    rw[Aq]at z;rw[<- Array.getElem?_toList]
    cases h:(Jrr w a ep es).toList[i]? with
    | none=>rw[h]at z;exact z
    | some e=>rw[h]at z;exact z)
   exact q _ s.drawn s.heap.objs.size _ _ _ (fun b o z=>A4 _ z) (A5 _) fpo (lt2 _) pm W ⟨Aw _ rfl,A4 _ gs⟩
  | false=>
   have hd':dr es t=false:=by
    rw[hb]at hd;simpa using hd
   have hfs:t.place.size=es.size:=by
    simp only[SetTable.fits,Bool.and_eq_true,beq_iff_eq]at ft;exact ft.1
   have hup:Up t.place.toList:=by
    unfold dr at hd'
    cases hp:t.plain with
    | true=>exact tb.up hp
    | false=>
     rw[hp]at hd'
     have h1:es.size<=1:=by simpa using hd'
     have h2:t.place.toList.length<=1:=by simpa[hfs]using h1
     cases hl:t.place.toList with
     | nil=>exact List.Pairwise.nil
     | cons x r=>
      rw[hl]at h2;have:r=[]:=List.length_eq_zero_iff.mp (by simpa using h2);rw[this];exact List.pairwise_singleton _ _
   have hled:t.led=true:=by rw[tb.led,hb];rfl
   have W:=JfV (prog:=prog) (w:=w) (A:=A) (I:=s.heap.objs.size) (ep:=ep) (t:=t) hh ne ft (JeH t.place) (es.toList.map (·.2)) (by simp) fun s' i E' Q' g' hi z=>JhT g' ft hb hd' hled (by
    rw[Jks hup (by omega)]
    by_cases c:i<es.size
    .have e1:es[i]?=some es[i]:=Array.getElem?_eq_getElem c;have e2:t.place[i]?=some t.place[i]:=Array.getElem?_eq_getElem (by omega)
     have e3:(es.toList.map (·.2))[i]?=some es[i].2:=by simp[c]
     have e4:JeH t.place (i+1)=t.place[i]+1:=by
      show t.place.getD i 0+1=_;simp[Array.getD,show i<t.place.size by omega]
     rw[e3]at z;rw[e1,e2];rw[e4]at z;exact z
    .have e1:es[i]?=none:=Array.getElem?_eq_none (by omega)
     have e3:(es.toList.map (·.2))[i]?=none:=by simp;omega
     rw[e3]at z;rw[e1]
     exact z)
   exact q _ s.drawn s.heap.objs.size _ _ _ (fun b o z=>A4 _ z) (A5 _) fpo (lt2 _) (.refl _) W ⟨Aw _ rfl,A4 _ gs⟩
end
end L2
namespace L2
open PySem PySem.Spec PyProof.Rows
structure Src(prog:Program)(w:World)(T:String)(r:Addr)(P:List Value->Prop)(OK:Heap->Prop):Prop where
 ty:∀s:Shared,OK s.heap->s.TypeIs (.ref r) T
 lt:∀h:Heap,OK h->r<h.objs.size
 stay:∀h h':Heap,OK h->(∀o,h.get? r=some o->h'.get? r=some o)->OK h'
 nl:(Value.type T==Value.type "list")=false
 nt:(Value.type T==Value.type "tuple")=false
 hint:∀(A:Around)(E:VS)(s:Shared)(Q:Bool->Shared->Prop),OK s.heap->(∀k tk,s.toks<=tk->Q k { s with toks:=tk })->wpAny (model prog w) A (Builtin.List.listLengthHint (.ref r)) Q E s
 iter:∀(A:Around)(E:VS)(s:Shared)(Q:VS),A.handled=none->OK s.heap->
  (∀(h':Heap)(d:Drawn)(I:Addr)(fp:List Addr)(n:Nat)(P':Nat->Value->Prop)(St:Nat->Heap->Prop),(∀b o,s.heap.get? b=some o->h'.get? b=some o)->s.heap.objs.size<=I->(∀b∈fp,b=r\/s.heap.objs.size<=b)->
   n<=B2->(∀vs:List Value,vs.length=n->(∀j v,vs[j]?=some v->P' j v)->P vs)->Walks prog w A I fp [I] n P' St->St 0 h'->Q (.ref I) { s with heap:=h',drawn:=d })->wpAny (model prog w) A (pyIter (.ref r)) Q E s
section
variable {prog:Program} {w:World} {A:Around} {E:Value→Shared→Prop} {s:Shared} {T:String} {r:Addr} {P:List Value→Prop} {OK:Heap→Prop}
noncomputable abbrev JkY(xs:Array Value)(c:Nat):Obj:={ cls:=.type "list",dict:=none,data:=.seq xs c,slots:=#[] }
theorem Src.extend{R:Result->Shared->Prop}(K:Src prog w T r P OK)(hh:A.handled=none)(ok:OK s.heap)(S:Addr)(ne:S≠r)(res:Value)(c0:Nat)(gS:s.heap.get? S=some (JkY #[] c0))
  (q:∀h' tk d acc c',(∀b o,b≠S->s.heap.get? b=some o->h'.get? b=some o)->h'.get? S=some (JkY acc c')->P acc.toList->R (.ok (.ret res)) { s with heap:=h',toks:=tk,drawn:=d }) :
  wpAny (model prog w) A.in1 (Builtin.List.listExtendWith (.ref S) (.ref r) res) (fun fin s'=>match fin with|.done f=>R (.ok f) s'|.again c'=>c'.quiet=true/\codeAny (model prog w) A c' R s') (fun e s'=>R (.error e) s') s:=by
 unfold Builtin.List.listExtendWith;refine A0 (wpAny_typeOf (T:=T) (K.ty s ok) ?_)
 have h1:Builtin.List.listSameRef (.ref S) (.ref r)=false:=by simp[Builtin.List.listSameRef,ne]
 simp only[h1,K.nl,K.nt,Bool.or_false,Bool.false_eq_true,if_false];have lS:S<s.heap.objs.size:=B3 gS;refine A0 (K.iter A.in1 _ s _ hh ok fun h' d I fp n P' St kp lI hfp hn hP W st=>?_)
 have nf:S∉fp:=fun z=>by
  rcases hfp S z with y|y
  .exact ne y
  .exact absurd lS (Nat.not_lt.mpr y)
 have nI:S≠I:=fun z=>absurd lS (Nat.not_lt.mpr (by rw[z];exact lI));have gS1:=kp _ _ gS
 have fin:∀(h2:Heap)(c1 tk:Nat),St 0 h2->(∀b o,b≠S->s.heap.get? b=some o->h2.get? b=some o)->h2.get? S=some (JkY #[] c1)->codeAny (model prog w) A (.builtin "list.extend.loop" ⟨[.ref S,.ref I,res],[]⟩) R { s with heap:=h2,toks:=tk,drawn:=d }:=by
  intro h2 c1 tk st2 k2 g2;refine codeAny_extend_loopS W.toS hn S nf res n 0 _ #[] c1 rfl (Bz _) st2 g2 (ItemsOf.nil _) fun s' acc c' m g' ia=>?_;rw[Moved.eq_with m];refine q s'.heap s'.toks d acc c' (fun b o hb z=>m.heap b o (fun y=>?_) (k2 b o hb z)) g' (hP acc.toList (by rw[Array.length_toList];exact ia.1) fun j v e=>ia.2 j v (by rw[<- Array.getElem?_toList];exact e))
  rcases Ax.mp y with y|y
  .exact hb y
  .rw[A7.mp y]at z;exact absurd (B3 z) (Nat.not_lt.mpr lI)
 refine A0 (wpAny_holding (K.hint _ _ _ _ (K.stay _ _ ok fun o z=>kp _ _ z) fun k tk _=>?_));refine wpAny_ite_split (fun _=>?_) (fun _=>A9 ⟨plainId_quiet PySem.F.plain_extend_loop _,fin _ c0 tk st (fun b o _ z=>kp b o z) gS1⟩);refine A0 (wpAny_rule (A0 ?_));show wpAny _ _ (updateSeq S (·.push .none) >>= fun _=>updateSeq S (·.pop)) _ _ _;refine A0 (wpAny_updateSeq gS1 rfl ?_);have gS2:=Cw (Obj.mapSeq (·.push Value.none)) gS1 rfl;refine wpAny_updateSeq (hz:=by seq_fits) gS2 rfl ?_;have gS3:=Cw (Obj.mapSeq (·.pop)) gS2 rfl
 have oth:∀b,b≠S->((h'.update S (Obj.mapSeq (·.push Value.none))).update S (Obj.mapSeq (·.pop))).get? b=h'.get? b:=fun b hb=>
  (Heap.get?_update_other _ _ (Ne.symm hb)).trans (Heap.get?_update_other _ _ (Ne.symm hb))
 refine A9 ⟨plainId_quiet PySem.F.plain_extend_loop _,fin _ _ tk ?_ (fun b o hb z=>(oth b hb).trans (kp b o z)) gS3⟩;exact W.frame 0 _ _ st fun b hb o z=>(oth b (fun y=>nf (y ▸ hb))).trans z
theorem Src.collect{R:List Value->Shared->Prop}(K:Src prog w T r P OK)(hh:A.handled=none)(ok:OK s.heap)
  (q:∀(h':Heap)(tk:Nat)(d:Drawn)(vs:List Value),(∀b o,s.heap.get? b=some o->h'.get? b=some o)->s.heap.objs.size<h'.objs.size->P vs->R vs { s with heap:=h',toks:=tk,drawn:=d }):wpAny (model prog w) A (PySem.collect (.ref r)) R E s:=by
 have lr:=K.lt _ ok;unfold PySem.collect;refine A0 (wpAny_runValue (codeAny_builtin entry_proto_collect' ?_));rw[Around.under_plainId PySem.F.plain_proto_collect _];show wpAny _ A.in1 (newList [] >>= fun l=>again (.builtin "list.__iadd__" ⟨[l,.ref r],[]⟩)) _ _ s;refine A0 (C4 (A9 ⟨plainId_quiet PySem.F.plain_list_iadd _,codeAny_builtin entry_list_iadd' ?_⟩));rw[Around.under_plainId PySem.F.plain_list_iadd _];have gS:(s.heap.push { cls:=.type "list",data:=.seq ([]:List Value).toArray }).get? s.heap.objs.size=some (JkY #[] 0):=Aw _ rfl
 have go:=Src.extend (A:=A) (s:={ s with heap:=s.heap.push { cls:=.type "list",data:=.seq ([]:List Value).toArray } })
  (R:=fun(z:Result)(s':Shared)=>∃(h':Heap)(tk:Nat)(d:Drawn)(acc:Array Value)(c':Nat),z=.ok (.ret (.ref s.heap.objs.size))/\s'={ s with heap:=h',toks:=tk,drawn:=d }/\(∀b o,s.heap.get? b=some o->h'.get? b=some o)/\h'.get? s.heap.objs.size=some (JkY acc c')/\P acc.toList)
  K hh (K.stay _ _ ok fun o z=>A4 _ z) s.heap.objs.size (Nat.ne_of_gt lr) (.ref s.heap.objs.size) 0 gS
  (fun h' tk d acc c' k g p=>⟨h',tk,d,acc,c',rfl,rfl,fun b o z=>k b o (B6 (B3 z)) (A4 _ z),g,p⟩)
 refine wpAny_mono go (fun fin s' x=>?_) fun e s' x=>?_
 .cases fin with
  | done f=>
   obtain⟨h',tk,d,acc,c',e,rfl,k,g,p⟩ :=x;cases e;exact A0 (wpAny_load g (A9 (q h' tk d acc.toList k (B3 g) p)))
  | again c1=>
   refine⟨x.1,codeAny_mono x.2 fun z s2 y=>?_⟩;obtain⟨h',tk,d,acc,c',rfl,rfl,k,g,p⟩ :=y;exact A0 (wpAny_load g (A9 (q h' tk d acc.toList k (B3 g) p)))
 .obtain⟨_,_,_,_,_,e',_⟩ :=x;cases e'
theorem Src.sorted{Q:VS}(K:Src prog w T r P OK)(hh:A.handled=none)(ok:OK s.heap)(ns:List Int)(hp:∀vs,P vs->∃ms,IntsAre vs ms/\ms.Perm ns)(h64:ns.length<64)
  (q:∀(h':Heap)(tk:Nat)(d:Drawn)(D:Addr)(out:Array Value)(c:Nat)(rs:List Int),(∀b o,s.heap.get? b=some o->h'.get? b=some o)->s.heap.objs.size<=D->h'.get? D=some (JkY out c)->IntsAre out.toList rs->rs.Perm ns->rs.Pairwise (·<=·)->
   Q (.ref D) { s with heap:=h',toks:=tk,drawn:=d }):wpAny (model prog w) A (call (.builtin "sorted") [.ref r]) Q E s:=by
 refine Calls.call_function_entry kind_sorted plain_sorted entry_sorted (args_sorted1 _) ?_;unfold Builtin.«sorted»;refine A0 (m:=checkCount "sorted" 1 1 _) (A9 ?_);refine A0 (K.collect (A:=A.in1) hh ok fun h' tk d vs k ls p=>?_);obtain⟨ms,hi,pm⟩ :=hp vs p
 have hl:vs.length<64:=by rw[IntsAre.length hi,pm.length_eq];exact h64
 refine A0 (wpAny_newList ?_ (by rw[sizeLine_eq];omega));have gL:(h'.push { cls:=.type "list",data:=.seq vs.toArray }).get? h'.objs.size=some (seqObj "list" vs.toArray 0):=Aw _ rfl;refine A0 (wpAny_holding (C5 slot_list_sort ⟨_,gL,rfl⟩ entry_list_sort (list_sort_tree gL hi hl fun out rs a1 a2 a3=>⟨_,rfl,?_⟩) (args_list_sort _)));obtain⟨e,he⟩:∃e,(sortedHeap (h'.push { cls:=.type "list",data:=.seq vs.toArray }) h'.objs.size vs out).get? h'.objs.size=some (seqObj "list" out e):=sortedHeap_at gL;refine A9 ⟨_,rfl,q _ tk d h'.objs.size out e rs (fun b o z=>?_) ?_ he a1 (a2.trans pm) a3⟩
 .have lb:b<h'.objs.size:=B3 (k b o z);rw[sortedHeap_old (B6 lb) (by rw[Heap.size_push];exact C6 lb)];exact A4 _ (k b o z)
 .exact Cq ls
theorem Src.list{Q:VS}(K:Src prog w T r P OK)(hh:A.handled=none)(ok:OK s.heap)
  (q:∀h' tk d acc c,(∀b o,s.heap.get? b=some o->h'.get? b=some o)->h'.get? s.heap.objs.size=some (JkY acc c)->P acc.toList->Q (.ref s.heap.objs.size) { s with heap:=h',toks:=tk,drawn:=d }) :
  wpAny (model prog w) A (call (.type "list") [.ref r]) Q E s:=by
 have lr:=K.lt _ ok;refine callType_codes (Q₁:=fun obj s₁=>obj=.ref s.heap.objs.size/\s₁={ s with heap:=s.heap.push (JkY #[] 0) }) PySem.F.called_list (PySem.F.typeCall_list_1 _) PySem.F.entry_list_init (code_list_new _ ⟨rfl,rfl⟩) fun ob s₁ e=>?_;obtain⟨rfl,rfl⟩ :=e;have gS:(s.heap.push (JkY #[] 0)).get? s.heap.objs.size=some (JkY #[] 0):=Aw _ rfl;refine⟨⟨_,gS,rfl⟩,PySem.F.args_list_init_2 _ _,?_⟩;show wpAny _ _ (do let old <- Builtin.List.listItems (.ref s.heap.objs.size);Builtin.List.listUpdate (.ref s.heap.objs.size) (fun _=>#[]);letGo old.toList.reverse;Builtin.List.listExtendWith (.ref s.heap.objs.size) (.ref r) .none) _ _ _;refine A0 ?_;unfold Builtin.List.listItems;refine A0 (wpAny_seqItems gS rfl (A9 ?_));refine A0 (wpAny_updateSeq gS rfl ?_);have gS2:=Cw (Obj.mapSeq (fun _=>(#[]:Array Value))) gS rfl;have oth:∀b o,b≠s.heap.objs.size->(s.heap.push (JkY #[] 0)).get? b=some o->((s.heap.push (JkY #[] 0)).update s.heap.objs.size (Obj.mapSeq (fun _=>(#[]:Array Value)))).get? b=some o:=fun b o hb z=>(Heap.get?_update_other _ _ (Ne.symm hb)).trans z;refine A0 (wpAny_letGo ?_);refine Src.extend (A:=A.in1) K hh (K.stay _ _ ok fun o z=>oth r o (B6 lr) (A4 _ z)) s.heap.objs.size (Nat.ne_of_gt lr) .none _ gS2 fun h' tk d acc c' k g p=>?_;exact⟨rfl,q h' tk d acc c' (fun b o z=>k b o (B6 (B3 z)) (oth b o (B6 (B3 z)) (A4 _ z))) g p⟩
theorem Jn2{Q:Bool->Shared->Prop}{a:Addr}(hT:s.TypeIs (.ref a) "set")(q:Q false s):wpAny (model prog w) A (Builtin.List.listLengthHint (.ref a)) Q E s:=by
 unfold Builtin.List.listLengthHint;refine A0 (wpAny_specialOf hT PySem.F.slot_set_len.lookup ?_);generalize hid:("set.__len__" : String)=id0
 wp_delta
 rw[show splitId id0=some ("set", "__len__") from by subst hid;decide +kernel];subst hid;refine A0 (wpAny_isInstance (T:="set") (b:=true) hT (by rw[isSubtype_type];kernel_rfl) ?_);refine wpAny_ite_split (fun z=>absurd z (by decide)) (fun _=>?_);refine wpAny_ite_split (fun _=>?_) (fun z=>absurd (by decide +kernel) z);exact A0 (wpAny_typeOf hT (A9 q))
theorem JpN{a:Addr}{ns:List Int}(hz:ns.length<=B2):Src prog w "set" a (fun vs=>∃ms,IntsAre vs ms/\ms.Perm ns) (fun h=>JkF prog w h a (!byT w) ns) where
 ty:=fun s G=>let ⟨_,_,_,_,g,_⟩ :=G.ex;⟨_,g,rfl⟩
 lt:=fun h G=>let ⟨_,_,_,_,g,_⟩ :=G.ex;B3 g
 stay:=fun h h' G k=>G.at k
 nl:=by decide
 nt:=by decide
 hint:=fun A E s Q G q=>by
  obtain⟨es,ep,t,ms,g,_⟩ :=G.ex;exact Jn2 ⟨_,g,rfl⟩ (q false s.toks (A5 _))
 iter:=fun A E s Q hh G q=>by
  obtain⟨es,ep,t,ms,g,en,pm,ft,tb⟩ :=G.ex;have e1:es.size=ns.length:=en.size.trans pm.length_eq;refine JnP hh g ft tb (by omega) fun h' d I fp ord St k lI hf _ po W st=>?_;refine q h' d I fp ord.length _ St k lI hf (by rw[po.length_eq,A2,Array.length_toList];omega) (fun vs hl hv=>?_) W st
  have e2:vs=ord:=List.ext_getElem? fun i=>by
   by_cases c:i<vs.length
   .have:=hv i vs[i] (A3 c);rw[this,A3 c]
   .rw[Cz (by omega),Cz (by omega)]
  subst e2;obtain⟨ks,hk,pk⟩ :=JhW po.symm en.ia;exact⟨ks,hk,pk.symm.trans pm⟩
theorem Jmv{r:Addr}{lo hi:Int}{t u v:Tok}(hz:(hi-lo).toNat<=2^24):Src prog w "range" r (fun vs=>IntsAre vs ((List.range (hi-lo).toNat).map fun(j:Nat)=>lo+(j:Int))) (fun h=>IsRange h r lo hi 1 t u v) where
 ty:=fun s G=>⟨_,G,rfl⟩
 lt:=fun h G=>B3 G
 stay:=fun h h' G k=>k _ G
 nl:=by decide
 nt:=by decide
 hint:=fun A E s Q G q=>by
  have e:Builtin.Range.rangeSize lo hi 1=((hi-lo).toNat:Nat):=by
   rw[rangeSize_one];split<;>omega
  exact wpAny_hint_range (n:=(hi-lo).toNat) G e hz (q _ _ (by omega))
 iter:=fun A E s Q hh G q=>by
  have e:Builtin.Range.rangeSize lo hi 1=((hi-lo).toNat:Nat):=by
   rw[rangeSize_one];split<;>omega
  have hP:∀vs:List Value,vs.length=(hi-lo).toNat->(∀(j:Nat)(x:Value),vs[j]?=some x->∃t,x=.int (lo+j*1) t)->IntsAre vs ((List.range (hi-lo).toNat).map fun(j:Nat)=>lo+(j:Int)):=by
   intro vs hl hv
   have gen:∀(vs:List Value)(f:Nat->Int),(∀(j:Nat)(x:Value),vs[j]?=some x->∃t,x=.int (f j) t)->IntsAre vs ((List.range vs.length).map f):=by
    intro vs
    induction vs with
    | nil=>intro f _;exact .nil
    | cons x l ih=>
     intro f h;obtain⟨t,rfl⟩ :=h 0 x rfl;rw[List.length_cons,List.range_succ_eq_map,List.map_cons,List.map_map];exact .cons _ t (ih (fun j=>f (j+1)) fun j y hy=>h (j+1) y (by simpa using hy))
   have:=gen vs (fun j=>lo+(j:Int)) fun j x hx=>by
    obtain⟨t,e⟩ :=hv j x hx;exact⟨t,by rw[e,Int.mul_one]⟩
   rw[hl]at this;exact this
  have hn:(hi-lo).toNat<=B2:=by rw[sizeLine_eq];omega
  cases hsm:Builtin.Range.small lo hi 1 with
  | true=>
   refine wpAny_pyIter_range G hsm ?_;refine q _ s.drawn s.heap.objs.size [s.heap.objs.size] (hi-lo).toNat _ _ (fun b o z=>A4 _ z) (A5 _) (fun b hb=>.inr (by rw[A7.mp hb];exact A5 _)) hn hP (Walks.range hh _ lo 1 _) ?_;show IsRangeIter _ _ _ _ _;rw[e];simpa using Aw _ rfl
  | false=>
   refine wpAny_pyIter_longrange G hsm ?_;refine q _ s.drawn s.heap.objs.size [s.heap.objs.size] (hi-lo).toNat _ _ (fun b o z=>A4 _ z) (A5 _) (fun b hb=>.inr (by rw[A7.mp hb];exact A5 _)) hn hP (Walks.longrange hh _ lo 1 _) ?_;show IsLongIter _ _ _ _ _;rw[e];simpa using Aw _ rfl
end
end L2
namespace L2
open PySem PySem.Spec PyProof.Rows
section
variable {X:Cx}
theorem Inv.draw{pins:PL}{σ:St}{H:Hp}{s:Shared}(I:Inv X pins σ H s)(d:Drawn):Inv X pins σ H { s with drawn:=d }:=⟨I.ok,I.os,I.bare,I.base,I.loc,I.cell,I.free,I.freeC,I.pin,I.hok,I.len⟩
theorem JdW:∀{us:List Value}{ns:List Int},IntsAre us ns->YZ (ns.map V.int) us
 | _,_,.nil=>.nil
 | _,_,.cons n t r=>.cons ⟨t,rfl⟩ (JdW r)
noncomputable def Jrc(P:Program)(w:World)(a:Addr)(ms:List Int):HO:=.ext fun h=>JkF P w h a (!byT w) ms
theorem JnC{P:Program}{w:World}{H:Hp}{h:Heap}{a:Addr}{ms:List Int}(G:JkF P w h a (!byT w) ms):Ym P w H h a (Jrc P w a ms):=
 ⟨G,let ⟨_,_,_,_,g,_⟩ :=G.ex;⟨_,g⟩,fun _ _ G1 k=>G1.at k⟩
def JqF(P:Program)(w:World)(a:Addr)(ms:List Int)(o:HO):Prop:=o=Jrc P w a ms
theorem JbY(val:Nat->Int):∀i,(firstMet val i).Nodup
 | 0=>List.nodup_nil
 | i+1=>by
  rw[firstMet_succ];unfold step_dedup;split
  .exact JbY val i
  .rename_i h;refine List.nodup_append.mpr ⟨JbY val i,by simp,fun a ha b hb=>?_⟩;rw[A7.mp hb];rintro rfl;exact h (List.any_eq_true.mpr ⟨_,ha,by simp⟩)
theorem Jgl(ns:List Int):(List.range ns.length).map (fun i=>ns.getD i 0)=ns:=by
 refine List.ext_getElem (by simp) fun i h1 h2=>?_;simp[h2]
theorem Jip(ns:List Int)(k:Int):k∈firstMet (fun i=>ns.getD i 0) ns.length↔k∈ns:=by
 have:=firstMet_any (fun i=>ns.getD i 0) ns.length k;rw[Jgl]at this
 have e:∀l:List Int,(l.any (·==k)=true)↔k∈l:=fun l=>by simp
 rw[<- e,<- e,this]
theorem Jiy(hc:X.calm=true):JbX X (.type "set") (fun xs H Q=>∃(p:Addr)(ns:List Int),xs=[.ref p]/\SqL X.K H p (ns.map V.int)/\ns.length+1<scanBound/\
  ∀(l:Addr)(ms:List Int)(o:HO),H l=none->JqF X.prog X.w l ms o->ms.Nodup->(∀k,k∈ms↔k∈ns)->Q (.ref l) (upd H l o)):=by
 intro pins s σ H xs us Q I r h;obtain⟨p,ns,rfl,hq,hl,q⟩ :=h;obtain⟨u,rfl,ru⟩ :=Jds r;cases ru;obtain⟨its,rv,pl,hz⟩ :=I.list hq;have hi:=Jbx rv
 have hlen:its.toArray.size=ns.length:=by rw[B0];exact IntsAre.length hi
 refine JmE (ns:=ns) (I.ok.hd hc) pl.isList (by simpa using hi) (by omega) fun h' tk G k=>?_;rw[hlen]at G;refine⟨.ref s.heap.objs.size,_,I.laid (t':=tk) (fun b o e=>k b o (B3 e) e) (A5 _) (JnC G),rfl,q _ _ _ (I.hok.fresh (A5 _)) rfl (JbY _ _) (Jip ns)⟩
theorem JeL(hc:X.calm=true):JbX X (.builtin "sorted") (fun xs H Q=>∃(p:Addr)(ms:List Int)(o:HO),xs=[.ref p]/\H p=some o/\JqF X.prog X.w p ms o/\ms.length<64/\
  ∀(l:Addr)(rs:List Int),H l=none->rs.Perm ms->rs.Pairwise (·<=·)->Q (.ref l) (upd H l (.lst (rs.map V.int)))):=by
 intro pins s σ H xs us Q I r h;obtain⟨p,ms,o,rfl,hp,rfl,hl,q⟩ :=h;obtain⟨u,rfl,ru⟩ :=Jds r;cases ru;have G:JkF X.prog X.w s.heap p (!byT X.w) ms:=(I.hok p _ hp).1;refine Src.sorted (JpN (by rw[sizeLine_eq];omega)) (I.ok.hd hc) G ms (fun vs z=>z) hl fun h' tk d D out c rs k lD gD ia pm so=>?_;refine⟨.ref D,_,(I.laid (t':=tk) k lD (show Ym X.prog X.w _ h' D (.lst (rs.map V.int)) from⟨?_,out.toList,c,JdW ia,gD⟩)).draw d,rfl,q D rs (I.hok.fresh lD) pm so⟩;rw[A2,pm.length_eq,sizeLine_eq];omega
theorem JfO:JbX X (.type "range") (fun xs H Q=>∃i j:Int,xs=[.int i,.int j]/\∀p,H p=none->Q (.ref p) (upd H p (.rng i j))):=by
 intro pins s σ H xs us Q I r h;obtain⟨i,j,rfl,q⟩ :=h;obtain⟨u,c,rfl,⟨t,rfl⟩,⟨t',rfl⟩⟩ :=Jja r;exact call_range_2 ⟨.ref s.heap.objs.size,_,I.laid (fun b o e=>A4 _ e) (A5 _) (show Ym X.prog X.w _ _ _ (.rng i j) from⟨_,_,_,Aw _ rfl⟩),rfl,q _ (I.hok.fresh (A5 _))⟩
noncomputable def Jct(lo hi:Int):List Int:=(List.range (hi-lo).toNat).map fun(j:Nat)=>lo+(j:Int)
theorem Jgh(hc:X.calm=true):JbX X (.type "list") (fun xs H Q=>∃(p:Addr)(lo hi:Int),xs=[.ref p]/\H p=some (.rng lo hi)/\(hi-lo).toNat<=2^24/\∀l,H l=none->Q (.ref l) (upd H l (.lst ((Jct lo hi).map V.int)))):=by
 intro pins s σ H xs us Q I r h;obtain⟨p,lo,hi,rfl,hp,hz,q⟩ :=h;obtain⟨u,rfl,ru⟩ :=Jds r;cases ru;obtain⟨t,u,v,g⟩ :=(show Ym X.prog X.w H s.heap p (.rng lo hi) from I.hok p _ hp);refine Src.list (Jmv (lo:=lo) (hi:=hi) hz) (I.ok.hd hc) g fun h' tk d acc c k gD ia=>?_;refine⟨.ref s.heap.objs.size,_,(I.laid (t':=tk) k (A5 _) (show Ym X.prog X.w _ h' _ (.lst ((Jct lo hi).map V.int)) from⟨?_,acc.toList,c,JdW ia,gD⟩)).draw d,rfl,q _ (I.hok.fresh (A5 _))⟩;rw[A2,Jct,A2,Cj,sizeLine_eq];omega
theorem Jem:OpR X (binaryOp .Mult) (fun x y H Q=>∃z n,x=.str z/\y=.int n/\MulOk z n/\Q (.str (Txt.mul z n)) H):=by
 intro pins s σ H x y v u Q I rx ry h;obtain⟨z,n,rfl,rfl,ok,q⟩ :=h;obtain⟨t,rfl⟩ :=rx;obtain⟨t',rfl⟩ :=ry;exact SB.mul ok fun t' k=>⟨.str _,H,I.tok k,⟨t',rfl⟩,q⟩
noncomputable def JsM(K:WF):R2:=fun x y H Q=>∃(a b:Addr)(ms ns:List Int),x=.ref a/\y=.ref b/\SqL K H a (ms.map V.int)/\SqL K H b (ns.map V.int)/\Q (.bl (!decide (ms=ns))) H
noncomputable def Jst(K:WF):R2:=fun x y H Q=>∃(a b:Addr)(ms ns:List Int),x=.ref a/\y=.ref b/\SqL K H a (ms.map V.int)/\SqL K H b (ns.map V.int)/\Q (.bl (decide (ms=ns))) H
theorem Jk5:∀{ms ns:List Int},ms.length=ns.length->((List.range ms.length).all fun j=>ms.getD j 0==ns.getD j 0)=decide (ms=ns):=by
 intro ms ns hl;rw[Bool.eq_iff_iff,List.all_eq_true,decide_eq_true_eq];constructor
 .intro h;refine List.ext_getElem hl fun i h1 h2=>?_;have:=h i (List.mem_range.mpr h1);simpa[h1,h2]using this
 .rintro rfl j _;simp
theorem JqC(hu:X.A.units+1<cLine):OpR X (compareOp .NotEq) (JsM X.K):=by
 intro pins s σ H x y v u Q I rx ry h;obtain⟨a,b,ms,ns,rfl,rfl,ha,hb,q⟩ :=h;cases rx;cases ry;obtain⟨its,rv,pl,_⟩ :=I.list ha;obtain⟨its2,rv2,pl2,_⟩ :=I.list hb;have i1:=Jbx rv;have i2:=Jbx rv2;have l1:=IntsAre.length i1;have l2:=IntsAre.length i2
 have hu':X.A.units<cLine:=by omega
 by_cases c:ms.length=ns.length
 .refine PySem.SeqAt.RcNeAt.lists (e:=fun j=>ms.getD j 0==ns.getD j 0) pl.isList pl2.isList (by rw[B0,B0,l1,l2,c]) hu' (fun j h1 h2=>?_) X.prog X.w _ _ ⟨.bl _,H,I,rfl,?_⟩
  .obtain⟨t1,e1⟩ :=PyProof.Rows.IntsAre.int_at i1 j its.toArray[j] (by simp);obtain⟨t2,e2⟩ :=PyProof.Rows.IntsAre.int_at i2 j its2.toArray[j] (by simp);rw[e1,e2];exact SeqAt.EqAt.int_int _ _ _ _
  .rw[B0,l1,Jk5 c];exact q
 .refine PySem.SeqAt.RcNeAt.lists_lengths pl.isList pl2.isList (by rw[B0,B0,l1,l2];simpa using c) hu' X.prog X.w _ _ ⟨.bl true,H,I,rfl,?_⟩
  have e:(!decide (ms=ns))=true:=by rw[decide_eq_false (fun z=>c (by rw[z]))];rfl
  rw[e]at q;exact q
theorem Jqc(hu:X.A.units+1<cLine):OpR X (compareOp .Eq) (Jst X.K):=by
 intro pins s σ H x y v u Q I rx ry h;obtain⟨a,b,ms,ns,rfl,rfl,ha,hb,q⟩ :=h;cases rx;cases ry;obtain⟨its,rv,pl,_⟩ :=I.list ha;obtain⟨its2,rv2,pl2,_⟩ :=I.list hb;have i1:=Jbx rv;have i2:=Jbx rv2;have l1:=IntsAre.length i1;have l2:=IntsAre.length i2
 have hu':X.A.units<cLine:=by omega
 by_cases c:ms.length=ns.length
 .refine PySem.SeqAt.RcAt.lists (e:=fun j=>ms.getD j 0==ns.getD j 0) pl.isList pl2.isList (by rw[B0,B0,l1,l2,c]) hu' (fun j h1 h2=>?_) X.prog X.w _ _ ⟨.bl _,H,I,rfl,?_⟩
  .obtain⟨t1,e1⟩ :=PyProof.Rows.IntsAre.int_at i1 j its.toArray[j] (by simp);obtain⟨t2,e2⟩ :=PyProof.Rows.IntsAre.int_at i2 j its2.toArray[j] (by simp);rw[e1,e2];exact SeqAt.EqAt.int_int _ _ _ _
  .rw[B0,l1,Jk5 c];exact q
 .refine PySem.SeqAt.RcAt.lists_lengths pl.isList pl2.isList (by rw[B0,B0,l1,l2];simpa using c) hu' X.prog X.w _ _ ⟨.bl false,H,I,rfl,?_⟩;rw[decide_eq_false (fun z=>c (by rw[z]))]at q;exact q
noncomputable def Jqy(K:WF):R2:=fun x y H Q=>∃(a b:Addr)(xs:List V),x=.ref a/\y=.ref b/\SqL K H a xs/\SqL K H b []/\Q (.bl xs.isEmpty) H
theorem JmX(hu:X.A.units+1<cLine):OpR X (compareOp .Eq) (Jqy X.K):=by
 intro pins s σ H x y v u Q I rx ry h;obtain⟨a,b,xs,rfl,rfl,ha,hb,q⟩ :=h;cases rx;cases ry;obtain⟨its,rv,pl,_⟩ :=I.list ha;obtain⟨its2,rv2,pl2,_⟩ :=I.list hb
 obtain rfl:its2=[]:=by
  cases rv2;rfl
 have hu':X.A.units<cLine:=by omega
 have hlen:=rv.length
 cases xs with
 | nil=>
  obtain rfl:its=[]:=by
   cases rv;rfl
  exact PySem.SeqAt.RcAt.lists (e:=fun _=>true) pl.isList pl2.isList rfl hu' (fun j h1 _=>by simp at h1) X.prog X.w _ _ ⟨.bl true,H,I,rfl,q⟩
 | cons x r=>
  refine PySem.SeqAt.RcAt.lists_lengths pl.isList pl2.isList ?_ hu' X.prog X.w _ _ ⟨.bl false,H,I,rfl,q⟩;rw[show its.toArray.size=(x::r).length by rw[B0,<- hlen]];rfl
end
theorem Jlf{P:Program}{w:World}{K:WF}{tg:Expr}(it:Addr)(lo:Int)(n:Nat):Jod P w K tg (Itr lo n) [it] it (fun i h=>IsLongIter h it (lo+(i:Nat)*1) ((n:Int)-(i:Nat)) 1) where
 mem:=by simp
 obj:=fun i h st b hb=>by
  obtain rfl:b=it:=by simpa using hb
  exact⟨_,st,fun v z=>by
   have z':Data.fields _=Data.cell v:=z
   cases z'⟩
 keep:=fun i h h' st k=>k it (by simp) _ st
 item:=by
  intro X hP hw hK hc i pins s σ H E I hf st hg;subst hP hw hK;obtain⟨f0,f1,f2,f3,f4,f5⟩ :=hf it (by simp);refine(Walks.longrange (prog:=X.prog) (w:=X.w) (I.ok.hd hc) it lo 1 n).item i s _ _ hg st fun v h' tk hv st' kk=>?_;obtain⟨t,rfl⟩ :=hv;have J:Inv X pins σ H { s with heap:=h',toks:=tk }:=I.turned (fun b o hb e=>kk b o (by simpa using hb) e) f0 f1 f3 f4 f5;refine⟨_,rfl,Jlx (s:={ s with heap:=h',toks:=tk }) (n:="longrange_iterator") st' rfl rfl (by decide) ⟨.int (lo+i),H,J,⟨t,?_⟩,⟨rfl,rfl⟩,st',fun b hb=>(hf b hb).1⟩⟩;rw[Int.mul_one]
 done:=by
  intro X hP hw hK hc i pins s σ H E I hf st hg;subst hP hw hK;obtain⟨f0,f1,f2,f3,f4,f5⟩ :=hf it (by simp);exact wpAny_pyNext_long_end (I.ok.hd hc) st (by have:n<=i:=hg;omega) fun h' eb=>⟨rfl,I.turned (t':=s.toks) (fun b o hb e=>eb b o hb e) f0 f1 f3 f4 f5⟩
 self:=fun _ _ _ _ _ st h=>wpAny_pyIter_longiter st h
section
variable {X:Cx} {tg:Expr}
theorem Jlm{pins:PL}{σ:St}{H:Hp}{s:Shared}{R:It->Hp->Prop}{E:VS}{lo hi:Int}{t u v:Tok}{tk:Nat}(I:Inv X pins σ H s)(q:R (Itr lo (hi-lo).toNat) H) :
  wpAny (model X.prog X.w) X.A (pyIter (.ref s.heap.objs.size)) (PIE X pins σ tg R) E { s with heap:=s.heap.push { cls:=.type "range",data:=.fields #[.int lo t,.int hi u,.int 1 v] },toks:=tk }:=by
 have I1:Inv X pins σ H { s with heap:=s.heap.push { cls:=.type "range",data:=.fields #[.int lo t,.int hi u,.int 1 v] },toks:=tk }:=I.kept fun b o e=>A4 _ e
 have e1:lo+((0:Nat):Int)*1=lo:=by simp
 have e2:(((hi-lo).toNat:Nat):Int)-((0:Nat):Int)=Builtin.Range.rangeSize lo hi 1:=by
  rw[rangeSize_one];split<;>omega
 have ff:∀b∈[(s.heap.push { cls:=.type "range",data:=.fields #[.int lo t,.int hi u,.int 1 v] }).objs.size],JkX X pins H b:=fun b hb=>by
  rw[A7.mp hb];exact I1.fpOk (A5 _) (I1.hok.fresh (A5 _))
 cases hs:Builtin.Range.small lo hi 1 with
 | true=>
  refine wpAny_pyIter_range (IsRange.new ..) hs ⟨_,_,_,_,H,rfl,I1.kept (t':=tk) fun b o e=>A4 _ e,Jgd _ lo (hi-lo).toNat,?_,ff,q⟩;show IsRangeIter _ _ (lo+((0:Nat):Int)*1) ((((hi-lo).toNat:Nat):Int)-((0:Nat):Int)) 1;rw[e1,e2];exact Aw _ rfl
 | false=>
  refine wpAny_pyIter_longrange (IsRange.new ..) hs ⟨_,_,_,_,H,rfl,I1.kept (t':=tk) fun b o e=>A4 _ e,Jlf _ lo (hi-lo).toNat,?_,ff,q⟩;show IsLongIter _ _ (lo+((0:Nat):Int)*1) ((((hi-lo).toNat:Nat):Int)-((0:Nat):Int)) 1;rw[e1,e2];exact Aw _ rfl
noncomputable def JrI(ta:TA):TI:=fun σ H R=>ta σ H fun vs H1=>∃i j:Int,vs=[.int i,.int j]/\R (Itr i (j-i).toNat) H1
theorem Jig{a b:Expr}{ta:TA}{p pos:Pos}(hg:Gl X "range")(hm:X.mg "range" = none)(ha:PA X [a,b] ta)(hs:starEach [a,b] X.env=[(false,eval a X.env),(false,eval b X.env)]:=by rfl)(hs2:starEach [b] X.env=[(false,eval b X.env)]:=by rfl) :
  PI X tg (.Call (.Name "range" p) [a,b] [] pos) (JrI ta):=by
 intro pins s σ H R I h;refine Call_ (Jgb I hg hm boot_range (PyProof.Rows.callWith_type1 (thn (ha pos pins s σ H _ I h) fun us s1 ⟨vs,H1,I1,r1,q1⟩ =>?_) (by rw[hs,hs2]) (by rw[hs2];rfl)));obtain⟨i,j,rfl,q⟩ :=q1;obtain⟨u,c,rfl,⟨t,rfl⟩,⟨t',rfl⟩⟩ :=Jja r1;exact call_range_2 (Jlm I1 q)
end
end L2
namespace Wb
open PySem PySem.Spec PyProof.Rows L2
theorem JfI:bootBuiltins "sorted" = some (.builtin "sorted"):=by decide +kernel
theorem JoI:bootBuiltins "set" = some (.type "set"):=by decide +kernel
theorem Jkb:bootBuiltins "range" = some (.type "range"):=by decide +kernel
noncomputable def YX(w:Int):Option Int->List Int->Option Int
 | b,[]=>b
 | none,p::r=>YX w (if p<=w then some p else none) r
 | some c,p::r=>YX w (if p<=w/\c<p then some p else some c) r
section
variable {α:Type}
noncomputable def Jax(ts:List (Int×α))(k:Int)(x:α):List (Int×α):=
 if(ts.any fun p=>decide (p.1=k))=true then ts.map (fun p=>if p.1=k then(p.1,x)else p)else ts++[(k,x)]
noncomputable def YB(ts:List (Int×α))(k:Int):Option α:=(ts.find? fun p=>decide (p.1=k)).map (·.2)
noncomputable def JeU(ts:List (Int×α))(w:Int):Option α:=(YX w none (ts.map (·.1))).bind (YB ts)
end
noncomputable abbrev Tab:=List Bd×Int×Int
inductive Y7 where
 | hours (who:Str) (day many:Int)
 | rate (week:Int) (bs:List Bd)
 | dues (month:Int) (t:Tab)
 | payday (who:Str) (week:Int)
 | pay (who:Str) (week:Int)
 | net (who:Str) (week:Int)
 | right (who:Str) (week:Int)
 | owing (who:Str) (week:Int)
 | paid (who:Str)
noncomputable def oD:Option Int->Dt
 | none=>.non
 | some i=>.int i
noncomputable def JeM(bs:List Bd):Dt:=.tup (bs.map fun b=>.tup [oD b.1,.int b.2])
noncomputable def JrH(t:Tab):Dt:=.tup [JeM t.1,.int t.2.1,.int t.2.2]
noncomputable def Jbi:Y7->Dt
 | .hours who day many=>.tup [.str "hours",.str who,.int day,.int many]
 | .rate week bs=>.tup [.str "rate",.int week,JeM bs]
 | .dues month t=>.tup [.str "dues",.int month,JrH t]
 | .payday who week=>.tup [.str "payday",.str who,.int week]
 | .pay who week=>.tup [.str "pay",.str who,.int week]
 | .net who week=>.tup [.str "net",.str who,.int week]
 | .right who week=>.tup [.str "right",.str who,.int week]
 | .owing who week=>.tup [.str "owing",.str who,.int week]
 | .paid who=>.tup [.str "paid",.str who]
noncomputable def wfb:Int->List Bd->Bool
 | _,[]=>false
 | _,(none,_)::r=>r.isEmpty
 | lo,(some u,_)::r=>decide (lo<u)&&wfb u r
theorem Jk9:∀{bs:List Bd}{lo:Int},wfb lo bs=true↔Wf lo bs
 | [],lo=>⟨(fun h=>nomatch h),(fun h=>h.elim)⟩
 | (none,e)::r,lo=>by
  show r.isEmpty=true↔r=[];exact List.isEmpty_iff
 | (some u,e)::r,lo=>by
  show(decide (lo<u)&&wfb u r)=true↔lo<u/\Wf u r;rw[Bool.and_eq_true,decide_eq_true_eq,Jk9]
noncomputable def Jbo(m:Option Int)(bs:List Bd):Bool:=wfb 0 bs&&bs.all fun b=>decide (0<=b.2)&&(match m with|none=>true|some k=>decide (b.2<=k))
noncomputable def Jd2(t:Tab):Bool:=Jbo (some 100) t.1&&decide (0<=t.2.1)&&decide (1<=t.2.2)
structure Bk where
 hrs:Str->Int->Int
 rates:List (Int×List Bd)
 dues:List (Int×Tab)
 paid:Str->Int
 last:Str->Option Int
 nets:Str->Int->Int
noncomputable def Bk.new:Bk:=⟨fun _ _=>0,[],[],fun _=>0,fun _=>none,fun _ _=>0⟩
noncomputable def Jhx(h:Int->Int)(week:Int):Int:=((List.range 7).map fun j:Nat=>h (7*week+j)).sum
noncomputable def wages(B:Bk)(who:Str)(week:Int):Int:=match JeU B.rates week with
 | none=>0
 | some bs=>lv (Jhx (B.hrs who) week) 0 bs
noncomputable def monthP(B:Bk)(who:Str)(month last:Int):Int:=((List.range 4).map fun j:Nat=>if 4*month+(j:Int)<=last then wages B who (4*month+j)else 0).sum
noncomputable def JdZ(pay:Int):Option Tab->Int
 | none=>pay
 | some t=>pay-due pay t.1 t.2.1 t.2.2
noncomputable def netS(B:Bk)(who:Str)(month last:Int):Int:=JdZ (monthP B who month last) (JeU B.dues month)
noncomputable def rightS(ms:List Int)(B:Bk)(who:Str)(last:Int):Int:=(ms.map fun m=>netS B who m last).sum
noncomputable def Jaj(ms:List Int)(B:Bk)(who:Str)(last:Int):II:=(ms.map fun m=>(m,netS B who m last-B.nets who m)).filter fun p=>decide (p.2≠0)
noncomputable def Jfl(f:Str->Int)(who:Str)(x:Int):Str->Int:=fun y=>if y=who then x else f y
noncomputable def early(B:Bk)(who:Str)(week:Int):Bool:=match B.last who with
 | none=>false
 | some l=>decide (week<l)
noncomputable def step(ms:List Int)(B:Bk):Y7->Dt×Bk
 | .hours who day many=>
  if 0<=many/\many<=24 then
   let B':={ B with hrs:=fun y d=>if y=who/\d=day then many else B.hrs y d }
   (.int (wages B' who (day/7)),B')
  else(.str "no hours",B)
 | .rate week bs=>if Jbo none bs=true then(.str "told",{ B with rates:=Jax B.rates week bs })else(.str "no table",B)
 | .dues month t=>if Jd2 t=true then(.str "told",{ B with dues:=Jax B.dues month t })else(.str "no table",B)
 | .payday who week=>
  if early B who week=true then(.str "too early",B)
  else
   let left:=rightS ms B who week-B.paid who
   (.tup [.int (mx 0 left),.int (mn 0 left),.lst ((Jaj ms B who week).map fun p=>.tup [.int p.1,.int p.2])],
    { B with paid:=Jfl B.paid who (B.paid who+mx 0 left),last:=fun y=>if y=who then some week else B.last y,nets:=fun y m=>if y=who then netS B who m week else B.nets y m })
 | .pay who week=>(.int (wages B who week),B)
 | .net who week=>(.int (netS B who (week/4) week),B)
 | .right who week=>(.int (rightS ms B who week),B)
 | .owing who week=>(.int (rightS ms B who week-B.paid who),B)
 | .paid who=>(.int (B.paid who),B)
structure Jbl(bs:List Bd):Prop where
 len:bs.length<=14
 each:∀b∈bs,b.2.natAbs<10^62
structure JpZ(t:Tab):Prop where
 bands:Jbl t.1
 per:t.2.2.natAbs<10^62
structure Jq1(B:Bk):Prop where
 hrs:∀who d,0<=B.hrs who d/\B.hrs who d<=24
 rates:∀p∈B.rates,Jbo none p.2=true/\Jbl p.2
 dues:∀p∈B.dues,Jd2 p.2=true/\JpZ p.2
structure Jr8(H:Hp)(n:Int)(a:Addr)(bs:List Bd):Prop where
 at_:JG H a bs
 wf:Wf 0 bs
 len:bs.length<=1000
 each:∀b∈bs,0<=b.2/\b.2<10^62
 n0:0<=n
 n1:n<10^102
structure Jsn(H:Hp)(t:Addr)(pay:Int)(bs:List Bd)(top per:Int):Prop where
 ex:∃a,H t=some (.tup [.ref a,.int top,.int per])/\Jr8 H pay a bs
 p0:0<per
 p1:per<10^102
noncomputable def JbN(ns:List Int):Int:=(ns.take 1).sum
noncomputable def J3(ns:List Int):Int:=if JbN ns/105%3=2 then 7 else 1
noncomputable def JA(ns:List Int):Int:=if JbN ns/21%5=2 then 1000 else if JbN ns/21%5=3 then -10^9 else if JbN ns/21%5=4 then JbN ns%10^40 else 0
noncomputable def Jv(ns:List Int):List Str:=if JbN ns/7%3=0 then["ann", "", "bo"]else if JbN ns/7%3=1 then["ann", "ann lee", "Ann ~"]else
 ["ann",Txt.mul "x" 40,Txt.mul "x" (JbN ns/21%40)++"y"++Txt.mul "x" (39-JbN ns/21%40)]
theorem Jnn{H:Hp}{α:Type}{f:α->Dt}:∀{l:List α}{vs:List V},vs.length=l.length->(∀(i:Nat) v x,vs[i]?=some v->l[i]?=some x->Rep H (f x) v)->YL H (l.map f) vs:=fun{l vs} hl h=>
 YL.of (by rw[A2];exact hl) fun i v d e1 e2=>by
  rw[Aq]at e2;obtain⟨x,hx,rfl⟩ :=B1.mp e2;exact h i v x e1 hx
theorem JoR{H:Hp}{o:Option Int}{v:V}:Rep H (oD o) v↔v=oV o:=by cases o<;>exact Iff.rfl
theorem JB{H:Hp}{a:Addr}{bs:List Bd}:JG H a bs↔Rep H (JeM bs) (.ref a):=by
 constructor
 .rintro⟨ps,h1,h2,h3⟩;refine⟨a,_,rfl,h1,Jnn (by rw[A2];exact h2) fun i v x e1 e2=>?_⟩;rw[Aq]at e1;obtain⟨p,hp,rfl⟩ :=B1.mp e1;exact⟨p,_,rfl,h3 i p x hp e2,_,_,rfl,JoR.mpr rfl,_,_,rfl,rfl,rfl⟩
 .rintro⟨a',vs,e,h1,r⟩;cases e
  have hl:vs.length=bs.length:=by rw[r.length,A2]
  have key:∀(i:Nat) v b,vs[i]?=some v->bs[i]?=some b->∃p,v=.ref p/\H p=some (.tup [oV b.1,.int b.2]):=fun i v b e1 e2=>by
   obtain⟨p,ws,e,hp,u,t,rfl,hu,u2,t2,rfl,hu2,ht⟩ :=r.get i v _ e1 (by rw[Aq,e2];rfl);have ht:t2=[]:=ht;have hu2:u2=.int b.2:=hu2;subst ht hu2;rw[JoR.mp hu]at hp;exact⟨p,e,hp⟩
  refine⟨vs.map fun v=>match v with|.ref p=>p|_=>0,?_,by rw[A2];exact hl,fun i p b e1 e2=>?_⟩
  .rw[h1,List.map_map];congr 2;refine List.ext_getElem (by simp) fun i g1 g2=>?_;obtain⟨p,e,_⟩ :=key i vs[i] (bs[i]'(by omega)) (A3 g1) (A3 _);rw[List.getElem_map,e];rfl
  .rw[Aq]at e1;obtain⟨v,hv,rfl⟩ :=B1.mp e1;obtain⟨p,e,hp⟩ :=key i v b hv e2;subst e;exact hp
end Wb
namespace Wb
open PySem PySem.Spec PyProof.Rows L2
structure LSt where
 (hours rates dues paid weeks nets months:Addr)
 out:Addr->Prop
structure Jog(H:Hp)(st:Addr)(A:LSt)(b:Int)(ms:List Int):Prop where
 kvs:∃kvs:List (Key×V),H st=some (.dK kvs)/\Jau kvs (A8 "hours")=some (.ref A.hours)/\Jau kvs (A8 "rates")=some (.ref A.rates)/\Jau kvs (A8 "dues")=some (.ref A.dues)/\
  Jau kvs (A8 "paid")=some (.ref A.paid)/\Jau kvs (A8 "weeks")=some (.ref A.weeks)/\Jau kvs (A8 "nets")=some (.ref A.nets)/\Jau kvs (A8 "base")=some (.int b)/\Jau kvs (A8 "months")=some (.ref A.months)
 months:H A.months=some (.lst (ms.map V.int))
def Jag{α:Type}(R:α->V->Prop)(H:Hp)(d:Addr)(ts:List (Int×α)):Prop:=
 ∃kvs:List (Key×V),H d=some (.dK kvs)/\Paired (fun(p:Key×V)(q:Int×α)=>p.1=Az q.1/\R q.2 p.2) kvs ts
def YQ(H:Hp)(bs:List Bd)(v:V):Prop:=∃a,v=.ref a/\JG H a bs
def JbL(H:Hp)(t:Tab)(v:V):Prop:=∃a b,v=.ref a/\H a=some (.tup [.ref b,.int t.2.1,.int t.2.2])/\JG H b t.1
structure JoC(H:Hp)(A:LSt)(ms:List Int)(B:Bk):Prop where
 hours:∃kvs:List (List Key×V),H A.hours=some (.dT kvs)/\∀who day,(Jau kvs [A8 who,Az day]).getD (.int 0)=.int (B.hrs who day)
 rates:Jag (YQ H) H A.rates B.rates
 dues:Jag (JbL H) H A.dues B.dues
 paid:∃kvs:List (Key×V),H A.paid=some (.dK kvs)/\∀who,(Jau kvs (A8 who)).getD (.int 0)=.int (B.paid who)
 weeks:∃kvs:List (Key×V),H A.weeks=some (.dK kvs)/\∀who,Jau kvs (A8 who)=(B.last who).map V.int
 nets:∃kvs:List (Key×V),H A.nets=some (.dK kvs)/\∀who,(∃a,Jau kvs (A8 who)=some (.ref a)/\H a=some (.lst (ms.map fun m=>.int (B.nets who m))))\/(Jau kvs (A8 who)=none/\∀m∈ms,B.nets who m=0)
theorem JP{α β:Type}{F G:α->β->Prop}(f:∀a b,F a b->G a b):∀{l:List α}{m:List β},Paired F l m->Paired G l m
 | _,_,.nil=>.nil
 | _,_,.cons q t=>.cons (f _ _ q) (JP f t)
theorem Jog.same{H H':Hp}{st:Addr}{A:LSt}{b:Int}{ms:List Int}(h:Jog H st A b ms)(s:JX H H'):Jog H' st A b ms:=by
 obtain⟨⟨kvs,e,r⟩,m⟩ :=h;exact⟨⟨kvs,s _ _ e,r⟩,s _ _ m⟩
theorem JoC.same{H H':Hp}{A:LSt}{ms:List Int}{B:Bk}(h:JoC H A ms B)(s:JX H H'):JoC H' A ms B:=by
 obtain⟨⟨k1,e1,r1⟩,⟨k2,e2,r2⟩,⟨k3,e3,r3⟩,⟨k4,e4,r4⟩,⟨k5,e5,r5⟩,⟨k6,e6,r6⟩⟩ :=h;have g2:∀(p:Key×V)(q:Int×List Bd),(p.1=Az q.1/\YQ H q.2 p.2)->(p.1=Az q.1/\YQ H' q.2 p.2):=fun p q ⟨z,a,e,b⟩ =>⟨z,a,e,b.same s⟩;have g3:∀(p:Key×V)(q:Int×Tab),(p.1=Az q.1/\JbL H q.2 p.2)->(p.1=Az q.1/\JbL H' q.2 p.2):=fun p q ⟨z,a,c,e,t,b⟩ =>⟨z,a,c,e,s _ _ t,b.same s⟩;refine⟨⟨k1,s _ _ e1,r1⟩,⟨k2,s _ _ e2,JP g2 r2⟩,⟨k3,s _ _ e3,JP g3 r3⟩,⟨k4,s _ _ e4,r4⟩,⟨k5,s _ _ e5,r5⟩,⟨k6,s _ _ e6,fun who=>?_⟩⟩
 rcases r6 who with⟨a,e,g⟩|z
 .exact .inl ⟨a,e,s _ _ g⟩
 .exact .inr z
theorem JbA{α:Type}{R:α->V->Prop}:∀{kvs:List (Key×V)} {ts:List (Int×α)},Paired (fun(p:Key×V)(q:Int×α)=>p.1=Az q.1/\R q.2 p.2) kvs ts->kvs.map (·.1)=(ts.map (·.1)).map Az
 | _,_,.nil=>rfl
 | _,_,.cons q t=>by rw[List.map_cons,List.map_cons,List.map_cons,JbA t,q.1]
theorem Jd0{α:Type}{R:α->V->Prop}:∀{kvs:List (Key×V)} {ts:List (Int×α)},Paired (fun(p:Key×V)(q:Int×α)=>p.1=Az q.1/\R q.2 p.2) kvs ts->∀{k:Int}{v:V},Jau kvs (Az k)=some v->∃x,YB ts k=some x/\R x v/\(k,x)∈ts
 | _,_,.nil,k,v,h=>by cases h
 | p::kvs,q::ts,.cons z t,k,v,h=>by
  obtain⟨z1,z2⟩ :=z
  by_cases c:q.1=k
  .have e:p.1=(Az k:Key):=by rw[z1,c]
   rw[Y2 e]at h;have h:=Option.some.inj h;refine⟨q.2,by simp[YB,List.find?_cons,c],by rw[<- h];exact z2,?_⟩;rw[<- c];exact Aj
  .have e:¬p.1=(Az k:Key):=by
    rw[z1];intro y;exact c (Az.inj y)
   rw[Y4 e]at h;obtain⟨x,g,r,m⟩ :=Jd0 t h;refine⟨x,?_,r,List.mem_cons_of_mem _ m⟩;simp only[YB,List.find?_cons,decide_eq_false c];exact g
theorem Jd6{α:Type}{ts:List (Int×α)}{w:Int}(h:YX w none (ts.map (·.1))=none):JeU ts w=none:=by
 unfold JeU;rw[h];rfl
theorem Jd1{α:Type}{ts:List (Int×α)}{w k:Int}{x:α}(h:YX w none (ts.map (·.1))=some k)(g:YB ts k=some x):JeU ts w=some x:=by
 unfold JeU;rw[h];exact g
theorem JpC(M:Int)(hM:0<=M):∀(bs:List Bd)(a f:Int),Wf f bs->(∀b∈bs,0<=b.2/\b.2<=M)->0<=lv a f bs/\lv a f bs<=M*mx 0 (a-f)
 | [],_,_,h,_=>h.elim
 | (none,e)::r,a,f,h,hb=>by
  have:r=[]:=h;subst this;obtain⟨b1,b2⟩:0<=e/\e<=M:=hb (none,e) Aj
  have hm:0<=mx 0 (a-f):=by unfold mx;split<;>omega
  have q1:=Int.mul_nonneg hm b1;have q2:=Int.mul_le_mul_of_nonneg_left b2 hm;simp only[lv];rw[Int.mul_comm M];omega
 | (some u,e)::r,a,f,h,hb=>by
  have hu:f<u:=h.1;obtain⟨b1,b2⟩:0<=e/\e<=M:=hb (some u,e) Aj;obtain⟨c1,c2⟩ :=JpC M hM r a u h.2 fun b hx=>hb b (List.mem_cons_of_mem _ hx)
  have hm:0<=mn (mx 0 (a-f)) (u-f):=by unfold mn mx;split<;>split<;>omega
  have q1:=Int.mul_nonneg hm b1;have q2:=Int.mul_le_mul_of_nonneg_left b2 hm
  have e1:mx 0 (a-f)=mn (mx 0 (a-f)) (u-f)+mx 0 (a-u):=by
   unfold mn mx;split<;>split<;>split<;>omega
  simp only[lv];rw[e1,Int.mul_add,Int.mul_comm M (mn _ _)]
  have e2:mn (mn (mx 0 (a-f)) (u-f)+mx 0 (a-u)) (u-f)=mn (mx 0 (a-f)) (u-f):=by rw[<- e1]
  rw[e2];omega
theorem JfW{h:Int->Int}(hh:∀d,0<=h d/\h d<=24)(w:Int):0<=Jhx h w/\Jhx h w<=168:=by
 unfold Jhx;have g:=fun j:Nat=>hh (7*w+j);simp only[List.range,List.range.loop,List.map_cons,List.map_nil,List.sum_cons,List.sum_nil];have g0:=g 0;have g1:=g 1;have g2:=g 2;have g3:=g 3;have g4:=g 4;have g5:=g 5;have g6:=g 6;omega
theorem Jco{m:Option Int}{bs:List Bd}(h:Jbo m bs=true):Wf 0 bs/\∀b∈bs,0<=b.2:=by
 unfold Jbo at h;rw[Bool.and_eq_true,List.all_eq_true]at h;refine⟨Jk9.mp h.1,fun b hb=>?_⟩;have:=h.2 b hb;rw[Bool.and_eq_true]at this;exact of_decide_eq_true this.1
end Wb
namespace Wb
open PySem PySem.Spec PyProof.Rows L2
theorem JiI:∀{bs:List Bd}{lo:Int}{us:List Int},bs.map (·.1)=us.map some++[none]->(wfb lo bs=true↔(lo::us).Pairwise (·<·))
 | [],lo,us,h=>by
  have:=congrArg List.length h;simp at this
 | (none,e)::r,lo,us,h=>by
  cases us with
  | nil=>
   have h:none::r.map (·.1)=[none]:=h;have:r=[]:=List.map_eq_nil_iff.mp (List.cons.inj h).2;subst this;exact⟨fun _=>List.pairwise_singleton _ _,fun _=>rfl⟩
  | cons u us=>
   have h:none::r.map (·.1)=some u::(us.map some++[none]):=h;cases(List.cons.inj h).1
 | (some v,e)::r,lo,us,h=>by
  cases us with
  | nil=>
   have h:some v::r.map (·.1)=[none]:=h;cases(List.cons.inj h).1
  | cons u us=>
   have h:some v::r.map (·.1)=some u::(us.map some++[none]):=h;obtain⟨h1,h2⟩ :=List.cons.inj h;have h1:=Option.some.inj h1;subst h1;show(decide (lo<v)&&wfb v r)=true↔_;rw[Bool.and_eq_true,decide_eq_true_eq,JiI (lo:=v) h2];constructor
   .rintro⟨a,b⟩;refine List.pairwise_cons.mpr ⟨fun y hy=>?_,b⟩
    rcases Ax.mp hy with rfl|hy
    .exact a
    .exact Int.lt_trans a ((List.pairwise_cons.mp b).1 y hy)
   .intro b;exact⟨(List.pairwise_cons.mp b).1 v Aj,(List.pairwise_cons.mp b).2⟩
theorem Jg9:∀{bs:List Bd}{lo:Int},wfb lo bs=true->∃us:List Int,bs.map (·.1)=us.map some++[none]
 | (none,e)::r,lo,h=>by
  have:r=[]:=List.isEmpty_iff.mp h;subst this;exact⟨[],rfl⟩
 | (some v,e)::r,lo,h=>by
  have h:(decide (lo<v)&&wfb v r)=true:=h;rw[Bool.and_eq_true]at h;obtain⟨us,e⟩ :=Jg9 h.2;exact⟨v::us,by rw[List.map_cons,e];rfl⟩
theorem JfP{us ms rs:List Int}(pm:rs.Perm ms)(nd:ms.Nodup)(hm:∀k,k∈ms↔k∈us)(so:rs.Pairwise (·<=·)):us=rs↔us.Pairwise (·<·):=by
 have ndr:rs.Nodup:=pm.nodup_iff.mpr nd
 have up:rs.Pairwise (·<·):=by
  have:rs.Pairwise (fun a b=>a<=b/\a≠b):=List.Pairwise.and so ndr
  exact this.imp fun⟨a,b⟩ =>by omega
 constructor
 .rintro rfl;exact up
 .intro h
  have ndu:us.Nodup:=h.imp fun z=>by omega
  have p:us.Perm rs:=(List.perm_ext_iff_of_nodup ndu ndr).mpr fun k=>by rw[pm.mem_iff,hm]
  exact p.eq_of_pairwise (le:=fun a b=>a<b) (fun a b _ _ h1 h2=>by omega) h up
theorem JlU{us:List Int}:(0::us).Pairwise (·<·)↔us.Pairwise (·<·)/\∀u∈us[0]?,1<=u:=by
 rw[List.pairwise_cons];constructor
 .rintro⟨a,b⟩;refine⟨b,fun u hu=>?_⟩;have:=a u (B9 hu);omega
 .rintro⟨a,b⟩;refine⟨fun y hy=>?_,a⟩
  cases us with
  | nil=>cases hy
  | cons u r=>
   have h1:1<=u:=b u rfl
   rcases Ax.mp hy with rfl|hy
   .omega
   .have:=(List.pairwise_cons.mp a).1 y hy;omega
end Wb
namespace L2
open PySem PySem.Spec PyProof.Rows
structure Fly(P:Program)(w:World)(l:List Env)(H:Hp)(s:Shared)(a:Addr)(cls:Value)(H1:Hp)(B:Heap)(a0:Value)(s':Shared):Prop where
 os:s'.os=s.os
 bare:AllBare s'.gens
 un:Un (frs l) [] H H1 s.heap s'.heap
 hok:HOk P w H1 s'.heap
 fly:Heap.FlyingW B l a cls a0 s'.heap
 all:∀b o o',s.heap.get? b=some o->b∉frs l->s'.heap.get? b=some o'->B.get? b=some o'
 trk:∀b u o,H1 b=some u->s'.heap.get? b=some o->B.get? b=some o
noncomputable def CXr(P:Program)(w:World):CXT:=fun l H s E e s'=>∃(a:Addr)(cls:Value)(H1:Hp)(B:Heap)(a0:Value),e=.ref a/\E cls none H1/\Fly P w l H s a cls H1 B a0 s'
section
variable {P:Program} {w:World} {l:List Env} {H H1:Hp} {s s':Shared} {a:Addr} {cls a0:Value} {B:Heap} {h2:Heap}
theorem Fly.on(F:Fly P w l H s a cls H1 B a0 s')(st:B.StaysIn h2)(up:s'.heap.UpToSlots h2):Un (frs l) [] H H1 s.heap h2/\HOk P w H1 h2:=by
 have fr:∀b,b∈frs l->∃o,s'.heap.get? b=some o/\∀vs,o.data≠.fields vs:=fun b hb=>(F.fly.2.2.1.mem hb).2;refine⟨⟨fun b o e n hb hx=>st b o (F.all b o o e hb (F.un.keep b o e n hb hx)),fun b o e n hb hx=>?_,F.un.free,fun b o e hx=>?_,F.un.tups,F.un.frzs,F.un.tbls⟩,fun b u e=>?_⟩
 .obtain⟨sl,e1⟩ :=F.un.slot b o e n hb hx;obtain⟨o',e2,d⟩ :=fr b hb;rw[e1]at e2;cases e2;obtain⟨sl',e3⟩ :=up b _ e1 d;exact⟨sl',e3⟩
 .obtain⟨o',e1⟩ :=F.un.there b o e hx
  by_cases hb:b∈frs l
  .obtain⟨o2,e2,d⟩ :=fr b hb;obtain⟨sl',e3⟩ :=up b _ e2 d;exact⟨_,e3⟩
  .exact⟨o',st b o' (F.all b o o' e hb e1)⟩
 .exact(F.hok b u e).stay (fun c v hc q=>by
   rcases hc with rfl|hc
   .exact st _ _ (F.trk _ _ _ e q)
   .exact st _ _ (F.trk _ _ _ hc q)) (fun _ q=>q) fun _ _ q=>q
end
theorem Ym.here{P:Program}{w:World}{H:Hp}{h:Heap}{b:Addr}{u:HO}(x:Ym P w H h b u):h.get? b≠none:=by
 have no:∀ob:Obj,h.get? b=some ob->h.get? b≠none:=fun ob e z=>by rw[e]at z;cases z
 cases u with
 | lst xs=>obtain⟨_,_,_,_,q⟩ :=x;exact no _ q
 | tup xs=>obtain⟨_,_,_,_,q,_⟩ :=x;exact no _ q
 | dK kvs=>obtain⟨_,_,_,_,_,_,_,q,_⟩ :=x;exact no _ q
 | dT kvs=>obtain⟨_,_,_,_,_,_,_,q,_⟩ :=x;exact no _ q
 | set S n=>obtain⟨_,_,_,_,q,_⟩ :=x;exact no _ q
 | ins C dx fs=>obtain⟨_,_,_,q,_⟩ :=x;exact no _ q
 | own y=>obtain⟨_,q⟩ :=x;exact no _ q
 | xd fs=>obtain⟨_,⟨_,_,_,q,_⟩,_⟩ :=x;exact no _ q
 | rng lo hi=>obtain⟨_,_,_,q⟩ :=x;exact no _ q
 | frz ob v=>obtain⟨q,_⟩ :=x;exact no _ q
 | tbl ps=>exact no _ (show h.get? b=some _ from x)
 | met f y=>exact no _ (show h.get? b=some _ from x)
 | ext φ=>obtain⟨_,⟨_,q⟩,_⟩ :=x;exact no _ q
structure Exc(K:WF)(mg:MO)(base:Heap)(x:Str)(C:Addr):Prop where
 own:OwnCls x C [.type "ValueError",.type "Exception",.type "BaseException",.type "object"] "ValueError.__new__" mg base
theorem Exc.mk'{K:WF}{mg:MO}{base:Heap}{x:Str}{C:Addr}(X:K.In base)(G:base.Ns mainGlobals mg)(e:PySem.W.nsIn K mainGlobals x=some (some (.ref C)))
  (q:PySem.W.excIn K C [.type "ValueError",.type "Exception",.type "BaseException",.type "object"] "ValueError.__new__" = true):Exc K mg base x C:=by
 refine⟨⟨PySem.W.mg_of X G e,?_⟩⟩;unfold PySem.W.excIn at q;split at q
 .next d1 c1 sl1 look=>
  split at q
  .next C1 bm1 y0 y1 y2 y3 n1 y5 emro esl=>
   simp only[Bool.and_eq_true,beq_iff_eq,Bool.not_eq_true']at q;obtain⟨⟨⟨⟨⟨z1,z2⟩,z3⟩,z4⟩,z5⟩,z6⟩ :=q;subst z1;obtain⟨nm,bs,mro,ns,qn,hd,sn,sub,ab,col,del⟩ :=c1;dsimp only at emro z3 z5 z6;subst emro z3
   have es:sl1=#[y0,y1,y2,y3,some (.builtin "ValueError.__new__"),y5]:=by
    obtain⟨lst⟩ :=sl1;simp only at esl;rw[esl,z2]
   subst es;exact⟨bm1,ns,nm,qn,bs,hd,sn,sub,ab,col,d1,y0,y1,y2,y3,y5,_,X _ _ look,.of_isNs (PySem.W.isNs_of_in X z5),PySem.W.nsMap_none_of_in X z5 z6,PySem.W.tail_of_in X z4⟩
  .cases q
 .cases q
section
variable {P:Program} {w:World} {K:WF} {mg:Str→Option Value} {base:Heap} {N:List Str} {qual:Str} {scope:Scope} {f:Addr} {cd:Value} {A:Around} {outer:List Env} {s:Shared} {H:Hp} {E:XK}
noncomputable abbrev cxR(P:Program)(w:World)(K:WF)(mg:MO)(base:Heap)(N:List Str)(qual:Str)(scope:Scope)(f:Addr)(cd:Value)(A:Around)(outer:List Env)(s:Shared)(H:Hp)(E:XK):Cx:=
 Jgr (CXr P w) P w K mg base N qual scope f cd A outer s H E
noncomputable def Jqi(C:Addr)(E:XK)(te:TE):TS:=fun _ σ H=>te σ H fun v H2=>([v]:List V).length<=B2/\E (.ref C) none H2
theorem Jfd{x:Str}{C:Addr}{e:Expr}{te:TE}{np cpos pos:Pos}(O:Exc K mg base x C)(hg:Gl (cxR P w K mg base N qual scope f cd A outer s H E) x)(he:PE (cxR P w K mg base N qual scope f cd A outer s H E) e te)
  (hs:starEach [e] (cxR P w K mg base N qual scope f cd A outer s H E).env=[(false,eval e (cxR P w K mg base N qual scope f cd A outer s H E).env)]:=by rfl) (hdb:(x==("__debug__" : Str))=false:=by decide) :
  PS (cxR P w K mg base N qual scope f cd A outer s H E) (.Raise (some (.Call (.Name x np) [e] [] cpos)) none pos) (Jqi C E te):=by
 intro pins s1 σ H1 D I h;obtain⟨tl,ns,nm,q,bs,hdct,sn,sub,ab,col,dd,k0,k1,k2,k3,k5,mN,hC,hN,hni,T⟩ :=O.own.obj;have FB:=PySem.F.excBase_ValueError
 refine wpAny_Raise_call_subT (C:=C) (nm:=nm) (q:=q) (N:=ns) (bs:=bs) (bm:=tl) (hdct:=hdct) (sn:=sn) (sub:=sub) (ab:=ab) (col:=col) (dd:=dd) (k0:=k0) (k1:=k1) (k2:=k2) (k3:=k3) (k5:=k5)
  FB (mN:=mN) (T.hasType FB.hasBase) (I.ok.hd rfl) (by rw[hs];rfl) hni (Jfz I hg O.own.bound ⟨rfl,?_⟩ hdb)
 have ha:=Jc he JV hs cpos pins s1 σ H1 (fun vs H2=>vs.length<=B2/\E (.ref C) none H2) I h;rw[hs]at ha ⊢;refine Calls.evalArgs_plain (wpAny_mono ha (fun vs s2 hzz=>?_) fun _ _ y=>y);obtain⟨xs,H2,I2,r,q1,q2⟩ :=hzz;refine⟨rfl,by rw[<- r.length];exact q1,I2.bk _ _ hC,hN.keeps I2.bk,T.keeps I2.bk,fun h' ea hm=>?_⟩;show wpAny _ (A.deeper (envOfC qual scope s.heap.objs.size f cd)) (leaving (envOfC qual scope s.heap.objs.size f cd) (.ref ea)) _ _ _;have fstk:∀b,b∈frs (envOfC qual scope s.heap.objs.size f cd::outer)->b=s.heap.objs.size\/b∈frs outer:=fun b hb=>Ax.mp (I2.stkSub b hb);have stk:=I2.stack
 refine wpAny_leaves_madeW (base:=PySem.W.hideAll s2.heap (frs (envOfC qual scope s.heap.objs.size f cd::outer))) (h:=s2.heap) (outer:=outer) I2.ok.frames rfl (fun b o z=>PySem.W.of_hideAll _ z)
  (PySem.W.funFrames_hide I2.stack fun env hen b hb=>List.mem_filterMap.mpr ⟨env,hen,hb⟩) hm fun h2 tp fl tup nt up=>?_
 have hid:∀b o,s2.heap.get? b=some o->b∉frs (envOfC qual scope s.heap.objs.size f cd::outer)->(PySem.W.hideAll s2.heap (frs (envOfC qual scope s.heap.objs.size f cd::outer))).get? b=some o:=fun b o z n=>PySem.W.hideAll_get _ z n;have old:∀b o,s.heap.get? b=some o->b∉frs outer->b∉frs (envOfC qual scope s.heap.objs.size f cd::outer):=fun b o z n y=>(fstk b y).elim (fun y=>absurd (B3 z) (by rw[y];exact Nat.lt_irrefl _)) n
 have trk:∀b u,H2 b=some u->b∉frs (envOfC qual scope s.heap.objs.size f cd::outer):=fun b u z y=>by rw[I2.stkFree b y]at z;cases z
 refine⟨ea,.ref C,H2,_,.ref tp,rfl,q2,I2.os,I2.bare,⟨fun b o z n hb hx=>?_,fun b o z n hb hx=>?_,fun b o z n hx=>?_,fun b o z hx=>?_,I2.base.tups,I2.base.frzs,I2.base.tbls⟩,fun b u z=>?_,fl,fun b o o' z hb z'=>?_,fun b u o z z'=>?_⟩
 .exact fl.1 b o (hid b o (I2.base.keep b o z n hb (by simp[Jgr])) (old b o z hb))
 .obtain⟨sl,z1⟩ :=I2.base.slot b o z n hb (by simp[Jgr]);obtain⟨_,o2,z2,d2⟩ :=I2.ok.funs.mem hb;have z2:s.heap.get? b=some o2:=z2;rw[z]at z2;cases z2;obtain⟨sl2,z3⟩ :=up b _ (hm.keeps _ _ z1) d2;exact⟨sl2,z3⟩
 .exact I2.base.free b o z n (by simp[Jgr])
 .obtain⟨o',z1⟩ :=I2.base.there b o z (by simp[Jgr])
  by_cases hb:b∈frs (envOfC qual scope s.heap.objs.size f cd::outer)
  .obtain⟨_,o2,z2,d2⟩ :=stk.mem hb;obtain⟨sl2,z3⟩ :=up b _ (hm.keeps _ _ z2) d2;exact⟨_,z3⟩
  .exact⟨o',fl.1 b o' (hid b o' z1 hb)⟩
 .refine(I2.hok b u z).stay (fun c v hc y=>?_) (fun _ y=>y) fun _ _ y=>y
  rcases hc with rfl|hc
  .exact fl.1 _ _ (hid _ _ y (trk _ _ z))
  .exact fl.1 _ _ (hid _ _ y (trk _ _ hc))
 .obtain⟨o2,z1⟩ :=I2.base.there b o z (by simp[Jgr]);have y:=hid b o2 z1 (old b o z hb);have z':h2.get? b=some o':=z';rw[fl.1 b o2 y]at z';cases z';exact y
 .have hlt:=I2.hok.lt z;have z':h2.get? b=some o:=z'
  cases y:s2.heap.get? b with
  | some o2=>
   have y':=hid b o2 y (trk b u z);rw[fl.1 b o2 y']at z';cases z';exact y'
  | none=>exact absurd y ((I2.hok b u z).here)
theorem JmD:JeO (CXr P w) (cxR P w K mg base N qual scope f cd A outer s H E) E:=by
 intro pins σ H1 s1 e s' I h;obtain⟨a,cls,H2,B,a0,rfl,hE,F⟩ :=h;show wpAny _ (A.deeper (envOfC qual scope s.heap.objs.size f cd)) (leaving (envOfC qual scope s.heap.objs.size f cd) (.ref a)) _ _ _;have fstk:∀b,b∈frs (envOfC qual scope s.heap.objs.size f cd::outer)->b=s.heap.objs.size\/b∈frs outer:=fun b hb=>Ax.mp (I.stkSub b hb);have old:∀b o,s.heap.get? b=some o->b∉frs outer->b∉frs (envOfC qual scope s.heap.objs.size f cd::outer):=fun b o z n y=>(fstk b y).elim (fun y=>absurd (B3 z) (by rw[y];exact Nat.lt_irrefl _)) n
 have inS:∀b,b∈frs outer->b∈frs (envOfC qual scope s.heap.objs.size f cd::outer):=fun b hb=>by
  unfold frs;rw[List.filterMap_cons];exact List.mem_cons_of_mem _ hb
 refine wpAny_leaves_onW (outer:=outer) I.ok.frames rfl F.fly fun h2 fl up=>?_;obtain⟨un2,hok2⟩ :=F.on fl.1 up;refine⟨a,cls,H2,B,a0,rfl,hE,F.os.trans I.os,F.bare,⟨fun b o z n hb hx=>?_,fun b o z n hb hx=>?_,fun b o z n hx=>?_,fun b o z hx=>?_,fun b xs z=>un2.tups b xs (I.base.tups b xs z),fun b o u z=>un2.frzs b o u (I.base.frzs b o u z),fun b ps z=>?_⟩,hok2,fl,fun b o o' z hb z'=>?_,fun b u o z z'=>?_⟩
 .exact un2.keep b o (I.base.keep b o z n hb (by simp[Jgr])) (I.base.free b o z n (by simp[Jgr])) (old b o z hb) hx
 .obtain⟨sl,z1⟩ :=I.base.slot b o z n hb (by simp[Jgr]);obtain⟨sl2,z2⟩ :=un2.slot b _ z1 (I.base.free b o z n (by simp[Jgr])) (inS b hb) hx;exact⟨sl2,z2⟩
 .obtain⟨o',z1⟩ :=I.base.there b o z (by simp[Jgr]);exact un2.free b o' z1 (I.base.free b o z n (by simp[Jgr])) hx
 .obtain⟨o',z1⟩ :=I.base.there b o z (by simp[Jgr]);exact un2.there b o' z1 hx
 .obtain⟨m1,z1⟩ :=I.base.tbls b ps z;obtain⟨m2,z2⟩ :=un2.tbls b _ z1;exact⟨m1++m2,by rw[z2,Array.append_assoc]⟩
 .obtain⟨o1,z1⟩ :=I.base.there b o z (by simp[Jgr]);obtain⟨o2,z2⟩ :=F.un.there b o1 z1 (by simp);have y:=F.all b o1 o2 z1 (old b o z hb) z2;have z':h2.get? b=some o':=z';rw[fl.1 b o2 y]at z';cases z';exact y
 .cases y:s'.heap.get? b with
  | some o2=>
   have y':=F.trk b u o2 z y;have z':h2.get? b=some o:=z';rw[fl.1 b o2 y']at z';cases z';exact y'
  | none=>exact absurd y ((F.hok b u z).here)
end
section
variable {X:Cx} {pins:PL} {σ:St} {H1 H2:Hp} {s1 s':Shared} {a:Addr} {cls a0:Value} {B:Heap}
theorem Fly.inv{h2:Heap}(F:Fly X.prog X.w X.stack H1 s1 a cls H2 B a0 s')(I:Inv X pins σ H1 s1)(st:B.StaysIn h2)(up:s'.heap.UpToSlots h2):Inv X pins σ H2 { s' with heap:=h2 }:=by
 obtain⟨un2,hok2⟩ :=F.on st up;exact I.call' (s':={ s' with heap:=h2 }) (ch:=[]) F.os un2 hok2 F.bare fun b z=>absurd z (by simp)
theorem Fly.to{h2:Heap}(F:Fly X.prog X.w X.stack H1 s1 a cls H2 B a0 s')(fl:Heap.FlyingW B X.stack a cls a0 h2)(up:s'.heap.UpToSlots h2):Fly X.prog X.w X.stack H1 s1 a cls H2 B a0 { s' with heap:=h2 }:=by
 obtain⟨un2,hok2⟩ :=F.on fl.1 up;refine⟨F.os,F.bare,un2,hok2,fl,fun b o o' z hb z'=>?_,fun b u o z z'=>?_⟩
 .obtain⟨o2,z2⟩ :=F.un.there b o z (by simp);have y:=F.all b o o2 z hb z2;have z':h2.get? b=some o':=z';rw[fl.1 b o2 y]at z';cases z';exact y
 .cases y:s'.heap.get? b with
  | some o2=>
   have y':=F.trk b u o2 z y;have z':h2.get? b=some o:=z';rw[fl.1 b o2 y']at z';cases z';exact y'
  | none=>exact absurd y ((F.hok b u z).here)
theorem Fly.ty{M:Model}(F:Fly X.prog X.w X.stack H1 s1 a cls H2 B a0 s'):PySem.W.Looks M s'.heap (typeOf (.ref a)) cls:=by
 obtain⟨ob,hob,hc⟩ :=F.fly.there;subst hc;exact(PySem.W.Looks.ld hob).andThen .now
variable {x:Str} {C:Addr} {np pos:Pos} {nm:Option Str} {b₀:Stmt} {suite:List Stmt} {rest:List ExceptHandler} {Q:Flow→Shared→Prop} {E:Value→Shared→Prop}
theorem Jls{A:Around}{I0:Inv X pins σ H1 s1}(hg:Gl X x)(hm:X.mg x=some (.ref C)){R:VS}{E':VS}(h:R (.ref C) s1)(hd:(x==("__debug__" : Str))=false):wpAny (model X.prog X.w) A (eval (.Name x np) X.env) R E' s1:=
 Calls.Name_function_global I0.ok.kind hg (Calls.loadGlobal_global (by rw[I0.ok.glob];exact I0.mod.glob.keeps I0.bk) hm h) hd
theorem Jdv(F:Fly X.prog X.w X.stack H1 s1 a cls H2 B a0 s')(I:Inv X pins σ H1 s1)(hg:Gl X x)(hm:X.mg x=some (.ref C))(he:PySem.W.exmOne X.K cls (.ref C)=some false)(hd:(x==("__debug__" : Str))=false)
  (k:wpAny (model X.prog X.w) X.A (handleBy (.ref a) X.env rest) Q E s') :
  wpAny (model X.prog X.w) X.A (handleBy (.ref a) X.env (.ExceptHandler (some (.Name x np)) nm (b₀::suite) pos::rest)) Q E s':=by
 have I2:Inv X pins σ H2 s':=F.inv (h2:=s'.heap) I F.fly.1 (Heap.UpToSlots.refl _);refine wpAny_handleBy_cons (codeAny_handlers_test (Jls (I0:=I2) hg hm ?_ hd)) (by intro q;cases q);exact(PySem.W.exm_one I2.kIn F.ty he).here k
theorem Jeo{tx:Str}{j:Nat}{q1 q2:Pos}{D:Jnf}(F:Fly X.prog X.w X.stack H1 s1 a cls H2 B a0 s')(I:Inv X pins σ H1 s1)(hg:Gl X x)(hm:X.mg x=some (.ref C))(he:PySem.W.exmOne X.K cls (.ref C)=some true)
  (hd:(x==("__debug__" : Str))=false) (k:D.rt (.str tx) H2) :
  wpAny (model X.prog X.w) X.A (handleBy (.ref a) X.env (.ExceptHandler (some (.Name x np)) none [.Return (some (.Constant (.str tx) j q1)) q2] pos::rest)) (SP X pins D) E s':=by
 have I2:Inv X pins σ H2 s':=F.inv (h2:=s'.heap) I F.fly.1 (Heap.UpToSlots.refl _);refine wpAny_handleBy_cons (codeAny_handlers_test (Jls (I0:=I2) hg hm ?_ hd)) (by intro q;cases q);refine(PySem.W.exm_one I2.kIn F.ty he).here ?_;refine codeAny_handlers_suite ?_;refine lands_againW F.fly fun h6 fl6 up6=>?_;have I6:Inv X pins σ H2 { s' with heap:=h6 }:=F.inv I fl6.1 up6;refine wpAny_execs_cons (wpAny_Return_some (Calls.Constant_str ?_));exact⟨.str tx,σ,H2,I6.tok _,⟨_,rfl⟩,k⟩
end
structure JlY(X:Cx)(x:Str)(C:Addr)(o1 o2:Addr):Prop where
 gl:Gl X x
 mg:X.mg x=some (.ref C)
 me:PySem.W.exmOne X.K (.ref C) (.ref C)=some true
 n1:PySem.W.exmOne X.K (.ref o1) (.ref C)=some false
 n2:PySem.W.exmOne X.K (.ref o2) (.ref C)=some false
noncomputable def Jr0(sp:Sp)(C1 C2 C3:Addr)(t1 t2 t3:Str)(t:TA):TS:=fun D σ H=>t σ H fun vs H1=>sp (vs++[]) H1 D.rt fun cls _ H2=>
 (cls=.ref C1/\D.rt (.str t1) H2)\/(cls=.ref C2/\D.rt (.str t2) H2)\/(cls=.ref C3/\D.rt (.str t3) H2)
theorem Jpj{X:Cx}{k:Nat}{f:Addr}{fd:FuncData}{ps:List Str}{sp:Sp}{x x1 x2 x3:Str}{C1 C2 C3:Addr}{t1 t2 t3:Str}{e:Expr}{es:List Expr}{t:TA}{p cpos rpos pos p1 p2 p3 h1 h2 h3 q1 q2 q3 r1 r2 r3:Pos}{j1 j2 j3:Nat}
  (F:YO X.prog X.w X.K X.mg X.base (CXr X.prog X.w) k f fd ps sp) (hr:Jee k X.A) (hg:Gl X x) (hm:X.mg x=some (.ref f)) (hk:PySem.W.keepIn X.K (.ref f)=true) (hb:Jdi X.K fd ps []) (ha:PA X.nox (e::es) t)
  (c1:JlY X x1 C1 C2 C3) (c2:JlY X x2 C2 C1 C3) (c3:JlY X x3 C3 C1 C2) (hst:X.stack=X.env::X.outer) (hf:X.env.frame=some X.env.locals)
  (hdb:(x==("__debug__" : Str))=false:=by decide) (d1:(x1==("__debug__" : Str))=false:=by decide) (d2:(x2==("__debug__" : Str))=false:=by decide) (d3:(x3==("__debug__" : Str))=false:=by decide)
  (he:starEach (e::es) X.env=(false,eval e X.env)::starEach es X.env:=by rfl) (hpl:(backTo cpos (starEach es X.env)).any (·.1)=false:=by rfl) :
  PS X (.Try [.Return (some (.Call (.Name x p) (e::es) [] cpos)) rpos]
   [.ExceptHandler (some (.Name x1 p1)) none [.Return (some (.Constant (.str t1) j1 q1)) r1] h1,.ExceptHandler (some (.Name x2 p2)) none [.Return (some (.Constant (.str t2) j2 q2)) r2] h2,
    .ExceptHandler (some (.Name x3 p3)) none [.Return (some (.Constant (.str t3) j3 q3)) r3] h3] [] [] pos) (Jr0 sp C1 C2 C3 t1 t2 t3 t):=by
 intro pins s σ H D I h;refine wpAny_Try_except (wpAny_execs_cons (wpAny_Return_some ?_));refine wpAny_Call_Name_kw (Jfz I hg hm ?_ hdb);refine PySem.W.callWith_K (h₀:=X.base) I.ok.mod.kin hk (wpAny_mono (ha cpos pins s σ H _ (I.wish _) h) (fun us s1 hzz=>?_) fun e' s2 (z:False)=>z.elim) he hpl;obtain⟨vs,H1,I1',r,q⟩ :=hzz;have I1:Inv X pins σ H1 s1:=I1'.unwish;refine⟨I1.kIn,?_⟩;have r2:YZ (vs++[]) (us++[]):=r.append .nil
 have hl:(us++[]).length=ps.length:=by rw[<- r2.length];exact F.len _ _ _ _ q
 refine wpAny_call (codeAny_mono (F.run X.A X.stack s1 H1 ⟨us,[]⟩ (us++[]) (vs++[]) _ _ hr I1.env0 (hb s1 us I1.kIn hl) r2 q) fun r s' hq=>?_)
 cases r with
 | ok fl=>
  cases fl with
  | ret u=>
   obtain⟨v,H2,I2,rv,qv⟩ :=I1.after hq;exact⟨v,σ,H2,I2,rv,qv⟩
  | next=>exact False.elim hq
  | brk=>exact False.elim hq
  | cont=>exact False.elim hq
 | error er=>
  obtain⟨a,cls,H2,B,a0,rfl,hE,FL⟩ :=hq;have hfl:=FL.fly;have hfr:=I1.ok.frames;rw[hst]at hfr;refine wpAny_looks_onW (base:=B) (cls:=cls) (a0:=a0) (outer:=X.outer) hfr hf (by rw[<- hst];exact hfl) fun h4 held4 up4=>?_;refine wpAny_landsW held4 fun h5 fl5 up5=>?_;rw[<- hst]at fl5;have FL5:=FL.to fl5 (up4.trans up5)
  rcases hE with⟨rfl,k⟩|⟨rfl,k⟩|⟨rfl,k⟩
  .exact Jeo FL5 I1 c1.gl c1.mg c1.me d1 k
  .exact Jdv FL5 I1 c1.gl c1.mg c1.n1 d1 (Jeo FL5 I1 c2.gl c2.mg c2.me d2 k)
  .exact Jdv FL5 I1 c1.gl c1.mg c1.n2 d1 (Jdv FL5 I1 c2.gl c2.mg c2.n2 d2 (Jeo FL5 I1 c3.gl c3.mg c3.me d3 k))
end L2
namespace L2
open PySem PySem.Spec PyProof.Rows
theorem Jp0:bootBuiltins "all" = some (.builtin "all"):=by decide +kernel
theorem Jq6:bootBuiltins "any" = some (.builtin "any"):=by decide +kernel
section
variable {X:Cx}
noncomputable def JeN(p a:Addr):HO:=.ext fun h=>h.IsValuesView p a
theorem Jm9{P:Program}{w:World}{H:Hp}{h:Heap}{p a:Addr}(v:h.IsValuesView p a):Ym P w H h p (JeN p a):=
 ⟨v,let ⟨o,e,_⟩ :=v;⟨o,e⟩,fun h1 h2 y k=>let ⟨o,e,x⟩ :=y;⟨o,k o e,x⟩⟩
noncomputable def Jqs:V->List V->Hp->VK->Prop:=fun x xs H Q=>∃(a:Addr) (kvs:List (Key×V)),x=.ref a/\xs=[]/\H a=some (.dK kvs)/\∀p,H p=none->Q (.ref p) (upd H p (JeN p a))
theorem Jmj:MtR X "dict.values" Jqs:=by
 intro pins s σ H x xs v us Q I rx rs h;obtain⟨a,kvs,rfl,rfl,e,q⟩ :=h;cases rx;cases rs;obtain⟨z,hd,vs,rel,dd⟩ :=JiU I.hok e;refine call_meetsIn PySem.F.slot_dict_values dd.typeIs PySem.F.entry_dict_values (PySem.F.args_dict_values_1 _) (meets_dict_values (Yc X.prog X.w) a hd) ⟨⟨vs,dd⟩,?_⟩;exact⟨.ref s.heap.objs.size,_,I.laid (t':=s.toks) (fun b o y=>A4 _ y) (A5 _) (Jm9 ⟨_,Aw _ rfl,rfl,rfl⟩),rfl,q _ (I.hok.fresh (A5 _))⟩
theorem Jka{o:Expr}{to:TE}{apos cpos:Pos}(ho:PE X o to)(hbase:attributeBase o "values" X.env (eval o X.env)=eval o X.env:=by rfl)(hline:(apos.endLine==cpos.line)=true:=by rfl) :
  PE X (.Call (.Attribute o "values" apos) [] [] cpos) (JrW X.K "dict" Jqs to):=JmU PySem.F.plainAttrs_dict PySem.F.slot_dict_values PySem.F.type_dict_values Jmj ho hbase hline
theorem JiO:∀(ns:List Int),preSum (fun i=>ns.getD i 0) ns.length=ns.sum:=by
 have gen:∀(f:Nat->Int)(n:Nat),preSum f n=((List.range n).map f).sum:=by
  intro f n
  induction n with
  | zero=>rfl
  | succ n ih=>
   rw[List.range_succ,B4,List.sum_append,<- ih];simp[preSum]
 intro ns;rw[gen,Jgl]
theorem JhR(hc:X.calm=true):JbX X (.builtin "sum") (fun xs H Q=>∃(p a:Addr) (kvs:List (Key×V)) (ns:List Int),xs=[.ref p]/\H p=some (JeN p a)/\H a=some (.dK kvs)/\kvs.map (·.2)=ns.map V.int/\Q (.int ns.sum) H):=by
 intro pins s σ H xs us Q I r h;obtain⟨p,a,kvs,ns,rfl,hp,ha,hn,q⟩ :=h;obtain⟨u,rfl,ru⟩ :=Jds r;cases ru;have hv:s.heap.IsValuesView p a:=(I.hok p _ hp).1;obtain⟨z,hd,vs,rel,dd⟩ :=JiU I.hok ha;obtain⟨ep,hat⟩ :=dd.dictAt;have hlen:=rel.length
 have hnl:ns.length=vs.length:=by
  have:=congrArg List.length hn;rw[A2,A2]at this;omega
 have ok:s.heap.IsValuesView p a/\s.heap.DictAt (Yc X.prog X.w) a vs ep:=⟨hv,hat⟩;have K:=PySem.W.kdl_values (prog:=X.prog) (w:=X.w) (knd:=Yc X.prog X.w) (d:=a) (r:=p) (kvs:=vs) (ep:=ep);refine call_sum_walkAnyS ?_;obtain⟨oI,St,hit,W,st⟩ :=K.iter X.A.in1 s (I.ok.hd hc) ok;refine hit _ _ ⟨s.heap.objs.size,_,_,_,vs.length,_,_,fun i=>ns.getD i 0,rfl,W.toS,st,fun b hb=>?_,fun i v hP=>?_,fun s' t' hm=>?_⟩
 .show b<(s.heap.push oI).objs.size;rw[Heap.size_push]
  rcases Ax.mp hb with e|hb
  .rw[e];exact Nat.lt_succ_self _
  .rw[A7.mp hb];exact C6 (K.there _ ok).2
 .obtain⟨k,e⟩ :=hP;have hi:i<vs.length:=(A6.mp e).1;have rv:=(Jby rel i kvs[i] (k,v) (A3 (by omega)) e).2
  have en:(kvs.map (·.2))[i]?=some (V.int (ns.getD i 0)):=by
   rw[hn,Aq];have:ns[i]?=some ns[i]:=A3 (by omega);rw[this];simp[List.getD,this]
  rw[Aq,A3 (by omega)]at en;have en:kvs[i].2=V.int (ns.getD i 0):=Option.some.inj en;rw[en]at rv;exact rv
 .have hk:∀b o,s.heap.get? b=some o->s'.heap.get? b=some o:=fun b o e=>
   hm.heap b o (fun hI=>absurd (B3 e) (by rw[A7.mp hI];exact Nat.lt_irrefl _)) (A4 _ e)
  rw[Moved.eq_with hm];refine⟨.int ns.sum,H,I.kept (h':=s'.heap) (t':=s'.toks) hk,⟨t',?_⟩,q⟩;rw[<- hnl,JiO]
theorem JgX:∀{bs:List Bool}{us:List Value},YZ (bs.map V.bl) us->LSm.BoolsAre us bs
 | [],_,.nil=>.nil
 | x::r,_,.cons a t=>by
  cases(show _=Value.bool x from a);exact .cons x (JgX t)
theorem Jm1(hc:X.calm=true):JbX X (.builtin "all") (fun xs H Q=>∃(p:Addr)(bs:List Bool),xs=[.ref p]/\SqL X.K H p (bs.map V.bl)/\Q (.bl (bs.all id)) H):=by
 intro pins s σ H xs us Q I r h;obtain⟨p,bs,rfl,hq,q⟩ :=h;obtain⟨u,rfl,ru⟩ :=Jds r;cases ru;obtain⟨its,rv,pl,hz⟩ :=I.list hq;have bo:=JgX rv
 have lp:p<s.heap.objs.size:=let ⟨_,_,e,_⟩ :=pl;B3 e
 refine call_all_walk (wpAny_pyIter_list pl.isList ?_)
 refine⟨s.heap.objs.size,[s.heap.objs.size,p],[s.heap.objs.size],its.toArray.size,_,_,fun j=>(bs[j]?).getD true,rfl,Walks.list (A:=X.A.in1) (I.ok.hd hc) _ p (B6 lp) its.toArray,
  ⟨⟨_,Aw _ rfl,rfl,rfl⟩,pl.isList.push _⟩,fun j v s1 Q1 E1 hj k1=>?_,fun h1 t1 k1=>?_⟩
 .obtain⟨b,e,rfl⟩ :=bo.get j v (by simpa using hj);simp only[e,Option.getD_some]at k1;exact wpAny_truthy_bool k1
 .have e:((List.range its.toArray.size).all fun j=>(bs[j]?).getD true)=bs.all id:=by
   rw[B0,bo.length];exact LSm.range_all bs
  rw[e];exact⟨.bl (bs.all id),H,I.kept (h':=h1) (t':=t1) (LSm.kept_iter k1),rfl,q⟩
theorem JlP(hc:X.calm=true):JbX X (.builtin "any") (fun xs H Q=>∃(p:Addr)(bs:List Bool),xs=[.ref p]/\SqL X.K H p (bs.map V.bl)/\Q (.bl (bs.any id)) H):=by
 intro pins s σ H xs us Q I r h;obtain⟨p,bs,rfl,hq,q⟩ :=h;obtain⟨u,rfl,ru⟩ :=Jds r;cases ru;obtain⟨its,rv,pl,hz⟩ :=I.list hq;have bo:=JgX rv
 have lp:p<s.heap.objs.size:=let ⟨_,_,e,_⟩ :=pl;B3 e
 refine call_any_walk (wpAny_pyIter_list pl.isList ?_)
 refine⟨s.heap.objs.size,[s.heap.objs.size,p],[s.heap.objs.size],its.toArray.size,_,_,fun j=>(bs[j]?).getD false,rfl,Walks.list (A:=X.A.in1) (I.ok.hd hc) _ p (B6 lp) its.toArray,
  ⟨⟨_,Aw _ rfl,rfl,rfl⟩,pl.isList.push _⟩,fun j v s1 Q1 E1 hj k1=>?_,fun h1 t1 k1=>?_⟩
 .obtain⟨b,e,rfl⟩ :=bo.get j v (by simpa using hj);simp only[e,Option.getD_some]at k1;exact wpAny_truthy_bool k1
 .have e:((List.range its.toArray.size).any fun j=>(bs[j]?).getD false)=bs.any id:=by
   rw[B0,bo.length];exact LSm.range_any bs
  rw[e];exact⟨.bl (bs.any id),H,I.kept (h':=h1) (t':=t1) (LSm.kept_iter k1),rfl,q⟩
theorem Jnq{P:Program}{w:World}{a:Addr}{vs:List (Key×Value)}{ep:Nat}(hd:(a==sysModules)=false)(hz:vs.length<=B2) :
  Src P w "dict" a (fun us=>us.length=vs.length/\∀(j:Nat) u,us[j]?=some u->∃k x,vs[j]?=some (k,x)/\JhZ k u=true) (fun h=>h.DictAt (Yc P w) a vs ep) where
 ty:=fun s G=>G.dictOf.typeIs
 lt:=fun h G=>G.lt_size
 stay:=fun h h' G k=>G.at' k
 nl:=by decide
 nt:=by decide
 hint:=fun A E s Q G q=>PySem.W.kdl_hint_dict G.dictOf.typeIs (q false s.toks (A5 _))
 iter:=fun A E s Q hh G q=>by
  refine wpAny_pyIter_dict hd G ?_;refine q _ s.drawn s.heap.objs.size [s.heap.objs.size,a] vs.length _ _ (fun b o z=>A4 _ z) (A5 _) (fun b hb=>?_) hz ?_ (Walks.dictKeys (knd:=Yc P w) hh _ a (B6 G.lt_size) vs ep) ⟨⟨_,Aw _ rfl,rfl,rfl⟩,G.push _⟩
  .rcases Ax.mp hb with e|hb
   .exact .inr (by rw[e];exact A5 _)
   .exact .inl (A7.mp hb)
  .exact fun us hl hv=>⟨hl,hv⟩
theorem JhN(hc:X.calm=true):JbX X (.builtin "sorted") (fun xs H Q=>∃(p:Addr) (kvs:List (Key×V)) (ns:List Int),xs=[.ref p]/\H p=some (.dK kvs)/\kvs.map (·.1)=ns.map Az/\ns.length<64/\
  ∀(l:Addr)(rs:List Int),H l=none->rs.Perm ns->rs.Pairwise (·<=·)->Q (.ref l) (upd H l (.lst (rs.map V.int)))):=by
 intro pins s σ H xs us Q I r h;obtain⟨p,kvs,ns,rfl,hp,hn,hl,q⟩ :=h;obtain⟨u,rfl,ru⟩ :=Jds r;cases ru;obtain⟨z,hd,vs,rel,dd⟩ :=JiU I.hok hp;obtain⟨ep,hat⟩ :=dd.dictAt;have hlen:=rel.length
 have hnl:ns.length=kvs.length:=by
  have:=congrArg List.length hn;rw[A2,A2]at this;omega
 refine Src.sorted (Jnq hd (by rw[<- hlen];exact z)) (I.ok.hd hc) hat ns (fun us ⟨h1,h2⟩ =>⟨ns,?_,List.Perm.refl _⟩) hl fun h' tk d D out c rs k lD gD ia pm so=>?_
 .have gen:∀(us:List Value)(ns:List Int),us.length=ns.length->(∀(j:Nat) u n,us[j]?=some u->ns[j]?=some n->∃t,u=.int n t)->IntsAre us ns:=by
   intro us
   induction us with
   | nil=>
    intro ns hl _
    cases ns with
    | nil=>exact .nil
    | cons n r=>cases hl
   | cons u us ih=>
    intro ns hl hv
    cases ns with
    | nil=>cases hl
    | cons n r=>
     obtain⟨t,rfl⟩ :=hv 0 u n rfl rfl;exact .cons _ t (ih r (by simpa using hl) fun j x y hx hy=>hv (j+1) x y (by simpa using hx) (by simpa using hy))
  refine gen us ns (by omega) fun j u n hu hn'=>?_;obtain⟨k,x,e1,e2⟩ :=h2 j u hu
  have hj:j<kvs.length:=by
   have:=(A6.mp hn').1;omega
  have e3:=(Jby rel j kvs[j] (k,x) (A3 hj) e1).1
  have e4:(kvs.map (·.1))[j]?=some (Az n:Key):=by rw[hn,Aq,hn'];rfl
  rw[Aq,A3 hj]at e4;have e4:kvs[j].1=(Az n:Key):=Option.some.inj e4;have e3:kvs[j].1=k:=e3;rw[<- e3,e4]at e2;exact Jhl e2
 .refine⟨.ref D,_,(I.laid (t':=tk) k lD (show Ym X.prog X.w _ h' D (.lst (rs.map V.int)) from⟨?_,out.toList,c,JdW ia,gD⟩)).draw d,rfl,q D rs (I.hok.fresh lD) pm so⟩;rw[A2,pm.length_eq,sizeLine_eq];omega
noncomputable def Jsa(td ty tx:TE):TE:=fun σ H Q=>td σ H fun x H1=>∃a,x=.ref a/\IsD H1 a/\ty σ H1 fun y H2=>tx σ H2 fun z H3=>∃kvs k,H3 a=some (.dK kvs)/\y=kV k/\kvs.length<B2/\
 (∀v,Jau kvs k=some v->Q v H3)/\(Jau kvs k=none->Q z (upd H3 a (.dK (Yt kvs k z))))
theorem Joi{o e f:Expr}{apos cpos:Pos}{td ty tx:TE}(ho:PE X o td)(he:PE X e ty)(hf:PE X f tx)(m:M2 X o "setdefault" apos e f cpos):PE X (.Call (.Attribute o "setdefault" apos) [e,f] [] cpos) (Jsa td ty tx):=by
 intro pins s σ H Q I h;refine wpAny_Call_method m.base m.few m.line PySem.F.plainAttrs_dict PySem.F.slot_dict_setdefault PySem.F.type_dict_setdefault (thn (ho pins s σ H _ I h) fun u s1 hzz=>?_);obtain⟨x,H1,I1,rx,a,ex,d,q1⟩ :=hzz;subst ex;obtain rfl:u=Value.ref a:=rx;obtain⟨t1,t2,_⟩ :=JoZ I1 d;refine⟨t1,t2,?_⟩;rw[m.trees];refine Calls.callWith_builtin rfl (Calls.evalArgs_plain (Calls.spliced_cons (thn (he pins s1 σ H1 _ I1 q1) fun iv s2 hzz=>?_)));obtain⟨y,H2,I2,ry,q2⟩ :=hzz;refine Calls.spliced_cons (thn (hf pins s2 σ H2 _ I2 q2) fun fv s3 hzz=>?_);obtain⟨z,H3,I3,rz,kvs,k,e3,ey,hl,g1,g2⟩ :=hzz;refine Calls.spliced_nil ?_;subst ey;obtain⟨hz,hd,vs,rel,dd⟩ :=JiU I3.hok e3;have hlen:=rel.length;refine call_meetsIn PySem.F.slot_dict_setdefault dd.typeIs PySem.F.entry_dict_setdefault (PySem.F.args_dict_setdefault_3 _ _ _) (kt_meets_setdefault (Yc X.prog X.w) a (JkC ry) hd fv) ⟨vs,dd,by rw[<- hlen];exact hz,fun v hv=>?_,fun hn h' dd' hs=>?_⟩
 .have rk:=rel.val k
  cases e:Jau kvs k with
  | none=>
   rw[e]at rk;rw[rk.none_of]at hv;cases hv
  | some v'=>
   rw[e]at rk;obtain⟨u',e1,rv⟩ :=rk.some_of;rw[hv]at e1;cases e1;exact⟨v',H3,I3.tok _,rv,g1 v' e⟩
 .have e:Jau kvs k=none:=by
   have rk:=rel.val k
   cases e:Jau kvs k with
   | none=>rfl
   | some v'=>
    rw[e]at rk;obtain⟨u',e1,rv⟩ :=rk.some_of;rw[hn]at e1;cases e1
  have he':∃q,h'.get? a=some q:=let ⟨q,_,_,hq,_⟩ :=dd';⟨q,hq⟩
  have hl':(Yt kvs k z).length<=B2:=by have:=Jcd kvs k z;omega
  exact⟨z,_,JgR I3 (by rw[e3];exact True.intro) hs he' (JlJ hl' hd (rel.put k rz) dd'),rz,g2 e⟩
noncomputable def Jck(p a:Addr):HO:=.ext fun h=>h.IsItemsView p a
theorem Jkq{P:Program}{w:World}{H:Hp}{h:Heap}{p a:Addr}(v:h.IsItemsView p a):Ym P w H h p (Jck p a):=
 ⟨v,let ⟨o,e,_⟩ :=v;⟨o,e⟩,fun h1 h2 y k=>let ⟨o,e,x⟩ :=y;⟨o,k o e,x⟩⟩
noncomputable def Joo:V->List V->Hp->VK->Prop:=fun x xs H Q=>∃(a:Addr) (kvs:List (Key×V)),x=.ref a/\xs=[]/\H a=some (.dK kvs)/\∀p,H p=none->Q (.ref p) (upd H p (Jck p a))
theorem Jnh:MtR X "dict.items" Joo:=by
 intro pins s σ H x xs v us Q I rx rs h;obtain⟨a,kvs,rfl,rfl,e,q⟩ :=h;cases rx;cases rs;obtain⟨z,hd,vs,rel,dd⟩ :=JiU I.hok e;refine call_meetsIn PySem.F.slot_dict_items dd.typeIs PySem.F.entry_dict_items (PySem.F.args_dict_items_1 _) (meets_dict_items (Yc X.prog X.w) a hd) ⟨⟨vs,dd⟩,?_⟩;exact⟨.ref s.heap.objs.size,_,I.laid (t':=s.toks) (fun b o y=>A4 _ y) (A5 _) (Jkq ⟨_,Aw _ rfl,rfl,rfl⟩),rfl,q _ (I.hok.fresh (A5 _))⟩
theorem Jft{o:Expr}{to:TE}{apos cpos:Pos}(ho:PE X o to)(hbase:attributeBase o "items" X.env (eval o X.env)=eval o X.env:=by rfl)(hline:(apos.endLine==cpos.line)=true:=by rfl) :
  PE X (.Call (.Attribute o "items" apos) [] [] cpos) (JrW X.K "dict" Joo to):=JmU PySem.F.plainAttrs_dict PySem.F.slot_dict_items PySem.F.type_dict_items Jnh ho hbase hline
end
noncomputable def Iti(a:Addr)(o:Obj)(kvs:List (Key×V)):It:=
 ⟨fun i H=>H a=some (.frz o (.dK kvs))/\i<kvs.length,fun i H x H'=>∃t k v,kvs[i]?=some (k,v)/\H t=none/\x=.ref t/\H'=upd H t (.tup [kV k,v]),fun i H=>H a=some (.frz o (.dK kvs))/\kvs.length<=i⟩
theorem JkJ{P:Program}{w:World}{K:WF}{es:List Expr}{kk:Nat}{tp:Pos}(a it:Addr)(o:Obj)(kvs:List (Key×V)) :
  Jod P w K (.Tuple es kk tp) (Iti a o kvs) [it] it (fun i h=>∃ok ov,IsItemIter h it a i kvs.length (Jru o) ok ov) where
 mem:=Aj
 obj:=fun i h hi b hb=>by
  have e:b=it:=by simpa using hb
  subst e;obtain⟨ok,ov,h1⟩ :=hi;exact⟨_,h1,fun v z=>nomatch z⟩
 keep:=fun i h h' ⟨ok,ov,h1⟩ k=>⟨ok,ov,k it Aj _ h1⟩
 item:=fun X hP hw hK hc i pins s σ H E I f hi go=>by
  subst hP hw hK;obtain⟨e,hlt⟩ :=go;obtain⟨_,vs,rel,hat⟩ :=Jga I e;have hlen:=rel.length;obtain⟨ok,ov,hi⟩ :=hi
  have hv:i<vs.length:=by omega
  have hit:s.heap.get? it≠none:=by rw[hi];exact fun z=>nomatch z
  refine wpAny_pyNext_items_item (k:=(vs[i]).1) (v:=(vs[i]).2) (by rw[<- hlen];exact hi) hat (A3 hv) fun key h' hkey ho hT hsz hk=>⟨_,rfl,?_⟩;refine wpAny_letOwnedTupleGo_items ho fun h2 he2 hs2=>?_;have lt:s.heap.objs.size≠it:=Nat.ne_of_gt (B3 hi);have pr:=Jby rel i kvs[i] vs[i] (A3 hlt) (A3 hv);have e1:(kvs[i]).1=(vs[i]).1:=pr.1;have Iz:=I.turnedT (h':=h2) (ch:=[it]) (x:=kV (kvs[i]).1) (y:=(kvs[i]).2) (u:=key) (v:=(vs[i]).2) (fun c q hcn hq=>?_) f (fun c hcn=>?_) (by rw[e1];exact Jhl hkey) pr.2 (hs2.extBut _ _ lt hT)
  .refine⟨.ref s.heap.objs.size,_,Iz,rfl,⟨_,(kvs[i]).1,(kvs[i]).2,A3 hlt,I.hok.fresh (A5 _),rfl,rfl⟩,⟨_,_,by rw[hlen];exact he2⟩,fun c hcn=>?_⟩;rw[A7.mp hcn,Jf lt.symm];exact(f it Aj).1
  .have hcn:c≠it:=fun z=>hcn (by simp[z]);exact hs2.extBut _ _ hcn (hk c q hcn hq)
  .rw[A7.mp hcn];exact⟨_,he2⟩
 done:=fun X hP hw hK hc i pins s σ H E I f hi stop=>by
  subst hP hw hK;obtain⟨e,hle⟩ :=stop;obtain⟨_,vs,rel,hat⟩ :=Jga I e;have hlen:=rel.length;obtain⟨ok,ov,hi⟩ :=hi;obtain⟨f0,f1,f2,f3,f4,f5⟩ :=f it Aj;exact wpAny_pyNext_items_end (I.ok.hd hc) (by rw[<- hlen];exact hi) hat (Cz (by omega)) fun h' hx=>⟨rfl,I.turned (t':=s.toks) (fun b q hb eq=>hx b q hb eq) f0 f1 f3 f4 f5⟩
 self:=fun A i s Q E hi q=>by
  obtain⟨ok,ov,hi⟩ :=hi;exact PySem.W.kcp_self hi q
noncomputable def Jrm(H₀:Hp)(td:TE):TI:=fun σ H R=>td σ H fun x H1=>∃(p a:Addr) (kvs:List (Key×V)),x=.ref p/\H1 p=some (Jck p a)/\H1 a=some (.dK kvs)/\∀o,JgH H₀ a->R (Iti a o kvs) (upd H1 a (.frz o (.dK kvs)))
theorem JgT{X:Cx}{es:List Expr}{kk:Nat}{tp:Pos}{l:Expr}{tl:TE}(hl:PE X l tl):PI X (.Tuple es kk tp) l (Jrm X.H₀ tl):=by
 intro pins s σ H R I h;refine thn (hl pins s σ H _ I h) fun v s1 hzz=>?_;obtain⟨x,H1,I1,r1,q1⟩ :=hzz;obtain⟨p,a,kvs,e,hp,hd,q⟩ :=q1;subst e;cases r1
 have nf:=I1.notFrz hd fun _ _ z=>nomatch z
 have hv:s1.heap.IsItemsView p a:=(I1.hok p _ hp).1;obtain⟨o,I2⟩ :=I1.freeze hd;obtain⟨hs,vs,rel,hat⟩ :=Jga I2 Ja;have hlen:=rel.length;refine wpAny_pyIter_items hv hat ?_;refine⟨s1.heap.objs.size,[s1.heap.objs.size],_,_,_,rfl,I2.kept (t':=s1.toks) fun b ob e=>A4 _ e,JkJ a _ o kvs,⟨.none,.none,by rw[hlen];exact Aw _ rfl⟩,fun b hb=>?_,q o nf⟩
 have e:b=s1.heap.objs.size:=by simpa using hb
 subst e;exact I2.fpOk (A5 _) (I2.hok.fresh (A5 _))
theorem Jfx{a:Addr}{o:Obj}{kvs:List (Key×V)}{g:TG}{tb:TS}{D:Jnf}{σ:St}{H:Hp}(Pv:Nat->St->Hp->Prop)(h0:Pv 0 σ H)(hl:∀i σ H,i<=kvs.length->Pv i σ H->H a=some (.frz o (.dK kvs)))
  (hs:∀i k v t σ H,kvs[i]?=some (k,v)->Pv i σ H->H t=none->g (.ref t) σ (upd H t (.tup [kV k,v])) fun σ2 H2=>tb { D with nx:=Pv (i+1),ct:=Pv (i+1),bk:=D.nx } σ2 H2) (hd:∀σ H,Pv kvs.length σ H->D.nx σ H) :
  ∃W:Nat->Nat->St->Hp->Prop,(∃m,W 0 m σ H)/\∀i m σ H,W i m σ H->
   ((Iti a o kvs).stop i H/\D.nx σ H)\/((Iti a o kvs).go i H/\∃N:St->Hp->Prop,(∀σ' H',N σ' H'->∃m',m'<m/\W (i+1) m' σ' H')/\∀x H',(Iti a o kvs).yld i H x H'->g x σ H' fun σ2 H2=>tb { D with nx:=N,ct:=N,bk:=D.nx } σ2 H2):=by
 refine⟨fun i m σ H=>m=kvs.length-i/\i<=kvs.length/\Pv i σ H,⟨kvs.length,by simp,Bz _,h0⟩,?_⟩;rintro i m σ H ⟨rfl,hi,p⟩;have q:=hl i σ H hi p
 by_cases hlt:i<kvs.length
 .refine .inr ⟨⟨q,hlt⟩,Pv (i+1),fun σ' H' p'=>⟨kvs.length-(i+1),by omega,rfl,hlt,p'⟩,fun x H' y=>?_⟩;obtain⟨t,k,v,e1,e2,e3,e4⟩ :=y;subst e3 e4;exact hs i k v t σ _ e1 p e2
 .have e:i=kvs.length:=by omega
  subst e;exact .inl ⟨⟨q,A5 _⟩,hd σ H p⟩
end L2
namespace L2
open PySem PySem.Spec PyProof.Rows
theorem Fun.okR{P:Program}{w:World}{K:WF}{mg:MO}{base:Heap}{x qual:Str}{st:Stmt}{f:Addr}{fd:FuncData}{N ps:List Str}{k:Nat}{sp:Sp}(F:Fun K x qual st f fd)(S:Jw N ps (Jj st))
  (len:∀vs H Q E,sp vs H Q E->vs.length=ps.length)
  (hbody:∀(cdv:Value)(A:Around)(outer:List Env)(s:Shared)(H:Hp)(vs:List V)(Q:VK)(E:XK),Jee k (A.deeper (envOfC qual (Jj st) s.heap.objs.size f cdv))->sp vs H Q E->
   ∃t,PSs (cxR P w K mg base N qual (Jj st) f cdv A outer s H E) (YM st) t/\t { nx:=fun _ H'=>Q .non H',rt:=Q } (Jg4 N vs) H):YO P w K mg base (CXr P w) (k+1) f fd ps sp:=by
 obtain⟨oc,od,kV,doc,pm,an,cdv,ct,osl,rfl,lk,hcd⟩ :=F.ex;exact Jq5 lk hcd S len fun A outer s H vs Q E hr hsp=>hbody cdv A outer s H vs Q E hr hsp
theorem Jhk{X:Cx}{x:Str}{n:Int}{pos:Pos}(hg:Gl X x)(h:∃t,X.mg x=some (.int n t))(hd:(x==("__debug__" : Str))=false:=by decide):PE X (.Name x pos) (tC (.int n)):=by
 obtain⟨t,e⟩ :=h;exact Jpf hg e ⟨t,rfl⟩ hd
end L2
namespace Wb
open PySem PySem.Spec PyProof.Rows L2
structure JaF(P:Program)(w:World)(K:WF)(mg:MO)(base:Heap)(CX:CXT)(C:Addr)(m:Str)(ps:List Str)(sp:Sp)(k:Nat)(f:Addr)(fd:FuncData):Prop where
 ok:YO P w K mg base CX k f fd ps sp
 meth:Jrs K C m f
 b:Jdi K fd ps []
structure JlF(P:Program)(w:World)(K:WF)(mg:MO)(base:Heap)(x:Str)(ps:List Str)(sp:Sp)(k:Nat)(f:Addr)(fd:FuncData):Prop where
 ok:YO P w K mg base (CXr P w) k f fd ps sp
 mg:mg x=some (.ref f)
 kp:PySem.W.keepIn K (.ref f)=true
 b:Jdi K fd ps []
noncomputable def ivs(ts:II):List (Key×V):=ts.map fun p=>(Az p.1,V.int p.2)
theorem Jdz(k:Int):∀ts:II,Jau (ivs ts) (Az k:Key)=(YB ts k).map V.int
 | []=>rfl
 | p::r=>by
  by_cases c:p.1=k
  .rw[show ivs (p::r)=(Az p.1,V.int p.2)::ivs r from rfl,Y2 (p:=((Az p.1:Key),V.int p.2)) (congrArg Az c)];simp[YB,List.find?_cons,c]
  .rw[show ivs (p::r)=(Az p.1,V.int p.2)::ivs r from rfl,Y4 (p:=((Az p.1:Key),V.int p.2)) (fun z=>c (Az.inj z)),Jdz k r];simp[YB,List.find?_cons,c]
theorem Jo6(k:Int)(ts:II):((ivs ts).any fun kv=>decide (kv.1=(Az k:Key)))=ts.any fun p=>decide (p.1=k):=by
 unfold ivs;rw[List.any_map];congr 1;funext p;simp
theorem Jg8(ts:II)(k x:Int):Yt (ivs ts) (Az k:Key) (V.int x)=ivs (Jax ts k x):=by
 unfold Yt Jax;rw[Jo6];split
 .unfold ivs;rw[List.map_map,List.map_map];refine C7 fun p _=>?_
  by_cases c:p.1=k
  .simp[c]
  .simp[c]
 .unfold ivs;rw[B4];rfl
theorem JnN(ts:II):(ivs ts).map (·.1)=(ts.map (·.1)).map Az:=by
 unfold ivs;rw[List.map_map,List.map_map];rfl
theorem JgV(ts:II):(ivs ts).map (·.2)=(ts.map (·.2)).map V.int:=by
 unfold ivs;rw[List.map_map,List.map_map];rfl
theorem Jdq(ts:II):(ivs ts).length=ts.length:=A2 _
theorem Jc2{α:Type}(ts:List (Int×α))(k:Int)(x:α):(Jax ts k x).length<=ts.length+1:=by
 unfold Jax;split
 .rw[A2];omega
 .rw[Ak];simp
noncomputable def JfG(ts:II)(k x:Int):II:=Jax ts k ((YB ts k).getD 0+x)
noncomputable def hbw(days:II):II:=days.foldl (fun acc p=>JfG acc (p.1/7) p.2) []
noncomputable def JaU(h w:Int)(rates:List (Int×List Bd)):Int:=match JeU rates w with
 | none=>0
 | some bs=>lv h 0 bs
noncomputable def pbm(hb:II)(last:Int)(rates:List (Int×List Bd)):II:=
 hb.foldl (fun acc p=>if p.1<=last then JfG acc (p.1/4) (JaU p.2 p.1 rates)else acc) []
noncomputable def nbm(pb:II)(dues:List (Int×Tab)):II:=pb.foldl (fun acc p=>Jax acc p.1 (JdZ p.2 (JeU dues p.1))) []
noncomputable def srt(ks:List Int):List Int:=ks.mergeSort (fun a b=>decide (a<=b))
noncomputable def JeF(old new:II):II:=((srt (new.map (·.1))).map fun m=>(m,(YB new m).getD 0-(YB old m).getD 0)).filter fun p=>decide (p.2≠0)
theorem JlI{ks rs:List Int}(p:rs.Perm ks)(s:rs.Pairwise (·<=·)):rs=srt ks:=by
 have h1:(srt ks).Perm ks:=List.mergeSort_perm ks _;have h2:(srt ks).Pairwise (fun a b=>decide (a<=b)=true):=List.pairwise_mergeSort (fun a b c h1 h2=>by simp at *;omega) (fun a b=>by simp;omega) ks;have h3:(srt ks).Pairwise (·<=·):=h2.imp fun z=>of_decide_eq_true z;exact(p.trans h1.symm).eq_of_pairwise (le:=fun a b=>a<=b) (fun a b _ _ h1 h2=>by omega) s h3
structure Pn where
 days:II
 paid:Int
 last:Option Int
 nets:II
noncomputable def Pn.nw:Pn:=⟨[],0,none,[]⟩
structure PB where
 keys:List Str
 pn:Str->Pn
 rates:List (Int×List Bd)
 dues:List (Int×Tab)
noncomputable def PB.new:PB:=⟨[],fun _=>Pn.nw,[],[]⟩
noncomputable def PB.touch(M:PB)(who:Str):PB:=if who∈M.keys then M else{ M with keys:=M.keys++[who] }
noncomputable def PB.set(M:PB)(who:Str)(p:Pn):PB:={ M with pn:=fun y=>if y=who then p else M.pn y }
noncomputable def Jai(M:PB)(who:Str)(last:Int):II:=nbm (pbm (hbw (M.pn who).days) last M.rates) M.dues
noncomputable def JaA(M:PB)(who:Str)(last:Int):Int:=((Jai M who last).map (·.2)).sum
noncomputable def Jlu(M:PB)(who:Str)(week:Int):Int:=JaU ((YB (hbw (M.pn who).days) week).getD 0) week M.rates
noncomputable def Jdo(M:PB)(who:Str)(week:Int):Bool:=match(M.pn who).last with
 | none=>false
 | some l=>decide (week<l)
noncomputable def Jak(M:PB):Y7->Dt×PB
 | .hours who day many=>
  if 0<=many/\many<=24 then
   let M':=(M.touch who).set who { (M.pn who)with days:=Jax (M.pn who).days day many }
   (.int (Jlu M' who (day/7)),M')
  else(.str "no hours",M)
 | .rate week bs=>if Jbo none bs=true then(.str "told",{ M with rates:=Jax M.rates week bs })else(.str "no table",M)
 | .dues month t=>if Jd2 t=true then(.str "told",{ M with dues:=Jax M.dues month t })else(.str "no table",M)
 | .payday who week=>
  if Jdo M who week=true then(.str "too early",M.touch who)
  else
   let left:=JaA M who week-(M.pn who).paid
   (.tup [.int (mx 0 left),.int (mn 0 left),.lst ((JeF (M.pn who).nets (Jai M who week)).map fun p=>.tup [.int p.1,.int p.2])],
    (M.touch who).set who { (M.pn who)with paid:=(M.pn who).paid+mx 0 left,last:=some week,nets:=Jai M who week })
 | .pay who week=>(.int (Jlu M who week),M.touch who)
 | .net who week=>(.int ((YB (Jai M who week) (week/4)).getD 0),M.touch who)
 | .right who week=>(.int (JaA M who week),M.touch who)
 | .owing who week=>(.int (JaA M who week-(M.pn who).paid),M.touch who)
 | .paid who=>(.int (M.pn who).paid,M.touch who)
theorem nDP:¬(("days" : Str) = "paid"):=by decide +kernel
theorem nDW:¬(("days" : Str) = "last_week"):=by decide +kernel
theorem nDN:¬(("days" : Str) = "last_nets"):=by decide +kernel
theorem nPW:¬(("paid" : Str) = "last_week"):=by decide +kernel
theorem nPN:¬(("paid" : Str) = "last_nets"):=by decide +kernel
theorem nWN:¬(("last_week" : Str) = "last_nets"):=by decide +kernel
theorem nQR:¬(("people" : Str) = "rates"):=by decide +kernel
theorem nQU:¬(("people" : Str) = "dues"):=by decide +kernel
theorem nRU:¬(("rates" : Str) = "dues"):=by decide +kernel
noncomputable def fP(dd:Addr)(paid:Int)(last:Option Int)(nn:Addr):List (Str×V):=[("days",.ref dd),("paid",.int paid),("last_week",oV last),("last_nets",.ref nn)]
noncomputable def fB(pd rd ud:Addr):List (Str×V):=[("people",.ref pd),("rates",.ref rd),("dues",.ref ud)]
theorem Jc6(dd:Addr)(paid:Int)(last:Option Int)(nn:Addr):Jdb "last_nets" (.ref nn) (Jdb "last_week" (oV last) (Jdb "paid" (.int paid) (Jdb "days" (.ref dd) [])))=fP dd paid last nn:=by
 simp only[Jdb,nDP,nDW,nDN,nPW,nPN,nWN,if_false,fP]
theorem JdQ(pd rd ud:Addr):Jdb "dues" (.ref ud) (Jdb "rates" (.ref rd) (Jdb "people" (.ref pd) []))=fB pd rd ud:=by
 simp only[Jdb,nQR,nQU,nRU,if_false,fB]
theorem Jmn(dd:Addr)(paid:Int)(last:Option Int)(nn:Addr):(fP dd paid last nn).lookup ("days" : Str)=some (.ref dd):=by rw[<- Jc6];simp only[Yn,nDP,nDW,nDN,if_false,if_true]
theorem JfQ(dd:Addr)(paid:Int)(last:Option Int)(nn:Addr):(fP dd paid last nn).lookup ("paid" : Str)=some (.int paid):=by rw[<- Jc6];simp only[Yn,nPW,nPN,if_false,if_true]
theorem JlX(dd:Addr)(paid:Int)(last:Option Int)(nn:Addr):(fP dd paid last nn).lookup ("last_week" : Str)=some (oV last):=by rw[<- Jc6];simp only[Yn,nWN,if_false,if_true]
theorem JmQ(dd:Addr)(paid:Int)(last:Option Int)(nn:Addr):(fP dd paid last nn).lookup ("last_nets" : Str)=some (.ref nn):=by rw[<- Jc6];simp only[Yn,if_true]
theorem Jhm(dd:Addr)(paid:Int)(last:Option Int)(nn:Addr){m:Str}(h1:¬m = "days")(h2:¬m = "paid")(h3:¬m = "last_week")(h4:¬m = "last_nets"):(fP dd paid last nn).lookup m=none:=by
 rw[<- Jc6];simp only[Yn,h1,h2,h3,h4,if_false];rfl
theorem JfF(dd:Addr)(paid x:Int)(last:Option Int)(nn:Addr):Jdb "paid" (.int x) (fP dd paid last nn)=fP dd x last nn:=by simp only[fP,Jdb,nDP,if_false,if_true]
theorem Jfs(dd:Addr)(paid x:Int)(last:Option Int)(nn:Addr):Jdb "last_week" (.int x) (fP dd paid last nn)=fP dd paid (some x) nn:=by simp only[fP,Jdb,nDW,nPW,if_false,if_true,oV]
theorem Jff(dd:Addr)(paid:Int)(last:Option Int)(nn x:Addr):Jdb "last_nets" (.ref x) (fP dd paid last nn)=fP dd paid last x:=by simp only[fP,Jdb,nDN,nPN,nWN,if_false,if_true]
theorem Jmo(pd rd ud:Addr):(fB pd rd ud).lookup ("people" : Str)=some (.ref pd):=by rw[<- JdQ];simp only[Yn,nQR,nQU,if_false,if_true]
theorem Je7(pd rd ud:Addr):(fB pd rd ud).lookup ("rates" : Str)=some (.ref rd):=by rw[<- JdQ];simp only[Yn,nRU,if_false,if_true]
theorem Jjp(pd rd ud:Addr):(fB pd rd ud).lookup ("dues" : Str)=some (.ref ud):=by rw[<- JdQ];simp only[Yn,if_true]
theorem Jdy(pd rd ud:Addr){m:Str}(h1:¬m = "people")(h2:¬m = "rates")(h3:¬m = "dues"):(fB pd rd ud).lookup m=none:=by
 rw[<- JdQ];simp only[Yn,h1,h2,h3,if_false];rfl
structure YF(CP:Addr)(H:Hp)(p dd nn:Addr)(q:Pn):Prop where
 ob:∃dx,H p=some (.ins CP dx (fP dd q.paid q.last nn))
 days:H dd=some (.dK (ivs q.days))
 nets:H nn=some (.dK (ivs q.nets))
theorem YF.same{CP:Addr}{H H':Hp}{p dd nn:Addr}{q:Pn}(h:YF CP H p dd nn q)(s:JX H H'):YF CP H' p dd nn q:=
 ⟨let ⟨dx,e⟩ :=h.ob;⟨dx,s _ _ e⟩,s _ _ h.days,s _ _ h.nets⟩
structure Ad where
 (p dd nn:Addr)
structure BL where
 (b pd rd ud:Addr)
 ad:Str->Ad
def Mu(L:BL)(M:PB)(c:Addr):Prop:=c=L.pd\/c=L.rd\/c=L.ud\/∃w∈M.keys,c=(L.ad w).p\/c=(L.ad w).dd
structure Yg(CB CP:Addr)(H:Hp)(L:BL)(M:PB):Prop where
 ob:∃dx,H L.b=some (.ins CB dx (fB L.pd L.rd L.ud))
 people:H L.pd=some (.dK (M.keys.map fun w=>(A8 w,.ref (L.ad w).p)))
 nd:M.keys.Nodup
 rates:Jag (YQ H) H L.rd M.rates
 dues:Jag (JbL H) H L.ud M.dues
 per:∀w∈M.keys,YF CP H (L.ad w).p (L.ad w).dd (L.ad w).nn (M.pn w)
 non:∀w,w∉M.keys->M.pn w=Pn.nw
 app:∀v∈M.keys,∀w∈M.keys,v≠w->(L.ad v).p≠(L.ad w).p
 apd:∀v∈M.keys,∀w∈M.keys,v≠w->(L.ad v).dd≠(L.ad w).dd
 apn:∀v∈M.keys,∀w∈M.keys,(L.ad v).dd≠(L.ad w).nn
 pr:L.pd≠L.rd
 pu:L.pd≠L.ud
 ru:L.rd≠L.ud
 dp:∀w∈M.keys,(L.ad w).dd≠L.pd/\(L.ad w).dd≠L.rd/\(L.ad w).dd≠L.ud
 np:∀w∈M.keys,(L.ad w).nn≠L.pd/\(L.ad w).nn≠L.rd/\(L.ad w).nn≠L.ud
theorem Jag.mono{α:Type}{R R':α->V->Prop}{H H':Hp}{d:Addr}{ts:List (Int×α)}(h:Jag R H d ts)(e:H' d=H d)(f:∀x v,R x v->R' x v):Jag R' H' d ts:=by
 obtain⟨kvs,e1,pr⟩ :=h;exact⟨kvs,by rw[e];exact e1,JP (fun p q z=>⟨z.1,f _ _ z.2⟩) pr⟩
theorem Yg.same{CB CP:Addr}{H H':Hp}{L:BL}{M:PB}(h:Yg CB CP H L M)(s:JX H H'):Yg CB CP H' L M:=by
 obtain⟨kr,e2,r2⟩ :=h.rates;obtain⟨ku,e3,r3⟩ :=h.dues;have g2:∀(p:Key×V)(q:Int×List Bd),(p.1=Az q.1/\YQ H q.2 p.2)->(p.1=Az q.1/\YQ H' q.2 p.2):=fun p q ⟨z,a,e,b⟩ =>⟨z,a,e,b.same s⟩;have g3:∀(p:Key×V)(q:Int×Tab),(p.1=Az q.1/\JbL H q.2 p.2)->(p.1=Az q.1/\JbL H' q.2 p.2):=fun p q ⟨z,a,c,e,t,b⟩ =>⟨z,a,c,e,s _ _ t,b.same s⟩;exact⟨let ⟨dx,e⟩ :=h.ob;⟨dx,s _ _ e⟩,s _ _ h.people,h.nd,⟨kr,s _ _ e2,JP g2 r2⟩,⟨ku,s _ _ e3,JP g3 r3⟩,fun w hw=>(h.per w hw).same s,h.non,h.app,h.apd,h.apn,h.pr,h.pu,h.ru,h.dp,h.np⟩
structure Je8(L:BL)(M M':PB)(L':BL)(H H':Hp):Prop where
 keep:∀c o,H c=some o->¬Mu L M c->H' c=some o
 grow:∀c,Mu L' M' c->Mu L M c\/H c=none
theorem Je8.of_same{L:BL}{M:PB}{H H':Hp}(s:JX H H'):Je8 L M M L H H':=⟨fun c o e _=>s c o e,fun c h=>.inl h⟩
theorem Je8.trans{L L' L'':BL}{M M' M'':PB}{H H' H'':Hp}(a:Je8 L M M' L' H H')(b:Je8 L' M' M'' L'' H' H''):Je8 L M M'' L'' H H'':=by
 refine⟨fun c o e n=>?_,fun c h=>?_⟩
 .refine b.keep c o (a.keep c o e n) fun z=>?_
  rcases a.grow c z with y|y
  .exact n y
  .rw[e]at y;cases y
 .rcases b.grow c h with y|y
  .exact a.grow c y
  .cases e:H c with
   | none=>exact .inr rfl
   | some o=>
    by_cases n:Mu L M c
    .exact .inl n
    .rw[a.keep c o e n]at y;cases y
theorem Yg.mu{CB CP:Addr}{H:Hp}{L:BL}{M:PB}(h:Yg CB CP H L M){c:Addr}(m:Mu L M c):(∃kvs,H c=some (.dK kvs))\/∃dx fs,H c=some (.ins CP dx fs):=by
 rcases m with rfl|rfl|rfl|⟨w,hw,rfl|rfl⟩
 .exact .inl ⟨_,h.people⟩
 .obtain⟨k,e,_⟩ :=h.rates;exact .inl ⟨k,e⟩
 .obtain⟨k,e,_⟩ :=h.dues;exact .inl ⟨k,e⟩
 .obtain⟨dx,e⟩ :=(h.per w hw).ob;exact .inr ⟨dx,_,e⟩
 .exact .inl ⟨_,(h.per w hw).days⟩
end Wb
namespace Wb
open PySem PySem.Spec PyProof.Rows L2
theorem Jb5(w:Int):∀(ks:List Int)(b:Option Int),(∀c,b=some c->c<=w)->
  (YX w b ks=none/\b=none/\∀n∈ks,¬n<=w)\/∃k,YX w b ks=some k/\k<=w/\(∀c,b=some c->c<=k)/\∀n∈ks,n<=w->n<=k
 | [],none,_=>.inl ⟨rfl,rfl,fun _ h=>nomatch h⟩
 | [],some c,h=>.inr ⟨c,rfl,h c rfl,fun d e=>by cases e;exact Int.le_refl _,fun _ h=>nomatch h⟩
 | p::r,none,_=>by
  show(YX w (if p<=w then some p else none) r=none/\_)\/∃k,YX w (if p<=w then some p else none) r=some k/\_
  by_cases c:p<=w
  .rw[if_pos c]
   rcases Jb5 w r (some p) (fun d e=>by cases e;exact c)with⟨_,e,_⟩|⟨k,h1,h2,h3,h4⟩
   .cases e
   .exact .inr ⟨k,h1,h2,(fun _ e=>nomatch e),fun n hn hw=>by
     rcases Ax.mp hn with rfl|hn
     .exact h3 _ rfl
     .exact h4 n hn hw⟩
  .rw[if_neg c]
   rcases Jb5 w r none (fun _ e=>nomatch e)with⟨h1,_,h3⟩|⟨k,h1,h2,_,h4⟩
   .exact .inl ⟨h1,rfl,fun n hn=>by
     rcases Ax.mp hn with rfl|hn
     .exact c
     .exact h3 n hn⟩
   .exact .inr ⟨k,h1,h2,(fun _ e=>nomatch e),fun n hn hw=>by
     rcases Ax.mp hn with rfl|hn
     .exact absurd hw c
     .exact h4 n hn hw⟩
 | p::r,some d,hb=>by
  show(YX w (if p<=w/\d<p then some p else some d) r=none/\_)\/∃k,YX w (if p<=w/\d<p then some p else some d) r=some k/\_;have hd:=hb d rfl
  by_cases c:p<=w/\d<p
  .rw[if_pos c]
   rcases Jb5 w r (some p) (fun z e=>by cases e;exact c.1)with⟨_,e,_⟩|⟨k,h1,h2,h3,h4⟩
   .cases e
   .have hp:=h3 p rfl
    exact .inr ⟨k,h1,h2,(fun z e=>by cases e;omega),fun n hn hw=>by
     rcases Ax.mp hn with rfl|hn
     .exact hp
     .exact h4 n hn hw⟩
  .rw[if_neg c]
   rcases Jb5 w r (some d) (fun z e=>by cases e;exact hd)with⟨_,e,_⟩|⟨k,h1,h2,h3,h4⟩
   .cases e
   .have hp:=h3 d rfl
    exact .inr ⟨k,h1,h2,(fun z e=>by cases e;exact hp),fun n hn hw=>by
     rcases Ax.mp hn with rfl|hn
     .omega
     .exact h4 n hn hw⟩
theorem Jpv{w M:Int}{ks:List Int}(h1:M∈ks)(h2:M<=w)(h3:∀n∈ks,n<=w->n<=M)(mem:∀k,YX w none ks=some k->k∈ks):YX w none ks=some M:=by
 rcases Jb5 w ks none (fun _ e=>nomatch e)with⟨_,_,h⟩|⟨k,e,hk,_,h⟩
 .exact absurd h2 (h M h1)
 .have a:=h M h1 h2;have b:=h3 k (mem k e) hk;rw[e,show k=M by omega]
theorem Jpq{w:Int}{ks:List Int}(h:∀n∈ks,¬n<=w)(mem:∀k,YX w none ks=some k->k∈ks):YX w none ks=none:=by
 rcases Jb5 w ks none (fun _ e=>nomatch e)with⟨e,_⟩|⟨k,e,hk,_⟩
 .exact e
 .exact absurd hk (h k (mem k e))
theorem Jkf{e u:Int}:∀{bs:List Bd}{lo:Int},wfb lo (bs++[(some u,e)])=false
 | [],lo=>by
  show(decide (lo<u)&&wfb u [])=false;simp[wfb]
 | (none,_)::r,lo=>by
  show(r++[(some u,e)]).isEmpty=false;cases r<;>rfl
 | (some v,_)::r,lo=>by
  show(decide (lo<v)&&wfb v (r++[(some u,e)]))=false;rw[Jkf,Bool.and_false]
theorem JcH(bs:List Bd):Jbo none bs=(wfb 0 bs&&(bs.map fun b=>decide (0<=b.2)).all id):=by
 unfold Jbo;rw[List.all_map];congr 2;funext b;simp
theorem Jia(bs:List Bd)(k:Int):Jbo (some k) bs=(Jbo none bs&&!(bs.map fun b=>decide (k<b.2)).any id):=by
 rw[JcH];unfold Jbo;rw[Bool.and_assoc];congr 1;rw[Bool.eq_iff_iff,Bool.and_eq_true,List.all_eq_true,List.all_eq_true,Bool.not_eq_true',List.any_eq_false];constructor
 .intro h;refine⟨fun x hx=>?_,fun x hx=>?_⟩
  .obtain⟨b,hb,rfl⟩ :=Bw.mp hx;have:=h b hb;rw[Bool.and_eq_true]at this;exact this.1
  .obtain⟨b,hb,rfl⟩ :=Bw.mp hx;have:=h b hb;rw[Bool.and_eq_true]at this;have:=of_decide_eq_true this.2;simp only[id,decide_eq_true_eq];omega
 .rintro⟨h1,h2⟩ b hb;have a1:=h1 _ (Bw.mpr ⟨b,hb,rfl⟩);have a2:=h2 _ (Bw.mpr ⟨b,hb,rfl⟩);simp only[id,decide_eq_true_eq]at a1 a2;rw[Bool.and_eq_true];exact⟨decide_eq_true a1,decide_eq_true (by omega)⟩
structure JcC(rates:List (Int×List Bd)):Prop where
 all:∀p∈rates,Jbo none p.2=true/\Jbl p.2
 len:rates.length<=1000
structure Jkd(dues:List (Int×Tab)):Prop where
 all:∀p∈dues,Jd2 p.2=true/\JpZ p.2
 len:dues.length<=1000
end Wb
namespace Wb
open PySem PySem.Spec PyProof.Rows L2
noncomputable def JdA(p:Int×Int):Dt:=.tup [.int p.1,.int p.2]
theorem YL.snoc{H:Hp}{d:Dt}{v:V}:∀{l:List Dt}{vs:List V},YL H l vs->Rep H d v->YL H (l++[d]) (vs++[v])
 | [],vs,h,r=>by
  have h:vs=[]:=h;subst h;exact⟨v,[],rfl,r,rfl⟩
 | x::l,vs,h,r=>by
  obtain⟨u,t,e,a,b⟩ :=h;subst e;exact⟨u,t++[v],rfl,a,YL.snoc b r⟩
theorem Jc1{H H':Hp}(h:∀b xs,H b=some (.tup xs)->H' b=some (.tup xs)):∀{l:II} {vs:List V},YL H (l.map JdA) vs->YL H' (l.map JdA) vs
 | [],vs,r=>r
 | p::l,vs,r=>by
  obtain⟨u,t,e,⟨a,ws,ea,ha,u1,t1,e1,h1,u2,t2,e2,h2,h3⟩,b⟩ :=r;subst e e1 e2;have h3:t2=[]:=h3;subst h3;exact⟨u,t,rfl,⟨a,_,ea,h _ _ ha,u1,_,rfl,h1,u2,_,rfl,h2,rfl⟩,Jc1 h b⟩
noncomputable def era(H:Hp)(b:Addr):Hp:=fun c=>if c=b then none else H c
theorem JdT{H:Hp}{b c:Addr}(h:c≠b):era H b c=H c:=if_neg h
theorem Jkl{H:Hp}{b:Addr}:era H b b=none:=if_pos rfl
theorem Ye.era{H H':Hp}(s:Ye H H')(b:Addr):Ye (era H b) (era H' b):=by
 refine⟨fun c xs e=>?_,fun c xs e=>?_⟩<;>
 .by_cases h:c=b
  .rw[h,Jkl]at e;cases e
  .rw[JdT h]at e ⊢
   first|exact s.1 _ _ e|exact s.2 _ _ e
def Jef(H H':Hp)(d:Dt)(v:V):Prop:=Rep H' d v/\∀b xs,H b=some (.lst xs)->Rep (era H' b) d v
theorem Jef.int{H H':Hp}{i:Int}:Jef H H' (.int i) (.int i):=⟨rfl,fun _ _ _=>rfl⟩
theorem Jef.str{H H':Hp}{x:Str}:Jef H H' (.str x) (.str x):=⟨rfl,fun _ _ _=>rfl⟩
theorem Jef.from{H H1 H':Hp}{d:Dt}{v:V}(h:Jef H1 H' d v)(s:Ye H H1):Jef H H' d v:=⟨h.1,fun b xs e=>h.2 b xs (s.2 b xs e)⟩
theorem Jcq{H:Hp}{l:II}{a b:Addr}{xs:List V}(h:Rep H (.lst (l.map JdA)) (.ref a))(n:b≠a)(e:H b=some (.lst xs)):Rep (era H b) (.lst (l.map JdA)) (.ref a):=by
 obtain⟨a',vs,e1,h1,r⟩ :=h;cases e1;refine⟨a,vs,rfl,by rw[JdT n.symm];exact h1,Jc1 (fun c ys z=>?_) r⟩;rw[JdT (Jac z e (fun y=>nomatch y))];exact z
theorem JgC{CB CP:Addr}{H H':Hp}{L L':BL}{M M':PB}(h:Yg CB CP H L M)(k:Je8 L M M' L' H H'):Ye H H':=by
 refine⟨fun b xs e=>k.keep b _ e fun m=>?_,fun b xs e=>k.keep b _ e fun m=>?_⟩<;>
 .rcases h.mu m with⟨_,z⟩|⟨_,_,z⟩<;>(rw[e]at z;cases z)
end Wb
namespace Wb
open PySem PySem.Spec PyProof.Rows L2
section
variable {α:Type}
theorem Jg0(k:Int):YB ([]:List (Int×α)) k=none:=rfl
theorem Jan(p:Int×α)(r:List (Int×α))(k:Int):YB (p::r) k=if p.1=k then some p.2 else YB r k:=by
 unfold YB;rw[List.find?_cons]
 by_cases c:p.1=k<;>simp[c]
theorem JfM{k:Int}:∀{ts:List (Int×α)},YB ts k=none↔k∉ts.map (·.1)
 | []=>by simp[Jg0]
 | p::r=>by
  rw[Jan,List.map_cons,Ax]
  by_cases c:p.1=k
  .simp[c]
  .rw[if_neg c,JfM];constructor
   .rintro h (e|e)
    .exact c e.symm
    .exact h e
   .intro h e;exact h (.inr e)
theorem JcY{k:Int}{x:α}:∀{ts:List (Int×α)},YB ts k=some x->(k,x)∈ts
 | [],h=>by cases h
 | p::r,h=>by
  rw[Jan]at h
  by_cases c:p.1=k
  .rw[if_pos c]at h
   have:p=(k,x):=by
    obtain⟨a,b⟩ :=p;have c:a=k:=c;have h:b=x:=Option.some.inj h;rw[c,h]
   rw[this];exact Aj
  .rw[if_neg c]at h;exact List.mem_cons_of_mem _ (JcY h)
theorem Jfo(ts:List (Int×α))(k:Int)(x:α):(Jax ts k x).map (·.1)=if k∈ts.map (·.1)then ts.map (·.1)else ts.map (·.1)++[k]:=by
 unfold Jax
 have e:((ts.any fun p=>decide (p.1=k))=true)↔k∈ts.map (·.1):=by
  rw[List.any_eq_true,Bw];constructor
  .rintro⟨p,h,e⟩;exact⟨p,h,of_decide_eq_true e⟩
  .rintro⟨p,h,e⟩;exact⟨p,h,decide_eq_true e⟩
 by_cases c:k∈ts.map (·.1)
 .rw[if_pos c,if_pos (e.mpr c),List.map_map];refine C7 fun p _=>?_;show(if p.1=k then(p.1,x)else p).1=p.1;split<;>rfl
 .rw[if_neg c,if_neg (fun z=>c (e.mp z)),B4];rfl
theorem Jjt{ts:List (Int×α)}(nd:(ts.map (·.1)).Nodup)(k:Int)(x:α):((Jax ts k x).map (·.1)).Nodup:=by
 rw[Jfo];split
 .exact nd
 .rename_i c;refine List.nodup_append.mpr ⟨nd,by simp,fun a ha b hb=>?_⟩;rw[A7.mp hb];rintro rfl;exact c ha
theorem Jid(ts:List (Int×α))(k j:Int)(x:α):YB (Jax ts k x) j=if j=k then some x else YB ts j:=by
 unfold Jax
 by_cases c:(ts.any fun p=>decide (p.1=k))=true
 .rw[if_pos c]
  have gen:∀l:List (Int×α),YB (l.map fun p=>if p.1=k then(p.1,x)else p) j=if j=k then(if(l.any fun p=>decide (p.1=k))=true then some x else none)else YB l j:=by
   intro l
   induction l with
   | nil=>simp[Jg0]
   | cons p r ih=>
    rw[List.map_cons,Jan,ih,Jan,List.any_cons]
    by_cases c1:p.1=k
    .by_cases c2:j=k
     .simp[c1,c2]
     .have:¬k=j:=fun z=>c2 z.symm;simp[c1,c2,this]
    .by_cases c2:j=k
     .rw[if_neg c1,c2,if_neg c1,if_pos rfl,if_pos rfl,decide_eq_false c1,Bool.false_or]
     .rw[if_neg c1,if_neg c2,if_neg c2]
  rw[gen,if_pos c]
 .rw[if_neg c]
  have gen:∀l:List (Int×α),YB (l++[(k,x)]) j=match YB l j with|some y=>some y|none=>if j=k then some x else none:=by
   intro l
   induction l with
   | nil=>
    show YB [(k,x)] j=_;rw[Jan,Jg0]
    by_cases c2:k=j
    .simp[c2]
    .have c3:¬j=k:=fun z=>c2 z.symm;simp[c2,c3]
   | cons p r ih=>
    rw[List.cons_append,Jan,ih,Jan]
    by_cases c1:p.1=j
    .simp[c1]
    .simp[c1]
  rw[gen]
  by_cases c2:j=k
  .have:YB ts j=none:=JfM.mpr fun h=>c (List.any_eq_true.mpr (by
    obtain⟨p,hp,e⟩ :=Bw.mp h
    exact⟨p,hp,decide_eq_true (e.trans c2)⟩))
   rw[this]
  .rw[if_neg c2];cases YB ts j<;>simp[c2]
end
theorem Jcj{α:Type}{ts:List (Int×α)}{k:Int}{x:α}{p:Int×α}(h:p∈Jax ts k x):p=(k,x)\/p∈ts:=by
 unfold Jax at h;split at h
 .obtain⟨q,hq,e⟩ :=Bw.mp h;split at e
  .rename_i c;exact .inl (by rw[<- e,c])
  .exact .inr (by rw[<- e];exact hq)
 .rcases B5.mp h with h|h
  .exact .inr h
  .exact .inl (A7.mp h)
noncomputable def Jcv(g f:Int×Int->Int)(l:II)(acc:II):II:=l.foldl (fun acc p=>JfG acc (g p) (f p)) acc
section
variable {g f:Int×Int→Int}
theorem JbJ(p:Int×Int)(l acc:II):Jcv g f (p::l) acc=Jcv g f l (JfG acc (g p) (f p)):=rfl
theorem Jcz:∀(l:II) {acc:II},(acc.map (·.1)).Nodup->((Jcv g f l acc).map (·.1)).Nodup
 | [],_,h=>h
 | p::l,_,h=>by rw[JbJ];exact Jcz l (Jjt h _ _)
theorem JeD(k:Int):∀(l acc:II),(YB (Jcv g f l acc) k).getD 0=(YB acc k).getD 0+((l.filter fun p=>decide (g p=k)).map f).sum
 | [],acc=>by simp[Jcv]
 | p::l,acc=>by
  rw[JbJ,JeD k l,JfG,Jid,List.filter_cons]
  by_cases c:g p=k
  .rw[if_pos c.symm,decide_eq_true c,if_pos rfl,List.map_cons,List.sum_cons,c,Option.getD_some];omega
  .rw[if_neg (fun z=>c z.symm),decide_eq_false c,if_neg (by decide)]
theorem Jci(k:Int):∀(l acc:II),k∈(Jcv g f l acc).map (·.1)↔k∈acc.map (·.1)\/∃p∈l,g p=k
 | [],acc=>by simp[Jcv]
 | p::l,acc=>by
  rw[JbJ,Jci k l,JfG,Jfo];constructor
  .rintro(h|⟨q,hq,e⟩)
   .split at h
    .exact .inl h
    .rcases B5.mp h with h|h
     .exact .inl h
     .exact .inr ⟨p,Aj,(A7.mp h).symm⟩
   .exact .inr ⟨q,List.mem_cons_of_mem _ hq,e⟩
  .rintro(h|⟨q,hq,e⟩)
   .left
    split
    .exact h
    .exact List.mem_append_left _ h
   .rcases Ax.mp hq with rfl|hq
    .left
     split
     .rename_i c;rw[<- e];exact c
     .rw[e];exact List.mem_append_right _ Aj
    .exact .inr ⟨q,hq,e⟩
theorem Jcc:∀(l acc:II),(Jcv g f l acc).length<=acc.length+l.length
 | [],acc=>A5 _
 | p::l,acc=>by
  rw[JbJ];have a:=Jcc l (JfG acc (g p) (f p));have b:=Jc2 acc (g p) ((YB acc (g p)).getD 0+f p);unfold JfG at a;rw[List.length_cons];unfold JfG;omega
theorem JcJ(C:Int)(hC:0<=C):∀(l:II) (acc:II) (B:Int),0<=B->(∀p∈acc,0<=p.2/\p.2<=B)->(∀p∈l,0<=f p/\f p<=C)->∀p∈Jcv g f l acc,0<=p.2/\p.2<=B+l.length*C
 | [],acc,B,hB,ha,_=>fun p hp=>by
  have:=ha p hp;simp only[List.length_nil];omega
 | q::l,acc,B,hB,ha,hl=>fun p hp=>by
  rw[JbJ]at hp;have hq:=hl q Aj
  have:=JcJ C hC l (JfG acc (g q) (f q)) (B+C) (by omega) (fun z hz=>by
   rcases Jcj hz with e|hz
   .rw[e]
    cases e2:YB acc (g q)with
    | none=>simp only[Option.getD_none];omega
    | some x=>
     have:=ha _ (JcY e2);simp only[Option.getD_some];omega
   .have:=ha z hz
    omega) (fun z hz=>hl z (List.mem_cons_of_mem _ hz)) p hp
  have e:((q::l).length:Int)*C=C+l.length*C:=by
   rw[List.length_cons,Int.natCast_add,Int.add_mul];omega
  rw[e];omega
end
theorem JgA(days:II):hbw days=Jcv (fun p=>p.1/7) (·.2) days []:=rfl
theorem JiE(hb:II)(last:Int)(rates:List (Int×List Bd)):pbm hb last rates=Jcv (fun p=>p.1/4) (fun p=>JaU p.2 p.1 rates) (hb.filter fun p=>decide (p.1<=last)) []:=by
 unfold pbm Jcv;rw[List.foldl_filter];congr 1;funext acc p;simp
structure Jos(q:Pn):Prop where
 nd:(q.days.map (·.1)).Nodup
 val:∀p∈q.days,0<=p.2/\p.2<=24
 len:q.days.length<=300
theorem Jna{q:Pn}(h:Jos q):((hbw q.days).map (·.1)).Nodup/\(∀p∈hbw q.days,0<=p.2/\p.2<=7200)/\(hbw q.days).length<=q.days.length:=by
 rw[JgA];refine⟨Jcz _ List.nodup_nil,fun p hp=>?_,?_⟩
 .have a:=JcJ 24 (by decide) q.days [] 0 (by decide) (fun _ z=>nomatch z) h.val p hp;have b:=h.len;omega
 .have:=Jcc (g:=fun p=>p.1/7) (f:=fun p=>p.2) q.days [];simpa using this
theorem Jpl{q:Pn}(h:Jos q)(w:Int):0<=(YB (hbw q.days) w).getD 0/\(YB (hbw q.days) w).getD 0<=7200:=by
 cases e:YB (hbw q.days) w with
 | none=>simp
 | some x=>exact(Jna h).2.1 _ (JcY e)
theorem Jhe{α:Type}{ts:List (Int×α)}{w:Int}{x:α}(h:JeU ts w=some x):∃k,(k,x)∈ts:=by
 unfold JeU at h
 cases e:YX w none (ts.map (·.1))with
 | none=>rw[e]at h;cases h
 | some k=>rw[e]at h;exact⟨k,JcY h⟩
theorem JlC{rates:List (Int×List Bd)}(ok:JcC rates){h:Int}(h0:0<=h)(h1:h<=7200)(w:Int):0<=JaU h w rates/\JaU h w rates<=10^66:=by
 unfold JaU
 cases e:JeU rates w with
 | none=>exact⟨Int.le_refl _,(by decide:(0:Int)<=10^66)⟩
 | some bs=>
  obtain⟨k,hm⟩ :=Jhe e;obtain⟨c1,c2⟩ :=ok.all _ hm;have hw:=Jco c1;have a:=JpC (10^62) (by decide) bs h 0 hw.1 fun b hb=>⟨hw.2 b hb,by have:=c2.each b hb;have:=hw.2 b hb;omega⟩;refine⟨a.1,Int.le_trans a.2 ?_⟩
  have:mx 0 (h-0)<=7200:=by unfold mx;split<;>omega
  exact Int.le_trans (Int.mul_le_mul_of_nonneg_left this (by decide)) (show(10:Int)^62*7200<=10^66 by decide)
theorem Jk4{q:Pn}(h:Jos q){rates:List (Int×List Bd)}(ok:JcC rates)(last:Int) :
  ((pbm (hbw q.days) last rates).map (·.1)).Nodup/\(∀p∈pbm (hbw q.days) last rates,0<=p.2/\p.2<10^102)/\(pbm (hbw q.days) last rates).length<=q.days.length:=by
 obtain⟨b1,b2,b3⟩ :=Jna h;rw[JiE];have hl:((hbw q.days).filter fun p=>decide (p.1<=last)).length<=q.days.length:=Nat.le_trans (List.length_filter_le _ _) b3;refine⟨Jcz _ List.nodup_nil,fun p hp=>?_,?_⟩
 .have a:=JcJ (10^66) (by decide) ((hbw q.days).filter fun p=>decide (p.1<=last)) [] 0 (by decide) (fun _ z=>nomatch z) (fun z hz=>by
   have:=b2 z (List.mem_filter.mp hz).1
   exact JlC ok this.1 this.2 _) p hp
  have c:=h.len;refine⟨a.1,Int.lt_of_le_of_lt a.2 ?_⟩
  have d:(((hbw q.days).filter fun p=>decide (p.1<=last)).length:Int)<=300:=by omega
  refine Int.lt_of_le_of_lt (b:=0+300*10^66) ?_ (by decide);have:=Int.mul_le_mul_of_nonneg_right d (by decide:(0:Int)<=10^66);omega
 .have:=Jcc (g:=fun p=>p.1/4) (f:=fun p=>JaU p.2 p.1 rates) ((hbw q.days).filter fun p=>decide (p.1<=last)) [];simp only[List.length_nil,Nat.zero_add]at this;omega
theorem Jma(dues:List (Int×Tab)):∀(pb acc:II),(pb.map (·.1)).Nodup->(∀k∈pb.map (·.1),k∉acc.map (·.1))->
  pb.foldl (fun acc p=>Jax acc p.1 (JdZ p.2 (JeU dues p.1))) acc=acc++pb.map fun p=>(p.1,JdZ p.2 (JeU dues p.1))
 | [],acc,_,_=>by simp
 | p::l,acc,nd,h=>by
  rw[List.map_cons,List.nodup_cons]at nd
  have e:Jax acc p.1 (JdZ p.2 (JeU dues p.1))=acc++[(p.1,JdZ p.2 (JeU dues p.1))]:=by
   unfold Jax;refine if_neg fun z=>?_;obtain⟨q,hq,e⟩ :=List.any_eq_true.mp z;exact h p.1 Aj (Bw.mpr ⟨q,hq,of_decide_eq_true e⟩)
  rw[List.foldl_cons,e,Jma dues l _ nd.2 (fun k hk=>?_),List.append_assoc]
  .rfl
  .rw[B4,B5];rintro(z|z)
   .exact h k (List.mem_cons_of_mem _ hk) z
   .have z:k=p.1:=by simpa using z
    rw[z]at hk;exact nd.1 hk
theorem Jgk{pb:II}(dues:List (Int×Tab))(nd:(pb.map (·.1)).Nodup):nbm pb dues=pb.map fun p=>(p.1,JdZ p.2 (JeU dues p.1)):=by
 unfold nbm;rw[Jma dues pb [] nd fun _ _ z=>nomatch z];rfl
theorem Je3{α:Type}{R:α->V->Prop}{kvs:List (Key×V)}{ts:List (Int×α)}(pr:Paired (fun(p:Key×V)(q:Int×α)=>p.1=Az q.1/\R q.2 p.2) kvs ts){k:Int}{v:V}{x:α}(r:R x v) :
  Paired (fun(p:Key×V)(q:Int×α)=>p.1=Az q.1/\R q.2 p.2) (Yt kvs (Az k:Key) v) (Jax ts k x):=by
 unfold Yt Jax
 have any:∀{kvs:List (Key×V)} {ts:List (Int×α)},Paired (fun(p:Key×V)(q:Int×α)=>p.1=Az q.1/\R q.2 p.2) kvs ts->(kvs.any fun kv=>decide (kv.1=(Az k:Key)))=ts.any fun p=>decide (p.1=k):=by
  intro kvs ts pr
  induction pr with
  | nil=>rfl
  | cons q t ih=>
   rw[List.any_cons,List.any_cons,ih,q.1];congr 1;simp
 have app:∀{kvs:List (Key×V)} {ts:List (Int×α)},Paired (fun(p:Key×V)(q:Int×α)=>p.1=Az q.1/\R q.2 p.2) kvs ts->Paired (fun(p:Key×V)(q:Int×α)=>p.1=Az q.1/\R q.2 p.2) (kvs++[((Az k:Key),v)]) (ts++[(k,x)]):=by
  intro kvs ts pr
  induction pr with
  | nil=>exact .cons ⟨rfl,r⟩ .nil
  | cons q t ih=>exact .cons q ih
 have mp:∀{kvs:List (Key×V)} {ts:List (Int×α)},Paired (fun(p:Key×V)(q:Int×α)=>p.1=Az q.1/\R q.2 p.2) kvs ts->
   Paired (fun(p:Key×V)(q:Int×α)=>p.1=Az q.1/\R q.2 p.2) (kvs.map fun kv=>if kv.1=(Az k:Key)then(kv.1,v)else kv) (ts.map fun p=>if p.1=k then(p.1,x)else p):=by
  intro kvs ts pr
  induction pr with
  | nil=>exact .nil
  | @cons p q ps qs h t ih=>
   rw[List.map_cons,List.map_cons];refine .cons ?_ ih
   by_cases c:q.1=k
   .rw[if_pos c,if_pos (by rw[h.1,c])];exact⟨h.1,r⟩
   .rw[if_neg c,if_neg (by rw[h.1];exact fun z=>c (Az.inj z))];exact h
 rw[any pr];split
 .exact mp pr
 .exact app pr
structure Jcr(n:Nat)(M:PB):Prop where
 nd:∀w,((M.pn w).days.map (·.1)).Nodup
 val:∀w,∀p∈(M.pn w).days,0<=p.2/\p.2<=24
 dl:∀w,(M.pn w).days.length<=n
 ra:∀p∈M.rates,Jbo none p.2=true/\Jbl p.2
 rl:M.rates.length<=n
 du:∀p∈M.dues,Jd2 p.2=true/\JpZ p.2
 ul:M.dues.length<=n
 kl:M.keys.length<=n
section
variable {n:Nat} {M:PB}
theorem Jcr.pn(h:Jcr n M)(hn:n<=300)(w:Str):Jos (M.pn w):=⟨h.nd w,h.val w,Nat.le_trans (h.dl w) hn⟩
theorem Jcr.rates(h:Jcr n M)(hn:n<=300):JcC M.rates:=⟨h.ra,by have:=h.rl;omega⟩
theorem Jcr.dues(h:Jcr n M)(hn:n<=300):Jkd M.dues:=⟨h.du,by have:=h.ul;omega⟩
theorem Jcr.new:Jcr 0 PB.new:=⟨fun _=>List.nodup_nil,(fun _ _ h=>nomatch h),fun _=>A5 _,(fun _ h=>nomatch h),A5 _,(fun _ h=>nomatch h),A5 _,A5 _⟩
theorem Jcr.le{m:Nat}(h:Jcr n M)(hm:n<=m):Jcr m M:=⟨h.nd,h.val,fun w=>Nat.le_trans (h.dl w) hm,h.ra,Nat.le_trans h.rl hm,h.du,Nat.le_trans h.ul hm,Nat.le_trans h.kl hm⟩
theorem JbK(M:PB)(who:Str):who∈(M.touch who).keys:=by
 unfold PB.touch;split
 .assumption
 .exact List.mem_append_right _ Aj
theorem Jhd{who:Str}(h:who∈M.keys):M.touch who=M:=by
 unfold PB.touch;rw[if_pos h]
theorem Yk(M:PB)(who:Str):(M.touch who).pn=M.pn:=by
 unfold PB.touch;split<;>rfl
theorem Ja6(M:PB)(who:Str):(M.touch who).rates=M.rates:=by
 unfold PB.touch;split<;>rfl
theorem Jbw(M:PB)(who:Str):(M.touch who).dues=M.dues:=by
 unfold PB.touch;split<;>rfl
theorem Jlw(M:PB)(who:Str):(M.touch who).keys.length<=M.keys.length+1:=by
 unfold PB.touch;split
 .omega
 .simp
theorem Jcr.touch(h:Jcr n M)(who:Str):Jcr (n+1) (M.touch who):=by
 refine⟨fun w=>?_,fun w=>?_,fun w=>?_,?_,?_,?_,?_,?_⟩
 .rw[Yk];exact h.nd w
 .rw[Yk];exact h.val w
 .rw[Yk];exact Nat.le_succ_of_le (h.dl w)
 .rw[Ja6];exact h.ra
 .rw[Ja6];exact Nat.le_succ_of_le h.rl
 .rw[Jbw];exact h.du
 .rw[Jbw];exact Nat.le_succ_of_le h.ul
 .have:=Jlw M who;have:=h.kl;omega
end
noncomputable def Ja1:Y7->Prop
 | .rate _ bs=>Jbl bs
 | .dues _ t=>JpZ t
 | _=>True
theorem Jeb{q:Pn}{day many:Int}(h0:0<=many/\many<=24)(hv:∀p∈q.days,0<=p.2/\p.2<=24):∀p∈Jax q.days day many,0<=p.2/\p.2<=24:=fun p hp=>by
 rcases Jcj hp with e|hp
 .rw[e];exact h0
 .exact hv p hp
theorem Jcr.set{n:Nat}{M:PB}(h:Jcr n M){who:Str}{q:Pn}(h1:(q.days.map (·.1)).Nodup)(h2:∀p∈q.days,0<=p.2/\p.2<=24)(h3:q.days.length<=n):Jcr n (M.set who q):=by
 refine⟨fun w=>?_,fun w=>?_,fun w=>?_,h.ra,h.rl,h.du,h.ul,h.kl⟩
 .show(((if w=who then q else M.pn w)).days.map (·.1)).Nodup;split
  .exact h1
  .exact h.nd w
 .show∀p∈(if w=who then q else M.pn w).days,_;split
  .exact h2
  .exact h.val w
 .show(if w=who then q else M.pn w).days.length<=n;split
  .exact h3
  .exact h.dl w
section
variable {M:PB} {who:Str} {day many week month:Int} {bs:List Bd} {t:Tab}
theorem JdK(c:0<=many/\many<=24):Jak M (.hours who day many)=(.int (Jlu ((M.touch who).set who { (M.pn who)with days:=Jax (M.pn who).days day many }) who (day/7)),(M.touch who).set who { (M.pn who)with days:=Jax (M.pn who).days day many }):=if_pos c
theorem Jd5(c:¬(0<=many/\many<=24)):Jak M (.hours who day many)=(.str "no hours",M):=if_neg c
theorem Jhn(c:Jbo none bs=true):Jak M (.rate week bs)=(.str "told",{ M with rates:=Jax M.rates week bs }):=if_pos c
theorem Je5(c:Jbo none bs=false):Jak M (.rate week bs)=(.str "no table",M):=if_neg (by rw[c];decide)
theorem Jhj(c:Jd2 t=true):Jak M (.dues month t)=(.str "told",{ M with dues:=Jax M.dues month t }):=if_pos c
theorem Je1(c:Jd2 t=false):Jak M (.dues month t)=(.str "no table",M):=if_neg (by rw[c];decide)
theorem Je0(c:Jdo M who week=true):Jak M (.payday who week)=(.str "too early",M.touch who):=if_pos c
theorem JdH(c:Jdo M who week=false):Jak M (.payday who week) =
  (.tup [.int (mx 0 (JaA M who week-(M.pn who).paid)),.int (mn 0 (JaA M who week-(M.pn who).paid)),.lst ((JeF (M.pn who).nets (Jai M who week)).map JdA)],
   (M.touch who).set who { (M.pn who)with paid:=(M.pn who).paid+mx 0 (JaA M who week-(M.pn who).paid),last:=some week,nets:=Jai M who week }):=if_neg (by rw[c];decide)
end
theorem JgN{n:Nat}{M:PB}(h:Jcr n M){d:Y7}(hd:Ja1 d):Jcr (n+1) (Jak M d).2:=by
 cases d with
 | hours who day many=>
  by_cases c:0<=many/\many<=24
  .rw[JdK c];refine(h.touch who).set (Jjt (h.nd who) _ _) (Jeb c (h.val who)) ?_;have:=Jc2 (M.pn who).days day many;have:=h.dl who;show(Jax (M.pn who).days day many).length<=n+1;omega
  .rw[Jd5 c];exact h.le (Nat.le_succ n)
 | rate week bs=>
  cases c:Jbo none bs with
  | true=>
   rw[Jhn c];refine⟨h.nd,h.val,fun w=>Nat.le_succ_of_le (h.dl w),fun p hp=>?_,?_,h.du,Nat.le_succ_of_le h.ul,Nat.le_succ_of_le h.kl⟩
   .rcases Jcj hp with e|hp
    .rw[e];exact⟨c,hd⟩
    .exact h.ra p hp
   .have:=Jc2 M.rates week bs;have:=h.rl;show(Jax M.rates week bs).length<=n+1;omega
  | false=>
   rw[Je5 c];exact h.le (Nat.le_succ n)
 | dues month t=>
  cases c:Jd2 t with
  | true=>
   rw[Jhj c];refine⟨h.nd,h.val,fun w=>Nat.le_succ_of_le (h.dl w),h.ra,Nat.le_succ_of_le h.rl,fun p hp=>?_,?_,Nat.le_succ_of_le h.kl⟩
   .rcases Jcj hp with e|hp
    .rw[e];exact⟨c,hd⟩
    .exact h.du p hp
   .have:=Jc2 M.dues month t;have:=h.ul;show(Jax M.dues month t).length<=n+1;omega
  | false=>
   rw[Je1 c];exact h.le (Nat.le_succ n)
 | payday who week=>
  cases c:Jdo M who week with
  | true=>
   rw[Je0 c];exact h.touch who
  | false=>
   rw[JdH c];exact(h.touch who).set (h.nd who) (h.val who) (Nat.le_succ_of_le (h.dl who))
 | pay who week=>exact h.touch who
 | net who week=>exact h.touch who
 | right who week=>exact h.touch who
 | owing who week=>exact h.touch who
 | paid who=>exact h.touch who
theorem Jj2{CB CP:Addr}{H H':Hp}{L:BL}{M:PB}{who:Str}{nn:Addr}{q:Pn}(h:Yg CB CP H L M)(hw:who∈M.keys)(kp:∀b o,H b=some o->b≠(L.ad who).p->b≠(L.ad who).dd->H' b=some o)
  (hp:YF CP H' (L.ad who).p (L.ad who).dd nn q) (hn:nn=(L.ad who).nn\/H nn=none) :
  ∃L':BL,L'.b=L.b/\Yg CB CP H' L' (M.set who q)/\Je8 L M (M.set who q) L' H H':=by
 let L':BL:={ L with ad:=fun y=>if y=who then⟨(L.ad who).p,(L.ad who).dd,nn⟩else L.ad y }
 have adw:L'.ad who=⟨(L.ad who).p,(L.ad who).dd,nn⟩ :=if_pos rfl;have ado:∀v,v≠who->L'.ad v=L.ad v:=fun v hv=>if_neg hv
 have ap:∀v,(L'.ad v).p=(L.ad v).p:=fun v=>by
  by_cases c:v=who
  .rw[c,adw]
  .rw[ado v c]
 have add:∀v,(L'.ad v).dd=(L.ad v).dd:=fun v=>by
  by_cases c:v=who
  .rw[c,adw]
  .rw[ado v c]
 obtain⟨⟨dw,e1⟩,e2,e3⟩ :=h.per who hw;obtain⟨kr,er,rr⟩ :=h.rates;obtain⟨ku,eu,ru⟩ :=h.dues;obtain⟨dxb,eb⟩ :=h.ob;have tup:∀b xs,H b=some (.tup xs)->H' b=some (.tup xs):=fun b xs e=>kp b _ e (Jac e e1 fun z=>nomatch z) (Jac e e2 fun z=>nomatch z);have bsame:∀a bs,JG H a bs->JG H' a bs:=fun a bs ⟨ps,h1,h2,h3⟩ =>⟨ps,tup _ _ h1,h2,fun i p b a1 a2=>tup _ _ (h3 i p b a1 a2)⟩
 have nnd:∀v∈M.keys,(L.ad v).dd≠nn:=fun v hv=>by
  rcases hn with e|e
  .rw[e];exact h.apn v hv who hw
  .exact Ji (h.per v hv).days e
 have nnp:nn≠L.pd/\nn≠L.rd/\nn≠L.ud:=by
  rcases hn with e|e
  .rw[e];exact h.np who hw
  .exact⟨(Ji h.people e).symm,(Ji er e).symm,(Ji eu e).symm⟩
 have dq:=h.dp who hw
 refine⟨L',rfl,⟨⟨dxb,?_⟩,?_,h.nd,⟨kr,?_,JP (fun p q ⟨z,a,e,b⟩ =>⟨z,a,e,bsame _ _ b⟩) rr⟩,⟨ku,?_,JP (fun p q ⟨z,a,c,e,t,b⟩ =>⟨z,a,c,e,tup _ _ t,bsame _ _ b⟩) ru⟩,fun v hv=>?_,fun v hv=>?_,
  fun v hv u hu n=>by rw[ap,ap];exact h.app v hv u hu n,fun v hv u hu n=>by rw[add,add];exact h.apd v hv u hu n,fun v hv u hu=>?_,h.pr,h.pu,h.ru,fun v hv=>by rw[add];exact h.dp v hv,fun v hv=>?_⟩,?_⟩
 .exact kp _ _ eb (Jac eb e1 fun z=>by injection z with _ _ z;exact absurd (congrArg List.length z) (by simp[fB,fP])) (Jac eb e2 fun z=>nomatch z)
 .have:=kp _ _ h.people (Jac h.people e1 fun z=>nomatch z) dq.1.symm;show H' L.pd=some (.dK (M.keys.map fun w=>(A8 w,.ref (L'.ad w).p)));rw[this];congr 2
  exact C7 fun v _=>by rw[ap]
 .exact kp _ _ er (Jac er e1 fun z=>nomatch z) dq.2.1.symm
 .exact kp _ _ eu (Jac eu e1 fun z=>nomatch z) dq.2.2.symm
 .show YF CP H' (L'.ad v).p (L'.ad v).dd (L'.ad v).nn (if v=who then q else M.pn v)
  by_cases c:v=who
  .rw[if_pos c,c,adw];exact hp
  .rw[if_neg c,ado v c];obtain⟨⟨dv,a1⟩,a2,a3⟩ :=h.per v hv;have b1:=h.app v hv who hw c;have b2:=h.apd v hv who hw c;exact⟨⟨dv,kp _ _ a1 b1 (Jac a1 e2 fun z=>nomatch z)⟩,kp _ _ a2 (Jac a2 e1 fun z=>nomatch z) b2,kp _ _ a3 (Jac a3 e1 fun z=>nomatch z) (h.apn who hw v hv).symm⟩
 .show(if v=who then q else M.pn v)=Pn.nw;rw[if_neg fun z=>hv (by rw[z];exact hw)];exact h.non v hv
 .rw[add]
  by_cases c:u=who
  .rw[c,adw];exact nnd v hv
  .rw[ado u c];exact h.apn v hv u hu
 .by_cases c:v=who
  .rw[c,adw];exact nnp
  .rw[ado v c];exact h.np v hv
 .refine⟨fun c o e n=>kp c o e (fun z=>n (.inr (.inr (.inr ⟨who,hw,.inl z⟩)))) (fun z=>n (.inr (.inr (.inr ⟨who,hw,.inr z⟩)))),fun c z=>.inl ?_⟩
  rcases z with z|z|z|⟨v,hv,z⟩
  .exact .inl z
  .exact .inr (.inl z)
  .exact .inr (.inr (.inl z))
  .rw[ap,add]at z;exact .inr (.inr (.inr ⟨v,hv,z⟩))
end Wb
namespace Wb
open PySem PySem.Spec PyProof.Rows L2
noncomputable def Jm5(M:PB)(ds:List Y7):PB:=ds.foldl (fun M d=>(Jak M d).2) M
noncomputable def outs:PB->List Y7->List Dt
 | _,[]=>[]
 | M,d::r=>(Jak M d).1::outs (Jak M d).2 r
theorem Jll(M:PB)(ds:List Y7)(d:Y7):Jm5 M (ds++[d])=(Jak (Jm5 M ds) d).2:=by
 unfold Jm5;rw[List.foldl_append];rfl
theorem JhV:∀(M:PB)(ds:List Y7)(d:Y7),outs M (ds++[d])=outs M ds++[(Jak (Jm5 M ds) d).1]
 | M,[],d=>rfl
 | M,e::r,d=>by
  show(Jak M e).1::outs (Jak M e).2 (r++[d])=_;rw[JhV];rfl
theorem Jk3:∀{ds:List Y7}{n:Nat}{M:PB},Jcr n M->(∀d∈ds,Ja1 d)->Jcr (n+ds.length) (Jm5 M ds)
 | [],n,M,h,_=>h
 | d::r,n,M,h,hd=>by
  have:=Jk3 (ds:=r) (JgN h (hd d Aj)) fun e he=>hd e (List.mem_cons_of_mem _ he);rw[List.length_cons,show n+(r.length+1)=n+1+r.length by omega];exact this
theorem Jil{CB CP:Addr}{H:Hp}{L:BL}{M:PB}{a:Addr}{xs:List V}{o:HO}(h:Yg CB CP H L M)(e:H a=some (.lst xs)):Yg CB CP (upd H a o) L M:=by
 have up:∀b u,H b=some u->(∀ys,u≠.lst ys)->upd H a o b=some u:=fun b u z n=>by
  rw[Jf (Jac z e (n xs))];exact z
 have bsame:∀a' bs,JG H a' bs->JG (upd H a o) a' bs:=fun a' bs ⟨ps,h1,h2,h3⟩ =>⟨ps,up _ _ h1 (fun _ z=>nomatch z),h2,fun i p b a1 a2=>up _ _ (h3 i p b a1 a2) (fun _ z=>nomatch z)⟩;obtain⟨kr,er,rr⟩ :=h.rates;obtain⟨ku,eu,ru⟩ :=h.dues;obtain⟨dx,eb⟩ :=h.ob
 refine⟨⟨dx,up _ _ eb (fun _ z=>nomatch z)⟩,up _ _ h.people (fun _ z=>nomatch z),h.nd,⟨kr,up _ _ er (fun _ z=>nomatch z),JP (fun p q ⟨z,a,e,b⟩ =>⟨z,a,e,bsame _ _ b⟩) rr⟩,
  ⟨ku,up _ _ eu (fun _ z=>nomatch z),JP (fun p q ⟨z,a,c,e,t,b⟩ =>⟨z,a,c,e,up _ _ t (fun _ z=>nomatch z),bsame _ _ b⟩) ru⟩,fun w hw=>?_,h.non,h.app,h.apd,h.apn,h.pr,h.pu,h.ru,h.dp,h.np⟩
 obtain⟨⟨dv,a1⟩,a2,a3⟩ :=h.per w hw;exact⟨⟨dv,up _ _ a1 (fun _ z=>nomatch z)⟩,up _ _ a2 (fun _ z=>nomatch z),up _ _ a3 (fun _ z=>nomatch z)⟩
theorem JpM{H:Hp}{a:Addr}{o:HO}:era (upd H a o) a=era H a:=by
 funext c
 by_cases h:c=a
 .rw[h,Jkl,Jkl]
 .rw[JdT h,JdT h,Jf h]
theorem Jqn{H:Hp}{a:Addr}:Ye (era H a) H:=by
 refine⟨fun c xs e=>?_,fun c xs e=>?_⟩<;>
 .by_cases h:c=a
  .rw[h,Jkl]at e;cases e
  .rw[JdT h]at e;exact e
noncomputable def isH:Y7->Bool
 | .hours _ _ _=>true
 | _=>false
theorem JnV{M:PB}{d:Y7}(w:Str):((Jak M d).2.pn w).days.length<=(M.pn w).days.length+(if isH d=true then 1 else 0):=by
 have tp:∀who,((M.touch who).pn w).days.length<=(M.pn w).days.length:=fun who=>by rw[Yk];exact A5 _
 cases d with
 | hours who day many=>
  by_cases c:0<=many/\many<=24
  .rw[JdK c];show(if w=who then _ else(M.touch who).pn w).days.length<=(M.pn w).days.length+1
   by_cases e:w=who
   .rw[if_pos e,e];exact Jc2 _ _ _
   .rw[if_neg e];exact Nat.le_succ_of_le (tp who)
  .rw[Jd5 c];exact Nat.le_succ _
 | rate week bs=>
  cases c:Jbo none bs with
  | true=>rw[Jhn c];exact A5 _
  | false=>rw[Je5 c];exact A5 _
 | dues month t=>
  cases c:Jd2 t with
  | true=>rw[Jhj c];exact A5 _
  | false=>rw[Je1 c];exact A5 _
 | payday who week=>
  cases c:Jdo M who week with
  | true=>rw[Je0 c];exact tp who
  | false=>
   rw[JdH c];show(if w=who then _ else(M.touch who).pn w).days.length<=(M.pn w).days.length+0
   by_cases e:w=who
   .rw[if_pos e,e];exact A5 _
   .rw[if_neg e];exact tp who
 | pay who week=>exact tp who
 | net who week=>exact tp who
 | right who week=>exact tp who
 | owing who week=>exact tp who
 | paid who=>exact tp who
theorem Jie(w:Str):∀(ds:List Y7)(M:PB),((Jm5 M ds).pn w).days.length<=(M.pn w).days.length+(ds.filter isH).length
 | [],M=>A5 _
 | d::r,M=>by
  have a:=Jie w r (Jak M d).2;have b:=JnV (M:=M) (d:=d) w;show((Jm5 (Jak M d).2 r).pn w).days.length<=_;rw[List.filter_cons]
  cases c:isH d with
  | true=>
   rw[c,if_pos rfl]at b;rw[if_pos rfl,List.length_cons];omega
  | false=>
   rw[c,if_neg (by decide)]at b;rw[if_neg (by decide)];omega
end Wb
namespace L2
open PySem PySem.Spec PyProof.Rows Wb
def JrX(H:Hp)(v:V):Prop:=∀a,v=.ref a->H a=none
noncomputable def Jra(d:Dt):TE:=fun _ H Q=>∀v H',JX H H'->Rep H' d v->JrX H v->Q v H'
noncomputable def JnY(ds:List Dt):TA:=fun _ H Q=>∀vs H',JX H H'->YL H' ds vs->Q vs H'
section
variable {X:Cx} {pos:Pos}
theorem Jae{i:Int}{j:Nat}:PE X (.Constant (.int i) j pos) (Jra (.int i)):=fun pins s σ H Q I h=>Jb pins s σ H Q I (h (.int i) H (JX.refl H) rfl fun _ z=>nomatch z)
theorem JeG{j:Nat}:PE X (.Constant .none j pos) (Jra .non):=fun pins s σ H Q I h=>JcD pins s σ H Q I (h .non H (JX.refl H) rfl fun _ z=>nomatch z)
theorem Jol{i:Int}{j:Nat}{p2:Pos}:PE X (.UnaryOp .USub (.Constant (.int i) j p2) pos) (Jra (.int (-i))):=fun pins s σ H Q I h=>Jdh (op:=.USub) Jon Jb pins s σ H Q I ⟨i,rfl,h (.int (-i)) H (JX.refl H) rfl fun _ z=>nomatch z⟩
theorem Yo:PA X [] (JnY []):=fun p pins s σ H Q I h=>JV p pins s σ H Q I (h [] H (JX.refl H) rfl)
theorem Jz{e:Expr}{es:List Expr}{d:Dt}{ds:List Dt}(he:PE X e (Jra d))(hr:PA X es (JnY ds))(hs:starEach (e::es) X.env=(false,eval e X.env)::starEach es X.env:=by rfl):PA X (e::es) (JnY (d::ds)):=fun p pins s σ H Q I h=>
 Jc he hr hs p pins s σ H Q I fun v H1 s1 r1 _ vs H2 s2 r2=>h (v::vs) H2 (s1.trans s2) ⟨v,vs,rfl,r1.same s2,r2⟩
theorem Y6{es:List Expr}{ds:List Dt}{k:Nat}(h:PA X es (JnY ds))(hl:ds.length<=1000):PE X (.Tuple es k pos) (Jra (.tup ds)):=fun pins s σ H Q I q=>
 J2 h pins s σ H Q I fun vs H1 s1 r1=>⟨by rw[r1.length];exact Cq (Jy hl),fun p hp=>q (.ref p) _ (s1.trans (Je hp)) ⟨p,vs,rfl,Ja,r1.same (Je hp)⟩ fun a z=>by cases z;exact s1.free hp⟩
noncomputable def Jqk:R2:=fun x y H Q=>∃(a b:Addr)(xs ys:List V),x=.ref a/\y=.ref b/\H a=some (.tup xs)/\H b=some (.tup ys)/\xs.length+ys.length<=B2/\∀r H',JX H H'->H' r=some (.tup (xs++ys))->Q (.ref r) H'
theorem JjR:OpR X (binaryOp .Add) Jqk:=by
 intro pins s σ H x y v u Q I rx ry h;obtain⟨a,b,xs,ys,rfl,rfl,ha,hb,hz,q⟩ :=h
 by_cases hx:xs=[]
 .subst hx;cases rx;cases ry;obtain⟨its,r1,⟨o1,e1,c1,n1,d1⟩,_⟩ :=I.tuple (SqT.of ha);obtain⟨its2,r2,⟨o2,e2,c2,n2,d2⟩,_⟩ :=I.tuple (SqT.of hb);have hi:its=[]:=r1.nil_iff.mpr rfl;subst hi;obtain⟨cl1,dd1,dt1,sl1⟩ :=o1;obtain⟨cl2,dd2,dt2,sl2⟩ :=o2;simp only at c1 d1 c2 d2;subst c1 d1 c2 d2;exact HT.JsV a b its2 n1 n2 dd1 dd2 sl1 sl2 e1 e2 ⟨.ref b,H,I,rfl,q b H (JX.refl H) hb⟩
 .refine Jo5 (X:=X) pins s σ H (.ref a) (.ref b) v u Q I rx ry ⟨a,b,xs,ys,rfl,rfl,SqT.of ha,SqT.of hb,hx,hz,fun e=>?_,fun _ p hp=>?_⟩
  .subst e;exact q a H (JX.refl H) (by rw[List.append_nil];exact ha)
  .exact q p _ (Je hp) Ja
end
end L2
namespace Wb
open PySem PySem.Spec PyProof.Rows L2
theorem Jnw{H:Hp}{bs:List Bd}{v:V}(h:Rep H (JeM bs) v):∃a,v=.ref a/\JG H a bs:=by
 obtain⟨a,vs,e,_⟩ :=id h;subst e;exact⟨a,rfl,JB.mpr h⟩
theorem JhI{H:Hp}{a:Addr}{bs cs:List Bd}{xs ys:List V}(ha:YL H (bs.map fun b=>.tup [oD b.1,.int b.2]) xs)(hb:YL H (cs.map fun b=>.tup [oD b.1,.int b.2]) ys)(h:H a=some (.tup (xs++ys))):JG H a (bs++cs):=by
 refine JB.mpr ⟨a,_,rfl,h,?_⟩;rw[B4];refine YL.of (by rw[Ak,Ak,ha.length,hb.length]) fun i v d e1 e2=>?_
 by_cases c:i<xs.length
 .rw[Bq c]at e1;rw[Bq (by rw[<- ha.length];exact c)]at e2;exact ha.get i v d e1 e2
 .rw[Bj (by omega)]at e1;rw[Bj (by rw[<- ha.length];omega),<- ha.length]at e2;exact hb.get _ v d e1 e2
theorem Jk2{H:Hp}{a:Addr}{bs:List Bd}(h:JG H a bs):∃xs,H a=some (.tup xs)/\YL H (bs.map fun b=>.tup [oD b.1,.int b.2]) xs:=by
 obtain⟨a',xs,e,h1,h2⟩ :=JB.mp h;cases e;exact⟨xs,h1,h2⟩
theorem Jlr{H:Hp}{ds:List Dt}{vs:List V}(n:Nat)(h:YL H ds vs):YL H (ds.take n) (vs.take n):=by
 refine YL.of (by rw[B7,B7,h.length]) fun i v d e1 e2=>?_;rw[List.getElem?_take]at e1 e2;split at e1
 .rename_i c;rw[if_pos c]at e2;exact h.get i v d e1 e2
 .cases e1
theorem Jfq{xs:List V}(h:xs≠[]):Jf6 xs none (some (-1))=xs.take (xs.length-1):=by
 unfold Jf6;have hl:0<xs.length:=List.length_pos_iff.mpr h
 have e2:HT.sIx xs.length xs.length (some (-1))=xs.length-1:=by
  simp only[HT.sIx];rw[if_pos (by decide)];omega
 rw[e2];rfl
theorem Jbl.take{bs:List Bd}(h:Jbl bs)(n:Nat):Jbl (bs.take n):=⟨by rw[B7];have:=h.len;omega,fun b hb=>h.each b (List.mem_of_mem_take hb)⟩
theorem Jrp.b{m:V}{bs:List Bd}(h:Jrp m bs):Jbl bs:=⟨Nat.le_succ_of_le h.len,fun b hb=>by have:=h.each b hb;omega⟩
end Wb
namespace L2
open PySem
theorem Jc9{n:Nat}(h:n<=1000):n<=B2:=Cq (Jy h)
end L2
namespace Wb
open PySem PySem.Spec PyProof.Rows L2
mutual
noncomputable def noL:Dt->Bool
 | .lst _=>false
 | .tup l=>JoA l
 | _=>true
noncomputable def JoA:List Dt->Bool
 | []=>true
 | d::r=>noL d&&JoA r
end
def Ja0(H H':Hp):Prop:=∀b xs,H b=some (.tup xs)->H' b=some (.tup xs)
theorem Ja0.trans{H H1 H2:Hp}(a:Ja0 H H1)(b:Ja0 H1 H2):Ja0 H H2:=fun c xs e=>b c xs (a c xs e)
theorem Ja0.of{H H':Hp}(s:JX H H'):Ja0 H H':=fun c xs e=>s c _ e
theorem Ja0.lst{H:Hp}{l:Addr}{xs:List V}{o:HO}(e:H l=some (.lst xs)):Ja0 H (upd H l o):=fun b ys z=>by
 rw[Jf (Jac z e fun y=>nomatch y)];exact z
mutual
theorem Rep.sameT{H H':Hp}(s:Ja0 H H'):∀{d:Dt}{v:V},noL d=true->Rep H d v->Rep H' d v
 | .non,_,_,h=>h
 | .bl _,_,_,h=>h
 | .int _,_,_,h=>h
 | .str _,_,_,h=>h
 | .tup l,_,n,⟨a,vs,e,h,r⟩ =>⟨a,vs,e,s _ _ h,YL.sameT s (show JoA l=true from n) r⟩
 | .lst l,_,n,_=>absurd (show false=true from n) (by decide)
theorem YL.sameT{H H':Hp}(s:Ja0 H H'):∀{l:List Dt}{vs:List V},JoA l=true->YL H l vs->YL H' l vs
 | [],_,_,h=>h
 | d::r,_,n,⟨v,t,e,h,q⟩ =>by
  have n:(noL d&&JoA r)=true:=n;rw[Bool.and_eq_true]at n;exact⟨v,t,e,Rep.sameT s n.1 h,YL.sameT s n.2 q⟩
end
theorem Jcf{α:Type}{f:α->Dt}(h:∀x,noL (f x)=true):∀l:List α,JoA (l.map f)=true
 | []=>rfl
 | x::r=>by
  show(noL (f x)&&JoA (r.map f))=true;rw[h x,Jcf h r];rfl
theorem Jfg(bs:List Bd):noL (JeM bs)=true:=Jcf (fun b=>by obtain⟨o,e⟩ :=b;cases o<;>rfl) bs
theorem Jav(d:Y7):noL (Jbi d)=true:=by
 cases d with
 | rate week bs=>
  show(true&&(true&&(noL (JeM bs)&&true)))=true;rw[Jfg];rfl
 | dues month t=>
  show(true&&(true&&((noL (JeM t.1)&&(true&&(true&&true)))&&true)))=true;rw[Jfg];rfl
 | _=>rfl
structure R9(H:Hp)(vs us:List V)(ds:List Y7):Prop where
 dv:YL H (ds.map Jbi) vs
 uv:YL H (outs PB.new ds) us
 nl:JoA (outs PB.new ds)=true
 dok:∀d∈ds,Ja1 d
end Wb
namespace Wb
open PySem PySem.Spec PyProof.Rows L2
theorem JG.sameT{H H':Hp}{a:Addr}{bs:List Bd}(h:JG H a bs)(s:Ja0 H H'):JG H' a bs:=JB.mpr (Rep.sameT s (Jfg bs) (JB.mp h))
def Jhy(H:Hp)(v:V):Prop:=∃(a:Addr)(bs:List Bd),v=.ref a/\JG H a bs/\Jbl bs
theorem Jhy.sameT{H H':Hp}{v:V}(h:Jhy H v)(s:Ja0 H H'):Jhy H' v:=let ⟨a,bs,e,b,c⟩ :=h;⟨a,bs,e,JG.sameT b s,c⟩
theorem Jhy.same{H H':Hp}{v:V}(h:Jhy H v)(s:JX H H'):Jhy H' v:=h.sameT (Ja0.of s)
def Jrv(H:Hp)(v:V):Prop:=∃(a b:Addr)(t:Tab),v=.ref a/\H a=some (.tup [.ref b,.int t.2.1,.int t.2.2])/\JG H b t.1/\JpZ t
theorem Joc{H:Hp}{t a:Addr}{wk:Int}{bs:List Bd}(h:H t=some (.tup [.str "rate",.int wk,.ref a]))(b:JG H a bs):Rep H (Jbi (.rate wk bs)) (.ref t):=⟨t,_,rfl,h,_,_,rfl,rfl,_,_,rfl,rfl,_,_,rfl,JB.mp b,rfl⟩
theorem JpE{H:Hp}{t a:Addr}{T:Tab}(h:H t=some (.tup [.ref a,.int T.2.1,.int T.2.2]))(b:JG H a T.1):Rep H (JrH T) (.ref t):=⟨t,_,rfl,h,_,_,rfl,JB.mp b,_,_,rfl,rfl,_,_,rfl,rfl,rfl⟩
theorem Jn1{H:Hp}{t u:Addr}{m:Int}{T:Tab}(h:H t=some (.tup [.str "dues",.int m,.ref u]))(r:Rep H (JrH T) (.ref u)):Rep H (Jbi (.dues m T)) (.ref t):=⟨t,_,rfl,h,_,_,rfl,rfl,_,_,rfl,rfl,_,_,rfl,r,rfl⟩
theorem Jh4{H:Hp}{t:Addr}{who:Str}{d m:Int}(h:H t=some (.tup [.str "hours",.str who,.int d,.int m])):Rep H (Jbi (.hours who d m)) (.ref t):=⟨t,_,rfl,h,_,_,rfl,rfl,_,_,rfl,rfl,_,_,rfl,rfl,_,_,rfl,rfl,rfl⟩
structure L9(H:Hp)(bs:List Bd)(T:Tab)(h:Int)(dl ul:Addr)(vs us:List V)(ds:List Y7)(n:Nat):Prop where
 dl:H dl=some (.lst vs)
 ul:H ul=some (.lst us)
 r:R9 H vs us ds
 len:ds.length<=n
 few:(ds.filter isH).length<=1
 third:∃t3 t4 ga,vs[2]?=some (.ref t3)/\H t3=some (.tup [.str "dues",.int 0,.ref t4])/\H t4=some (.tup [.ref ga,.int T.2.1,.int T.2.2])/\JG H ga T.1
theorem JpD(U:Tab):Jd2 U=(Jbo (some 100) U.1&&(decide (0<=U.2.1)&&decide (0<U.2.2))):=by
 unfold Jd2;rw[Bool.and_assoc];congr 2
end Wb
namespace Wb
open PySem PySem.Spec PyProof.Rows L2
noncomputable def vAt(f:Int×Int->Int)(l:II)(k:Int):Int:=match YB l k with
 | none=>0
 | some x=>f (k,x)
theorem Jni{f:Int×Int->Int}{p:Int×Int}{r:II}(h:p.1∉r.map (·.1))(k:Int):vAt f (p::r) k=(if p.1=k then f p else 0)+vAt f r k:=by
 unfold vAt;rw[Jan]
 by_cases c:p.1=k
 .rw[if_pos c,if_pos c];have:YB r k=none:=JfM.mpr (c ▸ h);rw[this];show f (k,p.2)=f p+0;rw[<- c];simp
 .rw[if_neg c,if_neg c];simp
theorem Jmw{α:Type}(f g:α->Int):∀l:List α,(l.map fun x=>f x+g x).sum=(l.map f).sum+(l.map g).sum
 | []=>rfl
 | x::r=>by
  simp only[List.map_cons,List.sum_cons,Jmw f g r];omega
theorem Jj6{α:Type}(f:α->Int):∀l:List α,(∀x∈l,f x=0)->(l.map f).sum=0
 | [],_=>rfl
 | x::r,h=>by
  simp only[List.map_cons,List.sum_cons,Jj6 f r fun y hy=>h y (List.mem_cons_of_mem _ hy),h x Aj];rfl
theorem JpJ{ms:List Int}(nd:ms.Nodup)(k x:Int):(ms.map fun m=>if k=m then x else 0).sum=if k∈ms then x else 0:=by
 induction ms with
 | nil=>rfl
 | cons m r ih=>
  obtain⟨n1,n2⟩ :=List.nodup_cons.mp nd;simp only[List.map_cons,List.sum_cons,ih n2,Ax]
  by_cases c:k=m
  .subst c;simp[n1]
  .simp[c]
theorem Jjo{ms:List Int}(nd:ms.Nodup)(f:Int×Int->Int):∀{l:II},(l.map (·.1)).Nodup->(ms.map fun m=>vAt f l m).sum=((l.filter fun p=>decide (p.1∈ms)).map f).sum
 | [],_=>Jj6 _ _ fun _ _=>rfl
 | p::r,h=>by
  rw[List.map_cons]at h;obtain⟨h1,h2⟩ :=List.nodup_cons.mp h;have e:(fun m=>vAt f (p::r) m)=fun m=>(if p.1=m then f p else 0)+vAt f r m:=funext fun m=>Jni h1 m;rw[e,Jmw,JpJ nd,Jjo nd f h2,List.filter_cons]
  by_cases c:p.1∈ms
  .simp[c]
  .simp[c]
noncomputable def Jij(a:Int)(n:Nat):List Int:=(List.range n).map fun j:Nat=>a+(j:Int)
theorem JpQ(a:Int)(n:Nat):(Jij a n).Nodup:=by
 unfold Jij;rw[List.nodup_iff_pairwise_ne,List.pairwise_map];refine List.Pairwise.imp_of_mem ?_ (List.pairwise_lt_range (n:=n));intro x y _ _ h;omega
theorem JgU{a k:Int}{n:Nat}:k∈Jij a n↔a<=k/\k<a+n:=by
 unfold Jij;rw[Bw];constructor
 .rintro⟨j,hj,rfl⟩;have:=List.mem_range.mp hj;omega
 .rintro⟨h1,h2⟩;exact⟨(k-a).toNat,List.mem_range.mpr (by omega),by omega⟩
theorem Jpb(a:Int)(n:Nat):(Jij a n).Pairwise (·<·):=by
 unfold Jij;rw[List.pairwise_map];refine List.Pairwise.imp_of_mem ?_ (List.pairwise_lt_range (n:=n));intro x y _ _ h;omega
theorem JjY(f:Int×Int->Int){l:II}(h:(l.map (·.1)).Nodup)(n:Nat)(hn:0<n)(w:Int):((List.range n).map fun j:Nat=>vAt f l (n*w+j)).sum=((l.filter fun p=>decide (p.1/n=w)).map f).sum:=by
 have e:((List.range n).map fun j:Nat=>vAt f l (n*w+j))=(Jij (n*w) n).map fun m=>vAt f l m:=by
  unfold Jij;rw[List.map_map];rfl
 rw[e,Jjo (JpQ _ _) f h];congr 2;refine List.filter_congr fun p _=>?_
 have hn':(0:Int)<n:=by omega
 rw[decide_eq_decide,JgU];constructor
 .rintro⟨h1,h2⟩;have a1:w<=p.1/n:=(Int.le_ediv_iff_mul_le hn').mpr (by rw[Int.mul_comm];exact h1);have a2:p.1/n<w+1:=(Int.ediv_lt_iff_lt_mul hn').mpr (by rw[Int.add_mul,Int.one_mul,Int.mul_comm];exact h2);omega
 .rintro rfl;have a1:=Int.mul_ediv_add_emod p.1 n;have a2:=C0 p.1 (b:=(n:Int)) (by omega);have a3:=Bx p.1 hn';omega
theorem JnX{days:II}(nd:(days.map (·.1)).Nodup)(w:Int):Jhx (fun d=>(YB days d).getD 0) w=(YB (hbw days) w).getD 0:=by
 rw[JgA,JeD];unfold Jhx
 have e:(fun j:Nat=>(YB days (7*w+(j:Int))).getD 0)=fun j:Nat=>vAt (·.2) days (((7:Nat):Int)*w+(j:Int)):=funext fun j=>by
  unfold vAt
  show _=match YB days (7*w+(j:Int))with|none=>0|some x=>x
  cases YB days (7*w+(j:Int))<;>rfl
 rw[e,JjY _ nd 7 (by decide)];show _=(0:Int)+_;rw[Int.zero_add];rfl
theorem lv0{bs:List Bd}{m:Option Int}(h:Jbo m bs=true):lv 0 0 bs=0:=JmA bs 0 0 (Jco h).1 (Int.le_refl 0)
theorem JqX{o:Option Tab}(h:∀t,o=some t->Jd2 t=true):JdZ 0 o=0:=by
 cases o with
 | none=>rfl
 | some t=>
  have c:=h t rfl;unfold Jd2 at c;rw[Bool.and_eq_true,Bool.and_eq_true]at c;show 0-due 0 t.1 t.2.1 t.2.2=0;unfold due JlH mx;rw[lv0 c.1.1];split<;>split<;>omega
theorem Jpd{rates:List (Int×List Bd)}(h:∀p∈rates,Jbo none p.2=true/\Jbl p.2)(w:Int):JaU 0 w rates=0:=by
 unfold JaU
 cases e:JeU rates w with
 | none=>rfl
 | some bs=>
  obtain⟨k,hk⟩ :=Jhe e;exact lv0 (h _ hk).1
theorem JjS{α β:Type}(g:Int->α->β)(m:Int):∀l:List (Int×α),YB (l.map fun p=>(p.1,g p.1 p.2)) m=(YB l m).map (g m)
 | []=>rfl
 | p::r=>by
  rw[List.map_cons,Jan,Jan,JjS g m r]
  by_cases c:p.1=m
  .rw[if_pos c,if_pos c,c];rfl
  .rw[if_neg c,if_neg c]
structure Lk(ms:List Int)(cov:Str->Prop)(M:PB)(B:Bk):Prop where
 hrs:∀who d,B.hrs who d=(YB (M.pn who).days d).getD 0
 rates:B.rates=M.rates
 dues:B.dues=M.dues
 paid:∀who,B.paid who=(M.pn who).paid
 last:∀who,B.last who=(M.pn who).last
 nets:∀who m,B.nets who m=(YB (M.pn who).nets m).getD 0
 cov:∀who,cov who->∀p∈(M.pn who).days,p.1/28∈ms
 old:∀who m,m∈(M.pn who).nets.map (·.1)->∃l,(M.pn who).last=some l/\∃p∈(M.pn who).days,p.1/7<=l/\p.1/28=m
theorem Lk.new(ms:List Int)(cov:Str->Prop):Lk ms cov PB.new Bk.new:=⟨fun _ _=>rfl,rfl,rfl,fun _=>rfl,fun _=>rfl,fun _ _=>rfl,(fun _ _ _ h=>nomatch h),(fun _ _ h=>nomatch h)⟩
section
variable {ms:List Int} {cov:Str→Prop} {M:PB} {B:Bk} {n:Nat}
theorem Lk.wages(h:Lk ms cov M B)(ok:Jcr n M)(who:Str)(week:Int):wages B who week=Jlu M who week:=by
 have e:B.hrs who=fun d=>(YB (M.pn who).days d).getD 0:=funext (h.hrs who);unfold Wb.wages Jlu JaU;rw[h.rates,e,JnX (ok.nd who)]
 all_goals (cases JeU M.rates week<;>rfl)
theorem Jqo{days:II}:((hbw days).map (·.1)).Nodup:=by
 rw[JgA];exact Jcz _ List.nodup_nil
theorem JjJ(hb:II)(last:Int)(rates:List (Int×List Bd)):((pbm hb last rates).map (·.1)).Nodup:=by
 rw[JiE];exact Jcz _ List.nodup_nil
theorem Lk.monthP(h:Lk ms cov M B)(ok:Jcr n M)(who:Str)(m last:Int):monthP B who m last=(YB (pbm (hbw (M.pn who).days) last M.rates) m).getD 0:=by
 rw[JiE,JeD];unfold Wb.monthP
 have e:(fun j:Nat=>if 4*m+(j:Int)<=last then Wb.wages B who (4*m+j)else 0)=fun j:Nat=>vAt (fun p=>if p.1<=last then JaU p.2 p.1 M.rates else 0) (hbw (M.pn who).days) (((4:Nat):Int)*m+(j:Int)):=funext fun j=>by
  rw[h.wages ok];unfold Jlu vAt
  show _=match YB (hbw (M.pn who).days) (4*m+(j:Int))with|none=>0|some x=>if 4*m+(j:Int)<=last then JaU x (4*m+(j:Int)) M.rates else 0
  cases YB (hbw (M.pn who).days) (4*m+(j:Int))with
  | none=>
   show(if _ then JaU 0 _ _ else 0)=0;rw[Jpd ok.ra];split<;>rfl
  | some x=>rfl
 rw[e,JjY _ Jqo 4 (by decide)];show _=(0:Int)+_;rw[Int.zero_add,List.filter_filter];generalize hbw (M.pn who).days=l
 induction l with
 | nil=>rfl
 | cons p r ih=>
  rw[List.filter_cons,List.filter_cons]
  by_cases c:p.1/4=m
  .rw[if_pos (by show decide (p.1/((4:Nat):Int)=m)=true;exact decide_eq_true c),List.map_cons,List.sum_cons,ih]
   by_cases d:p.1<=last
   .have q:(decide (p.1/4=m)&&decide (p.1<=last))=true:=by simp[c,d]
    rw[if_pos d,if_pos q,List.map_cons,List.sum_cons]
   .have q:¬(decide (p.1/4=m)&&decide (p.1<=last))=true:=by simp[c,d]
    rw[if_neg d,if_neg q,Int.zero_add]
  .rw[if_neg (by show¬decide (p.1/((4:Nat):Int)=m)=true;simpa using c),if_neg (by simp[c]),ih]
theorem Jnl{t:Tab}(ok:Jcr n M){m:Int}(h:JeU M.dues m=some t):Jd2 t=true:=by
 obtain⟨k,hk⟩ :=Jhe h;exact(ok.du _ hk).1
theorem Lk.netS(h:Lk ms cov M B)(ok:Jcr n M)(who:Str)(m last:Int):netS B who m last=(YB (Jai M who last) m).getD 0:=by
 unfold Wb.netS Jai;rw[h.monthP ok,h.dues,Jgk _ (JjJ _ _ _),JjS (fun k x=>JdZ x (JeU M.dues k))]
 cases YB (pbm (hbw (M.pn who).days) last M.rates) m with
 | none=>exact JqX fun t e=>Jnl ok e
 | some x=>rfl
theorem Jet(M:PB)(who:Str)(last m:Int):m∈(Jai M who last).map (·.1)↔∃p∈(M.pn who).days,p.1/7<=last/\p.1/28=m:=by
 unfold Jai;rw[Jgk _ (JjJ _ _ _),List.map_map,show((fun p:Int×Int=>p.1) ∘ fun p:Int×Int=>(p.1,JdZ p.2 (JeU M.dues p.1)))=fun p=>p.1 from rfl,JiE,Jci];constructor
 .rintro(h|⟨p,hp,e⟩)
  .nomatch h
  obtain⟨h1,h2⟩ :=List.mem_filter.mp hp;have h2:=of_decide_eq_true h2;have h3:p.1∈(hbw (M.pn who).days).map (·.1):=List.mem_map_of_mem h1;rw[JgA,Jci]at h3
  rcases h3 with h3|⟨q,hq,e2⟩
  .nomatch h3
  refine⟨q,hq,by omega,?_⟩;have e2:q.1/7=p.1:=e2;have e:p.1/4=m:=e;omega
 .rintro⟨p,hp,h1,h2⟩
  have h3:p.1/7∈(hbw (M.pn who).days).map (·.1):=by
   rw[JgA,Jci];exact .inr ⟨p,hp,rfl⟩
  obtain⟨q,hq,e⟩ :=Bw.mp h3;refine .inr ⟨q,List.mem_filter.mpr ⟨hq,decide_eq_true (by omega)⟩,?_⟩;show q.1/4=m;omega
theorem JjA(M:PB)(who:Str)(last:Int):((Jai M who last).map (·.1)).Nodup:=by
 unfold Jai;rw[Jgk _ (JjJ _ _ _),List.map_map,show((fun p:Int×Int=>p.1) ∘ fun p:Int×Int=>(p.1,JdZ p.2 (JeU M.dues p.1)))=fun p=>p.1 from rfl];exact JjJ _ _ _
theorem Lk.keys_in(h:Lk ms cov M B){who:Str}(c:cov who){last m:Int}(hm:m∈(Jai M who last).map (·.1)):m∈ms:=by
 obtain⟨p,hp,_,e⟩ :=(Jet M who last m).mp hm;rw[<- e];exact h.cov who c p hp
theorem Lk.rightS(h:Lk ms cov M B)(ok:Jcr n M)(nd:ms.Nodup){who:Str}(c:cov who)(last:Int):rightS ms B who last=JaA M who last:=by
 unfold Wb.rightS JaA
 have e:(fun m=>Wb.netS B who m last)=fun m=>vAt (·.2) (Jai M who last) m:=funext fun m=>by
  rw[h.netS ok];unfold vAt;cases YB (Jai M who last) m<;>rfl
 rw[e,Jjo nd _ (JjA M who last),List.filter_eq_self.mpr];rintro p hp;exact decide_eq_true (h.keys_in c (List.mem_map_of_mem hp))
theorem JnM{xs ys:List Int}(nx:xs.Pairwise (·<·))(ny:ys.Pairwise (·<·))(h:∀m,m∈xs↔m∈ys):xs=ys:=by
 have dx:xs.Nodup:=List.nodup_iff_pairwise_ne.mpr (nx.imp fun h=>by omega);have dy:ys.Nodup:=List.nodup_iff_pairwise_ne.mpr (ny.imp fun h=>by omega);have p:=(List.perm_ext_iff_of_nodup dx dy).mpr h;rw[JlI p (nx.imp fun h=>by omega),<- JlI (List.Perm.refl ys) (ny.imp fun h=>by omega)]
theorem Jrh{ks:List Int}(nd:ks.Nodup):(srt ks).Pairwise (·<·):=by
 have p:(srt ks).Perm ks:=List.mergeSort_perm ks _;have s:(srt ks).Pairwise fun a b=>decide (a<=b)=true:=List.pairwise_mergeSort (by intro a b c;simp;omega) (by intro a b;simp;omega) ks;have d:(srt ks).Pairwise (·≠·):=List.nodup_iff_pairwise_ne.mp (p.nodup_iff.mpr nd);refine(s.and d).imp ?_;rintro a b ⟨h1,h2⟩;have:=of_decide_eq_true h1;omega
theorem JcB(f:Int->Int)(l:List Int):((l.map fun m=>(m,f m)).filter fun p=>decide (p.2≠0))=(l.filter fun m=>decide (f m≠0)).map fun m=>(m,f m):=by
 rw[List.filter_map];rfl
theorem Lk.lines(h:Lk ms cov M B)(ok:Jcr n M)(up:ms.Pairwise (·<·)){who:Str}(c:cov who){week:Int}(e:early B who week=false):Jaj ms B who week=JeF (M.pn who).nets (Jai M who week):=by
 unfold Jaj JeF
 have ef:(fun m=>(m,Wb.netS B who m week-B.nets who m))=fun m=>(m,(YB (Jai M who week) m).getD 0-(YB (M.pn who).nets m).getD 0):=funext fun m=>by rw[h.netS ok,h.nets]
 rw[ef,JcB,JcB];congr 1;have kp:(srt ((Jai M who week).map (·.1))).Perm _:=List.mergeSort_perm _ _;refine JnM (up.filter _) ((Jrh (JjA M who week)).filter _) fun m=>?_;rw[List.mem_filter,List.mem_filter,kp.mem_iff];constructor
 .rintro⟨hm,hz⟩;refine⟨?_,hz⟩;have hz:=of_decide_eq_true hz
  cases hn:YB (Jai M who week) m with
  | some x=>exact List.mem_map_of_mem (JcY hn)
  | none=>
   cases ho:YB (M.pn who).nets m with
   | none=>
    rw[hn,ho]at hz;exact absurd rfl hz
   | some x=>
    obtain⟨l,hl,p,hp,h1,h2⟩ :=h.old who m (List.mem_map_of_mem (JcY ho));unfold early at e;rw[h.last,hl]at e;have e:=of_decide_eq_false e;exact(Jet M who week m).mpr ⟨p,hp,by omega,h2⟩
 .rintro⟨hm,hz⟩;exact⟨h.keys_in c hm,hz⟩
end
noncomputable def Jo8(ms:List Int)(cov:Str->Prop):Y7->Prop
 | .hours who day _=>cov who->day/28∈ms
 | .payday who _=>cov who
 | .right who _=>cov who
 | .owing who _=>cov who
 | _=>True
theorem Lk.touch{ms:List Int}{cov:Str->Prop}{M:PB}{B:Bk}(h:Lk ms cov M B)(who:Str):Lk ms cov (M.touch who) B:=by
 refine⟨?_,?_,?_,?_,?_,?_,?_,?_⟩<;>simp only[Yk,Ja6,Jbw]
 .exact h.hrs
 .exact h.rates
 .exact h.dues
 .exact h.paid
 .exact h.last
 .exact h.nets
 .exact h.cov
 .exact h.old
theorem Lk.step{ms:List Int}{cov:Str->Prop}{M:PB}{B:Bk}{n:Nat}(h:Lk ms cov M B)(ok:Jcr n M)(up:ms.Pairwise (·<·)){d:Y7}(dk:Ja1 d)(ft:Jo8 ms cov d) :
  (step ms B d).1=(Jak M d).1/\Lk ms cov (Jak M d).2 (step ms B d).2:=by
 have nd:ms.Nodup:=List.nodup_iff_pairwise_ne.mpr (up.imp fun h=>by omega)
 cases d with
 | hours who day many=>
  by_cases c:0<=many/\many<=24
  .have hL:Lk ms cov ((M.touch who).set who { (M.pn who)with days:=Jax (M.pn who).days day many }) { B with hrs:=fun y d=>if y=who/\d=day then many else B.hrs y d }:=by
    refine⟨fun y d=>?_,?_,?_,fun y=>?_,fun y=>?_,fun y m=>?_,fun y cy p hp=>?_,fun y m hm=>?_⟩
    .show(if y=who/\d=day then many else B.hrs y d)=(YB (if y=who then _ else(M.touch who).pn y:Pn).days d).getD 0
     by_cases c1:y=who
     .rw[if_pos c1];show _=(YB (Jax (M.pn who).days day many) d).getD 0;rw[Jid]
      by_cases c2:d=day
      .rw[if_pos ⟨c1,c2⟩,if_pos c2];rfl
      .rw[if_neg (fun z=>c2 z.2),if_neg c2,h.hrs,c1]
     .rw[if_neg (fun z=>c1 z.1),if_neg c1,h.hrs,Yk]
    .show B.rates=(M.touch who).rates;rw[Ja6,h.rates]
    .show B.dues=(M.touch who).dues;rw[Jbw,h.dues]
    .show B.paid y=(if y=who then _ else(M.touch who).pn y:Pn).paid
     by_cases c1:y=who
     .rw[if_pos c1,h.paid,c1]
     .rw[if_neg c1,h.paid,Yk]
    .show B.last y=(if y=who then _ else(M.touch who).pn y:Pn).last
     by_cases c1:y=who
     .rw[if_pos c1,h.last,c1]
     .rw[if_neg c1,h.last,Yk]
    .show B.nets y m=(YB (if y=who then _ else(M.touch who).pn y:Pn).nets m).getD 0
     by_cases c1:y=who
     .rw[if_pos c1,h.nets,c1]
     .rw[if_neg c1,h.nets,Yk]
    .have hp:p∈(if y=who then{ (M.pn who)with days:=Jax (M.pn who).days day many }else(M.touch who).pn y:Pn).days:=hp
     by_cases c1:y=who
     .rw[if_pos c1]at hp
      rcases Jcj hp with e|hp
      .rw[e];exact ft (c1 ▸ cy)
      .exact h.cov who (c1 ▸ cy) p hp
     .rw[if_neg c1,Yk]at hp;exact h.cov y cy p hp
    .have hm:m∈(if y=who then{ (M.pn who)with days:=Jax (M.pn who).days day many }else(M.touch who).pn y:Pn).nets.map (·.1):=hm;show∃l,(if y=who then{ (M.pn who)with days:=Jax (M.pn who).days day many }else(M.touch who).pn y:Pn).last=some l/\∃p∈(if y=who then{ (M.pn who)with days:=Jax (M.pn who).days day many }else(M.touch who).pn y:Pn).days,_
     by_cases c1:y=who
     .rw[if_pos c1]at hm ⊢;obtain⟨l,hl,p,hp,h1,h2⟩ :=h.old who m hm;refine⟨l,hl,?_⟩
      have:p.1∈(Jax (M.pn who).days day many).map (·.1):=by
       rw[Jfo];split
       .exact List.mem_map_of_mem hp
       .exact List.mem_append_left _ (List.mem_map_of_mem hp)
      obtain⟨q,hq,e⟩ :=Bw.mp this;have e:q.1=p.1:=e;exact⟨q,hq,by omega,by omega⟩
     .rw[if_neg c1,Yk]at hm ⊢;exact h.old y m hm
   rw[JdK c];have e:Wb.step ms B (.hours who day many)=(.int (Wb.wages { B with hrs:=fun y d=>if y=who/\d=day then many else B.hrs y d } who (day/7)),{ B with hrs:=fun y d=>if y=who/\d=day then many else B.hrs y d }):=if_pos c;rw[e];have ok':=JgN ok (d:=.hours who day many) dk;rw[JdK c]at ok';exact⟨congrArg Dt.int (hL.wages ok' who _),hL⟩
  .rw[Jd5 c];have e:Wb.step ms B (.hours who day many)=(.str "no hours",B):=if_neg c;rw[e];exact⟨rfl,h⟩
 | rate week bs=>
  cases c:Jbo none bs with
  | true=>
   rw[Jhn c];have e:Wb.step ms B (.rate week bs)=(.str "told",{ B with rates:=Jax B.rates week bs }):=if_pos c;rw[e];exact⟨rfl,h.hrs,by show Jax B.rates week bs=Jax M.rates week bs;rw[h.rates],h.dues,h.paid,h.last,h.nets,h.cov,h.old⟩
  | false=>
   rw[Je5 c];have e:Wb.step ms B (.rate week bs)=(.str "no table",B):=if_neg (by rw[c];decide);rw[e];exact⟨rfl,h⟩
 | dues month t=>
  cases c:Jd2 t with
  | true=>
   rw[Jhj c];have e:Wb.step ms B (.dues month t)=(.str "told",{ B with dues:=Jax B.dues month t }):=if_pos c;rw[e];exact⟨rfl,h.hrs,h.rates,by show Jax B.dues month t=Jax M.dues month t;rw[h.dues],h.paid,h.last,h.nets,h.cov,h.old⟩
  | false=>
   rw[Je1 c];have e:Wb.step ms B (.dues month t)=(.str "no table",B):=if_neg (by rw[c];decide);rw[e];exact⟨rfl,h⟩
 | payday who week=>
  have ee:early B who week=Jdo M who week:=by
   unfold early Jdo;rw[h.last]
   all_goals (cases(M.pn who).last<;>rfl)
  cases c:Jdo M who week with
  | true=>
   rw[Je0 c];have e:Wb.step ms B (.payday who week)=(.str "too early",B):=if_pos (ee.trans c);rw[e];exact⟨rfl,h.touch who⟩
  | false=>
   have cv:cov who:=ft;have hr:=h.rightS ok nd cv week;have hl:=h.lines ok up cv (ee.trans c)
   have e:Wb.step ms B (.payday who week)=(.tup [.int (mx 0 (Wb.rightS ms B who week-B.paid who)),.int (mn 0 (Wb.rightS ms B who week-B.paid who)),.lst ((Jaj ms B who week).map fun p=>.tup [.int p.1,.int p.2])],
    { B with paid:=Jfl B.paid who (B.paid who+mx 0 (Wb.rightS ms B who week-B.paid who)),last:=fun y=>if y=who then some week else B.last y,nets:=fun y m=>if y=who then Wb.netS B who m week else B.nets y m }):=if_neg (by rw[ee,c];decide)
   rw[JdH c,e,hr,hl,h.paid];refine⟨rfl,?_⟩;refine⟨fun y d=>?_,?_,?_,fun y=>?_,fun y=>?_,fun y m=>?_,fun y cy p hp=>?_,fun y m hm=>?_⟩
   .show B.hrs y d=(YB (if y=who then _ else(M.touch who).pn y:Pn).days d).getD 0
    by_cases c1:y=who
    .rw[if_pos c1,h.hrs,c1]
    .rw[if_neg c1,h.hrs,Yk]
   .show B.rates=(M.touch who).rates;rw[Ja6,h.rates]
   .show B.dues=(M.touch who).dues;rw[Jbw,h.dues]
   .show Jfl B.paid who _ y=(if y=who then _ else(M.touch who).pn y:Pn).paid;unfold Jfl
    by_cases c1:y=who
    .rw[if_pos c1,if_pos c1]
    .rw[if_neg c1,if_neg c1,h.paid,Yk]
   .show(if y=who then some week else B.last y)=(if y=who then _ else(M.touch who).pn y:Pn).last
    by_cases c1:y=who
    .rw[if_pos c1,if_pos c1]
    .rw[if_neg c1,if_neg c1,h.last,Yk]
   .show(if y=who then Wb.netS B who m week else B.nets y m)=(YB (if y=who then _ else(M.touch who).pn y:Pn).nets m).getD 0
    by_cases c1:y=who
    .rw[if_pos c1,if_pos c1,h.netS ok]
    .rw[if_neg c1,if_neg c1,h.nets,Yk]
   .have hp:p∈(if y=who then{ (M.pn who)with paid:=(M.pn who).paid+mx 0 (JaA M who week-(M.pn who).paid),last:=some week,nets:=Jai M who week }else(M.touch who).pn y:Pn).days:=hp
    by_cases c1:y=who
    .rw[if_pos c1]at hp;exact h.cov who (c1 ▸ cy) p hp
    .rw[if_neg c1,Yk]at hp;exact h.cov y cy p hp
   .have hm:m∈(if y=who then{ (M.pn who)with paid:=(M.pn who).paid+mx 0 (JaA M who week-(M.pn who).paid),last:=some week,nets:=Jai M who week }else(M.touch who).pn y:Pn).nets.map (·.1):=hm
    show∃l,(if y=who then{ (M.pn who)with paid:=(M.pn who).paid+mx 0 (JaA M who week-(M.pn who).paid),last:=some week,nets:=Jai M who week }else(M.touch who).pn y:Pn).last=some l/\
     ∃p∈(if y=who then{ (M.pn who)with paid:=(M.pn who).paid+mx 0 (JaA M who week-(M.pn who).paid),last:=some week,nets:=Jai M who week }else(M.touch who).pn y:Pn).days,_
    by_cases c1:y=who
    .rw[if_pos c1]at hm ⊢;obtain⟨p,hp,h1,h2⟩ :=(Jet M who week m).mp hm;exact⟨week,rfl,p,hp,h1,h2⟩
    .rw[if_neg c1,Yk]at hm ⊢;exact h.old y m hm
 | pay who week=>exact⟨congrArg Dt.int (h.wages ok who week),h.touch who⟩
 | net who week=>exact⟨congrArg Dt.int (h.netS ok who _ week),h.touch who⟩
 | right who week=>exact⟨congrArg Dt.int (h.rightS ok nd ft week),h.touch who⟩
 | owing who week=>exact⟨congrArg Dt.int (by rw[h.rightS ok nd ft week,h.paid]),h.touch who⟩
 | paid who=>exact⟨congrArg Dt.int (h.paid who),h.touch who⟩
noncomputable def JeE(ms:List Int)(B:Bk)(ds:List Y7):Bk:=ds.foldl (fun B d=>(step ms B d).2) B
noncomputable def JiF(ms:List Int):Bk->List Y7->List Dt
 | _,[]=>[]
 | B,d::r=>(step ms B d).1::JiF ms (step ms B d).2 r
theorem Lk.outs{ms:List Int}{cov:Str->Prop}(up:ms.Pairwise (·<·)):∀{ds:List Y7}{M:PB}{B:Bk}{n:Nat},Lk ms cov M B->Jcr n M->(∀d∈ds,Ja1 d/\Jo8 ms cov d)->JiF ms B ds=outs M ds/\Lk ms cov (Jm5 M ds) (JeE ms B ds)
 | [],_,_,_,h,_,_=>⟨rfl,h⟩
 | d::r,M,B,n,h,ok,hd=>by
  obtain⟨d1,d2⟩ :=hd d Aj;obtain⟨a1,a2⟩ :=h.step ok up d1 d2;obtain⟨b1,b2⟩ :=Lk.outs up a2 (JgN ok d1) fun x hx=>hd x (List.mem_cons_of_mem _ hx);refine⟨?_,b2⟩;show(Wb.step ms B d).1::JiF ms (Wb.step ms B d).2 r=(Jak M d).1::Wb.outs (Jak M d).2 r;rw[a1,b1]
end Wb
namespace Wb
open PySem PySem.Spec PyProof.Rows L2
noncomputable def nmD:Y7->Str
 | .hours ..=>"hours"
 | .rate ..=>"rate"
 | .dues ..=>"dues"
 | .payday ..=>"payday"
 | .pay ..=>"pay"
 | .net ..=>"net"
 | .right ..=>"right"
 | .owing ..=>"owing"
 | .paid ..=>"paid"
theorem JfA{H:Hp}{d:Y7}{v:V}(h:Rep H (Jbi d) v):∃a r,v=.ref a/\H a=some (.tup (.str (nmD d)::r)):=by
 cases d<;>obtain⟨a,vs,rfl,ht,_,_,rfl,rfl,_⟩ :=h<;>exact⟨a,_,rfl,ht⟩
noncomputable def Jdn(B:Bk):Y7->Str
 | .hours _ _ many=>if 0<=many/\many<=24 then "" else "no hours"
 | .rate _ bs=>if Jbo none bs=true then "" else "no table"
 | .dues _ t=>if Jd2 t=true then "" else "no table"
 | .payday who wk=>if early B who wk=true then "too early" else ""
 | _=>""
theorem Jhw{d:Y7}(h:nmD d = "hours"):∃who day many,d=.hours who day many:=by
 cases d<;>first|exact⟨_,_,_,rfl⟩|exact absurd h (by simp only[nmD];decide +kernel)
theorem Jlg{d:Y7}(h:nmD d = "rate"):∃week bs,d=.rate week bs:=by
 cases d<;>first|exact⟨_,_,rfl⟩|exact absurd h (by simp only[nmD];decide +kernel)
theorem JmC{d:Y7}(h:nmD d = "dues"):∃month t,d=.dues month t:=by
 cases d<;>first|exact⟨_,_,rfl⟩|exact absurd h (by simp only[nmD];decide +kernel)
theorem Jfv{d:Y7}(h:nmD d = "payday"):∃who week,d=.payday who week:=by
 cases d<;>first|exact⟨_,_,rfl⟩|exact absurd h (by simp only[nmD];decide +kernel)
theorem JqE{d:Y7}(h:nmD d = "pay"):∃who week,d=.pay who week:=by
 cases d<;>first|exact⟨_,_,rfl⟩|exact absurd h (by simp only[nmD];decide +kernel)
theorem Jp4{d:Y7}(h:nmD d = "net"):∃who week,d=.net who week:=by
 cases d<;>first|exact⟨_,_,rfl⟩|exact absurd h (by simp only[nmD];decide +kernel)
theorem JgE{x:Str}:decide (V.str x=V.str x)=true:=decide_eq_true rfl
theorem JoE{x y:Str}(h:x≠y):¬decide (V.str x=V.str y)=true:=fun z=>h (V.str.inj (of_decide_eq_true z))
theorem Jdp{x y:Str}(h:¬decide (V.str x=V.str y)=true):x≠y:=fun z=>h (decide_eq_true (by rw[z]))
theorem JbR{x y:Str}(h:decide (V.str x=V.str y)=true):x=y:=V.str.inj (of_decide_eq_true h)
noncomputable def LSt.all(A:LSt):List Addr:=[A.hours,A.rates,A.dues,A.paid,A.weeks,A.nets]
structure Law(H:Hp)(st:Addr)(A:LSt)(b:Int)(ms:List Int)(B:Bk)(n:Nat):Prop where
 sta:Jog H st A b ms
 bk:JoC H A ms B
 ok:Jq1 B
 nd:(st::A.all).Nodup
 hl:∀kvs,H A.hours=some (.dT kvs)->kvs.length<=n
 kl:∀c∈[A.rates,A.dues,A.paid,A.weeks,A.nets],∀kvs,H c=some (.dK kvs)->kvs.length<=n
 few:ms.length<=100
 av:∀x,A.out x->∃xs,H x=some (.lst xs)
 nn:∀kvs,H A.nets=some (.dK kvs)->∀who l,Jau kvs (A8 who)=some (.ref l)->¬A.out l
 mm:¬A.out A.months
theorem Law.same{H H':Hp}{st:Addr}{A:LSt}{b:Int}{ms:List Int}{B:Bk}{n:Nat}(h:Law H st A b ms B n)(s:JX H H'):Law H' st A b ms B n:=by
 refine⟨h.sta.same s,h.bk.same s,h.ok,h.nd,fun kvs e=>?_,fun c hc kvs e=>?_,h.few,fun x hx=>let ⟨xs,e⟩ :=h.av x hx;⟨xs,s _ _ e⟩,fun kvs e=>h.nn kvs (by obtain⟨k0,e0,_⟩ :=h.bk.nets;rw[s _ _ e0]at e;cases e;exact e0),h.mm⟩
 .obtain⟨k0,e0,_⟩ :=h.bk.hours;rw[s _ _ e0]at e;cases e;exact h.hl _ e0
 .have hd:∃k0,H c=some (.dK k0):=by
   simp only[Ax,List.not_mem_nil,or_false]at hc
   rcases hc with rfl|rfl|rfl|rfl|rfl
   .exact let ⟨k0,e0,_⟩ :=h.bk.rates;⟨k0,e0⟩
   .exact let ⟨k0,e0,_⟩ :=h.bk.dues;⟨k0,e0⟩
   .exact let ⟨k0,e0,_⟩ :=h.bk.paid;⟨k0,e0⟩
   .exact let ⟨k0,e0,_⟩ :=h.bk.weeks;⟨k0,e0⟩
   .exact let ⟨k0,e0,_⟩ :=h.bk.nets;⟨k0,e0⟩
  obtain⟨k0,e0⟩ :=hd;rw[s _ _ e0]at e;cases e;exact h.kl c hc _ e0
noncomputable def J9(ns:List Int):List Int:=if J3 ns=7 then Jct (JA ns-3) (JA ns+15)else Jct (JA ns-1) (JA ns+4)
noncomputable def JiJ(h r d p w n:Addr):List (Key×V):=[(A8 "hours",.ref h),(A8 "rates",.ref r),(A8 "dues",.ref d),(A8 "paid",.ref p),(A8 "weeks",.ref w),(A8 "nets",.ref n)]
theorem Jmd(h r d p w n:Addr):Jgi [] (JiJ h r d p w n)=JiJ h r d p w n:=by rfl
theorem JpG(h r d p w n l:Addr)(b:Int):Yt (Yt (JiJ h r d p w n) (A8 "base") (.int b)) (A8 "months") (.ref l)=JiJ h r d p w n++[((A8 "base" : Key),V.int b),(A8 "months",.ref l)]:=by rfl
theorem Jny(h r d p w n l l2:Addr)(b:Int):Yt (JiJ h r d p w n++[((A8 "base" : Key),V.int b),(A8 "months",.ref l)]) (A8 "months") (.ref l2)=JiJ h r d p w n++[((A8 "base" : Key),V.int b),(A8 "months",.ref l2)]:=by rfl
theorem JcG{κ:Type}[DecidableEq κ](kvs:List (κ×V))(k:κ)(v:V):(Yt kvs k v).length<=kvs.length+1:=by
 unfold Yt;split
 .rw[A2];omega
 .rw[Ak];exact A5 _
def YC(A:LSt)(H H':Hp):Prop:=∀c o,H c=some o->c∉A.all->H' c=some o
theorem YC.of{A:LSt}{H H':Hp}(s:JX H H'):YC A H H':=fun c o e _=>s c o e
theorem YC.trans{A:LSt}{H H1 H2:Hp}(a:YC A H H1)(b:YC A H1 H2):YC A H H2:=fun c o e n=>b c o (a c o e n) n
theorem YC.put{A:LSt}{H:Hp}{x:Addr}{o:HO}(m:x∈A.all):YC A H (upd H x o):=fun c p e n=>by
 have z:c≠x:=fun z=>n (by rw[z];exact m);rw[Jf z];exact e
theorem Law.isD{H:Hp}{st:Addr}{A:LSt}{b:Int}{ms:List Int}{B:Bk}{n:Nat}(h:Law H st A b ms B n){c:Addr}(hc:c∈A.all):(∃kvs,H c=some (.dK kvs))\/∃kvs,H c=some (.dT kvs):=by
 simp only[LSt.all,Ax,List.not_mem_nil,or_false]at hc
 rcases hc with rfl|rfl|rfl|rfl|rfl|rfl
 .exact .inr (let ⟨k0,e0,_⟩ :=h.bk.hours;⟨k0,e0⟩)
 .exact .inl (let ⟨k0,e0,_⟩ :=h.bk.rates;⟨k0,e0⟩)
 .exact .inl (let ⟨k0,e0,_⟩ :=h.bk.dues;⟨k0,e0⟩)
 .exact .inl (let ⟨k0,e0,_⟩ :=h.bk.paid;⟨k0,e0⟩)
 .exact .inl (let ⟨k0,e0,_⟩ :=h.bk.weeks;⟨k0,e0⟩)
 .exact .inl (let ⟨k0,e0,_⟩ :=h.bk.nets;⟨k0,e0⟩)
theorem Law.sameS{H H':Hp}{st:Addr}{A:LSt}{b:Int}{ms:List Int}{B:Bk}{n:Nat}(h:Law H st A b ms B n)(k:YC A H H'):Ye H H':=by
 constructor<;>intro c xs e<;>refine k c _ e fun m=>?_<;>rcases h.isD m with⟨k0,e0⟩|⟨k0,e0⟩<;>rw[e0]at e<;>cases e
structure Jf8(H Hx:Hp)(st:Addr)(A:LSt)(kv:List (Key×V)):Prop where
 s:Hx st=some (.dK kv)
 h:Hx A.hours=some (.dT [])
 c:∀c∈[A.rates,A.dues,A.paid,A.weeks,A.nets],Hx c=some (.dK [])
 keep:JX H Hx
 fr:∀c∈st::A.all,H c=none
 nd:(st::A.all).Nodup
theorem Jf8.same{H Hx Hy:Hp}{st:Addr}{A:LSt}{kv:List (Key×V)}(b:Jf8 H Hx st A kv)(s:JX Hx Hy):Jf8 H Hy st A kv:=
 ⟨s _ _ b.s,s _ _ b.h,fun c hc=>s _ _ (b.c c hc),b.keep.trans s,b.fr,b.nd⟩
theorem Jf8.put{H Hx:Hp}{st:Addr}{A:LSt}{kv kv':List (Key×V)}(b:Jf8 H Hx st A kv):Jf8 H (upd Hx st (.dK kv')) st A kv':=by
 obtain⟨n1,n2⟩ :=List.nodup_cons.mp b.nd;have ne:∀c∈A.all,c≠st:=fun c hc e=>n1 (e ▸ hc);refine⟨Ja,?_,fun c hc=>?_,fun c o e=>?_,b.fr,b.nd⟩
 .rw[Jf (ne _ (by simp[LSt.all]))];exact b.h
 .rw[Jf (ne _ (by simp only[LSt.all];exact List.mem_cons_of_mem _ hc))];exact b.c c hc
 .rw[Jf]
  .exact b.keep c o e
  .intro z;rw[z,b.fr st Aj]at e;cases e
theorem Jf8.law{H Hx:Hp}{st l:Addr}{A:LSt}{b:Int}{ms:List Int}(g:Jf8 H Hx st A (JiJ A.hours A.rates A.dues A.paid A.weeks A.nets++[((A8 "base" : Key),V.int b),(A8 "months",.ref l)]))(hl:Hx l=some (.lst (ms.map V.int)))(hm:ms.length<=100)(ho:∀x,¬A.out x) :
  Law Hx st { A with months:=l } b ms Bk.new 0:=by
 have c:=fun x hx=>g.c x hx;refine⟨⟨⟨_,g.s,rfl,rfl,rfl,rfl,rfl,rfl,rfl,rfl⟩,hl⟩,⟨⟨[],g.h,fun _ _=>rfl⟩,⟨[],g.c _ (by simp),.nil⟩,⟨[],g.c _ (by simp),.nil⟩,⟨[],g.c _ (by simp),fun _=>rfl⟩,⟨[],g.c _ (by simp),fun _=>rfl⟩,⟨[],g.c _ (by simp),fun _=>.inr ⟨rfl,fun _ _=>rfl⟩⟩⟩,⟨fun _ _=>⟨Int.le_refl 0,by show(0:Int)<=24;decide⟩,(fun _ h=>nomatch h),(fun _ h=>nomatch h)⟩,g.nd,fun kvs e=>?_,fun x hx kvs e=>?_,hm,fun x z=>absurd z (ho x),fun _ _ _ x _=>ho x,ho _⟩
 .have e:Hx A.hours=some (.dT kvs):=e;rw[g.h]at e;cases e;exact A5 _
 .rw[g.c x hx]at e;cases e;exact A5 _
theorem YQ.sameS{H H':Hp}{bs:List Bd}{v:V}(s:Ye H H')(h:YQ H bs v):YQ H' bs v:=let ⟨a,e,b⟩ :=h;⟨a,e,JB.mpr (Rep.sameS s (JB.mp b))⟩
theorem JbL.sameS{H H':Hp}{t:Tab}{v:V}(s:Ye H H')(h:JbL H t v):JbL H' t v:=let ⟨a,c,e,t,b⟩ :=h;⟨a,c,e,s.1 _ _ t,JB.mpr (Rep.sameS s (JB.mp b))⟩
section
variable {H H':Hp} {st:Addr} {A:LSt} {b:Int} {ms:List Int} {B:Bk} {n:Nat}
theorem Law.le{m:Nat}(h:Law H st A b ms B n)(hm:n<=m):Law H st A b ms B m:=⟨h.sta,h.bk,h.ok,h.nd,fun k e=>Nat.le_trans (h.hl k e) hm,fun c hc k e=>Nat.le_trans (h.kl c hc k e) hm,h.few,h.av,h.nn,h.mm⟩
theorem Law.ne_st(h:Law H st A b ms B n){x:Addr}(hx:x∈A.all):st≠x:=fun e=>(List.nodup_cons.mp h.nd).1 (by rw[e];exact hx)
theorem Law.staPut(h:Law H st A b ms B n){x:Addr}(hx:x∈A.all){o:HO}:Jog (upd H x o) st A b ms:=by
 obtain⟨kvs,e,r⟩ :=h.sta.kvs;refine⟨⟨kvs,?_,r⟩,(h.sameS (YC.put hx)).2 _ _ h.sta.months⟩;rw[Jf (h.ne_st hx)];exact e
structure Nds(A:LSt):Prop where
 hr:A.hours≠A.rates
 hd:A.hours≠A.dues
 hp:A.hours≠A.paid
 hw:A.hours≠A.weeks
 hn:A.hours≠A.nets
 rd:A.rates≠A.dues
 rp:A.rates≠A.paid
 rw:A.rates≠A.weeks
 rn:A.rates≠A.nets
 dp:A.dues≠A.paid
 dw:A.dues≠A.weeks
 dn:A.dues≠A.nets
 pw:A.paid≠A.weeks
 pn:A.paid≠A.nets
 wn:A.weeks≠A.nets
theorem Law.nds(h:Law H st A b ms B n):Nds A:=by
 have d:=(List.nodup_cons.mp h.nd).2;simp only[LSt.all,List.nodup_cons,Ax,List.not_mem_nil,or_false,not_or,not_false_eq_true,List.nodup_nil,and_true]at d;obtain⟨⟨a1,a2,a3,a4,a5⟩,⟨b1,b2,b3,b4⟩,⟨c1,c2,c3⟩,⟨d1,d2⟩,e1⟩ :=d;exact⟨a1,a2,a3,a4,a5,b1,b2,b3,b4,c1,c2,c3,d1,d2,e1⟩
theorem Law.lens(h:Law H st A b ms B n){x:Addr}{kvs:List (Key×V)}{k:Key}{v:V}(hx:x∈[A.rates,A.dues,A.paid,A.weeks,A.nets])(e:H x=some (.dK kvs)) :
  (∀ks,upd H x (.dK (Yt kvs k v)) A.hours=some (.dT ks)->ks.length<=n+1)/\∀c∈[A.rates,A.dues,A.paid,A.weeks,A.nets],∀ks,upd H x (.dK (Yt kvs k v)) c=some (.dK ks)->ks.length<=n+1:=by
 have l:=h.kl x hx kvs e;have p:=JcG kvs k v;constructor
 .intro ks e1
  by_cases c:A.hours=x
  .rw[c,Ja]at e1;cases e1
  .rw[Jf c]at e1;exact Nat.le_succ_of_le (h.hl ks e1)
 .intro c hc ks e1
  by_cases z:c=x
  .rw[z,Ja]at e1;cases e1;omega
  .rw[Jf z]at e1;exact Nat.le_succ_of_le (h.kl c hc ks e1)
theorem Law.netsT(h:Law H st A b ms B n)(s:Ye H H')(e:H' A.nets=H A.nets):∃kvs:List (Key×V),H' A.nets=some (.dK kvs)/\∀who,(∃a,Jau kvs (A8 who)=some (.ref a)/\H' a=some (.lst (ms.map fun m=>.int (B.nets who m))))\/(Jau kvs (A8 who)=none/\∀m∈ms,B.nets who m=0):=by
 obtain⟨kvs,e0,r⟩ :=h.bk.nets;refine⟨kvs,e.trans e0,fun who=>?_⟩
 rcases r who with⟨a,q,g⟩|z
 .exact .inl ⟨a,q,s.2 _ _ g⟩
 .exact .inr z
theorem Law.avT(h:Law H st A b ms B n)(s:Ye H H'):∀x,A.out x->∃xs,H' x=some (.lst xs):=fun x hx=>let ⟨xs,e⟩ :=h.av x hx;⟨xs,s.2 _ _ e⟩
theorem Law.nnT(h:Law H st A b ms B n)(e:H' A.nets=H A.nets):∀kvs,H' A.nets=some (.dK kvs)->∀who l,Jau kvs (A8 who)=some (.ref l)->¬A.out l:=fun kvs z=>h.nn kvs (e.symm.trans z)
theorem Jaf{x y:Str}:((A8 x:Key)=A8 y)↔x=y:=⟨A8.inj,congrArg _⟩
theorem Law.putPaid(h:Law H st A b ms B n){kvs:List (Key×V)}(e:H A.paid=some (.dK kvs))(who:Str)(x:Int):Law (upd H A.paid (.dK (Yt kvs (A8 who) (.int x)))) st A b ms { B with paid:=Jfl B.paid who x } (n+1):=by
 have N:=h.nds
 have m:A.paid∈A.all:=by simp[LSt.all]
 have s:=h.sameS (YC.put (o:=HO.dK (Yt kvs (A8 who) (.int x))) m);obtain⟨l1,l2⟩ :=h.lens (k:=A8 who) (v:=.int x) (x:=A.paid) (by simp) e;refine⟨h.staPut m,⟨?_,h.bk.rates.mono (Jf N.rp) fun _ _ z=>z.sameS s,h.bk.dues.mono (Jf N.dp) fun _ _ z=>z.sameS s,⟨_,Ja,fun y=>?_⟩,?_,h.netsT s (Jf N.pn.symm)⟩,⟨h.ok.hrs,h.ok.rates,h.ok.dues⟩,h.nd,l1,l2,h.few,h.avT s,h.nnT (Jf N.pn.symm),h.mm⟩
 .obtain⟨k1,e1,r1⟩ :=h.bk.hours;exact⟨k1,(Jf N.hp).trans e1,r1⟩
 .obtain⟨k1,e1,r1⟩ :=h.bk.paid;rw[e]at e1;cases e1;rw[JaV];show _=V.int (Jfl B.paid who x y);unfold Jfl
  by_cases c:y=who
  .rw[if_pos c,if_pos (Jaf.mpr c)];rfl
  .rw[if_neg c,if_neg (fun z=>c (Jaf.mp z))];exact r1 y
 .obtain⟨k1,e1,r1⟩ :=h.bk.weeks;exact⟨k1,(Jf N.pw.symm).trans e1,r1⟩
theorem Law.putWeek(h:Law H st A b ms B n){kvs:List (Key×V)}(e:H A.weeks=some (.dK kvs))(who:Str)(x:Int):Law (upd H A.weeks (.dK (Yt kvs (A8 who) (.int x)))) st A b ms { B with last:=fun y=>if y=who then some x else B.last y } (n+1):=by
 have N:=h.nds
 have m:A.weeks∈A.all:=by simp[LSt.all]
 have s:=h.sameS (YC.put (o:=HO.dK (Yt kvs (A8 who) (.int x))) m);obtain⟨l1,l2⟩ :=h.lens (k:=A8 who) (v:=.int x) (x:=A.weeks) (by simp) e;refine⟨h.staPut m,⟨?_,h.bk.rates.mono (Jf N.rw) fun _ _ z=>z.sameS s,h.bk.dues.mono (Jf N.dw) fun _ _ z=>z.sameS s,?_,⟨_,Ja,fun y=>?_⟩,h.netsT s (Jf N.wn.symm)⟩,⟨h.ok.hrs,h.ok.rates,h.ok.dues⟩,h.nd,l1,l2,h.few,h.avT s,h.nnT (Jf N.wn.symm),h.mm⟩
 .obtain⟨k1,e1,r1⟩ :=h.bk.hours;exact⟨k1,(Jf N.hw).trans e1,r1⟩
 .obtain⟨k1,e1,r1⟩ :=h.bk.paid;exact⟨k1,(Jf N.pw).trans e1,r1⟩
 .obtain⟨k1,e1,r1⟩ :=h.bk.weeks;rw[e]at e1;cases e1;rw[JaV];show _=(if y=who then some x else B.last y).map V.int
  by_cases c:y=who
  .rw[if_pos c,if_pos (Jaf.mpr c)];rfl
  .rw[if_neg c,if_neg (fun z=>c (Jaf.mp z))];exact r1 y
theorem Law.putNets(h:Law H st A b ms B n){kvs:List (Key×V)}(e:H A.nets=some (.dK kvs))(who:Str){nl:Addr}{f:Int->Int}(hl:H nl=some (.lst (ms.map fun m=>.int (f m))))(no:¬A.out nl) :
  Law (upd H A.nets (.dK (Yt kvs (A8 who) (.ref nl)))) st A b ms { B with nets:=fun y m=>if y=who then f m else B.nets y m } (n+1):=by
 have N:=h.nds
 have m:A.nets∈A.all:=by simp[LSt.all]
 have s:=h.sameS (YC.put (o:=HO.dK (Yt kvs (A8 who) (.ref nl))) m);obtain⟨l1,l2⟩ :=h.lens (k:=A8 who) (v:=.ref nl) (x:=A.nets) (by simp) e;refine⟨h.staPut m,⟨?_,h.bk.rates.mono (Jf N.rn) fun _ _ z=>z.sameS s,h.bk.dues.mono (Jf N.dn) fun _ _ z=>z.sameS s,?_,?_,⟨_,Ja,fun y=>?_⟩⟩,⟨h.ok.hrs,h.ok.rates,h.ok.dues⟩,h.nd,l1,l2,h.few,h.avT s,fun ks z y l q=>?_,h.mm⟩
 .obtain⟨k1,e1,r1⟩ :=h.bk.hours;exact⟨k1,(Jf N.hn).trans e1,r1⟩
 .obtain⟨k1,e1,r1⟩ :=h.bk.paid;exact⟨k1,(Jf N.pn).trans e1,r1⟩
 .obtain⟨k1,e1,r1⟩ :=h.bk.weeks;exact⟨k1,(Jf N.wn).trans e1,r1⟩
 .obtain⟨k1,e1,r1⟩ :=h.bk.nets;rw[e]at e1;cases e1;rw[JaV]
  by_cases c:y=who
  .rw[if_pos (Jaf.mpr c)];refine .inl ⟨nl,rfl,?_⟩;rw[s.2 _ _ hl];simp only[if_pos c]
  .rw[if_neg (fun z=>c (Jaf.mp z))]
   rcases r1 y with⟨a,q,g⟩|⟨q,z⟩
   .refine .inl ⟨a,q,?_⟩;rw[s.2 _ _ g];simp only[if_neg c]
   .refine .inr ⟨q,fun m hm=>?_⟩;show(if y=who then f m else B.nets y m)=0;rw[if_neg c];exact z m hm
 .rw[Ja]at z;cases z;rw[JaV]at q;split at q
  .cases q;exact no
  .exact h.nn _ e y l q
theorem Law.putRate(h:Law H st A b ms B n){kvs:List (Key×V)}(e:H A.rates=some (.dK kvs))(week:Int){bs:List Bd}{v:V}(hv:YQ H bs v)(hc:Jbo none bs=true)(hb:Jbl bs) :
  Law (upd H A.rates (.dK (Yt kvs (Az week) v))) st A b ms { B with rates:=Jax B.rates week bs } (n+1):=by
 have N:=h.nds
 have m:A.rates∈A.all:=by simp[LSt.all]
 have s:=h.sameS (YC.put (o:=HO.dK (Yt kvs (Az week) v)) m);obtain⟨l1,l2⟩ :=h.lens (k:=Az week) (v:=v) (x:=A.rates) (by simp) e;refine⟨h.staPut m,⟨?_,?_,h.bk.dues.mono (Jf N.rd.symm) fun _ _ z=>z.sameS s,?_,?_,h.netsT s (Jf N.rn.symm)⟩,⟨h.ok.hrs,fun p hp=>?_,h.ok.dues⟩,h.nd,l1,l2,h.few,h.avT s,h.nnT (Jf N.rn.symm),h.mm⟩
 .obtain⟨k1,e1,r1⟩ :=h.bk.hours;exact⟨k1,(Jf N.hr).trans e1,r1⟩
 .obtain⟨k1,e1,r1⟩ :=h.bk.rates;rw[e]at e1;cases e1;exact⟨_,Ja,Je3 (JP (fun _ _ z=>⟨z.1,z.2.sameS s⟩) r1) (hv.sameS s)⟩
 .obtain⟨k1,e1,r1⟩ :=h.bk.paid;exact⟨k1,(Jf N.rp.symm).trans e1,r1⟩
 .obtain⟨k1,e1,r1⟩ :=h.bk.weeks;exact⟨k1,(Jf N.rw.symm).trans e1,r1⟩
 .rcases Jcj hp with q|hp
  .rw[q];exact⟨hc,hb⟩
  .exact h.ok.rates p hp
theorem Law.putDues(h:Law H st A b ms B n){kvs:List (Key×V)}(e:H A.dues=some (.dK kvs))(month:Int){t:Tab}{v:V}(hv:JbL H t v)(hc:Jd2 t=true)(hb:JpZ t) :
  Law (upd H A.dues (.dK (Yt kvs (Az month) v))) st A b ms { B with dues:=Jax B.dues month t } (n+1):=by
 have N:=h.nds
 have m:A.dues∈A.all:=by simp[LSt.all]
 have s:=h.sameS (YC.put (o:=HO.dK (Yt kvs (Az month) v)) m);obtain⟨l1,l2⟩ :=h.lens (k:=Az month) (v:=v) (x:=A.dues) (by simp) e;refine⟨h.staPut m,⟨?_,h.bk.rates.mono (Jf N.rd) fun _ _ z=>z.sameS s,?_,?_,?_,h.netsT s (Jf N.dn.symm)⟩,⟨h.ok.hrs,h.ok.rates,fun p hp=>?_⟩,h.nd,l1,l2,h.few,h.avT s,h.nnT (Jf N.dn.symm),h.mm⟩
 .obtain⟨k1,e1,r1⟩ :=h.bk.hours;exact⟨k1,(Jf N.hd).trans e1,r1⟩
 .obtain⟨k1,e1,r1⟩ :=h.bk.dues;rw[e]at e1;cases e1;exact⟨_,Ja,Je3 (JP (fun _ _ z=>⟨z.1,z.2.sameS s⟩) r1) (hv.sameS s)⟩
 .obtain⟨k1,e1,r1⟩ :=h.bk.paid;exact⟨k1,(Jf N.dp.symm).trans e1,r1⟩
 .obtain⟨k1,e1,r1⟩ :=h.bk.weeks;exact⟨k1,(Jf N.dw.symm).trans e1,r1⟩
 .rcases Jcj hp with q|hp
  .rw[q];exact⟨hc,hb⟩
  .exact h.ok.dues p hp
theorem Law.putHours(h:Law H st A b ms B n){kvs:List (List Key×V)}(e:H A.hours=some (.dT kvs))(who:Str)(day many:Int)(hm:0<=many/\many<=24) :
  Law (upd H A.hours (.dT (Yt kvs [A8 who,Az day] (.int many)))) st A b ms { B with hrs:=fun y d=>if y=who/\d=day then many else B.hrs y d } (n+1):=by
 have N:=h.nds
 have m:A.hours∈A.all:=by simp[LSt.all]
 have s:=h.sameS (YC.put (o:=HO.dT (Yt kvs [A8 who,Az day] (.int many))) m);have hl:=h.hl kvs e;have pl:=JcG kvs [A8 who,Az day] (V.int many);refine⟨h.staPut m,⟨⟨_,Ja,fun y d=>?_⟩,h.bk.rates.mono (Jf N.hr.symm) fun _ _ z=>z.sameS s,h.bk.dues.mono (Jf N.hd.symm) fun _ _ z=>z.sameS s,?_,?_,h.netsT s (Jf N.hn.symm)⟩,⟨fun y d=>?_,h.ok.rates,h.ok.dues⟩,h.nd,fun ks e1=>?_,fun c hc ks e1=>?_,h.few,h.avT s,h.nnT (Jf N.hn.symm),h.mm⟩
 .obtain⟨k1,e1,r1⟩ :=h.bk.hours;rw[e]at e1;cases e1;rw[JaV];show _=V.int (if y=who/\d=day then many else B.hrs y d)
  by_cases c:y=who/\d=day
  .rw[if_pos c,if_pos (by rw[c.1,c.2])];rfl
  .rw[if_neg c,if_neg]
   .exact r1 y d
   .intro z
    injection z with z1 z2
    injection z2 with z3 z4
    exact c ⟨A8.inj z1,Az.inj z3⟩
 .obtain⟨k1,e1,r1⟩ :=h.bk.paid;exact⟨k1,(Jf N.hp.symm).trans e1,r1⟩
 .obtain⟨k1,e1,r1⟩ :=h.bk.weeks;exact⟨k1,(Jf N.hw.symm).trans e1,r1⟩
 .show 0<=(if y=who/\d=day then many else B.hrs y d)/\(if y=who/\d=day then many else B.hrs y d)<=24;split
  .exact hm
  .exact h.ok.hrs y d
 .rw[Ja]at e1;cases e1;omega
 .have z:c≠A.hours:=by
   simp only[Ax,List.not_mem_nil,or_false]at hc
   rcases hc with rfl|rfl|rfl|rfl|rfl
   .exact N.hr.symm
   .exact N.hd.symm
   .exact N.hp.symm
   .exact N.hw.symm
   .exact N.hn.symm
  rw[Jf z]at e1;exact Nat.le_succ_of_le (h.kl c hc ks e1)
end
end Wb
namespace Wb
open PySem PySem.Spec PyProof.Rows L2
noncomputable def JpL(ns:List Int):Y7->Prop
 | .hours who day _=>who∈Jv ns/\day/28∈J9 ns
 | .payday who week=>who∈Jv ns/\week<=4*JA ns+9*J3 ns
 | .pay who _=>who∈Jv ns
 | .net who _=>who∈Jv ns
 | .right who _=>who∈Jv ns
 | .owing who _=>who∈Jv ns
 | .paid who=>who∈Jv ns
 | _=>True
theorem Jg5(ns:List Int):J3 ns=7\/J3 ns=1:=by unfold J3;split<;>simp
theorem JiS{ns:List Int}{i:Int}(h0:0<=i)(h1:i<ns.length):∃x,atI (ns.map V.int) i=some (.int x):=by
 have hj:i.toNat<ns.length:=by omega
 have e:=Jh (xs:=ns.map V.int) (j:=i.toNat) (v:=.int ns[i.toNat]) (by rw[Aq,A3 hj];rfl);rw[show((i.toNat:Nat):Int)=i by omega]at e;exact⟨_,e⟩
theorem Jki{ns:List Int}(hp:0<ns.length)(i:Int):∃x,atI (ns.map V.int) (i%((ns.map V.int).length:Nat))=some (.int x):=by
 rw[A2];exact JiS (C0 _ (by omega)) (Bx _ (by omega))
theorem JbQ(ns:List Int):(Jv ns).length=3:=by
 unfold Jv;split
 .rfl
 .split<;>rfl
theorem JqD(ns:List Int)(i:Int):∃who,atI ((Jv ns).map V.str) (i%3)=some (.str who)/\who∈Jv ns:=by
 have h3:=JbQ ns
 have hj:(i%3).toNat<(Jv ns).length:=by omega
 have e:=Jh (xs:=(Jv ns).map V.str) (j:=(i%3).toNat) (v:=.str (Jv ns)[(i%3).toNat]) (by rw[Aq,A3 hj];rfl);rw[show(((i%3).toNat:Nat):Int)=i%3 by omega]at e;exact⟨_,e,List.getElem_mem hj⟩
theorem Joe{ns:List Int}{x:Int}(h0:0<=x)(h1:x<70):((x-12)*J3 ns+28*JA ns)/28∈J9 ns:=by
 unfold J9;split
 .rename_i h;rw[h];refine JgU.mpr ?_;omega
 .rename_i h;rw[(Jg5 ns).resolve_left h];refine JgU.mpr ?_;omega
theorem Jrw(x:Int):(0-x%10^60).natAbs<10^62:=by
 have h0:0<=x%10^60:=C0 _ (by decide);have h1:x%10^60<10^60:=Bx _ (by decide);generalize x%10^60=y at h0 h1;omega
theorem JrJ(x:Int):(1+x%10^60).natAbs<10^62:=by
 have h0:0<=x%10^60:=C0 _ (by decide);have h1:x%10^60<10^60:=Bx _ (by decide);generalize x%10^60=y at h0 h1;omega
theorem Jsx(x:Int):∃per,atI [V.int 0,V.int 1,V.int (0-x%10^(60:Int).toNat)] (x%3)=some (.int per)/\per.natAbs<10^62:=by
 have m3:x%3=0\/x%3=1\/x%3=2:=by omega
 rcases m3 with h|h|h<;>rw[h]
 .exact⟨0,rfl,by decide⟩
 .exact⟨1,rfl,by decide⟩
 .exact⟨_,rfl,Jrw x⟩
theorem JsN(x:Int):∃per,atI [V.int (1+x%10^(60:Int).toNat),V.int 7] (x%2)=some (.int per)/\per.natAbs<10^62:=by
 have m2:x%2=0\/x%2=1:=by omega
 rcases m2 with h|h<;>rw[h]
 .exact⟨_,rfl,JrJ x⟩
 .exact⟨7,rfl,by decide⟩
theorem Yj{x y:Int}(h0 : -1000<=x)(h1:x<=1000):Jlk x y:=.inl (.inl ⟨by omega,by omega⟩)
theorem JqL{ns:List Int}{who:Str}(hm:who∈Jv ns)(week:Int){pick:Int}(h0:¬decide (pick<12)=true)(h1:pick<16):∃(nm:Str)(d:Y7),atI [V.str "pay",V.str "net",V.str "right",V.str "owing"] (pick-12)=some (.str nm)/\
  (∀{H:Hp}{t:Addr},H t=some (.tup [.str nm,.str who,.int week])->Rep H (Jbi d) (.ref t))/\Ja1 d/\JpL ns d:=by
 have h0:¬pick<12:=fun z=>h0 (decide_eq_true z)
 have m4:pick=12\/pick=13\/pick=14\/pick=15:=by omega
 rcases m4 with rfl|rfl|rfl|rfl
 .exact⟨"pay",.pay who week,rfl,fun h=>⟨_,_,rfl,h,_,_,rfl,rfl,_,_,rfl,rfl,_,_,rfl,rfl,rfl⟩,trivial,hm⟩
 .exact⟨"net",.net who week,rfl,fun h=>⟨_,_,rfl,h,_,_,rfl,rfl,_,_,rfl,rfl,_,_,rfl,rfl,rfl⟩,trivial,hm⟩
 .exact⟨"right",.right who week,rfl,fun h=>⟨_,_,rfl,h,_,_,rfl,rfl,_,_,rfl,rfl,_,_,rfl,rfl,rfl⟩,trivial,hm⟩
 .exact⟨"owing",.owing who week,rfl,fun h=>⟨_,_,rfl,h,_,_,rfl,rfl,_,_,rfl,rfl,_,_,rfl,rfl,rfl⟩,trivial,hm⟩
theorem Jr1{b:Bool}{x y:V}:atI [x,y] (if b=true then 1 else 0)=some (if b=true then y else x):=by cases b<;>rfl
theorem JpL.fits{ns:List Int}:∀{d:Y7},JpL ns d->Jo8 (J9 ns) (·∈Jv ns) d
 | .hours ..,h=>fun _=>h.2
 | .payday ..,h=>h.1
 | .right ..,h=>h
 | .owing ..,h=>h
 | .pay ..,_=>trivial
 | .net ..,_=>trivial
 | .paid ..,_=>trivial
 | .rate ..,_=>trivial
 | .dues ..,_=>trivial
theorem Jiu(ns:List Int):(J9 ns).Pairwise (·<·):=by
 unfold J9;split<;>exact Jpb _ _
theorem JmH{c:Nat}:∀{l:List Dt},(∀d∈l,dsz d<=c)->Jex l<=c*l.length
 | [],_=>Bz _
 | d::r,h=>by
  have a:=h d (.head _);have b:=JmH fun e he=>h e (.tail _ he);show dsz d+Jex r<=c*(r.length+1);rw[Nat.mul_add];omega
theorem JmZ{ms:List Int}(B:Bk)(ds:List Y7)(d:Y7):JeE ms B (ds++[d])=(step ms (JeE ms B ds) d).2:=by
 unfold JeE;rw[List.foldl_append];rfl
end Wb
namespace L2
open PySem PySem.Spec PyProof.Rows
theorem JnJ{X:Cx}{pos:Pos}{k1 v1 k2 v2 k3 v3 k4 v4 k5 v5 k6 v6:Expr}{t1 u1 t2 u2 t3 u3 t4 u4 t5 u5 t6 u6:TE}(a1:PE X k1 t1)(b1:PE X v1 u1)(a2:PE X k2 t2)(b2:PE X v2 u2)(a3:PE X k3 t3)(b3:PE X v3 u3)
  (a4:PE X k4 t4) (b4:PE X v4 u4) (a5:PE X k5 t5) (b5:PE X v5 u5) (a6:PE X k6 t6) (b6:PE X v6 u6):PE X (.Dict [some k1,some k2,some k3,some k4,some k5,some k6] [v1,v2,v3,v4,v5,v6] pos) (JqK [(t1,u1),(t2,u2),(t3,u3),(t4,u4),(t5,u5),(t6,u6)]):=by
 have h6:=Jc0 a6 b6 (Jpo (X:=X) (pos:=pos));have h5:=Jc0 a5 b5 h6;have h4:=Jc0 a4 b4 h5;have h3:=Jc0 a3 b3 h4;have h2:=Jc0 a2 b2 h3;have h1:=Jc0 a1 b1 h2;exact JpU h1 rfl rfl (List.cons_ne_nil _ _) (Nat.le_of_ble_eq_true rfl)
noncomputable def fnB(N P:List Str)(sc:Scope):Bool:=decide (sc.kind=.function/\sc.isCoroutine=false/\sc.isGenerator=false/\N.Nodup/\N.take P.length=P/\(∀x∈P,sc.names.lookup x=some .local\/sc.names.lookup x=some .cell)/\∀y∈sc.names,y.2≠.free)
theorem JJ{N P:List Str}{sc:Scope}(h:fnB N P sc=true):Jw N P sc:=by
 obtain⟨a,b,c,d,e,f,g⟩ :=of_decide_eq_true h;exact⟨a,b,c,d,e,f,g⟩
noncomputable def JsH(N:List Str)(sc:Scope)(N':List Str)(scope:Scope)(src:List (Option Nat)):Bool:=decide (scope.kind=.function/\(∀y∈scope.names,y.2≠.cell)/\(∀y∈scope.names,y.2=.free->sc.names.lookup y.1=some .cell\/sc.names.lookup y.1=some .free)/\(∀y∈scope.names,y.2=.local->scope.names.lookup y.1=some .local)/\N'.Nodup/\src.length=N'.length/\
 ∀p∈N'.zip src,∀j∈p.2.toList,N[j]?=some p.1/\scope.names.lookup p.1=some .free)
theorem Jbf{N:List Str}{sc:Scope}{N':List Str}{scope:Scope}{src:List (Option Nat)}(h:JsH N sc N' scope src=true):JbU N sc N' scope src:=by
 obtain⟨a,b,c,d,e,f,g⟩ :=of_decide_eq_true h;exact⟨a,b,c,d,e,f,g⟩
theorem Jl{X:Cx}{pos:Pos}(i:Nat){x:Str}{e:Expr}{te:TE}{pos':Pos}(hN:X.N.Nodup)(he:PE X e te)(hi:X.N[i]?=some x:=by rfl)(hx:Loc X.env.scope x:=by first|exact Or.inl rfl|exact Or.inr rfl)(hs:swapsWith e (some (.Name x pos')) pos.line X.env=pure false:=by rfl)
  (hf:X.fn x=true\/X.env.scope.names.lookup x=some .local:=by first|exact .inl rfl|exact .inr rfl|assumption):PS X (.Assign [.Name x pos'] e pos) (JrC te (JcP i)):=Jfp hN hi hx he hs hf
theorem pa1{X:Cx}{e:Expr}{te:TE}(ha:PE X e te)(hs:starEach [e] X.env=(false,eval e X.env)::starEach [] X.env:=by rfl):PA X [e] (Jq3 te Jro):=Jc ha JV hs
end L2
namespace Wb
open PySem PySem.Spec PyProof.Rows L2
theorem Jo{X:Cx}{x:Str}{ps:List Str}{sp:Sp}{k:Nat}{f:Addr}{fd:FuncData}{p pos:Pos}{e:Expr}{es:List Expr}{t:TA}(C:JI X.prog X.w X.K X.mg X.base x ps sp k f fd)(hr:Jee k X.A)(ha:PA X (e::es) t)(hg:Gl X x:=by rfl)(hdb:(x==("__debug__" : Str))=false:=by decide)
  (he:starEach (e::es) X.env=(false,eval e X.env)::starEach es X.env:=by rfl) (hpl:(backTo pos (starEach es X.env)).any (·.1)=false:=by rfl):PE X (.Call (.Name x p) (e::es) [] pos) (Jp7 sp [] E0 t):=Ji5 C.ok hr hg C.mg C.kp C.b .nil Ja2 ha hdb he hpl
theorem JiK{α:Type}{us:List α}(h:us.length=1):∃a,us=[a]:=List.length_eq_one_iff.mp h
theorem JgF{α:Type}{us:List α}(h:us.length=2):∃a b,us=[a,b]:=by
 cases us with
 | nil=>cases h
 | cons a r=>
  obtain⟨b,rfl⟩ :=JiK (Nat.succ.inj h);exact⟨a,b,rfl⟩
theorem Jge{α:Type}{us:List α}(h:us.length=3):∃a b c,us=[a,b,c]:=by
 cases us with
 | nil=>cases h
 | cons a r=>
  obtain⟨b,c,rfl⟩ :=JgF (Nat.succ.inj h);exact⟨a,b,c,rfl⟩
theorem JqZ{α:Type}{us:List α}(h:us.length=4):∃a b c d,us=[a,b,c,d]:=by
 cases us with
 | nil=>cases h
 | cons a r=>
  obtain⟨b,c,d,rfl⟩ :=Jge (Nat.succ.inj h);exact⟨a,b,c,d,rfl⟩
theorem zs0:0<=B2:=by decide
theorem zs1:1<=B2:=by decide
theorem zs2:2<=B2:=by decide
theorem zs3:3<=B2:=by decide
theorem zs4:4<=B2:=by decide
theorem Jg2{H:Hp}{p:Addr}{o:HO}(h:H p=none):JX H (upd H p o)/\upd H p o p=some o:=⟨Je h,Ja⟩
end Wb
namespace L2
open PySem PySem.Spec PyProof.Rows
def rdV(o:Option (Option V))(H:Hp)(Q:VK):Prop:=match o with
 | some (some v)=>Q v H
 | _=>False
noncomputable def Jsp(i:Nat):TE:=fun σ H Q=>rdV σ[i]? H Q
theorem Jpy{i:Nat}:Jsp i=JrV i:=by
 funext σ H Q;show rdV σ[i]? H Q=∃v,σ[i]?=some (some v)/\Q v H;generalize σ[i]?=o;refine propext ⟨fun h=>?_,fun h=>?_⟩
 .match o,h with
  | some (some v),h=>exact⟨v,rfl,h⟩
 .obtain⟨v,e,h⟩ :=h;rw[e];exact h
noncomputable def rJ0(g:Int->Int->V):R2:=fun x y H Q=>match x,y with
 | .int i,.int j=>Q (g i j) H
 | _,_=>False
theorem Jgx{g:Int->Int->V}:rJ0 g=rI0 g:=by
 funext x y H Q;refine propext ⟨fun h=>?_,fun h=>?_⟩
 .match x,y,h with
  | .int i,.int j,h=>exact⟨i,j,rfl,rfl,h⟩
 .obtain⟨i,j,e,e',h⟩ :=h;rw[e,e'];exact h
noncomputable def rJ(C:Int->Int->Prop)(g:Int->Int->V):R2:=fun x y H Q=>match x,y with
 | .int i,.int j=>C i j/\Q (g i j) H
 | _,_=>False
theorem Jnp{C:Int->Int->Prop}{g:Int->Int->V}:rJ C g=rI C g:=by
 funext x y H Q;refine propext ⟨fun h=>?_,fun h=>?_⟩
 .match x,y,h with
  | .int i,.int j,h=>exact⟨i,j,rfl,rfl,h⟩
 .obtain⟨i,j,e,e',h⟩ :=h;rw[e,e'];exact h
noncomputable def rUJ(g:Int->V):V->Hp->VK->Prop:=fun x H Q=>match x with
 | .int i=>Q (g i) H
 | _=>False
theorem Jqg{g:Int->V}:rUJ g=rU g:=by
 funext x H Q;refine propext ⟨fun h=>?_,fun h=>?_⟩
 .match x,h with
  | .int i,h=>exact⟨i,rfl,h⟩
 .obtain⟨i,e,h⟩ :=h;rw[e];exact h
def rdI(x:V)(H:Hp)(Q:Option Int->Hp->Prop):Prop:=match x with
 | .int i=>Q (some i) H
 | _=>False
noncomputable def JoM(t:TE):TO:=fun σ H Q=>t σ H fun x H1=>rdI x H1 Q
theorem Jl4{t:TE}:JoM t=Jq7 t:=by
 funext σ H Q;refine congrArg (t σ H) (funext fun x=>funext fun H1=>propext ⟨fun h=>?_,fun h=>?_⟩)
 .match x,h with
  | .int c,h=>exact⟨c,rfl,h⟩
 .obtain⟨v,e,h⟩ :=h;rw[e];exact h
section
variable {X:Cx} {a b:Expr} {ta tb:TE} {pos:Pos}
theorem pw(i:Nat){x:Str}{pos:Pos}(hN:X.N[i]?=some x:=by rfl)(hv:Vis X.env.scope x:=by first|exact Or.inl rfl|exact Or.inr (Or.inl rfl)|exact Or.inr (Or.inr rfl))(hd:(x==("__debug__" : Str))=false:=by decide)
  (hcd:(x==("__classdict__" : Str))=false:=by decide):PE X (.Name x pos) (Jsp i):=Jpy ▸ pv i hN hv hd hcd
theorem JF:OpR X (binaryOp .Add) (rJ0 fun i j=>.int (i+j)):=Jgx ▸ Jqu
theorem JW:OpR X (binaryOp .Sub) (rJ0 fun i j=>.int (i-j)):=Jgx ▸ JqW
theorem JcO:OpR X (compareOp .Lt) (rJ0 fun i j=>.bl (decide (i<j))):=Jgx ▸ JrM
theorem JfB:OpR X (compareOp .LtE) (rJ0 fun i j=>.bl (decide (i<=j))):=Jgx ▸ JrE
theorem Jfj:OpR X (compareOp .Gt) (rJ0 fun i j=>.bl (decide (j<i))):=Jgx ▸ JrA
theorem JmT:OpR X (compareOp .GtE) (rJ0 fun i j=>.bl (decide (j<=i))):=Jgx ▸ Jsb
theorem JC:OpR X (binaryOp .Mod) (rJ (fun _ j=>0<j) fun i j=>.int (i%j)):=Jnp ▸ Jqw
theorem JaG:OpR X (binaryOp .Pow) (rJ Jsh fun i j=>.int (i^j.toNat)):=Jnp ▸ Jrd
theorem J7:OpR X (binaryOp .Mult) (rJ Jlk fun i j=>.int (i*j)):=Jnp ▸ Jpa
theorem YU:OpR X (binaryOp .FloorDiv) (rJ Jqv fun i j=>.int (i/j)):=Jnp ▸ JnT
theorem Jaw:UnR X (unaryOp .USub) (rUJ fun i=>.int (-i)):=Jqg ▸ Jon
theorem YG{e:Expr}{te:TE}(h:PE X e te):PO X (some e) (JoM te):=(Jl4 (t:=te)) ▸ Jpk h
end
end L2
namespace Wb
open PySem PySem.Spec PyProof.Rows L2
noncomputable def Jkc(ms:List Int)(B:Bk)(who:Str)(week:Int):Bk:=
 { B with paid:=Jfl B.paid who (B.paid who+mx 0 (rightS ms B who week-B.paid who)),last:=fun y=>if y=who then some week else B.last y,nets:=fun y m=>if y=who then netS B who m week else B.nets y m }
theorem Jj9{ms:List Int}{B:Bk}{who:Str}{week:Int}(e:early B who week=false):step ms B (.payday who week)=(.tup [.int (mx 0 (rightS ms B who week-B.paid who)),.int (mn 0 (rightS ms B who week-B.paid who)),.lst ((Jaj ms B who week).map fun p=>.tup [.int p.1,.int p.2])],Jkc ms B who week):=by
 show(if early B who week=true then _ else _)=_;rw[if_neg (by rw[e];exact Bool.false_ne_true)];rfl
theorem Jn6{ms:List Int}{B:Bk}{who:Str}{week:Int}:(Jkc ms B who week).paid who=B.paid who+mx 0 (rightS ms B who week-B.paid who):=by
 show Jfl _ _ _ _=_;unfold Jfl;rw[if_pos rfl]
theorem Jhv{ms:List Int}{B:Bk}{who:Str}{week m:Int}:(Jkc ms B who week).nets who m=netS B who m week:=by
 show(if who=who then _ else _)=_;rw[if_pos rfl]
noncomputable def Jl1(a c:Int)(l:II):Dt:=.tup [.int a,.int c,.lst (l.map fun p=>.tup [.int p.1,.int p.2])]
def Jb2(b:Int)(B:Bk):Prop:=∀who l,B.last who=some l->l<=b
theorem Jb2.step{b:Int}{ms:List Int}{B:Bk}(h:Jb2 b B){d:Y7}(hd:∀who week,d=.payday who week->week<=b):Jb2 b (step ms B d).2:=by
 cases d with
 | hours who day many=>
  show Jb2 b (if _ then _ else _:Dt×Bk).2;split<;>exact h
 | rate week bs=>
  show Jb2 b (if _ then _ else _:Dt×Bk).2;split<;>exact h
 | dues m t=>
  show Jb2 b (if _ then _ else _:Dt×Bk).2;split<;>exact h
 | payday who week=>
  show Jb2 b (if _ then _ else _:Dt×Bk).2;split
  .exact h
  .intro y l e;have e:(if y=who then some week else B.last y)=some l:=e;split at e
   .cases e;exact hd who _ rfl
   .exact h y l e
 | _=>exact h
theorem Jb2.all{b:Int}{ms:List Int}:∀{ds:List Y7}{B:Bk},Jb2 b B->(∀who week,Y7.payday who week∈ds->week<=b)->Jb2 b (JeE ms B ds)
 | [],_,h,_=>h
 | d::r,B,h,g=>Jb2.all (ds:=r) (h.step fun who week e=>g who week (e ▸ .head _)) fun who week m=>g who week (.tail _ m)
theorem Jb2.early{b:Int}{B:Bk}(h:Jb2 b B){who:Str}{week:Int}(hb:b<=week):early B who week=false:=by
 unfold Wb.early;split
 .rfl
 .rename_i l e;exact decide_eq_false (by have:=h who l e;omega)
noncomputable def Jm4:Y7->Bool
 | .hours ..=>true
 | .rate ..=>true
 | .dues ..=>true
 | .payday ..=>true
 | _=>false
theorem Jsv(ns:List Int)(a b:Nat):Jf6 (ns.map V.int) (some (a:Int)) (some ((a+b:Nat):Int))=((ns.drop a).take b).map V.int:=by
 unfold Jf6;rw[HT.JiQ,HT.JiQ,A2,List.map_take,List.map_drop]
 by_cases h:ns.length<=a
 .rw[List.drop_eq_nil_of_le (i:=a) (by rw[A2];exact h),List.drop_eq_nil_of_le (i:=min a ns.length) (by rw[A2];omega),List.take_nil,List.take_nil]
 .rw[show min a ns.length=a by omega]
  by_cases g:ns.length<=a+b
  .rw[List.take_of_length_le (by rw[List.length_drop,A2];omega),List.take_of_length_le (by rw[List.length_drop,A2];omega)]
  .rw[show min (a+b) ns.length-a=b by omega]
theorem JfJ{ms:List Int}:∀(B:Bk)(a:List Y7),(JiF ms B a).length=a.length
 | _,[]=>rfl
 | B,d::r=>by
  show(JiF ms (step ms B d).2 r).length+1=r.length+1;rw[JfJ]
theorem Jns(d:Y7):inV (V.str (nmD d)) [V.str "hours",V.str "rate",V.str "dues",V.str "payday"]=Jm4 d:=by cases d<;>(simp only[nmD,Jm4];decide +kernel)
theorem Jb2.new(b:Int):Jb2 b Bk.new:=fun _ _ e=>by cases e
theorem Jnr(x c:Int)(l:II):dsz (Jl1 x c l)<=4+3*l.length:=by
 show 1+(1+(1+(1+Jex (l.map fun p=>.tup [.int p.1,.int p.2])+0)))<=4+3*l.length
 have a:=JmH (c:=3) (l:=l.map fun p=>.tup [.int p.1,.int p.2]) fun e he=>by
  obtain⟨p,_,rfl⟩ :=Bw.mp he;exact A5 3
 rw[A2]at a;omega
theorem Jlq(ms:List Int)(B:Bk)(who:Str)(last:Int):(Jaj ms B who last).length<=ms.length:=by
 refine Nat.le_trans (List.length_filter_le _ _) ?_;rw[A2];exact A5 _
end Wb
namespace Wb
open PySem PySem.Spec PyProof.Rows L2
noncomputable def Js0(week:Int)(names:List Str):List Y7:=names.flatMap fun who=>[.paid who,.right who week,.owing who week]
theorem Jfh{ms:List Int}{B:Bk}{d:Y7}(h:¬(nmD d = "payday"/\Jdn B d = "")):(step ms B d).2.paid=B.paid:=by
 cases d with
 | hours=>show(if _ then _ else _:Dt×Bk).2.paid=_;split<;>rfl
 | rate=>show(if _ then _ else _:Dt×Bk).2.paid=_;split<;>rfl
 | dues=>show(if _ then _ else _:Dt×Bk).2.paid=_;split<;>rfl
 | payday who week=>
  by_cases c:early B who week=true
  .rw[show step ms B (.payday who week)=(.str "too early",B) from if_pos c]
  .exact absurd ⟨rfl,if_neg c⟩ h
 | _=>rfl
theorem Law.mono{H H':Hp}{st:Addr}{A:LSt}{b:Int}{ms:List Int}{B:Bk}{n:Nat}(h:Law H st A b ms B n)(s:Ye H H')(e:∀c∈st::A.all,H' c=H c):Law H' st A b ms B n:=by
 have ea:∀c∈A.all,H' c=H c:=fun c hc=>e c (.tail _ hc)
 refine⟨⟨let ⟨k,e0,r⟩ :=h.sta.kvs;⟨k,(e st (.head _)).trans e0,r⟩,s.2 _ _ h.sta.months⟩,⟨let ⟨k,e0,r⟩ :=h.bk.hours;⟨k,(ea _ (by simp[LSt.all])).trans e0,r⟩,h.bk.rates.mono (ea _ (by simp[LSt.all])) fun _ _ z=>z.sameS s,h.bk.dues.mono (ea _ (by simp[LSt.all])) fun _ _ z=>z.sameS s,
  let ⟨k,e0,r⟩ :=h.bk.paid;⟨k,(ea _ (by simp[LSt.all])).trans e0,r⟩,let ⟨k,e0,r⟩ :=h.bk.weeks;⟨k,(ea _ (by simp[LSt.all])).trans e0,r⟩,h.netsT s (ea _ (by simp[LSt.all]))⟩,h.ok,h.nd,fun k z=>h.hl k ((ea _ (by simp[LSt.all])).symm.trans z),fun c hc k z=>h.kl c hc k ((ea c (List.mem_cons_of_mem _ hc)).symm.trans z),h.few,h.avT s,h.nnT (ea _ (by simp[LSt.all])),h.mm⟩
theorem Law.there{H:Hp}{st:Addr}{A:LSt}{b:Int}{ms:List Int}{B:Bk}{n:Nat}(h:Law H st A b ms B n){c:Addr}(hc:c∈st::A.all):H c≠none:=by
 intro z
 rcases Ax.mp hc with rfl|hc
 .obtain⟨k,e,_⟩ :=h.sta.kvs;rw[z]at e;cases e
 .rcases h.isD hc with⟨k,e⟩|⟨k,e⟩<;>rw[z]at e<;>cases e
theorem Law.updD{H:Hp}{st:Addr}{A:LSt}{b:Int}{ms:List Int}{B:Bk}{n:Nat}(h:Law H st A b ms B n){p:Addr}{kvs:List (Key×V)}{o:HO}(e:H p=some (.dK kvs))(hn:p∉st::A.all):Law (upd H p o) st A b ms B n:=
 h.mono (Ye.dict e) fun c hc=>Jf fun z=>hn (z ▸ hc)
structure Jji(H:Hp)(ms:List Int)(ds:List Y7)(fs:List V):Prop where
 at_:∀i d,ds[i]?=some d->∃v,fs[i]?=some v/\Rep H (step ms (JeE ms Bk.new (ds.take i)) d).1 v
theorem JhF{ms:List Int}:∀(B:Bk)(ds:List Y7)(i:Nat)(d:Y7),ds[i]?=some d->(JiF ms B ds)[i]?=some (step ms (JeE ms B (ds.take i)) d).1
 | _,[],_,_,h=>by cases h
 | B,e::r,0,d,h=>by
  have h:some e=some d:=h;cases h;rfl
 | B,e::r,i+1,d,h=>by
  show(JiF ms (step ms B e).2 r)[i]?=_;rw[JhF (step ms B e).2 r i d h];rfl
theorem Jji.of{H:Hp}{ms:List Int}{ds es:List Y7}{fs:List V}(h:YL H (JiF ms Bk.new (ds++es)) fs):Jji H ms ds fs:=by
 refine⟨fun i d hd=>?_⟩;have hi:=(A6.mp hd).1;have g:=JhF (ms:=ms) Bk.new (ds++es) i d (by rw[Bq hi];exact hd);rw[List.take_append_of_le_length (Cq hi)]at g
 have hl:fs.length=(ds++es).length:=by rw[h.length,JfJ]
 have hf:i<fs.length:=by rw[hl,Ak];omega
 exact⟨fs[i],A3 hf,h.get i _ _ (A3 hf) g⟩
theorem Jji.sameS{H H':Hp}{ms:List Int}{ds:List Y7}{fs:List V}(h:Jji H ms ds fs)(s:Ye H H'):Jji H' ms ds fs:=⟨fun i d hd=>let ⟨v,e,r⟩ :=h.at_ i d hd;⟨v,e,Rep.sameS s r⟩⟩
theorem JjX{H:Hp}:∀{l m:List Dt}{xs ys:List V},YL H l xs->YL H m ys->YL H (l++m) (xs++ys)
 | [],m,xs,ys,h,g=>by
  have h:xs=[]:=h;subst h;exact g
 | d::l,m,xs,ys,h,g=>by
  obtain⟨v,t,rfl,hv,ht⟩ :=h;exact⟨v,t++ys,rfl,hv,JjX ht g⟩
end Wb
namespace Wb
open PySem PySem.Spec PyProof.Rows L2
noncomputable def ln(ms:List Int)(h:Int->Int):II:=(ms.map fun m=>(m,h m)).filter fun p=>decide (p.2≠0)
theorem JiT(m:Int)(r:List Int)(h:Int->Int):ln (m::r) h=if h m≠0 then(m,h m)::ln r h else ln r h:=by
 unfold ln;rw[List.map_cons,List.filter_cons]
 by_cases c:h m=0<;>simp[c]
theorem JmR(h:Int->Int):∀ms:List Int,((ln ms h).map (·.2)).sum=(ms.map h).sum
 | []=>rfl
 | m::r=>by
  rw[JiT,List.map_cons,List.sum_cons];split
  .rw[List.map_cons,List.sum_cons,JmR h r]
  .rename_i c;have c:h m=0:=Decidable.byContradiction fun z=>c z;rw[JmR h r,c,Int.zero_add]
theorem Jq0{h:Int->Int}{p:Int×Int}:∀{ms:List Int},p∈ln ms h->p.1∈ms/\p.2=h p.1/\p.2≠0:=fun{ms} hp=>by
 unfold ln at hp;obtain⟨a,b⟩ :=List.mem_filter.mp hp;obtain⟨m,hm,rfl⟩ :=Bw.mp a;exact⟨hm,rfl,of_decide_eq_true b⟩
theorem JrL{h:Int->Int}{ms:List Int}(hm:ms.Pairwise (·<·)):((ln ms h).map (·.1)).Pairwise (·<·):=by
 have:(ln ms h).Pairwise (fun a b=>a.1<b.1):=by
  unfold ln;refine List.Pairwise.filter _ ?_;exact List.pairwise_map.mpr hm
 exact List.pairwise_map.mpr this
theorem JgL{h:Int->Int}{m:Int}:∀{ms:List Int},m∉ms->(((ln ms h).filter fun p=>decide (p.1=m)).map (·.2)).sum=0
 | [],_=>rfl
 | x::r,n=>by
  have n1:x≠m:=fun z=>n (z ▸ .head _);have n2:m∉r:=fun z=>n (.tail _ z);rw[JiT];split
  .rw[List.filter_cons,if_neg (by simpa using n1)];exact JgL n2
  .exact JgL n2
theorem Jpc{h:Int->Int}{m:Int}:∀{ms:List Int},ms.Nodup->m∈ms->(((ln ms h).filter fun p=>decide (p.1=m)).map (·.2)).sum=h m
 | [],_,hm=>nomatch hm
 | x::r,nd,hm=>by
  obtain⟨n1,n2⟩ :=List.nodup_cons.mp nd;rw[JiT]
  by_cases c:x=m
  .subst c;split
   .rw[List.filter_cons,if_pos (by simp),List.map_cons,List.sum_cons,JgL n1,Int.add_zero]
   .rename_i z;rw[JgL n1];exact(Decidable.byContradiction fun q=>z q:h x=0).symm
  .have hm:=(Ax.mp hm).resolve_left fun z=>c z.symm;split
   .rw[List.filter_cons,if_neg (by simpa using c)];exact Jpc n2 hm
   .exact Jpc n2 hm
theorem Jl5(f g:Int->Int):∀ms:List Int,(ms.map fun m=>f m-g m).sum=(ms.map f).sum-(ms.map g).sum
 | []=>rfl
 | m::r=>by
  simp only[List.map_cons,List.sum_cons,Jl5 f g r];omega
theorem Je2(ms:List Int)(B:Bk)(who:Str)(last:Int):Jaj ms B who last=ln ms (fun m=>netS B who m last-B.nets who m):=rfl
theorem Jh5(x:Int):mx 0 x+mn 0 x=x:=by unfold mx mn;split<;>split<;>omega
def Bal(ms:List Int)(B:Bk)(c:Str->Int):Prop:=∀who,B.paid who+c who=(ms.map (B.nets who)).sum
theorem Bal.new(ms:List Int):Bal ms Bk.new fun _=>0:=fun who=>by
 show(0:Int)+0=(ms.map fun _=>(0:Int)).sum
 induction ms with
 | nil=>rfl
 | cons m r ih=>rw[List.map_cons,List.sum_cons,<- ih];rfl
section
variable {ms:List Int} {B:Bk} {c:Str→Int} {who:Str} {week:Int}
theorem Bal.tot(h:Bal ms B c):c who+((Jaj ms B who week).map (·.2)).sum=mx 0 (rightS ms B who week-B.paid who)+mn 0 (rightS ms B who week-B.paid who):=by
 rw[Je2,JmR,Jl5,Jh5];have:=h who;show c who+(rightS ms B who week-(ms.map (B.nets who)).sum)=_;omega
theorem Bal.pay(h:Bal ms B c):Bal ms (Jkc ms B who week) (Jfl c who (mn 0 (rightS ms B who week-B.paid who))):=by
 intro y
 by_cases e:y=who
 .subst e;rw[Jn6,C7 (g:=fun m=>netS B y m week) fun m _=>Jhv];have:=Jh5 (rightS ms B y week-B.paid y);show _+Jfl _ _ _ _=rightS ms B y week;unfold Jfl;rw[if_pos rfl];omega
 .show Jfl _ _ _ _+Jfl _ _ _ _=(ms.map fun m=>if y=who then _ else _).sum;unfold Jfl;rw[if_neg e,if_neg e];simp only[if_neg e];exact h y
theorem Jfw{d:Y7}(h:¬(nmD d = "payday"/\Jdn B d = "")):(step ms B d).2.nets=B.nets:=by
 cases d with
 | hours=>show(if _ then _ else _:Dt×Bk).2.nets=_;split<;>rfl
 | rate=>show(if _ then _ else _:Dt×Bk).2.nets=_;split<;>rfl
 | dues=>show(if _ then _ else _:Dt×Bk).2.nets=_;split<;>rfl
 | payday who week=>
  by_cases c:early B who week=true
  .rw[show step ms B (.payday who week)=(.str "too early",B) from if_pos c]
  .exact absurd ⟨rfl,if_neg c⟩ h
 | _=>rfl
theorem Bal.keep(h:Bal ms B c){d:Y7}(n:¬(nmD d = "payday"/\Jdn B d = "")):Bal ms (step ms B d).2 c:=fun y=>by
 rw[Jfh n,Jfw n];exact h y
end
noncomputable def JbG(last:Int)(ps:List Str):List Y7:=ps.map fun who=>.payday who last
theorem Jj4{ms:List Int}{B:Bk}{who y:Str}{week m last:Int}:netS (Jkc ms B who week) y m last=netS B y m last:=rfl
theorem Jim{ms:List Int}{last:Int}:∀(ps:List Str)(B:Bk),Jb2 last B->(∀y m l,netS (JeE ms B (JbG last ps)) y m l=netS B y m l)/\(∀who∈ps,∀m,(JeE ms B (JbG last ps)).nets who m=netS B who m last)/\∀who,who∉ps->(JeE ms B (JbG last ps)).nets who=B.nets who
 | [],B,_=>⟨fun _ _ _=>rfl,(fun _ h=>nomatch h),fun _ _=>rfl⟩
 | p::r,B,h=>by
  have e:=h.early (who:=p) (week:=last) (Int.le_refl _)
  have hs:(step ms B (.payday p last)).2=Jkc ms B p last:=by rw[Jj9 e]
  have hb:JeE ms B (JbG last (p::r))=JeE ms (Jkc ms B p last) (JbG last r):=by
   show JeE ms (step ms B (.payday p last)).2 (JbG last r)=_;rw[hs]
  have h':Jb2 last (Jkc ms B p last):=by
   rw[<- hs]
   exact h.step fun who week z=>by cases z;exact Int.le_refl _
  obtain⟨a,b,c⟩ :=Jim r (Jkc ms B p last) h';rw[hb];refine⟨fun y m l=>(a y m l).trans Jj4,fun who hw m=>?_,fun who hn=>?_⟩
  .by_cases hr:who∈r
   .exact(b who hr m).trans Jj4
   .rcases Ax.mp hw with rfl|hw
    .rw[c who hr];exact Jhv
    .exact absurd hw hr
  .rw[c who fun z=>hn (.tail _ z)];funext m;show(if who=p then _ else _)=_;rw[if_neg fun z=>hn (by rw[z];exact .head _)]
structure Tri(H:Hp)(dc dp dm:Addr)(ad:Str->Addr)(cov:Str->Prop)(n:Nat)(c p:Str->Int)(s:Str->Int->Int):Prop where
 cv:∃kvs:List (Key×V),H dc=some (.dK kvs)/\kvs.length<=n/\∀who,cov who->Jau kvs (A8 who)=some (.int (c who))
 pv:∃kvs:List (Key×V),H dp=some (.dK kvs)/\kvs.length<=n/\∀who,cov who->Jau kvs (A8 who)=some (.int (p who))
 mv:∃kvs:List (Key×V),H dm=some (.dK kvs)/\kvs.length<=n/\∀who,cov who->Jau kvs (A8 who)=some (.ref (ad who))
 sv:∀who,cov who->∃kvs:List (Key×V),H (ad who)=some (.dK kvs)/\kvs.length<=n/\∀m,(Jau kvs (Az m)).getD (.int 0)=.int (s who m)
structure Jnd(dc dp dm:Addr)(ad:Str->Addr)(cov:Str->Prop):Prop where
 cp:dc≠dp
 cm:dc≠dm
 pm:dp≠dm
 ac:∀who,cov who->ad who≠dc
 ap:∀who,cov who->ad who≠dp
 am:∀who,cov who->ad who≠dm
 aa:∀who,cov who->∀y,cov y->ad who=ad y->who=y
section
variable {H H':Hp} {dc dp dm:Addr} {ad:Str→Addr} {cov:Str→Prop} {n:Nat} {c p:Str→Int} {s:Str→Int→Int}
theorem Tri.le{k:Nat}(h:Tri H dc dp dm ad cov n c p s)(hk:n<=k):Tri H dc dp dm ad cov k c p s:=
 ⟨let ⟨v,e,l,r⟩ :=h.cv;⟨v,e,Nat.le_trans l hk,r⟩,let ⟨v,e,l,r⟩ :=h.pv;⟨v,e,Nat.le_trans l hk,r⟩,let ⟨v,e,l,r⟩ :=h.mv;⟨v,e,Nat.le_trans l hk,r⟩,fun who w=>let ⟨v,e,l,r⟩ :=h.sv who w;⟨v,e,Nat.le_trans l hk,r⟩⟩
theorem Tri.to(h:Tri H dc dp dm ad cov n c p s)(e:∀x,(x=dc\/x=dp\/x=dm\/∃who,cov who/\x=ad who)->∀o,H x=some o->H' x=some o):Tri H' dc dp dm ad cov n c p s:=
 ⟨let ⟨v,z,r⟩ :=h.cv;⟨v,e _ (.inl rfl) _ z,r⟩,let ⟨v,z,r⟩ :=h.pv;⟨v,e _ (.inr (.inl rfl)) _ z,r⟩,let ⟨v,z,r⟩ :=h.mv;⟨v,e _ (.inr (.inr (.inl rfl))) _ z,r⟩,fun who w=>let ⟨v,z,r⟩ :=h.sv who w;⟨v,e _ (.inr (.inr (.inr ⟨who,w,rfl⟩))) _ z,r⟩⟩
theorem Tri.same(h:Tri H dc dp dm ad cov n c p s)(e:JX H H'):Tri H' dc dp dm ad cov n c p s:=h.to fun x _ o z=>e x o z
theorem Tri.putC(h:Tri H dc dp dm ad cov n c p s)(A:Jnd dc dp dm ad cov){kvs:List (Key×V)}(e:H dc=some (.dK kvs))(who:Str)(x:Int):Tri (upd H dc (.dK (Yt kvs (A8 who) (.int x)))) dc dp dm ad cov (n+1) (Jfl c who x) p s:=by
 obtain⟨k1,e1,l1,r1⟩ :=h.cv;obtain⟨k2,e2,l2,r2⟩ :=h.pv;obtain⟨k3,e3,l3,r3⟩ :=h.mv;rw[e]at e1;cases e1;have pl:=JcG kvs (A8 who:Key) (V.int x);refine⟨⟨_,Ja,by omega,fun y hy=>?_⟩,⟨k2,(Jf A.cp.symm).trans e2,by omega,r2⟩,⟨k3,(Jf A.cm.symm).trans e3,by omega,r3⟩,fun y hy=>?_⟩
 .rw[JaV];unfold Jfl
  by_cases z:y=who
  .rw[if_pos z,if_pos (Jaf.mpr z)]
  .rw[if_neg z,if_neg fun q=>z (Jaf.mp q)];exact r1 y hy
 .obtain⟨k4,e4,l4,r4⟩ :=h.sv y hy;exact⟨k4,(Jf (A.ac y hy)).trans e4,by omega,r4⟩
theorem Tri.putP(h:Tri H dc dp dm ad cov n c p s)(A:Jnd dc dp dm ad cov){kvs:List (Key×V)}(e:H dp=some (.dK kvs))(who:Str)(x:Int):Tri (upd H dp (.dK (Yt kvs (A8 who) (.int x)))) dc dp dm ad cov (n+1) c (Jfl p who x) s:=by
 obtain⟨k1,e1,l1,r1⟩ :=h.cv;obtain⟨k2,e2,l2,r2⟩ :=h.pv;obtain⟨k3,e3,l3,r3⟩ :=h.mv;rw[e]at e2;cases e2;have pl:=JcG kvs (A8 who:Key) (V.int x);refine⟨⟨k1,(Jf A.cp).trans e1,by omega,r1⟩,⟨_,Ja,by omega,fun y hy=>?_⟩,⟨k3,(Jf A.pm.symm).trans e3,by omega,r3⟩,fun y hy=>?_⟩
 .rw[JaV];unfold Jfl
  by_cases z:y=who
  .rw[if_pos z,if_pos (Jaf.mpr z)]
  .rw[if_neg z,if_neg fun q=>z (Jaf.mp q)];exact r2 y hy
 .obtain⟨k4,e4,l4,r4⟩ :=h.sv y hy;exact⟨k4,(Jf (A.ap y hy)).trans e4,by omega,r4⟩
theorem Tri.putS(h:Tri H dc dp dm ad cov n c p s)(A:Jnd dc dp dm ad cov){who:Str}(hw:cov who){kvs:List (Key×V)}(e:H (ad who)=some (.dK kvs))(m x:Int):Tri (upd H (ad who) (.dK (Yt kvs (Az m) (.int x)))) dc dp dm ad cov (n+1) c p (fun y k=>if y=who/\k=m then x else s y k):=by
 obtain⟨k1,e1,l1,r1⟩ :=h.cv;obtain⟨k2,e2,l2,r2⟩ :=h.pv;obtain⟨k3,e3,l3,r3⟩ :=h.mv;obtain⟨k4,e4,l4,r4⟩ :=h.sv who hw;rw[e]at e4;cases e4;have pl:=JcG kvs (Az m:Key) (V.int x);refine⟨⟨k1,(Jf (A.ac who hw).symm).trans e1,by omega,r1⟩,⟨k2,(Jf (A.ap who hw).symm).trans e2,by omega,r2⟩,⟨k3,(Jf (A.am who hw).symm).trans e3,by omega,r3⟩,fun y hy=>?_⟩
 by_cases z:y=who
 .subst z;refine⟨_,Ja,by omega,fun k=>?_⟩;rw[JaV]
  by_cases q:k=m
  .rw[if_pos (by rw[q]),if_pos ⟨rfl,q⟩];rfl
  .rw[if_neg fun w=>q (Az.inj w),if_neg fun w=>q w.2];exact r4 k
 .obtain⟨k5,e5,l5,r5⟩ :=h.sv y hy;refine⟨k5,(Jf fun w=>z (A.aa y hy who hw w)).trans e5,by omega,fun k=>?_⟩;rw[if_neg fun w=>z w.1];exact r5 k
theorem Tri.sub{cov':Str->Prop}(h:Tri H dc dp dm ad cov n c p s)(f:∀y,cov' y->cov y):Tri H dc dp dm ad cov' n c p s:=
 ⟨let ⟨v,z,l,r⟩ :=h.cv;⟨v,z,l,fun y q=>r y (f y q)⟩,let ⟨v,z,l,r⟩ :=h.pv;⟨v,z,l,fun y q=>r y (f y q)⟩,let ⟨v,z,l,r⟩ :=h.mv;⟨v,z,l,fun y q=>r y (f y q)⟩,fun y q=>h.sv y (f y q)⟩
theorem Jnd.sub{cov':Str->Prop}(h:Jnd dc dp dm ad cov)(f:∀y,cov' y->cov y):Jnd dc dp dm ad cov':=
 ⟨h.cp,h.cm,h.pm,fun y q=>h.ac y (f y q),fun y q=>h.ap y (f y q),fun y q=>h.am y (f y q),fun y q z r=>h.aa y (f y q) z (f z r)⟩
theorem Tri.one(h:Tri H dc dp dm ad cov n (fun _=>0) (fun _=>0) (fun _ _=>0))(A:Jnd dc dp dm ad cov){who:Str}{kc kp km:List (Key×V)}{e:Addr}(hc:H dc=some (.dK kc))(hp:H dp=some (.dK kp))(hm:H dm=some (.dK km))(he:H e=none)
  (h1:H' dc=some (.dK (Yt kc (A8 who) (.int 0)))) (h2:H' dp=some (.dK (Yt kp (A8 who) (.int 0)))) (h3:H' dm=some (.dK (Yt km (A8 who) (.ref e)))) (h4:H' e=some (.dK [])) (ho:∀x o,H x=some o->x≠dc->x≠dp->x≠dm->H' x=some o) :
  Tri H' dc dp dm (fun y=>if y=who then e else ad y) (fun y=>y=who\/cov y) (n+1) (fun _=>0) (fun _=>0) (fun _ _=>0)/\Jnd dc dp dm (fun y=>if y=who then e else ad y) (fun y=>y=who\/cov y):=by
 obtain⟨k1,e1,l1,r1⟩ :=h.cv;obtain⟨k2,e2,l2,r2⟩ :=h.pv;obtain⟨k3,e3,l3,r3⟩ :=h.mv;rw[hc]at e1;rw[hp]at e2;rw[hm]at e3;cases e1;cases e2;cases e3;have p1:=JcG kc (A8 who:Key) (V.int 0);have p2:=JcG kp (A8 who:Key) (V.int 0);have p3:=JcG km (A8 who:Key) (V.ref e);have old:∀{y:Str},(y=who\/cov y)->y≠who->cov y:=fun q z=>q.resolve_left z
 have ne:∀{y:Str},cov y->ad y≠e:=fun{y} q z=>by
  obtain⟨k5,e5,_⟩ :=h.sv y q;rw[z,he]at e5;cases e5
 refine⟨⟨⟨_,h1,by omega,fun y hy=>?_⟩,⟨_,h2,by omega,fun y hy=>?_⟩,⟨_,h3,by omega,fun y hy=>?_⟩,fun y hy=>?_⟩,⟨A.cp,A.cm,A.pm,fun y hy=>?_,fun y hy=>?_,fun y hy=>?_,fun y hy z hz q=>?_⟩⟩
 .rw[JaV]
  by_cases z:y=who
  .rw[if_pos (Jaf.mpr z)]
  .rw[if_neg fun q=>z (Jaf.mp q)];exact r1 y (old hy z)
 .rw[JaV]
  by_cases z:y=who
  .rw[if_pos (Jaf.mpr z)]
  .rw[if_neg fun q=>z (Jaf.mp q)];exact r2 y (old hy z)
 .rw[JaV]
  by_cases z:y=who
  .rw[if_pos (Jaf.mpr z)];show _=some (V.ref (if y=who then e else ad y));rw[if_pos z]
  .rw[if_neg fun q=>z (Jaf.mp q)];show _=some (V.ref (if y=who then e else ad y));rw[if_neg z];exact r3 y (old hy z)
 .by_cases z:y=who
  .exact⟨[],by show H' (if y=who then e else ad y)=_;rw[if_pos z];exact h4,Bz _,fun _=>rfl⟩
  .obtain⟨k5,e5,l5,r5⟩ :=h.sv y (old hy z);exact⟨k5,by show H' (if y=who then e else ad y)=_;rw[if_neg z];exact ho _ _ e5 (A.ac y (old hy z)) (A.ap y (old hy z)) (A.am y (old hy z)),by omega,r5⟩
 .show(if y=who then e else ad y)≠dc;split
  .exact fun z=>by rw[z,hc]at he;cases he
  .rename_i z;exact A.ac y (old hy z)
 .show(if y=who then e else ad y)≠dp;split
  .exact fun z=>by rw[z,hp]at he;cases he
  .rename_i z;exact A.ap y (old hy z)
 .show(if y=who then e else ad y)≠dm;split
  .exact fun z=>by rw[z,hm]at he;cases he
  .rename_i z;exact A.am y (old hy z)
 .have q:(if y=who then e else ad y)=(if z=who then e else ad z):=q
  by_cases a:y=who
  .by_cases b:z=who
   .rw[a,b]
   .rw[if_pos a,if_neg b]at q;exact absurd q.symm (ne (old hz b))
  .by_cases b:z=who
   .rw[if_neg a,if_pos b]at q;exact absurd q (ne (old hy a))
   .rw[if_neg a,if_neg b]at q;exact A.aa y (old hy a) z (old hz b) q
end
end Wb
namespace TLA
open PySem PySem.Spec PyProof.Rows L2 Wb
theorem YR:Jw ["amount", "bands", "parts", "left", "floor", "pair", "upto", "part"] ["amount", "bands"] (Jj JcZ):=JJ (by decide +kernel)
theorem Jof:Jw ["amount", "bands"] ["amount", "bands"] (Jj Jej):=JJ (by decide +kernel)
theorem Jew:JbU ["amount", "bands"] (Jj Jej) ["part", "pair"] (lcS (Jp9 (JkZ (JiM (YM Jej) 0)) 1)) [none,none]:=Jbf (by decide +kernel)
theorem JhX:Jw ["pay", "top", "per"] ["pay", "top", "per"] (Jj Jcn):=JJ (by decide +kernel)
theorem Jh8:Jw ["pay", "table", "hundreds"] ["pay", "table"] (Jj JeZ):=JJ (by decide +kernel)
theorem Jgj:Jw ["tables", "when", "begun"] ["tables", "when"] (Jj Jb6):=JJ (by decide +kernel)
theorem JeJ:JbU ["tables", "when", "begun"] (Jj Jb6) ["key", "when"] (lcS (JkZ (JiM (YM Jb6) 0))) [none,some 1]:=Jbf (by decide +kernel)
theorem JaM:Jw ["bands", "floor", "pair", "upto"] ["bands"] (Jj JaB):=JJ (by decide +kernel)
theorem JcK:JbU ["bands", "floor", "pair", "upto"] (Jj JaB) ["pair"] (lcS (Jp9 (JkZ (JiM (YM JaB) 3)) 1)) [none]:=Jbf (by decide +kernel)
theorem JeI:Jw ["table", "bands"] ["table"] (Jj Ja3):=JJ (by decide +kernel)
theorem Jdk:JbU ["table", "bands"] (Jj Ja3) ["pair"] (lcS (Jp9 (JkZ (JiM (YM Ja3) 2)) 1)) [none]:=Jbf (by decide +kernel)
theorem JkK:Jw ["day"] ["day"] (Jj Jed):=JJ (by decide +kernel)
theorem Jjd:Jw ["week"] ["week"] (Jj Jdf):=JJ (by decide +kernel)
theorem JgB:Jw ["hours", "week", "rates", "bands"] ["hours", "week", "rates"] (Jj Jec):=JJ (by decide +kernel)
theorem Jgq:Jw ["pay", "month", "dues", "table"] ["pay", "month", "dues"] (Jj JdI):=JJ (by decide +kernel)
theorem Jaq:Jw ["old_nets", "new_nets", "lines", "month", "change"] ["old_nets", "new_nets"] (Jj JaQ):=JJ (by decide +kernel)
theorem JfZ:Jw ["self"] ["self"] (Jj Jbq):=JJ (by decide +kernel)
theorem Jdt:Jw ["self", "day", "many"] ["self", "day", "many"] (Jj Y3):=JJ (by decide +kernel)
theorem J1:Jw ["self", "hours", "day", "many", "week"] ["self"] (Jj Yr):=JJ (by decide +kernel)
theorem JdF:Jw ["self", "week", "rates"] ["self", "week", "rates"] (Jj Y8):=JJ (by decide +kernel)
theorem J0:Jw ["self", "last", "rates", "pays", "week", "hours", "month"] ["self", "last", "rates"] (Jj Yq):=JJ (by decide +kernel)
theorem Yl:Jw ["self", "last", "rates", "dues", "nets", "month", "pay"] ["self", "last", "rates", "dues"] (Jj Yp):=JJ (by decide +kernel)
theorem Yx:Jw ["self", "week", "rates", "dues", "nets", "left", "lines"] ["self", "week", "rates", "dues"] (Jj YE):=JJ (by decide +kernel)
theorem JiH:Jw ["self"] ["self"] (Jj Jcp):=JJ (by decide +kernel)
theorem Jeg:Jw ["self", "who"] ["self", "who"] (Jj Jas):=JJ (by decide +kernel)
theorem JdN:Jw ["self", "who", "day", "many"] ["self", "who", "day", "many"] (Jj Jaa):=JJ (by decide +kernel)
theorem Jes:Jw ["self", "week", "bands"] ["self", "week", "bands"] (Jj Jar):=JJ (by decide +kernel)
theorem Jeh:Jw ["self", "month", "table"] ["self", "month", "table"] (Jj Jao):=JJ (by decide +kernel)
theorem Jcx:Jw ["self", "who", "week"] ["self", "who", "week"] (Jj Yy):=JJ (by decide +kernel)
theorem Jf0:Jw ["self", "who", "week"] ["self", "who", "week"] (Jj Jbn):=JJ (by decide +kernel)
theorem Jfk:Jw ["self", "who", "week"] ["self", "who", "week"] (Jj Jba):=JJ (by decide +kernel)
theorem Jf2:Jw ["self", "who", "week"] ["self", "who", "week"] (Jj Jbm):=JJ (by decide +kernel)
theorem JeQ:Jw ["self", "who", "week"] ["self", "who", "week"] (Jj JaY):=JJ (by decide +kernel)
theorem JfX:Jw ["self", "who"] ["self", "who"] (Jj Jbb):=JJ (by decide +kernel)
theorem JeW:Jw ["self", "who", "week"] ["self", "who", "week"] (Jj JaK):=JJ (by decide +kernel)
theorem JnQ:Jw ["book", "name", "who", "week"] ["book", "name", "who", "week"] (Jj Jhr):=JJ (by decide +kernel)
theorem Jmp:Jw ["book", "deed", "name"] ["book", "deed"] (Jj JjN):=JJ (by decide +kernel)
theorem Jmq:Jw ["book", "deed"] ["book", "deed"] (Jj Je4):=JJ (by decide +kernel)
theorem Jgs:Jw ["deeds", "book"] ["deeds"] (Jj JbZ):=JJ (by decide +kernel)
theorem JeP:JbU ["deeds", "book"] (Jj JbZ) ["deed", "book"] (lcS (JkZ (JiM (YM JbZ) 1))) [none,some 1]:=Jbf (by decide +kernel)
theorem JaW:Jw ["_law_found", "_law_due", "_law_todo", "_law_left", "_law_right", "_law_k"] ["_law_found", "_law_due"] (Jj JbM):=JJ (by decide +kernel)
theorem JlW:Jw ["_law_script", "_law_most", "_law_bound"] ["_law_script", "_law_most", "_law_bound"] (Jj Je6):=JJ (by decide +kernel)
theorem JkV:Jw ["_law_found"] ["_law_found"] (Jj JdE):=JJ (by decide +kernel)
theorem YN:Jw ["_law_first", "_law_second", "_law_most", "_law_scale", "_law_low", "_law_high", "_law_each", "_law_made", "_law_ends"] ["_law_first", "_law_second", "_law_most"] (Jj Jbr):=JJ (by decide +kernel)
theorem JdV:JbU ["_law_first", "_law_second", "_law_most", "_law_scale", "_law_low", "_law_high", "_law_each", "_law_made", "_law_ends"] (Jj Jbr) ["_law_j", "_law_low", "_law_first", "_law_second"] (lcS (JkZ (JiM (Jr3 (JiM (YM Jbr) 7) 0) 0))) [none,some 4,some 0,some 1]:=Jbf (by decide +kernel)
theorem JbF:Jw ["_law_bands", "_law_seed", "_law_menu"] ["_law_bands", "_law_seed"] (Jj Jde):=JJ (by decide +kernel)
theorem JdD:Jw ["_law_cells", "_law_spot", "_law_made"] ["_law_cells"] (Jj Jc4):=JJ (by decide +kernel)
theorem JiR:Jw ["_law_cells"] ["_law_cells"] (Jj Jc5):=JJ (by decide +kernel)
theorem Jcs:Jw ["_law_cells", "_law_seed"] ["_law_cells"] (Jj JaZ):=JJ (by decide +kernel)
theorem JS:Jw ["_law_cells", "_law_k", "_law_near", "_law_far", "_law_who", "_law_base", "_law_apart", "_law_pick", "_law_many", "_law_bands", "_law_table", "_law_top", "_law_week"] ["_law_cells", "_law_k"] (Jj Jc3):=JJ (by decide +kernel)
theorem JhJ:Jw ["_law_cells"] ["_law_cells"] (Jj Ja8):=JJ (by decide +kernel)
theorem Jdl:JbU ["_law_cells"] (Jj Ja8) ["_law_k", "_law_cells"] (lcS (JkZ (JiM (YM Ja8) 0))) [none,some 0]:=Jbf (by decide +kernel)
theorem Jab:Jw ["_law_amount", "_law_bands", "_law_total", "_law_low", "_law_upto", "_law_each", "_law_part"] ["_law_amount", "_law_bands"] (Jj JdL):=JJ (by decide +kernel)
theorem Jh0:Jw ["_law_pay", "_law_table", "_law_relief"] ["_law_pay", "_law_table"] (Jj Je9):=JJ (by decide +kernel)
theorem Jdr:Jw ["_law_bands", "_law_most", "_law_ends", "_law_pair"] ["_law_bands", "_law_most"] (Jj Jbv):=JJ (by decide +kernel)
theorem JdR:JbU ["_law_bands", "_law_most", "_law_ends", "_law_pair"] (Jj Jbv) ["_law_pair"] (lcS (JkZ (JiM (YM Jbv) 0))) [none]:=Jbf (by decide +kernel)
theorem Jeq:Jw ["_law_cells", "_law_made", "_law_first"] ["_law_cells"] (Jj JdO):=JJ (by decide +kernel)
theorem Jc7:Jw ["_law_tables", "_law_when", "_law_best", "_law_start"] ["_law_tables", "_law_when"] (Jj Jea):=JJ (by decide +kernel)
theorem Jb7:Jw ["_law_state", "_law_who", "_law_week", "_law_many", "_law_day", "_law_bands"] ["_law_state", "_law_who", "_law_week"] (Jj Jd9):=JJ (by decide +kernel)
theorem JdP:Jw ["_law_state", "_law_who", "_law_month", "_law_last", "_law_pay", "_law_week", "_law_table"] ["_law_state", "_law_who", "_law_month", "_law_last"] (Jj JgS):=JJ (by decide +kernel)
theorem JgJ:Jw ["_law_state", "_law_who", "_law_last"] ["_law_state", "_law_who", "_law_last"] (Jj Jaz):=JJ (by decide +kernel)
theorem JcW:JbU ["_law_state", "_law_who", "_law_last"] (Jj Jaz) ["_law_month", "_law_state", "_law_who", "_law_last"] (lcS (JkZ (JiM (YM Jaz) 0))) [none,some 0,some 1,some 2]:=Jbf (by decide +kernel)
theorem JbS:Jw ["_law_state", "_law_deed", "_law_bands", "_law_top", "_law_per"] ["_law_state", "_law_deed"] (Jj Jcm):=JJ (by decide +kernel)
theorem Jay:Jw ["_law_state", "_law_who", "_law_week", "_law_nets", "_law_olds", "_law_lines", "_law_k", "_law_left", "_law_amount"] ["_law_state", "_law_who", "_law_week"] (Jj JcX):=JJ (by decide +kernel)
theorem Jd8:Jw ["_law_state", "_law_deed", "_law_text", "_law_paid", "_law_right"] ["_law_state", "_law_deed"] (Jj Jfa):=JJ (by decide +kernel)
theorem JcA:Jw ["_law_told", "_law_line", "_law_months"] ["_law_told"] (Jj Ja4):=JJ (by decide +kernel)
theorem Jdj:JbU ["_law_told", "_law_line", "_law_months"] (Jj Ja4) ["_law_line"] (lcS (JkZ (JiM (YM Ja4) 3))) [none]:=Jbf (by decide +kernel)
theorem JbD:Jw ["_law_script", "_law_cells", "_law_asked", "_law_last", "_law_deed"] ["_law_script", "_law_cells"] (Jj Jbt):=JJ (by decide +kernel)
theorem JdM:JbU ["_law_script", "_law_cells", "_law_asked", "_law_last", "_law_deed"] (Jj Jbt) ["_law_who", "_law_last"] (lcS (Jp9 (JkZ (JiM (YM Jbt) 4)) 1)) [none,some 3]:=Jbf (by decide +kernel)
theorem JaP:Jw ["_law_script", "_law_cells", "_law_asked", "_law_found", "_law_state", "_law_carried", "_law_paid", "_law_sums", "_law_who", "_law_k", "_law_deed", "_law_text", "_law_told", "_law_total", "_law_month", "_law_change", "_law_nets"] ["_law_script"] (Jj JkN):=JJ (by decide +kernel)
theorem JjG:JbU ["_law_script", "_law_cells", "_law_asked", "_law_found", "_law_state", "_law_carried", "_law_paid", "_law_sums", "_law_who", "_law_k", "_law_deed", "_law_text", "_law_told", "_law_total", "_law_month", "_law_change", "_law_nets"] (Jj JkN) ["_law_line"] (lcS (Jp9 (JkZ (JiM (Jr3 (JiM (Jr3 (JiM (YM JkN) 9) 0) 3) 0) 1)) 1)) [none]:=Jbf (by decide +kernel)
structure Zs(mg:MO):Prop where
 z_len:mg "len" = none
 z_isinstance:mg "isinstance" = none
 z_int:mg "int" = none
 z_bool:mg "bool" = none
 z_list:mg "list" = none
 z_tuple:mg "tuple" = none
 z_range:mg "range" = none
 z_str:mg "str" = none
 z_sum:mg "sum" = none
 z_min:mg "min" = none
 z_max:mg "max" = none
 z_sorted:mg "sorted" = none
 z_set:mg "set" = none
 z_zip:mg "zip" = none
 z_all:mg "all" = none
 z_any:mg "any" = none
structure Gs(mg:MO):Prop where
 g_GREATEST_EACH_OF_DUES:∃t,mg "GREATEST_EACH_OF_DUES" = some (.int 100 t)
 g_DAYS_OF_WEEK:∃t,mg "DAYS_OF_WEEK" = some (.int 7 t)
 g_WEEKS_OF_MONTH:∃t,mg "WEEKS_OF_MONTH" = some (.int 4 t)
 g_HOURS_OF_DAY:∃t,mg "HOURS_OF_DAY" = some (.int 24 t)
structure Txt(K:WF)(mg:MO)(CB CP fBI fPI:Addr):Prop where
 clPerson:Cls K CP
 clBook:Cls K CB
 mkPerson:Mk K CP fPI
 mkBook:Mk K CB fBI
 mgPerson:mg "Person" = some (.ref CP)
 mgBook:mg "Book" = some (.ref CB)
 n_days:Jal K CP "days"
 n_paid:Jal K CP "paid"
 n_last_week:Jal K CP "last_week"
 n_last_nets:Jal K CP "last_nets"
 n_people:Jal K CB "people"
 n_rates:Jal K CB "rates"
 n_dues:Jal K CB "dues"
section
variable {P:Program} {w:World} {K:WF} {mg:Str→Option Value} {base:Heap} {CB CP fBI fPI CH CN CT:Addr}
inductive Jmm(vs:List V)(H:Hp)(Q:VK):Prop
 | mk (i:Int) (h1:vs=[.int i]) (h2:Q (.bl true) H):Jmm vs H Q
noncomputable def Jk1:Sp:=fun vs H Q _=>Jmm vs H Q
theorem JnU{f:Addr}{fd:FuncData}(F:Fun K "_law_whole" "_law_whole" JdE f fd)(Z:Zs mg):YO P w K mg base CX0 1 f fd ["_law_found"] Jk1:=by
 refine F.ok JkV (fun vs H Q E h=>?_) (fun cdv A outer s H vs Q E hr h=>?_)
 .obtain⟨i,rfl,_⟩ :=h;rfl
 .obtain⟨i,rfl,k⟩ :=h;refine⟨_,(Jg (Jn (JoL (Jp Jap (by rfl) Z.z_isinstance JM (Jc (pw 0) (Jc (Y0 (v:=.ty "int") rfl Z.z_int Jgm rfl) JV))) (Jom (JqB (Jp Jap (by rfl) Z.z_isinstance JM (Jc (pw 0) (Jc (Y0 (v:=.ty "bool") rfl Z.z_bool JiL rfl) JV)))))))),?_⟩;refine⟨_, "int", "int",rfl,.int _,by decide,by decide,_,rfl,?_⟩;refine JfH ?_;exact⟨_, "int", "bool",rfl,.int _,by decide,by decide,_,rfl,k⟩
inductive Jkh(vs:List V)(H:Hp)(Q:VK):Prop
 | mk (f s:Int) (m:V) (h1:vs=[.int f,.int s,m]) (h2:∀a bs H',JX H H'->JG H' a bs->Jrp m bs->Q (.ref a) H'):Jkh vs H Q
noncomputable def JjQ:Sp:=fun vs H Q _=>Jkh vs H Q
theorem Jl8{f:Addr}{fd:FuncData}(F:Fun K "_law_banded" "_law_banded" Jbr f fd)(Z:Zs mg):YO P w K mg base CX0 1 f fd ["_law_first", "_law_second", "_law_most"] JjQ:=by
 refine F.ok YN (fun vs H Q E h=>?_) (fun cdv A outer s0 H vs Q E hr h=>?_)
 .obtain⟨f,s,m,rfl,_⟩ :=h;rfl
 .obtain⟨f,s,m,rfl,k⟩ :=h
  refine⟨_,(Jd (Jl 3 YN.nd Jb)
   (JaO (JL (PW.pt (Jcu (JaN (JcT (pw 2))) (Jbe (Jq Y1 (Jk JC (pw 1) Jb) Jb (Jx _))))) (Jg (Jl 3 YN.nd (Jk JaG Jb Jb))) Jr)
   (Jd (Jl 4 YN.nd (Jk JF Jb (Jk JC (pw 0) Jb)))
   (Jd (Jl 5 YN.nd (Jk JF (Jk JF (pw 4) Jb) (Ju JK (Yd (Jc (Jk JC (pw 1) Jb) (pa1 (Jk JC (pw 1) (Jk JaG Jb Jb))))) (YK JdG (by rfl) Z.z_int Jgm (pa1 (Jcl Y1 (Jk JC (pw 0) Jb) Jb (Jx _)))) (fun _ _=>rfl))))
   (Jd (Jl 6 YN.nd (Yd (Jc (Jk J7 (Jk JC (pw 0) Jb) (pw 3)) (Jc (Jk JC (pw 1) Jb) (pa1 (Jk JC (Jk JF (pw 0) (pw 1)) Jb))))))
   (JaO (JL (JaN (JcN (pw 2))) (Jg (Jl 6 YN.nd (Yd (Jc (Jk JC (pw 1) Jb) (Jc (Jk JF Jb (Jk JC (pw 0) Jb)) (pa1 (Ju JK (Yd (Jc Jb (Jc Jb (pa1 Jb)))) (Jk JC (pw 1) Jb) (fun _ _=>rfl)))))))) Jr)
   (Jd (Jl 7 YN.nd (J2 (Jc (J2 (Jc (pw 4) (pa1 (Ju JK (pw 6) Jb (fun _ _=>rfl))))) (Jc (J2 (Jc (pw 5) (pa1 (Ju JK (pw 6) Jb (fun _ _=>rfl))))) (pa1 (J2 (Jc JcD (pa1 (Ju JK (pw 6) Jb (fun _ _=>rfl))))))))))
   (Jd (JL (Jq Y1 (Jk JC (pw 0) Jb) Jb (Jx _)) (Jd (Jdd (i:=8) ["_law_j", "_law_low", "_law_first", "_law_second"] [none,some 4,some 0,some 1] YN.nd rfl (Or.inl rfl) rfl JdV (Jca rfl Z.z_range (pa1 Jb)) (fun _ _ _ _=>(JH (i:=0) JdV.nd rfl (Or.inl rfl) (Or.inr rfl))) (fun _ _ _ _=>JcF) (fun _ _ _ _=>(J2 (Jc (Jk JF (pw 1) (Jk J7 Jb (pw 0))) (pa1 (Jk JC (Jk JF (pw 2) (Jk J7 (pw 0) (pw 3))) Jb))))))
   (Jg (Jn (YK JgQ (by rfl) Z.z_tuple JdY (pa1 (Jk JhG (pw 8) (Yd (pa1 (J2 (Jc JcD (pa1 (Ju JK (pw 6) Jb (fun _ _=>rfl))))))))))))) Jr)
   (Jg (Jn (Ju JK (Yd (Jc (pw 7) (Jc (YS Jir (pw 7) (YG Jb) JaH) (Jc (YS Jir (pw 7) (YG Jb) JaH) (pa1 (pw 7)))))) (Jk JC (Jk JF (pw 0) (pw 1)) Jb) (fun _ _=>rfl)))))))))))),fun _ nz=>nz ?_⟩
  refine⟨fun σ' H'=>∃sc:Int,σ'=[some (.int f),some (.int s),some m,some (.int sc),none,none,none,none,none]/\H=H'/\(sc=1\/sc=10^50),?_,?_⟩
  .refine⟨_,rfl,?_⟩;refine JT (fun _=>?_) (fun _=>?_)
   .refine⟨(by show(0:Int)<23;decide),rfl,_,rfl,?_⟩;refine JT (fun _=>?_) (fun _=>?_)
    .refine⟨⟨by decide,by decide,by decide⟩,?_⟩;exact⟨10^50,rfl,rfl,.inr rfl⟩
    .exact⟨1,rfl,rfl,.inl rfl⟩
   .refine JcM ?_;exact⟨1,rfl,rfl,.inl rfl⟩
  rintro σ' H' ⟨sc,rfl,rfl,hsc⟩;refine fun _ ny=>⟨(by show(0:Int)<40;decide),?_⟩;refine ny fun _ ny=>⟨(by show(0:Int)<30;decide),⟨by decide,by decide,by decide⟩,(by show(0:Int)<10^(9:Int).toNat;decide),zs2,fun l1 hl1=>?_⟩;refine⟨(by show(0:Int)<11;decide),rfl,.inr ⟨_,rfl,l1,_,_,_,rfl,rfl,SqL.of Ja,at2 _,?_⟩⟩;have m7:=C0 f (show(7:Int)≠0 by decide);have m7':=Bx f (show(0:Int)<7 by decide);refine ny fun _ ny=>⟨(by show(0:Int)<7;decide),.inl (.inl ⟨by omega,by omega⟩),(by show(0:Int)<11;decide),(by show(0:Int)<13;decide),zs3,fun l2 hl2=>?_⟩;have s2:=JR (o:=HO.lst [V.int (f%7*sc),V.int (s%11),V.int ((f+s)%13)]) (Je (o:=HO.lst [V.int (s%30),V.int (s%10^(9:Int).toNat)]) hl1) ((Je hl1).free hl2)
  have m7s:0<=f%7*sc/\f%7*sc<10^52:=by
   rcases hsc with rfl|rfl
   .omega
   .constructor
    .exact Int.mul_nonneg m7 (by decide)
    .omega
  have m11:=C0 s (show(11:Int)≠0 by decide);have m11':=Bx s (show(0:Int)<11 by decide);have m13:=C0 (f+s) (show(13:Int)≠0 by decide);have m13':=Bx (f+s) (show(0:Int)<13 by decide)
  refine ny ⟨fun σ' H'=>∃(l:Addr)(e0 e1 e2:Int),σ'=[some (.int f),some (.int s),some m,some (.int sc),some (.int (1+f%40)),some (.int (1+f%40+1+if decide (V.int (f%11)=V.int 6)=true then s%10^(9:Int).toNat else s%30)),some (.ref l),none,none]/\JX H H'/\
   H' l=some (.lst [.int e0,.int e1,.int e2])/\(0<=e0/\e0<10^52/\(m≠.non->e0<=100))/\(0<=e1/\e1<10^52/\(m≠.non->e1<=100))/\(0<=e2/\e2<10^52/\(m≠.non->e2<=100)),?_,?_⟩
  .refine⟨_,rfl,?_⟩;refine JT (fun _=>?_) (fun hm=>?_)
   .have m20:=C0 s (show(20:Int)≠0 by decide);have m20':=Bx s (show(0:Int)<20 by decide);have m50:=C0 f (show(50:Int)≠0 by decide);have m50':=Bx f (show(0:Int)<50 by decide)
    obtain⟨e2,he2,e20,e21⟩:∃e:Int,atI ([.int 0,.int 100,.int 35]:List V) (s%3)=some (.int e)/\0<=e/\e<=100:=by
     have m3:s%3=0\/s%3=1\/s%3=2:=by omega
     rcases m3 with h|h|h<;>rw[h]<;>exact⟨_,rfl,by decide,by decide⟩
    refine⟨(by show(0:Int)<20;decide),(by show(0:Int)<50;decide),zs3,fun l3 hl3=>?_⟩;refine⟨(by show(0:Int)<3;decide),l3,_,_,_,rfl,rfl,SqL.of Ja,he2,zs3,fun l4 hl4=>?_⟩;refine⟨l4,_,_,_,rfl,?_,Ja,⟨m20,by omega,fun _=>by omega⟩,⟨by omega,by omega,fun _=>by omega⟩,e20,by omega,fun _=>e21⟩;exact(s2.trans (Je hl3)).trans (Je hl4)
   .have hm:m=.non:=by
     by_cases e:m=.non
     .exact e
     .exact absurd (by rw[decide_eq_false e];rfl) hm
    exact⟨l2,_,_,_,rfl,s2,Ja,⟨m7s.1,m7s.2,fun z=>absurd hm z⟩,⟨m11,by omega,fun z=>absurd hm z⟩,m13,by omega,fun z=>absurd hm z⟩
  clear s2 m7s m11 m11' m13 m13' m7 m7' hl2 hl1;rintro σ' H3 ⟨l,e0,e1,e2,rfl,s3,hl,b0,b1,b2⟩;refine fun _ nq=>?_;have m40:=C0 f (show(40:Int)≠0 by decide);have m40':=Bx f (show(0:Int)<40 by decide)
  obtain⟨hi,ehi,hi1,hi2⟩:∃hi:Int,(1+f%40+1+if decide (V.int (f%11)=V.int 6)=true then s%10^(9:Int).toNat else s%30)=hi/\1+f%40<hi/\hi<10^10:=by
   refine⟨_,rfl,?_,?_⟩
   .split
    .have:0<=s%10^(9:Int).toNat:=C0 s (by decide);omega
    .omega
   .split
    .have:s%10^(9:Int).toNat<10^(9:Int).toNat:=Bx s (by decide)
     have e:(10:Int)^(9:Int).toNat=1000000000:=by decide
     omega
    .omega
  rw[ehi];obtain⟨lo,elo,lo1,lo2⟩:∃lo:Int,1+f%40=lo/\0<lo/\lo<100:=⟨_,rfl,by omega,by omega⟩;rw[elo]at hi1 ⊢;refine⟨l,_,0,.int e0,rfl,rfl,SqL.of hl,Jh (j:=0) rfl,zs2,fun t1 ht1=>?_⟩;have h31:=Je (o:=HO.tup [V.int lo,V.int e0]) ht1;refine⟨l,_,1,.int e1,rfl,rfl,SqL.of (h31 _ _ hl),Jh (j:=1) rfl,zs2,fun t2 ht2=>?_⟩;have h32:=Je (o:=HO.tup [V.int hi,V.int e1]) ht2;refine⟨l,_,2,.int e2,rfl,rfl,SqL.of (h32 _ _ (h31 _ _ hl)),Jh (j:=2) rfl,zs2,fun t3 ht3=>?_⟩;have h33:=Je (o:=HO.tup [V.non,V.int e2]) ht3;refine⟨zs3,fun t0 ht0=>?_⟩;have h34:=Je (o:=HO.tup [V.ref t1,V.ref t2,V.ref t3]) ht0;have q1:=h34 _ _ (h33 _ _ (h32 _ _ (Ja (H:=H3) (a:=t1) (o:=HO.tup [V.int lo,V.int e0]))));have q2:=h34 _ _ (h33 _ _ (Ja (H:=upd H3 t1 (HO.tup [V.int lo,V.int e0])) (a:=t2) (o:=HO.tup [V.int hi,V.int e1])));have q3:=h34 _ _ (Ja (H:=upd (upd H3 t1 (HO.tup [V.int lo,V.int e0])) t2 (HO.tup [V.int hi,V.int e1])) (a:=t3) (o:=HO.tup [V.non,V.int e2]));have s4:=(((s3.trans h31).trans h32).trans h33).trans h34;have hl':=h34 _ _ (h33 _ _ (h32 _ _ (h31 _ _ hl)));have q0:_=some (HO.tup [V.ref t1,V.ref t2,V.ref t3]):=Ja (H:=upd (upd (upd H3 t1 (HO.tup [V.int lo,V.int e0])) t2 (HO.tup [V.int hi,V.int e1])) t3 (HO.tup [V.non,V.int e2])) (a:=t0);clear h31 h32 h33 h34;generalize upd (upd (upd (upd H3 t1 (HO.tup [V.int lo,V.int e0])) t2 (HO.tup [V.int hi,V.int e1])) t3 (HO.tup [V.non,V.int e2])) t0 (HO.tup [V.ref t1,V.ref t2,V.ref t3])=H4 at q0 q1 q2 q3 s4 hl' ⊢;refine nq fun _ nq=>⟨(by show(0:Int)<13;decide),rfl,_,rfl,?_⟩;refine JT (fun _=>fun _ nv=>?_) (fun _=>nq ?_)
  .-- thirteen bands
   refine⟨12,rfl,by decide,by decide,fun acc hacc=>?_⟩
   refine Jgg (fun i ys σ' H'=>∃(v0:Option V)(ps:List Addr),σ'=[v0,some (.int lo),some (.int f),some (.int s)]/\JX H4 H'/\H' acc=some (.lst ys)/\ys=ps.map V.ref/\ps.length=i/\
    ∀(j:Nat)(p:Addr),ps[j]?=some p->H' p=some (.tup [.int (lo+3*(j:Int)),.int ((f+(j:Int)*s)%30)]))
    ⟨none,[],rfl,Je hacc,Ja,rfl,rfl,fun j p e=>by simp at e⟩ ?_ ?_
   .rintro i ys σ' H' hi ⟨v0,ps,rfl,s5,ha,rfl,hlp,hp⟩;have hi:i<12:=hi;refine⟨Jy (by rw[A2];omega),?_⟩;dsimp only[JcP,JeS];rw[if_pos rfl];refine⟨.inl (.inl ⟨by decide,by decide⟩),.inl (.inl ⟨by omega,by omega⟩),(by show(0:Int)<30;decide),zs2,fun p hpn=>?_⟩;have hpa:acc≠p:=Ji ha hpn;refine⟨by rw[Jf hpa];exact ha,_,ps++[p],rfl,JR (s5.trans (Je hpn)) hacc,Ja,by rw[B4];rfl,by rw[Ak,hlp];rfl,fun j q e=>?_⟩
    by_cases hj:j<ps.length
    .rw[Bq hj]at e;have hq:=hp j q e;rw[Jf (Jac hq ha (by intro z;cases z)),Jf (Ji hq hpn)];exact hq
    .have hj':j=ps.length:=by
      have:=(A6.mp e).1;rw[Ak,C8]at this;omega
     subst hj';rw[Bj (A5 _),Nat.sub_self]at e;cases e;rw[Jf hpa.symm,Ja,hlp];show some (HO.tup [V.int (lo+3*(0+(i:Int))),V.int ((f+(0+(i:Int))*s)%30)])=_;rw[Int.zero_add]
   .rintro ys σ' H5 ⟨v0,ps,rfl,s5,ha,rfl,hlp,hp⟩;have hlp:ps.length=12:=hlp;refine nv ⟨l,_,1,.int e1,rfl,rfl,SqL.of (s5 _ _ hl'),Jh (j:=1) rfl,zs2,fun t5 ht5=>?_⟩;refine⟨zs1,fun l6 hl6=>?_⟩;have u5:=Je (o:=HO.tup [V.non,V.int e1]) ht5;have u6:=Je (o:=HO.lst [V.ref t5]) hl6;refine⟨acc,l6,_,_,rfl,rfl,u6 _ _ (u5 _ _ ha),Ja,Cq (Jy (by rw[A2,hlp,C8];omega)),fun l7 hl7=>?_⟩;have u7:=Je (o:=HO.lst (ps.map V.ref++[V.ref t5])) hl7;refine⟨l7,_,rfl,.inl ⟨SqL.of Ja,fun a ha'=>?_⟩⟩;have u8:=Je (o:=HO.tup (ps.map V.ref++[V.ref t5])) ha';refine k a ((List.range 12).map (fun j:Nat=>(some (lo+3*(j:Int)),(f+(j:Int)*s)%30))++[(none,e1)]) _ (((((s4.trans s5).trans u5).trans u6).trans u7).trans u8) ?_ ?_
    .refine⟨ps++[t5],by rw[Ja,B4];rfl,by rw[Ak,Ak,hlp];rfl,fun j p b e1 e2=>?_⟩
     by_cases hj:j<ps.length
     .rw[Bq hj]at e1;rw[Bq (by rw[A2,Cj,<- hlp];exact hj),Aq,List.getElem?_range (by rw[<- hlp];exact hj)]at e2;cases e2;exact u8 _ _ (u7 _ _ (u6 _ _ (u5 _ _ (hp j p e1))))
     .have hj':j=ps.length:=by
       have:=(A6.mp e1).1;rw[Ak,C8]at this;omega
      subst hj';rw[Bj (A5 _),Nat.sub_self]at e1;cases e1;rw[hlp]at e2;cases e2;exact u8 _ _ (u7 _ _ (u6 _ _ Ja))
    .refine(Wf.app 12 0 lo (fun j:Nat=>(f+(j:Int)*s)%30) e1 lo1).good (by rw[Ak,A2,Cj,C8];omega) (fun b hb=>?_) fun b hb=>?_
     .rcases B5.mp hb with hb|hb
      .obtain⟨j,_,rfl⟩ :=Bw.mp hb;have z1:=C0 (f+(j:Int)*s) (show(30:Int)≠0 by decide);have z2:=Bx (f+(j:Int)*s) (show(0:Int)<30 by decide);exact⟨z1,by show(f+(j:Int)*s)%30<_;omega,fun _=>by show(f+(j:Int)*s)%30<=_;omega⟩
      .rw[A7.mp hb];exact b1
     .rcases B5.mp hb with hb|hb
      .obtain⟨j,hj,rfl⟩ :=Bw.mp hb;have:=List.mem_range.mp hj;exact upS (by omega)
      .rw[A7.mp hb];exact upN
  .refine⟨t0,_,rfl,SqT.of q0,fun h=>absurd (show HT.sIx 3 0 (some 1)=0 from h.1) (by decide),fun p1 hp1=>?_⟩;have u1:=Je (o:=HO.tup (Jf6 [V.ref t1,V.ref t2,V.ref t3] (some 1) none)) hp1;refine⟨t0,_,rfl,SqT.of (u1 _ _ q0),fun h=>absurd (show HT.sIx 3 0 (some 2)=0 from h.1) (by decide),fun p2 hp2=>?_⟩;have u2:=Je (o:=HO.tup (Jf6 [V.ref t1,V.ref t2,V.ref t3] (some 2) none)) hp2;refine⟨zs4,fun l5 hl5=>?_⟩;have u3:=Je (o:=HO.lst [V.ref t0,V.ref p1,V.ref p2,V.ref t0]) hl5
   obtain⟨v,hv,hvc⟩:∃v:Addr,atI [V.ref t0,V.ref p1,V.ref p2,V.ref t0] ((f+s)%4)=some (V.ref v)/\(v=t0\/v=p1\/v=p2):=by
    have m4:(f+s)%4=0\/(f+s)%4=1\/(f+s)%4=2\/(f+s)%4=3:=by omega
    rcases m4 with h|h|h|h<;>rw[h]
    .exact⟨t0,rfl,.inl rfl⟩
    .exact⟨p1,rfl,.inr (.inl rfl)⟩
    .exact⟨p2,rfl,.inr (.inr rfl)⟩
    .exact⟨t0,rfl,.inl rfl⟩
   refine⟨(by show(0:Int)<4;decide),l5,_,_,.ref v,rfl,rfl,SqL.of Ja,hv,?_⟩;have s5:=((s4.trans u1).trans u2).trans u3;have u:=(u1.trans u2).trans u3
   rcases hvc with rfl|rfl|rfl
   .exact k v [(some lo,e0),(some hi,e1),(none,e2)] _ s5 (Jev (ps:=[t1,t2,t3]) (u _ _ q0) (.cons (u _ _ q1) (.cons (u _ _ q2) (.cons (u _ _ q3) .nil))))
     (Wf.good ⟨lo1,hi1,rfl⟩ (by show 3<=13;decide) (Jsc b0 b1 b2) (Jsc (upS (by omega)) (upS hi2) upN))
   .exact k v [(some hi,e1),(none,e2)] _ s5 (Jev (ps:=[t2,t3]) (u3 _ _ (u2 _ _ Ja)) (.cons (u _ _ q2) (.cons (u _ _ q3) .nil)))
     (Wf.good ⟨by omega,rfl⟩ (by show 2<=13;decide) (Jsm b1 b2) (Jsm (upS hi2) upN))
   .exact k v [(none,e2)] _ s5 (Jev (ps:=[t3]) (u3 _ _ Ja) (.cons (u _ _ q3) .nil))
     (Wf.good rfl (by show 1<=13;decide) (JrT b2) (JrT upN))
theorem Jd4{H:Hp}{bs:List Bd}{v:V}(h:Rep H (JeM bs) v)(b:Jbl bs):Jhy H v:=let ⟨a,e,z⟩ :=Jnw h;⟨a,bs,e,z,b⟩
theorem JgK{H H':Hp}{xs ys:List V}(s:JX H H')(h:∀v∈xs,Jhy H v)(g:∀v∈ys,Jhy H' v):∀v∈xs++ys,Jhy H' v:=fun v hv=>(B5.mp hv).elim (fun z=>(h v z).same s) (g v)
theorem Joy{H:Hp}{p:Addr}{u1 u2 u3:V}{a1 b1 a2 b2 b3:Int}(h1:Rep H (.tup [.int a1,.int b1]) u1)(h2:Rep H (.tup [.int a2,.int b2]) u2)(h3:Rep H (.tup [.non,.int b3]) u3)(h:H p=some (.tup [u1,u2,u3])):JG H p [(some a1,b1),(some a2,b2),(none,b3)]:=
 JB.mpr ⟨p,_,rfl,h,_,_,rfl,h1,_,_,rfl,h2,_,_,rfl,h3,rfl⟩
inductive Jj3(vs:List V)(H:Hp)(Q:VK):Prop
 | mk (a:Addr) (bs:List Bd) (seed:Int) (h1:vs=[.ref a,.int seed]) (h2:JG H a bs) (h3:Jbl bs) (h4:bs≠[]) (h5:bs.length<=13) (h6:∀v H',JX H H'->Jhy H' v->Q v H'):Jj3 vs H Q
noncomputable def JjC:Sp:=fun vs H Q _=>Jj3 vs H Q
theorem Jm2{f:Addr}{fd:FuncData}(F:Fun K "_law_spoilt" "_law_spoilt" Jde f fd):YO P w K mg base CX0 1 f fd ["_law_bands", "_law_seed"] JjC:=by
 refine F.ok JbF (fun vs H Q E h=>?_) (fun cdv A outer s0 H vs Q E hr h=>?_)
 .obtain⟨_,_,_,rfl,_⟩ :=h;rfl
 .obtain⟨a,bs,seed,rfl,hb,bb,hne,h13,k⟩ :=h;obtain⟨xs,ha,rx⟩ :=Jk2 hb
  have hxl:xs.length=bs.length:=by rw[rx.length,A2]
  have hxn:xs≠[]:=fun z=>hne (List.eq_nil_of_length_eq_zero (by rw[<- hxl,z];rfl));have hpos:0<xs.length:=List.length_pos_iff.mpr hxn
  have notw:¬(HT.sIx xs.length 0 none=0/\HT.sIx xs.length xs.length (some (-1))=xs.length):=fun z=>by
   have:=z.2;simp only[HT.sIx]at this;rw[if_pos (by decide)]at this;omega
  have rt:∀H',JX H H'->YL H' ((bs.take (xs.length-1)).map fun b=>.tup [oD b.1,.int b.2]) (xs.take (xs.length-1)):=fun H' s=>by
   rw[List.map_take];exact Jlr _ (rx.same s)
  have m0:0<=seed%10^60/\seed%10^60<10^60:=⟨C0 _ (by decide),Bx _ (by decide)⟩;refine⟨_,(@Jd _ _ _ _ _ (@Jfp _ _ 2 _ _ _ _ (by exact JbF.nd) (by rfl) (by exact Or.inl rfl) (@Yd _ _ _ _ (@Jc _ _ _ _ _ (@Y6 _ _ _ _ _ Yo (by decide)) (@Jc _ _ _ _ _ (YS Jir (pw 0) JaH (YG (Jdh (op:=.USub) Jaw Jb))) (@Jc _ _ _ _ _ (@Jk _ _ _ _ _ _ _ _ JjR (@Y6 _ _ _ _ _ (@Jz _ _ _ _ _ (@Y6 _ _ _ _ _ (@Jz _ _ _ _ _ JeG (@Jz _ _ _ _ _ Jae Yo (by rfl)) (by rfl)) (by decide)) Yo (by rfl)) (by decide)) (pw 0)) (@Jc _ _ _ _ _ (@Y6 _ _ _ _ _ (@Jz _ _ _ _ _ (@Y6 _ _ _ _ _ (@Jz _ _ _ _ _ Jae (@Jz _ _ _ _ _ Jae Yo (by rfl)) (by rfl)) (by decide)) (@Jz _ _ _ _ _ (@Y6 _ _ _ _ _ (@Jz _ _ _ _ _ Jae (@Jz _ _ _ _ _ Jae Yo (by rfl)) (by rfl)) (by decide)) (@Jz _ _ _ _ _ (@Y6 _ _ _ _ _ (@Jz _ _ _ _ _ JeG (@Jz _ _ _ _ _ Jae Yo (by rfl)) (by rfl)) (by decide)) Yo (by rfl)) (by rfl)) (by rfl)) (by decide)) JV (by rfl)) (by rfl)) (by rfl)) (by rfl))) (by rfl) (by first|exact .inl rfl|exact .inr rfl|assumption)) (@Jd _ _ _ _ _ (@Jfp _ _ 2 _ _ _ _ (by exact JbF.nd) (by rfl) (by exact Or.inl rfl) (@Jk _ _ _ _ _ _ _ _ JhG (pw 2) (@Yd _ _ _ _ (@Jc _ _ _ _ _ (@Y6 _ _ _ _ _ (@Jz _ _ _ _ _ (@Y6 _ _ _ _ _ (@Jz _ _ _ _ _ Jae (@Jz _ _ _ _ _ Jae Yo (by rfl)) (by rfl)) (by decide)) (@Jz _ _ _ _ _ (@Y6 _ _ _ _ _ (@Jz _ _ _ _ _ JeG (@Jz _ _ _ _ _ Jae Yo (by rfl)) (by rfl)) (by decide)) Yo (by rfl)) (by rfl)) (by decide)) (@Jc _ _ _ _ _ (@Y6 _ _ _ _ _ (@Jz _ _ _ _ _ (@Y6 _ _ _ _ _ (@Jz _ _ _ _ _ Jae (@Jz _ _ _ _ _ Jol Yo (by rfl)) (by rfl)) (by decide)) (@Jz _ _ _ _ _ (@Y6 _ _ _ _ _ (@Jz _ _ _ _ _ JeG (@Jz _ _ _ _ _ Jae Yo (by rfl)) (by rfl)) (by decide)) Yo (by rfl)) (by rfl)) (by decide)) (@Jc _ _ _ _ _ (@Jk _ _ _ _ _ _ _ _ JjR (YS Jir (pw 0) JaH (YG (Jdh (op:=.USub) Jaw Jb))) (@Y6 _ _ _ _ _ (@Jz _ _ _ _ _ (@Y6 _ _ _ _ _ (@Jz _ _ _ _ _ JeG (@Jz _ _ _ _ _ Jol Yo (by rfl)) (by rfl)) (by decide)) Yo (by rfl)) (by decide))) JV (by rfl)) (by rfl)) (by rfl)))) (by rfl) (by first|exact .inl rfl|exact .inr rfl|assumption)) (@Jd _ _ _ _ _ (@Jfp _ _ 2 _ _ _ _ (by exact JbF.nd) (by rfl) (by exact Or.inl rfl) (@Jk _ _ _ _ _ _ _ _ JhG (pw 2) (@Yd _ _ _ _ (@Jc _ _ _ _ _ (@Y6 _ _ _ _ _ (@Jz _ _ _ _ _ (@Y6 _ _ _ _ _ (@Jz _ _ _ _ _ Jae (@Jz _ _ _ _ _ Jae Yo (by rfl)) (by rfl)) (by decide)) (@Jz _ _ _ _ _ (@Y6 _ _ _ _ _ (@Jz _ _ _ _ _ Jae (@Jz _ _ _ _ _ Jae Yo (by rfl)) (by rfl)) (by decide)) (@Jz _ _ _ _ _ (@Y6 _ _ _ _ _ (@Jz _ _ _ _ _ JeG (@Jz _ _ _ _ _ Jae Yo (by rfl)) (by rfl)) (by decide)) Yo (by rfl)) (by rfl)) (by rfl)) (by decide)) (@Jc _ _ _ _ _ (@J2 _ _ _ _ _ (@Jc _ _ _ _ _ (@Y6 _ _ _ _ _ (@Jz _ _ _ _ _ Jae (@Jz _ _ _ _ _ Jae Yo (by rfl)) (by rfl)) (by decide)) (@Jc _ _ _ _ _ (@J2 _ _ _ _ _ (@Jc _ _ _ _ _ Jb (@Jc _ _ _ _ _ (@Jk _ _ _ _ _ _ _ _ JF Jb (@Jk _ _ _ _ _ _ _ _ JC (pw 1) (@Jk _ _ _ _ _ _ _ _ JaG Jb Jb))) JV (by rfl)) (by rfl))) (@Jc _ _ _ _ _ (@Y6 _ _ _ _ _ (@Jz _ _ _ _ _ JeG (@Jz _ _ _ _ _ Jae Yo (by rfl)) (by rfl)) (by decide)) JV (by rfl)) (by rfl)) (by rfl))) JV (by rfl)) (by rfl)))) (by rfl) (by first|exact .inl rfl|exact .inr rfl|assumption)) (@Jd _ _ _ _ _ (@Jfp _ _ 2 _ _ _ _ (by exact JbF.nd) (by rfl) (by exact Or.inl rfl) (@Jk _ _ _ _ _ _ _ _ JhG (pw 2) (@Yd _ _ _ _ (@Jc _ _ _ _ _ (@J2 _ _ _ _ _ (@Jc _ _ _ _ _ (@Y6 _ _ _ _ _ (@Jz _ _ _ _ _ Jae (@Jz _ _ _ _ _ Jae Yo (by rfl)) (by rfl)) (by decide)) (@Jc _ _ _ _ _ (@J2 _ _ _ _ _ (@Jc _ _ _ _ _ Jb (@Jc _ _ _ _ _ (@Jk _ _ _ _ _ _ _ _ JW (Jdh (op:=.USub) Jaw Jb) (@Jk _ _ _ _ _ _ _ _ JC (pw 1) (@Jk _ _ _ _ _ _ _ _ JaG Jb Jb))) JV (by rfl)) (by rfl))) (@Jc _ _ _ _ _ (@Y6 _ _ _ _ _ (@Jz _ _ _ _ _ JeG (@Jz _ _ _ _ _ Jae Yo (by rfl)) (by rfl)) (by decide)) JV (by rfl)) (by rfl)) (by rfl))) JV (by rfl)))) (by rfl) (by first|exact .inl rfl|exact .inr rfl|assumption)) (@Jg _ _ _ (@Jn _ _ _ _ (Ju JK (pw 2) (@Jk _ _ _ _ _ _ _ _ JC (pw 1) Jb) (fun _ _=>rfl)))))))),fun _ nz=>?_⟩;intro v1 H1 s1 r1 _;refine⟨a,_,rfl,SqT.of (s1 _ _ ha),notw,fun c hc=>?_⟩;rw[Jfq hxn];have sc:=Je (o:=HO.tup (xs.take (xs.length-1))) hc;have hc2:upd H1 c (HO.tup (xs.take (xs.length-1))) c=some (.tup (xs.take (xs.length-1))):=Ja;generalize upd H1 c (HO.tup (xs.take (xs.length-1)))=H2 at sc hc2 ⊢;have s2:=s1.trans sc;intro v3 H3 s3' r3 _;have s3:=s2.trans s3';obtain⟨t3,ys3,e3,h3,q3⟩ :=r3;subst e3;refine⟨t3,a,ys3,xs,rfl,rfl,h3,s3 _ _ ha,Jc9 (by rw[q3.length,hxl];show 1+bs.length<=1000;omega),fun t4 H4 s4' h4=>?_⟩;have s4:=s3.trans s4';have b4:JG H4 t4 ([(none,1)]++bs):=JhI (bs:=[(none,1)]) (q3.same s4') (rx.same s4) h4;intro v5 H5 s5' r5 _;have s5:=s4.trans s5';refine⟨zs4,fun l1 hl1=>?_⟩;have s6':=Je (o:=HO.lst [v1,V.ref c,V.ref t4,v5]) hl1;have hl6:upd H5 l1 (HO.lst [v1,V.ref c,V.ref t4,v5]) l1=some (.lst [v1,V.ref c,V.ref t4,v5]):=Ja
  have all6:∀v∈[v1,V.ref c,V.ref t4,v5],Jhy (upd H5 l1 (HO.lst [v1,V.ref c,V.ref t4,v5])) v:=by
   intro v hv;simp only[Ax,List.not_mem_nil,or_false]at hv
   rcases hv with rfl|rfl|rfl|rfl
   .exact(Jd4 (bs:=[]) (r1.same (((sc.trans s3').trans s4').trans s5')) ⟨by decide,by decide⟩).same s6'
   .exact⟨c,_,rfl,JB.mpr ⟨c,_,rfl,s6' _ _ (s5' _ _ (s4' _ _ (s3' _ _ hc2))),rt _ (s5.trans s6')⟩,bb.take _⟩
   .exact⟨t4,_,rfl,(b4.same s5').same s6',⟨by show bs.length+1<=14;omega,fun b hb=>(B5.mp hb).elim (fun z=>by rw[A7.mp z];decide) (bb.each b)⟩⟩
   .exact(Jd4 (bs:=[(some 5,1),(some 5,2),(none,1)]) r5 ⟨by decide,by decide⟩).same s6'
  generalize upd H5 l1 (HO.lst [v1,V.ref c,V.ref t4,v5])=H6 at s6' hl6 all6 ⊢;generalize hvs1:[v1,V.ref c,V.ref t4,v5]=vs1 at hl6 all6 ⊢
  have hn1:vs1.length=4:=by rw[<- hvs1];rfl
  have s6:=s5.trans s6';clear s1 r1 hc sc hc2 s2 s3' s3 h3 q3 s4' h4 s4 b4 s5' r5 s5 hl1 s6' hvs1;refine nz fun _ nz=>?_;intro v7 H7 s7' r7 _;intro v8 H8 s8' r8 _;have s8:=(s6.trans s7').trans s8';refine⟨a,_,rfl,SqT.of (s8 _ _ ha),notw,fun c9 hc9=>?_⟩;rw[Jfq hxn];have s9':=Je (o:=HO.tup (xs.take (xs.length-1))) hc9;have hc9b:upd H8 c9 (HO.tup (xs.take (xs.length-1))) c9=some (.tup (xs.take (xs.length-1))):=Ja;generalize upd H8 c9 (HO.tup (xs.take (xs.length-1)))=H9 at s9' hc9b ⊢;have s9:=s8.trans s9';intro v10 H10 s10' r10 _;have s10:=s9.trans s10';obtain⟨t10,ys10,e10,h10,q10⟩ :=r10;subst e10;refine⟨c9,t10,_,ys10,rfl,rfl,s10' _ _ hc9b,h10,Jc9 (by rw[q10.length,B7];show _+1<=1000;omega),fun t11 H11 s11' h11=>?_⟩;have s11:=s10.trans s11';have b11:JG H11 t11 (bs.take (xs.length-1)++[(none,-1)]):=JhI (cs:=[(none,-1)]) (rt _ s11) (q10.same s11') h11;refine⟨zs3,fun l2 hl2=>?_⟩;have s12':=Je (o:=HO.lst [v7,v8,V.ref t11]) hl2;have hl12:upd H11 l2 (HO.lst [v7,v8,V.ref t11]) l2=some (.lst [v7,v8,V.ref t11]):=Ja
  have all12:∀v∈[v7,v8,V.ref t11],Jhy (upd H11 l2 (HO.lst [v7,v8,V.ref t11])) v:=by
   intro v hv;simp only[Ax,List.not_mem_nil,or_false]at hv;have z:=(s9'.trans s10').trans s11'
   rcases hv with rfl|rfl|rfl
   .exact((Jd4 (bs:=[(some 0,1),(none,1)]) r7 ⟨by decide,by decide⟩).same (s8'.trans z)).same s12'
   .exact((Jd4 (bs:=[(some 5,-1),(none,1)]) r8 ⟨by decide,by decide⟩).same z).same s12'
   .refine⟨t11,_,rfl,b11.same s12',⟨by rw[Ak,B7];show _+1<=14;omega,fun b hb=>(B5.mp hb).elim (fun z=>bb.each b (List.mem_of_mem_take z)) fun z=>by rw[A7.mp z];decide⟩⟩
  generalize upd H11 l2 (HO.lst [v7,v8,V.ref t11])=H12 at s12' hl12 all12 ⊢;generalize hvs2:[v7,v8,V.ref t11]=vs2 at hl12 all12 ⊢
  have hn2:vs2.length=3:=by rw[<- hvs2];rfl
  have s6x:JX H6 H12:=(((((s7'.trans s8').trans s9').trans s10').trans s11').trans s12');have s12:=s11.trans s12';refine⟨l1,l2,vs1,vs2,rfl,rfl,s6x _ _ hl6,hl12,Jc9 (by omega),fun l3 hl3=>?_⟩;have s13':=Je (o:=HO.lst (vs1++vs2)) hl3;have hl13:upd H12 l3 (HO.lst (vs1++vs2)) l3=some (.lst (vs1++vs2)):=Ja;generalize upd H12 l3 (HO.lst (vs1++vs2))=H13 at s13' hl13 ⊢;have all13:∀v∈vs1++vs2,Jhy H13 v:=JgK (s6x.trans s13') all6 fun v hv=>(all12 v hv).same s13';have s13:=s12.trans s13';clear s6x s12 s13' hl3 all12 hl12 hvs2 s12' hl2 b11 s11 h11 s11' q10 h10 s10 s10' s9 hc9b s9' hc9 s8 r8 s8' r7 s7' s6 all6 hl6;refine nz fun _ nz=>?_;intro v14 H14 s14' r14 _;intro v15 H15 s15' r15 _;refine⟨⟨by decide,by decide,by decide⟩,(by show(0:Int)<10^(60:Int).toNat;decide),zs2,fun t16 ht16=>?_⟩;have s16':=Je (o:=HO.tup [V.int 9,V.int (101+seed%10^(60:Int).toNat)]) ht16;have h16:upd H15 t16 (HO.tup [V.int 9,V.int (101+seed%10^(60:Int).toNat)]) t16=some (.tup [V.int 9,V.int (101+seed%10^60)]):=Ja;generalize upd H15 t16 (HO.tup [V.int 9,V.int (101+seed%10^(60:Int).toNat)])=H16 at s16' h16 ⊢;intro v17 H17 s17' r17 _;refine⟨zs3,fun t18 ht18=>?_⟩;have s18':=Je (o:=HO.tup [v15,V.ref t16,v17]) ht18;have h18:upd H17 t18 (HO.tup [v15,V.ref t16,v17]) t18=some (.tup [v15,V.ref t16,v17]):=Ja;generalize upd H17 t18 (HO.tup [v15,V.ref t16,v17])=H18 at s18' h18 ⊢;have b18:JG H18 t18 [(some 5,1),(some 9,101+seed%10^60),(none,2)]:=Joy (((r15.same s16').same s17').same s18') ⟨t16,_,rfl,s18' _ _ (s17' _ _ h16),_,_,rfl,rfl,_,_,rfl,rfl,rfl⟩ (r17.same s18') h18;refine⟨zs2,fun l4 hl4=>?_⟩;have s19':=Je (o:=HO.lst [v14,V.ref t18]) hl4;have hl19:upd H18 l4 (HO.lst [v14,V.ref t18]) l4=some (.lst [v14,V.ref t18]):=Ja;generalize upd H18 l4 (HO.lst [v14,V.ref t18])=H19 at s19' hl19 ⊢
  have all19:∀v∈[v14,V.ref t18],Jhy H19 v:=by
   intro v hv;simp only[Ax,List.not_mem_nil,or_false]at hv
   rcases hv with rfl|rfl
   .exact(Jd4 (bs:=[(some 9,1),(some 5,2),(none,1)]) r14 ⟨by decide,by decide⟩).same ((((s15'.trans s16').trans s17').trans s18').trans s19')
   .refine⟨t18,_,rfl,b18.same s19',⟨by show 3<=14;decide,fun b hb=>?_⟩⟩;simp only[Ax,List.not_mem_nil,or_false]at hb
    rcases hb with rfl|rfl|rfl
    .decide
    .show(101+seed%10^60).natAbs<10^62;omega
    .decide
  have s13x:JX H13 H19:=((((s14'.trans s15').trans s16').trans s17').trans s18').trans s19';refine⟨l3,l4,_,_,rfl,rfl,s13x _ _ hl13,hl19,Jc9 (by rw[Ak];show _+_+2<=1000;omega),fun l5 hl5=>?_⟩;have s20':=Je (o:=HO.lst (vs1++vs2++[v14,V.ref t18])) hl5;have hl20:upd H19 l5 (HO.lst (vs1++vs2++[v14,V.ref t18])) l5=some (.lst (vs1++vs2++[v14,V.ref t18])):=Ja;generalize upd H19 l5 (HO.lst (vs1++vs2++[v14,V.ref t18]))=H20 at s20' hl20 ⊢;have all20:∀v∈vs1++vs2++[v14,V.ref t18],Jhy H20 v:=JgK (s13x.trans s20') all13 fun v hv=>(all19 v hv).same s20';have s20:=s13.trans (s13x.trans s20');clear s13x s19' hl4 hl19 all19 b18 s18' ht18 h18 r17 s17' h16 s16' ht16 r15 s15' r14 s14' all13 hl13 s13;refine nz fun _ nz=>?_;intro v21 H21 s21' r21 _;refine⟨⟨by decide,by decide,by decide⟩,(by show(0:Int)<10^(60:Int).toNat;decide),zs2,fun t22 ht22=>?_⟩;have s22':=Je (o:=HO.tup [V.int 9,V.int (-1-seed%10^(60:Int).toNat)]) ht22;have h22:upd H21 t22 (HO.tup [V.int 9,V.int (-1-seed%10^(60:Int).toNat)]) t22=some (.tup [V.int 9,V.int (-1-seed%10^60)]):=Ja;generalize upd H21 t22 (HO.tup [V.int 9,V.int (-1-seed%10^(60:Int).toNat)])=H22 at s22' h22 ⊢;intro v23 H23 s23' r23 _;refine⟨zs3,fun t24 ht24=>?_⟩;have s24':=Je (o:=HO.tup [v21,V.ref t22,v23]) ht24;have h24:upd H23 t24 (HO.tup [v21,V.ref t22,v23]) t24=some (.tup [v21,V.ref t22,v23]):=Ja;generalize upd H23 t24 (HO.tup [v21,V.ref t22,v23])=H24 at s24' h24 ⊢;have b24:JG H24 t24 [(some 5,1),(some 9,-1-seed%10^60),(none,2)]:=Joy (((r21.same s22').same s23').same s24') ⟨t22,_,rfl,s24' _ _ (s23' _ _ h22),_,_,rfl,rfl,_,_,rfl,rfl,rfl⟩ (r23.same s24') h24;refine⟨zs1,fun l6 hl6=>?_⟩;have s25':=Je (o:=HO.lst [V.ref t24]) hl6;have hl25:upd H24 l6 (HO.lst [V.ref t24]) l6=some (.lst [V.ref t24]):=Ja;generalize upd H24 l6 (HO.lst [V.ref t24])=H25 at s25' hl25 ⊢;have s20x:JX H20 H25:=((s21'.trans s22').trans s23').trans (s24'.trans s25');refine⟨l5,l6,_,_,rfl,rfl,s20x _ _ hl20,hl25,Jc9 (by rw[Ak,Ak];show _+_+2+1<=1000;omega),fun l7 hl7=>?_⟩;have s26':=Je (o:=HO.lst (vs1++vs2++[v14,V.ref t18]++[V.ref t24])) hl7;have hl26:upd H25 l7 (HO.lst (vs1++vs2++[v14,V.ref t18]++[V.ref t24])) l7=some (.lst (vs1++vs2++[v14,V.ref t18]++[V.ref t24])):=Ja;generalize upd H25 l7 (HO.lst (vs1++vs2++[v14,V.ref t18]++[V.ref t24]))=H26 at s26' hl26 ⊢
  have all26:∀v∈vs1++vs2++[v14,V.ref t18]++[V.ref t24],Jhy H26 v:=JgK (s20x.trans s26') all20 fun v hv=>by
   rw[A7.mp hv];refine⟨t24,_,rfl,(b24.same s25').same s26',⟨by show 3<=14;decide,fun b hb=>?_⟩⟩;simp only[Ax,List.not_mem_nil,or_false]at hb
   rcases hb with rfl|rfl|rfl
   .decide
   .show(-1-seed%10^60).natAbs<10^62;omega
   .decide
  have s26:=s20.trans (s20x.trans s26')
  have hl10:(vs1++vs2++[v14,V.ref t18]++[V.ref t24]).length=10:=by simp[hn1,hn2]
  generalize vs1++vs2++[v14,V.ref t18]++[V.ref t24]=vz at hl26 all26 hl10
  have hm:0<=seed%10/\seed%10<10:=by omega
  have hj:(seed%10).toNat<vz.length:=by omega
  refine nz ⟨(by show(0:Int)<10;decide),l7,_,_,vz[(seed%10).toNat],rfl,rfl,SqL.of hl26,?_,k _ H26 s26 (all26 _ (List.getElem_mem hj))⟩;have e:=Jh (A3 hj);rw[show(((seed%10).toNat:Nat):Int)=seed%10 by omega]at e;exact e
inductive Jov(vs:List V)(H:Hp)(Q:VK):Prop
 | mk (a:Addr) (xs:List V) (m b:Int) (h1:vs=[.ref a,.int m,.int b]) (h2:SqL K H a xs) (h3:xs.length<=63) (h4:Q (.int m) H):Jov vs H Q
noncomputable def JoO:Sp:=fun vs H Q _=>Jov (K:=K) vs H Q
theorem Jo0{f:Addr}{fd:FuncData}(F:Fun K "_law_room" "_law_room" Je6 f fd)(Z:Zs mg):YO P w K mg base CX0 1 f fd ["_law_script", "_law_most", "_law_bound"] (JoO (K:=K)):=by
 refine F.ok JlW (fun vs H Q E h=>?_) (fun cdv A outer s0 H vs Q E hr h=>?_)
 .obtain⟨_,_,_,_,rfl,_⟩ :=h;rfl
 .obtain⟨a,xs,m,b,rfl,ha,hl,k⟩ :=h
  refine⟨_,(Jd (JL (Jq Jfj (Jp JO (by rfl) Z.z_len Jbj (pa1 (pw 0))) Jb (Jx _)) (Jg (Jn (pw 2))) Jr)
   (Jg (Jn (pw 1)))),fun _ nz=>?_⟩
  refine⟨a,xs,rfl,.inl ha,_,rfl,?_⟩;refine JT (fun h=>?_) (fun _=>nz k);have:=of_decide_eq_true h;omega
theorem Jrt(ns:List Int):Jf6 (ns.map V.int) none (some 1)=(ns.take 1).map V.int:=by
 unfold Jf6;rw[HT.JjD,show(some (1:Int))=some ((1:Nat):Int) from rfl,HT.JiQ];simp
inductive JmL(vs:List V)(H:Hp)(Q:VK):Prop
 | mk (a:Addr) (ns:List Int) (h1:vs=[.ref a]) (h2:SqL K H a (ns.map V.int)) (h3:∀H',JX H H'->Q (.int (J3 ns)) H'):JmL vs H Q
noncomputable def JfK:Sp:=fun vs H Q _=>JmL (K:=K) vs H Q
theorem Joh{f:Addr}{fd:FuncData}(F:Fun K "_law_so_far" "_law_so_far" Jc5 f fd)(Z:Zs mg):YO P w K mg base CX0 1 f fd ["_law_cells"] (JfK (K:=K)):=by
 refine F.ok JiR (fun vs H Q E h=>?_) (fun cdv A outer s0 H vs Q E hr h=>?_)
 .obtain⟨_,_,rfl,_⟩ :=h;rfl
 .obtain⟨a,ns,rfl,ha,k⟩ :=h;refine⟨_,(Jg (Jn (Ju JK (Yd (Jc Jb (Jc Jb (pa1 Jb)))) (Jk JC (Jk YU (Jp (JaJ rfl) (by rfl) Z.z_sum JcV (pa1 (YS JbW (pw 0) JaH (YG Jb)))) Jb) Jb) (fun _ _=>rfl)))),?_⟩;refine⟨zs3,fun l hl=>?_⟩;have s1:=Je (o:=HO.lst [V.int 1,V.int 1,V.int 7]) hl;refine⟨a,_,rfl,s1.seq ha,fun p hp=>?_⟩;rw[Jrt];have s2:=Je (o:=HO.lst ((ns.take 1).map V.int)) hp;refine⟨p,ns.take 1,rfl,SqL.of Ja,⟨by decide,by decide⟩,(by show(0:Int)<3;decide),l,_,_,.int (J3 ns),rfl,rfl,SqL.of (s2 _ _ Ja),?_,k _ (s1.trans s2)⟩;unfold J3 JbN;generalize(ns.take 1).sum/105=z
  have m3:z%3=0\/z%3=1\/z%3=2:=by omega
  rcases m3 with h|h|h<;>rw[h]<;>rfl
inductive JlN(vs:List V)(H:Hp)(Q:VK):Prop
 | mk (a:Addr) (ns:List Int) (h1:vs=[.ref a]) (h2:SqL K H a (ns.map V.int)) (h3:∀H',JX H H'->Q (.int (JA ns)) H'):JlN vs H Q
noncomputable def Jhb:Sp:=fun vs H Q _=>JlN (K:=K) vs H Q
theorem JnE{f:Addr}{fd:FuncData}(F:Fun K "_law_first_month" "_law_first_month" JaZ f fd)(Z:Zs mg):YO P w K mg base CX0 1 f fd ["_law_cells"] (Jhb (K:=K)):=by
 refine F.ok Jcs (fun vs H Q E h=>?_) (fun cdv A outer s0 H vs Q E hr h=>?_)
 .obtain⟨_,_,rfl,_⟩ :=h;rfl
 .obtain⟨a,ns,rfl,ha,k⟩ :=h
  refine⟨_,(Jd (Jl 1 Jcs.nd (Jp (JaJ rfl) (by rfl) Z.z_sum JcV (pa1 (YS JbW (pw 0) JaH (YG Jb)))))
   (Jg (Jn (Ju JK (Yd (Jc Jb (Jc Jb (Jc Jb (Jc (Jdh (op:=.USub) Jaw (Jk JaG Jb Jb)) (pa1 (Jk JC (pw 1) (Jk JaG Jb Jb)))))))) (Jk JC (Jk YU (pw 1) Jb) Jb) (fun _ _=>rfl))))),fun _ nz=>?_⟩
  refine⟨a,_,rfl,ha,fun p hp=>?_⟩;rw[Jrt];have s1:=Je (o:=HO.lst ((ns.take 1).map V.int)) hp;refine⟨p,ns.take 1,rfl,SqL.of Ja,?_⟩;refine nz ⟨⟨by decide,by decide,by decide⟩,⟨by decide,by decide,by decide⟩,(by show(0:Int)<10^(40:Int).toNat;decide),(by show 5<=B2;decide),fun l hl=>?_⟩;have s2:=Je (o:=HO.lst [V.int 0,V.int 0,V.int 1000,V.int (-10^(9:Int).toNat),V.int ((ns.take 1).sum%10^(40:Int).toNat)]) hl;refine⟨⟨by decide,by decide⟩,(by show(0:Int)<5;decide),l,_,_,.int (JA ns),rfl,rfl,SqL.of Ja,?_,k _ (s1.trans s2)⟩;unfold JA JbN;generalize(ns.take 1).sum/21=z
  have m5:z%5=0\/z%5=1\/z%5=2\/z%5=3\/z%5=4:=by omega
  rcases m5 with h|h|h|h|h<;>rw[h]<;>rfl
theorem Jjg{n:Int}(h0:0<=n)(h1:n<=40):MulOk "x" n:=by
 refine⟨?_,fun _ _=>?_,fun _ _=>?_⟩
 .rw[decide_eq_false (by omega),decide_eq_false (by omega)];rfl
 .show¬((1:Int)>(2^63-1)/n);intro h
  have hn:0<n:=by
   rcases Int.lt_or_eq_of_le h0 with c|c
   .exact c
   .rw[<- c]at h;simp at h;omega
  have:(40:Int)*n<=2^63-1:=by omega
  have:=(Int.le_ediv_iff_mul_le hn).mpr this;omega
 .show Builtin.Str.tooLong (1*n.toNat)=false;unfold Builtin.Str.tooLong;exact decide_eq_false (by rw[sizeLine_eq];omega)
theorem JrY{n:Int}(h0:0<=n):((Txt.mul "x" n).length:Int)=n:=by
 rw[len_mul,if_neg (by simpa using h0)];show(1:Int)*n=n;omega
inductive JjB(vs:List V)(H:Hp)(Q:VK):Prop
 | mk (a:Addr) (ns:List Int) (h1:vs=[.ref a]) (h2:SqL K H a (ns.map V.int)) (h3:∀l H',JX H H'->H l=none->H' l=some (.lst ((Jv ns).map V.str))->Q (.ref l) H'):JjB vs H Q
noncomputable def Jfc:Sp:=fun vs H Q _=>JjB (K:=K) vs H Q
theorem JlB{f:Addr}{fd:FuncData}(F:Fun K "_law_people" "_law_people" Jc4 f fd)(Z:Zs mg):YO P w K mg base CX0 1 f fd ["_law_cells"] (Jfc (K:=K)):=by
 refine F.ok JdD (fun vs H Q E h=>?_) (fun cdv A outer s0 H vs Q E hr h=>?_)
 .obtain⟨_,_,rfl,_⟩ :=h;rfl
 .obtain⟨a,ns,rfl,ha,k⟩ :=h
  refine⟨_,(Jd (Jl 1 JdD.nd (Jk JC (Jk YU (Jp (JaJ rfl) (by rfl) Z.z_sum JcV (pa1 (YS JbW (pw 0) JaH (YG Jb)))) Jb) Jb))
   (Jd (Jl 2 JdD.nd (Yd (Jc (Yd (Jc Jt (Jc Jt (pa1 Jt)))) (pa1 (Yd (Jc Jt (Jc Jt (pa1 Jt))))))))
   (Jd (Jbh (Jhf PySem.F.plainAttrs_list PySem.F.slot_list_append PySem.F.type_list_append Jah (pw 2) (pa1 (Yd (Jc Jt (Jc (Jk Jem Jt Jb) (pa1 (Jk Jgt (Jk Jgt (Jk Jem Jt (pw 1)) Jt) (Jk Jem Jt (Jk JW Jb (pw 1)))))))))))
   (Jg (Jn (Ju JK (pw 2) (Jk JC (Jk YU (Jp (JaJ rfl) (by rfl) Z.z_sum JcV (pa1 (YS JbW (pw 0) JaH (YG Jb)))) Jb) Jb) (fun _ _=>rfl))))))),fun _ nz=>?_⟩
  refine⟨a,_,rfl,ha,fun p hp=>?_⟩;rw[Jrt];have s1:=Je (o:=HO.lst ((ns.take 1).map V.int)) hp;refine⟨p,ns.take 1,rfl,SqL.of Ja,⟨by decide,by decide⟩,(by show(0:Int)<40;decide),?_⟩;have p0:0<=(ns.take 1).sum/21%40:=C0 _ (by decide);have p1:(ns.take 1).sum/21%40<40:=Bx _ (by decide);refine nz fun _ nz=>⟨zs3,fun l1 hl1=>?_⟩;have s2:=Je (o:=HO.lst [V.str "ann",V.str "",V.str "bo"]) hl1;refine⟨zs3,fun l2 hl2=>?_⟩;have s3:=Je (o:=HO.lst [V.str "ann",V.str "ann lee",V.str "Ann ~"]) hl2;refine⟨zs2,fun lm hlm=>?_⟩;have s4:=Je (o:=HO.lst [V.ref l1,V.ref l2]) hlm;have e1:=s4 _ _ (s3 _ _ (Ja (H:=upd H p (HO.lst ((ns.take 1).map V.int))) (a:=l1) (o:=HO.lst [V.str "ann",V.str "",V.str "bo"])));have e2:=s4 _ _ (Ja (H:=upd (upd H p (HO.lst ((ns.take 1).map V.int))) l1 (HO.lst [V.str "ann",V.str "",V.str "bo"])) (a:=l2) (o:=HO.lst [V.str "ann",V.str "ann lee",V.str "Ann ~"]));have em:_=some (HO.lst [V.ref l1,V.ref l2]):=Ja (H:=upd (upd (upd H p (HO.lst ((ns.take 1).map V.int))) l1 (HO.lst [V.str "ann",V.str "",V.str "bo"])) l2 (HO.lst [V.str "ann",V.str "ann lee",V.str "Ann ~"])) (a:=lm);have n1:=s1.free hl1;have n2:=(s1.trans s2).free hl2;have nm:=((s1.trans s2).trans s3).free hlm;have s5:=((s1.trans s2).trans s3).trans s4;clear s1 s2 s3 s4 hl1 hl2 hlm hp;generalize upd (upd (upd (upd H p (HO.lst ((ns.take 1).map V.int))) l1 (HO.lst [V.str "ann",V.str "",V.str "bo"])) l2 (HO.lst [V.str "ann",V.str "ann lee",V.str "Ann ~"])) lm (HO.lst [V.ref l1,V.ref l2])=H1 at e1 e2 em s5 ⊢
  have lx:∀n:Int,0<=n->n<=40->(Txt.mul "x" n).length<=40:=fun n h0 h1=>by
   have:=JrY h0;omega
  have lsz:(41:Nat)+40<=B2:=by rw[sizeLine_eq];omega
  refine nz fun _ nz=>⟨.inl ⟨rfl,_,SqL.of em⟩,_,_,rfl,rfl,Jjg (by decide) (by decide),?_⟩;refine⟨_,_,rfl,rfl,Jjg p0 (by omega),_,_,rfl,rfl,?_,_,_,rfl,rfl,Jjg (by omega) (by omega),_,_,rfl,rfl,?_,zs3,fun l3 hl3=>?_⟩
  .have:=lx _ p0 (by omega);show(Txt.mul "x" ((ns.take 1).sum/21%40)).length+1<=B2;omega
  .have:=lx _ p0 (by omega);have:=lx (39-(ns.take 1).sum/21%40) (by omega) (by omega);rw[Str.length_append];show(Txt.mul "x" ((ns.take 1).sum/21%40)).length+1+(Txt.mul "x" (39-(ns.take 1).sum/21%40)).length<=B2;omega
  have s6:=Je (o:=HO.lst [V.str "ann",V.str (Txt.mul "x" 40),V.str (Txt.mul "x" ((ns.take 1).sum/21%40)++"y"++Txt.mul "x" (39-(ns.take 1).sum/21%40))]) hl3;have n3:=s5.free hl3;refine⟨lm,_,_,rfl,rfl,s6 _ _ em,(by show 2<B2;decide),?_⟩;have s7:=JR (o:=HO.lst ([V.ref l1,V.ref l2]++[V.ref l3])) (s5.trans s6) nm;have ne1:l1≠lm:=Jac e1 em (by intro z;cases z);have ne2:l2≠lm:=Jac e2 em (by intro z;cases z);have ne3:l3≠lm:=(Ji em hl3).symm;refine nz ⟨a,_,rfl,s7.seq ha,fun p2 hp2=>?_⟩;rw[Jrt];have s8:=Je (o:=HO.lst ((ns.take 1).map V.int)) hp2;have hm:=s8 _ _ (Ja (H:=upd H1 l3 (HO.lst [V.str "ann",V.str (Txt.mul "x" 40),V.str (Txt.mul "x" ((ns.take 1).sum/21%40)++"y"++Txt.mul "x" (39-(ns.take 1).sum/21%40))])) (a:=lm) (o:=HO.lst ([V.ref l1,V.ref l2]++[V.ref l3])));have q1:=s8 _ _ ((Jf (o:=HO.lst ([V.ref l1,V.ref l2]++[V.ref l3])) ne1).trans (s6 _ _ e1));have q2:=s8 _ _ ((Jf (o:=HO.lst ([V.ref l1,V.ref l2]++[V.ref l3])) ne2).trans (s6 _ _ e2));have q3:=s8 _ _ ((Jf (o:=HO.lst ([V.ref l1,V.ref l2]++[V.ref l3])) ne3).trans Ja);refine⟨p2,ns.take 1,rfl,SqL.of Ja,⟨by decide,by decide⟩,(by show(0:Int)<3;decide),?_⟩
  have m3:(ns.take 1).sum/7%3=0\/(ns.take 1).sum/7%3=1\/(ns.take 1).sum/7%3=2:=by omega
  have s9:=s7.trans s8
  rcases m3 with h|h|h
  .refine⟨lm,_,_,.ref l1,rfl,rfl,SqL.of hm,by rw[h];rfl,k l1 _ s9 n1 ?_⟩;unfold Jv JbN;rw[if_pos h];exact q1
  .refine⟨lm,_,_,.ref l2,rfl,rfl,SqL.of hm,by rw[h];rfl,k l2 _ s9 n2 ?_⟩;unfold Jv JbN;rw[if_neg (by omega),if_pos h];exact q2
  .refine⟨lm,_,_,.ref l3,rfl,rfl,SqL.of hm,by rw[h];rfl,k l3 _ s9 n3 ?_⟩;unfold Jv JbN;rw[if_neg (by omega),if_neg (by omega)];exact q3
inductive Jmx(vs:List V)(H:Hp)(Q:VK):Prop
 | mk (n:Int) (a:Addr) (bs:List Bd) (h1:vs=[.int n,.ref a]) (h2:Jr8 H n a bs) (h3:Q (.int (lv n 0 bs)) H):Jmx vs H Q
noncomputable def Ji7:Sp:=fun vs H Q _=>Jmx vs H Q
theorem Jnx{f:Addr}{fd:FuncData}(F:Fun K "_law_value" "_law_value" JdL f fd)(Z:Zs mg):YO P w K mg base CX0 1 f fd ["_law_amount", "_law_bands"] Ji7:=by
 refine F.ok Jab (fun vs H Q E h=>?_) (fun cdv A outer s0 H vs Q E hr h=>?_)
 .obtain⟨n,a,bs,rfl,_⟩ :=h;rfl
 .obtain⟨n,a,bs,rfl,c,k⟩ :=h
  refine⟨_,(Jd (Jl 2 Jab.nd Jb)
   (Jd (Jl 3 Jab.nd Jb)
   (Jd (Jam PassesOwn.never rfl (JfE (pw 1)) (JeK rfl (YA (JH (i:=4) Jab.nd rfl (Or.inl rfl)) (YA (JH (i:=5) Jab.nd rfl (Or.inl rfl)) JcL))) (Jd (Jl 6 Jab.nd (Jp (Jbd rfl) (by rfl) Z.z_max JdS (Jc Jb (pa1 (Jk JW (pw 0) (pw 3))))))
   (JaO (JL (JaN (JcN (pw 4))) (Jd (Jl 6 Jab.nd (Jp (Jcy rfl) (by rfl) Z.z_min JhL (Jc (pw 6) (pa1 (Jk JW (pw 4) (pw 3))))))
   (Jg (Jl 3 Jab.nd (pw 4)))) Jr)
   (Jg (Jl 2 Jab.nd (Jk JF (pw 2) (Jk J7 (pw 6) (pw 5))))))))
   (Jg (Jn (pw 2)))))),fun _ nz=>nz fun _ nz=>nz fun _ nz=>?_⟩
  obtain⟨ps,ha,hpl,hp⟩ :=c.at_;have hc1:=c.n1;have hc0:=c.n0;refine⟨a,rfl,⟨_,SqT.of ha⟩,?_⟩
  refine JfD (K:=K) (xs:=ps.map V.ref) (fun i σ H2=>∃(tot low:Int)(v4 v5 v6:Option V),σ=[some (.int n),some (.ref a),some (.int tot),some (.int low),v4,v5,v6]/\H=H2/\0<=low/\(i=bs.length\/Wf low (bs.drop i))/\tot+lv n low (bs.drop i)=lv n 0 bs)
   ⟨0,0,none,none,none,rfl,rfl,Int.le_refl 0,.inr c.wf,by rw[Int.zero_add];rfl⟩ (fun _ _ _ _ ⟨_,_,_,_,_,_,e,_⟩ =>by rw[<- e];exact SqT.of ha) ?_ ?_
  .rintro i y σ H2 hi ⟨tot,low,v4,v5,v6,rfl,rfl,hlow,hwf,htot⟩;rw[Aq]at hi;obtain⟨p,hpp,rfl⟩ :=B1.mp hi;have hil:i<bs.length:=hpl ▸ (A6.mp hpp).1;obtain⟨b,hb⟩:∃b,bs[i]?=some b:=⟨bs[i],A3 hil⟩;have hpt:=hp i p b hpp hb;obtain⟨e0,e1⟩ :=c.each b (B9 hb)
   have hw:Wf low (bs.drop i):=by
    rcases hwf with h|h
    .omega
    .exact h
   rw[JcQ hb]at hw htot;obtain⟨bu,be⟩ :=b;have e0:0<=be:=e0;have e1:be<10^62:=e1;refine⟨p,_,rfl,SqT.of hpt,rfl,_,_,rfl,_,_,rfl,rfl,fun _ ny=>?_⟩;refine⟨0,_,rfl,?_⟩
   have hm:0<=mx 0 (n-low)/\mx 0 (n-low)<=n:=by unfold mx;split<;>omega
   refine ny ⟨fun σ' H'=>∃(pt low':Int),σ'=[some (.int n),some (.ref a),some (.int tot),some (.int low'),some (oV bu),some (.int be),some (.int pt)]/\H=H'/\0<=low'/\(i+1=bs.length\/Wf low' (bs.drop (i+1)))/\0<=pt/\pt<=n/\tot+(pt*be+lv n low' (bs.drop (i+1)))=lv n 0 bs,?_,?_⟩
   .refine⟨_,rfl,?_⟩
    cases bu with
    | none=>
     refine JT (fun h=>absurd h (show¬(!decide (V.non=V.non))=true by decide)) (fun _=>?_);refine⟨mx 0 (n-low),low,rfl,rfl,hlow,.inl ?_,hm.1,hm.2,htot⟩;have hr:bs.drop (i+1)=[]:=hw;have:=congrArg List.length hr;rw[List.length_drop,List.length_nil]at this;omega
    | some u=>
     have hu:low<u:=hw.1;refine JT (fun _=>fun _ nq=>?_) (fun h=>absurd (JjE u) h);refine⟨mx 0 (n-low),u-low,rfl,nq ?_⟩;refine⟨mn (mx 0 (n-low)) (u-low),u,rfl,rfl,by omega,.inr hw.2,?_,?_,htot⟩
     .unfold mn;split<;>omega
     .unfold mn;split<;>omega
   .rintro σ' H' ⟨pt,low',rfl,rfl,hlow',hwf',q0,q1,htot'⟩;refine⟨.inr ⟨Jgc q0 (by omega),Jgc e0 (by omega)⟩,?_⟩;exact⟨tot+pt*be,low',_,_,_,rfl,rfl,hlow',hwf',by omega⟩
  .rintro σ H2 ⟨tot,low,v4,v5,v6,rfl,rfl,hlow,hwf,htot⟩;rw[A2,hpl,List.drop_length]at htot
   have e:tot=lv n 0 bs:=by simpa[lv]using htot
   refine nz ?_;rw[e];exact k
inductive Joq(vs:List V)(H:Hp)(Q:VK):Prop
 | mk (pay:Int) (t:Addr) (bs:List Bd) (top per:Int) (h1:vs=[.int pay,.ref t]) (h2:Jsn H t pay bs top per) (h3:Q (.int (due pay bs top per)) H):Joq vs H Q
noncomputable def JoF:Sp:=fun vs H Q _=>Joq vs H Q
theorem Jo1{f f1:Addr}{fd fd1:FuncData}(F:Fun K "_law_owed" "_law_owed" Je9 f fd)(Z:Zs mg)(Jb9:JI P w K mg base "_law_value" ["_law_amount", "_law_bands"] Ji7 1 f1 fd1):YO P w K mg base CX0 2 f fd ["_law_pay", "_law_table"] JoF:=by
 refine F.ok Jh0 (fun vs H Q E h=>?_) (fun cdv A outer s0 H vs Q E hr h=>?_)
 .obtain⟨a,b,c,d,e,rfl,_⟩ :=h;rfl
 .obtain⟨pay,t,bs,top,per,rfl,⟨⟨a,ht,c⟩,p0,p1⟩,k⟩ :=h
  refine⟨_,(Jd (Jl 2 Jh0.nd (Jp (Jbd rfl) (by rfl) Z.z_max JdS (Jc Jb (pa1 (Jk JW (Ju Js (pw 1) Jb (fun _ _=>rfl)) (Jk YU (pw 0) (Ju Js (pw 1) Jb (fun _ _=>rfl))))))))
   (Jg (Jn (Jp (Jbd rfl) (by rfl) Z.z_max JdS (Jc Jb (pa1 (Jk JW (Jk YU (Jo Jb9 (hr.mono (by decide)) (Jc (pw 0) (pa1 (Ju Js (pw 1) Jb (fun _ _=>rfl))))) Jb) (pw 2)))))))),fun _ nz=>?_⟩
  refine⟨t,_,1,.int top,rfl,rfl,SqT.of ht,Jh (j:=1) rfl,t,_,2,.int per,rfl,rfl,SqT.of ht,Jh (j:=2) rfl,⟨p0,Jgc (by omega) (by omega)⟩,0,_,rfl,?_⟩;exact nz ⟨t,_,0,.ref a,rfl,rfl,SqT.of ht,Jh (j:=0) rfl,pay,a,bs,rfl,c,⟨by decide,by decide⟩,0,_,rfl,k⟩
inductive JmI(vs:List V)(H:Hp)(Q:VK):Prop
 | mk (d:Addr) (w:Int) (kvs:List (Key×V)) (ks:List Int) (h1:vs=[.ref d,.int w]) (h2:H d=some (.dK kvs)) (h3:kvs.map (·.1)=ks.map Az) (h4:∀H',JX H H'->(YX w none ks=none->Q .non H')/\∀k v,YX w none ks=some k->Jau kvs (Az k)=some v->Q v H'):JmI vs H Q
noncomputable def Jjs:Sp:=fun vs H Q _=>JmI vs H Q
theorem JqH{kvs:List (Key×V)}{ks:List Int}(hk:kvs.map (·.1)=ks.map Az){n:Int}(h:n∈ks):∃v,Jau kvs (Az n:Key)=some v:=by
 have m:(Az n:Key)∈kvs.map (·.1):=by rw[hk];exact Bw.mpr ⟨n,h,rfl⟩
 obtain⟨p,hp,e⟩ :=Bw.mp m;have q:(kvs.any fun kv=>decide (kv.1=(Az n:Key)))=true:=List.any_eq_true.mpr ⟨p,hp,decide_eq_true e⟩;rw[Jcg]at q;exact Option.isSome_iff_exists.mp q
theorem Jhi{w:Int}:∀{ks:List Int}{b:Option Int}{k:Int},YX w b ks=some k->b=some k\/k∈ks
 | [],b,k,h=>by
  cases b<;>exact .inl h
 | p::r,none,k,h=>by
  have h:YX w (if p<=w then some p else none) r=some k:=h
  rcases Jhi h with e|e
  .split at e
   .exact .inr (by rw[Option.some.inj e];exact Aj)
   .cases e
  .exact .inr (List.mem_cons_of_mem _ e)
 | p::r,some c,k,h=>by
  have h:YX w (if p<=w/\c<p then some p else some c) r=some k:=h
  rcases Jhi h with e|e
  .split at e
   .exact .inr (by rw[Option.some.inj e];exact Aj)
   .exact .inl e
  .exact .inr (List.mem_cons_of_mem _ e)
theorem JnO{f:Addr}{fd:FuncData}(F:Fun K "_law_holds" "_law_holds" Jea f fd)(Z:Zs mg):YO P w K mg base CX0 1 f fd ["_law_tables", "_law_when"] Jjs:=by
 refine F.ok Jc7 (fun vs H Q E h=>?_) (fun cdv A outer s0 H vs Q E hr h=>?_)
 .obtain⟨_,_,_,_,rfl,_⟩ :=h;rfl
 .obtain⟨d,w,kvs,ks,rfl,hd,hk,q⟩ :=h;have hu:=JbB hr
  refine⟨_,(Jd (Jl 2 Jc7.nd JcD)
   (Jd (Jam PassesOwn.never rfl (Ja5 (YK (Jkx rfl) (by rfl) Z.z_list JbT (pa1 (pw 0)))) (JH (i:=3) Jc7.nd rfl (Or.inl rfl)) (Jg (JL (PW.pt (Jcu (Jq JfB (pw 3) (pw 1) (Jx _)) (Jbe (PW.pt (JbI (JaN (JcT (pw 2))) (JaX (Jq Jfj (pw 3) (pw 2) (Jx _)))))))) (Jg (Jl 2 Jc7.nd (pw 3))) Jr)))
   (Jd (JL (JaN (JcT (pw 2))) (Jg (Jn JcD)) Jr)
   (Jg (Jn (J6 hu (pw 0) (pw 2) (fun _ _=>rfl))))))),fun _ nz=>nz fun _ nz=>?_⟩
  refine⟨d,kvs,rfl,.inl hd,fun l hl=>?_⟩;have s1:=Je (o:=HO.lst (kvs.map fun p=>kV p.1)) hl
  have hm:(kvs.map fun p=>kV p.1)=ks.map V.int:=by
   rw[show(kvs.map fun p=>kV p.1)=(kvs.map (·.1)).map kV by rw[List.map_map];rfl,hk,List.map_map];rfl
  have hl1:upd H l (HO.lst (kvs.map fun p=>kV p.1)) l=some (.lst (ks.map V.int)):=by rw[Ja,hm]
  have hd1:=s1 _ _ hd;generalize upd H l (HO.lst (kvs.map fun p=>kV p.1))=H1 at s1 hl1 hd1 ⊢;refine⟨l,rfl,⟨_,SqL.of hl1⟩,?_⟩
  refine JbO (K:=K) (xs:=ks.map V.int) (fun i σ H2=>∃(b:Option Int)(v3:Option V),σ=[some (.ref d),some (.int w),some (oV b),v3]/\H1=H2/\YX w b (ks.drop i)=YX w none ks)
   ⟨none,none,rfl,rfl,rfl⟩ (fun _ _ _ _ ⟨_,_,_,e,_⟩ =>by rw[<- e];exact SqL.of hl1) ?_ ?_
  .rintro i y σ H2 hi ⟨b,v3,rfl,rfl,hb⟩;rw[Aq]at hi;obtain⟨n,hn,rfl⟩ :=B1.mp hi;rw[JcQ hn]at hb;refine⟨_,rfl,?_⟩;refine JT (fun h1=>?_) (fun h1=>?_)
   .have h1:=of_decide_eq_true h1;refine⟨_,rfl,?_⟩
    cases b with
    | none=>
     refine JT (fun _=>?_) (fun h=>absurd (decide_eq_true rfl) h);refine JfH ?_;refine⟨some n,_,rfl,rfl,?_⟩;have hb:YX w (if n<=w then some n else none) (ks.drop (i+1))=YX w none ks:=hb;rw[if_pos h1]at hb;exact hb
    | some c=>
     have hb:YX w (if n<=w/\c<n then some n else some c) (ks.drop (i+1))=YX w none ks:=hb;refine JT (fun h=>absurd (of_decide_eq_true h) (fun z=>nomatch z)) (fun _=>?_);refine⟨_,rfl,?_⟩;refine JT (fun h2=>?_) (fun h2=>?_)
     .have h2:=of_decide_eq_true h2;rw[if_pos ⟨h1,h2⟩]at hb;exact⟨some n,_,rfl,rfl,hb⟩
     .rw[if_neg (fun z=>h2 (decide_eq_true z.2))]at hb;exact⟨some c,_,rfl,rfl,hb⟩
   .refine JcM ?_;refine⟨b,_,rfl,rfl,?_⟩;have h1:¬n<=w:=fun z=>h1 (decide_eq_true z)
    cases b with
    | none=>
     have hb:YX w (if n<=w then some n else none) (ks.drop (i+1))=YX w none ks:=hb;rw[if_neg h1]at hb;exact hb
    | some c=>
     have hb:YX w (if n<=w/\c<n then some n else some c) (ks.drop (i+1))=YX w none ks:=hb;rw[if_neg (fun z=>h1 z.1)]at hb;exact hb
  .rintro σ H2 ⟨b,v3,rfl,rfl,hb⟩;rw[A2,List.drop_length]at hb;obtain⟨q1,q2⟩ :=q H1 s1;refine nz fun _ nz=>⟨_,rfl,?_⟩
   cases b with
   | none=>
    refine JT (fun _=>?_) (fun h=>absurd (decide_eq_true rfl) h);exact q1 hb.symm
   | some c=>
    refine JT (fun h=>absurd (of_decide_eq_true h) (fun z=>nomatch z)) (fun _=>nz ?_);have hb:YX w none ks=some c:=hb.symm
    have hc:c∈ks:=by
     rcases Jhi hb with e|e
     .cases e
     .exact e
    obtain⟨v,hv⟩ :=JqH hk hc;exact⟨d,v,rfl,by rw[<- hv];exact Jbc.k (k:=Az c) hd1,q2 c v hb hv⟩
inductive Jm7(vs:List V)(H:Hp)(Q:VK):Prop
 | mk (st:Addr) (A:LSt) (b:Int) (ms:List Int) (B:Bk) (who:Str) (week:Int) (h1:vs=[.ref st,.str who,.int week]) (h2:Jog H st A b ms) (h3:JoC H A ms B) (h4:Jq1 B) (h5:∀H',JX H H'->Q (.int (wages B who week)) H'):Jm7 vs H Q
noncomputable def Jjl:Sp:=fun vs H Q _=>Jm7 vs H Q
theorem Jju{bs:List Bd}{m:Option Int}(h:Jbo m bs=true)(g:Jbl bs):∀b∈bs,0<=b.2/\b.2<10^62:=fun b hb=>by
 have h0:=(Jco h).2 b hb;have h1:=g.each b hb;constructor
 .exact h0
 .omega
theorem Jn7{f f1 f2:Addr}{fd fd1 fd2:FuncData}(F:Fun K "_law_wages" "_law_wages" Jd9 f fd)(Z:Zs mg)(Jb0:JI P w K mg base "_law_holds" ["_law_tables", "_law_when"] Jjs 1 f1 fd1)
  (Jb9:JI P w K mg base "_law_value" ["_law_amount", "_law_bands"] Ji7 1 f2 fd2):YO P w K mg base CX0 2 f fd ["_law_state", "_law_who", "_law_week"] Jjl:=by
 refine F.ok Jb7 (fun vs H Q E h=>?_) (fun cdv A outer s0 H vs Q E hr h=>?_)
 .obtain⟨_,_,_,_,_,_,_,rfl,_⟩ :=h;rfl
 .obtain⟨st,L,b,ms,B,who,week,rfl,hst,hbk,hok,k⟩ :=h;have hu:=JbB hr
  refine⟨_,(Jd (Jl 3 Jb7.nd Jb)
   (Jd (Jam PassesOwn.never rfl (Jig rfl Z.z_range (Jc (Jk J7 Jb (pw 2)) (pa1 (Jk JF (Jk J7 Jb (pw 2)) Jb)))) (JH (i:=4) Jb7.nd rfl (Or.inl rfl)) (Jg (Jl 3 Jb7.nd (Jk JF (pw 3) (Y9 hu (J6 hu (pw 0) Jt (fun _ _=>rfl)) (J2 (Jc (pw 1) (pa1 (pw 4)))) Jb (by constructor<;>rfl))))))
   (Jd (Jl 5 Jb7.nd (Jo Jb0 (hr.mono (by decide)) (Jc (J6 hu (pw 0) Jt (fun _ _=>rfl)) (pa1 (pw 2)))))
   (Jd (JL (JaN (JcT (pw 5))) (Jg (Jn Jb)) Jr)
   (Jg (Jn (Jo Jb9 (hr.mono (by decide)) (Jc (pw 3) (pa1 (pw 5)))))))))),fun _ nz=>nz fun _ nz=>?_⟩
  refine⟨.inl (.inl ⟨by decide,by decide⟩),.inl (.inl ⟨by decide,by decide⟩),7*week,7*week+7,rfl,?_⟩;rw[show(7*week+7-7*week).toNat=7 by omega]
  refine Jb1 (n:=7) (fun i σ H2=>∃v4:Option V,σ=[some (.ref st),some (.str who),some (.int week),some (.int (((List.range i).map fun j:Nat=>B.hrs who (7*week+j)).sum)),v4,none]/\JX H H2)
   ⟨none,rfl,fun _ _ e=>e⟩ ?_ ?_
  .rintro i σ H2 hi ⟨v4,rfl,s1⟩;obtain⟨kvs,e0,eh,_⟩ :=(hst.same s1).kvs;obtain⟨hvs,e1,rh⟩ :=(hbk.same s1).hours;refine⟨st,.ref L.hours,rfl,by rw[<- eh];exact Jbc.k (k:=A8 "hours") e0,L.hours,rfl,.inr ⟨hvs,.inl e1⟩,zs2,fun t ht=>?_⟩;have s2:=Je (o:=HO.tup [V.str who,V.int (7*week+(i:Int))]) ht;refine⟨_,Jbc.t (k:=[A8 who,Az (7*week+(i:Int))]) (s2 _ _ e1) Ja,?_⟩;rw[rh];refine⟨some (.int (7*week+(i:Int))),?_,s1.trans s2⟩;rw[List.range_succ,B4,List.sum_append];simp only[List.map_cons,List.map_nil,List.sum_cons,List.sum_nil,Int.add_zero];rfl
  .rintro σ H2 ⟨v4,rfl,s1⟩;obtain⟨kvs,e0,_,er,_⟩ :=(hst.same s1).kvs;obtain⟨rvs,e1,rr⟩ :=(hbk.same s1).rates;refine nz fun _ nz=>⟨st,.ref L.rates,rfl,by rw[<- er];exact Jbc.k (k:=A8 "rates") e0,L.rates,week,rvs,B.rates.map (·.1),rfl,e1,JbA rr,fun H3 s2=>⟨fun hn=>?_,fun kk v hk hv=>?_⟩⟩
   .refine nz fun _ nz=>⟨_,rfl,?_⟩;refine JT (fun _=>?_) (fun h=>absurd (decide_eq_true rfl) h);have:=k H3 (s1.trans s2);unfold wages at this;rw[Jd6 hn]at this;exact this
   .obtain⟨bs,g,⟨a,rfl,hb⟩,hm⟩ :=Jd0 rr hv;obtain⟨c1,c2⟩ :=hok.rates _ hm;refine nz fun _ nz=>⟨_,rfl,?_⟩;refine JT (fun h=>absurd (of_decide_eq_true h) (fun z=>nomatch z)) (fun _=>nz ?_);have hw:=JfW (hok.hrs who) week;have hl:bs.length<=14:=c2.len;refine⟨_,a,bs,rfl,⟨hb.same s2,(Jco c1).1,by omega,Jju c1 c2,hw.1,Int.lt_of_le_of_lt hw.2 (by decide)⟩,?_⟩;have:=k H3 (s1.trans s2);unfold wages at this;rw[Jd1 hk g]at this;exact this
theorem Jjr{B:Bk}(hok:Jq1 B)(who:Str)(week:Int):0<=wages B who week/\wages B who week<=10^62*168:=by
 unfold wages
 cases h:JeU B.rates week with
 | none=>exact⟨Int.le_refl _,show(0:Int)<=10^62*168 by decide⟩
 | some bs=>
  have hm:∃kk,(kk,bs)∈B.rates:=by
   unfold JeU at h;obtain⟨kk,_,g⟩ :=Option.bind_eq_some_iff.mp h;unfold YB at g;obtain⟨p,hp,rfl⟩ :=B1.mp g;exact⟨p.1,List.mem_of_find?_eq_some hp⟩
  obtain⟨kk,hm⟩ :=hm;obtain⟨c1,c2⟩ :=hok.rates _ hm;have hw:=JfW (hok.hrs who) week
  obtain⟨q1,q2⟩ :=JpC (10^62) (by decide) bs (Jhx (B.hrs who) week) 0 (Jco c1).1 fun b hb=>let ⟨z1,z2⟩ :=Jju c1 c2 b hb;⟨z1,Int.le_of_lt z2⟩
  have e:mx 0 (Jhx (B.hrs who) week-0)=Jhx (B.hrs who) week:=by unfold mx;split<;>omega
  rw[e]at q2;exact⟨q1,Int.le_trans q2 (Int.mul_le_mul_of_nonneg_left hw.2 (by decide))⟩
inductive Jqj(vs:List V)(H:Hp)(Q:VK):Prop
 | mk (st:Addr) (A:LSt) (b:Int) (ms:List Int) (B:Bk) (who:Str) (month last:Int) (h1:vs=[.ref st,.str who,.int month,.int last]) (h2:Jog H st A b ms) (h3:JoC H A ms B) (h4:Jq1 B) (h5:∀H',JX H H'->Q (.int (netS B who month last)) H'):Jqj vs H Q
noncomputable def JpB:Sp:=fun vs H Q _=>Jqj vs H Q
theorem Jri{f f1 f2 f3:Addr}{fd fd1 fd2 fd3:FuncData}(F:Fun K "_law_net" "_law_net" JgS f fd)(Z:Zs mg)(Jb0:JI P w K mg base "_law_holds" ["_law_tables", "_law_when"] Jjs 1 f1 fd1)
  (JbC:JI P w K mg base "_law_wages" ["_law_state", "_law_who", "_law_week"] Jjl 2 f2 fd2) (JgZ:JI P w K mg base "_law_owed" ["_law_pay", "_law_table"] JoF 2 f3 fd3):YO P w K mg base CX0 3 f fd ["_law_state", "_law_who", "_law_month", "_law_last"] JpB:=by
 refine F.ok JdP (fun vs H Q E h=>?_) (fun cdv A outer s0 H vs Q E hr h=>?_)
 .obtain⟨_,_,_,_,_,_,_,_,rfl,_⟩ :=h;rfl
 .obtain⟨st,L,b,ms,B,who,month,last,rfl,hst,hbk,hok,k⟩ :=h;have hu:=JbB hr
  refine⟨_,(Jd (Jl 4 JdP.nd Jb)
   (Jd (Jam PassesOwn.never rfl (Jig rfl Z.z_range (Jc (Jk J7 Jb (pw 2)) (pa1 (Jk JF (Jk J7 Jb (pw 2)) Jb)))) (JH (i:=5) JdP.nd rfl (Or.inl rfl)) (Jg (JL (Jq JfB (pw 5) (pw 3) (Jx _)) (Jg (Jl 4 JdP.nd (Jk JF (pw 4) (Jo JbC (hr.mono (by decide)) (Jc (pw 0) (Jc (pw 1) (pa1 (pw 5)))))))) Jr)))
   (Jd (Jl 6 JdP.nd (Jo Jb0 (hr.mono (by decide)) (Jc (J6 hu (pw 0) Jt (fun _ _=>rfl)) (pa1 (pw 2)))))
   (Jd (JL (JaN (JcT (pw 6))) (Jg (Jn (pw 4))) Jr)
   (Jg (Jn (Jk JW (pw 4) (Jo JgZ (hr.mono (by decide)) (Jc (pw 4) (pa1 (pw 6))))))))))),fun _ nz=>nz fun _ nz=>?_⟩
  refine⟨.inl (.inl ⟨by decide,by decide⟩),.inl (.inl ⟨by decide,by decide⟩),4*month,4*month+4,rfl,?_⟩;rw[show(4*month+4-4*month).toNat=4 by omega]
  refine Jb1 (n:=4) (fun i σ H2=>∃(pay:Int)(v5:Option V),σ=[some (.ref st),some (.str who),some (.int month),some (.int last),some (.int pay),v5,none]/\JX H H2/\
    pay=(((List.range i).map fun j:Nat=>if 4*month+(j:Int)<=last then wages B who (4*month+j)else 0).sum)/\0<=pay/\pay<=10^62*168*i)
   ⟨0,none,rfl,fun _ _ e=>e,rfl,Int.le_refl _,by simp⟩ ?_ ?_
  .rintro i σ H2 hi ⟨pay,v5,rfl,s1,hp,p0,p1⟩;obtain⟨w0,w1⟩ :=Jjr hok who (4*month+(i:Int))
   have nx:∀z:Int,z=(if 4*month+(i:Int)<=last then wages B who (4*month+i)else 0)->pay+z=(((List.range (i+1)).map fun j:Nat=>if 4*month+(j:Int)<=last then wages B who (4*month+j)else 0).sum):=fun z hz=>by
    rw[List.range_succ,B4,List.sum_append,<- hp,hz];simp only[List.map_cons,List.map_nil,List.sum_cons,List.sum_nil,Int.add_zero]
   refine⟨_,rfl,?_⟩;refine JT (fun h1=>?_) (fun h1=>?_)
   .have h1:4*month+(i:Int)<=last:=of_decide_eq_true h1;refine⟨st,L,b,ms,B,who,_,rfl,hst.same s1,hbk.same s1,hok,fun H3 s2=>?_⟩;refine⟨pay+wages B who (4*month+i),_,rfl,s1.trans s2,nx _ (by rw[if_pos h1]),by omega,?_⟩;push_cast;omega
   .have h1:¬4*month+(i:Int)<=last:=fun z=>h1 (decide_eq_true z);refine⟨pay,_,rfl,s1,?_,p0,?_⟩
    .have:=nx 0 (by rw[if_neg h1]);rw[<- this];omega
    .push_cast;omega
  .rintro σ H2 ⟨pay,v5,rfl,s1,hp,p0,p1⟩;have hp:pay=monthP B who month last:=hp;obtain⟨kvs,e0,_,_,ed,_⟩ :=(hst.same s1).kvs;obtain⟨dvs,e1,rr⟩ :=(hbk.same s1).dues;refine nz fun _ nz=>⟨st,.ref L.dues,rfl,by rw[<- ed];exact Jbc.k (k:=A8 "dues") e0,L.dues,month,dvs,B.dues.map (·.1),rfl,e1,JbA rr,fun H3 s2=>⟨fun hn=>?_,fun kk v hk hv=>?_⟩⟩
   .refine nz fun _ nz=>⟨_,rfl,?_⟩;refine JT (fun _=>?_) (fun h=>absurd (decide_eq_true rfl) h);have:=k H3 (s1.trans s2);unfold netS JdZ at this;rw[Jd6 hn,<- hp]at this;exact this
   .obtain⟨t,g,⟨a,c,rfl,ht,hb⟩,hm⟩ :=Jd0 rr hv;obtain⟨c1,c2⟩ :=hok.dues _ hm;obtain⟨bs,top,per⟩ :=t;have c1:(Jbo (some 100) bs&&decide (0<=top)&&decide (1<=per))=true:=c1;rw[Bool.and_eq_true,Bool.and_eq_true]at c1;have hper:=of_decide_eq_true c1.2;have hpb:per.natAbs<10^62:=c2.per;have hl:bs.length<=14:=c2.bands.len;refine nz fun _ nz=>⟨_,rfl,?_⟩;refine JT (fun h=>absurd (of_decide_eq_true h) (fun z=>nomatch z)) (fun _=>nz ?_);refine⟨pay,a,bs,top,per,rfl,⟨⟨c,s2 _ _ ht,hb.same s2,(Jco c1.1.1).1,by omega,Jju c1.1.1 c2.bands,p0,by omega⟩,by omega,by omega⟩,?_⟩;have:=k H3 (s1.trans s2);unfold netS JdZ at this;rw[Jd1 hk g,<- hp]at this;exact this
inductive Jh6(vs:List V)(H:Hp)(Q:VK):Prop
 | mk (st:Addr) (A:LSt) (b:Int) (ms:List Int) (B:Bk) (who:Str) (last:Int) (h1:vs=[.ref st,.str who,.int last]) (h2:Jog H st A b ms) (h3:JoC H A ms B) (h4:Jq1 B) (h5:ms.length<=100) (h6:∀l H',JX H H'->H l=none->H' l=some (.lst (ms.map fun m=>V.int (netS B who m last)))->Q (.ref l) H'):Jh6 vs H Q
noncomputable def JdJ:Sp:=fun vs H Q _=>Jh6 vs H Q
theorem JkT{f f1:Addr}{fd fd1:FuncData}(F:Fun K "_law_all_nets" "_law_all_nets" Jaz f fd)(Z:Zs mg)(Jen:JI P w K mg base "_law_net" ["_law_state", "_law_who", "_law_month", "_law_last"] JpB 3 f1 fd1) :
  YO P w K mg base CX0 4 f fd ["_law_state", "_law_who", "_law_last"] JdJ:=by
 refine F.ok JgJ (fun vs H Q E h=>?_) (fun cdv A outer s0 H vs Q E hr h=>?_)
 .obtain⟨_,_,_,_,_,_,_,rfl,_⟩ :=h;rfl
 .obtain⟨st,L,b,ms,B,who,last,rfl,hst,hbk,hok,hms,k⟩ :=h;have hu:=JbB hr;refine⟨_,(Jg (Jn (JcI ["_law_month", "_law_state", "_law_who", "_law_last"] [none,some 0,some 1,some 2] rfl JcW (Ja5 (J6 hu (pw 0) Jt (fun _ _=>rfl))) (fun _ _ _ _=>(JH (i:=0) JcW.nd rfl (Or.inl rfl) (Or.inr rfl))) (fun _ _ _ _=>JcF) (fun _ _ _ _=>(Jo Jen (hr.mono (by decide)) (Jc (pw 1) (Jc (pw 2) (Jc (pw 0) (pa1 (pw 3)))))))))),?_⟩;obtain⟨kvs,e0,_,_,_,_,_,_,_,em⟩ :=hst.kvs;refine⟨st,.ref L.months,rfl,by rw[<- em];exact Jbc.k (k:=A8 "months") e0,L.months,rfl,⟨_,SqL.of hst.months⟩,fun acc hacc=>?_⟩
  refine JcE (K:=K) (xs:=ms.map V.int) (fun i ys σ' H'=>∃v0:Option V,σ'=[v0,some (.ref st),some (.str who),some (.int last)]/\JX H H'/\H' acc=some (.lst ys)/\ys=(ms.take i).map fun m=>V.int (netS B who m last))
   ⟨none,rfl,Je hacc,Ja,by simp⟩ (fun _ _ _ _ ⟨_,_,s1,_⟩ =>SqL.of (s1 _ _ hst.months)) ?_ ?_
  .rintro i x ys σ' H' hx ⟨v0,rfl,s1,ha,rfl⟩;rw[Aq]at hx;obtain⟨m,hm,rfl⟩ :=B1.mp hx;refine⟨Jy (by rw[A2,B7];omega),?_⟩;dsimp only[JcP,JeS];rw[if_pos rfl];refine⟨st,L,b,ms,B,who,m,last,rfl,hst.same s1,hbk.same s1,hok,fun H3 s2=>⟨s2 _ _ ha,?_⟩⟩;refine⟨_,rfl,JR (s1.trans s2) hacc,Ja,?_⟩;rw[B8,hm,B4];rfl
  .rintro ys σ' H' ⟨v0,rfl,s1,ha,rfl⟩;refine k acc H' s1 hacc ?_;rw[ha,A2,List.take_of_length_le (A5 _)]
inductive JmY(vs:List V)(H:Hp)(Q:VK):Prop
 | mk (a:Addr) (bs:List Bd) (mo:Option Int) (h1:vs=[.ref a,oV mo]) (h2:JG H a bs) (h3:bs.length<=14) (h4:∀H',JX H H'->Q (.bl (Jbo mo bs)) H'):JmY vs H Q
noncomputable def JlZ:Sp:=fun vs H Q _=>JmY vs H Q
theorem Jlz(l:List Bd):(l.map fun b=>oV b.1).all JgW=true:=by
 rw[List.all_map,List.all_eq_true];rintro⟨o,e⟩ _;cases o<;>rfl
theorem JpA(l:List Bd):inV V.non (l.map fun b=>oV b.1)=l.any fun b=>b.1.isNone:=by
 unfold inV;rw[List.any_map];congr 1;funext b;obtain⟨o,e⟩ :=b;cases o<;>rfl
noncomputable def JaR(mo:Option Int)(b:Bd):Bool:=decide (0<=b.2)&&(match mo with|none=>true|some k=>decide (b.2<=k))
theorem JdU{mo:Option Int}{bs:List Bd}:Jbo mo bs=(wfb 0 bs&&bs.all (JaR mo)):=rfl
theorem Jn5{f:Addr}{fd:FuncData}(F:Fun K "_law_can_be" "_law_can_be" Jbv f fd)(Z:Zs mg):YO P w K mg base CX0 1 f fd ["_law_bands", "_law_most"] JlZ:=by
 refine F.ok Jdr (fun vs H Q E h=>?_) (fun cdv A outer s0 H vs Q E hr h=>?_)
 .obtain⟨_,_,_,rfl,_⟩ :=h;rfl
 .obtain⟨a,bs,mo,rfl,hb,hlen,k⟩ :=h;have hu:=JbB hr
  refine⟨_,(Jd (Jdd (i:=2) ["_law_pair"] [none] Jdr.nd rfl (Or.inl rfl) rfl JdR (JfE (pw 0)) (fun _ _ _ _=>(JH (i:=0) JdR.nd rfl (Or.inl rfl) (Or.inr rfl))) (fun _ _ _ _=>JcF) (fun _ _ _ _=>(Ju (show IxR _ (Jot K) from Js) (pw 0) Jb (fun _ _=>rfl))))
   (Jd (JL (PW.pt (JbI (Jq (JmX hu) (pw 2) (Yd JV) (Jx _)) (JbI (JaN (JcN (Ju JK (pw 2) (Jdh (op:=.USub) Jaw Jb) (fun _ _=>rfl)))) (JaX (Jq JfC JcD (YS JbW (pw 2) JaH (YG (Jdh (op:=.USub) Jaw Jb))) (by with_unfolding_all rfl)))))) (Jg (Jn Jbg)) Jr)
   (Jd (JL (PW.pt (JbI (Jq (JqC hu) (YS JbW (pw 2) JaH (YG (Jdh (op:=.USub) Jaw Jb))) (Jp (JeL rfl) (by rfl) Z.z_sorted JfI (pa1 (YK (Jiy rfl) (by rfl) Z.z_set JoI (pa1 (YS JbW (pw 2) JaH (YG (Jdh (op:=.USub) Jaw Jb))))))) (Jx _)) (JaX (PW.pt (Jcu (Jq (JhE hu) (YS JbW (pw 2) JaH (YG (Jdh (op:=.USub) Jaw Jb))) (Yd JV) (Jx _)) (Jbe (Jq JcO (Ju JK (pw 2) Jb (fun _ _=>rfl)) Jb (Jx _)))))))) (Jg (Jn Jbg)) Jr)
   (Jd (Jam PassesOwn.never rfl (JfE (pw 0)) (JH (i:=3) Jdr.nd rfl (Or.inl rfl)) (Jg (JL (PW.pt (JbI (Jq JcO (Ju Js (pw 3) Jb (fun _ _=>rfl)) Jb (Jx _)) (JaX (PW.pt (Jcu (JaN (JcN (pw 1))) (Jbe (Jq Jfj (Ju Js (pw 3) Jb (fun _ _=>rfl)) (pw 1) (Jx _)))))))) (Jg (Jn Jbg)) Jr)))
   (Jg (Jn Jbg)))))),fun _ nz=>?_⟩
  obtain⟨ps,ha,hpl,hp⟩ :=hb;refine⟨a,rfl,⟨_,SqT.of ha⟩,fun acc hacc=>?_⟩
  refine JgY (K:=K) (xs:=ps.map V.ref) (fun i ys σ' H'=>∃v0:Option V,σ'=[v0]/\JX H H'/\H' acc=some (.lst ys)/\ys=(bs.take i).map fun b=>oV b.1)
   ⟨none,rfl,Je hacc,Ja,by simp⟩ (fun _ _ _ _ ⟨_,_,s1,_⟩ =>SqT.of (s1 _ _ ha)) ?_ ?_
  .rintro i x ys σ' H' hx ⟨v0,rfl,s1,hac,rfl⟩;rw[Aq]at hx;obtain⟨p,hpp,rfl⟩ :=B1.mp hx;have hil:i<bs.length:=hpl ▸ (A6.mp hpp).1;obtain⟨b,hb⟩:∃b,bs[i]?=some b:=⟨bs[i],A3 hil⟩;refine⟨Jy (by rw[A2,B7];omega),?_⟩;dsimp only[JcP,JeS];rw[if_pos rfl];refine⟨p,_,0,oV b.1,rfl,rfl,SqT.of (s1 _ _ (hp i p b hpp hb)),Jh (j:=0) rfl,hac,?_⟩;refine⟨_,rfl,JR s1 hacc,Ja,?_⟩;rw[B8,hb,B4];rfl
  .rintro ys σ' H1 ⟨v0,rfl,s1,hac,rfl⟩;rw[A2,hpl,List.take_of_length_le (A5 _)]at hac;refine nz fun _ nz=>⟨(by show 0<=B2;exact Bz _),fun l0 hl0=>?_⟩;have u0:=Je (o:=HO.lst ([]:List V)) hl0;have s2:=s1.trans u0;have hac2:=u0 _ _ hac;refine⟨acc,l0,_,rfl,rfl,SqL.of hac2,SqL.of Ja,_,rfl,?_⟩;generalize upd H1 l0 (HO.lst ([]:List V))=H2 at s2 hac2 ⊢;clear hac s1 u0 hl0
   have no:∀(e:Jbo mo bs=false){H':Hp},JX H H'->Q (.bl false) H':=fun e H' s=>by
    have:=k H' s;rw[e]at this;exact this
   have nowf:wfb 0 bs=false->Jbo mo bs=false:=fun e=>by
    unfold Jbo;rw[e];rfl
   refine JT (fun h0=>?_) (fun h0=>?_)
   .refine JfH ?_;refine no (nowf ?_) s2
    have:bs=[]:=by simpa using h0
    rw[this];rfl
   have hne:bs≠[]:=fun z=>h0 (by rw[z];rfl);have hpos:0<bs.length:=List.length_pos_iff.mpr hne;obtain⟨bl,hbl⟩:∃b,bs[bs.length-1]?=some b:=⟨bs[bs.length-1],A3 (by omega)⟩
   have hat:atI (bs.map fun b=>oV b.1) (-1)=some (oV bl.1):=by
    have e:ixN (bs.map fun b=>oV b.1).length (-1)=some (bs.length-1):=by
     rw[A2];unfold ixN;rw[if_neg (by decide),if_pos (by omega)];congr 1;omega
    unfold atI;rw[e];show(bs.map fun b=>oV b.1)[bs.length-1]?=_;rw[Aq,hbl];rfl
   refine⟨acc,_,_,oV bl.1,rfl,rfl,SqL.of hac2,hat,_,rfl,?_⟩
   have lastN:wfb 0 bs=true->bl.1=none:=fun z=>by
    obtain⟨us,e⟩ :=Jg9 z
    have h1:(bs.map (·.1))[bs.length-1]?=some bl.1:=by rw[Aq,hbl];rfl
    have h2:bs.length=us.length+1:=by
     have:=congrArg List.length e;simpa using this
    rw[e,h2,Nat.add_sub_cancel,Bj (by simp)]at h1;simp at h1;exact h1.symm
   refine JT (fun h1=>?_) (fun h1=>?_)
   .refine JfH ?_;refine no (nowf ?_) s2
    cases hw:wfb 0 bs with
    | false=>rfl
    | true=>
     rw[lastN hw]at h1;exact absurd h1 (show¬(!decide (V.non=V.non))=true by decide)
   have hl:bl.1=none:=by
    cases e:bl.1 with
    | none=>rfl
    | some u=>
     rw[e]at h1;exact absurd (JjE u) h1
   have cutE:Jf6 (bs.map fun b=>oV b.1) none (some (-1))=(bs.take (bs.length-1)).map fun b=>oV b.1:=by rw[Jnj,A2,List.map_take]
   refine⟨acc,_,rfl,SqL.of hac2,fun p1 hp1=>?_⟩;rw[cutE];have u1:=Je (o:=HO.lst ((bs.take (bs.length-1)).map fun b=>oV b.1)) hp1;refine⟨p1,_,rfl,.inl (SqL.of Ja),rfl,Jlz _,_,rfl,?_⟩;have s3:=s2.trans u1;have hac3:=u1 _ _ hac2;generalize upd H2 p1 (HO.lst ((bs.take (bs.length-1)).map fun b=>oV b.1))=H3 at s3 hac3 ⊢;clear u1 hp1 hac2 s2;rw[JpA];refine JT (fun h2=>?_) (fun h2=>nz fun _ nz=>?_)
   .refine no (nowf ?_) s3
    cases hw:wfb 0 bs with
    | false=>rfl
    | true=>
     exfalso
     obtain⟨us,e⟩ :=Jg9 hw
     have h2:((bs.take (bs.length-1)).any fun b=>b.1.isNone)=true:=by simpa using h2
     obtain⟨b,hb,hn⟩ :=List.any_eq_true.mp h2
     have h3:b.1∈(bs.map (·.1)).take (bs.length-1):=by
      rw[<- List.map_take];exact Bw.mpr ⟨b,hb,rfl⟩
     have h4:bs.length=us.length+1:=by
      have:=congrArg List.length e;simpa using this
     rw[e,h4,Nat.add_sub_cancel,List.take_left' (by simp)]at h3;obtain⟨u,_,hu⟩ :=Bw.mp h3;rw[<- hu]at hn;cases hn
   obtain⟨us,hus⟩:∃us:List Int,(bs.take (bs.length-1)).map (·.1)=us.map some:=by
    have h2:∀b∈bs.take (bs.length-1),b.1.isNone=false:=fun b hb=>by
     cases e:b.1.isNone with
     | false=>rfl
     | true=>exact absurd (List.any_eq_true.mpr ⟨b,hb,e⟩) (fun z=>h2 (by rw[if_neg (by decide)];exact z))
    refine⟨(bs.take (bs.length-1)).map fun b=>b.1.getD 0,?_⟩;rw[List.map_map];refine C7 fun b hb=>?_;have:=h2 b hb
    cases e:b.1 with
    | none=>rw[e]at this;cases this
    | some u=>simp[e]
   have hends:bs.map (·.1)=us.map some++[none]:=by
    have e1:bs=bs.take (bs.length-1)++[bl]:=by
     have:=List.take_append_drop (bs.length-1) bs;rw[JcQ hbl,List.drop_of_length_le (by omega)]at this;exact this.symm
    rw[e1,B4,hus];show _++[bl.1]=_;rw[hl]
   have hint:((bs.take (bs.length-1)).map fun b=>oV b.1)=us.map V.int:=by
    have:((bs.take (bs.length-1)).map fun b=>oV b.1)=((bs.take (bs.length-1)).map (·.1)).map oV:=by rw[List.map_map];rfl
    rw[this,hus,List.map_map];rfl
   have hul:us.length<=14:=by
    have:=congrArg List.length hends;simp at this;omega
   rw[hint]at cutE;clear h1 h2 lastN;refine⟨acc,_,rfl,SqL.of hac3,fun p2 hp2=>?_⟩;rw[cutE];have u2:=Je (o:=HO.lst (us.map V.int)) hp2;refine⟨acc,_,rfl,SqL.of (u2 _ _ hac3),fun p3 hp3=>?_⟩;rw[cutE];have u3:=Je (o:=HO.lst (us.map V.int)) hp3;refine⟨p3,us,rfl,SqL.of Ja,(by unfold scanBound;omega),fun l4 ms so4 hl4 hs4 nd hm=>?_⟩;have u4:=Je (o:=so4) hl4
   have hml:ms.length<64:=by
    have:=nd.length_le_of_subset (l₂:=us) fun z hz=>(hm z).mp hz;omega
   refine⟨l4,ms,so4,rfl,Ja,hs4,hml,fun l5 rs hl5 pm so=>?_⟩;have u5:=Je (o:=HO.lst (rs.map V.int)) hl5;refine⟨p2,l5,us,rs,rfl,rfl,SqL.of (u5 _ _ (u4 _ _ (u3 _ _ Ja))),SqL.of Ja,_,rfl,?_⟩;have s4:=(((s3.trans u2).trans u3).trans u4).trans u5;have hac4:=u5 _ _ (u4 _ _ (u3 _ _ (u2 _ _ hac3)));generalize upd (upd (upd (upd H3 p2 (HO.lst (us.map V.int))) p3 (HO.lst (us.map V.int))) l4 so4) l5 (HO.lst (rs.map V.int))=H4 at s4 hac4 ⊢;clear u2 u3 u4 u5 hp2 hp3 hl4 hl5 hac3 s3;have hsame:=JfP pm nd hm so;have hwf:=JiI (lo:=0) hends;rw[JlU,<- hsame]at hwf;refine JT (fun h3=>?_) (fun h3=>?_)
   .refine JfH ?_;refine no (nowf ?_) s4
    cases hw:wfb 0 bs with
    | false=>rfl
    | true=>
     have:=(hwf.mp hw).1;rw[decide_eq_true this]at h3;exact absurd h3 (by decide)
   have h3:us=rs:=by
    by_cases e:us=rs
    .exact e
    .exact absurd (by rw[decide_eq_false e];rfl) h3
   refine⟨acc,_,rfl,SqL.of hac4,fun p6 hp6=>?_⟩;rw[cutE];have u6:=Je (o:=HO.lst (us.map V.int)) hp6;refine⟨(by show 0<=B2;exact Bz _),fun l7 hl7=>?_⟩;have u7:=Je (o:=HO.lst ([]:List V)) hl7;refine⟨p6,l7,_,rfl,rfl,SqL.of (u7 _ _ Ja),SqL.of Ja,_,rfl,?_⟩;have s5:=(s4.trans u6).trans u7;have hac5:=u7 _ _ (u6 _ _ hac4);generalize upd (upd H4 p6 (HO.lst (us.map V.int))) l7 (HO.lst ([]:List V))=H5 at s5 hac5 ⊢;clear u6 u7 hp6 hl7 hac4 s4;refine JT (fun h4=>?_) (fun h4=>?_)
   .obtain⟨u,r,hur⟩:∃u r,us=u::r:=by
     cases us with
     | nil=>exact absurd h4 (by decide)
     | cons u r=>exact⟨u,r,rfl⟩
    have hat0:atI (bs.map fun b=>oV b.1) 0=some (V.int u):=by
     refine Jh (j:=0) ?_
     have:(bs.map (·.1))[0]?=some (some u):=by rw[hends,hur];rfl
     rw[Aq]at this ⊢;obtain⟨b,hb,e⟩ :=B1.mp this;rw[hb];show some (oV b.1)=_;rw[e];rfl
    refine⟨acc,_,_,.int u,rfl,rfl,SqL.of hac5,hat0,_,rfl,?_⟩;refine JT (fun h5=>?_) (fun h5=>nz fun _ nz=>?_)
    .refine no (nowf ?_) s5
     cases hw:wfb 0 bs with
     | false=>rfl
     | true=>
      have h6:=(hwf.mp hw).2 u (by rw[hur];rfl);have h5:u<1:=of_decide_eq_true h5;omega
    have hw0:wfb 0 bs=true:=hwf.mpr ⟨h3,fun z hz=>by
     rw[hur]at hz;have hz:u=z:=Option.some.inj hz;have h5:¬u<1:=fun y=>h5 (decide_eq_true y)
     omega⟩
    refine⟨a,rfl,⟨_,SqT.of (s5 _ _ ha)⟩,?_⟩
    refine JfD (K:=K) (xs:=ps.map V.ref) (fun i σ H6=>∃v3:Option V,σ=[some (.ref a),some (oV mo),some (.ref acc),v3]/\H5=H6/\∀b∈bs.take i,JaR mo b=true)
     ⟨none,rfl,rfl,by simp⟩ (fun _ _ _ _ ⟨_,_,e,_⟩ =>by rw[<- e];exact SqT.of (s5 _ _ ha)) ?_ ?_
    .rintro i y σ H6 hi ⟨v3,rfl,rfl,hev⟩;rw[Aq]at hi;obtain⟨p,hpp,rfl⟩ :=B1.mp hi;have hil:i<bs.length:=hpl ▸ (A6.mp hpp).1;obtain⟨b,hb⟩:∃b,bs[i]?=some b:=⟨bs[i],A3 hil⟩;have hpt:=s5 _ _ (hp i p b hpp hb)
     have bad:JaR mo b=false->Jbo mo bs=false:=fun z=>by
      rw[JdU]
      cases e:bs.all (JaR mo)with
      | false=>exact Bool.and_false _
      | true=>
       rw[List.all_eq_true.mp e b (B9 hb)]at z;cases z
     have next:JaR mo b=true->∀c∈bs.take (i+1),JaR mo c=true:=fun z c hc=>by
      rw[B8,hb]at hc
      rcases B5.mp hc with hc|hc
      .exact hev c hc
      .rw[A7.mp hc];exact z
     refine⟨p,_,1,.int b.2,rfl,rfl,SqT.of hpt,Jh (j:=1) rfl,_,rfl,?_⟩;refine JT (fun g1=>?_) (fun g1=>?_)
     .refine JfH ?_;refine no (bad ?_) s5;have g1:b.2<0:=of_decide_eq_true g1;unfold JaR;rw[decide_eq_false (by omega)];rfl
     .have g1:¬b.2<0:=fun z=>g1 (decide_eq_true z)
      have g1:0<=b.2:=by omega
      refine⟨_,rfl,?_⟩
      cases mo with
      | none=>
       refine JT (fun h=>absurd h (show¬(!decide (V.non=V.non))=true by decide)) (fun _=>?_);refine JcM ?_;refine⟨_,rfl,rfl,next ?_⟩;unfold JaR;rw[decide_eq_true g1];rfl
      | some m=>
       refine JT (fun _=>?_) (fun h=>absurd (JjE m) h);refine⟨p,_,1,.int b.2,rfl,rfl,SqT.of hpt,Jh (j:=1) rfl,_,rfl,?_⟩;refine JT (fun g2=>?_) (fun g2=>?_)
       .refine no (bad ?_) s5;have g2:m<b.2:=of_decide_eq_true g2;unfold JaR;dsimp only;rw[decide_eq_false (show¬b.2<=m by omega),Bool.and_false]
       .have g2:¬m<b.2:=fun z=>g2 (decide_eq_true z);refine⟨_,rfl,rfl,next ?_⟩;unfold JaR;dsimp only;rw[decide_eq_true g1,decide_eq_true (show b.2<=m by omega)];rfl
    .rintro σ H6 ⟨v3,rfl,rfl,hev⟩;rw[A2,hpl,List.take_of_length_le (A5 _)]at hev;have:=k H5 s5;rw[JdU,hw0,List.all_eq_true.mpr hev]at this;exact nz this
   .have hnil:us=[]:=by
     cases us with
     | nil=>rfl
     | cons u r=>exact absurd rfl h4
    refine JcM ?_;refine nz fun _ nz=>?_;have hw0:wfb 0 bs=true:=hwf.mpr ⟨h3,fun z hz=>by rw[hnil]at hz;cases hz⟩;refine⟨a,rfl,⟨_,SqT.of (s5 _ _ ha)⟩,?_⟩
    refine JfD (K:=K) (xs:=ps.map V.ref) (fun i σ H6=>∃v3:Option V,σ=[some (.ref a),some (oV mo),some (.ref acc),v3]/\H5=H6/\∀b∈bs.take i,JaR mo b=true)
     ⟨none,rfl,rfl,by simp⟩ (fun _ _ _ _ ⟨_,_,e,_⟩ =>by rw[<- e];exact SqT.of (s5 _ _ ha)) ?_ ?_
    .rintro i y σ H6 hi ⟨v3,rfl,rfl,hev⟩;rw[Aq]at hi;obtain⟨p,hpp,rfl⟩ :=B1.mp hi;have hil:i<bs.length:=hpl ▸ (A6.mp hpp).1;obtain⟨b,hb⟩:∃b,bs[i]?=some b:=⟨bs[i],A3 hil⟩;have hpt:=s5 _ _ (hp i p b hpp hb)
     have bad:JaR mo b=false->Jbo mo bs=false:=fun z=>by
      rw[JdU]
      cases e:bs.all (JaR mo)with
      | false=>exact Bool.and_false _
      | true=>
       rw[List.all_eq_true.mp e b (B9 hb)]at z;cases z
     have next:JaR mo b=true->∀c∈bs.take (i+1),JaR mo c=true:=fun z c hc=>by
      rw[B8,hb]at hc
      rcases B5.mp hc with hc|hc
      .exact hev c hc
      .rw[A7.mp hc];exact z
     refine⟨p,_,1,.int b.2,rfl,rfl,SqT.of hpt,Jh (j:=1) rfl,_,rfl,?_⟩;refine JT (fun g1=>?_) (fun g1=>?_)
     .refine JfH ?_;refine no (bad ?_) s5;have g1:b.2<0:=of_decide_eq_true g1;unfold JaR;rw[decide_eq_false (by omega)];rfl
     .have g1:¬b.2<0:=fun z=>g1 (decide_eq_true z)
      have g1:0<=b.2:=by omega
      refine⟨_,rfl,?_⟩
      cases mo with
      | none=>
       refine JT (fun h=>absurd h (show¬(!decide (V.non=V.non))=true by decide)) (fun _=>?_);refine JcM ?_;refine⟨_,rfl,rfl,next ?_⟩;unfold JaR;rw[decide_eq_true g1];rfl
      | some m=>
       refine JT (fun _=>?_) (fun h=>absurd (JjE m) h);refine⟨p,_,1,.int b.2,rfl,rfl,SqT.of hpt,Jh (j:=1) rfl,_,rfl,?_⟩;refine JT (fun g2=>?_) (fun g2=>?_)
       .refine no (bad ?_) s5;have g2:m<b.2:=of_decide_eq_true g2;unfold JaR;dsimp only;rw[decide_eq_false (show¬b.2<=m by omega),Bool.and_false]
       .have g2:¬m<b.2:=fun z=>g2 (decide_eq_true z);refine⟨_,rfl,rfl,next ?_⟩;unfold JaR;dsimp only;rw[decide_eq_true g1,decide_eq_true (show b.2<=m by omega)];rfl
    .rintro σ H6 ⟨v3,rfl,rfl,hev⟩;rw[A2,hpl,List.take_of_length_le (A5 _)]at hev;have:=k H5 s5;rw[JdU,hw0,List.all_eq_true.mpr hev]at this;exact nz this
end
end TLA
namespace TLA
open PySem PySem.Spec PyProof.Rows L2 Wb
section
variable {P:Program} {w:World} {K:WF} {mg:Str→Option Value} {base:Heap} {CB CP fBI fPI CH CN CT:Addr}
inductive JhS(vs:List V)(H:Hp)(Q:VK):Prop
 | mk (st:Addr) (A:LSt) (b:Int) (ms:List Int) (B:Bk) (d:Y7) (v:V) (h1:vs=[.ref st,v]) (h2:Jog H st A b ms) (h3:JoC H A ms B) (h4:Rep H (Jbi d) v) (h5:Ja1 d) (h6:∀H',JX H H'->Q (.str (Jdn B d)) H'):JhS vs H Q
noncomputable def JfS:Sp:=fun vs H Q _=>JhS vs H Q
theorem JkL{f f1:Addr}{fd fd1:FuncData}(F:Fun K "_law_refused" "_law_refused" Jcm f fd)(Jda:JI P w K mg base "_law_can_be" ["_law_bands", "_law_most"] JlZ 1 f1 fd1):YO P w K mg base CX0 2 f fd ["_law_state", "_law_deed"] JfS:=by
 refine F.ok JbS (fun vs H Q E h=>?_) (fun cdv A outer s0 H vs Q E hr h=>?_)
 .obtain⟨_,_,_,_,_,_,_,rfl,_⟩ :=h;rfl
 .obtain⟨st,L,b,ms,B,d,v,rfl,hst,hbk,hrep,dok,k⟩ :=h;have hu:=JbB hr;obtain⟨a,r,rfl,ht⟩ :=JfA hrep;have ht0:=ht;have hrep0:=hrep
  refine⟨_,(JaO (JL (PW.pt (Jcu (Jq Y1 (Ju Js (pw 1) Jb (fun _ _=>rfl)) Jt (Jx _)) (Jbe (JaD (JnD JfB JfB Jb (Ju Js (pw 1) Jb (fun _ _=>rfl)) Jb))))) (Jg (Jn Jt)) Jr)
   (JaO (JL (PW.pt (Jcu (Jq Y1 (Ju Js (pw 1) Jb (fun _ _=>rfl)) Jt (Jx _)) (Jbe (JaD (JaI (Jo Jda (hr.mono (by decide)) (Jc (Ju Js (pw 1) Jb (fun _ _=>rfl)) (pa1 JcD)))))))) (Jg (Jn Jt)) Jr)
   (JaO (JL (Jq Y1 (Ju Js (pw 1) Jb (fun _ _=>rfl)) Jt (Jx _)) (Jd (JoT (Ju Js (pw 1) Jb (fun _ _=>rfl)) (JeK rfl (YA (JH (i:=2) JbS.nd rfl (Or.inl rfl)) (YA (JH (i:=3) JbS.nd rfl (Or.inl rfl)) (YA (JH (i:=4) JbS.nd rfl (Or.inl rfl)) JcL)))))
   (Jg (JL (PW.pt (JbI (JaD (JaI (Jo Jda (hr.mono (by decide)) (Jc (pw 2) (pa1 Jb))))) (JbI (Jq JcO (pw 3) Jb (Jx _)) (JaX (Jq JcO (pw 4) Jb (Jx _)))))) (Jg (Jn Jt)) Jr))) Jr)
   (JaO (JL (PW.pt (Jcu (Jq Y1 (Ju Js (pw 1) Jb (fun _ _=>rfl)) Jt (Jx _)) (Jbe (Jq JcO (Ju Js (pw 1) Jb (fun _ _=>rfl)) (Y9 hu (J6 hu (pw 0) Jt (fun _ _=>rfl)) (Ju Js (pw 1) Jb (fun _ _=>rfl)) (Ju Js (pw 1) Jb (fun _ _=>rfl)) (by constructor<;>rfl)) (Jx _))))) (Jg (Jn Jt)) Jr)
   (Jg (Jn Jt)))))),?_⟩
  refine⟨fun σ' H'=>σ'=[some (.ref st),some (.ref a),none,none,none]/\H=H'/\(nmD d = "hours"->Jdn B d = ""),?_,?_⟩
  .refine⟨a,_,0,_,rfl,rfl,SqT.of ht,Jh (j:=0) rfl,rfl,_,rfl,?_⟩;refine JT (fun h=>?_) (fun h=>?_)
   .obtain⟨who,day,many,rfl⟩ :=Jhw (JbR h)
    next=>
     obtain⟨_,vs,e,ht,_,_,rfl,rfl,_,_,rfl,rfl,_,_,rfl,rfl,_,_,rfl,rfl,rfl⟩ :=hrep;cases e;refine⟨a,_,3,.int many,rfl,rfl,SqT.of ht,Jh (j:=3) rfl,_,rfl,?_⟩;refine JT (fun h1=>?_) (fun h1=>?_)
     .refine⟨_,rfl,?_⟩;dsimp only
      cases h2:decide (many<=24)with
      | true=>
       refine JcM ?_;exact⟨rfl,rfl,fun _=>if_pos ⟨of_decide_eq_true h1,of_decide_eq_true h2⟩⟩
      | false=>
       refine JfH ?_;have:=k H fun _ _ z=>z;rw[show Jdn B (.hours who day many) = "no hours" from if_neg fun z=>of_decide_eq_false h2 z.2]at this;exact this
     .refine⟨_,rfl,?_⟩;refine JfH ?_;have:=k H fun _ _ z=>z;rw[show Jdn B (.hours who day many) = "no hours" from if_neg fun z=>h1 (decide_eq_true z.1)]at this;exact this
   .refine JcM ?_;exact⟨rfl,rfl,fun e=>absurd e (Jdp h)⟩
  rintro σ1 _ ⟨rfl,rfl,q1⟩;refine⟨fun σ' H'=>σ'=[some (.ref st),some (.ref a),none,none,none]/\JX H H'/\(nmD d = "rate"->Jdn B d = ""),?_,?_⟩
  .refine⟨a,_,0,_,rfl,rfl,SqT.of ht,Jh (j:=0) rfl,rfl,_,rfl,?_⟩;refine JT (fun h=>?_) (fun h=>?_)
   .obtain⟨week,bs,rfl⟩ :=Jlg (JbR h)
    next=>
     obtain⟨_,vs,e,ht,_,_,rfl,rfl,_,_,rfl,rfl,u,_,rfl,hu2,rfl⟩ :=hrep;cases e
     obtain⟨a2,rfl⟩:∃a2,u=.ref a2:=let ⟨a2,_,e,_⟩ :=hu2;⟨a2,e⟩
     refine⟨a,_,2,.ref a2,rfl,rfl,SqT.of ht,Jh (j:=2) rfl,a2,bs,none,rfl,JB.mpr hu2,dok.len,fun H1 s1=>⟨_,rfl,?_⟩⟩;dsimp only
     cases h2:Jbo none bs with
     | true=>
      refine JcM ?_;exact⟨rfl,s1,fun _=>if_pos h2⟩
     | false=>
      refine JfH ?_;have:=k H1 s1;rw[show Jdn B (.rate week bs) = "no table" from if_neg (by rw[h2];decide)]at this;exact this
   .refine JcM ?_;exact⟨rfl,fun _ _ z=>z,fun e=>absurd e (Jdp h)⟩
  rintro σ1 H1 ⟨rfl,s1,q2⟩;have ht:=s1 _ _ ht;have hrep:=Rep.same s1 hrep;refine⟨fun σ' H'=>∃v2 v3 v4:Option V,σ'=[some (.ref st),some (.ref a),v2,v3,v4]/\JX H H'/\(nmD d = "dues"->Jdn B d = ""),?_,?_⟩
  .refine⟨a,_,0,_,rfl,rfl,SqT.of ht,Jh (j:=0) rfl,rfl,_,rfl,?_⟩;refine JT (fun h=>fun _ nz=>?_) (fun h=>?_)
   .obtain⟨month,t,rfl⟩ :=JmC (JbR h)
    next=>
     obtain⟨_,vs,e,ht,_,_,rfl,rfl,_,_,rfl,rfl,u,_,rfl,hu2,rfl⟩ :=hrep;cases e;obtain⟨bs,top,per⟩ :=t;obtain⟨a2,vs2,rfl,ht2,u2,_,rfl,hu2,_,_,rfl,rfl,_,_,rfl,rfl,rfl⟩ :=hu2
     obtain⟨a3,rfl⟩:∃a3,u2=.ref a3:=let ⟨a3,_,e,_⟩ :=hu2;⟨a3,e⟩
     have dl:bs.length<=14:=dok.bands.len;refine⟨a,_,2,.ref a2,rfl,rfl,SqT.of ht,Jh (j:=2) rfl,a2,_,rfl,SqT.of ht2,rfl,_,_,rfl,_,_,rfl,_,_,rfl,rfl,?_⟩;refine nz ⟨a3,bs,some 100,rfl,JB.mpr hu2,dl,fun H2 s2=>⟨_,rfl,?_⟩⟩
     have no:Jd2 (bs,top,per)=false->Q (.str "no table") H2:=fun e=>by
      have:=k H2 (s1.trans s2);rw[show Jdn B (.dues month (bs,top,per)) = "no table" from if_neg (by rw[e];decide)]at this;exact this
     dsimp only
     cases h2:Jbo (some 100) bs with
     | false=>
      refine JfH ?_;refine JfH ?_;exact no (by rw[JpD];show(Jbo (some 100) bs&&_)=false;rw[h2];rfl)
     | true=>
      refine JcM ?_;refine⟨_,rfl,?_⟩;refine JT (fun h3=>?_) (fun h3=>?_)
      .refine JfH ?_
       exact no (by
        have h3:=of_decide_eq_true h3;unfold Jd2;rw[show decide (0<=(bs,top,per).2.1)=false from decide_eq_false (by show¬0<=top;have h3:top<0:=h3;omega)]
        simp)
      .refine⟨_,rfl,?_⟩;refine JT (fun h4=>?_) (fun h4=>?_)
       .exact no (by
         have h4:=of_decide_eq_true h4;unfold Jd2;rw[show decide (1<=(bs,top,per).2.2)=false from decide_eq_false (by show¬1<=per;have h4:per<1:=h4;omega)]
         simp)
       .refine⟨_,_,_,rfl,s1.trans s2,fun _=>if_pos ?_⟩;unfold Jd2;have h3:¬top<0:=fun z=>h3 (decide_eq_true z);have h4:¬per<1:=fun z=>h4 (decide_eq_true z);rw[show Jbo (some 100) (bs,top,per).1=true from h2,show decide (0<=(bs,top,per).2.1)=true from decide_eq_true (by show 0<=top;omega),show decide (1<=(bs,top,per).2.2)=true from decide_eq_true (by show 1<=per;omega)];rfl
   .exact⟨_,_,_,rfl,s1,fun e=>absurd e (Jdp h)⟩
  rintro σ1 H2 ⟨v2,v3,v4,rfl,s2,q3⟩;have ht:=s2 _ _ ht0;have hrep:=Rep.same s2 hrep0;refine⟨fun σ' H'=>H2=H'/\(nmD d = "payday"->Jdn B d = ""),?_,?_⟩
  .refine⟨a,_,0,_,rfl,rfl,SqT.of ht,Jh (j:=0) rfl,rfl,_,rfl,?_⟩;refine JT (fun h=>?_) (fun h=>?_)
   .obtain⟨who,week,rfl⟩ :=Jfv (JbR h)
    next=>
     obtain⟨_,vs,e,ht,_,_,rfl,rfl,_,_,rfl,rfl,_,_,rfl,rfl,rfl⟩ :=hrep;cases e;obtain⟨kvs,e0,_,_,_,_,ew,_⟩ :=(hst.same s2).kvs;obtain⟨wvs,e1,rw1⟩ :=(hbk.same s2).weeks;refine⟨a,_,2,.int week,rfl,rfl,SqT.of ht,Jh (j:=2) rfl,st,.ref L.weeks,rfl,by rw[<- ew];exact Jbc.k (k:=A8 "weeks") e0,L.weeks,rfl,.inl ⟨wvs,.inl e1⟩,a,_,1,.str who,rfl,rfl,SqT.of ht,Jh (j:=1) rfl,a,_,2,.int week,rfl,rfl,SqT.of ht,Jh (j:=2) rfl,_,Jbc.k (k:=A8 who) e1,?_⟩;rw[rw1]
     have el:Jdn B (.payday who week)=if early B who week=true then("too early" : Str)else("" : Str):=rfl
     cases hl:B.last who with
     | none=>
      refine⟨_,rfl,?_⟩;refine JT (fun h=>absurd (of_decide_eq_true h) (by omega)) (fun _=>?_);exact⟨rfl,fun _=>if_neg (by unfold early;rw[hl];exact Bool.false_ne_true)⟩
     | some l=>
      refine⟨_,rfl,?_⟩;refine JT (fun h=>?_) (fun h=>?_)
      .have:=k H2 s2;rw[el,if_pos (by unfold early;rw[hl];exact h)]at this;exact this
      .exact⟨rfl,fun _=>if_neg (by unfold early;rw[hl];exact h)⟩
   .refine JcM ?_;exact⟨rfl,fun e=>absurd e (Jdp h)⟩
  rintro σ1 _ ⟨rfl,q4⟩
  have e:Jdn B d = "":=by
   cases d with
   | hours who day many=>exact q1 rfl
   | rate week bs=>exact q2 rfl
   | dues month t=>exact q3 rfl
   | payday who week=>exact q4 rfl
   | _=>rfl
  have:=k H2 s2;rw[e]at this;exact this
end
end TLA
namespace TLA
open PySem PySem.Spec PyProof.Rows L2 Wb
section
variable {P:Program} {w:World} {K:WF} {mg:Str→Option Value} {base:Heap} {CB CP fBI fPI CH CN CT:Addr}
inductive Jlc(K:WF)(vs:List V)(H:Hp)(Q:VK):Prop
 | mk (a:Addr) (ns:List Int) (h1:vs=[.ref a]) (h2:SqL K H a (ns.map V.int)) (h3:∀st A H',JX H H'->(∀c∈st::A.all,H c=none)->Law H' st A (JA ns) (J9 ns) Bk.new 0->Q (.ref st) H'):Jlc K vs H Q
noncomputable def JlK(K:WF):Sp:=fun vs H Q _=>Jlc K vs H Q
theorem Jnv{f f1 f2:Addr}{fd fd1 fd2:FuncData}(F:Fun K "_law_begun" "_law_begun" JdO f fd)(Z:Zs mg)(JN:JI P w K mg base "_law_first_month" ["_law_cells"] (Jhb (K:=K)) 1 f1 fd1)
  (J5:JI P w K mg base "_law_so_far" ["_law_cells"] (JfK (K:=K)) 1 f2 fd2):YO P w K mg base CX0 2 f fd ["_law_cells"] (JlK K):=by
 refine F.ok Jeq (fun vs H Q E h=>?_) (fun cdv A outer s0 H vs Q E hr h=>?_)
 .obtain⟨_,_,rfl,_⟩ :=h;rfl
 .obtain⟨a,ns,rfl,hS,k⟩ :=h;have hu:=JbB hr;refine⟨_,(@Jd _ _ _ _ _ (@Jfp _ _ 1 _ _ _ _ (by exact Jeq.nd) (by rfl) (by exact Or.inl rfl) (@JnJ _ _ _ _ _ _ _ _ _ _ _ _ _ _ _ _ _ _ _ _ _ _ _ _ _ _ Jt JnR Jt Yw Jt Yw Jt Yw Jt Yw Jt Yw) (by rfl) (by first|exact .inl rfl|exact .inr rfl|assumption)) (@Jd _ _ _ _ _ (@Jfp _ _ 2 _ _ _ _ (by exact Jeq.nd) (by rfl) (by exact Or.inl rfl) (Ji5 JN.ok (hr.mono (by decide)) (by rfl) JN.mg JN.kp JN.b .nil Ja2 (@Jc _ _ _ _ _ (pw 0) JV (by rfl))) (by rfl) (by first|exact .inl rfl|exact .inr rfl|assumption)) (@Jd _ _ _ _ _ (@YI _ _ _ _ _ _ _ _ _ hu (pw 1) Jt (pw 2) (by rfl)) (@Jd _ _ _ _ _ (@YI _ _ _ _ _ _ _ _ _ hu (pw 1) Jt (YK (Jgh (by rfl)) (by rfl) Z.z_list JbT (@Jc _ _ _ _ _ (YK JfO (by rfl) Z.z_range Jkb (@Jc _ _ _ _ _ (@Jk _ _ _ _ _ _ _ _ JW (pw 2) Jb) (@Jc _ _ _ _ _ (@Jk _ _ _ _ _ _ _ _ JF (pw 2) Jb) JV (by rfl)) (by rfl))) JV (by rfl))) (by rfl)) (@JaO _ _ _ _ _ (@JL _ _ _ _ _ _ _ _ (Jq Jfj (Ji5 J5.ok (hr.mono (by decide)) (by rfl) J5.mg J5.kp J5.b .nil Ja2 (@Jc _ _ _ _ _ (pw 0) JV (by rfl))) Jb (Jx _)) (@Jg _ _ _ (@YI _ _ _ _ _ _ _ _ _ hu (pw 1) Jt (YK (Jgh (by rfl)) (by rfl) Z.z_list JbT (@Jc _ _ _ _ _ (YK JfO (by rfl) Z.z_range Jkb (@Jc _ _ _ _ _ (@Jk _ _ _ _ _ _ _ _ JW (pw 2) Jb) (@Jc _ _ _ _ _ (@Jk _ _ _ _ _ _ _ _ JF (pw 2) Jb) JV (by rfl)) (by rfl))) JV (by rfl))) (by rfl))) Jr) (@Jg _ _ _ (@Jn _ _ _ _ (pw 1)))))))),fun _ nz=>?_⟩;refine fun st n0=>?_;refine fun c1 n1=>?_;refine fun c2 n2=>?_;refine fun c3 n3=>?_;refine fun c4 n4=>?_;refine fun c5 n5=>?_;refine fun c6 n6=>?_;have w0:=Je (o:=HO.dK []) n0;have w1:=Je (o:=HO.dT []) n1;have w2:=Je (o:=HO.dK []) n2;have w3:=Je (o:=HO.dK []) n3;have w4:=Je (o:=HO.dK []) n4;have w5:=Je (o:=HO.dK []) n5;have w6:=Je (o:=HO.dK []) n6;have p0:upd H st (.dK []) st=some (.dK []):=Ja;generalize upd H st (.dK [])=H0 at n1 w0 w1 p0 n2 w2 n3 w3 n4 w4 n5 w5 n6 w6 ⊢;have p1:upd H0 c1 (.dT []) c1=some (.dT []):=Ja;generalize upd H0 c1 (.dT [])=H1 at w1 p1 n2 w2 n3 w3 n4 w4 n5 w5 n6 w6 ⊢;have p2:upd H1 c2 (.dK []) c2=some (.dK []):=Ja;generalize upd H1 c2 (.dK [])=H2 at w2 p2 n3 w3 n4 w4 n5 w5 n6 w6 ⊢;have p3:upd H2 c3 (.dK []) c3=some (.dK []):=Ja;generalize upd H2 c3 (.dK [])=H3 at w3 p3 n4 w4 n5 w5 n6 w6 ⊢;have p4:upd H3 c4 (.dK []) c4=some (.dK []):=Ja;generalize upd H3 c4 (.dK [])=H4 at w4 p4 n5 w5 n6 w6 ⊢;have p5:upd H4 c5 (.dK []) c5=some (.dK []):=Ja;generalize upd H4 c5 (.dK [])=H5 at w5 p5 n6 w6 ⊢;have p6:upd H5 c6 (.dK []) c6=some (.dK []):=Ja;generalize upd H5 c6 (.dK [])=H6 at w6 p6 ⊢;have s5:=w6;have s4:=w5.trans s5;have s3:=w4.trans s4;have s2:=w3.trans s3;have s1:=w2.trans s2;have s0:=w1.trans s1
  have g0:Jf8 H H6 st ⟨c1,c2,c3,c4,c5,c6,0,fun _=>False⟩ []:=by
   refine⟨s0 _ _ p0,s1 _ _ p1,fun c hc=>?_,w0.trans s0,fun c hc=>?_,?_⟩
   .simp only[Ax,List.not_mem_nil,or_false]at hc
    rcases hc with rfl|rfl|rfl|rfl|rfl
    .exact s2 _ _ p2
    .exact s3 _ _ p3
    .exact s4 _ _ p4
    .exact s5 _ _ p5
    .exact p6
   .have f1:=w0.free n1;have f2:=w0.free (w1.free n2);have f3:=w0.free (w1.free (w2.free n3));have f4:=w0.free (w1.free (w2.free (w3.free n4)));have f5:=w0.free (w1.free (w2.free (w3.free (w4.free n5))));have f6:=w0.free (w1.free (w2.free (w3.free (w4.free (w5.free n6)))));simp only[LSt.all,Ax,List.not_mem_nil,or_false]at hc
    rcases hc with rfl|rfl|rfl|rfl|rfl|rfl|rfl<;>assumption
   .have d:∀{G:Hp}{x y:Addr}{o:HO},G x=some o->G y=none->x≠y:=fun e n=>Ji e n;have l1:=w1 _ _ p0;have l2:=w2 _ _ l1;have l3:=w3 _ _ l2;have l4:=w4 _ _ l3;have l5:=w5 _ _ l4;have m2:=w2 _ _ p1;have m3:=w3 _ _ m2;have m4:=w4 _ _ m3;have m5:=w5 _ _ m4;have k3:=w3 _ _ p2;have k4:=w4 _ _ k3;have k5:=w5 _ _ k4;have j4:=w4 _ _ p3;have j5:=w5 _ _ j4;have i5:=w5 _ _ p4;simp only[LSt.all,List.nodup_cons,Ax,List.not_mem_nil,or_false,not_or,not_false_eq_true,List.nodup_nil,and_true];exact⟨⟨d p0 n1,d l1 n2,d l2 n3,d l3 n4,d l4 n5,d l5 n6⟩,⟨d p1 n2,d m2 n3,d m3 n4,d m4 n5,d m5 n6⟩,⟨d p2 n3,d k3 n4,d k4 n5,d k5 n6⟩,⟨d p3 n4,d j4 n5,d j5 n6⟩,⟨d p4 n5,d i5 n6⟩,d p5 n6⟩
  refine⟨g0.s,JiJ c1 c2 c3 c4 c5 c6,rfl,(by show 6<=15;decide),?_⟩;rw[Jmd];have g1:=g0.put (kv':=JiJ c1 c2 c3 c4 c5 c6);generalize upd H6 st (.dK (JiJ c1 c2 c3 c4 c5 c6))=H7 at g1 ⊢;refine nz fun _ nz=>⟨a,ns,rfl,g1.keep.seq hS,fun H8 s8=>?_⟩;have g2:=g1.same s8;refine nz fun _ nz=>⟨st,_,rfl,Jei.k (k:=A8 "base") g2.s (by show 6<B2;decide),?_⟩;have g3:=g2.put (kv':=Yt (JiJ c1 c2 c3 c4 c5 c6) (A8 "base") (.int (JA ns)));generalize upd H8 st (.dK (Yt (JiJ c1 c2 c3 c4 c5 c6) (A8 "base") (.int (JA ns))))=H9 at g3 ⊢;refine nz fun _ nz=>⟨_,_,rfl,fun p np=>?_⟩;have r1:=Jg2 (o:=HO.rng (JA ns-1) (JA ns+4)) np;generalize upd H9 p (.rng (JA ns-1) (JA ns+4))=Ha at r1 ⊢;obtain⟨v1,r1⟩ :=r1;refine⟨p,_,_,rfl,r1,by omega,fun l nl=>?_⟩;have r2:=Jg2 (o:=HO.lst ((Jct (JA ns-1) (JA ns+4)).map V.int)) nl;generalize upd Ha l (.lst ((Jct (JA ns-1) (JA ns+4)).map V.int))=Hb at r2 ⊢;obtain⟨v2,r2⟩ :=r2;have g4:=g3.same (v1.trans v2);refine⟨st,_,rfl,Jei.k (k:=A8 "months") g4.s (by show 7<B2;decide),?_⟩;have nls:l≠st:=(Ji (v1 _ _ g3.s) nl).symm;have g5:=g4.put (kv':=Yt (Yt (JiJ c1 c2 c3 c4 c5 c6) (A8 "base") (.int (JA ns))) (A8 "months") (.ref l))
  have r3:upd Hb st (.dK (Yt (Yt (JiJ c1 c2 c3 c4 c5 c6) (A8 "base") (.int (JA ns))) (A8 "months") (.ref l))) l=some (.lst ((Jct (JA ns-1) (JA ns+4)).map V.int)):=by rw[Jf nls];exact r2
  generalize upd Hb st (.dK (Yt (Yt (JiJ c1 c2 c3 c4 c5 c6) (A8 "base") (.int (JA ns))) (A8 "months") (.ref l)))=Hc at g5 r3 ⊢;rw[JpG]at g5;clear g4 g3 g2 g1 g0 r2 v2 r1 v1 s8;refine nz ⟨fun σ' H'=>∃l',σ'=[some (.ref a),some (.ref st),some (.int (JA ns))]/\Jf8 H H' st ⟨c1,c2,c3,c4,c5,c6,0,fun _=>False⟩ (JiJ c1 c2 c3 c4 c5 c6++[((A8 "base" : Key),V.int (JA ns)),(A8 "months",.ref l')])/\H' l'=some (.lst ((J9 ns).map V.int)),?_,?_⟩
  .refine⟨a,ns,rfl,g5.keep.seq hS,fun Hd sd=>⟨_,rfl,?_⟩⟩;have g6:=g5.same sd;have r4:=sd _ _ r3;refine JT (fun h=>?_) (fun h=>?_)
   .have ha:J3 ns=7:=by
     have h:1<J3 ns:=of_decide_eq_true h;unfold J3 at h ⊢;split at h
     .rename_i c;rw[if_pos c]
     .omega
    refine⟨_,_,rfl,fun p np=>?_⟩;have r1:=Jg2 (o:=HO.rng (JA ns-3) (JA ns+15)) np;generalize upd Hd p (.rng (JA ns-3) (JA ns+15))=He at r1 ⊢;obtain⟨v1,r1⟩ :=r1;refine⟨p,_,_,rfl,r1,by omega,fun l2 nl2=>?_⟩;have r2:=Jg2 (o:=HO.lst ((Jct (JA ns-3) (JA ns+15)).map V.int)) nl2;generalize upd He l2 (.lst ((Jct (JA ns-3) (JA ns+15)).map V.int))=Hf at r2 ⊢;obtain⟨v2,r2⟩ :=r2;have g7:=g6.same (v1.trans v2);refine⟨st,_,rfl,Jei.k (k:=A8 "months") g7.s (by show 8<B2;decide),?_⟩;have nls:l2≠st:=(Ji (v1 _ _ g6.s) nl2).symm;refine⟨l2,rfl,?_,?_⟩
    .rw[Jny];exact g7.put
    .rw[Jf nls,r2];unfold J9;rw[if_pos ha]
   .have ha:¬J3 ns=7:=fun z=>h (decide_eq_true (by rw[z];decide));refine⟨l,rfl,g6,?_⟩;rw[r4];unfold J9;rw[if_neg ha]
  .rintro σ' H' ⟨l',rfl,g,e⟩;refine k st ⟨c1,c2,c3,c4,c5,c6,l',fun _=>False⟩ H' g.keep g.fr (g.law e ?_ fun _ z=>z);unfold J9;split<;>simp[Jct]<;>omega
end
end TLA
namespace TLA
open PySem PySem.Spec PyProof.Rows L2 Wb
section
variable {P:Program} {w:World} {K:WF} {mg:Str→Option Value} {base:Heap} {CB CP fBI fPI CH CN CT:Addr}
noncomputable def Jrj(ms:List Int)(B:Bk)(who:Str)(week:Int):Bk:={ B with paid:=Jfl B.paid who (B.paid who+mx 0 (rightS ms B who week-B.paid who)),last:=fun y=>if y=who then some week else B.last y,nets:=fun y m=>if y=who then netS B who m week else B.nets y m }
noncomputable def JoK(ms:List Int)(B:Bk)(who:Str)(week:Int):Dt:=.tup [.int (mx 0 (rightS ms B who week-B.paid who)),.int (mn 0 (rightS ms B who week-B.paid who)),.lst ((Jaj ms B who week).map JdA)]
theorem Jsi(f:Int->Int):∀ms:List Int,(∀m∈ms,f m=0)->(List.replicate ms.length [V.int 0]).flatten=ms.map fun m=>V.int (f m)
 | [],_=>rfl
 | m::r,h=>by
  rw[List.length_cons,List.replicate_succ,List.flatten_cons,List.map_cons,Jsi f r fun x hx=>h x (List.mem_cons_of_mem _ hx),h m Aj];rfl
inductive Jj8(vs:List V)(H:Hp)(Q:VK):Prop
 | mk (st:Addr) (A:LSt) (b:Int) (ms:List Int) (B:Bk) (n:Nat) (who:Str) (week:Int) (h1:vs=[.ref st,.str who,.int week]) (h2:Law H st A b ms B n) (h3:n<=900) (h4:∀r H',YC A H H'->Law H' st A b ms (Jrj ms B who week) (n+3)->Jef H H' (JoK ms B who week) r->Q r H'):Jj8 vs H Q
noncomputable def Jkg:Sp:=fun vs H Q _=>Jj8 vs H Q
theorem Jk7{f f1:Addr}{fd fd1:FuncData}(F:Fun K "_law_paying" "_law_paying" JcX f fd)(Z:Zs mg)(Yz:JI P w K mg base "_law_all_nets" ["_law_state", "_law_who", "_law_last"] JdJ 4 f1 fd1) :
  YO P w K mg base CX0 5 f fd ["_law_state", "_law_who", "_law_week"] Jkg:=by
 refine F.ok Jay (fun vs H Q E h=>?_) (fun cdv A outer s0 H vs Q E hr h=>?_)
 .obtain⟨_,_,_,_,_,_,_,_,rfl,_⟩ :=h;rfl
 .obtain⟨st,L,b,ms,B,n,who,week,rfl,hL,hn,k⟩ :=h;have hu:=JbB hr;have hml:=hL.few
  refine⟨_,(Jd (Jl 3 Jay.nd (Jo Yz (hr.mono (by decide)) (Jc (pw 0) (Jc (pw 1) (pa1 (pw 2))))))
   (Jd (Jl 4 Jay.nd (Y9 hu (J6 hu (pw 0) Jt (fun _ _=>rfl)) (pw 1) (Jk JqV (Yd (pa1 Jb)) (Jp JO (by rfl) Z.z_len Jbj (pa1 (pw 3)))) (by constructor<;>rfl)))
   (Jd (Jl 5 Jay.nd (Yd JV))
   (Jd (Jam PassesOwn.never rfl (Jca rfl Z.z_range (pa1 (Jp JO (by rfl) Z.z_len Jbj (pa1 (pw 3))))) (JH (i:=6) Jay.nd rfl (Or.inl rfl)) (Jg (JL (Jq JdX (Ju JK (pw 3) (pw 6) (fun _ _=>rfl)) (Ju JK (pw 4) (pw 6) (fun _ _=>rfl)) (Jx _)) (Jg (Jbh (Jhf PySem.F.plainAttrs_list PySem.F.slot_list_append PySem.F.type_list_append Jah (pw 5) (pa1 (J2 (Jc (Ju JK (J6 hu (pw 0) Jt (fun _ _=>rfl)) (pw 6) (fun _ _=>rfl)) (pa1 (Jk JW (Ju JK (pw 3) (pw 6) (fun _ _=>rfl)) (Ju JK (pw 4) (pw 6) (fun _ _=>rfl)))))))))) Jr)))
   (Jd (Jl 7 Jay.nd (Jk JW (Jp (JaJ rfl) (by rfl) Z.z_sum JcV (pa1 (pw 3))) (Y9 hu (J6 hu (pw 0) Jt (fun _ _=>rfl)) (pw 1) Jb (by constructor<;>rfl))))
   (Jd (Jl 8 Jay.nd (Jp (Jbd rfl) (by rfl) Z.z_max JdS (Jc Jb (pa1 (pw 7)))))
   (Jd (YI hu (J6 hu (pw 0) Jt (fun _ _=>rfl)) (pw 1) (Jk JF (Y9 hu (J6 hu (pw 0) Jt (fun _ _=>rfl)) (pw 1) Jb (by constructor<;>rfl)) (pw 8)) rfl)
   (Jd (YI hu (J6 hu (pw 0) Jt (fun _ _=>rfl)) (pw 1) (pw 2) rfl)
   (Jd (YI hu (J6 hu (pw 0) Jt (fun _ _=>rfl)) (pw 1) (pw 3) rfl)
   (Jg (Jn (J2 (Jc (pw 8) (Jc (Jp (Jcy rfl) (by rfl) Z.z_min JhL (Jc Jb (pa1 (pw 7)))) (pa1 (pw 5)))))))))))))))),fun _ nz=>?_⟩
  refine⟨st,L,b,ms,B,who,week,rfl,hL.sta,hL.bk,hL.ok,hL.few,fun nl H1 s1 n1 e1=>?_⟩;have L1:=hL.same s1
  have nout:¬L.out nl:=fun z=>by obtain⟨xs,e⟩ :=hL.av nl z;rw[n1]at e;cases e
  obtain⟨kvs,e0,_,_,_,ep,ew,en,_,em⟩ :=L1.sta.kvs;obtain⟨nvs,e2,rn⟩ :=L1.bk.nets;have nlen:(ms.map fun m=>V.int (netS B who m week)).length=ms.length:=A2 _;refine nz fun _ nz=>⟨st,.ref L.nets,rfl,by rw[<- en];exact Jbc.k (k:=A8 "nets") e0,L.nets,rfl,.inl ⟨nvs,.inl e2⟩,zs1,fun z0 nz0=>?_⟩;have q1:=Jg2 (o:=HO.lst [V.int 0]) nz0;generalize upd H1 z0 (.lst [V.int 0])=H2 at q1 ⊢;obtain⟨w1,q1⟩ :=q1;refine⟨nl,_,rfl,.inl (SqL.of (w1 _ _ e1)),z0,_,[V.int 0],rfl,rfl,q1,by rw[nlen];omega,by rw[nlen];omega,by rw[nlen];show 1*((ms.length:Int)).toNat<=B2;exact Nat.le_trans (by omega:1*((ms.length:Int)).toNat<=1000) (by decide),fun z1 nz1=>?_⟩;rw[nlen];have q2:=Jg2 (o:=HO.lst (List.replicate ((ms.length:Int)).toNat [V.int 0]).flatten) nz1;generalize upd H2 z1 (.lst (List.replicate ((ms.length:Int)).toNat [V.int 0]).flatten)=H3 at q2 ⊢;obtain⟨w2,q2⟩ :=q2;have s3:=w1.trans w2;refine⟨_,Jbc.k (k:=A8 who) (s3 _ _ e2),?_⟩
  obtain⟨ol,eo,ho⟩:∃ol,(Jau nvs (A8 who)).getD (.ref z1)=.ref ol/\H3 ol=some (.lst (ms.map fun m=>.int (B.nets who m))):=by
   rcases rn who with⟨a,q,g⟩|⟨q,z⟩
   .exact⟨a,by rw[q];rfl,s3 _ _ g⟩
   .refine⟨z1,by rw[q];rfl,?_⟩;rw[q2];congr 2;rw[Int.toNat_natCast];exact Jsi _ ms z
  rw[eo];refine nz fun _ nz=>⟨zs0,fun ll nll=>?_⟩;have q3:=Jg2 (o:=HO.lst []) nll;generalize upd H3 ll (.lst [])=H4 at q3 ⊢;obtain⟨w3,q3⟩ :=q3;have s4:=s3.trans w3;refine nz fun _ nz=>⟨nl,_,rfl,.inl (SqL.of (s4 _ _ e1)),_,rfl,by rw[nlen];omega,by rw[nlen];omega,?_⟩;rw[nlen,Int.toNat_natCast];have hmo:H4 L.months=some (.lst (ms.map V.int)):=s4 _ _ L1.sta.months
  refine Jb1 (lo:=0) (fun i σ H5=>∃(ys:List V)(v6:Option V),σ=[some (.ref st),some (.str who),some (.int week),some (.ref nl),some (.ref ol),some (.ref ll),v6,none,none]/\JX H3 H5/\H5 ll=some (.lst ys)/\ys.length<=i/\YL H5 ((Jaj (ms.take i) B who week).map JdA) ys)
   ⟨[],none,rfl,w3,q3,A5 _,rfl⟩ ?_ ?_
  .rintro i σ H5 hi ⟨ys,v6,rfl,s5,hl5,hlen,hrp⟩;have hm:ms[i]?=some ms[i]:=A3 hi;generalize ms[i]=m at hm
   have g1:(ms.map fun m=>V.int (netS B who m week))[i]?=some (.int (netS B who m week)):=by rw[Aq,hm];rfl
   have g2:(ms.map fun m=>V.int (B.nets who m))[i]?=some (.int (B.nets who m)):=by rw[Aq,hm];rfl
   have g3:(ms.map V.int)[i]?=some (.int m):=by rw[Aq,hm];rfl
   have a1:=s5 _ _ (s3 _ _ e1);have a2:=s5 _ _ ho
   have z:(0:Int)+(i:Int)=(i:Int):=by omega
   rw[z]
   have tk:Jaj (ms.take (i+1)) B who week=Jaj (ms.take i) B who week++(if netS B who m week-B.nets who m≠0 then[(m,netS B who m week-B.nets who m)]else[]):=by
    unfold Jaj;rw[B8,hm,B4,List.filter_append];congr 1;show List.filter _ [(m,netS B who m week-B.nets who m)]=_;rw[List.filter_cons]
    by_cases c:netS B who m week-B.nets who m≠0
    .simp[c]
    .simp[c]
   refine⟨nl,_,_,_,rfl,rfl,SqL.of a1,Jh (j:=i) g1,ol,_,_,_,rfl,rfl,SqL.of a2,Jh (j:=i) g2,rfl,_,rfl,?_⟩;refine JT (fun h=>?_) (fun h=>?_)
   .have c:netS B who m week-B.nets who m≠0:=fun z=>by
     have:netS B who m week=B.nets who m:=by omega
     rw[this]at h;simp at h
    refine⟨.inl ⟨rfl,_,SqL.of hl5⟩,st,.ref L.months,rfl,by rw[<- em];exact Jbc.k (k:=A8 "months") (s5 _ _ (s3 _ _ e0)),L.months,_,_,_,rfl,rfl,SqL.of (s5 _ _ (s3 _ _ L1.sta.months)),Jh (j:=i) g3,
     nl,_,_,_,rfl,rfl,SqL.of a1,Jh (j:=i) g1,ol,_,_,_,rfl,rfl,SqL.of a2,Jh (j:=i) g2,zs2,fun t nt=>?_⟩
    have q4:=Jg2 (o:=HO.tup [V.int m,V.int (netS B who m week-B.nets who m)]) nt;generalize upd H5 t (.tup [V.int m,V.int (netS B who m week-B.nets who m)])=H6 at q4 ⊢;obtain⟨w4,q4⟩ :=q4;refine⟨ll,ys,_,rfl,rfl,w4 _ _ hl5,Jy (by omega),?_⟩
    have tu:∀b xs,H6 b=some (.tup xs)->upd H6 ll (.lst (ys++[V.ref t])) b=some (.tup xs):=fun b xs e=>by
     have z:b≠ll:=fun z=>by
      rw[z,w4 _ _ hl5]at e;cases e
     rw[Jf z];exact e
    refine⟨ys++[.ref t],_,rfl,JR (s5.trans w4) nll,Ja,by rw[Ak,C8];omega,?_⟩;rw[tk,if_pos c,B4];exact YL.snoc (Jc1 (fun b xs e=>tu b xs (w4 _ _ e)) hrp) ⟨t,_,rfl,tu _ _ q4,_,_,rfl,rfl,_,_,rfl,rfl,rfl⟩
   .have c:¬netS B who m week-B.nets who m≠0:=fun z=>h (by
     have:¬(V.int (netS B who m week)=V.int (B.nets who m)):=fun y=>z (by rw[V.int.inj y];omega);rw[decide_eq_false this]
     rfl)
    refine⟨ys,_,rfl,s5,hl5,by omega,?_⟩;rw[tk,if_neg c,List.append_nil];exact hrp
  .rintro σ H5 ⟨ys,v6,rfl,s5,hl5,hlen,hrp⟩;rw[List.take_of_length_le (A5 _)]at hrp;have s6:=s3.trans s5;have L5:=L1.same s6;obtain⟨pvs,ep1,rp⟩ :=L5.bk.paid;obtain⟨wvs,ew1,_⟩ :=L5.bk.weeks;have en1:=s6 _ _ e2;have z0':=s6 _ _ e0
   have hnl:H5 nl=some (.lst ((ms.map fun m=>netS B who m week).map V.int)):=by
    rw[s6 _ _ e1,List.map_map];rfl
   have N:=L5.nds;have pget:Jbc H5 L.paid (.str who) (Jau pvs (A8 who)):=Jbc.k (k:=A8 who) ep1;refine nz fun _ nz=>⟨nl,_,rfl,SqL.of hnl,st,.ref L.paid,rfl,by rw[<- ep];exact Jbc.k (k:=A8 "paid") z0',L.paid,rfl,.inl ⟨pvs,.inl ep1⟩,_,pget,?_⟩;rw[rp];refine nz fun _ nz=>⟨_,_,rfl,?_⟩;dsimp only[JcP,List.set];rw[show(ms.map fun m=>netS B who m week).sum=rightS ms B who week from rfl];rw[show(if rightS ms B who week-B.paid who>0 then rightS ms B who week-B.paid who else 0)=mx 0 (rightS ms B who week-B.paid who) from rfl];refine nz fun _ nz=>?_;have nst:st∉L.all:=(List.nodup_cons.mp L5.nd).1;have kl5:=L5.kl;have x1:=kl5 L.paid (by simp) _ ep1;have x2:=kl5 L.weeks (by simp) _ ew1;have x3:=kl5 L.nets (by simp) _ en1;refine⟨st,.ref L.paid,rfl,by rw[<- ep];exact Jbc.k (k:=A8 "paid") z0',L.paid,rfl,.inl ⟨pvs,.inl ep1⟩,_,pget,?_⟩;rw[rp];refine⟨st,.ref L.paid,rfl,by rw[<- ep];exact Jbc.k (k:=A8 "paid") z0',L.paid,_,rfl,Jei.k (k:=A8 who) ep1 (Jy (by omega)),?_⟩;have L6:=L5.putPaid ep1 who (B.paid who+mx 0 (rightS ms B who week-B.paid who));have k6:YC L H5 (upd H5 L.paid (.dK (Yt pvs (A8 who) (.int (B.paid who+mx 0 (rightS ms B who week-B.paid who)))))):=YC.put (by simp[LSt.all]);have ew2:=(Jf (H:=H5) (o:=HO.dK (Yt pvs (A8 who) (.int (B.paid who+mx 0 (rightS ms B who week-B.paid who))))) N.pw.symm).trans ew1;have en2:=(Jf (H:=H5) (o:=HO.dK (Yt pvs (A8 who) (.int (B.paid who+mx 0 (rightS ms B who week-B.paid who))))) N.pn.symm).trans en1;dsimp only;generalize upd H5 L.paid (.dK (Yt pvs (A8 who) (.int (B.paid who+mx 0 (rightS ms B who week-B.paid who)))))=H6 at L6 k6 ew2 en2 ⊢;refine nz fun _ nz=>?_;have z6:=k6 _ _ z0' nst;refine⟨st,.ref L.weeks,rfl,by rw[<- ew];exact Jbc.k (k:=A8 "weeks") z6,L.weeks,_,rfl,Jei.k (k:=A8 who) ew2 (Jy (by omega)),?_⟩;have L7:=L6.putWeek ew2 who week;have k7:YC L H6 (upd H6 L.weeks (.dK (Yt wvs (A8 who) (.int week)))):=YC.put (by simp[LSt.all]);have en3:=(Jf (H:=H6) (o:=HO.dK (Yt wvs (A8 who) (.int week))) N.wn.symm).trans en2;generalize upd H6 L.weeks (.dK (Yt wvs (A8 who) (.int week)))=H7 at L7 k7 en3 ⊢;have z7:=k7 _ _ z6 nst;refine nz fun _ nz=>⟨st,.ref L.nets,rfl,by rw[<- en];exact Jbc.k (k:=A8 "nets") z7,L.nets,_,rfl,Jei.k (k:=A8 who) en3 (Jy (by omega)),?_⟩;have k57:=k6.trans k7;have S57:=L5.sameS k57;have L8:=L7.putNets en3 who (nl:=nl) (f:=fun m=>netS B who m week) (S57.2 _ _ (s6 _ _ e1)) nout;have k8:YC L H7 (upd H7 L.nets (.dK (Yt nvs (A8 who) (.ref nl)))):=YC.put (by simp[LSt.all]);generalize upd H7 L.nets (.dK (Yt nvs (A8 who) (.ref nl)))=H8 at L8 k8 ⊢;have k58:=k57.trans k8;have S58:=L5.sameS k58;refine nz ⟨_,_,rfl,zs3,fun t nt=>?_⟩;have w8:=Je (o:=HO.tup [V.int (mx 0 (rightS ms B who week-B.paid who)),V.int (mn 0 (rightS ms B who week-B.paid who)),V.ref ll]) nt;have q8:upd H8 t (.tup [V.int (mx 0 (rightS ms B who week-B.paid who)),V.int (mn 0 (rightS ms B who week-B.paid who)),V.ref ll]) t=some (.tup [V.int (mx 0 (rightS ms B who week-B.paid who)),V.int (mn 0 (rightS ms B who week-B.paid who)),V.ref ll]):=Ja
   have goal:∀H9,JX H8 H9->H9 t=some (.tup [V.int (mx 0 (rightS ms B who week-B.paid who)),V.int (mn 0 (rightS ms B who week-B.paid who)),V.ref ll])->Q (.ref t) H9:=fun H9 w9 q9=>by
    have S59:=S58.trans (Ye.of w9);have hll:Rep H9 (.lst ((Jaj ms B who week).map JdA)) (.ref ll):=⟨ll,ys,rfl,S59.2 _ _ hl5,YL.sameS S59 hrp⟩;refine k (.ref t) H9 ((YC.of (s1.trans s6)).trans (k58.trans (YC.of w9))) (L8.same w9) ⟨⟨t,_,rfl,q9,_,_,rfl,rfl,_,_,rfl,rfl,_,_,rfl,hll,rfl⟩,fun c xs e=>?_⟩;have e9:H9 c=some (.lst xs):=S59.2 _ _ (s6 _ _ (s1 _ _ e));have n1:c≠ll:=Ji (s3 _ _ (s1 _ _ e)) nll
    have n2:t≠c:=fun z=>by
     rw[z,e9]at q9;cases q9
    exact⟨t,_,rfl,by rw[JdT n2];exact q9,_,_,rfl,rfl,_,_,rfl,rfl,_,_,rfl,Jcq hll n1 e9,rfl⟩
   exact goal _ w8 q8
end
end TLA
namespace TLA
open PySem PySem.Spec PyProof.Rows L2 Wb
section
variable {P:Program} {w:World} {K:WF} {mg:Str→Option Value} {base:Heap} {CB CP fBI fPI CH CN CT:Addr}
theorem Jqd{ms:List Int}{B:Bk}{d:Y7}(h:Jdn B d≠""):step ms B d=(.str (Jdn B d),B):=by
 cases d with
 | hours who day many=>
  by_cases c:0<=many/\many<=24
  .exact absurd (if_pos c) h
  .rw[show step ms B (.hours who day many)=(.str "no hours",B) from if_neg c,show Jdn B (.hours who day many) = "no hours" from if_neg c]
 | rate week bs=>
  by_cases c:Jbo none bs=true
  .exact absurd (if_pos c) h
  .rw[show step ms B (.rate week bs)=(.str "no table",B) from if_neg c,show Jdn B (.rate week bs) = "no table" from if_neg c]
 | dues month t=>
  by_cases c:Jd2 t=true
  .exact absurd (if_pos c) h
  .rw[show step ms B (.dues month t)=(.str "no table",B) from if_neg c,show Jdn B (.dues month t) = "no table" from if_neg c]
 | payday who week=>
  by_cases c:early B who week=true
  .rw[show step ms B (.payday who week)=(.str "too early",B) from if_pos c,show Jdn B (.payday who week) = "too early" from if_pos c]
  .exact absurd (if_neg c) h
 | _=>exact absurd rfl h
inductive Jnb(vs:List V)(H:Hp)(Q:VK):Prop
 | mk (st:Addr) (A:LSt) (b:Int) (ms:List Int) (B:Bk) (n:Nat) (d:Y7) (v:V) (h1:vs=[.ref st,v]) (h2:Law H st A b ms B n) (h3:n<=900) (h4:Rep H (Jbi d) v) (h5:Ja1 d) (h6:∀r H',YC A H H'->Law H' st A b ms (step ms B d).2 (n+3)->Jef H H' (step ms B d).1 r->Q r H'):Jnb vs H Q
noncomputable def JlT:Sp:=fun vs H Q _=>Jnb vs H Q
theorem Jno{f f1 f2 f3 f4 f5:Addr}{fd fd1 fd2 fd3 fd4 fd5:FuncData}(F:Fun K "_law_done" "_law_done" Jfa f fd)(Z:Zs mg)
  (Ja7:JI P w K mg base "_law_refused" ["_law_state", "_law_deed"] JfS 2 f1 fd1)
  (JbC:JI P w K mg base "_law_wages" ["_law_state", "_law_who", "_law_week"] Jjl 2 f2 fd2)
  (JeA:JI P w K mg base "_law_paying" ["_law_state", "_law_who", "_law_week"] Jkg 5 f3 fd3)
  (Jen:JI P w K mg base "_law_net" ["_law_state", "_law_who", "_law_month", "_law_last"] JpB 3 f4 fd4)
  (Yz:JI P w K mg base "_law_all_nets" ["_law_state", "_law_who", "_law_last"] JdJ 4 f5 fd5):YO P w K mg base CX0 6 f fd ["_law_state", "_law_deed"] JlT:=by
 refine F.ok Jd8 (fun vs H Q E h=>?_) (fun cdv A outer s0 H vs Q E hr h=>?_)
 .obtain⟨_,_,_,_,_,_,_,_,rfl,_⟩ :=h;rfl
 .obtain⟨st,L,b,ms,B,n,d,v,rfl,hL0,hn,hrep0,dok,k⟩ :=h;have hu:=JbB hr;obtain⟨a,r,rfl,ht0⟩ :=JfA hrep0
  refine⟨_,(Jd (Jl 2 Jd8.nd (Jo Ja7 (hr.mono (by decide)) (Jc (pw 0) (pa1 (pw 1)))))
   (Jd (JL (Jq JdX (pw 2) Jt (Jx _)) (Jg (Jn (pw 2))) Jr)
   (Jd (JL (Jq Y1 (Ju Js (pw 1) Jb (fun _ _=>rfl)) Jt (Jx _)) (Jd (YI hu (J6 hu (pw 0) Jt (fun _ _=>rfl)) (J2 (Jc (Ju Js (pw 1) Jb (fun _ _=>rfl)) (pa1 (Ju Js (pw 1) Jb (fun _ _=>rfl))))) (Ju Js (pw 1) Jb (fun _ _=>rfl)) rfl)
   (Jg (Jn (Jo JbC (hr.mono (by decide)) (Jc (pw 0) (Jc (Ju Js (pw 1) Jb (fun _ _=>rfl)) (pa1 (Jk YU (Ju Js (pw 1) Jb (fun _ _=>rfl)) Jb)))))))) Jr)
   (Jd (JL (PW.pt (JbI (Jq Y1 (Ju Js (pw 1) Jb (fun _ _=>rfl)) Jt (Jx _)) (JaX (Jq Y1 (Ju Js (pw 1) Jb (fun _ _=>rfl)) Jt (Jx _))))) (Jd (YI hu (J6 hu (pw 0) (Ju JK (Yd (Jc Jt (pa1 Jt))) (YK JdG (by rfl) Z.z_int Jgm (pa1 (Jcl Y1 (Ju Js (pw 1) Jb (fun _ _=>rfl)) Jt (Jx _)))) (fun _ _=>rfl)) (fun _ _=>rfl)) (Ju Js (pw 1) Jb (fun _ _=>rfl)) (Ju Js (pw 1) Jb (fun _ _=>rfl)) rfl)
   (Jg (Jn Jt))) Jr)
   (Jd (JL (Jq Y1 (Ju Js (pw 1) Jb (fun _ _=>rfl)) Jt (Jx _)) (Jg (Jn (Jo JeA (hr.mono (by decide)) (Jc (pw 0) (Jc (Ju Js (pw 1) Jb (fun _ _=>rfl)) (pa1 (Ju Js (pw 1) Jb (fun _ _=>rfl)))))))) Jr)
   (Jd (JL (Jq Y1 (Ju Js (pw 1) Jb (fun _ _=>rfl)) Jt (Jx _)) (Jg (Jn (Jo JbC (hr.mono (by decide)) (Jc (pw 0) (Jc (Ju Js (pw 1) Jb (fun _ _=>rfl)) (pa1 (Ju Js (pw 1) Jb (fun _ _=>rfl)))))))) Jr)
   (Jd (JL (Jq Y1 (Ju Js (pw 1) Jb (fun _ _=>rfl)) Jt (Jx _)) (Jg (Jn (Jo Jen (hr.mono (by decide)) (Jc (pw 0) (Jc (Ju Js (pw 1) Jb (fun _ _=>rfl)) (Jc (Jk YU (Ju Js (pw 1) Jb (fun _ _=>rfl)) Jb) (pa1 (Ju Js (pw 1) Jb (fun _ _=>rfl))))))))) Jr)
   (Jd (Jl 3 Jd8.nd (Y9 hu (J6 hu (pw 0) Jt (fun _ _=>rfl)) (Ju Js (pw 1) Jb (fun _ _=>rfl)) Jb (by constructor<;>rfl)))
   (Jd (JL (Jq Y1 (Ju Js (pw 1) Jb (fun _ _=>rfl)) Jt (Jx _)) (Jg (Jn (pw 3))) Jr)
   (Jd (Jl 4 Jd8.nd (Jp (JaJ rfl) (by rfl) Z.z_sum JcV (pa1 (Jo Yz (hr.mono (by decide)) (Jc (pw 0) (Jc (Ju Js (pw 1) Jb (fun _ _=>rfl)) (pa1 (Ju Js (pw 1) Jb (fun _ _=>rfl)))))))))
   (Jg (Jn (Jk JW (pw 4) (Jk J7 (pw 3) (YK JdG (by rfl) Z.z_int Jgm (pa1 (Jcl Y1 (Ju Js (pw 1) Jb (fun _ _=>rfl)) Jt (Jx _)))))))))))))))))),fun _ nz=>?_⟩
  refine⟨st,L,b,ms,B,d,_,rfl,hL0.sta,hL0.bk,hrep0,dok,fun H1 s1=>?_⟩;refine nz fun _ nz=>⟨rfl,_,rfl,?_⟩;refine JT (fun h=>?_) (fun h=>nz fun _ nz=>?_)
  .have hne:Jdn B d≠"":=fun z=>by
    rw[z]at h;simp at h
   have e:=Jqd (ms:=ms) hne;refine k _ H1 (YC.of s1) ?_ ?_
   .rw[e];exact(hL0.same s1).le (by omega)
   .rw[e];exact Jef.str
  have hno:Jdn B d = "":=by
   by_cases c:Jdn B d = ""
   .exact c
   .exact absurd (by rw[decide_eq_false (fun y=>c (V.str.inj y))];rfl) h
  have hL:=hL0.same s1;have ht:=s1 _ _ ht0;have hrep:=Rep.same s1 hrep0;refine⟨a,_,0,_,rfl,rfl,SqT.of ht,Jh (j:=0) rfl,rfl,_,rfl,?_⟩;refine JT (fun h=>fun _ ny=>?_) (fun h1=>nz fun _ nz=>?_)
  .obtain⟨who,day,many,rfl⟩ :=Jhw (JbR h)
   next=>
    obtain⟨_,vs,e,ht,_,_,rfl,rfl,_,_,rfl,rfl,_,_,rfl,rfl,_,_,rfl,rfl,rfl⟩ :=hrep;cases e
    have c:0<=many/\many<=24:=by
     by_cases c:0<=many/\many<=24
     .exact c
     .rw[show Jdn B (.hours who day many) = "no hours" from if_neg c]at hno;exact absurd hno (by decide +kernel)
    have es:step ms B (.hours who day many)=(.int (wages { B with hrs:=fun y d=>if y=who/\d=day then many else B.hrs y d } who (day/7)),{ B with hrs:=fun y d=>if y=who/\d=day then many else B.hrs y d }):=if_pos c;obtain⟨kvs,e0,eh,_⟩ :=hL.sta.kvs;obtain⟨hvs,e1,_⟩ :=hL.bk.hours;have hl:=hL.hl _ e1;refine⟨a,_,3,.int many,rfl,rfl,SqT.of ht,Jh (j:=3) rfl,st,.ref L.hours,rfl,by rw[<- eh];exact Jbc.k (k:=A8 "hours") e0,?_⟩;refine⟨a,_,1,.str who,rfl,rfl,SqT.of ht,Jh (j:=1) rfl,a,_,2,.int day,rfl,rfl,SqT.of ht,Jh (j:=2) rfl,zs2,fun t nt=>?_⟩;have q1:=Jg2 (o:=HO.tup [V.str who,V.int day]) nt;generalize upd H1 t (.tup [V.str who,V.int day])=H2 at q1 ⊢;obtain⟨w1,q1⟩ :=q1;have e2:=w1 _ _ e1;refine⟨L.hours,_,rfl,Jei.t (k:=[A8 who,Az day]) e2 q1 (Jy (by omega)),?_⟩;have L3:=(hL.same w1).putHours e2 who day many c;have k3:YC L H2 (upd H2 L.hours (.dT (Yt hvs [A8 who,Az day] (.int many)))):=YC.put (by simp[LSt.all]);have ht3:=((hL.same w1).sameS k3).1 _ _ (w1 _ _ ht);generalize upd H2 L.hours (.dT (Yt hvs [A8 who,Az day] (.int many)))=H3 at L3 k3 ht3 ⊢;refine ny ⟨a,_,1,.str who,rfl,rfl,SqT.of ht3,Jh (j:=1) rfl,a,_,2,.int day,rfl,rfl,SqT.of ht3,Jh (j:=2) rfl,?_⟩;refine⟨⟨by decide,by decide⟩,st,L,b,ms,_,who,day/7,rfl,L3.sta,L3.bk,L3.ok,fun H4 s4=>?_⟩;refine k _ H4 ((YC.of (s1.trans w1)).trans (k3.trans (YC.of s4))) ?_ ?_
    .rw[es];exact(L3.same s4).le (by omega)
    .rw[es];exact Jef.int
  have n1:=Jdp h1;refine⟨a,_,0,_,rfl,rfl,SqT.of ht,Jh (j:=0) rfl,rfl,_,rfl,?_⟩;refine JT (fun h=>?_) (fun h2=>?_)
  .refine JfH ?_;obtain⟨week,bs,rfl⟩ :=Jlg (JbR h)
   next=>
    obtain⟨_,vs,e,ht,_,_,rfl,rfl,_,_,rfl,rfl,u,_,rfl,hu2,rfl⟩ :=hrep;cases e
    obtain⟨a2,rfl⟩:∃a2,u=.ref a2:=let ⟨a2,_,e,_⟩ :=hu2;⟨a2,e⟩
    refine fun _ ny=>?_
    have c:Jbo none bs=true:=by
     by_cases c:Jbo none bs=true
     .exact c
     .rw[show Jdn B (.rate week bs) = "no table" from if_neg c]at hno;exact absurd hno (by decide +kernel)
    have es:step ms B (.rate week bs)=(.str "told",{ B with rates:=Jax B.rates week bs }):=if_pos c;obtain⟨kvs,e0,_,er,_⟩ :=hL.sta.kvs;obtain⟨rvs,e1,_⟩ :=hL.bk.rates;have hl:=hL.kl L.rates (by simp) _ e1;refine⟨a,_,2,.ref a2,rfl,rfl,SqT.of ht,Jh (j:=2) rfl,zs2,fun l nl=>?_⟩;have q1:=Jg2 (o:=HO.lst [V.str "dues",V.str "rates"]) nl;generalize upd H1 l (.lst [V.str "dues",V.str "rates"])=H2 at q1 ⊢;obtain⟨w1,q1⟩ :=q1;have ht2:=w1 _ _ ht;have e2:=w1 _ _ e1;refine⟨a,_,0,.str "rate",rfl,rfl,SqT.of ht2,Jh (j:=0) rfl,rfl,.inr ⟨_,rfl,l,_,1,.str "rates",rfl,?_,SqL.of q1,Jh (j:=1) rfl,st,.ref L.rates,rfl,by rw[<- er];exact Jbc.k (k:=A8 "rates") (w1 _ _ e0),a,_,1,.int week,rfl,rfl,SqT.of ht2,Jh (j:=1) rfl,L.rates,_,rfl,Jei.k (k:=Az week) e2 (Jy (by omega)),?_⟩⟩
    .rw[JgE];rfl
    have k3:YC L H2 (upd H2 L.rates (.dK (Yt rvs (Az week) (.ref a2)))):=YC.put (by simp[LSt.all]);have L3:=(hL.same w1).putRate e2 week ⟨a2,rfl,(JB.mpr hu2).same w1⟩ c dok;refine ny ?_;refine k _ _ ((YC.of (s1.trans w1)).trans k3) ?_ ?_
    .rw[es];exact L3.le (by omega)
    .rw[es];exact Jef.str
  have n2:=Jdp h2;refine⟨a,_,0,_,rfl,rfl,SqT.of ht,Jh (j:=0) rfl,rfl,_,rfl,?_⟩;refine JT (fun h=>fun _ ny=>?_) (fun h3=>nz fun _ nz=>?_)
  .obtain⟨month,t,rfl⟩ :=JmC (JbR h)
   next=>
    obtain⟨_,vs,e,ht,_,_,rfl,rfl,_,_,rfl,rfl,u,_,rfl,hu2,rfl⟩ :=hrep;cases e;obtain⟨a2,vs2,rfl,ht3,u2,_,rfl,hu3,_,_,rfl,rfl,_,_,rfl,rfl,rfl⟩ :=hu2
    obtain⟨a3,rfl⟩:∃a3,u2=.ref a3:=let ⟨a3,_,e,_⟩ :=hu3;⟨a3,e⟩
    have c:Jd2 t=true:=by
     by_cases c:Jd2 t=true
     .exact c
     .rw[show Jdn B (.dues month t) = "no table" from if_neg c]at hno;exact absurd hno (by decide +kernel)
    have es:step ms B (.dues month t)=(.str "told",{ B with dues:=Jax B.dues month t }):=if_pos c;obtain⟨kvs,e0,_,_,er,_⟩ :=hL.sta.kvs;obtain⟨rvs,e1,_⟩ :=hL.bk.dues;have hl:=hL.kl L.dues (by simp) _ e1;refine⟨a,_,2,.ref a2,rfl,rfl,SqT.of ht,Jh (j:=2) rfl,zs2,fun l nl=>?_⟩;have q1:=Jg2 (o:=HO.lst [V.str "dues",V.str "rates"]) nl;generalize upd H1 l (.lst [V.str "dues",V.str "rates"])=H2 at q1 ⊢;obtain⟨w1,q1⟩ :=q1;have ht2:=w1 _ _ ht;have e2:=w1 _ _ e1;refine⟨a,_,0,.str "dues",rfl,rfl,SqT.of ht2,Jh (j:=0) rfl,rfl,.inr ⟨_,rfl,l,_,0,.str "dues",rfl,?_,SqL.of q1,Jh (j:=0) rfl,st,.ref L.dues,rfl,by rw[<- er];exact Jbc.k (k:=A8 "dues") (w1 _ _ e0),a,_,1,.int month,rfl,rfl,SqT.of ht2,Jh (j:=1) rfl,L.dues,_,rfl,Jei.k (k:=Az month) e2 (Jy (by omega)),?_⟩⟩
    .rw[decide_eq_false (fun z=>absurd (V.str.inj z) (by decide +kernel))];rfl
    have k3:YC L H2 (upd H2 L.dues (.dK (Yt rvs (Az month) (.ref a2)))):=YC.put (by simp[LSt.all]);have L3:=(hL.same w1).putDues e2 month ⟨a2,a3,rfl,w1 _ _ ht3,(JB.mpr hu3).same w1⟩ c dok;refine ny ?_;refine k _ _ ((YC.of (s1.trans w1)).trans k3) ?_ ?_
    .rw[es];exact L3.le (by omega)
    .rw[es];exact Jef.str
  have n3:=Jdp h3;refine⟨a,_,0,_,rfl,rfl,SqT.of ht,Jh (j:=0) rfl,rfl,_,rfl,?_⟩;refine JT (fun h=>?_) (fun h4=>nz fun _ nz=>?_)
  .obtain⟨who,week,rfl⟩ :=Jfv (JbR h)
   next=>
    obtain⟨_,vs,e,ht,_,_,rfl,rfl,_,_,rfl,rfl,_,_,rfl,rfl,rfl⟩ :=hrep;cases e
    have c:¬early B who week=true:=fun c=>by
     rw[show Jdn B (.payday who week) = "too early" from if_pos c]at hno;exact absurd hno (by decide +kernel)
    have es:step ms B (.payday who week)=(JoK ms B who week,Jrj ms B who week):=if_neg c;refine⟨a,_,1,.str who,rfl,rfl,SqT.of ht,Jh (j:=1) rfl,a,_,2,.int week,rfl,rfl,SqT.of ht,Jh (j:=2) rfl,st,L,b,ms,B,n,who,week,rfl,hL,hn,fun r H2 k2 L2 x2=>?_⟩;refine k r H2 ((YC.of s1).trans k2) ?_ ?_
    .rw[es];exact L2
    .rw[es];exact x2.from (Ye.of s1)
  have n4:=Jdp h4;refine⟨a,_,0,_,rfl,rfl,SqT.of ht,Jh (j:=0) rfl,rfl,_,rfl,?_⟩;refine JT (fun h=>?_) (fun h5=>nz fun _ nz=>?_)
  .obtain⟨who,week,rfl⟩ :=JqE (JbR h)
   next=>
    obtain⟨_,vs,e,ht,_,_,rfl,rfl,_,_,rfl,rfl,_,_,rfl,rfl,rfl⟩ :=hrep;cases e;exact⟨a,_,1,.str who,rfl,rfl,SqT.of ht,Jh (j:=1) rfl,a,_,2,.int week,rfl,rfl,SqT.of ht,Jh (j:=2) rfl,st,L,b,ms,B,who,week,rfl,hL.sta,hL.bk,hL.ok,fun H2 s2=>k _ H2 (YC.of (s1.trans s2)) ((hL.same s2).le (by omega)) Jef.int⟩
  have n5:=Jdp h5;refine⟨a,_,0,_,rfl,rfl,SqT.of ht,Jh (j:=0) rfl,rfl,_,rfl,?_⟩;refine JT (fun h=>?_) (fun h6=>nz fun _ nz=>?_)
  .obtain⟨who,week,rfl⟩ :=Jp4 (JbR h)
   next=>
    obtain⟨_,vs,e,ht,_,_,rfl,rfl,_,_,rfl,rfl,_,_,rfl,rfl,rfl⟩ :=hrep;cases e;exact⟨a,_,1,.str who,rfl,rfl,SqT.of ht,Jh (j:=1) rfl,a,_,2,.int week,rfl,rfl,SqT.of ht,Jh (j:=2) rfl,⟨by decide,by decide⟩,a,_,2,.int week,rfl,rfl,SqT.of ht,Jh (j:=2) rfl,st,L,b,ms,B,who,week/4,week,rfl,hL.sta,hL.bk,hL.ok,fun H2 s2=>k _ H2 (YC.of (s1.trans s2)) ((hL.same s2).le (by omega)) Jef.int⟩
  have n6:=Jdp h6;obtain⟨kvs,e0,_,_,_,ep,_⟩ :=hL.sta.kvs;obtain⟨pvs,e1,rp⟩ :=hL.bk.paid
  cases d with
  | paid who=>
   obtain⟨_,vs,e,ht,_,_,rfl,rfl,_,_,rfl,rfl,rfl⟩ :=hrep;cases e;refine⟨st,.ref L.paid,rfl,by rw[<- ep];exact Jbc.k (k:=A8 "paid") e0,L.paid,rfl,.inl ⟨pvs,.inl e1⟩,a,_,1,.str who,rfl,rfl,SqT.of ht,Jh (j:=1) rfl,_,Jbc.k (k:=A8 who) e1,?_⟩;rw[rp];refine nz fun _ nz=>⟨a,_,0,_,rfl,rfl,SqT.of ht,Jh (j:=0) rfl,rfl,_,rfl,?_⟩;refine JT (fun _=>?_) (fun h=>absurd JgE h);exact k _ H1 (YC.of s1) (hL.le (by omega)) Jef.int
  | right who week=>
   obtain⟨_,vs,e,ht,_,_,rfl,rfl,_,_,rfl,rfl,_,_,rfl,rfl,rfl⟩ :=hrep;cases e;refine⟨st,.ref L.paid,rfl,by rw[<- ep];exact Jbc.k (k:=A8 "paid") e0,L.paid,rfl,.inl ⟨pvs,.inl e1⟩,a,_,1,.str who,rfl,rfl,SqT.of ht,Jh (j:=1) rfl,_,Jbc.k (k:=A8 who) e1,?_⟩;rw[rp];refine nz fun _ nz=>⟨a,_,0,_,rfl,rfl,SqT.of ht,Jh (j:=0) rfl,rfl,_,rfl,?_⟩;refine JT (fun h=>absurd h (JoE (by decide +kernel))) (fun _=>nz fun _ nz=>?_);refine⟨a,_,1,.str who,rfl,rfl,SqT.of ht,Jh (j:=1) rfl,a,_,2,.int week,rfl,rfl,SqT.of ht,Jh (j:=2) rfl,st,L,b,ms,B,who,week,rfl,hL.sta,hL.bk,hL.ok,hL.few,fun l H2 s2 nl el=>?_⟩;refine⟨l,ms.map fun m=>netS B who m week,rfl,SqL.of (by rw[el,List.map_map];rfl),?_⟩;have ht2:=s2 _ _ ht;refine nz ⟨a,_,0,_,rfl,rfl,SqT.of ht2,Jh (j:=0) rfl,rfl,.inr ⟨_,rfl,.inl (.inr ?_),?_⟩⟩
   .rw[decide_eq_false (fun z=>absurd (V.str.inj z) (by decide +kernel))];exact⟨by decide,by decide⟩
   .have:=k (.int (rightS ms B who week)) H2 (YC.of (s1.trans s2)) ((hL.same s2).le (by omega)) Jef.int;have c:decide (V.str "right" = V.str "owing")=false:=decide_eq_false (fun z=>absurd (V.str.inj z) (by decide +kernel));rw[show rightS ms B who week=(ms.map fun m=>netS B who m week).sum-B.paid who*(if decide (V.str "right" = V.str "owing")=true then 1 else 0) by rw[c,if_neg Bool.false_ne_true,Int.mul_zero,Int.sub_zero];rfl]at this;exact this
  | owing who week=>
   obtain⟨_,vs,e,ht,_,_,rfl,rfl,_,_,rfl,rfl,_,_,rfl,rfl,rfl⟩ :=hrep;cases e;refine⟨st,.ref L.paid,rfl,by rw[<- ep];exact Jbc.k (k:=A8 "paid") e0,L.paid,rfl,.inl ⟨pvs,.inl e1⟩,a,_,1,.str who,rfl,rfl,SqT.of ht,Jh (j:=1) rfl,_,Jbc.k (k:=A8 who) e1,?_⟩;rw[rp];refine nz fun _ nz=>⟨a,_,0,_,rfl,rfl,SqT.of ht,Jh (j:=0) rfl,rfl,_,rfl,?_⟩;refine JT (fun h=>absurd h (JoE (by decide +kernel))) (fun _=>nz fun _ nz=>?_);refine⟨a,_,1,.str who,rfl,rfl,SqT.of ht,Jh (j:=1) rfl,a,_,2,.int week,rfl,rfl,SqT.of ht,Jh (j:=2) rfl,st,L,b,ms,B,who,week,rfl,hL.sta,hL.bk,hL.ok,hL.few,fun l H2 s2 nl el=>?_⟩;refine⟨l,ms.map fun m=>netS B who m week,rfl,SqL.of (by rw[el,List.map_map];rfl),?_⟩;have ht2:=s2 _ _ ht;refine nz ⟨a,_,0,_,rfl,rfl,SqT.of ht2,Jh (j:=0) rfl,rfl,.inr ⟨_,rfl,.inl (.inr ?_),?_⟩⟩
   .rw[JgE];exact⟨by decide,by decide⟩
   .have:=k (.int (rightS ms B who week-B.paid who)) H2 (YC.of (s1.trans s2)) ((hL.same s2).le (by omega)) Jef.int;rw[show rightS ms B who week-B.paid who=(ms.map fun m=>netS B who m week).sum-B.paid who*(if decide (V.str "owing" = V.str "owing")=true then 1 else 0) by rw[JgE,if_pos rfl,Int.mul_one];rfl]at this;exact this
  | hours who day many=>exact absurd rfl n1
  | rate week bs=>exact absurd rfl n2
  | dues month t=>exact absurd rfl n3
  | payday who week=>exact absurd rfl n4
  | pay who week=>exact absurd rfl n5
  | net who week=>exact absurd rfl n6
end
end TLA
namespace TLA
open PySem PySem.Spec PyProof.Rows L2 Wb
section
variable {P:Program} {w:World} {K:WF} {mg:Str→Option Value} {base:Heap} {CB CP fBI fPI CH CN CT:Addr}
inductive JjM(vs:List V)(H:Hp)(Q:VK):Prop
 | mk (a:Addr) (ns:List Int) (kk:Int) (h1:vs=[.ref a,.int kk]) (h2:SqL K H a (ns.map V.int)) (h3:0<=kk) (h4:kk<ns.length) (h5:∀d v H',JX H H'->Rep H' (Jbi d) v->Ja1 d->JpL ns d->Q v H'):JjM vs H Q
noncomputable def Jj7:Sp:=fun vs H Q _=>JjM (K:=K) vs H Q
theorem JmB{f f1 f2 f3 f4 f5:Addr}{fd fd1 fd2 fd3 fd4 fd5:FuncData}(F:Fun K "_law_penned" "_law_penned" Jc3 f fd)(Z:Zs mg)
  (Jeu:JI P w K mg base "_law_spoilt" ["_law_bands", "_law_seed"] JjC 1 f1 fd1)
  (Jey:JI P w K mg base "_law_banded" ["_law_first", "_law_second", "_law_most"] JjQ 1 f2 fd2)
  (J5:JI P w K mg base "_law_so_far" ["_law_cells"] (JfK (K:=K)) 1 f3 fd3)
  (JN:JI P w K mg base "_law_first_month" ["_law_cells"] (Jhb (K:=K)) 1 f4 fd4)
  (YY:JI P w K mg base "_law_people" ["_law_cells"] (Jfc (K:=K)) 1 f5 fd5) :
  YO P w K mg base CX0 2 f fd ["_law_cells", "_law_k"] (Jj7 (K:=K)):=by
 refine F.ok JS (fun vs H Q E h=>?_) (fun cdv A outer s0 H vs Q E hr h=>?_)
 .obtain⟨_,_,_,rfl,_⟩ :=h;rfl
 .obtain⟨a,ns,kk,rfl,ha,h0,h1,k⟩ :=h
  refine⟨_,(Jd (Jl 2 JS.nd (Ju JK (pw 0) (Jk JC (Jk JF (pw 1) Jb) (Jp JO (by rfl) Z.z_len Jbj (pa1 (pw 0)))) (fun _ _=>rfl)))
   (Jd (Jl 3 JS.nd (Ju JK (pw 0) (Jk JC (Jk JF (pw 1) Jb) (Jp JO (by rfl) Z.z_len Jbj (pa1 (pw 0)))) (fun _ _=>rfl)))
   (Jd (Jl 4 JS.nd (Ju JK (Jo YY (hr.mono (by decide)) (pa1 (pw 0))) (Jk JC (Jk JF (pw 2) (pw 1)) Jb) (fun _ _=>rfl)))
   (Jd (Jl 5 JS.nd (Jo JN (hr.mono (by decide)) (pa1 (pw 0))))
   (Jd (Jl 6 JS.nd (Jo J5 (hr.mono (by decide)) (pa1 (pw 0))))
   (Jd (Jl 7 JS.nd (Jk JC (Jk JF (Ju JK (pw 0) (pw 1) (fun _ _=>rfl)) (Jk J7 Jb (pw 1))) Jb))
   (Jd (JL (Jq JcO (pw 7) Jb (Jx _)) (Jd (Jl 8 JS.nd (Jk JC (Jk JF (Jk YU (Ju JK (pw 0) (pw 1) (fun _ _=>rfl)) Jb) (Jk J7 Jb (pw 1))) Jb))
   (JaO (JL (Jq Y1 (Jk JC (Ju JK (pw 0) (pw 1) (fun _ _=>rfl)) Jb) Jb (Jx _)) (Jg (Jl 8 JS.nd (Ju JK (Yd (Jc Jb (Jc (Jdh (op:=.USub) Jaw Jb) (Jc (Jk JaG Jb Jb) (Jc (Jk JF Jb (Jk JC (pw 2) (Jk JaG Jb Jb))) (pa1 (Jk JW (Jdh (op:=.USub) Jaw Jb) (Jk JC (pw 2) (Jk JaG Jb Jb))))))))) (Jk JC (pw 2) Jb) (fun _ _=>rfl)))) Jr)
   (Jg (Jn (J2 (Jc Jt (Jc (pw 4) (Jc (Jk JF (Jk J7 (Jk JW (Jk JC (Jk JF (pw 3) (Jk J7 Jb (pw 1))) Jb) Jb) (pw 6)) (Jk J7 Jb (pw 5))) (pa1 (pw 8)))))))))) Jr)
   (Jd (Jl 9 JS.nd (Jo Jey (hr.mono (by decide)) (Jc (pw 2) (Jc (pw 3) (pa1 (Ju JK (Yd (Jc JcD (pa1 Jb))) (YK JdG (by rfl) Z.z_int Jgm (pa1 (Jcl JfC (pw 7) (Yd (Jc Jb (pa1 Jb))) (by with_unfolding_all rfl)))) (fun _ _=>rfl)))))))
   (JaO (JL (Jq Y1 (Jk JC (Ju JK (pw 0) (pw 1) (fun _ _=>rfl)) Jb) Jb (Jx _)) (Jg (Jl 9 JS.nd (Jo Jeu (hr.mono (by decide)) (Jc (pw 9) (pa1 (Jk JF (pw 2) (pw 3))))))) Jr)
   (Jd (JL (Jq JcO (pw 7) Jb (Jx _)) (Jg (Jn (J2 (Jc Jt (Jc (Jk JF (Jk J7 (Jk JW (Jk JC (Jk JF (pw 3) (pw 1)) Jb) Jb) (pw 6)) (Jk J7 Jb (pw 5))) (pa1 (pw 9))))))) Jr)
   (Jd (JL (Jq JcO (pw 7) Jb (Jx _)) (Jd (Jl 10 JS.nd (J2 (Jc (pw 9) (Jc (Jk JC (pw 2) Jb) (pa1 (Jk JF Jb (Jk JC (pw 3) Jb)))))))
   (JaO (JL (Jq Y1 (Jk JC (Ju JK (pw 0) (pw 1) (fun _ _=>rfl)) Jb) Jb (Jx _)) (Jg (Jl 10 JS.nd (J2 (Jc (pw 9) (Jc (Ju JK (Yd (Jc (Jdh (op:=.USub) Jaw Jb) (Jc Jb (pa1 (Jk JW Jb (Jk JC (pw 2) (Jk JaG Jb Jb))))))) (Jk JC (pw 2) Jb) (fun _ _=>rfl)) (pa1 (Ju JK (Yd (Jc Jb (Jc Jb (pa1 (Jk JW Jb (Jk JC (pw 3) (Jk JaG Jb Jb))))))) (Jk JC (pw 3) Jb) (fun _ _=>rfl)))))))) Jr)
   (JaO (JL (Jq Y1 (Jk JC (Ju JK (pw 0) (pw 1) (fun _ _=>rfl)) Jb) Jb (Jx _)) (Jg (Jl 10 JS.nd (J2 (Jc (J2 (Jc (J2 (Jc Jb (pa1 Jb))) (pa1 (J2 (Jc JcD (pa1 Jb)))))) (Jc Jb (pa1 Jb)))))) Jr)
   (JaO (JL (Jq Y1 (Jk JC (Ju JK (pw 0) (pw 1) (fun _ _=>rfl)) Jb) Jb (Jx _)) (Jd (Jl 11 JS.nd (Ju JK (Yd (Jc Jb (pa1 (Jk JC (pw 2) (Jk JW (Jk J7 (Jk JaG Jb Jb) (Jk JaG Jb Jb)) Jb))))) (Jk JC (pw 2) Jb) (fun _ _=>rfl)))
   (Jg (Jl 10 JS.nd (J2 (Jc (pw 9) (Jc (pw 11) (pa1 (Ju JK (Yd (Jc (Jk JF Jb (Jk JC (pw 3) (Jk JaG Jb Jb))) (pa1 Jb))) (Jk JC (pw 3) Jb) (fun _ _=>rfl))))))))) Jr)
   (Jg (Jn (J2 (Jc Jt (Jc (Jk JF (Jk J7 (Jk JW (Jk JC (Jk JF (pw 3) (pw 1)) Jb) Jb) (pw 6)) (pw 5)) (pa1 (pw 10))))))))))) Jr)
   (Jd (Jl 12 JS.nd (Jk JF (Jk J7 (Jk JW (Jk JC (Jk JF (pw 2) (Jk YU (pw 1) Jb)) Jb) Jb) (pw 6)) (Jk J7 Jb (pw 5))))
   (Jd (JL (Jq JcO (pw 7) Jb (Jx _)) (Jg (Jn (J2 (Jc Jt (Jc (pw 4) (pa1 (Jk JF (Jk J7 (Jk JW (Jk JF (Jp (Jcy rfl) (by rfl) Z.z_min JhL (Jc Jb (pa1 (Jk YU (pw 1) Jb)))) (Jk JC (pw 3) Jb)) Jb) (pw 6)) (Jk J7 Jb (pw 5))))))))) Jr)
   (Jd (JL (PW.pt (Jcu (Jq Y1 (pw 7) Jb (Jx _)) (Jbe (Jq Y1 (Jk JC (pw 3) Jb) Jb (Jx _))))) (Jg (Jn (J2 (Jc Jt (pa1 (pw 4)))))) Jr)
   (Jg (Jn (J2 (Jc (Ju JK (Yd (Jc Jt (Jc Jt (Jc Jt (pa1 Jt))))) (Jk JW (pw 7) Jb) (fun _ _=>rfl)) (Jc (pw 4) (pa1 (pw 12))))))))))))))))))))),fun _ nz=>?_⟩
  have hpos:0<ns.length:=by omega
  obtain⟨near,hnear⟩ :=Jki hpos (kk+1);obtain⟨far,hfar⟩ :=Jki hpos (kk+2);obtain⟨c,hc⟩ :=JiS h0 h1;obtain⟨who,hwho,hmem⟩ :=JqD ns (near+kk)
  have lpos:(0:Int)<((ns.map V.int).length:Nat):=by rw[A2];omega
  refine⟨a,_,rfl,.inl ha,lpos,a,_,_,.int near,rfl,rfl,ha,hnear,?_⟩;refine nz fun _ nz=>⟨a,_,rfl,.inl ha,lpos,a,_,_,.int far,rfl,rfl,ha,hfar,?_⟩;refine nz fun _ nz=>⟨a,ns,rfl,ha,fun l H1 s1 _ hl=>⟨(by show(0:Int)<3;decide),l,_,_,.str who,rfl,rfl,SqL.of hl,hwho,?_⟩⟩;have ha1:=s1.seq ha;refine nz fun _ nz=>⟨a,ns,rfl,ha1,fun H2 s2=>?_⟩;refine nz fun _ nz=>⟨a,ns,rfl,s2.seq ha1,fun H3 s3=>?_⟩;have s:=(s1.trans s2).trans s3;have ha3:=s.seq ha;clear s1 s2 s3 ha1 hl;refine nz fun _ nz=>⟨a,_,_,.int c,rfl,rfl,ha3,hc,Yj (by decide) (by decide),(by show(0:Int)<16;decide),?_⟩
  have hp0:0<=(c+5*kk)%16/\(c+5*kk)%16<16:=by omega
  refine nz fun _ nz=>⟨_,rfl,?_⟩;refine JT (fun _=>fun _ ny=>?_) (fun _=>nz fun _ nz=>?_)
  .-- hours
   refine⟨a,_,_,.int c,rfl,rfl,ha3,hc,⟨by decide,by decide⟩,Yj (by decide) (by decide),(by show(0:Int)<25;decide),?_⟩;refine ny ⟨fun σ' H'=>∃many:Int,σ'=[some (.ref a),some (.int kk),some (.int near),some (.int far),some (.str who),some (.int (JA ns)),some (.int (J3 ns)),some (.int ((c+5*kk)%16)),some (.int many),none,none,none,none]/\JX H H',?_,?_⟩
   .refine⟨a,_,_,.int c,rfl,rfl,ha3,hc,(by show(0:Int)<29;decide),rfl,_,rfl,?_⟩;refine JT (fun _=>?_) (fun _=>⟨_,rfl,s⟩);refine⟨⟨by decide,by decide,by decide⟩,⟨by decide,by decide,by decide⟩,(by show(0:Int)<10^(60:Int).toNat;decide),⟨by decide,by decide,by decide⟩,(by show(0:Int)<10^(60:Int).toNat;decide),(by show 5<=B2;decide),fun l hl=>?_⟩
    obtain⟨m,hm⟩:∃m,atI [V.int 25,V.int (-1),V.int (10^(12:Int).toNat),V.int (25+near%10^(60:Int).toNat),V.int (-1-near%10^(60:Int).toNat)] (near%5)=some (.int m):=by
     have m5:near%5=0\/near%5=1\/near%5=2\/near%5=3\/near%5=4:=by omega
     rcases m5 with h|h|h|h|h<;>rw[h]<;>exact⟨_,rfl⟩
    exact⟨(by show(0:Int)<5;decide),l,_,_,.int m,rfl,rfl,SqL.of Ja,hm,m,rfl,s.trans (Je hl)⟩
   .rintro σ' H4 ⟨many,rfl,s4⟩
    have m70:0<=(far+11*kk)%70/\(far+11*kk)%70<70:=by omega
    refine⟨Yj (by decide) (by decide),(by show(0:Int)<70;decide),Yj (by omega) (by omega),Yj (by decide) (by decide),zs4,fun t ht=>?_⟩;exact k (.hours who (((far+11*kk)%70-12)*J3 ns+28*JA ns) many) _ _ (s4.trans (Je ht)) (Jh4 Ja) trivial ⟨hmem,Joe m70.1 m70.2⟩
  refine⟨zs2,fun l1 hl1=>⟨zs2,fun l2 hl2=>?_⟩⟩;refine⟨l2,_,rfl,.inl (SqL.of Ja),rfl,rfl,.inr ⟨_,rfl,l1,_,_,_,rfl,rfl,SqL.of (Je hl2 _ _ Ja),Jr1,near,far,_,rfl,fun ba bs H4 s4 hb good=>?_⟩⟩;have s5:JX H H4:=((s.trans (Je hl1)).trans (Je hl2)).trans s4;clear s4 hl1 hl2;refine nz ⟨fun σ' H'=>∃v,σ'=[some (.ref a),some (.int kk),some (.int near),some (.int far),some (.str who),some (.int (JA ns)),some (.int (J3 ns)),some (.int ((c+5*kk)%16)),none,some v,none,none,none]/\JX H H'/\Jhy H' v,?_,?_⟩
  .refine⟨a,_,_,.int c,rfl,rfl,s5.seq ha,hc,(by show(0:Int)<19;decide),rfl,_,rfl,?_⟩;refine JT (fun _=>?_) (fun _=>⟨_,rfl,s5,ba,bs,rfl,hb,good.b⟩);exact⟨ba,bs,_,rfl,hb,good.b,good.wf.ne,good.len,fun v H5 s6 av=>⟨v,rfl,s5.trans s6,av⟩⟩
  rintro σ' H5 ⟨v,rfl,s6,ba2,bs2,rfl,hb2,bb2⟩;clear s5 hb good s;generalize(c+5*kk)%16=pick at hp0 ⊢;refine fun _ ny=>⟨_,rfl,?_⟩;refine JT (fun _=>?_) (fun _=>ny fun _ ny=>?_)
  .have m10:0<=(far+kk)%10/\(far+kk)%10<10:=by omega
   refine⟨(by show(0:Int)<10;decide),Yj (by omega) (by omega),Yj (by decide) (by decide),zs3,fun t ht=>?_⟩;exact k (.rate (((far+kk)%10-3)*J3 ns+4*JA ns) bs2) _ _ (s6.trans (Je ht)) (Joc Ja (hb2.same (Je ht))) bb2 trivial
  refine⟨_,rfl,?_⟩;refine JT (fun _=>fun _ nq=>?_) (fun _=>ny fun _ ny=>?_)
  .have tb:∀{H':Hp}{t:Addr}{top per:Int},JX H5 H'->H' t=some (.tup [.ref ba2,.int top,.int per])->per.natAbs<10^62->Jrv H' (.ref t):=fun s h p=>⟨_,ba2,(bs2,_,_),rfl,h,hb2.same s,bb2,p⟩
   have m40:0<=far%40/\far%40<40:=by omega
   refine⟨(by show(0:Int)<60;decide),(by show(0:Int)<40;decide),zs3,fun t1 ht1=>?_⟩;refine nq ⟨fun σ' H'=>∃v10,σ'=[some (.ref a),some (.int kk),some (.int near),some (.int far),some (.str who),some (.int (JA ns)),some (.int (J3 ns)),some (.int pick),none,some (.ref ba2),some v10,none,none]/\JX H5 H'/\Jrv H' v10,?_,?_⟩
   .refine⟨a,_,_,.int c,rfl,rfl,(s6.trans (Je ht1)).seq ha,hc,(by show(0:Int)<23;decide),rfl,_,rfl,?_⟩;refine JT (fun _=>?_) (fun _=>⟨_,rfl,Je ht1,tb (Je ht1) Ja (by omega)⟩)
    obtain⟨top,htop⟩:∃top,atI [V.int (-1),V.int 0,V.int (0-near%10^(60:Int).toNat)] (near%3)=some (.int top):=by
     have m3:near%3=0\/near%3=1\/near%3=2:=by omega
     rcases m3 with h|h|h<;>rw[h]<;>exact⟨_,rfl⟩
    obtain⟨per,hper,hpb⟩ :=Jsx far;refine⟨⟨by decide,by decide,by decide⟩,(by show(0:Int)<10^(60:Int).toNat;decide),zs3,fun l1 hl1=>⟨(by show(0:Int)<3;decide),l1,_,_,.int top,rfl,rfl,SqL.of Ja,htop,⟨by decide,by decide,by decide⟩,(by show(0:Int)<10^(60:Int).toNat;decide),zs3,fun l2 hl2=>⟨(by show(0:Int)<3;decide),l2,_,_,.int per,rfl,rfl,SqL.of Ja,hper,zs3,fun t2 ht2=>?_⟩⟩⟩;have sx:=(((Je ht1).trans (Je hl1)).trans (Je hl2)).trans (Je (o:=HO.tup [V.ref ba2,V.int top,V.int per]) ht2);exact⟨_,rfl,sx,tb sx Ja hpb⟩
   rintro σ' H6 ⟨v10,rfl,s7,av⟩;clear ht1;refine⟨fun σ' H'=>∃v10,σ'=[some (.ref a),some (.int kk),some (.int near),some (.int far),some (.str who),some (.int (JA ns)),some (.int (J3 ns)),some (.int pick),none,some (.ref ba2),some v10,none,none]/\JX H5 H'/\Jrv H' v10,?_,?_⟩
   .refine⟨a,_,_,.int c,rfl,rfl,(s6.trans s7).seq ha,hc,(by show(0:Int)<23;decide),rfl,_,rfl,?_⟩;refine JT (fun _=>?_) (fun _=>⟨_,rfl,s7,av⟩);refine⟨zs2,fun p1 hp1=>⟨zs2,fun p2 hp2=>⟨zs2,fun p3 hp3=>⟨zs3,fun p4 hp4=>?_⟩⟩⟩⟩;have u2:=Je (o:=HO.tup [V.non,V.int 3]) hp2;have u3:=Je (o:=HO.tup [V.ref p1,V.ref p2]) hp3;have u4:=Je (o:=HO.tup [V.ref p3,V.int 1,V.int 1]) hp4;exact⟨_,rfl,s7.trans ((((Je (o:=HO.tup [V.int 9,V.int 101]) hp1).trans u2).trans u3).trans u4),p4,p3,([(some 9,101),(none,3)],1,1),rfl,Ja,JB.mpr ⟨p3,_,rfl,u4 _ _ Ja,_,_,rfl,⟨p1,_,rfl,u4 _ _ (u3 _ _ (u2 _ _ Ja)),_,_,rfl,rfl,_,_,rfl,rfl,rfl⟩,_,_,rfl,⟨p2,_,rfl,u4 _ _ (u3 _ _ Ja),_,_,rfl,rfl,_,_,rfl,rfl,rfl⟩,rfl⟩,⟨⟨by decide,by decide⟩,by decide⟩⟩
   rintro σ' H7 ⟨v10,rfl,s8,av⟩;clear s7;refine⟨fun σ' H'=>∃v10 v11,σ'=[some (.ref a),some (.int kk),some (.int near),some (.int far),some (.str who),some (.int (JA ns)),some (.int (J3 ns)),some (.int pick),none,some (.ref ba2),some v10,v11,none]/\JX H5 H'/\Jrv H' v10,?_,?_⟩
   .refine⟨a,_,_,.int c,rfl,rfl,(s6.trans s8).seq ha,hc,(by show(0:Int)<23;decide),rfl,_,rfl,?_⟩;refine JT (fun _=>fun _ nv=>?_) (fun _=>⟨_,_,rfl,s8,av⟩)
    obtain⟨top,htop⟩:∃top,atI [V.int 9,V.int (near%(10^(50:Int).toNat*10^(50:Int).toNat-1))] (near%2)=some (.int top):=by
     have m2:near%2=0\/near%2=1:=by omega
     rcases m2 with h|h<;>rw[h]<;>exact⟨_,rfl⟩
    obtain⟨per,hper,hpb⟩ :=JsN far;refine⟨⟨by decide,by decide,by decide⟩,⟨by decide,by decide,by decide⟩,.inr ⟨by decide +kernel,by decide +kernel⟩,(by show(0:Int)<10^(50:Int).toNat*10^(50:Int).toNat-1;decide +kernel),zs2,fun l1 hl1=>⟨(by show(0:Int)<2;decide),l1,_,_,.int top,rfl,rfl,SqL.of Ja,htop,?_⟩⟩;refine nv ⟨⟨by decide,by decide,by decide⟩,(by show(0:Int)<10^(60:Int).toNat;decide),zs2,fun l2 hl2=>⟨(by show(0:Int)<2;decide),l2,_,_,.int per,rfl,rfl,SqL.of Ja,hper,zs3,fun t3 ht3=>?_⟩⟩;have sx:=((s8.trans (Je hl1)).trans (Je hl2)).trans (Je (o:=HO.tup [V.ref ba2,V.int top,V.int per]) ht3);exact⟨_,_,rfl,sx,tb sx Ja hpb⟩
   rintro σ' H8 ⟨v10,v11,rfl,s9,ta,tc,T,rfl,hT,hTb,hTB⟩
   have m4:0<=(far+kk)%4/\(far+kk)%4<4:=by omega
   refine⟨(by show(0:Int)<4;decide),Yj (by omega) (by omega),zs3,fun t ht=>?_⟩;exact k (.dues (((far+kk)%4-1)*J3 ns+JA ns) T) _ _ ((s6.trans s9).trans (Je ht)) (Jn1 Ja (JpE (Je ht _ _ hT) (hTb.same (Je ht)))) hTB trivial
  have m9:0<=(near+kk/2)%9/\(near+kk/2)%9<9:=by omega
  refine⟨⟨by decide,by decide⟩,(by show(0:Int)<9;decide),Yj (by omega) (by omega),Yj (by decide) (by decide),?_⟩;refine ny fun _ ny=>⟨_,rfl,?_⟩;refine JT (fun _=>?_) (fun h12=>ny fun _ ny=>?_)
  .have hap:=Jg5 ns;obtain⟨q,hq,hq0,hq1⟩:∃q:Int,(if kk/4<8 then kk/4 else 8)=q/\0<=q/\q<=8:=⟨_,rfl,by split<;>omega,by split<;>omega⟩
   refine⟨⟨by decide,by decide⟩,_,_,rfl,(by show(0:Int)<4;decide),Yj (by show -1000<=(if kk/4<8 then kk/4 else 8)+far%4-2;omega) (by show(if kk/4<8 then kk/4 else 8)+far%4-2<=1000;omega),Yj (by decide) (by decide),zs3,fun t ht=>?_⟩;refine k (.payday who (((if kk/4<8 then kk/4 else 8)+far%4-2)*J3 ns+4*JA ns)) _ _ (s6.trans (Je ht)) ⟨t,_,rfl,Ja,_,_,rfl,rfl,_,_,rfl,rfl,_,_,rfl,rfl,rfl⟩ trivial ⟨hmem,?_⟩;rw[hq]
   rcases hap with e|e<;>rw[e]<;>omega
  obtain⟨nm,d,hat,hrep,dok,fine⟩ :=JqL hmem (((near+kk/2)%9-2)*J3 ns+4*JA ns) h12 hp0.2;refine⟨rfl,_,rfl,?_⟩;refine JT (fun h15=>?_) (fun h15=>?_)
  .refine⟨(by show(0:Int)<2;decide),rfl,_,rfl,?_⟩;refine JT (fun _=>?_) (fun _=>ny ?_)
   .refine⟨zs2,fun t ht=>?_⟩;exact k (.paid who) _ _ (s6.trans (Je ht)) ⟨t,_,rfl,Ja,_,_,rfl,rfl,_,_,rfl,rfl,rfl⟩ trivial hmem
   .refine⟨zs4,fun l hl=>⟨l,_,_,.str nm,rfl,rfl,SqL.of Ja,hat,zs3,fun t ht=>?_⟩⟩;exact k d _ _ ((s6.trans (Je hl)).trans (Je ht)) (hrep Ja) dok fine
  .refine JcM ?_;refine ny ⟨zs4,fun l hl=>⟨l,_,_,.str nm,rfl,rfl,SqL.of Ja,hat,zs3,fun t ht=>?_⟩⟩;exact k d _ _ ((s6.trans (Je hl)).trans (Je ht)) (hrep Ja) dok fine
end
end TLA
namespace TLA
open PySem PySem.Spec PyProof.Rows L2 Wb
section
variable {P:Program} {w:World} {K:WF} {mg:Str→Option Value} {base:Heap} {CB CP fBI fPI CH CN CT:Addr}
structure Jr7(H:Hp)(l:Addr)(ns:List Int)(vs:List V)(ds:List Y7):Prop where
 at_:H l=some (.lst vs)
 rep:YL H (ds.map Jbi) vs
 len:ds.length=ns.length
 ok:∀d∈ds,Ja1 d/\JpL ns d
inductive Jit(vs:List V)(H:Hp)(Q:VK):Prop
 | mk (a:Addr) (ns:List Int) (h1:vs=[.ref a]) (h2:SqL K H a (ns.map V.int)) (h3:ns.length<=63) (h4:∀l us ds H',JX H H'->H l=none->Jr7 H' l ns us ds->Q (.ref l) H'):Jit vs H Q
noncomputable def Jh9:Sp:=fun vs H Q _=>Jit (K:=K) vs H Q
theorem Jkn{f f1:Addr}{fd fd1:FuncData}(F:Fun K "_law_written" "_law_written" Ja8 f fd)(Z:Zs mg)
  (Jel:JI P w K mg base "_law_penned" ["_law_cells", "_law_k"] (Jj7 (K:=K)) 2 f1 fd1):YO P w K mg base CX0 3 f fd ["_law_cells"] (Jh9 (K:=K)):=by
 refine F.ok JhJ (fun vs H Q E h=>?_) (fun cdv A outer s0 H vs Q E hr h=>?_)
 .obtain⟨_,_,rfl,_⟩ :=h;rfl
 .obtain⟨a,ns,rfl,ha,hlen,k⟩ :=h;refine⟨_,(Jg (Jn (JcI ["_law_k", "_law_cells"] [none,some 0] rfl Jdl (Jca rfl Z.z_range (pa1 (Jp JO (by rfl) Z.z_len Jbj (pa1 (pw 0))))) (fun _ _ _ _=>(JH (i:=0) Jdl.nd rfl (Or.inl rfl) (Or.inr rfl))) (fun _ _ _ _=>JcF) (fun _ _ _ _=>(Jo Jel (hr.mono (by decide)) (Jc (pw 1) (pa1 (pw 0)))))))),?_⟩;refine⟨a,_,rfl,.inl ha,(ns.length:Int),by rw[A2],by omega,by omega,fun ml hml=>?_⟩
  refine Jgg (fun i ys σ' H'=>∃(v0:Option V)(ds:List Y7),σ'=[v0,some (.ref a)]/\JX H H'/\H' ml=some (.lst ys)/\ds.length=i/\YL H' (ds.map Jbi) ys/\∀d∈ds,Ja1 d/\JpL ns d)
   ⟨none,[],rfl,Je hml,Ja,rfl,rfl,fun _ h=>nomatch h⟩ ?_ ?_
  .rintro i ys σ' H2 hi ⟨v0,ds,rfl,s2,hac,hdl,rp,hok⟩
   have hi:i<ns.length:=by have:i<(ns.length:Int).toNat:=hi;omega
   have hyl:ys.length=i:=by rw[rp.length,A2,hdl]
   refine⟨Jy (by omega),?_⟩;dsimp only[JcP,JeS];rw[if_pos rfl];refine⟨a,ns,_,rfl,s2.seq ha,(by show(0:Int)<=0+(i:Int);omega),(by show(0:Int)+(i:Int)<_;omega),fun d v H5 s5 r dok fine=>⟨s5 _ _ hac,_,ds++[d],rfl,JR (s2.trans s5) hml,Ja,by rw[Ak,hdl];rfl,?_,fun e he=>?_⟩⟩
   .have sx:Ja0 H5 (upd H5 ml (.lst (ys++[v]))):=Ja0.lst (s5 _ _ hac);rw[B4];exact YL.snoc (YL.sameT sx (Jcf Jav ds) (rp.same s5)) (Rep.sameT sx (Jav d) r)
   .rcases B5.mp he with he|he
    .exact hok e he
    .rw[A7.mp he];exact⟨dok,fine⟩
  .rintro ys σ' H2 ⟨v0,ds,rfl,s2,hac,hdl,rp,hok⟩;exact k ml ys ds H2 s2 hml ⟨hac,rp,by have:ds.length=(ns.length:Int).toNat:=hdl;omega,hok⟩
end
end TLA
namespace TLA
open PySem PySem.Spec PyProof.Rows L2 Wb
section
variable {P:Program} {w:World} {K:WF} {mg:Str→Option Value} {base:Heap} {CB CP fBI fPI CH CN CT:Addr}
inductive Jmc(vs:List V)(H:Hp)(Q:VK):Prop
 | mk (n:Int) (a:Addr) (bs:List Bd) (h1:vs=[.int n,.ref a]) (h2:JG H a bs) (h3:bs.length<=1000) (h4:∀l H',H l=none->JX H H'->H' l=some (.lst ((pgo n 0 bs).map V.int))->Q (.ref l) H'):Jmc vs H Q
noncomputable def Jmb:Sp:=fun vs H Q _=>Jmc vs H Q
theorem Jn4{f:Addr}{fd:FuncData}(F:Fun K "parts_of" "parts_of" JcZ f fd)(Z:Zs mg):YO P w K mg base CX0 1 f fd ["amount", "bands"] Jmb:=by
 refine F.ok YR (fun vs H Q E h=>?_) (fun cdv A outer s H vs Q E hr h=>?_)
 .obtain⟨n,a,bs,rfl,_⟩ :=h;rfl
 .obtain⟨n,a,bs,rfl,⟨ps,ha,hpl,hp⟩,hlen,k⟩ :=h
  refine⟨_,(Jd (Jl 2 YR.nd (Yd JV))
   (Jd (Jl 3 YR.nd (pw 0))
   (Jd (Jl 4 YR.nd Jb)
   (Jd (Jam PassesOwn.never rfl (JfE (pw 1)) (JH (i:=5) YR.nd rfl (Or.inl rfl)) (Jd (Jl 6 YR.nd (Ju Js (pw 5) Jb (fun _ _=>rfl)))
   (Jg (JL (JaN (JcT (pw 6))) (Jg (Jbh (Jhf PySem.F.plainAttrs_list PySem.F.slot_list_append PySem.F.type_list_append Jah (pw 2) (pa1 (pw 3))))) (Jd (Jl 7 YR.nd (Jp (Jcy rfl) (by rfl) Z.z_min JhL (Jc (pw 3) (pa1 (Jk JW (pw 6) (pw 4))))))
   (Jd (Jbh (Jhf PySem.F.plainAttrs_list PySem.F.slot_list_append PySem.F.type_list_append Jah (pw 2) (pa1 (pw 7))))
   (Jd (Jl 3 YR.nd (Jk JW (pw 3) (pw 7)))
   (Jg (Jl 4 YR.nd (pw 6))))))))))
   (Jg (Jn (pw 2))))))),fun _ nz=>?_⟩
  refine⟨(Bz _:([]:List V).length<=B2),fun l hl=>?_⟩
  refine nz fun _ nz=>nz fun _ nz=>nz fun _ nz=>⟨a,rfl,⟨_,SqT.of (Je hl _ _ ha)⟩,JfD (K:=K) (a:=a) (xs:=ps.map V.ref) (fun i σ H2=>∃(left floor:Int)(done:List Int)(v5 v6 v7:Option V),
   σ=[some (.int n),some (.ref a),some (.ref l),some (.int left),some (.int floor),v5,v6,v7]/\JX H H2/\H2 l=some (.lst (done.map V.int))/\done.length=i/\done++pgo left floor (bs.drop i)=pgo n 0 bs)
   ⟨n,0,[],none,none,none,rfl,Je hl,Ja,rfl,rfl⟩ (fun i σ H2 _ ⟨_,_,_,_,_,_,_,s2,_⟩ =>SqT.of (s2 _ _ ha)) ?_ ?_⟩
  .rintro i y σ H2 hi ⟨left,floor,done,v5,v6,v7,rfl,s2,h2,hd,he⟩;rw[Aq]at hi;obtain⟨p,hp',rfl⟩ :=B1.mp hi;have hil:i<bs.length:=hpl ▸ (A6.mp hp').1;obtain⟨b,hb⟩:∃b,bs[i]?=some b:=⟨bs[i],A3 hil⟩;have hpt:=s2 _ _ (hp i p b hp' hb);have hsz:(done.map V.int).length<B2:=Jy (by rw[A2];omega);refine fun _ ny=>⟨p,_,0,oV b.1,rfl,rfl,SqT.of hpt,Jh (j:=0) rfl,?_⟩;refine ny ⟨_,rfl,?_⟩;obtain⟨bu,be⟩ :=b;have hdr:=JcQ hb;rw[hdr]at he
   cases bu with
   | none=>
    refine JT (fun _=>?_) (fun h=>absurd (decide_eq_true rfl) h);refine⟨.inl ⟨rfl,_,SqL.of h2⟩,l,_,_,rfl,rfl,h2,hsz,?_⟩;exact⟨left,floor,done++[left],_,_,_,rfl,JR s2 hl,by rw[Ja,B4];rfl,by rw[Ak,hd];rfl,by rw[List.append_assoc];exact he⟩
   | some u=>
    refine JT (fun h=>absurd (of_decide_eq_true h) (fun z=>nomatch z)) (fun _=>fun _ nq=>?_);refine⟨left,u-floor,rfl,?_⟩;refine nq fun _ nq=>⟨.inl ⟨rfl,_,SqL.of h2⟩,l,_,_,rfl,rfl,h2,hsz,?_⟩;refine nq fun _ nq=>nq ?_;exact⟨_,_,done++[if u-floor<left then u-floor else left],_,_,_,rfl,JR s2 hl,by rw[Ja,B4];rfl,by rw[Ak,hd];rfl,by rw[List.append_assoc];exact he⟩
  .rintro σ H2 ⟨left,floor,done,v5,v6,v7,rfl,s2,h2,hd,he⟩;refine nz (k l H2 hl s2 ?_);rw[A2,hpl,List.drop_length]at he;rw[h2,<- he];simp[pgo]
inductive Jlv(vs:List V)(H:Hp)(Q:VK):Prop
 | mk (n:Int) (a:Addr) (bs:List Bd) (h1:vs=[.int n,.ref a]) (h2:Jr8 H n a bs) (h3:∀H',JX H H'->Q (.int (lv n 0 bs)) H'):Jlv vs H Q
noncomputable def JiY:Sp:=fun vs H Q _=>Jlv vs H Q
theorem JnB{f f1:Addr}{fd fd1:FuncData}(F:Fun K "worth" "worth" Jej f fd)(Z:Zs mg)(Jek:JI P w K mg base "parts_of" ["amount", "bands"] Jmb 1 f1 fd1):YO P w K mg base CX0 2 f fd ["amount", "bands"] JiY:=by
 refine F.ok Jof (fun vs H Q E h=>?_) (fun cdv A outer s0 H vs Q E hr h=>?_)
 .obtain⟨n,a,bs,rfl,_⟩ :=h;rfl
 .obtain⟨n,a,bs,rfl,c,k⟩ :=h;refine⟨_,(Jg (Jn (Jp (JaJ rfl) (by rfl) Z.z_sum JcV (pa1 (JcI ["part", "pair"] [none,none] rfl Jew (JqJ rfl Z.z_zip (Jc (Jo Jek (hr.mono (by decide)) (Jc (pw 0) (pa1 (pw 1)))) (pa1 (pw 1)))) (fun _ _ _ _=>(show PG _ _ (Jsl K 2 (Jps (JcP 0) (Jps (JcP 1) Jsq))) from JeK rfl (YA (JH (i:=0) Jew.nd rfl (Or.inl rfl) (Or.inr rfl)) (YA (JH (i:=1) Jew.nd rfl (Or.inl rfl) (Or.inr rfl)) JcL)))) (fun _ _ _ _=>JcF) (fun _ _ _ _=>(Jk J7 (pw 0) (Ju (show IxR _ (Jot K) from Js) (pw 1) Jb (fun _ _=>rfl))))))))),?_⟩;refine⟨n,a,bs,rfl,c.at_,c.len,fun lp H1 hlp s1 hf=>?_⟩;obtain⟨ps,ha,hpl,hp⟩ :=c.at_.same s1;refine⟨lp,a,rfl,⟨_,SqL.of hf⟩,⟨_,SqT.of ha⟩,fun acc hacc=>?_⟩
  have hl1:((pgo n 0 bs).map V.int).length=(ps.map V.ref).length:=by rw[A2,A2,Jfi,hpl]
  refine JnG (K:=K) (xs:=(pgo n 0 bs).map V.int) (ys:=ps.map V.ref) hl1
   (fun i zs σ' H'=>∃(v0 v1:Option V),σ'=[v0,v1]/\JX H1 H'/\H' acc=some (.lst zs)/\i<=bs.length/\zs=((wgo n 0 bs).take i).map V.int)
   ⟨_,_,rfl,Je hacc,Ja,Bz _,rfl⟩ (fun _ _ _ _ ⟨_,_,_,s2,_⟩ =>⟨SqL.of (s2 _ _ hf),SqT.of (s2 _ _ ha)⟩) ?_ (fun i zs σ' H' ⟨_,_,_,_,_,hi,e⟩ =>?_) ?_
  .rintro i x y t zs σ' H' hx hy ⟨v0,v1,rfl,s2,hac,hib,rfl⟩ ht;rw[Aq]at hx hy;obtain⟨pt,hpt,rfl⟩ :=B1.mp hx;obtain⟨p,hpp,rfl⟩ :=B1.mp hy;have hil:i<bs.length:=hpl ▸ (A6.mp hpp).1;obtain⟨b,hb⟩:∃b,bs[i]?=some b:=⟨bs[i],A3 hil⟩;have u2:=Je (o:=HO.tup [V.int pt,V.ref p]) ht;have hpt2:=u2 _ _ (s2 _ _ (hp i p b hpp hb));obtain⟨e0,e1⟩ :=c.each b (B9 hb);obtain⟨p0,p1⟩ :=Jic bs n 0 c.wf c.n0 pt (B9 hpt);have hc1:=c.n1
   have hw:(wgo n 0 bs)[i]?=some (pt*b.2):=by
    unfold wgo;rw[Aq,(List.getElem?_zip_eq_some (z:=(pt,b))).mpr ⟨hpt,hb⟩];rfl
   refine⟨Jy (by rw[A2,B7];have:=c.len;omega),?_⟩;refine⟨t,_,rfl,SqT.of Ja,rfl,_,_,rfl,_,_,rfl,rfl,?_⟩;dsimp only[JeS];rw[if_pos rfl];refine⟨p,_,1,.int b.2,rfl,rfl,SqT.of hpt2,Jh (j:=1) rfl,.inr ⟨Jgc p0 (by omega),Jgc e0 (by omega)⟩,u2 _ _ hac,?_⟩;refine⟨_,_,rfl,JR (s2.trans u2) hacc,Ja,hil,?_⟩;rw[B8,hw,B4];rfl
  .subst e;exact Jy (by rw[A2,B7];have:=c.len;omega)
  .rintro zs σ' H' ⟨v0,v1,rfl,s2,hac,_,rfl⟩
   have hwl:(wgo n 0 bs).length=bs.length:=by
    unfold wgo;rw[A2,List.length_zip,Jfi,Nat.min_self]
   have e:(wgo n 0 bs).take ((pgo n 0 bs).map V.int).length=wgo n 0 bs:=List.take_of_length_le (by rw[A2,Jfi,hwl];exact A5 _);rw[e]at hac;refine⟨acc,wgo n 0 bs,rfl,SqL.of hac,?_⟩;rw[Jq8 c.n0 c.wf];exact k H' (s1.trans s2)
inductive Jkj(vs:List V)(H:Hp)(Q:VK):Prop
 | mk (pay top per:Int) (h1:vs=[.int pay,.int top,.int per]) (h2:0<per) (h3:per<10^102) (h4:Q (.int (JlH pay top per)) H):Jkj vs H Q
noncomputable def JjW:Sp:=fun vs H Q _=>Jkj vs H Q
theorem JlV{f:Addr}{fd:FuncData}(F:Fun K "relief_of" "relief_of" Jcn f fd)(Z:Zs mg):YO P w K mg base CX0 1 f fd ["pay", "top", "per"] JjW:=by
 refine F.ok JhX (fun vs H Q E h=>?_) (fun cdv A outer s0 H vs Q E hr h=>?_)
 .obtain⟨a,b,c,rfl,_⟩ :=h;rfl
 .obtain⟨pay,top,per,rfl,h0,h1,k⟩ :=h;refine⟨_,(Jg (Jn (Jp (Jbd rfl) (by rfl) Z.z_max JdS (Jc Jb (pa1 (Jk JW (pw 1) (Jk YU (pw 0) (pw 2)))))))),?_⟩;exact⟨⟨h0,Jgc (by omega) (by omega)⟩,0,_,rfl,k⟩
inductive Jor(vs:List V)(H:Hp)(Q:VK):Prop
 | mk (pay:Int) (t:Addr) (bs:List Bd) (top per:Int) (h1:vs=[.int pay,.ref t]) (h2:Jsn H t pay bs top per) (h3:∀H',JX H H'->Q (.int (due pay bs top per)) H'):Jor vs H Q
noncomputable def JoB:Sp:=fun vs H Q _=>Jor vs H Q
theorem Jqr{f f1 f2:Addr}{fd fd1 fd2:FuncData}(F:Fun K "due_of" "due_of" JeZ f fd)(Z:Zs mg)(Jep:JI P w K mg base "worth" ["amount", "bands"] JiY 2 f1 fd1)
  (Jdx:JI P w K mg base "relief_of" ["pay", "top", "per"] JjW 1 f2 fd2):YO P w K mg base CX0 3 f fd ["pay", "table"] JoB:=by
 refine F.ok Jh8 (fun vs H Q E h=>?_) (fun cdv A outer s0 H vs Q E hr h=>?_)
 .obtain⟨a,b,c,d,e,rfl,_⟩ :=h;rfl
 .obtain⟨pay,t,bs,top,per,rfl,⟨⟨a,ht,c⟩,p0,p1⟩,k⟩ :=h
  refine⟨_,(Jd (Jl 2 Jh8.nd (Jk YU (Jo Jep (hr.mono (by decide)) (Jc (pw 0) (pa1 (Ju Js (pw 1) Jb (fun _ _=>rfl))))) Jb))
   (Jg (Jn (Jp (Jbd rfl) (by rfl) Z.z_max JdS (Jc Jb (pa1 (Jk JW (pw 2) (Jo Jdx (hr.mono (by decide)) (Jc (pw 0) (Jc (Ju Js (pw 1) Jb (fun _ _=>rfl)) (pa1 (Ju Js (pw 1) Jb (fun _ _=>rfl))))))))))))),fun _ nz=>?_⟩
  refine⟨t,_,0,.ref a,rfl,rfl,SqT.of ht,Jh (j:=0) rfl,pay,a,bs,rfl,c,fun H1 s1=>?_⟩;have ht1:=s1 _ _ ht;refine⟨⟨by decide,by decide⟩,?_⟩;refine nz ⟨t,_,1,.int top,rfl,rfl,SqT.of ht1,Jh (j:=1) rfl,t,_,2,.int per,rfl,rfl,SqT.of ht1,Jh (j:=2) rfl,pay,top,per,rfl,p0,p1,0,_,rfl,k H1 s1⟩
inductive JoV(vs:List V)(H:Hp)(Q:VK):Prop
 | mk (d:Addr) (w:Int) (kvs:List (Key×V)) (ks:List Int) (h1:vs=[.ref d,.int w]) (h2:H d=some (.dK kvs)) (h3:kvs.map (·.1)=ks.map Az) (h4:ks.length<=1000) (h5:∀H',JX H H'->(YX w none ks=none->Q .non H')/\∀k v,YX w none ks=some k->Jau kvs (Az k)=some v->Q v H'):JoV vs H Q
noncomputable def JmO:Sp:=fun vs H Q _=>JoV vs H Q
theorem Jre{kvs:List (Key×V)}{ks:List Int}(hk:kvs.map (·.1)=ks.map Az){i:Nat}{k:Key}{v:V}(h:kvs[i]?=some (k,v)):∃n,ks[i]?=some n/\k=Az n:=by
 have e:(kvs.map (·.1))[i]?=some k:=by rw[Aq,h];rfl
 rw[hk,Aq]at e;obtain⟨n,h1,h2⟩ :=B1.mp e;exact⟨n,h1,h2.symm⟩
theorem Jo7{kvs:List (Key×V)}{ks:List Int}(hk:kvs.map (·.1)=ks.map Az){n:Int}(h:n∈ks):∃v,Jau kvs (Az n:Key)=some v:=by
 have m:(Az n:Key)∈kvs.map (·.1):=by rw[hk];exact Bw.mpr ⟨n,h,rfl⟩
 obtain⟨p,hp,e⟩ :=Bw.mp m;have q:(kvs.any fun kv=>decide (kv.1=(Az n:Key)))=true:=List.any_eq_true.mpr ⟨p,hp,decide_eq_true e⟩;rw[Jcg]at q;exact Option.isSome_iff_exists.mp q
theorem Jjm{w:Int}:∀{ks:List Int}{b:Option Int}{k:Int},YX w b ks=some k->b=some k\/k∈ks
 | [],b,k,h=>by
  cases b<;>exact .inl h
 | p::r,none,k,h=>by
  have h:YX w (if p<=w then some p else none) r=some k:=h
  rcases Jjm h with e|e
  .split at e
   .exact .inr (by rw[Option.some.inj e];exact Aj)
   .cases e
  .exact .inr (List.mem_cons_of_mem _ e)
 | p::r,some c,k,h=>by
  have h:YX w (if p<=w/\c<p then some p else some c) r=some k:=h
  rcases Jjm h with e|e
  .split at e
   .exact .inr (by rw[Option.some.inj e];exact Aj)
   .exact .inl e
  .exact .inr (List.mem_cons_of_mem _ e)
theorem JjT{w:Int}{ks:List Int}:∀k,YX w none ks=some k->k∈ks:=fun k h=>(Jjm h).elim (fun z=>nomatch z) id
theorem Jkw{f:Addr}{fd:FuncData}(F:Fun K "holding" "holding" Jb6 f fd)(Z:Zs mg):YO P w K mg base CX0 1 f fd ["tables", "when"] JmO:=by
 refine F.ok Jgj (fun vs H Q E h=>?_) (fun cdv A outer s0 H vs Q E hr h=>?_)
 .obtain⟨d,w,kvs,ks,rfl,_⟩ :=h;rfl
 .obtain⟨d,w,kvs,ks,rfl,hd,hk,hks,k⟩ :=h;have hu:=JbB hr
  refine⟨_,(Jd (Jho (Jdd (i:=2) ["key", "when"] [none,some 1] Jgj.nd rfl (Or.inl rfl) rfl JeJ (Jpu (pw 0)) (fun _ _ _ _=>(JH (i:=0) JeJ.nd rfl (Or.inl rfl) (Or.inr rfl))) (fun _ _ _ _=>(Jqa (Jq JfB (pw 0) (pw 1) (Jx _)))) (fun _ _ _ _=>(pw 0))))
   (Jd (JL (JaD (Jj0 (pw 2) (fun _=>rfl))) (Jg (Jn JcD)) Jr)
   (Jg (Jn (J6 hu (pw 0) (Jp (Jmr rfl) (by rfl) Z.z_max JdS (pa1 (pw 2))) (fun _ _=>rfl)))))),fun _ nz=>?_⟩
  refine⟨d,kvs,rfl,hd,fun o nf acc hacc=>?_⟩
  have hne:d≠acc:=fun e=>by
   rw[<- e,Ja]at hacc;cases hacc
  have hacc0:H acc=none:=by
   rw[Jf hne.symm]at hacc;exact hacc
  have hkl:ks.length=kvs.length:=by
   have:=congrArg List.length hk;simpa using this.symm
  refine JmK (fun i ys σ' H'=>∃(v0:Option V)(ms:List Int),σ'=[v0,some (.int w)]/\H'=upd (upd H d (.frz o (.dK kvs))) acc (.lst ys)/\ys=ms.map V.int/\ms=(ks.take i).filter (fun n=>decide (n<=w)))
   ⟨none,[],rfl,rfl,rfl,rfl⟩ ?_ ?_ ?_
  .rintro i ys σ' H' ⟨v0,ms,rfl,rfl,_⟩;rw[Jf hne,Ja]
  .rintro i k v ys σ' H' hkv ⟨v0,ms,rfl,rfl,rfl,rfl⟩;obtain⟨n,hn,rfl⟩ :=Jre hk hkv
   have ht:ks.take (i+1)=ks.take i++[n]:=by rw[B8,hn];rfl
   refine⟨Jy ?_,?_⟩
   .rw[A2];refine Nat.le_trans (List.length_filter_le _ _) ?_;rw[B7];omega
   .dsimp only[JcP];refine⟨_,rfl,?_⟩;refine JT (fun h=>?_) (fun h=>?_)
    .refine⟨Ja,_,(ks.take i).filter (fun n=>decide (n<=w))++[n],rfl,Jdw,by rw[B4];rfl,?_⟩;rw[ht,List.filter_append,List.filter_cons,if_pos h];rfl
    .refine⟨_,_,rfl,rfl,rfl,?_⟩;rw[ht,List.filter_append,List.filter_cons,if_neg h,List.filter_nil,List.append_nil]
  .rintro ys σ' H' ⟨v0,ms,rfl,rfl,rfl,hms⟩;rw[<- hkl,List.take_length]at hms
   have hd':upd (upd H d (.frz o (.dK kvs))) acc (.lst (ms.map V.int)) d=some (.frz o (.dK kvs)):=by rw[Jf hne,Ja]
   refine .inr ⟨d,o,kvs,hd',nf,?_⟩
   have hs:JX H (upd (upd (upd H d (.frz o (.dK kvs))) acc (.lst (ms.map V.int))) d (.dK kvs)):=fun b ob e=>by
    by_cases hb:b=d
    .rw[hb,Ja,<- hd,<- hb];exact e
    .rw[Jf hb,Jf (Ji e hacc0),Jf hb];exact e
   have ha:upd (upd (upd H d (.frz o (.dK kvs))) acc (.lst (ms.map V.int))) d (.dK kvs) acc=some (.lst (ms.map V.int)):=by rw[Jf hne.symm,Ja]
   have hdd:upd (upd (upd H d (.frz o (.dK kvs))) acc (.lst (ms.map V.int))) d (.dK kvs) d=some (.dK kvs):=Ja;refine nz fun _ nz=>⟨_,.inl ⟨_,SqL.of ha,rfl⟩,?_⟩
   have hmem:∀n,n∈ms↔n∈ks/\n<=w:=fun n=>by rw[hms,List.mem_filter,decide_eq_true_eq]
   obtain⟨k1,k2⟩ :=k _ hs
   by_cases he:ms=[]
   .refine JT (fun _=>?_) (fun h=>absurd (by rw[he];rfl) h);exact k1 (Jpq (fun n h1 h2=>by have:=(hmem n).mpr ⟨h1,h2⟩;rw[he]at this;cases this) JjT)
   .refine JT (fun h=>absurd h (by cases ms with|nil=>exact absurd rfl he|cons _ _=>simp)) (fun _=>nz ?_)
    refine⟨acc,ms,rfl,SqL.of ha,he,fun M hM hmax=>?_⟩;obtain⟨hM1,hM2⟩ :=(hmem M).mp hM;obtain⟨v,hv⟩ :=Jo7 hk hM1;refine⟨d,v,rfl,by rw[<- hv];exact Jbc.k (k:=Az M) hdd,k2 M v (Jpv hM1 hM2 (fun n h1 h2=>hmax n ((hmem n).mpr ⟨h1,h2⟩)) JjT) hv⟩
inductive Jmk(vs:List V)(H:Hp)(Q:VK):Prop
 | mk (a:Addr) (bs:List Bd) (h1:vs=[.ref a]) (h2:JG H a bs) (h3:bs.length<=1000) (h4:∀H',JX H H'->Q (.bl (Jbo none bs)) H'):Jmk vs H Q
noncomputable def Jje:Sp:=fun vs H Q _=>Jmk vs H Q
theorem Jg6{f:Addr}{fd:FuncData}(F:Fun K "good_bands" "good_bands" JaB f fd)(Z:Zs mg):YO P w K mg base CX0 1 f fd ["bands"] Jje:=by
 refine F.ok JaM (fun vs H Q E h=>?_) (fun cdv A outer s0 H vs Q E hr h=>?_)
 .obtain⟨a,bs,rfl,_⟩ :=h;rfl
 .obtain⟨a,bs,rfl,hb,hlen,k⟩ :=h;obtain⟨ps,ha,hpl,hp⟩ :=hb
  refine⟨_,(Jd (JL (PW.pt (JbI (JaD (Jj0 (pw 0) (fun _=>rfl))) (JaX (JaN (JcN (Ju Js (Ju Js (pw 0) (Jdh (op:=.USub) Jaw Jb) (fun _ _=>rfl)) Jb (fun _ _=>rfl))))))) (Jg (Jn Jbg)) Jr)
   (Jd (Jl 1 JaM.nd Jb)
   (Jd (Jam PassesOwn.never rfl (JfE (YS Jir (pw 0) JaH (YG (Jdh (op:=.USub) Jaw Jb)))) (JH (i:=2) JaM.nd rfl (Or.inl rfl)) (Jd (Jl 3 JaM.nd (Ju Js (pw 2) Jb (fun _ _=>rfl)))
   (Jd (JL (PW.pt (JbI (JaN (JcT (pw 3))) (JaX (Jq JfB (pw 3) (pw 1) (Jx _))))) (Jg (Jn Jbg)) Jr)
   (Jg (Jl 1 JaM.nd (pw 3))))))
   (Jg (Jn (Jp (Jm1 rfl) (by rfl) Z.z_all Jp0 (pa1 (JcI ["pair"] [none] rfl JcK (JfE (pw 0)) (fun _ _ _ _=>(JH (i:=0) JcK.nd rfl (Or.inl rfl) (Or.inr rfl))) (fun _ _ _ _=>JcF) (fun _ _ _ _=>(Jcl JmT (Ju (show IxR _ (Jot K) from Js) (pw 0) Jb (fun _ _=>rfl)) Jb (Jx _))))))))))),fun _ nz=>?_⟩
  refine⟨_,.inr (.inl ⟨_,SqT.of ha,rfl⟩),?_⟩
  have no:Jbo none bs=false->Q (.bl false) H:=fun e=>by
   have:=k H fun _ _ z=>z;rw[e]at this;exact this
  by_cases he:bs=[]
  .subst he;have hps:ps=[]:=List.eq_nil_of_length_eq_zero hpl;subst hps;refine JfH ?_;exact no rfl
  .have hne:ps≠[]:=fun z=>he (List.eq_nil_of_length_eq_zero (by rw[<- hpl,z];rfl))
   have hemp:(ps.map V.ref).isEmpty=false:=by
    cases ps with
    | nil=>exact absurd rfl hne
    | cons _ _=>rfl
   rw[hemp];refine JcM ?_;obtain⟨bi,⟨bu,be⟩,hbi⟩:∃(bi:List Bd)(b:Bd),bs=bi++[b]:=⟨bs.dropLast,bs.getLast he,(List.dropLast_concat_getLast he).symm⟩;obtain⟨pi,pl,hpi⟩:∃(pi:List Addr)(pl:Addr),ps=pi++[pl]:=⟨ps.dropLast,ps.getLast hne,(List.dropLast_concat_getLast hne).symm⟩;subst hbi hpi
   have hil:pi.length=bi.length:=by simpa using hpl
   have hlast:=hp bi.length pl (bu,be) (by rw[<- hil];simp) (by simp);refine⟨a,_,_,.ref pl,rfl,rfl,SqT.of ha,by rw[B4];exact Joa _ _,pl,_,0,oV bu,rfl,rfl,SqT.of hlast,Jh (j:=0) rfl,_,rfl,?_⟩
   cases bu with
   | some u=>
    refine JT (fun _=>?_) (fun h=>absurd (show(!decide (oV (some u)=V.non))=true by simp[oV]) h);refine no ?_;rw[JcH,Jkf,Bool.false_and]
   | none=>
    refine JT (fun h=>absurd h (show¬(!decide (oV none=V.non))=true by simp[oV])) (fun _=>nz fun _ nz=>nz fun _ nz=>?_)
    have hlen':(pi++[pl]).length=pi.length+1:=by simp
    refine⟨a,_,rfl,SqT.of ha,?_,fun c hc=>?_⟩
    .rw[A2,hlen'];intro z;have:=z.2;simp only[HT.sIx]at this;rw[if_pos (by decide)]at this;omega
    have ecut:Jf6 ((pi++[pl]).map V.ref) none (some (-1))=pi.map V.ref:=by
     unfold Jf6;rw[A2,hlen'];have e1:HT.sIx (pi.length+1) 0 none=0:=rfl
     have e2:HT.sIx (pi.length+1) (pi.length+1) (some (-1))=pi.length:=by
      simp only[HT.sIx];rw[if_pos (by decide)];omega
     rw[e1,e2,List.drop_zero,B4,Nat.sub_zero,List.take_append_of_le_length (by simp),List.take_of_length_le (by simp)]
    rw[ecut];have s1:=Je (o:=HO.tup (pi.map V.ref)) hc;have hc1:upd H c (HO.tup (pi.map V.ref)) c=some (.tup (pi.map V.ref)):=Ja;generalize upd H c (HO.tup (pi.map V.ref))=H1 at s1 hc1 ⊢
    have no1:Jbo none (bi++[(none,be)])=false->Q (.bl false) H1:=fun e=>by
     have:=k H1 s1;rw[e]at this;exact this
    refine⟨c,rfl,⟨_,SqT.of hc1⟩,?_⟩
    refine JfD (K:=K) (xs:=pi.map V.ref) (fun i σ H2=>∃(fl:Int)(v2 v3:Option V),σ=[some (.ref a),some (.int fl),v2,v3]/\H1=H2/\wfb fl ((bi++[(none,be)]).drop i)=wfb 0 (bi++[(none,be)]))
     ⟨0,none,none,rfl,rfl,rfl⟩ (fun _ _ _ _ ⟨_,_,_,_,e,_⟩ =>by rw[<- e];exact SqT.of hc1) ?_ ?_
    .rintro i y σ H2 hi ⟨fl,v2,v3,rfl,rfl,hw⟩;rw[Aq]at hi;obtain⟨p,hpp,rfl⟩ :=B1.mp hi;have hlt:i<bi.length:=hil ▸ (A6.mp hpp).1;obtain⟨⟨u,e⟩,hbb⟩:∃b,(bi++[(none,be)])[i]?=some b:=⟨_,A3 (by simp;omega)⟩;have hpt:=s1 _ _ (hp i p (u,e) (by rw[Bq (A6.mp hpp).1];exact hpp) hbb);rw[JcQ hbb]at hw;refine fun _ ny=>⟨p,_,0,oV u,rfl,rfl,SqT.of hpt,Jh (j:=0) rfl,?_⟩;refine ny fun _ ny=>⟨_,rfl,?_⟩
     cases u with
     | none=>
      refine JfH ?_;refine JfH ?_;refine no1 ?_;have hw:((bi++[(none,be)]).drop (i+1)).isEmpty=wfb 0 (bi++[(none,be)]):=hw;rw[JcH,<- hw]
      have:((bi++[((none:Option Int),be)]).drop (i+1)).isEmpty=false:=by
       rw[List.isEmpty_eq_false_iff];intro z;have:=congrArg List.length z;simp at this;omega
      rw[this,Bool.false_and]
     | some u=>
      have hw:(decide (fl<u)&&wfb u ((bi++[(none,be)]).drop (i+1)))=wfb 0 (bi++[(none,be)]):=hw;refine JcM ?_;refine⟨_,rfl,?_⟩;refine JT (fun h=>?_) (fun h=>ny ?_)
      .have h:=of_decide_eq_true h;refine no1 ?_;rw[JcH,<- hw,decide_eq_false (by omega),Bool.false_and,Bool.false_and]
      .have h:¬u<=fl:=fun z=>h (decide_eq_true z);refine⟨u,_,_,rfl,rfl,?_⟩;rw[<- hw,decide_eq_true (by omega),Bool.true_and]
    .rintro σ H2 ⟨fl,v2,v3,rfl,rfl,hw⟩
     have hwt:wfb 0 (bi++[(none,be)])=true:=by
      rw[<- hw,A2,hil];simp[wfb]
     have ha1:=s1 _ _ ha;refine nz ⟨a,rfl,⟨_,SqT.of ha1⟩,fun acc hacc=>?_⟩
     refine JgY (K:=K) (xs:=(pi++[pl]).map V.ref) (fun i zs σ' H'=>∃(v0:Option V),σ'=[v0]/\JX H1 H'/\H' acc=some (.lst zs)/\zs=(((bi++[((none:Option Int),be)]).take i).map fun b:Bd=>decide (0<=b.2)).map V.bl)
      ⟨_,rfl,Je hacc,Ja,rfl⟩ (fun _ _ _ _ ⟨_,_,s2,_⟩ =>SqT.of (s2 _ _ ha1)) ?_ ?_
     .rintro i x zs σ' H' hx ⟨v0,rfl,s2,hac,rfl⟩;rw[Aq]at hx;obtain⟨p,hpp,rfl⟩ :=B1.mp hx;have hlt:i<(bi++[((none:Option Int),be)]).length:=hpl ▸ (A6.mp hpp).1;obtain⟨b,hbb⟩:∃b,(bi++[((none:Option Int),be)])[i]?=some b:=⟨_,A3 hlt⟩;have hpt:=s2 _ _ (s1 _ _ (hp i p b hpp hbb));refine⟨Jy (by rw[A2,A2,B7];omega),?_⟩;dsimp only[JcP,JeS];rw[if_pos rfl];refine⟨p,_,1,.int b.2,rfl,rfl,SqT.of hpt,Jh (j:=1) rfl,hac,?_⟩;refine⟨_,rfl,JR s2 hacc,Ja,?_⟩;rw[B8,hbb,B4,B4];rfl
     .rintro zs σ' H' ⟨v0,rfl,s2,hac,rfl⟩;refine⟨acc,_,rfl,SqL.of hac,?_⟩;rw[A2,hpl,List.take_length];have:=k H' (s1.trans s2);rw[JcH,hwt,Bool.true_and]at this;exact this
inductive Jlh(vs:List V)(H:Hp)(Q:VK):Prop
 | mk (a:Addr) (t:Tab) (h1:vs=[.ref a]) (h2:JbL H t (.ref a)) (h3:t.1.length<=1000) (h4:∀H',JX H H'->Q (.bl (Jd2 t)) H'):Jlh vs H Q
noncomputable def Jln:Sp:=fun vs H Q _=>Jlh vs H Q
theorem Jiz{f f1:Addr}{fd fd1:FuncData}(F:Fun K "good_dues" "good_dues" Ja3 f fd)(Z:Zs mg)(G:Gs mg)(JaC:JI P w K mg base "good_bands" ["bands"] Jje 1 f1 fd1):YO P w K mg base CX0 2 f fd ["table"] Jln:=by
 refine F.ok JeI (fun vs H Q E h=>?_) (fun cdv A outer s0 H vs Q E hr h=>?_)
 .obtain⟨a,t,rfl,_⟩ :=h;rfl
 .obtain⟨a,⟨bs,top,per⟩,rfl,⟨a',b,ea,ht,hb⟩,hlen,k⟩ :=h;cases ea;have ht:H a=some (.tup [.ref b,.int top,.int per]):=ht;have hb:JG H b bs:=hb;have hlen:bs.length<=1000:=hlen
  refine⟨_,(Jd (Jl 1 JeI.nd (Ju Js (pw 0) Jb (fun _ _=>rfl)))
   (Jd (JL (JaD (JaI (Jo JaC (hr.mono (by decide)) (pa1 (pw 1))))) (Jg (Jn Jbg)) Jr)
   (Jd (JL (JaI (Jp (JlP rfl) (by rfl) Z.z_any Jq6 (pa1 (JcI ["pair"] [none] rfl Jdk (JfE (pw 1)) (fun _ _ _ _=>(JH (i:=0) Jdk.nd rfl (Or.inl rfl) (Or.inr rfl))) (fun _ _ _ _=>JcF) (fun _ _ _ _=>(Jcl Jfj (Ju (show IxR _ (Jot K) from Js) (pw 0) Jb (fun _ _=>rfl)) (Jhk rfl G.g_GREATEST_EACH_OF_DUES) (Jx _))))))) (Jg (Jn Jbg)) Jr)
   (Jg (Jn (JoL (Jcl JmT (Ju Js (pw 0) Jb (fun _ _=>rfl)) Jb (Jx _)) (Jom (Jcl JmT (Ju Js (pw 0) Jb (fun _ _=>rfl)) Jb (Jx _))))))))),fun _ nz=>?_⟩
  refine⟨a,_,0,.ref b,rfl,rfl,SqT.of ht,Jh (j:=0) rfl,?_⟩;refine nz fun _ nz=>⟨b,bs,rfl,hb,hlen,fun H1 s1=>⟨_,rfl,?_⟩⟩;have k1:=fun H' (s:JX H1 H')=>k H' (s1.trans s);have cT:Jd2 (bs,top,per)=(Jbo (some 100) bs&&decide (0<=top)&&decide (1<=per)):=rfl
  cases hc:Jbo none bs with
  | false=>
   refine JfH ?_;have:=k1 H1 fun _ _ z=>z;rw[cT,Jia,hc,Bool.false_and,Bool.false_and,Bool.false_and]at this;exact this
  | true=>
   refine JcM ?_;obtain⟨ps,ha,hpl,hp⟩ :=hb.same s1;refine nz fun _ nz=>⟨b,rfl,⟨_,SqT.of ha⟩,fun acc hacc=>?_⟩
   refine JgY (K:=K) (xs:=ps.map V.ref) (fun i zs σ' H'=>∃(v0:Option V),σ'=[v0]/\JX H1 H'/\H' acc=some (.lst zs)/\zs=((bs.take i).map fun b=>decide (100<b.2)).map V.bl)
    ⟨_,rfl,Je hacc,Ja,rfl⟩ (fun _ _ _ _ ⟨_,_,s2,_⟩ =>SqT.of (s2 _ _ ha)) ?_ ?_
   .rintro i x zs σ' H' hx ⟨v0,rfl,s2,hac,rfl⟩;rw[Aq]at hx;obtain⟨p,hpp,rfl⟩ :=B1.mp hx;have hlt:i<bs.length:=hpl ▸ (A6.mp hpp).1;obtain⟨b,hbb⟩:∃b,bs[i]?=some b:=⟨_,A3 hlt⟩;have hpt:=s2 _ _ (hp i p b hpp hbb);refine⟨Jy (by rw[A2,A2,B7];omega),?_⟩;dsimp only[JcP,JeS];rw[if_pos rfl];refine⟨p,_,1,.int b.2,rfl,rfl,SqT.of hpt,Jh (j:=1) rfl,hac,?_⟩;refine⟨_,rfl,JR s2 hacc,Ja,?_⟩;rw[B8,hbb,B4,B4];rfl
   .rintro zs σ' H' ⟨v0,rfl,s2,hac,rfl⟩;refine⟨acc,_,rfl,SqL.of hac,_,rfl,?_⟩;rw[A2,hpl,List.take_length];have k2:=k1 H' s2;rw[cT,Jia,hc,Bool.true_and]at k2;have ht2:=s2 _ _ (s1 _ _ ht)
    cases hany:((bs.map fun b=>decide (100<b.2)).any id)with
    | true=>
     refine JfH ?_;rw[hany]at k2;exact k2
    | false=>
     refine JcM ?_;rw[hany]at k2;refine nz ⟨a,_,1,.int top,rfl,rfl,SqT.of ht2,Jh (j:=1) rfl,_,rfl,?_⟩;have k2:Q (.bl (decide (0<=top)&&decide (1<=per))) H':=k2;refine JT (fun h=>?_) (fun h=>?_)
     .refine⟨a,_,2,.int per,rfl,rfl,SqT.of ht2,Jh (j:=2) rfl,?_⟩;rw[h,Bool.true_and]at k2;exact k2
     .rw[Bool.eq_false_iff.mpr h,Bool.false_and]at k2;exact k2
inductive JoN(vs:List V)(H:Hp)(Q:VK):Prop
 | mk (d:Int) (h1:vs=[.int d]) (h2:Q (.int (d/7)) H):JoN vs H Q
noncomputable def Jme:Sp:=fun vs H Q _=>JoN vs H Q
inductive Jl3(vs:List V)(H:Hp)(Q:VK):Prop
 | mk (d:Int) (h1:vs=[.int d]) (h2:Q (.int (d/4)) H):Jl3 vs H Q
noncomputable def JiW:Sp:=fun vs H Q _=>Jl3 vs H Q
theorem JkI{f:Addr}{fd:FuncData}(F:Fun K "week_of" "week_of" Jed f fd)(G:Gs mg):YO P w K mg base CX0 1 f fd ["day"] Jme:=by
 refine F.ok JkK (fun vs H Q E h=>?_) (fun cdv A outer s0 H vs Q E hr h=>?_)
 .obtain⟨d,rfl,_⟩ :=h;rfl
 .obtain⟨d,rfl,k⟩ :=h;refine⟨_,(Jg (Jn (Jk YU (pw 0) (Jhk rfl G.g_DAYS_OF_WEEK)))),?_⟩;exact⟨⟨by decide,by decide⟩,k⟩
theorem Jjn{f:Addr}{fd:FuncData}(F:Fun K "month_of" "month_of" Jdf f fd)(G:Gs mg):YO P w K mg base CX0 1 f fd ["week"] JiW:=by
 refine F.ok Jjd (fun vs H Q E h=>?_) (fun cdv A outer s0 H vs Q E hr h=>?_)
 .obtain⟨d,rfl,_⟩ :=h;rfl
 .obtain⟨d,rfl,k⟩ :=h;refine⟨_,(Jg (Jn (Jk YU (pw 0) (Jhk rfl G.g_WEEKS_OF_MONTH)))),?_⟩;exact⟨⟨by decide,by decide⟩,k⟩
inductive Jkk(vs:List V)(H:Hp)(Q:VK):Prop
 | mk (h wk:Int) (rd:Addr) (rates:List (Int×List Bd)) (h1:vs=[.int h,.int wk,.ref rd]) (h2:Jag (YQ H) H rd rates) (h3:JcC rates) (h4:0<=h) (h5:h<10^102) (h6:∀H',JX H H'->Q (.int (JaU h wk rates)) H'):Jkk vs H Q
noncomputable def Jhc:Sp:=fun vs H Q _=>Jkk vs H Q
theorem JqA{bs:List Bd}{m:Option Int}(h:Jbo m bs=true)(g:Jbl bs):∀b∈bs,0<=b.2/\b.2<10^62:=fun b hb=>by
 have h0:=(Jco h).2 b hb;have h1:=g.each b hb;constructor
 .exact h0
 .omega
theorem JkG{f f1 f2:Addr}{fd fd1 fd2:FuncData}(F:Fun K "pay_for" "pay_for" Jec f fd)(Jcb:JI P w K mg base "holding" ["tables", "when"] JmO 1 f1 fd1)
  (Jep:JI P w K mg base "worth" ["amount", "bands"] JiY 2 f2 fd2):YO P w K mg base CX0 3 f fd ["hours", "week", "rates"] Jhc:=by
 refine F.ok JgB (fun vs H Q E h=>?_) (fun cdv A outer s0 H vs Q E hr h=>?_)
 .obtain⟨_,_,_,_,rfl,_⟩ :=h;rfl
 .obtain⟨h,wk,rd,rates,rfl,⟨kvs,hd,pr⟩,ok,h0,h1,k⟩ :=h
  refine⟨_,(Jd (Jl 3 JgB.nd (Jo Jcb (hr.mono (by decide)) (Jc (pw 2) (pa1 (pw 1)))))
   (Jd (JL (JaN (JcT (pw 3))) (Jg (Jn Jb)) Jr)
   (Jg (Jn (Jo Jep (hr.mono (by decide)) (Jc (pw 0) (pa1 (pw 3)))))))),fun _ nz=>?_⟩
  refine⟨rd,wk,kvs,rates.map (·.1),rfl,hd,JbA pr,by rw[A2];exact ok.len,fun H1 s1=>⟨fun hn=>?_,fun kk v hk hv=>?_⟩⟩
  .refine nz fun _ nz=>⟨_,rfl,?_⟩;refine JT (fun _=>?_) (fun h=>absurd (decide_eq_true rfl) h);have:=k H1 s1;unfold JaU at this;rw[Jd6 hn]at this;exact this
  .obtain⟨bs,g,⟨a,rfl,hb⟩,hm⟩ :=Jd0 pr hv;obtain⟨c1,c2⟩ :=ok.all _ hm;refine nz fun _ nz=>⟨_,rfl,?_⟩;refine JT (fun h=>absurd (of_decide_eq_true h) (fun z=>nomatch z)) (fun _=>nz ?_);have hl:bs.length<=14:=c2.len;refine⟨_,a,bs,rfl,⟨hb.same s1,(Jco c1).1,by omega,JqA c1 c2,h0,h1⟩,fun H2 s2=>?_⟩;have:=k H2 (s1.trans s2);unfold JaU at this;rw[Jd1 hk g]at this;exact this
inductive Jj1(vs:List V)(H:Hp)(Q:VK):Prop
 | mk (pay m:Int) (ud:Addr) (dues:List (Int×Tab)) (h1:vs=[.int pay,.int m,.ref ud]) (h2:Jag (JbL H) H ud dues) (h3:Jkd dues) (h4:0<=pay) (h5:pay<10^102) (h6:∀H',JX H H'->Q (.int (JdZ pay (JeU dues m))) H'):Jj1 vs H Q
noncomputable def Jjw:Sp:=fun vs H Q _=>Jj1 vs H Q
theorem JkQ{f f1 f2:Addr}{fd fd1 fd2:FuncData}(F:Fun K "net_for" "net_for" JdI f fd)(Jcb:JI P w K mg base "holding" ["tables", "when"] JmO 1 f1 fd1)
  (Jha:JI P w K mg base "due_of" ["pay", "table"] JoB 3 f2 fd2):YO P w K mg base CX0 4 f fd ["pay", "month", "dues"] Jjw:=by
 refine F.ok Jgq (fun vs H Q E h=>?_) (fun cdv A outer s0 H vs Q E hr h=>?_)
 .obtain⟨_,_,_,_,rfl,_⟩ :=h;rfl
 .obtain⟨pay,m,ud,dues,rfl,⟨kvs,hd,pr⟩,ok,h0,h1,k⟩ :=h
  refine⟨_,(Jd (Jl 3 Jgq.nd (Jo Jcb (hr.mono (by decide)) (Jc (pw 2) (pa1 (pw 1)))))
   (Jd (JL (JaN (JcT (pw 3))) (Jg (Jn (pw 0))) Jr)
   (Jg (Jn (Jk JW (pw 0) (Jo Jha (hr.mono (by decide)) (Jc (pw 0) (pa1 (pw 3))))))))),fun _ nz=>?_⟩
  refine⟨ud,m,kvs,dues.map (·.1),rfl,hd,JbA pr,by rw[A2];exact ok.len,fun H1 s1=>⟨fun hn=>?_,fun kk v hk hv=>?_⟩⟩
  .refine nz fun _ nz=>⟨_,rfl,?_⟩;refine JT (fun _=>?_) (fun h=>absurd (decide_eq_true rfl) h);have:=k H1 s1;rw[Jd6 hn]at this;exact this
  .obtain⟨⟨bs,top,per⟩,g,⟨a,b,rfl,ht,hb⟩,hm⟩ :=Jd0 pr hv;obtain⟨c1,c2⟩ :=ok.all _ hm;have c1:(Jbo (some 100) bs&&decide (0<=top)&&decide (1<=per))=true:=c1;rw[Bool.and_eq_true,Bool.and_eq_true]at c1;have hper:1<=per:=of_decide_eq_true c1.2;have hper2:per.natAbs<10^62:=c2.per;refine nz fun _ nz=>⟨_,rfl,?_⟩;refine JT (fun h=>absurd (of_decide_eq_true h) (fun z=>nomatch z)) (fun _=>nz ?_);have hl:bs.length<=14:=c2.bands.len;refine⟨pay,a,bs,top,per,rfl,⟨⟨b,s1 _ _ ht,⟨JG.same hb s1,(Jco c1.1.1).1,by omega,JqA c1.1.1 c2.bands,h0,h1⟩⟩,by omega,by omega⟩,fun H2 s2=>?_⟩;have:=k H2 (s1.trans s2);rw[Jd1 hk g]at this;exact this
inductive Jle(vs:List V)(H:Hp)(Q:VK):Prop
 | mk (oa na:Addr) (old new:II) (h1:vs=[.ref oa,.ref na]) (h2:H oa=some (.dK (ivs old))) (h3:H na=some (.dK (ivs new))) (h4:new.length<64) (h5:∀l H',H l=none->JX H H'->Rep H' (.lst ((JeF old new).map JdA)) (.ref l)->Q (.ref l) H'):Jle vs H Q
noncomputable def JmP:Sp:=fun vs H Q _=>Jle vs H Q
theorem Jnm{f:Addr}{fd:FuncData}(F:Fun K "lines_between" "lines_between" JaQ f fd)(Z:Zs mg):YO P w K mg base CX0 1 f fd ["old_nets", "new_nets"] JmP:=by
 refine F.ok Jaq (fun vs H Q E h=>?_) (fun cdv A outer s0 H vs Q E hr h=>?_)
 .obtain⟨_,_,_,_,rfl,_⟩ :=h;rfl
 .obtain⟨oa,na,old,new,rfl,ho,hn,hl,k⟩ :=h;have hu:=JbB hr
  refine⟨_,(Jd (Jl 2 Jaq.nd (Yd JV))
   (Jd (Jam PassesOwn.never rfl (Ja5 (Jp (JhN rfl) (by rfl) Z.z_sorted JfI (pa1 (pw 1)))) (JH (i:=3) Jaq.nd rfl (Or.inl rfl)) (Jd (Jl 4 Jaq.nd (Jk JW (J6 hu (pw 1) (pw 3) (fun _ _=>rfl)) (Y9 hu (pw 0) (pw 3) Jb (by constructor<;>rfl))))
   (Jg (JL (Jq JdX (pw 4) Jb (Jx _)) (Jg (Jbh (Jhf PySem.F.plainAttrs_list PySem.F.slot_list_append PySem.F.type_list_append Jah (pw 2) (pa1 (J2 (Jc (pw 3) (pa1 (pw 4)))))))) Jr))))
   (Jg (Jn (pw 2))))),fun _ nz=>?_⟩
  refine⟨(Bz _:([]:List V).length<=B2),fun ll hll=>?_⟩;have s1:=Je (o:=HO.lst []) hll;have hl1:upd H ll (HO.lst []) ll=some (.lst []):=Ja;generalize upd H ll (HO.lst [])=H1 at s1 hl1 ⊢;refine nz fun _ nz=>⟨na,_,new.map (·.1),rfl,s1 _ _ hn,JnN new,by rw[A2];exact hl,fun sl rs hsl pm so=>?_⟩;have hrs:=JlI pm so;have s2:=Je (o:=HO.lst (rs.map V.int)) hsl;have hs2:upd H1 sl (HO.lst (rs.map V.int)) sl=some (.lst (rs.map V.int)):=Ja;have hl2:=s2 _ _ hl1;have ne:ll≠sl:=Ji hl1 hsl;generalize upd H1 sl (HO.lst (rs.map V.int))=H2 at s2 hs2 hl2 ⊢
  have hrl:rs.length<64:=by rw[pm.length_eq,A2];exact hl
  refine⟨sl,rfl,⟨_,SqL.of hs2⟩,?_⟩
  refine JbO (K:=K) (xs:=rs.map V.int) (fun i σ H3=>∃(zs:List V)(v3 v4:Option V),σ=[some (.ref oa),some (.ref na),some (.ref ll),v3,v4]/\(∀b o,H2 b=some o->b≠ll->H3 b=some o)/\H3 ll=some (.lst zs)/\zs.length<=i/\
    YL H3 ((((rs.take i).map fun m:Int=>(m,(YB new m).getD 0-(YB old m).getD 0)).filter fun p:Int×Int=>decide (p.2≠0)).map JdA) zs)
   ⟨[],none,none,rfl,fun b o e _=>e,hl2,A5 _,rfl⟩ (fun _ _ _ _ ⟨_,_,_,_,kp,_⟩ =>SqL.of (kp _ _ hs2 ne.symm)) ?_ ?_
  .rintro i y σ H3 hi ⟨zs,v3,v4,rfl,kp,hz,hzl,rp⟩;rw[Aq]at hi;obtain⟨m,hm,rfl⟩ :=B1.mp hi;have hir:i<rs.length:=(A6.mp hm).1;have hna:=kp _ _ (s2 _ _ (s1 _ _ hn)) (Ji hn hll);have hoa:=kp _ _ (s2 _ _ (s1 _ _ ho)) (Ji ho hll)
   obtain⟨x,hx⟩:∃x,YB new m=some x:=by
    have:m∈new.map (·.1):=pm.mem_iff.mp (B9 hm);obtain⟨p,hp,e⟩ :=Bw.mp this;unfold YB
    cases q:new.find? fun p=>decide (p.1=m)with
    | none=>exact absurd (decide_eq_true e) (List.find?_eq_none.mp q p hp)
    | some z=>exact⟨_,rfl⟩
   have hv:Jau (ivs new) (Az m:Key)=some (.int x):=by rw[Jdz,hx];rfl
   have ho2:∃o,Jau (ivs old) (Az m:Key)=o/\o.getD (.int 0)=.int ((YB old m).getD 0):=⟨_,rfl,by rw[Jdz];cases YB old m<;>rfl⟩
   obtain⟨oo,eo,eo2⟩ :=ho2
   have htk:rs.take (i+1)=rs.take i++[m]:=by rw[B8,hm];rfl
   refine fun _ ny=>⟨na,.int x,rfl,by rw[<- hv];exact Jbc.k (k:=Az m) hna,oa,rfl,.inl ⟨_,.inl hoa⟩,_,Jbc.k (k:=Az m) hoa,?_⟩;rw[eo,eo2];refine ny ⟨rfl,_,rfl,?_⟩;refine JT (fun h=>?_) (fun h=>?_)
   .refine⟨.inl ⟨rfl,_,SqL.of hz⟩,zs2,fun t ht=>?_⟩;have s4:=Je (o:=HO.tup [V.int m,V.int (x-(YB old m).getD 0)]) ht;refine⟨ll,_,_,rfl,rfl,s4 _ _ hz,Jy (by omega),?_⟩;have ntl:t≠ll:=(Ji hz ht).symm;refine⟨zs++[.ref t],_,_,rfl,fun b o e hb=>by rw[Jf hb];exact s4 _ _ (kp b o e hb),Ja,by rw[Ak];simp;omega,?_⟩
    have hne:x-(YB old m).getD 0≠0:=by simpa using h
    rw[htk,B4,List.filter_append,B4]
    have e1:((([m].map fun m:Int=>(m,(YB new m).getD 0-(YB old m).getD 0)).filter fun p:Int×Int=>decide (p.2≠0)).map JdA)=[JdA (m,x-(YB old m).getD 0)]:=by
     simp[hx,hne]
    rw[e1];refine YL.snoc (Jc1 (fun b xs e=>?_) rp) ⟨t,_,rfl,by rw[Jf ntl];exact Ja,⟨_,_,rfl,rfl,_,_,rfl,rfl,rfl⟩⟩;have nb:b≠ll:=Jac e hz (fun z=>nomatch z);rw[Jf nb];exact s4 _ _ e
   .have he:x-(YB old m).getD 0=0:=by simpa using h
    refine⟨zs,_,_,rfl,kp,hz,Nat.le_succ_of_le hzl,?_⟩;rw[htk,B4,List.filter_append,B4]
    have e1:((([m].map fun m:Int=>(m,(YB new m).getD 0-(YB old m).getD 0)).filter fun p:Int×Int=>decide (p.2≠0)).map JdA)=[]:=by
     simp[hx,he]
    rw[e1,List.append_nil];exact rp
  .rintro σ H3 ⟨zs,v3,v4,rfl,kp,hz,hzl,rp⟩;refine nz (k ll H3 hll (fun b o e=>kp b o (s2 _ _ (s1 _ _ e)) (Ji e hll)) ⟨ll,zs,rfl,hz,?_⟩);unfold JeF;rw[<- hrs];rw[A2,List.take_length]at rp;exact rp
inductive Jl2(CP:Addr)(vs:List V)(H:Hp)(Q:VK):Prop
 | mk (p dx:Addr) (h1:vs=[.ref p]) (h2:H p=some (.ins CP dx [])) (h3:∀dd nn H',H dd=none->H nn=none->dd≠nn->YF CP H' p dd nn Pn.nw->(∀b o,H b=some o->b≠p->H' b=some o)->Q .non H'):Jl2 CP vs H Q
noncomputable def Jmt(CP:Addr):Sp:=fun vs H Q _=>Jl2 CP vs H Q
theorem Jf3{f:Addr}{fd:FuncData}(F:Fun K "__init__" "Person.__init__" Jbq f fd)(T:Txt K mg CB CP fBI fPI):YO P w K mg base CX0 1 f fd ["self"] (Jmt CP):=by
 refine F.ok JfZ (fun vs H Q E h=>?_) (fun cdv A outer s0 H vs Q E hr h=>?_)
 .obtain⟨_,_,rfl,_⟩ :=h;rfl
 .obtain⟨p,dx,rfl,hp,k⟩ :=h
  refine⟨_,(Jd (Jdm (pw 0) Yw rfl)
   (Jd (Jdm (pw 0) Jb rfl)
   (Jd (Jdm (pw 0) JcD rfl)
   (Jg (Jdm (pw 0) Yw rfl))))),fun _ nz=>?_⟩
  intro dd hdd;have n1:p≠dd:=Ji hp hdd;refine⟨p,CP,dx,[],rfl,(by rw[Jf n1];exact hp),T.clPerson,T.n_days,(by show 0<1000;decide),?_⟩;refine nz fun _ nz=>⟨p,CP,dx,_,rfl,Ja,T.clPerson,T.n_paid,(by show 1<1000;decide),?_⟩;rw[Jdw];refine nz fun _ nz=>⟨p,CP,dx,_,rfl,Ja,T.clPerson,T.n_last_week,(by simp only[Jdb,nDP,if_false];show 2<1000;decide),?_⟩;rw[Jdw];refine nz ?_;intro nn hnn
  have n2:nn≠p:=fun z=>by rw[z,Ja]at hnn;cases hnn
  rw[Jf n2]at hnn
  have n3:nn≠dd:=fun z=>by rw[z,Ja]at hnn;cases hnn
  rw[Jf n3]at hnn;refine⟨p,CP,dx,_,rfl,(by rw[Jf n2.symm];exact Ja),T.clPerson,T.n_last_nets,(by simp only[Jdb,nDP,nDW,nPW,if_false];show 3<1000;decide),?_⟩;refine k dd nn _ hdd hnn n3.symm ⟨⟨dx,?_⟩,?_,?_⟩ fun b o e hb=>?_
  .rw[Ja];exact congrArg (fun l=>some (HO.ins CP dx l)) (Jc6 dd 0 none nn)
  .rw[Jf n1.symm,Jf n3.symm,Jf n1.symm,Ja];rfl
  .rw[Jf n2,Ja];rfl
  .rw[Jf hb,Jf (Ji e hnn),Jf hb,Jf (Ji e hdd)];exact e
inductive Jok(CP:Addr)(vs:List V)(H:Hp)(Q:VK):Prop
 | mk (p dd nn:Addr) (q:Pn) (day many:Int) (h1:vs=[.ref p,.int day,.int many]) (h2:YF CP H p dd nn q) (h3:q.days.length<900) (h4:Q .non (upd H dd (.dK (ivs (Jax q.days day many))))):Jok CP vs H Q
noncomputable def JoP(CP:Addr):Sp:=fun vs H Q _=>Jok CP vs H Q
theorem JhU{f:Addr}{fd:FuncData}(F:Fun K "set_hours" "Person.set_hours" Y3 f fd)(T:Txt K mg CB CP fBI fPI):YO P w K mg base CX0 1 f fd ["self", "day", "many"] (JoP CP):=by
 refine F.ok Jdt (fun vs H Q E h=>?_) (fun cdv A outer s0 H vs Q E hr h=>?_)
 .obtain⟨_,_,_,_,_,_,rfl,_⟩ :=h;rfl
 .obtain⟨p,dd,nn,q,day,many,rfl,⟨⟨dx,hp⟩,hd,hn⟩,hl,k⟩ :=h;have hu:=JbB hr;refine⟨_,(Jg (YI hu (Jbk (pw 0) rfl) (pw 1) (pw 2) rfl)),?_⟩;refine⟨p,CP,dx,_,_,rfl,hp,T.clPerson,T.n_days,Jmn _ _ _ _,dd,_,rfl,Jei.k (k:=Az day) hd (Jy (by rw[Jdq];omega)),?_⟩;rw[Jg8];exact k
inductive Jrn(CP:Addr)(vs:List V)(H:Hp)(Q:VK):Prop
 | mk (p dd nn:Addr) (q:Pn) (h1:vs=[.ref p]) (h2:YF CP H p dd nn q) (h3:q.days.length<=900) (h4:∀d H',H d=none->JX H H'->H' d=some (.dK (ivs (hbw q.days)))->Q (.ref d) H'):Jrn CP vs H Q
noncomputable def Jpp(CP:Addr):Sp:=fun vs H Q _=>Jrn CP vs H Q
theorem JeY{f f1:Addr}{fd fd1:FuncData}(F:Fun K "hours_by_week" "Person.hours_by_week" Yr f fd)(T:Txt K mg CB CP fBI fPI)(Jb8:JI P w K mg base "week_of" ["day"] Jme 1 f1 fd1) :
  YO P w K mg base CX0 2 f fd ["self"] (Jpp CP):=by
 refine F.ok J1 (fun vs H Q E h=>?_) (fun cdv A outer s0 H vs Q E hr h=>?_)
 .obtain⟨_,_,_,_,rfl,_⟩ :=h;rfl
 .obtain⟨p,dd,nn,q,rfl,⟨⟨dx,hp⟩,hd,hn⟩,hl,k⟩ :=h;have hu:=JbB hr
  refine⟨_,(Jd (Jl 1 J1.nd Yw)
   (Jd (Jho (Jam PassesOwn.never rfl (JgT (Jft (Jbk (pw 0) rfl))) (JeK rfl (YA (JH (i:=2) J1.nd rfl (Or.inl rfl)) (YA (JH (i:=3) J1.nd rfl (Or.inl rfl)) JcL))) (Jd (Jl 4 J1.nd (Jo Jb8 (hr.mono (by decide)) (pa1 (pw 2))))
   (Jg (YI hu (pw 1) (pw 4) (Jk JF (Y9 hu (pw 1) (pw 4) Jb (by constructor<;>rfl)) (pw 3)) rfl)))))
   (Jg (Jn (pw 1))))),fun _ nz=>?_⟩
  intro hh hhh;have s1:=Je (o:=HO.dK []) hhh;have hh1:upd H hh (HO.dK []) hh=some (.dK []):=Ja;generalize upd H hh (HO.dK [])=H1 at s1 hh1 ⊢;have hd1:=s1 _ _ hd;refine nz fun _ nz=>⟨p,CP,dx,_,_,rfl,s1 _ _ hp,T.clPerson,T.n_days,Jmn _ _ _ _,.inr (.inr (.inl ⟨rfl,.inl ⟨_,hd1⟩⟩)),dd,_,rfl,rfl,hd1,fun vw hvw=>?_⟩;have s2:=Je (o:=Jck vw dd) hvw;have hd2:=s2 _ _ hd1;have hh2:=s2 _ _ hh1;refine⟨vw,dd,_,rfl,Ja,hd2,fun o nf=>?_⟩;generalize upd H1 vw (Jck vw dd)=H2 at s2 hd2 hh2 ⊢;have nhd:hh≠dd:=(Ji hd hhh).symm
  refine Jfx (kvs:=ivs q.days) (fun i σ H3=>∃(v2 v3 v4:Option V),σ=[some (.ref p),some (.ref hh),v2,v3,v4]/\(∀b u,H2 b=some u->b≠hh->b≠dd->H3 b=some u)/\H3 dd=some (.frz o (.dK (ivs q.days)))/\H3 hh=some (.dK (ivs (hbw (q.days.take i)))))
   ⟨none,none,none,rfl,fun b u e _ n=>by rw[Jf n];exact e,Ja,by rw[Jf nhd];exact hh2⟩ (fun _ _ _ _ ⟨_,_,_,_,_,e,_⟩ =>e) ?_ ?_
  .rintro i kk v t σ H3 hi ⟨v2,v3,v4,rfl,kp,hf,hb⟩ ht;have hi':(ivs q.days)[i]?=some (kk,v):=hi;unfold ivs at hi';rw[Aq]at hi';obtain⟨⟨day,many⟩,hq,e⟩ :=B1.mp hi';cases e;have hlt:i<q.days.length:=(A6.mp hq).1;have s3:=Je (o:=HO.tup [kV (Az day),V.int many]) ht;have ht3:upd H3 t (HO.tup [kV (Az day),V.int many]) t=some (.tup [.int day,.int many]):=Ja;have hb3:=s3 _ _ hb;have hf3:=s3 _ _ hf;generalize upd H3 t (HO.tup [kV (Az day),V.int many])=H4 at s3 ht3 hb3 hf3 ⊢;refine⟨t,_,rfl,SqT.of ht3,rfl,_,_,rfl,_,_,rfl,rfl,fun _ ny=>?_⟩;refine⟨day,rfl,?_⟩;obtain⟨oo,eo,eo2⟩:∃z,Jau (ivs (hbw (q.days.take i))) (Az (day/7):Key)=z/\z.getD (.int 0)=.int ((YB (hbw (q.days.take i)) (day/7)).getD 0):=⟨_,rfl,by rw[Jdz];cases YB (hbw (q.days.take i)) (day/7)<;>rfl⟩
   refine ny ⟨hh,rfl,.inl ⟨_,.inl hb3⟩,_,Jbc.k (k:=Az (day/7)) hb3,?_⟩;rw[eo,eo2]
   have hbl:(hbw (q.days.take i)).length<=900:=by
    rw[JgA];have:=Jcc (g:=fun p=>p.1/7) (f:=fun p=>p.2) (q.days.take i) [];simp only[List.length_nil,B7]at this;omega
   refine⟨hh,_,rfl,Jei.k (k:=Az (day/7)) hb3 (Jy (by rw[Jdq];omega)),?_⟩;refine⟨_,_,_,rfl,fun b u e n1 n2=>by rw[Jf n1];exact s3 _ _ (kp b u e n1 n2),by rw[Jf nhd.symm];exact hf3,?_⟩;rw[Ja,Jg8,B8,hq];show _=some (HO.dK (ivs (hbw (q.days.take i++[(day,many)]))));unfold hbw;rw[List.foldl_append];rfl
  .rintro σ H3 ⟨v2,v3,v4,rfl,kp,hf,hb⟩;rw[Jdq,List.take_length]at hb;refine .inr ⟨dd,o,_,hf,nf,?_⟩;refine nz (k hh _ hhh (fun b u e=>?_) (by rw[Jf nhd];exact hb))
   by_cases c:b=dd
   .rw[c,Ja,<- hd,<- c];exact e
   .rw[Jf c];exact kp b u (s2 _ _ (s1 _ _ e)) (Ji e hhh) c
inductive JhQ(CP:Addr)(vs:List V)(H:Hp)(Q:VK):Prop
 | mk (p dd nn rd:Addr) (q:Pn) (wk:Int) (rates:List (Int×List Bd)) (h1:vs=[.ref p,.int wk,.ref rd]) (h2:YF CP H p dd nn q) (h3:Jos q) (h4:Jag (YQ H) H rd rates) (h5:JcC rates) (h6:∀H',JX H H'->Q (.int (JaU ((YB (hbw q.days) wk).getD 0) wk rates)) H'):JhQ CP vs H Q
noncomputable def JhH(CP:Addr):Sp:=fun vs H Q _=>JhQ CP vs H Q
theorem JeC{H H':Hp}{d:Addr}{ts:List (Int×List Bd)}(h:Jag (YQ H) H d ts)(s:JX H H'):Jag (YQ H') H' d ts:=by
 obtain⟨k,e,r⟩ :=h;refine⟨k,s _ _ e,JP (fun p q hzz=>?_) r⟩;obtain⟨z,a,e,b⟩ :=hzz;exact⟨z,a,e,b.same s⟩
theorem JkA{H H':Hp}{d:Addr}{ts:List (Int×Tab)}(h:Jag (JbL H) H d ts)(s:JX H H'):Jag (JbL H') H' d ts:=by
 obtain⟨k,e,r⟩ :=h;refine⟨k,s _ _ e,JP (fun p q hzz=>?_) r⟩;obtain⟨z,a,c,e,t,b⟩ :=hzz;exact⟨z,a,c,e,s _ _ t,b.same s⟩
theorem Ji8{f f1 f2:Addr}{fd fd1 fd2:FuncData}(F:Fun K "week_pay" "Person.week_pay" Y8 f fd)(T:Txt K mg CB CP fBI fPI)(JE:JaF P w K mg base CX0 CP "hours_by_week" ["self"] (Jpp CP) 2 f1 fd1)
  (Jb3:JI P w K mg base "pay_for" ["hours", "week", "rates"] Jhc 3 f2 fd2):YO P w K mg base CX0 4 f fd ["self", "week", "rates"] (JhH CP):=by
 refine F.ok JdF (fun vs H Q E h=>?_) (fun cdv A outer s0 H vs Q E hr h=>?_)
 .obtain⟨_,_,_,_,_,_,_,rfl,_⟩ :=h;rfl
 .obtain⟨p,dd,nn,rd,q,wk,rates,rfl,hP,ok,hT,rok,k⟩ :=h;have hu:=JbB hr;obtain⟨dx,hp⟩ :=hP.ob;refine⟨_,(Jg (Jn (Jo Jb3 (hr.mono (by decide)) (Jc (Y9 hu (Jj5 (pw 0) T.clPerson JE.meth JE.ok (hr.mono (by decide)) JE.b .nil Ja2) (pw 1) Jb (by constructor<;>rfl)) (Jc (pw 1) (pa1 (pw 2))))))),?_⟩
  have hl:=ok.len;refine⟨p,dx,_,rfl,hp,Jhm _ _ _ _ (by decide +kernel) (by decide +kernel) (by decide +kernel) (by decide +kernel),p,dd,nn,q,rfl,hP,by omega,fun d H1 hd s1 hd1=>?_⟩;obtain⟨oo,eo,eo2⟩:∃z,Jau (ivs (hbw q.days)) (Az wk:Key)=z/\z.getD (.int 0)=.int ((YB (hbw q.days) wk).getD 0):=⟨_,rfl,by rw[Jdz];cases YB (hbw q.days) wk<;>rfl⟩
  refine⟨d,rfl,.inl ⟨_,.inl hd1⟩,_,Jbc.k (k:=Az wk) hd1,?_⟩;rw[eo,eo2];obtain⟨b0,b1⟩ :=Jpl ok wk;exact⟨_,wk,rd,rates,rfl,JeC hT s1,rok,b0,Int.lt_of_le_of_lt b1 (by decide),fun H2 s2=>k H2 (s1.trans s2)⟩
inductive Jq9(CP:Addr)(vs:List V)(H:Hp)(Q:VK):Prop
 | mk (p dd nn rd:Addr) (q:Pn) (last:Int) (rates:List (Int×List Bd)) (h1:vs=[.ref p,.int last,.ref rd]) (h2:YF CP H p dd nn q) (h3:Jos q) (h4:Jag (YQ H) H rd rates) (h5:JcC rates) (h6:∀d H',H d=none->JX H H'->H' d=some (.dK (ivs (pbm (hbw q.days) last rates)))->Q (.ref d) H'):Jq9 CP vs H Q
noncomputable def JqU(CP:Addr):Sp:=fun vs H Q _=>Jq9 CP vs H Q
theorem JeX{f f1 f2 f3:Addr}{fd fd1 fd2 fd3:FuncData}(F:Fun K "pays_by_month" "Person.pays_by_month" Yq f fd)(T:Txt K mg CB CP fBI fPI)
  (JE:JaF P w K mg base CX0 CP "hours_by_week" ["self"] (Jpp CP) 2 f1 fd1)
  (Jb3:JI P w K mg base "pay_for" ["hours", "week", "rates"] Jhc 3 f2 fd2) (Jbs:JI P w K mg base "month_of" ["week"] JiW 1 f3 fd3):YO P w K mg base CX0 4 f fd ["self", "last", "rates"] (JqU CP):=by
 refine F.ok J0 (fun vs H Q E h=>?_) (fun cdv A outer s0 H vs Q E hr h=>?_)
 .obtain⟨_,_,_,_,_,_,_,rfl,_⟩ :=h;rfl
 .obtain⟨p,dd,nn,rd,q,last,rates,rfl,hP,ok,hT,rok,k⟩ :=h;have hu:=JbB hr;obtain⟨dx,hp⟩ :=hP.ob
  refine⟨_,(Jd (Jl 3 J0.nd Yw)
   (Jd (Jho (Jam PassesOwn.never rfl (JgT (Jft (Jj5 (pw 0) T.clPerson JE.meth JE.ok (hr.mono (by decide)) JE.b .nil Ja2))) (JeK rfl (YA (JH (i:=4) J0.nd rfl (Or.inl rfl)) (YA (JH (i:=5) J0.nd rfl (Or.inl rfl)) JcL))) (Jg (JL (Jq JfB (pw 4) (pw 1) (Jx _)) (Jd (Jl 6 J0.nd (Jo Jbs (hr.mono (by decide)) (pa1 (pw 4))))
   (Jg (YI hu (pw 3) (pw 6) (Jk JF (Y9 hu (pw 3) (pw 6) Jb (by constructor<;>rfl)) (Jo Jb3 (hr.mono (by decide)) (Jc (pw 5) (Jc (pw 4) (pa1 (pw 2)))))) rfl))) Jr))))
   (Jg (Jn (pw 3))))),fun _ nz=>?_⟩
  have hl:=ok.len;obtain⟨bb1,bb2,bb3⟩ :=Jna ok;intro pp hpp;have s1:=Je (o:=HO.dK []) hpp;have hp1:upd H pp (HO.dK []) pp=some (.dK []):=Ja;generalize upd H pp (HO.dK [])=H1 at s1 hp1 ⊢;refine nz fun _ nz=>⟨p,dx,_,rfl,s1 _ _ hp,Jhm _ _ _ _ (by decide +kernel) (by decide +kernel) (by decide +kernel) (by decide +kernel),p,dd,nn,q,rfl,hP.same s1,by omega,fun d H2 hd s2 hd2=>?_⟩;have hp2:=s2 _ _ hp1;refine⟨.inr (.inr (.inl ⟨rfl,.inl ⟨_,hd2⟩⟩)),d,_,rfl,rfl,hd2,fun vw hvw=>?_⟩;have s3:=Je (o:=Jck vw d) hvw;have hd3:=s3 _ _ hd2;have hp3:=s3 _ _ hp2;refine⟨vw,d,_,rfl,Ja,hd3,fun o nf=>?_⟩;generalize upd H2 vw (Jck vw d)=H3 at s3 hd3 hp3 ⊢;have npd:pp≠d:=Ji hp1 hd;have hd0:H d=none:=s1.free hd
  refine Jfx (kvs:=ivs (hbw q.days)) (fun i σ H4=>∃(v4 v5 v6:Option V),σ=[some (.ref p),some (.int last),some (.ref rd),some (.ref pp),v4,v5,v6]/\(∀b u,H3 b=some u->b≠pp->b≠d->H4 b=some u)/\H4 d=some (.frz o (.dK (ivs (hbw q.days))))/\
    H4 pp=some (.dK (ivs (pbm ((hbw q.days).take i) last rates))))
   ⟨none,none,none,rfl,fun b u e _ n=>by rw[Jf n];exact e,Ja,by rw[Jf npd];exact hp3⟩ (fun _ _ _ _ ⟨_,_,_,_,_,e,_⟩ =>e) ?_ ?_
  .rintro i kk v t σ H4 hi ⟨v4,v5,v6,rfl,kp,hf,hb⟩ ht;have hi':(ivs (hbw q.days))[i]?=some (kk,v):=hi;unfold ivs at hi';rw[Aq]at hi';obtain⟨⟨wk,hrs⟩,hq,e⟩ :=B1.mp hi';cases e;obtain⟨x0,x1⟩ :=bb2 _ (B9 hq);have x0:0<=hrs:=x0;have x1:hrs<=7200:=x1;have hlt:i<(hbw q.days).length:=(A6.mp hq).1;have s4:=Je (o:=HO.tup [kV (Az wk),V.int hrs]) ht;have ht4:upd H4 t (HO.tup [kV (Az wk),V.int hrs]) t=some (.tup [.int wk,.int hrs]):=Ja;have hb4:=s4 _ _ hb;have hf4:=s4 _ _ hf;generalize upd H4 t (HO.tup [kV (Az wk),V.int hrs])=H5 at s4 ht4 hb4 hf4 ⊢;have kp5:∀b u,H b=some u->H5 b=some u:=fun b u e=>s4 _ _ (kp b u (s3 _ _ (s2 _ _ (s1 _ _ e))) (Ji e hpp) (Ji e hd0));refine⟨t,_,rfl,SqT.of ht4,rfl,_,_,rfl,_,_,rfl,rfl,?_⟩;refine⟨_,rfl,?_⟩
   have htk:(hbw q.days).take (i+1)=(hbw q.days).take i++[(wk,hrs)]:=by rw[B8,hq];rfl
   have hfold:pbm ((hbw q.days).take (i+1)) last rates=if wk<=last then JfG (pbm ((hbw q.days).take i) last rates) (wk/4) (JaU hrs wk rates)else pbm ((hbw q.days).take i) last rates:=by
    rw[htk];unfold pbm;rw[List.foldl_append];rfl
   refine JT (fun h=>fun _ ny=>?_) (fun h=>?_)
   .have h:=of_decide_eq_true h;refine⟨wk,rfl,?_⟩;obtain⟨oo,eo,eo2⟩:∃z,Jau (ivs (pbm ((hbw q.days).take i) last rates)) (Az (wk/4):Key)=z/\z.getD (.int 0)=.int ((YB (pbm ((hbw q.days).take i) last rates) (wk/4)).getD 0):=⟨_,rfl,by rw[Jdz];cases YB (pbm ((hbw q.days).take i) last rates) (wk/4)<;>rfl⟩
    refine ny ⟨pp,rfl,.inl ⟨_,.inl hb4⟩,_,Jbc.k (k:=Az (wk/4)) hb4,?_⟩;rw[eo,eo2]
    have hbl:(pbm ((hbw q.days).take i) last rates).length<=900:=by
     rw[JiE];have:=Jcc (g:=fun p=>p.1/4) (f:=fun p=>JaU p.2 p.1 rates) (((hbw q.days).take i).filter fun p=>decide (p.1<=last)) [];have b:=List.length_filter_le (fun p:Int×Int=>decide (p.1<=last)) ((hbw q.days).take i);simp only[List.length_nil,B7]at this b;omega
    refine⟨hrs,wk,rd,rates,rfl,JeC hT kp5,rok,x0,Int.lt_of_le_of_lt x1 (by decide),fun H6 s6=>?_⟩;refine⟨pp,_,rfl,Jei.k (k:=Az (wk/4)) (s6 _ _ hb4) (Jy (by rw[Jdq];omega)),?_⟩;refine⟨_,_,_,rfl,fun b u e n1 n2=>by rw[Jf n1];exact s6 _ _ (s4 _ _ (kp b u e n1 n2)),by rw[Jf npd.symm];exact s6 _ _ hf4,?_⟩;rw[Ja,Jg8,hfold,if_pos h];rfl
   .have h:¬wk<=last:=fun z=>h (decide_eq_true z);refine⟨_,_,_,rfl,fun b u e n1 n2=>s4 _ _ (kp b u e n1 n2),hf4,?_⟩;rw[hfold,if_neg h];exact hb4
  .rintro σ H4 ⟨v4,v5,v6,rfl,kp,hf,hb⟩;rw[Jdq,List.take_length]at hb;refine .inr ⟨d,o,_,hf,nf,?_⟩;refine nz (k pp _ hpp (fun b u e=>?_) (by rw[Jf npd];exact hb));have c:b≠d:=Ji e hd0;rw[Jf c];exact kp b u (s3 _ _ (s2 _ _ (s1 _ _ e))) (Ji e hpp) c
inductive JqP(CP:Addr)(vs:List V)(H:Hp)(Q:VK):Prop
 | mk (p dd nn rd ud:Addr) (q:Pn) (last:Int) (rates:List (Int×List Bd)) (dues:List (Int×Tab)) (h1:vs=[.ref p,.int last,.ref rd,.ref ud]) (h2:YF CP H p dd nn q) (h3:Jos q) (h4:Jag (YQ H) H rd rates) (h5:JcC rates) (h6:Jag (JbL H) H ud dues) (h7:Jkd dues) (h8:∀d H',H d=none->JX H H'->H' d=some (.dK (ivs (nbm (pbm (hbw q.days) last rates) dues)))->Q (.ref d) H'):JqP CP vs H Q
noncomputable def Jph(CP:Addr):Sp:=fun vs H Q _=>JqP CP vs H Q
theorem JeT{f f1 f2:Addr}{fd fd1 fd2:FuncData}(F:Fun K "nets_by_month" "Person.nets_by_month" Yp f fd)(T:Txt K mg CB CP fBI fPI)
  (J4:JaF P w K mg base CX0 CP "pays_by_month" ["self", "last", "rates"] (JqU CP) 4 f1 fd1)
  (Jfy:JI P w K mg base "net_for" ["pay", "month", "dues"] Jjw 4 f2 fd2):YO P w K mg base CX0 5 f fd ["self", "last", "rates", "dues"] (Jph CP):=by
 refine F.ok Yl (fun vs H Q E h=>?_) (fun cdv A outer s0 H vs Q E hr h=>?_)
 .obtain⟨_,_,_,_,_,_,_,_,_,rfl,_⟩ :=h;rfl
 .obtain⟨p,dd,nn,rd,ud,q,last,rates,dues,rfl,hP,ok,hT,rok,hU,uok,k⟩ :=h;have hu:=JbB hr;obtain⟨dx,hp⟩ :=hP.ob
  refine⟨_,(Jd (Jl 4 Yl.nd Yw)
   (Jd (Jho (Jam PassesOwn.never rfl (JgT (Jft (Yh (pw 0) T.clPerson J4.meth J4.ok (hr.mono (by decide)) J4.b .nil Ja2 (Jc (pw 1) (pa1 (pw 2)))))) (JeK rfl (YA (JH (i:=5) Yl.nd rfl (Or.inl rfl)) (YA (JH (i:=6) Yl.nd rfl (Or.inl rfl)) JcL))) (Jg (YI hu (pw 4) (pw 5) (Jo Jfy (hr.mono (by decide)) (Jc (pw 6) (Jc (pw 5) (pa1 (pw 3))))) rfl))))
   (Jg (Jn (pw 4))))),fun _ nz=>?_⟩
  have hl:=ok.len;obtain⟨bb1,bb2,bb3⟩ :=Jk4 ok rok last;intro pp hpp;have s1:=Je (o:=HO.dK []) hpp;have hp1:upd H pp (HO.dK []) pp=some (.dK []):=Ja;generalize upd H pp (HO.dK [])=H1 at s1 hp1 ⊢;refine nz fun _ nz=>⟨p,dx,_,rfl,s1 _ _ hp,Jhm _ _ _ _ (by decide +kernel) (by decide +kernel) (by decide +kernel) (by decide +kernel),p,dd,nn,rd,q,last,rates,rfl,hP.same s1,ok,JeC hT s1,rok,fun d H2 hd s2 hd2=>?_⟩;have hp2:=s2 _ _ hp1;refine⟨.inr (.inr (.inl ⟨rfl,.inl ⟨_,hd2⟩⟩)),d,_,rfl,rfl,hd2,fun vw hvw=>?_⟩;have s3:=Je (o:=Jck vw d) hvw;have hd3:=s3 _ _ hd2;have hp3:=s3 _ _ hp2;refine⟨vw,d,_,rfl,Ja,hd3,fun o nf=>?_⟩;generalize upd H2 vw (Jck vw d)=H3 at s3 hd3 hp3 ⊢;have npd:pp≠d:=Ji hp1 hd;have hd0:H d=none:=s1.free hd;generalize pbm (hbw q.days) last rates=pb at *
  refine Jfx (kvs:=ivs pb) (fun i σ H4=>∃(v5 v6:Option V),σ=[some (.ref p),some (.int last),some (.ref rd),some (.ref ud),some (.ref pp),v5,v6]/\(∀b u,H3 b=some u->b≠pp->b≠d->H4 b=some u)/\H4 d=some (.frz o (.dK (ivs pb)))/\
    H4 pp=some (.dK (ivs (nbm (pb.take i) dues))))
   ⟨none,none,rfl,fun b u e _ n=>by rw[Jf n];exact e,Ja,by rw[Jf npd];exact hp3⟩ (fun _ _ _ _ ⟨_,_,_,_,e,_⟩ =>e) ?_ ?_
  .rintro i kk v t σ H4 hi ⟨v5,v6,rfl,kp,hf,hb⟩ ht;have hi':(ivs pb)[i]?=some (kk,v):=hi;unfold ivs at hi';rw[Aq]at hi';obtain⟨⟨m,pay⟩,hq,e⟩ :=B1.mp hi';cases e;obtain⟨x0,x1⟩ :=bb2 _ (B9 hq);have x0:0<=pay:=x0;have x1:pay<10^102:=x1;have hlt:i<pb.length:=(A6.mp hq).1;have s4:=Je (o:=HO.tup [kV (Az m),V.int pay]) ht;have ht4:upd H4 t (HO.tup [kV (Az m),V.int pay]) t=some (.tup [.int m,.int pay]):=Ja;have hb4:=s4 _ _ hb;have hf4:=s4 _ _ hf;generalize upd H4 t (HO.tup [kV (Az m),V.int pay])=H5 at s4 ht4 hb4 hf4 ⊢;have kp5:∀b u,H b=some u->H5 b=some u:=fun b u e=>s4 _ _ (kp b u (s3 _ _ (s2 _ _ (s1 _ _ e))) (Ji e hpp) (Ji e hd0))
   have hbl:(nbm (pb.take i) dues).length<=900:=by
    have nd:((pb.take i).map (·.1)).Nodup:=by rw[List.map_take];exact bb1.sublist (List.take_sublist _ _)
    rw[Jgk dues nd,A2,B7];omega
   refine⟨t,_,rfl,SqT.of ht4,rfl,_,_,rfl,_,_,rfl,rfl,?_⟩;refine⟨pay,m,ud,dues,rfl,JkA hU kp5,uok,x0,x1,fun H6 s6=>?_⟩;refine⟨pp,_,rfl,Jei.k (k:=Az m) (s6 _ _ hb4) (Jy (by rw[Jdq];omega)),?_⟩;refine⟨_,_,rfl,fun b u e n1 n2=>by rw[Jf n1];exact s6 _ _ (s4 _ _ (kp b u e n1 n2)),by rw[Jf npd.symm];exact s6 _ _ hf4,?_⟩;rw[Ja,Jg8,B8,hq];show _=some (HO.dK (ivs (nbm (pb.take i++[(m,pay)]) dues)));unfold nbm;rw[List.foldl_append];rfl
  .rintro σ H4 ⟨v5,v6,rfl,kp,hf,hb⟩;rw[Jdq,List.take_length]at hb;refine .inr ⟨d,o,_,hf,nf,?_⟩;refine nz (k pp _ hpp (fun b u e=>?_) (by rw[Jf npd];exact hb));have c:b≠d:=Ji e hd0;rw[Jf c];exact kp b u (s3 _ _ (s2 _ _ (s1 _ _ e))) (Ji e hpp) c
noncomputable def JoU(q:Pn)(wk:Int):Bool:=match q.last with
 | none=>false
 | some l=>decide (wk<l)
inductive Jqb(CP CT:Addr)(vs:List V)(H:Hp)(Q:VK)(E:XK):Prop
 | mk (p dd nn rd ud:Addr) (q:Pn) (wk:Int) (rates:List (Int×List Bd)) (dues:List (Int×Tab)) (h1:vs=[.ref p,.int wk,.ref rd,.ref ud]) (h2:YF CP H p dd nn q) (h3:Jos q) (h4:Jag (YQ H) H rd rates) (h5:JcC rates) (h6:Jag (JbL H) H ud dues) (h7:Jkd dues) (h8:(JoU q wk=true->E (.ref CT) none H)) (h9:(JoU q wk=false->q.days.length<64/\∀(nets:II) (left:Int) (t nn':Addr) (H':Hp),nets=nbm (pbm (hbw q.days) wk rates) dues->left=(nets.map (·.2)).sum-q.paid->H nn'=none->
  YF CP H' p dd nn' ⟨q.days,q.paid+mx 0 left,some wk,nets⟩ ->(∀b o,H b=some o->b≠p->H' b=some o)->Jef H H' (.tup [.int (mx 0 left),.int (mn 0 left),.lst ((JeF q.nets nets).map JdA)]) (.ref t)->Q (.ref t) H')):Jqb CP CT vs H Q E
noncomputable def JqO(CP CT:Addr):Sp:=fun vs H Q E=>Jqb CP CT vs H Q E
theorem JiC{H:Hp}{p C dx:Addr}{fs:List (Str×V)}{o:HO}(e:H p=some (.ins C dx fs)):Ye H (upd H p o):=
 ⟨fun b xs h=>by rw[Jf (Jac h e (fun z=>nomatch z))];exact h,fun b xs h=>by rw[Jf (Jac h e (fun z=>nomatch z))];exact h⟩
theorem Jf9{f f1 f2:Addr}{fd fd1 fd2:FuncData}(F:Fun K "hold_payday" "Person.hold_payday" YE f fd)(Z:Zs mg)(T:Txt K mg CB CP fBI fPI)(X_TooEarly:Exc K mg base "TooEarly" CT)
  (JD:JaF P w K mg base CX0 CP "nets_by_month" ["self", "last", "rates", "dues"] (Jph CP) 5 f1 fd1)
  (Jbz:JI P w K mg base "lines_between" ["old_nets", "new_nets"] JmP 1 f2 fd2):YO P w K mg base (CXr P w) 6 f fd ["self", "week", "rates", "dues"] (JqO CP CT):=by
 refine F.okR Yx (fun vs H Q E h=>?_) (fun cdv A outer s0 H vs Q E hr h=>?_)
 .obtain⟨_,_,_,_,_,_,_,_,_,rfl,_⟩ :=h;rfl
 .obtain⟨p,dd,nn,rd,ud,⟨days,paid,last,nets0⟩,wk,rates,dues,rfl,hP,ok,hT,rok,hU,uok,hE,k⟩ :=h;have hu:=JbB hr;obtain⟨dx,hp⟩ :=hP.ob;have hp:H p=some (.ins CP dx (fP dd paid last nn)):=hp
  refine⟨_,(Jd (JL (PW.pt (Jcu (JaN (JcN (Jbk (pw 0) rfl))) (Jbe (Jq JcO (pw 1) (Jbk (pw 0) rfl) (Jx _))))) (Jg (Jfd X_TooEarly rfl Jt)) Jr)
   (Jd (Jl 4 Yx.nd (Yh (pw 0) T.clPerson JD.meth JD.ok (hr.mono (by decide)) JD.b .nil Ja2 (Jc (pw 1) (Jc (pw 2) (pa1 (pw 3))))))
   (Jd (Jl 5 Yx.nd (Jk JW (Jp (JhR rfl) (by rfl) Z.z_sum JcV (pa1 (Jka (pw 4)))) (Jbk (pw 0) rfl)))
   (Jd (Jl 6 Yx.nd (Jo Jbz (hr.mono (by decide)) (Jc (Jbk (pw 0) rfl) (pa1 (pw 4)))))
   (Jd (Jdm (pw 0) (Jk JF (Jbk (pw 0) rfl) (Jp (Jbd rfl) (by rfl) Z.z_max JdS (Jc Jb (pa1 (pw 5))))) rfl)
   (Jd (Jdm (pw 0) (pw 1) rfl)
   (Jd (Jdm (pw 0) (pw 4) rfl)
   (Jg (Jn (J2 (Jc (Jp (Jbd rfl) (by rfl) Z.z_max JdS (Jc Jb (pa1 (pw 5)))) (Jc (Jp (Jcy rfl) (by rfl) Z.z_min JhL (Jc Jb (pa1 (pw 5)))) (pa1 (pw 6)))))))))))))),fun _ nz=>?_⟩
  refine⟨p,CP,dx,_,_,rfl,hp,T.clPerson,T.n_last_week,JlX _ _ _ _,_,rfl,?_⟩
  cases last with
  | none=>
   refine JT (fun h=>absurd h (show¬(!decide (oV none=V.non))=true by simp[oV])) (fun _=>?_);refine JcM ?_;obtain⟨hlen,k⟩ :=k rfl;refine nz fun _ nz=>?_;have hlen:days.length<64:=hlen;refine⟨p,dx,_,rfl,hp,Jhm _ _ _ _ (by decide +kernel) (by decide +kernel) (by decide +kernel) (by decide +kernel),p,dd,nn,rd,ud,_,wk,rates,dues,rfl,hP,ok,hT,rok,hU,uok,fun d H1 hd s1 hd1=>?_⟩;have hd1:H1 d=some (.dK (ivs (nbm (pbm (hbw days) wk rates) dues))):=hd1
   have hnl:(nbm (pbm (hbw days) wk rates) dues).length<64:=by
    obtain⟨b1,b2,b3⟩ :=Jk4 ok rok wk;have b3:(pbm (hbw days) wk rates).length<=days.length:=b3;rw[Jgk dues b1,A2];omega
   have k:=fun t nn1 H1=>k (nbm (pbm (hbw days) wk rates) dues) _ t nn1 H1 rfl rfl;generalize nbm (pbm (hbw days) wk rates) dues=nets at hd1 hnl k ⊢;have np:p≠d:=Ji hp hd;refine nz fun _ nz=>⟨.inr (.inr (.inl ⟨rfl,.inl ⟨_,hd1⟩⟩)),d,_,rfl,rfl,hd1,fun vw hvw=>?_⟩;have hv2:=Jg2 (o:=JeN vw d) hvw;generalize upd H1 vw (JeN vw d)=H2 at hv2 ⊢;obtain⟨s2,hv2⟩ :=hv2;have s12:=s1.trans s2;have hp2:=s12 _ _ hp;refine⟨vw,d,_,_,rfl,hv2,s2 _ _ hd1,JgV nets,?_⟩;refine⟨p,CP,dx,_,_,rfl,hp2,T.clPerson,T.n_paid,JfQ _ _ _ _,?_⟩;refine nz fun _ nz=>⟨p,CP,dx,_,_,rfl,hp2,T.clPerson,T.n_last_nets,JmQ _ _ _ _,nn,d,_,nets,rfl,s12 _ _ hP.nets,s2 _ _ hd1,hnl,fun l H3 hl s3 rp=>?_⟩;have s13:=s12.trans s3;have hp3:=s13 _ _ hp;have hd3:=s3 _ _ (s2 _ _ hd1);refine nz fun _ nz=>⟨p,CP,dx,_,_,rfl,hp3,T.clPerson,T.n_paid,JfQ _ _ _ _,0,_,rfl,p,CP,dx,_,rfl,hp3,T.clPerson,T.n_paid,(by show 4<1000;decide),?_⟩;rw[JfF];refine nz fun _ nz=>⟨p,CP,dx,_,rfl,Ja,T.clPerson,T.n_last_week,(by show 4<1000;decide),?_⟩;rw[Jdw,Jfs];refine nz fun _ nz=>⟨p,CP,dx,_,rfl,Ja,T.clPerson,T.n_last_nets,(by show 4<1000;decide),?_⟩;rw[Jdw,Jff];refine nz ⟨0,_,rfl,0,_,rfl,zs3,fun t ht=>?_⟩;have ndd:dd≠p:=(Jac hp hP.days (fun z=>nomatch z)).symm
   have ntp:t≠p:=fun z=>by rw[z,Ja]at ht;cases ht
   rw[Jf ntp]at ht
   have hf:∀b o,H3 b=some o->b≠p->upd (upd H3 p (HO.ins CP dx (fP dd (paid+mx 0 ((nets.map (·.2)).sum-paid)) (some wk) d))) t (HO.tup [V.int (mx 0 ((nets.map (·.2)).sum-paid)),V.int (mn 0 ((nets.map (·.2)).sum-paid)),V.ref l]) b=some o:=fun b o e n=>by
    rw[Jf (Ji e ht),Jf n];exact e
   refine k t d _ (show H d=none from hd) ⟨⟨dx,?_⟩,?_,?_⟩ (fun b o e n=>hf b o (s13 _ _ e) n) ?_
   .rw[Jf ntp.symm,Ja];rfl
   .exact hf _ _ (s13 _ _ hP.days) ndd
   .exact hf _ _ hd3 np.symm
   .have sS:Ye H3 (upd (upd H3 p (HO.ins CP dx (fP dd (paid+mx 0 ((nets.map (·.2)).sum-paid)) (some wk) d))) t (HO.tup [V.int (mx 0 ((nets.map (·.2)).sum-paid)),V.int (mn 0 ((nets.map (·.2)).sum-paid)),V.ref l])):=(JiC hp3).trans (Ye.of (Je (by rw[Jf ntp];exact ht)));refine⟨⟨t,_,rfl,Ja,_,_,rfl,rfl,_,_,rfl,rfl,_,_,rfl,Rep.sameS sS rp,rfl⟩,fun b xs eb=>?_⟩;have ntb:t≠b:=(Ji (s13 _ _ eb) ht).symm;exact⟨t,_,rfl,by rw[JdT ntb];exact Ja,_,_,rfl,rfl,_,_,rfl,rfl,_,_,rfl,Rep.sameS (sS.era b) (Jcq rp (Ji (s12 _ _ eb) hl) (s13 _ _ eb)),rfl⟩
  | some l=>
   refine JT (fun _=>?_) (fun h=>absurd (show(!decide (oV (some l)=V.non))=true by simp[oV]) h);refine⟨p,CP,dx,_,_,rfl,hp,T.clPerson,T.n_last_week,JlX _ _ _ _,_,rfl,?_⟩;refine JT (fun h=>?_) (fun h=>nz fun _ nz=>?_)
   .exact⟨zs1,hE h⟩
   .obtain⟨hlen,k⟩ :=k (Bool.eq_false_iff.mpr h);have hlen:days.length<64:=hlen;refine⟨p,dx,_,rfl,hp,Jhm _ _ _ _ (by decide +kernel) (by decide +kernel) (by decide +kernel) (by decide +kernel),p,dd,nn,rd,ud,_,wk,rates,dues,rfl,hP,ok,hT,rok,hU,uok,fun d H1 hd s1 hd1=>?_⟩;have hd1:H1 d=some (.dK (ivs (nbm (pbm (hbw days) wk rates) dues))):=hd1
    have hnl:(nbm (pbm (hbw days) wk rates) dues).length<64:=by
     obtain⟨b1,b2,b3⟩ :=Jk4 ok rok wk;have b3:(pbm (hbw days) wk rates).length<=days.length:=b3;rw[Jgk dues b1,A2];omega
    have k:=fun t nn1 H1=>k (nbm (pbm (hbw days) wk rates) dues) _ t nn1 H1 rfl rfl;generalize nbm (pbm (hbw days) wk rates) dues=nets at hd1 hnl k ⊢;have np:p≠d:=Ji hp hd;refine nz fun _ nz=>⟨.inr (.inr (.inl ⟨rfl,.inl ⟨_,hd1⟩⟩)),d,_,rfl,rfl,hd1,fun vw hvw=>?_⟩;have hv2:=Jg2 (o:=JeN vw d) hvw;generalize upd H1 vw (JeN vw d)=H2 at hv2 ⊢;obtain⟨s2,hv2⟩ :=hv2;have s12:=s1.trans s2;have hp2:=s12 _ _ hp;refine⟨vw,d,_,_,rfl,hv2,s2 _ _ hd1,JgV nets,?_⟩;refine⟨p,CP,dx,_,_,rfl,hp2,T.clPerson,T.n_paid,JfQ _ _ _ _,?_⟩;refine nz fun _ nz=>⟨p,CP,dx,_,_,rfl,hp2,T.clPerson,T.n_last_nets,JmQ _ _ _ _,nn,d,_,nets,rfl,s12 _ _ hP.nets,s2 _ _ hd1,hnl,fun l H3 hl s3 rp=>?_⟩;have s13:=s12.trans s3;have hp3:=s13 _ _ hp;have hd3:=s3 _ _ (s2 _ _ hd1);refine nz fun _ nz=>⟨p,CP,dx,_,_,rfl,hp3,T.clPerson,T.n_paid,JfQ _ _ _ _,0,_,rfl,p,CP,dx,_,rfl,hp3,T.clPerson,T.n_paid,(by show 4<1000;decide),?_⟩;rw[JfF];refine nz fun _ nz=>⟨p,CP,dx,_,rfl,Ja,T.clPerson,T.n_last_week,(by show 4<1000;decide),?_⟩;rw[Jdw,Jfs];refine nz fun _ nz=>⟨p,CP,dx,_,rfl,Ja,T.clPerson,T.n_last_nets,(by show 4<1000;decide),?_⟩;rw[Jdw,Jff];refine nz ⟨0,_,rfl,0,_,rfl,zs3,fun t ht=>?_⟩;have ndd:dd≠p:=(Jac hp hP.days (fun z=>nomatch z)).symm
    have ntp:t≠p:=fun z=>by rw[z,Ja]at ht;cases ht
    rw[Jf ntp]at ht
    have hf:∀b o,H3 b=some o->b≠p->upd (upd H3 p (HO.ins CP dx (fP dd (paid+mx 0 ((nets.map (·.2)).sum-paid)) (some wk) d))) t (HO.tup [V.int (mx 0 ((nets.map (·.2)).sum-paid)),V.int (mn 0 ((nets.map (·.2)).sum-paid)),V.ref l]) b=some o:=fun b o e n=>by
     rw[Jf (Ji e ht),Jf n];exact e
    refine k t d _ (show H d=none from hd) ⟨⟨dx,?_⟩,?_,?_⟩ (fun b o e n=>hf b o (s13 _ _ e) n) ?_
    .rw[Jf ntp.symm,Ja];rfl
    .exact hf _ _ (s13 _ _ hP.days) ndd
    .exact hf _ _ hd3 np.symm
    .have sS:Ye H3 (upd (upd H3 p (HO.ins CP dx (fP dd (paid+mx 0 ((nets.map (·.2)).sum-paid)) (some wk) d))) t (HO.tup [V.int (mx 0 ((nets.map (·.2)).sum-paid)),V.int (mn 0 ((nets.map (·.2)).sum-paid)),V.ref l])):=(JiC hp3).trans (Ye.of (Je (by rw[Jf ntp];exact ht)));refine⟨⟨t,_,rfl,Ja,_,_,rfl,rfl,_,_,rfl,rfl,_,_,rfl,Rep.sameS sS rp,rfl⟩,fun b xs eb=>?_⟩;have ntb:t≠b:=(Ji (s13 _ _ eb) ht).symm;exact⟨t,_,rfl,by rw[JdT ntb];exact Ja,_,_,rfl,rfl,_,_,rfl,rfl,_,_,rfl,Rep.sameS (sS.era b) (Jcq rp (Ji (s12 _ _ eb) hl) (s13 _ _ eb)),rfl⟩
inductive Jml(CB CP:Addr)(vs:List V)(H:Hp)(Q:VK):Prop
 | mk (b dx:Addr) (h1:vs=[.ref b]) (h2:H b=some (.ins CB dx [])) (h3:∀L H',L.b=b->Yg CB CP H' L PB.new->(∀c,Mu L PB.new c->H c=none)->(∀c o,H c=some o->c≠b->H' c=some o)->Q .non H'):Jml CB CP vs H Q
noncomputable def Jmz(CB CP:Addr):Sp:=fun vs H Q _=>Jml CB CP vs H Q
theorem Jiv{f:Addr}{fd:FuncData}(F:Fun K "__init__" "Book.__init__" Jcp f fd)(T:Txt K mg CB CP fBI fPI):YO P w K mg base CX0 1 f fd ["self"] (Jmz CB CP):=by
 refine F.ok JiH (fun vs H Q E h=>?_) (fun cdv A outer s0 H vs Q E hr h=>?_)
 .obtain⟨_,_,rfl,_⟩ :=h;rfl
 .obtain⟨b,dx,rfl,hb,k⟩ :=h
  refine⟨_,(Jd (Jdm (pw 0) Yw rfl)
   (Jd (Jdm (pw 0) Yw rfl)
   (Jg (Jdm (pw 0) Yw rfl)))),fun _ nz=>?_⟩
  intro pd hpd;have n1:b≠pd:=Ji hb hpd;refine⟨b,CB,dx,[],rfl,(by rw[Jf n1];exact hb),T.clBook,T.n_people,(by show 0<1000;decide),?_⟩;refine nz fun _ nz=>?_;intro rd hrd
  have n2:rd≠b:=fun z=>by rw[z,Ja]at hrd;cases hrd
  rw[Jf n2]at hrd
  have n3:rd≠pd:=fun z=>by rw[z,Ja]at hrd;cases hrd
  rw[Jf n3]at hrd;refine⟨b,CB,dx,_,rfl,(by rw[Jf n2.symm];exact Ja),T.clBook,T.n_rates,(by show 1<1000;decide),?_⟩;refine nz ?_;intro ud hud
  have n4:ud≠b:=fun z=>by rw[z,Ja]at hud;cases hud
  rw[Jf n4]at hud
  have n5:ud≠rd:=fun z=>by rw[z,Ja]at hud;cases hud
  rw[Jf n5,Jf n4]at hud
  have n6:ud≠pd:=fun z=>by rw[z,Ja]at hud;cases hud
  rw[Jf n6]at hud;refine⟨b,CB,dx,_,rfl,(by rw[Jf n4.symm];exact Ja),T.clBook,T.n_dues,(by simp only[Jdb,nQR,if_false];show 2<1000;decide),?_⟩;refine k ⟨b,pd,rd,ud,fun _=>⟨0,0,0⟩⟩ _ rfl ⟨⟨dx,?_⟩,?_,List.nodup_nil,⟨[],?_,.nil⟩,⟨[],?_,.nil⟩,(fun _ h=>nomatch h),(fun _ _=>rfl),(fun _ h=>nomatch h),(fun _ h=>nomatch h),(fun _ h=>nomatch h),n3.symm,n6.symm,n5.symm,(fun _ h=>nomatch h),(fun _ h=>nomatch h)⟩ ?_ ?_
  .show upd _ b _ b=_;rw[Ja];exact congrArg (fun l=>some (HO.ins CB dx l)) (JdQ pd rd ud)
  .show upd _ b _ pd=_;rw[Jf n1.symm,Jf n6.symm,Jf n1.symm,Jf n3.symm,Jf n1.symm,Ja];rfl
  .show upd _ b _ rd=_;rw[Jf n2,Jf n5.symm,Jf n2,Ja]
  .show upd _ b _ ud=_;rw[Jf n4,Ja]
  .rintro c (rfl|rfl|rfl|⟨_,h,_⟩)
   .exact hpd
   .exact hrd
   .exact hud
   .exact nomatch h
  .intro c o e n;rw[Jf n,Jf (Ji e hud),Jf n,Jf (Ji e hrd),Jf n,Jf (Ji e hpd)];exact e
theorem Jdc(L:BL)(who:Str):∀ks:List Str,Jau (ks.map fun w=>((A8 w:Key),V.ref (L.ad w).p)) (A8 who)=if who∈ks then some (.ref (L.ad who).p)else none
 | []=>by simp[Job]
 | x::r=>by
  rw[List.map_cons]
  by_cases c:x=who
  .rw[Y2 (p:=((A8 x:Key),V.ref (L.ad x).p)) (congrArg A8 c),if_pos (by rw[c];exact Aj),c]
  .rw[Y4 (p:=((A8 x:Key),V.ref (L.ad x).p)) (fun z=>c (A8.inj z)),Jdc L who r]
   by_cases m:who∈r
   .rw[if_pos m,if_pos (List.mem_cons_of_mem _ m)]
   .rw[if_neg m,if_neg (fun z=>(Ax.mp z).elim (fun z=>c z.symm) m)]
structure JsZ(L L':BL)(M:PB):Prop where
 b:L'.b=L.b
 pd:L'.pd=L.pd
 rd:L'.rd=L.rd
 ud:L'.ud=L.ud
 ad:∀w∈M.keys,L'.ad w=L.ad w
inductive Jgo(CB CP:Addr)(vs:List V)(H:Hp)(Q:VK):Prop
 | mk (L:BL) (M:PB) (who:Str) (h1:vs=[.ref L.b,.str who]) (h2:Yg CB CP H L M) (h3:M.keys.length<=900) (h4:∀L' H',Yg CB CP H' L' (M.touch who)->Je8 L M (M.touch who) L' H H'->L'.b=L.b->Q (.ref (L'.ad who).p) H'):Jgo CB CP vs H Q
noncomputable def Jbu(CB CP:Addr):Sp:=fun vs H Q _=>Jgo CB CP vs H Q
theorem Jh1{f:Addr}{fd fd1:FuncData}(F:Fun K "person_of" "Book.person_of" Jas f fd)(T:Txt K mg CB CP fBI fPI)(Jbp:JaF P w K mg base CX0 CP "__init__" ["self"] (Jmt CP) 1 fPI fd1) :
  YO P w K mg base CX0 3 f fd ["self", "who"] (Jbu CB CP):=by
 refine F.ok Jeg (fun vs H Q E h=>?_) (fun cdv A outer s0 H vs Q E hr h=>?_)
 .obtain⟨_,_,_,rfl,_⟩ :=h;rfl
 .obtain⟨L,M,who,rfl,hB,hkl,k⟩ :=h;obtain⟨dx,hb⟩ :=hB.ob;refine⟨_,(Jg (Jn (Joi (Jbk (pw 0) rfl) (pw 1) (JjI T.mkPerson Jbp.ok (hr.mono (by decide)) rfl T.mgPerson Jbp.b .nil Ja2) (by constructor<;>rfl)))),?_⟩
  refine⟨L.b,CB,dx,_,_,rfl,hb,T.clBook,T.n_people,Jmo _ _ _,L.pd,rfl,.inl ⟨_,.inl hB.people⟩,fun x dx' nx ndx nex=>?_⟩;refine⟨x,dx',rfl,Ja,fun dd nn H1 hdd hnn ndn hP kp=>⟨rfl,?_⟩⟩
  have s0':JX H (upd (upd H dx' (.own x)) x (.ins CP dx' [])):=fun b o e=>by
   rw[Jf (Ji e nx),Jf (Ji e ndx)];exact e
  have s1:JX H H1:=fun b o e=>kp b o (s0' b o e) (Ji e nx);have hdd0:H dd=none:=s0'.free hdd;have hnn0:H nn=none:=s0'.free hnn;have hB1:=hB.same s1;refine⟨_,A8 who,hB1.people,rfl,Jy (by rw[A2];omega),fun v hv=>?_,fun hv=>?_⟩
  .rw[Jdc]at hv
   by_cases m:who∈M.keys
   .rw[if_pos m]at hv;cases hv;have e:=Jhd m;exact k L H1 (by rw[e];exact hB1) (by rw[e];exact Je8.of_same s1) rfl
   .rw[if_neg m]at hv;cases hv
  .rw[Jdc]at hv
   have m:who∉M.keys:=fun m=>by rw[if_pos m]at hv;cases hv
   have et:M.touch who={ M with keys:=M.keys++[who] }:=by unfold PB.touch;rw[if_neg m]
   have hw:∀v∈M.keys,v≠who:=fun v hv z=>m (z ▸ hv)
   let L':BL:={ L with ad:=fun y=>if y=who then⟨x,dd,nn⟩else L.ad y }
   have adw:L'.ad who=⟨x,dd,nn⟩ :=if_pos rfl;have ado:∀v∈M.keys,L'.ad v=L.ad v:=fun v hv=>if_neg (hw v hv);have npd:∀o,H1 L.pd=some o->True:=fun _ _=>trivial;obtain⟨dxp,hobp⟩ :=hP.ob;have hPd:=hP.days;have hPn:=hP.nets;have nxpd:x≠L.pd:=(Ji hB.people nx).symm;have ndpd:dd≠L.pd:=(Ji hB.people hdd0).symm;have nnpd:nn≠L.pd:=(Ji hB.people hnn0).symm;obtain⟨kr,er,rr⟩ :=hB.rates;obtain⟨ku,eu,ru⟩ :=hB.dues;have nxb:L.b≠L.pd:=Jac hb hB.people (fun z=>nomatch z)
   have hput:Yt (M.keys.map fun w=>((A8 w:Key),V.ref (L.ad w).p)) (A8 who) (V.ref x)=(M.keys++[who]).map fun w=>((A8 w:Key),V.ref (L'.ad w).p):=by
    rw[Jn8 _ (by rw[Jdc,if_neg m]),B4];congr 1
    .exact C7 fun v hv=>by rw[ado v hv]
    .show[((A8 who:Key),V.ref x)]=[((A8 who:Key),V.ref (L'.ad who).p)];rw[adw]
   rw[hput]
   have up:∀b o,H1 b=some o->b≠L.pd->upd H1 L.pd (.dK ((M.keys++[who]).map fun w=>((A8 w:Key),V.ref (L'.ad w).p))) b=some o:=fun b o e n=>by rw[Jf n];exact e
   have hdict:∀b kvs,H1 b=some (.dK kvs)->b≠L.pd->True:=fun _ _ _ _=>trivial;have sS:Ye H1 (upd H1 L.pd (.dK ((M.keys++[who]).map fun w=>((A8 w:Key),V.ref (L'.ad w).p)))):=Ye.dict hB1.people;have bsame:∀a bs,JG H1 a bs->JG (upd H1 L.pd (.dK ((M.keys++[who]).map fun w=>((A8 w:Key),V.ref (L'.ad w).p)))) a bs:=fun a bs h=>JB.mpr (Rep.sameS sS (JB.mp h))
   have hper:∀v∈M.keys,YF CP (upd H1 L.pd (.dK ((M.keys++[who]).map fun w=>((A8 w:Key),V.ref (L'.ad w).p)))) (L.ad v).p (L.ad v).dd (L.ad v).nn (M.pn v):=fun v hv=>by
    obtain⟨⟨dv,e1⟩,e2,e3⟩ :=hB1.per v hv;exact⟨⟨dv,up _ _ e1 (Jac e1 hB1.people (fun z=>nomatch z))⟩,up _ _ e2 (hB.dp v hv).1,up _ _ e3 (hB.np v hv).1⟩
   have old:∀v∈M.keys,(L.ad v).p≠x/\(L.ad v).dd≠dd/\(L.ad v).dd≠nn/\(L.ad v).nn≠dd:=fun v hv=>by
    obtain⟨⟨dv,e1⟩,e2,e3⟩ :=hB.per v hv;exact⟨Ji e1 nx,Ji e2 hdd0,Ji e2 hnn0,Ji e3 hdd0⟩
   refine(congrArg (fun z=>Q (V.ref z.p) _) adw).mp ?_ |> id
   refine k L' _ ?_ ?_ rfl
   .rw[et];refine⟨⟨dx,up _ _ (s1 _ _ hb) nxb⟩,Ja,?_,?_,?_,?_,?_,?_,?_,?_,hB.pr,hB.pu,hB.ru,?_,?_⟩
    .exact List.nodup_append.mpr ⟨hB.nd,by simp,fun a ha b hb=>by rw[A7.mp hb];exact hw a ha⟩
    .refine⟨kr,up _ _ (s1 _ _ er) hB.pr.symm,JP (fun p q hzz=>?_) rr⟩;obtain⟨z,a,e,h⟩ :=hzz;exact⟨z,a,e,bsame _ _ (JG.same h s1)⟩
    .refine⟨ku,up _ _ (s1 _ _ eu) hB.pu.symm,JP (fun p q hzz=>?_) ru⟩;obtain⟨z,a,c,e,t,h⟩ :=hzz;exact⟨z,a,c,e,sS.1 _ _ (s1 _ _ t),bsame _ _ (JG.same h s1)⟩
    .intro v hv
     rcases B5.mp hv with hv|hv
     .rw[ado v hv];exact hper v hv
     .rw[A7.mp hv,adw];have:M.pn who=Pn.nw:=hB.non who m;rw[this];exact⟨⟨dxp,up _ _ hobp nxpd⟩,up _ _ hPd ndpd,up _ _ hPn nnpd⟩
    .intro v hv;exact hB.non v fun z=>hv (List.mem_append_left _ z)
    .intro v hv u hu n
     rcases B5.mp hv with hv|hv<;>rcases B5.mp hu with hu|hu
     .rw[ado v hv,ado u hu];exact hB.app v hv u hu n
     .rw[ado v hv,A7.mp hu,adw];exact(old v hv).1
     .rw[ado u hu,A7.mp hv,adw];exact(old u hu).1.symm
     .exact absurd ((A7.mp hv).trans (A7.mp hu).symm) n
    .intro v hv u hu n
     rcases B5.mp hv with hv|hv<;>rcases B5.mp hu with hu|hu
     .rw[ado v hv,ado u hu];exact hB.apd v hv u hu n
     .rw[ado v hv,A7.mp hu,adw];exact(old v hv).2.1
     .rw[ado u hu,A7.mp hv,adw];exact(old u hu).2.1.symm
     .exact absurd ((A7.mp hv).trans (A7.mp hu).symm) n
    .intro v hv u hu
     rcases B5.mp hv with hv|hv<;>rcases B5.mp hu with hu|hu
     .rw[ado v hv,ado u hu];exact hB.apn v hv u hu
     .rw[ado v hv,A7.mp hu,adw];exact(old v hv).2.2.1
     .rw[ado u hu,A7.mp hv,adw];exact(old u hu).2.2.2.symm
     .rw[A7.mp hv,A7.mp hu,adw];exact ndn
    .intro v hv
     rcases B5.mp hv with hv|hv
     .rw[ado v hv];exact hB.dp v hv
     .rw[A7.mp hv,adw];exact⟨ndpd,(Ji er hdd0).symm,(Ji eu hdd0).symm⟩
    .intro v hv
     rcases B5.mp hv with hv|hv
     .rw[ado v hv];exact hB.np v hv
     .rw[A7.mp hv,adw];exact⟨nnpd,(Ji er hnn0).symm,(Ji eu hnn0).symm⟩
   .rw[et];refine⟨fun c o e n=>up _ _ (s1 _ _ e) fun z=>n (.inl z),fun c h=>?_⟩
    rcases h with h|h|h|⟨v,hv,h⟩
    .exact .inl (.inl h)
    .exact .inl (.inr (.inl h))
    .exact .inl (.inr (.inr (.inl h)))
    .rcases B5.mp hv with hv|hv
     .rw[ado v hv]at h;exact .inl (.inr (.inr (.inr ⟨v,hv,h⟩)))
     .rw[A7.mp hv,adw]at h
      rcases h with h|h
      .rw[h];exact .inr nx
      .rw[h];exact .inr hdd0
def JbE(CB CP:Addr)(H:Hp)(L:BL)(M:PB)(who:Str)(L':BL)(H':Hp):Prop:=Yg CB CP H' L' (M.touch who)/\Je8 L M (M.touch who) L' H H'/\L'.b=L.b
inductive Jrg(CB CP:Addr)(val:PB->Str->Int->Int)(vs:List V)(H:Hp)(Q:VK):Prop
 | mk (L:BL) (M:PB) (n:Nat) (who:Str) (wk:Int) (h1:vs=[.ref L.b,.str who,.int wk]) (h2:Yg CB CP H L M) (h3:Jcr n M) (h4:n<=290) (h5:∀L' H',JbE CB CP H L M who L' H'->Q (.int (val M who wk)) H'):Jrg CB CP val vs H Q
noncomputable def Jf5(CB CP:Addr)(val:PB->Str->Int->Int):Sp:=fun vs H Q _=>Jrg CB CP val vs H Q
theorem JbE.same{H:Hp}{L:BL}{M:PB}{who:Str}{L':BL}{H' H'':Hp}(h:JbE CB CP H L M who L' H')(s:JX H' H''):JbE CB CP H L M who L' H'':=⟨h.1.same s,h.2.1.trans (Je8.of_same s),h.2.2⟩
theorem JbE.per{H:Hp}{L:BL}{M:PB}{who:Str}{L':BL}{H':Hp}(h:JbE CB CP H L M who L' H'):YF CP H' (L'.ad who).p (L'.ad who).dd (L'.ad who).nn (M.pn who):=by
 have:=h.1.per who (JbK M who);rw[Yk]at this;exact this
theorem JbE.obj{H:Hp}{L:BL}{M:PB}{who:Str}{L':BL}{H':Hp}(h:JbE CB CP H L M who L' H'):∃dx,H' L.b=some (.ins CB dx (fB L'.pd L'.rd L'.ud)):=by
 obtain⟨dx,e⟩ :=h.1.ob;rw[h.2.2]at e;exact⟨dx,e⟩
theorem JbE.rates{H:Hp}{L:BL}{M:PB}{who:Str}{L':BL}{H':Hp}(h:JbE CB CP H L M who L' H'):Jag (YQ H') H' L'.rd M.rates:=by
 have:=h.1.rates;rw[Ja6]at this;exact this
theorem JbE.dues{H:Hp}{L:BL}{M:PB}{who:Str}{L':BL}{H':Hp}(h:JbE CB CP H L M who L' H'):Jag (JbL H') H' L'.ud M.dues:=by
 have:=h.1.dues;rw[Jbw]at this;exact this
theorem Jk8{f f1 f2:Addr}{fd fd1 fd2:FuncData}(F:Fun K "pay_of" "Book.pay_of" Jbn f fd)(T:Txt K mg CB CP fBI fPI)(Jm:JaF P w K mg base CX0 CB "person_of" ["self", "who"] (Jbu CB CP) 3 f1 fd1)
  (YH:JaF P w K mg base CX0 CP "week_pay" ["self", "week", "rates"] (JhH CP) 4 f2 fd2):YO P w K mg base CX0 5 f fd ["self", "who", "week"] (Jf5 CB CP Jlu):=by
 refine F.ok Jf0 (fun vs H Q E h=>?_) (fun cdv A outer s0 H vs Q E hr h=>?_)
 .obtain⟨_,_,_,_,_,rfl,_⟩ :=h;rfl
 .obtain⟨L,M,n,who,wk,rfl,hB,ok,hn,k⟩ :=h;obtain⟨dx,hb⟩ :=hB.ob;have kl:=ok.kl;refine⟨_,(Jg (Jn (Yh (Yh (pw 0) T.clBook Jm.meth Jm.ok (hr.mono (by decide)) Jm.b .nil Ja2 (pa1 (pw 1))) T.clPerson YH.meth YH.ok (hr.mono (by decide)) YH.b .nil Ja2 (Jc (pw 2) (pa1 (Jbk (pw 0) rfl)))))),?_⟩;refine⟨L.b,dx,_,rfl,hb,Jdy _ _ _ (by decide +kernel) (by decide +kernel) (by decide +kernel),L,M,who,rfl,hB,by omega,fun L1 H1 hB1 kp1 eb=>?_⟩;have a1:JbE CB CP H L M who L1 H1:=⟨hB1,kp1,eb⟩;obtain⟨dp,hp⟩ :=a1.per.ob;obtain⟨db,hb1⟩ :=a1.obj;refine⟨_,dp,_,rfl,hp,Jhm _ _ _ _ (by decide +kernel) (by decide +kernel) (by decide +kernel) (by decide +kernel),L.b,CB,db,_,_,rfl,hb1,T.clBook,T.n_rates,Je7 _ _ _,?_⟩;exact⟨_,_,_,_,_,wk,M.rates,rfl,a1.per,ok.pn (by omega) who,a1.rates,ok.rates (by omega),fun H2 s2=>k L1 H2 (a1.same s2)⟩
inductive JjH(CB CP:Addr)(vs:List V)(H:Hp)(Q:VK):Prop
 | mk (L:BL) (M:PB) (n:Nat) (who:Str) (wk:Int) (h1:vs=[.ref L.b,.str who,.int wk]) (h2:Yg CB CP H L M) (h3:Jcr n M) (h4:n<=290) (h5:∀L' H' d,JbE CB CP H L M who L' H'->H' d=some (.dK (ivs (Jai M who wk)))->Q (.ref d) H'):JjH CB CP vs H Q
noncomputable def Jhu(CB CP:Addr):Sp:=fun vs H Q _=>JjH CB CP vs H Q
theorem Jkt{f f1 f2:Addr}{fd fd1 fd2:FuncData}(F:Fun K "nets_of" "Book.nets_of" Jba f fd)(T:Txt K mg CB CP fBI fPI)(Jm:JaF P w K mg base CX0 CB "person_of" ["self", "who"] (Jbu CB CP) 3 f1 fd1)
  (JD:JaF P w K mg base CX0 CP "nets_by_month" ["self", "last", "rates", "dues"] (Jph CP) 5 f2 fd2):YO P w K mg base CX0 6 f fd ["self", "who", "week"] (Jhu CB CP):=by
 refine F.ok Jfk (fun vs H Q E h=>?_) (fun cdv A outer s0 H vs Q E hr h=>?_)
 .obtain⟨_,_,_,_,_,rfl,_⟩ :=h;rfl
 .obtain⟨L,M,n,who,wk,rfl,hB,ok,hn,k⟩ :=h;obtain⟨dx,hb⟩ :=hB.ob;have kl:=ok.kl;refine⟨_,(Jg (Jn (Yh (Yh (pw 0) T.clBook Jm.meth Jm.ok (hr.mono (by decide)) Jm.b .nil Ja2 (pa1 (pw 1))) T.clPerson JD.meth JD.ok (hr.mono (by decide)) JD.b .nil Ja2 (Jc (pw 2) (Jc (Jbk (pw 0) rfl) (pa1 (Jbk (pw 0) rfl))))))),?_⟩;refine⟨L.b,dx,_,rfl,hb,Jdy _ _ _ (by decide +kernel) (by decide +kernel) (by decide +kernel),L,M,who,rfl,hB,by omega,fun L1 H1 hB1 kp1 eb=>?_⟩;have a1:JbE CB CP H L M who L1 H1:=⟨hB1,kp1,eb⟩;obtain⟨dp,hp⟩ :=a1.per.ob;obtain⟨db,hb1⟩ :=a1.obj;refine⟨_,dp,_,rfl,hp,Jhm _ _ _ _ (by decide +kernel) (by decide +kernel) (by decide +kernel) (by decide +kernel),L.b,CB,db,_,_,rfl,hb1,T.clBook,T.n_rates,Je7 _ _ _,L.b,CB,db,_,_,rfl,hb1,T.clBook,T.n_dues,Jjp _ _ _,?_⟩;refine⟨_,_,_,_,_,_,wk,M.rates,M.dues,rfl,a1.per,ok.pn (by omega) who,a1.rates,ok.rates (by omega),a1.dues,ok.dues (by omega),fun d H2 hd s2 hd2=>k L1 H2 d (a1.same s2) hd2⟩
theorem Jlt{f f1 f2:Addr}{fd fd1 fd2:FuncData}(F:Fun K "net_of" "Book.net_of" Jbm f fd)(T:Txt K mg CB CP fBI fPI)(JZ:JaF P w K mg base CX0 CB "nets_of" ["self", "who", "week"] (Jhu CB CP) 6 f1 fd1)
  (Jbs:JI P w K mg base "month_of" ["week"] JiW 1 f2 fd2):YO P w K mg base CX0 7 f fd ["self", "who", "week"] (Jf5 CB CP fun M who wk=>(YB (Jai M who wk) (wk/4)).getD 0):=by
 refine F.ok Jf2 (fun vs H Q E h=>?_) (fun cdv A outer s0 H vs Q E hr h=>?_)
 .obtain⟨_,_,_,_,_,rfl,_⟩ :=h;rfl
 .obtain⟨L,M,n,who,wk,rfl,hB,ok,hn,k⟩ :=h;obtain⟨dx,hb⟩ :=hB.ob;have hu:=JbB hr;refine⟨_,(Jg (Jn (Y9 hu (Yh (pw 0) T.clBook JZ.meth JZ.ok (hr.mono (by decide)) JZ.b .nil Ja2 (Jc (pw 1) (pa1 (pw 2)))) (Jo Jbs (hr.mono (by decide)) (pa1 (pw 2))) Jb (by constructor<;>rfl)))),?_⟩
  refine⟨L.b,dx,_,rfl,hb,Jdy _ _ _ (by decide +kernel) (by decide +kernel) (by decide +kernel),L,M,n,who,wk,rfl,hB,ok,hn,fun L1 H1 d a1 hd1=>?_⟩;obtain⟨oo,eo,eo2⟩:∃z,Jau (ivs (Jai M who wk)) (Az (wk/4):Key)=z/\z.getD (.int 0)=.int ((YB (Jai M who wk) (wk/4)).getD 0):=⟨_,rfl,by rw[Jdz];cases YB (Jai M who wk) (wk/4)<;>rfl⟩
  refine⟨d,rfl,.inl ⟨_,.inl hd1⟩,wk,rfl,_,Jbc.k (k:=Az (wk/4)) hd1,?_⟩;rw[eo,eo2];exact k L1 H1 a1
theorem Ji4{f f1:Addr}{fd fd1:FuncData}(F:Fun K "right_of" "Book.right_of" JaY f fd)(Z:Zs mg)(T:Txt K mg CB CP fBI fPI)(JZ:JaF P w K mg base CX0 CB "nets_of" ["self", "who", "week"] (Jhu CB CP) 6 f1 fd1) :
  YO P w K mg base CX0 7 f fd ["self", "who", "week"] (Jf5 CB CP JaA):=by
 refine F.ok JeQ (fun vs H Q E h=>?_) (fun cdv A outer s0 H vs Q E hr h=>?_)
 .obtain⟨_,_,_,_,_,rfl,_⟩ :=h;rfl
 .obtain⟨L,M,n,who,wk,rfl,hB,ok,hn,k⟩ :=h;obtain⟨dx,hb⟩ :=hB.ob;refine⟨_,(Jg (Jn (Jp (JhR rfl) (by rfl) Z.z_sum JcV (pa1 (Jka (Yh (pw 0) T.clBook JZ.meth JZ.ok (hr.mono (by decide)) JZ.b .nil Ja2 (Jc (pw 1) (pa1 (pw 2))))))))),?_⟩;refine⟨L.b,dx,_,rfl,hb,Jdy _ _ _ (by decide +kernel) (by decide +kernel) (by decide +kernel),L,M,n,who,wk,rfl,hB,ok,hn,fun L1 H1 d a1 hd1=>?_⟩;refine⟨.inr (.inr (.inl ⟨rfl,.inl ⟨_,hd1⟩⟩)),d,_,rfl,rfl,hd1,fun vw hvw=>?_⟩;have s2:=Je (o:=JeN vw d) hvw;exact⟨vw,d,_,_,rfl,Ja,s2 _ _ hd1,JgV _,k L1 _ (a1.same s2)⟩
inductive JjK(CB CP:Addr)(vs:List V)(H:Hp)(Q:VK):Prop
 | mk (L:BL) (M:PB) (who:Str) (h1:vs=[.ref L.b,.str who]) (h2:Yg CB CP H L M) (h3:M.keys.length<=900) (h4:∀L' H',JbE CB CP H L M who L' H'->Q (.int (M.pn who).paid) H'):JjK CB CP vs H Q
noncomputable def Jhg(CB CP:Addr):Sp:=fun vs H Q _=>JjK CB CP vs H Q
theorem Jku{f f1:Addr}{fd fd1:FuncData}(F:Fun K "paid_to" "Book.paid_to" Jbb f fd)(T:Txt K mg CB CP fBI fPI)(Jm:JaF P w K mg base CX0 CB "person_of" ["self", "who"] (Jbu CB CP) 3 f1 fd1) :
  YO P w K mg base CX0 4 f fd ["self", "who"] (Jhg CB CP):=by
 refine F.ok JfX (fun vs H Q E h=>?_) (fun cdv A outer s0 H vs Q E hr h=>?_)
 .obtain⟨_,_,_,rfl,_⟩ :=h;rfl
 .obtain⟨L,M,who,rfl,hB,kl,k⟩ :=h;obtain⟨dx,hb⟩ :=hB.ob;refine⟨_,(Jg (Jn (Jbk (Yh (pw 0) T.clBook Jm.meth Jm.ok (hr.mono (by decide)) Jm.b .nil Ja2 (pa1 (pw 1))) rfl))),?_⟩;refine⟨L.b,dx,_,rfl,hb,Jdy _ _ _ (by decide +kernel) (by decide +kernel) (by decide +kernel),L,M,who,rfl,hB,kl,fun L1 H1 hB1 kp1 eb=>?_⟩;have a1:JbE CB CP H L M who L1 H1:=⟨hB1,kp1,eb⟩;obtain⟨dp,hp⟩ :=a1.per.ob;exact⟨_,CP,dp,_,_,rfl,hp,T.clPerson,T.n_paid,JfQ _ _ _ _,k L1 H1 a1⟩
theorem Jjc{f f1 f2:Addr}{fd fd1 fd2:FuncData}(F:Fun K "owing_to" "Book.owing_to" JaK f fd)(T:Txt K mg CB CP fBI fPI)(JU:JaF P w K mg base CX0 CB "right_of" ["self", "who", "week"] (Jf5 CB CP JaA) 7 f1 fd1)
  (JY:JaF P w K mg base CX0 CB "paid_to" ["self", "who"] (Jhg CB CP) 4 f2 fd2):YO P w K mg base CX0 8 f fd ["self", "who", "week"] (Jf5 CB CP fun M who wk=>JaA M who wk-(M.pn who).paid):=by
 refine F.ok JeW (fun vs H Q E h=>?_) (fun cdv A outer s0 H vs Q E hr h=>?_)
 .obtain⟨_,_,_,_,_,rfl,_⟩ :=h;rfl
 .obtain⟨L,M,n,who,wk,rfl,hB,ok,hn,k⟩ :=h;obtain⟨dx,hb⟩ :=hB.ob;have kl:=(ok.touch who).kl;refine⟨_,(Jg (Jn (Jk JW (Yh (pw 0) T.clBook JU.meth JU.ok (hr.mono (by decide)) JU.b .nil Ja2 (Jc (pw 1) (pa1 (pw 2)))) (Yh (pw 0) T.clBook JY.meth JY.ok (hr.mono (by decide)) JY.b .nil Ja2 (pa1 (pw 1)))))),?_⟩;refine⟨L.b,dx,_,rfl,hb,Jdy _ _ _ (by decide +kernel) (by decide +kernel) (by decide +kernel),L,M,n,who,wk,rfl,hB,ok,hn,fun L1 H1 a1=>?_⟩;obtain⟨db,hb1⟩ :=a1.obj;refine⟨L.b,db,_,rfl,hb1,Jdy _ _ _ (by decide +kernel) (by decide +kernel) (by decide +kernel),L1,M.touch who,who,by rw[a1.2.2];rfl,a1.1,by omega,fun L2 H2 a2=>?_⟩
  have a3:JbE CB CP H L M who L2 H2:=by
   have e:=Jhd (JbK M who);obtain⟨z1,z2,z3⟩ :=a2;rw[e]at z1 z2;exact⟨z1,a1.2.1.trans z2,z3.trans a1.2.2⟩
  rw[Yk];exact k L2 H2 a3
inductive JlO(CB CP CH:Addr)(vs:List V)(H:Hp)(Q:VK)(E:XK):Prop
 | mk (L:BL) (M:PB) (n:Nat) (who:Str) (day many:Int) (h1:vs=[.ref L.b,.str who,.int day,.int many]) (h2:Yg CB CP H L M) (h3:Jcr n M) (h4:n<=280) (h5:(¬(0<=many/\many<=24)->E (.ref CH) none H)) (h6:(0<=many/\many<=24->∀M' L' H',M'=(M.touch who).set who { (M.pn who)with days:=Jax (M.pn who).days day many }->Yg CB CP H' L' M'->Je8 L M M' L' H H'->L'.b=L.b->Q (.int (Jlu M' who (day/7))) H')):JlO CB CP CH vs H Q E
noncomputable def JmJ(CB CP CH:Addr):Sp:=fun vs H Q E=>JlO CB CP CH vs H Q E
theorem Jhh{f f1 f2 f3 f4:Addr}{fd fd1 fd2 fd3 fd4:FuncData}(F:Fun K "tell_hours" "Book.tell_hours" Jaa f fd)(G:Gs mg)(T:Txt K mg CB CP fBI fPI)(X_NoHours:Exc K mg base "NoHours" CH)
  (Jm:JaF P w K mg base CX0 CB "person_of" ["self", "who"] (Jbu CB CP) 3 f1 fd1) (Yv:JaF P w K mg base CX0 CP "set_hours" ["self", "day", "many"] (JoP CP) 1 f2 fd2)
  (J8:JaF P w K mg base CX0 CB "pay_of" ["self", "who", "week"] (Jf5 CB CP Jlu) 5 f3 fd3) (Jb8:JI P w K mg base "week_of" ["day"] Jme 1 f4 fd4) :
  YO P w K mg base (CXr P w) 6 f fd ["self", "who", "day", "many"] (JmJ CB CP CH):=by
 refine F.okR JdN (fun vs H Q E h=>?_) (fun cdv A outer s0 H vs Q E hr h=>?_)
 .obtain⟨_,_,_,_,_,_,rfl,_⟩ :=h;rfl
 .obtain⟨L,M,n,who,day,many,rfl,hB,ok,hn,hE,k⟩ :=h;obtain⟨dx,hb⟩ :=hB.ob;have kl:=ok.kl
  refine⟨_,(Jd (JL (PW.pt (JbI (Jq JcO (pw 3) Jb (Jx _)) (JaX (Jq Jfj (pw 3) (Jhk rfl G.g_HOURS_OF_DAY) (Jx _))))) (Jg (Jfd X_NoHours rfl Jt)) Jr)
   (Jd (Jbh (Yh (Yh (pw 0) T.clBook Jm.meth Jm.ok (hr.mono (by decide)) Jm.b .nil Ja2 (pa1 (pw 1))) T.clPerson Yv.meth Yv.ok (hr.mono (by decide)) Yv.b .nil Ja2 (Jc (pw 2) (pa1 (pw 3)))))
   (Jg (Jn (Yh (pw 0) T.clBook J8.meth J8.ok (hr.mono (by decide)) J8.b .nil Ja2 (Jc (pw 1) (pa1 (Jo Jb8 (hr.mono (by decide)) (pa1 (pw 2)))))))))),fun _ nz=>?_⟩
  refine⟨_,rfl,?_⟩;refine JT (fun h=>?_) (fun h=>?_)
  .have h:=of_decide_eq_true h;refine JfH ?_;exact⟨zs1,hE (by omega)⟩
  .have h:¬many<0:=fun z=>h (decide_eq_true z);refine⟨_,rfl,?_⟩;refine JT (fun g=>?_) (fun g=>nz fun _ nz=>?_)
   .have g:=of_decide_eq_true g;exact⟨zs1,hE (by omega)⟩
   .have g:¬24<many:=fun z=>g (decide_eq_true z)
    have hm:0<=many/\many<=24:=by omega
    refine⟨L.b,dx,_,rfl,hb,Jdy _ _ _ (by decide +kernel) (by decide +kernel) (by decide +kernel),L,M,who,rfl,hB,by omega,fun L1 H1 hB1 kp1 eb=>?_⟩;have a1:JbE CB CP H L M who L1 H1:=⟨hB1,kp1,eb⟩;obtain⟨dp,hp⟩ :=a1.per.ob;have dl:=ok.dl who;refine⟨_,dp,_,rfl,hp,Jhm _ _ _ _ (by decide +kernel) (by decide +kernel) (by decide +kernel) (by decide +kernel),_,_,_,M.pn who,day,many,rfl,a1.per,by omega,?_⟩;obtain⟨hob,hdd,hnn⟩ :=a1.per;have n1:(L1.ad who).p≠(L1.ad who).dd:=Jac hp hdd (fun z=>nomatch z);have n2:(L1.ad who).nn≠(L1.ad who).dd:=(hB1.apn who (JbK M who) who (JbK M who)).symm
    obtain⟨L2,eb2,hB2,kp2⟩ :=Jj2 (H':=upd H1 (L1.ad who).dd (.dK (ivs (Jax (M.pn who).days day many)))) (q:={ (M.pn who)with days:=Jax (M.pn who).days day many }) (nn:=(L1.ad who).nn) hB1 (JbK M who)
     (fun b o e _ n=>by rw[Jf n];exact e) ⟨⟨dp,by rw[Jf n1];exact hp⟩,Ja,by rw[Jf n2];exact hnn⟩ (.inl rfl)
    have ok2:Jcr (n+1) ((M.touch who).set who { (M.pn who)with days:=Jax (M.pn who).days day many }):=by
     refine(ok.touch who).set (Jjt (ok.nd who) _ _) (Jeb hm (ok.val who)) ?_;have:=Jc2 (M.pn who).days day many;show(Jax (M.pn who).days day many).length<=n+1;omega
    have hw2:who∈((M.touch who).set who { (M.pn who)with days:=Jax (M.pn who).days day many }).keys:=JbK M who;obtain⟨dx2,hb2⟩ :=hB2.ob;have eb3:L2.b=L.b:=eb2.trans eb;rw[eb3]at hb2;refine nz ⟨L.b,dx2,_,rfl,hb2,Jdy _ _ _ (by decide +kernel) (by decide +kernel) (by decide +kernel),day,rfl,L2,_,n+1,who,day/7,by rw[eb3];rfl,hB2,ok2,by omega,fun L3 H3 a3=>?_⟩;obtain⟨z1,z2,z3⟩ :=a3;rw[Jhd hw2]at z1 z2;exact k hm _ L3 H3 rfl z1 ((kp1.trans kp2).trans z2) (z3.trans eb3)
theorem JpP{CB CP:Addr}{H:Hp}{L:BL}{M:PB}{wk:Int}{a:Addr}{bs:List Bd}{kvs:List (Key×V)}(hB:Yg CB CP H L M)(hb:JG H a bs)(e:H L.rd=some (.dK kvs))(pr:Paired (fun(p:Key×V)(q:Int×List Bd)=>p.1=Az q.1/\YQ H q.2 p.2) kvs M.rates) :
  Yg CB CP (upd H L.rd (.dK (Yt kvs (Az wk) (.ref a)))) L { M with rates:=Jax M.rates wk bs }/\Je8 L M { M with rates:=Jax M.rates wk bs } L H (upd H L.rd (.dK (Yt kvs (Az wk) (.ref a)))):=by
 have sS:Ye H (upd H L.rd (.dK (Yt kvs (Az wk) (.ref a)))):=Ye.dict e;have bsame:∀a' bs,JG H a' bs->JG (upd H L.rd (.dK (Yt kvs (Az wk) (.ref a)))) a' bs:=fun a' bs h=>JB.mpr (Rep.sameS sS (JB.mp h))
 have up:∀b o,H b=some o->b≠L.rd->upd H L.rd (.dK (Yt kvs (Az wk) (.ref a))) b=some o:=fun b o e n=>by rw[Jf n];exact e
 obtain⟨dx,ho⟩ :=hB.ob;obtain⟨ku,eu,ru⟩ :=hB.dues
 refine⟨⟨⟨dx,up _ _ ho (Jac ho e fun z=>nomatch z)⟩,up _ _ hB.people hB.pr,hB.nd,⟨_,Ja,JP (fun p q ⟨z,c,e,h⟩ =>⟨z,c,e,bsame _ _ h⟩) (Je3 pr ⟨a,rfl,hb⟩)⟩,⟨ku,up _ _ eu hB.ru.symm,JP (fun p q ⟨z,a,c,e,t,h⟩ =>⟨z,a,c,e,sS.1 _ _ t,bsame _ _ h⟩) ru⟩,
  fun v hv=>?_,hB.non,hB.app,hB.apd,hB.apn,hB.pr,hB.pu,hB.ru,hB.dp,hB.np⟩,⟨fun c o z n=>up c o z fun y=>n (.inr (.inl y)),fun c z=>.inl z⟩⟩
 obtain⟨⟨dv,a1⟩,a2,a3⟩ :=hB.per v hv;exact⟨⟨dv,up _ _ a1 (Jac a1 e fun z=>nomatch z)⟩,up _ _ a2 (hB.dp v hv).2.1,up _ _ a3 (hB.np v hv).2.1⟩
theorem JpX{CB CP:Addr}{H:Hp}{L:BL}{M:PB}{m:Int}{v:V}{t:Tab}{kvs:List (Key×V)}(hB:Yg CB CP H L M)(ht:JbL H t v)(e:H L.ud=some (.dK kvs))(pr:Paired (fun(p:Key×V)(q:Int×Tab)=>p.1=Az q.1/\JbL H q.2 p.2) kvs M.dues) :
  Yg CB CP (upd H L.ud (.dK (Yt kvs (Az m) v))) L { M with dues:=Jax M.dues m t }/\Je8 L M { M with dues:=Jax M.dues m t } L H (upd H L.ud (.dK (Yt kvs (Az m) v))):=by
 have sS:Ye H (upd H L.ud (.dK (Yt kvs (Az m) v))):=Ye.dict e;have bsame:∀a' bs,JG H a' bs->JG (upd H L.ud (.dK (Yt kvs (Az m) v))) a' bs:=fun a' bs h=>JB.mpr (Rep.sameS sS (JB.mp h))
 have up:∀b o,H b=some o->b≠L.ud->upd H L.ud (.dK (Yt kvs (Az m) v)) b=some o:=fun b o e n=>by rw[Jf n];exact e
 obtain⟨dx,ho⟩ :=hB.ob;obtain⟨kr,er,rr⟩ :=hB.rates
 refine⟨⟨⟨dx,up _ _ ho (Jac ho e fun z=>nomatch z)⟩,up _ _ hB.people hB.pu,hB.nd,⟨kr,up _ _ er hB.ru,JP (fun p q ⟨z,c,e,h⟩ =>⟨z,c,e,bsame _ _ h⟩) rr⟩,⟨_,Ja,JP (fun p q ⟨z,a,c,e,t,h⟩ =>⟨z,a,c,e,sS.1 _ _ t,bsame _ _ h⟩) (Je3 pr ht)⟩,
  fun w hw=>?_,hB.non,hB.app,hB.apd,hB.apn,hB.pr,hB.pu,hB.ru,hB.dp,hB.np⟩,⟨fun c o z n=>up c o z fun y=>n (.inr (.inr (.inl y))),fun c z=>.inl z⟩⟩
 obtain⟨⟨dv,a1⟩,a2,a3⟩ :=hB.per w hw;exact⟨⟨dv,up _ _ a1 (Jac a1 e fun z=>nomatch z)⟩,up _ _ a2 (hB.dp w hw).2.2,up _ _ a3 (hB.np w hw).2.2⟩
inductive JlE(CB CP CN:Addr)(vs:List V)(H:Hp)(Q:VK)(E:XK):Prop
 | mk (L:BL) (M:PB) (wk:Int) (a:Addr) (bs:List Bd) (h1:vs=[.ref L.b,.int wk,.ref a]) (h2:Yg CB CP H L M) (h3:M.rates.length<=900) (h4:JG H a bs) (h5:bs.length<=1000) (h6:(Jbo none bs=false->∀H',JX H H'->E (.ref CN) none H')) (h7:(Jbo none bs=true->∀H',Yg CB CP H' L { M with rates:=Jax M.rates wk bs }->Je8 L M { M with rates:=Jax M.rates wk bs } L H H'->Q .non H')):JlE CB CP CN vs H Q E
noncomputable def Jmh(CB CP CN:Addr):Sp:=fun vs H Q E=>JlE CB CP CN vs H Q E
theorem JhP{f f1:Addr}{fd fd1:FuncData}(F:Fun K "tell_rate" "Book.tell_rate" Jar f fd)(T:Txt K mg CB CP fBI fPI)(X_NoTable:Exc K mg base "NoTable" CN)(JaC:JI P w K mg base "good_bands" ["bands"] Jje 1 f1 fd1) :
  YO P w K mg base (CXr P w) 2 f fd ["self", "week", "bands"] (Jmh CB CP CN):=by
 refine F.okR Jes (fun vs H Q E h=>?_) (fun cdv A outer s0 H vs Q E hr h=>?_)
 .obtain⟨_,_,_,_,_,rfl,_⟩ :=h;rfl
 .obtain⟨L,M,wk,a,bs,rfl,hB,hrl,hb,hl,hE,k⟩ :=h;have hu:=JbB hr
  refine⟨_,(Jd (JL (JaD (JaI (Jo JaC (hr.mono (by decide)) (pa1 (pw 2))))) (Jg (Jfd X_NoTable rfl Jt)) Jr)
   (Jg (YI hu (Jbk (pw 0) rfl) (pw 1) (pw 2) rfl))),fun _ nz=>?_⟩
  refine⟨a,bs,rfl,hb,hl,fun H1 s1=>⟨_,rfl,?_⟩⟩
  cases hc:Jbo none bs with
  | false=>
   refine JfH ?_;exact⟨zs1,hE hc H1 s1⟩
  | true=>
   refine JcM ?_;refine nz ?_;have hB1:=hB.same s1;obtain⟨dx,ho⟩ :=hB1.ob;obtain⟨kvs,e,pr⟩ :=hB1.rates
   have hkl:kvs.length=M.rates.length:=by
    have:=congrArg List.length (JbA pr);simpa using this
   refine⟨L.b,CB,dx,_,_,rfl,ho,T.clBook,T.n_rates,Je7 _ _ _,L.rd,_,rfl,Jei.k (k:=Az wk) e (Jy (by omega)),?_⟩;obtain⟨z1,z2⟩ :=JpP (wk:=wk) hB1 (hb.same s1) e pr;exact k hc _ z1 ((Je8.of_same s1).trans z2)
inductive JlR(CB CP CN:Addr)(vs:List V)(H:Hp)(Q:VK)(E:XK):Prop
 | mk (L:BL) (M:PB) (m:Int) (a:Addr) (t:Tab) (h1:vs=[.ref L.b,.int m,.ref a]) (h2:Yg CB CP H L M) (h3:M.dues.length<=900) (h4:JbL H t (.ref a)) (h5:t.1.length<=1000) (h6:(Jd2 t=false->∀H',JX H H'->E (.ref CN) none H')) (h7:(Jd2 t=true->∀H',Yg CB CP H' L { M with dues:=Jax M.dues m t }->Je8 L M { M with dues:=Jax M.dues m t } L H H'->Q .non H')):JlR CB CP CN vs H Q E
noncomputable def Jnc(CB CP CN:Addr):Sp:=fun vs H Q E=>JlR CB CP CN vs H Q E
theorem Jib{f f1:Addr}{fd fd1:FuncData}(F:Fun K "tell_dues" "Book.tell_dues" Jao f fd)(T:Txt K mg CB CP fBI fPI)(X_NoTable:Exc K mg base "NoTable" CN)(JdC:JI P w K mg base "good_dues" ["table"] Jln 2 f1 fd1) :
  YO P w K mg base (CXr P w) 3 f fd ["self", "month", "table"] (Jnc CB CP CN):=by
 refine F.okR Jeh (fun vs H Q E h=>?_) (fun cdv A outer s0 H vs Q E hr h=>?_)
 .obtain⟨_,_,_,_,_,rfl,_⟩ :=h;rfl
 .obtain⟨L,M,m,a,t,rfl,hB,hrl,ht,hl,hE,k⟩ :=h;have hu:=JbB hr
  refine⟨_,(Jd (JL (JaD (JaI (Jo JdC (hr.mono (by decide)) (pa1 (pw 2))))) (Jg (Jfd X_NoTable rfl Jt)) Jr)
   (Jg (YI hu (Jbk (pw 0) rfl) (pw 1) (pw 2) rfl))),fun _ nz=>?_⟩
  refine⟨a,t,rfl,ht,hl,fun H1 s1=>⟨_,rfl,?_⟩⟩
  cases hc:Jd2 t with
  | false=>
   refine JfH ?_;exact⟨zs1,hE hc H1 s1⟩
  | true=>
   refine JcM ?_;refine nz ?_;have hB1:=hB.same s1;obtain⟨dx,ho⟩ :=hB1.ob;obtain⟨kvs,e,pr⟩ :=hB1.dues
   have hkl:kvs.length=M.dues.length:=by
    have:=congrArg List.length (JbA pr);simpa using this
   refine⟨L.b,CB,dx,_,_,rfl,ho,T.clBook,T.n_dues,Jjp _ _ _,L.ud,_,rfl,Jei.k (k:=Az m) e (Jy (by omega)),?_⟩
   have ht1:JbL H1 t (.ref a):=by
    obtain⟨a',b,e,h1,h2⟩ :=ht;exact⟨a',b,e,s1 _ _ h1,h2.same s1⟩
   obtain⟨z1,z2⟩ :=JpX (m:=m) hB1 ht1 e pr;exact k hc _ z1 ((Je8.of_same s1).trans z2)
inductive Jl9(CB CP CT:Addr)(vs:List V)(H:Hp)(Q:VK)(E:XK):Prop
 | mk (L:BL) (M:PB) (n:Nat) (who:Str) (wk:Int) (h1:vs=[.ref L.b,.str who,.int wk]) (h2:Yg CB CP H L M) (h3:Jcr n M) (h4:n<=290) (h5:(Jdo M who wk=true->∀L' H',JbE CB CP H L M who L' H'->E (.ref CT) none H')) (h6:(Jdo M who wk=false->(M.pn who).days.length<64/\∀(left:Int) M' L' H' r,left=JaA M who wk-(M.pn who).paid->M'=(M.touch who).set who { (M.pn who)with paid:=(M.pn who).paid+mx 0 left,last:=some wk,nets:=Jai M who wk }->
  Yg CB CP H' L' M'->Je8 L M M' L' H H'->L'.b=L.b->Jef H H' (.tup [.int (mx 0 left),.int (mn 0 left),.lst ((JeF (M.pn who).nets (Jai M who wk)).map JdA)]) r->Q r H')):Jl9 CB CP CT vs H Q E
noncomputable def Jmy(CB CP CT:Addr):Sp:=fun vs H Q E=>Jl9 CB CP CT vs H Q E
theorem Jer{f f1 f2:Addr}{fd fd1 fd2:FuncData}(F:Fun K "hold_payday_of" "Book.hold_payday_of" Yy f fd)(T:Txt K mg CB CP fBI fPI)(Jm:JaF P w K mg base CX0 CB "person_of" ["self", "who"] (Jbu CB CP) 3 f1 fd1)
  (Yi:JaF P w K mg base (CXr P w) CP "hold_payday" ["self", "week", "rates", "dues"] (JqO CP CT) 6 f2 fd2):YO P w K mg base (CXr P w) 7 f fd ["self", "who", "week"] (Jmy CB CP CT):=by
 refine F.okR Jcx (fun vs H Q E h=>?_) (fun cdv A outer s0 H vs Q E hr h=>?_)
 .obtain⟨_,_,_,_,_,rfl,_⟩ :=h;rfl
 .obtain⟨L,M,n,who,wk,rfl,hB,ok,hn,hE,k⟩ :=h;obtain⟨dx,hb⟩ :=hB.ob;have kl:=ok.kl;refine⟨_,(Jg (Jn (Yh (Yh (pw 0) T.clBook Jm.meth Jm.ok (hr.mono (by decide)) Jm.b .nil Ja2 (pa1 (pw 1))) T.clPerson Yi.meth Yi.ok (hr.mono (by decide)) Yi.b .nil JmD (Jc (pw 2) (Jc (Jbk (pw 0) rfl) (pa1 (Jbk (pw 0) rfl))))))),?_⟩;refine⟨L.b,dx,_,rfl,hb,Jdy _ _ _ (by decide +kernel) (by decide +kernel) (by decide +kernel),L,M,who,rfl,hB,by omega,fun L1 H1 hB1 kp1 eb=>?_⟩;have a1:JbE CB CP H L M who L1 H1:=⟨hB1,kp1,eb⟩;obtain⟨dp,hp⟩ :=a1.per.ob;obtain⟨db,hb1⟩ :=a1.obj;refine⟨_,dp,_,rfl,hp,Jhm _ _ _ _ (by decide +kernel) (by decide +kernel) (by decide +kernel) (by decide +kernel),L.b,CB,db,_,_,rfl,hb1,T.clBook,T.n_rates,Je7 _ _ _,L.b,CB,db,_,_,rfl,hb1,T.clBook,T.n_dues,Jjp _ _ _,?_⟩;refine⟨_,_,_,_,_,M.pn who,wk,M.rates,M.dues,rfl,a1.per,ok.pn (by omega) who,a1.rates,ok.rates (by omega),a1.dues,ok.dues (by omega),fun h=>hE h L1 H1 a1,fun h=>?_⟩;obtain⟨hl,k⟩ :=k h;refine⟨hl,fun nets left t nn H2 en el hnn hP kp2 rp=>?_⟩;subst en;obtain⟨L2,eb2,hB2,kp3⟩ :=Jj2 (H':=H2) hB1 (JbK M who) (fun b o e n _=>kp2 b o e n) hP (.inr hnn);exact k left _ L2 H2 _ el rfl hB2 (kp1.trans kp3) (eb2.trans eb) (rp.from (JgC hB kp1))
theorem Jl7{x:Str}:decide (V.str x=V.str x)=true:=decide_eq_true rfl
theorem JaE{x y:Str}(h:x≠y):¬decide (V.str x=V.str y)=true:=fun z=>h (V.str.inj (of_decide_eq_true z))
noncomputable def JoY(name:Str)(M:PB)(who:Str)(wk:Int):Int:=if name = "pay" then Jlu M who wk else if name = "net" then(YB (Jai M who wk) (wk/4)).getD 0 else if name = "right" then JaA M who wk else JaA M who wk-(M.pn who).paid
inductive JlS(CB CP:Addr)(vs:List V)(H:Hp)(Q:VK):Prop
 | mk (L:BL) (M:PB) (n:Nat) (name who:Str) (wk:Int) (h1:vs=[.ref L.b,.str name,.str who,.int wk]) (h2:Yg CB CP H L M) (h3:Jcr n M) (h4:n<=290) (h5:∀L' H',JbE CB CP H L M who L' H'->Q (.int (JoY name M who wk)) H'):JlS CB CP vs H Q
noncomputable def Jld(CB CP:Addr):Sp:=fun vs H Q _=>JlS CB CP vs H Q
theorem Jnu{f f1 f2 f3 f4:Addr}{fd fd1 fd2 fd3 fd4:FuncData}(F:Fun K "asked" "asked" Jhr f fd)(T:Txt K mg CB CP fBI fPI)(J8:JaF P w K mg base CX0 CB "pay_of" ["self", "who", "week"] (Jf5 CB CP Jlu) 5 f1 fd1)
  (JaL:JaF P w K mg base CX0 CB "net_of" ["self", "who", "week"] (Jf5 CB CP fun M who wk=>(YB (Jai M who wk) (wk/4)).getD 0) 7 f2 fd2)
  (JU:JaF P w K mg base CX0 CB "right_of" ["self", "who", "week"] (Jf5 CB CP JaA) 7 f3 fd3)
  (Y5:JaF P w K mg base CX0 CB "owing_to" ["self", "who", "week"] (Jf5 CB CP fun M who wk=>JaA M who wk-(M.pn who).paid) 8 f4 fd4):YO P w K mg base CX0 9 f fd ["book", "name", "who", "week"] (Jld CB CP):=by
 refine F.ok JnQ (fun vs H Q E h=>?_) (fun cdv A outer s0 H vs Q E hr h=>?_)
 .obtain⟨_,_,_,_,_,_,rfl,_⟩ :=h;rfl
 .obtain⟨L,M,n,name,who,wk,rfl,hB,ok,hn,k⟩ :=h;obtain⟨dx,hb⟩ :=hB.ob
  refine⟨_,(Jd (JL (Jq Y1 (pw 1) Jt (Jx _)) (Jg (Jn (Yh (pw 0) T.clBook J8.meth J8.ok (hr.mono (by decide)) J8.b .nil Ja2 (Jc (pw 2) (pa1 (pw 3)))))) Jr)
   (Jd (JL (Jq Y1 (pw 1) Jt (Jx _)) (Jg (Jn (Yh (pw 0) T.clBook JaL.meth JaL.ok (hr.mono (by decide)) JaL.b .nil Ja2 (Jc (pw 2) (pa1 (pw 3)))))) Jr)
   (Jd (JL (Jq Y1 (pw 1) Jt (Jx _)) (Jg (Jn (Yh (pw 0) T.clBook JU.meth JU.ok (hr.mono (by decide)) JU.b .nil Ja2 (Jc (pw 2) (pa1 (pw 3)))))) Jr)
   (Jg (Jn (Yh (pw 0) T.clBook Y5.meth Y5.ok (hr.mono (by decide)) Y5.b .nil Ja2 (Jc (pw 2) (pa1 (pw 3))))))))),fun _ nz=>?_⟩
  refine⟨rfl,_,rfl,?_⟩;unfold JoY at k;refine JT (fun h=>?_) (fun h=>nz fun _ nz=>?_)
  .have h:=V.str.inj (of_decide_eq_true h);rw[if_pos h]at k;exact⟨L.b,dx,_,rfl,hb,Jdy _ _ _ (by decide +kernel) (by decide +kernel) (by decide +kernel),L,M,n,who,wk,rfl,hB,ok,hn,k⟩
  .have h:¬name = "pay":=fun z=>h (decide_eq_true (by rw[z]));rw[if_neg h]at k;refine⟨rfl,_,rfl,?_⟩;refine JT (fun h=>?_) (fun h=>nz fun _ nz=>?_)
   .have h:=V.str.inj (of_decide_eq_true h);rw[if_pos h]at k;exact⟨L.b,dx,_,rfl,hb,Jdy _ _ _ (by decide +kernel) (by decide +kernel) (by decide +kernel),L,M,n,who,wk,rfl,hB,ok,hn,k⟩
   .have h:¬name = "net":=fun z=>h (decide_eq_true (by rw[z]));rw[if_neg h]at k;refine⟨rfl,_,rfl,?_⟩;refine JT (fun h=>?_) (fun h=>nz ?_)
    .have h:=V.str.inj (of_decide_eq_true h);rw[if_pos h]at k;exact⟨L.b,dx,_,rfl,hb,Jdy _ _ _ (by decide +kernel) (by decide +kernel) (by decide +kernel),L,M,n,who,wk,rfl,hB,ok,hn,k⟩
    .have h:¬name = "right":=fun z=>h (decide_eq_true (by rw[z]));rw[if_neg h]at k;exact⟨L.b,dx,_,rfl,hb,Jdy _ _ _ (by decide +kernel) (by decide +kernel) (by decide +kernel),L,M,n,who,wk,rfl,hB,ok,hn,k⟩
def Jpg(CB CP:Addr)(H:Hp)(L:BL)(M:PB)(d:Y7)(L':BL)(H':Hp):Prop:=Yg CB CP H' L' (Jak M d).2/\Je8 L M (Jak M d).2 L' H H'/\L'.b=L.b
structure JqN(CB CP:Addr)(H:Hp)(L:BL)(M:PB)(n:Nat)(d:Y7)(v:V):Prop where
 at_:Yg CB CP H L M
 ok:Jcr n M
 le:n<=280
 rep:Rep H (Jbi d) v
 dok:Ja1 d
 few:∀who,(M.pn who).days.length<64
inductive JoH(CB CP CH CN CT:Addr)(vs:List V)(H:Hp)(Q:VK)(E:XK):Prop
 | mk (L:BL) (M:PB) (n:Nat) (d:Y7) (v:V) (h1:vs=[.ref L.b,v]) (h2:JqN CB CP H L M n d v) (h3:(∀L' H' r,Jpg CB CP H L M d L' H'->Jef H H' (Jak M d).1 r->Q r H')) (h4:(∀L' H',Jpg CB CP H L M d L' H'->((Jak M d).1=.str "no hours"->E (.ref CH) none H')/\((Jak M d).1=.str "no table"->E (.ref CN) none H')/\((Jak M d).1=.str "too early"->E (.ref CT) none H'))):JoH CB CP CH CN CT vs H Q E
noncomputable def Jop(CB CP CH CN CT:Addr):Sp:=fun vs H Q E=>JoH CB CP CH CN CT vs H Q E
theorem Jpn{f f1 f2 f3 f4 f5 f6:Addr}{fd fd1 fd2 fd3 fd4 fd5 fd6:FuncData}(F:Fun K "done" "done" JjN f fd)(T:Txt K mg CB CP fBI fPI)
  (YJ:JaF P w K mg base (CXr P w) CB "tell_hours" ["self", "who", "day", "many"] (JmJ CB CP CH) 6 f1 fd1)
  (YV:JaF P w K mg base (CXr P w) CB "tell_rate" ["self", "week", "bands"] (Jmh CB CP CN) 2 f2 fd2)
  (YW:JaF P w K mg base (CXr P w) CB "tell_dues" ["self", "month", "table"] (Jnc CB CP CN) 3 f3 fd3)
  (Yb:JaF P w K mg base (CXr P w) CB "hold_payday_of" ["self", "who", "week"] (Jmy CB CP CT) 7 f4 fd4)
  (JY:JaF P w K mg base CX0 CB "paid_to" ["self", "who"] (Jhg CB CP) 4 f5 fd5)
  (Jjj:JI P w K mg base "asked" ["book", "name", "who", "week"] (Jld CB CP) 9 f6 fd6):YO P w K mg base (CXr P w) 10 f fd ["book", "deed"] (Jop CB CP CH CN CT):=by
 refine F.okR Jmp (fun vs H Q E h=>?_) (fun cdv A outer s0 H vs Q E hr h=>?_)
 .obtain⟨_,_,_,_,_,rfl,_⟩ :=h;rfl
 .obtain⟨L,M,n,d,v,rfl,⟨hB,ok,hn,hrep,dok,few⟩,k,kE⟩ :=h;obtain⟨dx,hb⟩ :=hB.ob;have noB:∀{m:Str},¬m = "people"->¬m = "rates"->¬m = "dues"->(fB L.pd L.rd L.ud).lookup m=none:=fun h1 h2 h3=>Jdy _ _ _ h1 h2 h3;have rl:=ok.rl;have ul:=ok.ul;have kl:=ok.kl
  have ask:∀{name who:Str}{wk:Int}{dd:Y7},dd=d->(Jak M dd).2=M.touch who->(Jak M dd).1=.int (JoY name M who wk)->∀L' H',JbE CB CP H L M who L' H'->Q (.int (JoY name M who wk)) H':=fun e1 e2 e3 L' H' a=>by
   subst e1;refine k L' H' _ ⟨by rw[e2];exact a.1,by rw[e2];exact a.2.1,a.2.2⟩ ?_;rw[e3];exact Jef.int
  refine⟨_,(Jd (Jl 2 Jmp.nd (Ju Js (pw 1) Jb (fun _ _=>rfl)))
   (Jd (JL (Jq Y1 (pw 2) Jt (Jx _)) (Jg (Jn (Yh (pw 0) T.clBook YJ.meth YJ.ok (hr.mono (by decide)) YJ.b .nil JmD (Jc (Ju Js (pw 1) Jb (fun _ _=>rfl)) (Jc (Ju Js (pw 1) Jb (fun _ _=>rfl)) (pa1 (Ju Js (pw 1) Jb (fun _ _=>rfl)))))))) Jr)
   (Jd (JL (Jq Y1 (pw 2) Jt (Jx _)) (Jd (Jbh (Yh (pw 0) T.clBook YV.meth YV.ok (hr.mono (by decide)) YV.b .nil JmD (Jc (Ju Js (pw 1) Jb (fun _ _=>rfl)) (pa1 (Ju Js (pw 1) Jb (fun _ _=>rfl))))))
   (Jg (Jn Jt))) Jr)
   (Jd (JL (Jq Y1 (pw 2) Jt (Jx _)) (Jd (Jbh (Yh (pw 0) T.clBook YW.meth YW.ok (hr.mono (by decide)) YW.b .nil JmD (Jc (Ju Js (pw 1) Jb (fun _ _=>rfl)) (pa1 (Ju Js (pw 1) Jb (fun _ _=>rfl))))))
   (Jg (Jn Jt))) Jr)
   (Jd (JL (Jq Y1 (pw 2) Jt (Jx _)) (Jg (Jn (Yh (pw 0) T.clBook Yb.meth Yb.ok (hr.mono (by decide)) Yb.b .nil JmD (Jc (Ju Js (pw 1) Jb (fun _ _=>rfl)) (pa1 (Ju Js (pw 1) Jb (fun _ _=>rfl))))))) Jr)
   (Jd (JL (Jq Y1 (pw 2) Jt (Jx _)) (Jg (Jn (Yh (pw 0) T.clBook JY.meth JY.ok (hr.mono (by decide)) JY.b .nil Ja2 (pa1 (Ju Js (pw 1) Jb (fun _ _=>rfl)))))) Jr)
   (Jg (Jn (Jo Jjj (hr.mono (by decide)) (Jc (pw 0) (Jc (pw 2) (Jc (Ju Js (pw 1) Jb (fun _ _=>rfl)) (pa1 (Ju Js (pw 1) Jb (fun _ _=>rfl))))))))))))))),fun _ nz=>?_⟩
  cases d with
  | hours who day many=>
   obtain⟨a,vs,rfl,ht,_,_,rfl,rfl,_,_,rfl,rfl,_,_,rfl,rfl,_,_,rfl,rfl,rfl⟩ :=hrep;refine⟨a,_,0,.str "hours",rfl,rfl,SqT.of ht,Jh (j:=0) rfl,?_⟩;refine nz fun _ nz=>⟨rfl,_,rfl,?_⟩;refine JT (fun _=>?_) (fun h=>absurd Jl7 h);refine⟨L.b,dx,_,rfl,hb,noB (by decide +kernel) (by decide +kernel) (by decide +kernel),a,_,1,.str who,rfl,rfl,SqT.of ht,Jh (j:=1) rfl,a,_,2,.int day,rfl,rfl,SqT.of ht,Jh (j:=2) rfl,a,_,3,.int many,rfl,rfl,SqT.of ht,Jh (j:=3) rfl,?_⟩;refine⟨L,M,n,who,day,many,rfl,hB,ok,hn,fun c=>?_,fun c M' L' H' e b1 b2 b3=>?_⟩
   .have e:=Jd5 (M:=M) (who:=who) (day:=day) c;exact(kE L H ⟨by rw[e];exact hB,by rw[e];exact Je8.of_same fun _ _ z=>z,rfl⟩).1 (by rw[e])
   .subst e;have e:=JdK (M:=M) (who:=who) (day:=day) c;refine k L' H' _ ⟨by rw[e];exact b1,by rw[e];exact b2,b3⟩ ?_;rw[e];exact Jef.int
  | rate week bs=>
   obtain⟨a,vs,rfl,ht,_,_,rfl,rfl,_,_,rfl,rfl,u,_,rfl,hu,rfl⟩ :=hrep
   obtain⟨a2,rfl⟩:∃a2,u=.ref a2:=let ⟨a2,_,e,_⟩ :=hu;⟨a2,e⟩
   have hbs:=JB.mpr hu;have bl:bs.length<=14:=dok.len;refine⟨a,_,0,.str "rate",rfl,rfl,SqT.of ht,Jh (j:=0) rfl,?_⟩;refine nz fun _ nz=>⟨rfl,_,rfl,?_⟩;refine JT (fun h=>absurd h (JaE (by decide +kernel))) (fun _=>nz fun _ nz=>?_);refine⟨rfl,_,rfl,?_⟩;refine JT (fun _=>fun _ ny=>?_) (fun h=>absurd Jl7 h);refine⟨L.b,dx,_,rfl,hb,noB (by decide +kernel) (by decide +kernel) (by decide +kernel),a,_,1,.int week,rfl,rfl,SqT.of ht,Jh (j:=1) rfl,a,_,2,.ref a2,rfl,rfl,SqT.of ht,Jh (j:=2) rfl,?_⟩;refine⟨L,M,week,a2,bs,rfl,hB,by omega,hbs,by omega,fun c H' s=>?_,fun c H' b1 b2=>?_⟩
   .have e:=Je5 (M:=M) (week:=week) c;exact(kE L H' ⟨by rw[e];exact hB.same s,by rw[e];exact Je8.of_same s,rfl⟩).2.1 (by rw[e])
   .have e:=Jhn (M:=M) (week:=week) c;refine ny ?_;refine k L H' _ ⟨by rw[e];exact b1,by rw[e];exact b2,rfl⟩ ?_;rw[e];exact Jef.str
  | dues month t=>
   obtain⟨a,vs,rfl,ht,_,_,rfl,rfl,_,_,rfl,rfl,u,_,rfl,hu,rfl⟩ :=hrep;obtain⟨bs,top,per⟩ :=t;obtain⟨a2,vs2,rfl,ht2,u2,_,rfl,hu2,_,_,rfl,rfl,_,_,rfl,rfl,rfl⟩ :=hu
   obtain⟨a3,rfl⟩:∃a3,u2=.ref a3:=let ⟨a3,_,e,_⟩ :=hu2;⟨a3,e⟩
   have bl:bs.length<=14:=dok.bands.len;have htab:JbL H (bs,top,per) (.ref a2):=⟨a2,a3,rfl,ht2,JB.mpr hu2⟩;refine⟨a,_,0,.str "dues",rfl,rfl,SqT.of ht,Jh (j:=0) rfl,?_⟩;refine nz fun _ nz=>⟨rfl,_,rfl,?_⟩;refine JT (fun h=>absurd h (JaE (by decide +kernel))) (fun _=>nz fun _ nz=>?_);refine⟨rfl,_,rfl,?_⟩;refine JT (fun h=>absurd h (JaE (by decide +kernel))) (fun _=>nz fun _ nz=>?_);refine⟨rfl,_,rfl,?_⟩;refine JT (fun _=>fun _ ny=>?_) (fun h=>absurd Jl7 h);refine⟨L.b,dx,_,rfl,hb,noB (by decide +kernel) (by decide +kernel) (by decide +kernel),a,_,1,.int month,rfl,rfl,SqT.of ht,Jh (j:=1) rfl,a,_,2,.ref a2,rfl,rfl,SqT.of ht,Jh (j:=2) rfl,?_⟩;refine⟨L,M,month,a2,(bs,top,per),rfl,hB,by omega,htab,by show bs.length<=1000;omega,fun c H' s=>?_,fun c H' b1 b2=>?_⟩
   .have e:=Je1 (M:=M) (month:=month) c;exact(kE L H' ⟨by rw[e];exact hB.same s,by rw[e];exact Je8.of_same s,rfl⟩).2.1 (by rw[e])
   .have e:=Jhj (M:=M) (month:=month) c;refine ny ?_;refine k L H' _ ⟨by rw[e];exact b1,by rw[e];exact b2,rfl⟩ ?_;rw[e];exact Jef.str
  | payday who week=>
   obtain⟨a,vs,rfl,ht,_,_,rfl,rfl,_,_,rfl,rfl,_,_,rfl,rfl,rfl⟩ :=hrep;refine⟨a,_,0,.str "payday",rfl,rfl,SqT.of ht,Jh (j:=0) rfl,?_⟩;refine nz fun _ nz=>⟨rfl,_,rfl,?_⟩;refine JT (fun h=>absurd h (JaE (by decide +kernel))) (fun _=>nz fun _ nz=>?_);refine⟨rfl,_,rfl,?_⟩;refine JT (fun h=>absurd h (JaE (by decide +kernel))) (fun _=>nz fun _ nz=>?_);refine⟨rfl,_,rfl,?_⟩;refine JT (fun h=>absurd h (JaE (by decide +kernel))) (fun _=>nz fun _ nz=>?_);refine⟨rfl,_,rfl,?_⟩;refine JT (fun _=>?_) (fun h=>absurd Jl7 h);refine⟨L.b,dx,_,rfl,hb,noB (by decide +kernel) (by decide +kernel) (by decide +kernel),a,_,1,.str who,rfl,rfl,SqT.of ht,Jh (j:=1) rfl,a,_,2,.int week,rfl,rfl,SqT.of ht,Jh (j:=2) rfl,?_⟩;refine⟨L,M,n,who,week,rfl,hB,ok,by omega,fun c L' H' q=>?_,fun c=>⟨few who,fun left M' L' H' r el e b1 b2 b3 rp=>?_⟩⟩
   .have e:=Je0 (M:=M) (who:=who) (week:=week) c;exact(kE L' H' ⟨by rw[e];exact q.1,by rw[e];exact q.2.1,q.2.2⟩).2.2 (by rw[e])
   .subst e el;have e:=JdH (M:=M) (who:=who) (week:=week) c;refine k L' H' _ ⟨by rw[e];exact b1,by rw[e];exact b2,b3⟩ ?_;rw[e];exact rp
  | paid who=>
   obtain⟨a,vs,rfl,ht,_,_,rfl,rfl,_,_,rfl,rfl,rfl⟩ :=hrep;refine⟨a,_,0,.str "paid",rfl,rfl,SqT.of ht,Jh (j:=0) rfl,?_⟩;refine nz fun _ nz=>⟨rfl,_,rfl,?_⟩;refine JT (fun h=>absurd h (JaE (by decide +kernel))) (fun _=>nz fun _ nz=>?_);refine⟨rfl,_,rfl,?_⟩;refine JT (fun h=>absurd h (JaE (by decide +kernel))) (fun _=>nz fun _ nz=>?_);refine⟨rfl,_,rfl,?_⟩;refine JT (fun h=>absurd h (JaE (by decide +kernel))) (fun _=>nz fun _ nz=>?_);refine⟨rfl,_,rfl,?_⟩;refine JT (fun h=>absurd h (JaE (by decide +kernel))) (fun _=>nz fun _ nz=>?_);refine⟨rfl,_,rfl,?_⟩;refine JT (fun _=>?_) (fun h=>absurd Jl7 h);refine⟨L.b,dx,_,rfl,hb,noB (by decide +kernel) (by decide +kernel) (by decide +kernel),a,_,1,.str who,rfl,rfl,SqT.of ht,Jh (j:=1) rfl,?_⟩;exact⟨L,M,who,rfl,hB,by omega,fun L' H' q=>k L' H' _ ⟨q.1,q.2.1,q.2.2⟩ Jef.int⟩
  | pay who week=>
   obtain⟨a,vs,rfl,ht,_,_,rfl,rfl,_,_,rfl,rfl,_,_,rfl,rfl,rfl⟩ :=hrep;refine⟨a,_,0,.str "pay",rfl,rfl,SqT.of ht,Jh (j:=0) rfl,?_⟩;refine nz fun _ nz=>⟨rfl,_,rfl,?_⟩;refine JT (fun h=>absurd h (JaE (by decide +kernel))) (fun _=>nz fun _ nz=>?_);refine⟨rfl,_,rfl,?_⟩;refine JT (fun h=>absurd h (JaE (by decide +kernel))) (fun _=>nz fun _ nz=>?_);refine⟨rfl,_,rfl,?_⟩;refine JT (fun h=>absurd h (JaE (by decide +kernel))) (fun _=>nz fun _ nz=>?_);refine⟨rfl,_,rfl,?_⟩;refine JT (fun h=>absurd h (JaE (by decide +kernel))) (fun _=>nz fun _ nz=>?_);refine⟨rfl,_,rfl,?_⟩;refine JT (fun h=>absurd h (JaE (by decide +kernel))) (fun _=>nz ?_);refine⟨a,_,1,.str who,rfl,rfl,SqT.of ht,Jh (j:=1) rfl,a,_,2,.int week,rfl,rfl,SqT.of ht,Jh (j:=2) rfl,?_⟩;exact⟨L,M,n, "pay",who,week,rfl,hB,ok,by omega,ask (dd:=.pay who week) rfl rfl (by unfold JoY;simp(decide:=true) only[if_true,if_false];rfl)⟩
  | net who week=>
   obtain⟨a,vs,rfl,ht,_,_,rfl,rfl,_,_,rfl,rfl,_,_,rfl,rfl,rfl⟩ :=hrep;refine⟨a,_,0,.str "net",rfl,rfl,SqT.of ht,Jh (j:=0) rfl,?_⟩;refine nz fun _ nz=>⟨rfl,_,rfl,?_⟩;refine JT (fun h=>absurd h (JaE (by decide +kernel))) (fun _=>nz fun _ nz=>?_);refine⟨rfl,_,rfl,?_⟩;refine JT (fun h=>absurd h (JaE (by decide +kernel))) (fun _=>nz fun _ nz=>?_);refine⟨rfl,_,rfl,?_⟩;refine JT (fun h=>absurd h (JaE (by decide +kernel))) (fun _=>nz fun _ nz=>?_);refine⟨rfl,_,rfl,?_⟩;refine JT (fun h=>absurd h (JaE (by decide +kernel))) (fun _=>nz fun _ nz=>?_);refine⟨rfl,_,rfl,?_⟩;refine JT (fun h=>absurd h (JaE (by decide +kernel))) (fun _=>nz ?_);refine⟨a,_,1,.str who,rfl,rfl,SqT.of ht,Jh (j:=1) rfl,a,_,2,.int week,rfl,rfl,SqT.of ht,Jh (j:=2) rfl,?_⟩;exact⟨L,M,n, "net",who,week,rfl,hB,ok,by omega,ask (dd:=.net who week) rfl rfl (by unfold JoY;simp(decide:=true) only[if_true,if_false];rfl)⟩
  | right who week=>
   obtain⟨a,vs,rfl,ht,_,_,rfl,rfl,_,_,rfl,rfl,_,_,rfl,rfl,rfl⟩ :=hrep;refine⟨a,_,0,.str "right",rfl,rfl,SqT.of ht,Jh (j:=0) rfl,?_⟩;refine nz fun _ nz=>⟨rfl,_,rfl,?_⟩;refine JT (fun h=>absurd h (JaE (by decide +kernel))) (fun _=>nz fun _ nz=>?_);refine⟨rfl,_,rfl,?_⟩;refine JT (fun h=>absurd h (JaE (by decide +kernel))) (fun _=>nz fun _ nz=>?_);refine⟨rfl,_,rfl,?_⟩;refine JT (fun h=>absurd h (JaE (by decide +kernel))) (fun _=>nz fun _ nz=>?_);refine⟨rfl,_,rfl,?_⟩;refine JT (fun h=>absurd h (JaE (by decide +kernel))) (fun _=>nz fun _ nz=>?_);refine⟨rfl,_,rfl,?_⟩;refine JT (fun h=>absurd h (JaE (by decide +kernel))) (fun _=>nz ?_);refine⟨a,_,1,.str who,rfl,rfl,SqT.of ht,Jh (j:=1) rfl,a,_,2,.int week,rfl,rfl,SqT.of ht,Jh (j:=2) rfl,?_⟩;exact⟨L,M,n, "right",who,week,rfl,hB,ok,by omega,ask (dd:=.right who week) rfl rfl (by unfold JoY;simp(decide:=true) only[if_true,if_false];rfl)⟩
  | owing who week=>
   obtain⟨a,vs,rfl,ht,_,_,rfl,rfl,_,_,rfl,rfl,_,_,rfl,rfl,rfl⟩ :=hrep;refine⟨a,_,0,.str "owing",rfl,rfl,SqT.of ht,Jh (j:=0) rfl,?_⟩;refine nz fun _ nz=>⟨rfl,_,rfl,?_⟩;refine JT (fun h=>absurd h (JaE (by decide +kernel))) (fun _=>nz fun _ nz=>?_);refine⟨rfl,_,rfl,?_⟩;refine JT (fun h=>absurd h (JaE (by decide +kernel))) (fun _=>nz fun _ nz=>?_);refine⟨rfl,_,rfl,?_⟩;refine JT (fun h=>absurd h (JaE (by decide +kernel))) (fun _=>nz fun _ nz=>?_);refine⟨rfl,_,rfl,?_⟩;refine JT (fun h=>absurd h (JaE (by decide +kernel))) (fun _=>nz fun _ nz=>?_);refine⟨rfl,_,rfl,?_⟩;refine JT (fun h=>absurd h (JaE (by decide +kernel))) (fun _=>nz ?_);refine⟨a,_,1,.str who,rfl,rfl,SqT.of ht,Jh (j:=1) rfl,a,_,2,.int week,rfl,rfl,SqT.of ht,Jh (j:=2) rfl,?_⟩;exact⟨L,M,n, "owing",who,week,rfl,hB,ok,by omega,ask (dd:=.owing who week) rfl rfl (by unfold JoY;simp(decide:=true) only[if_true,if_false];rfl)⟩
inductive JjF(CB CP:Addr)(vs:List V)(H:Hp)(Q:VK):Prop
 | mk (L:BL) (M:PB) (n:Nat) (d:Y7) (v:V) (h1:vs=[.ref L.b,v]) (h2:JqN CB CP H L M n d v) (h3:∀L' H' r,Jpg CB CP H L M d L' H'->Jef H H' (Jak M d).1 r->Q r H'):JjF CB CP vs H Q
noncomputable def JjV(CB CP:Addr):Sp:=fun vs H Q _=>JjF CB CP vs H Q
structure Ys(K:WF)(mg:MO)(x:Str)(C o1 o2:Addr):Prop where
 mg:mg x=some (.ref C)
 me:PySem.W.exmOne K (.ref C) (.ref C)=some true
 n1:PySem.W.exmOne K (.ref o1) (.ref C)=some false
 n2:PySem.W.exmOne K (.ref o2) (.ref C)=some false
theorem JlG{f f1:Addr}{fd fd1:FuncData}(F:Fun K "answer" "answer" Je4 f fd)(Y_NoHours:Ys K mg "NoHours" CH CN CT)(Y_NoTable:Ys K mg "NoTable" CN CH CT)(Y_TooEarly:Ys K mg "TooEarly" CT CH CN)
  (Jgz:JlF P w K mg base "done" ["book", "deed"] (Jop CB CP CH CN CT) 10 f1 fd1):YO P w K mg base CX0 11 f fd ["book", "deed"] (JjV CB CP):=by
 refine F.ok Jmq (fun vs H Q E h=>?_) (fun cdv A outer s0 H vs Q E hr h=>?_)
 .obtain⟨_,_,_,_,_,rfl,_⟩ :=h;rfl
 .obtain⟨L,M,n,d,v,rfl,hD,k⟩ :=h;refine⟨_,(Jg (Jpj Jgz.ok (hr.mono (by decide)) rfl Jgz.mg Jgz.kp Jgz.b (Jc (pw 0) (pa1 (pw 1))) ⟨rfl,Y_NoHours.mg,Y_NoHours.me,Y_NoHours.n1,Y_NoHours.n2⟩ ⟨rfl,Y_NoTable.mg,Y_NoTable.me,Y_NoTable.n1,Y_NoTable.n2⟩ ⟨rfl,Y_TooEarly.mg,Y_TooEarly.me,Y_TooEarly.n1,Y_TooEarly.n2⟩ rfl rfl)),?_⟩;refine⟨L,M,n,d,v,rfl,hD,k,fun L' H' q=>⟨fun e=>.inl ⟨rfl,?_⟩,fun e=>.inr (.inl ⟨rfl,?_⟩),fun e=>.inr (.inr ⟨rfl,?_⟩)⟩⟩<;>
  .exact k L' H' _ q (by rw[e];exact Jef.str)
structure JsP(H:Hp)(dl:Addr)(ds:List Y7):Prop where
 rep:Rep H (.lst (ds.map Jbi)) (.ref dl)
 len:ds.length<=270
 dok:∀d∈ds,Ja1 d
 few:(ds.filter isH).length<64
inductive Jh3(vs:List V)(H:Hp)(Q:VK):Prop
 | mk (dl:Addr) (ds:List Y7) (h1:vs=[.ref dl]) (h2:JsP H dl ds) (h3:∀l H',H l=none->JX H H'->Rep H' (.lst (outs PB.new ds)) (.ref l)->Q (.ref l) H'):Jh3 vs H Q
noncomputable def JhK:Sp:=fun vs H Q _=>Jh3 vs H Q
theorem JkB{f f1:Addr}{fd fd1 fd2:FuncData}(F:Fun K "answers" "answers" JbZ f fd)(T:Txt K mg CB CP fBI fPI)(Jhs:JI P w K mg base "answer" ["book", "deed"] (JjV CB CP) 11 f1 fd1)
  (Jce:JaF P w K mg base CX0 CB "__init__" ["self"] (Jmz CB CP) 1 fBI fd2):YO P w K mg base CX0 12 f fd ["deeds"] JhK:=by
 refine F.ok Jgs (fun vs H Q E h=>?_) (fun cdv A outer s0 H vs Q E hr h=>?_)
 .obtain⟨_,_,rfl,_⟩ :=h;rfl
 .obtain⟨dl,ds,rfl,⟨hrep,hlen,hdok,hfew⟩,k⟩ :=h;obtain⟨dl',vs,e,hl,rl⟩ :=hrep;cases e
  have hvl:vs.length=ds.length:=by rw[rl.length,A2]
  refine⟨_,(Jd (Jl 1 Jgs.nd (JjI T.mkBook Jce.ok (hr.mono (by decide)) rfl T.mgBook Jce.b .nil Ja2))
   (Jg (Jn (JcI ["deed", "book"] [none,some 1] rfl JeP (Ja5 (pw 0)) (fun _ _ _ _=>(JH (i:=0) JeP.nd rfl (Or.inl rfl) (Or.inr rfl))) (fun _ _ _ _=>JcF) (fun _ _ _ _=>(Jo Jhs (hr.mono (by decide)) (Jc (pw 1) (pa1 (pw 0))))))))),fun _ nz=>?_⟩
  intro x dx nx ndx nex;refine⟨x,dx,rfl,Ja,fun L0 H1 eb0 hB0 hfr0 kp0=>⟨rfl,?_⟩⟩
  have s0':JX H (upd (upd H dx (.own x)) x (.ins CB dx [])):=fun b o e=>by
   rw[Jf (Ji e nx),Jf (Ji e ndx)];exact e
  have s1:JX H H1:=fun b o e=>kp0 b o (s0' b o e) (Ji e nx);refine nz ⟨dl,rfl,⟨_,SqL.of (s1 _ _ hl)⟩,fun acc hacc=>?_⟩;have hacc0:H acc=none:=s1.free hacc;have b0:Yg CB CP (upd H1 acc (.lst [])) L0 PB.new:=hB0.same (Je hacc)
  refine JcE (K:=K) (xs:=vs) (fun i ys σ' H'=>∃(v0:Option V)(L:BL),σ'=[v0,some (.ref x)]/\L.b=x/\Yg CB CP H' L (Jm5 PB.new (ds.take i))/\(∀c,Mu L (Jm5 PB.new (ds.take i)) c->H c=none)/\JX H H'/\H' acc=some (.lst ys)/\ys.length=i/\i<=ds.length/\
    YL (era H' acc) (outs PB.new (ds.take i)) ys)
   ⟨_,L0,rfl,eb0,b0,fun c m=>s0'.free (hfr0 c m),s1.trans (Je hacc),Ja,rfl,Bz _,rfl⟩ (fun _ _ _ _ ⟨_,_,_,_,_,_,s2,_⟩ =>SqL.of (s2 _ _ hl)) ?_ ?_
  .rintro i v ys σ' H2 hv ⟨v0,L,rfl,eb,hB,hfr,s2,hac,hyl,hil,rp⟩;have hlt:i<ds.length:=hvl ▸ (A6.mp hv).1;obtain⟨d,hd⟩:∃d,ds[i]?=some d:=⟨ds[i],A3 hlt⟩
   have htk:ds.take (i+1)=ds.take i++[d]:=by rw[B8,hd];rfl
   have hdr:Rep H (Jbi d) v:=rl.get i v _ hv (by rw[Aq,hd];rfl);have ok:Jcr (0+(ds.take i).length) (Jm5 PB.new (ds.take i)):=Jk3 Jcr.new fun e he=>hdok e (List.mem_of_mem_take he)
   have hle:0+(ds.take i).length<=280:=by rw[B7];omega
   refine⟨Jy (by omega),?_⟩;dsimp only[JcP,JeS];rw[if_pos rfl];refine⟨L,_,_,d,v,by rw[eb];rfl,⟨hB,ok,hle,Rep.same s2 hdr,hdok d (B9 hd),fun who=>?_⟩,fun L' H5 r q rpx=>?_⟩
   .have a:=Jie who (ds.take i) PB.new;have b:((ds.take i).filter isH).length<=(ds.filter isH).length:=((List.take_sublist i ds).filter _).length_le;have c:(PB.new.pn who).days.length=0:=rfl;omega
   .obtain⟨q1,q2,q3⟩ :=q;have sS:=JgC hB q2;have hac5:=sS.2 _ _ hac;rw[<- Jll,<- htk]at q1 q2;refine⟨hac5,_,L',rfl,q3.trans eb,Jil q1 hac5,fun c m=>?_,fun b o e=>?_,Ja,by rw[Ak,hyl];rfl,hlt,?_⟩
    .rcases q2.grow c m with z|z
     .exact hfr c z
     .exact s2.free z
    .rw[Jf (Ji e hacc0)]
     exact q2.keep b o (s2 _ _ e) fun m=>by have:=hfr b m;rw[e]at this;cases this
    .rw[JpM,htk,JhV];exact YL.snoc (YL.sameS (sS.era acc) rp) (rpx.2 acc ys hac)
  .rintro ys σ' H2 ⟨v0,L,rfl,eb,hB,hfr,s2,hac,hyl,hil,rp⟩;rw[hvl,List.take_length]at rp;exact k acc H2 hacc0 s2 ⟨acc,ys,rfl,hac,YL.sameS Jqn rp⟩
end
end TLA
namespace TLA
open PySem PySem.Spec PyProof.Rows L2 Wb
section
variable {P:Program} {w:World} {K:WF} {mg:Str→Option Value} {base:Heap} {CB CP fBI fPI CH CN CT:Addr}
inductive Jox(vs:List V)(H:Hp)(Q:VK):Prop
 | mk (v:V) (x c:Int) (l:II) (h1:vs=[v]) (h2:Rep H (Jl1 x c l) v) (h3:(l.map (·.1)).Pairwise (·<·)) (h4:(∀p∈l,p.2≠0)) (h5:l.length<=40) (h6:∀H',JX H H'->Q (.bl true) H'):Jox vs H Q
noncomputable def JoD:Sp:=fun vs H Q _=>Jox vs H Q
theorem JpR{f f1:Addr}{fd fd1:FuncData}(F:Fun K "_law_is_slip" "_law_is_slip" Ja4 f fd)(Z:Zs mg)(Jb4:JI P w K mg base "_law_whole" ["_law_found"] Jk1 1 f1 fd1):YO P w K mg base CX0 2 f fd ["_law_told"] JoD:=by
 refine F.ok JcA (fun vs H Q E h=>?_) (fun cdv A outer s0 H vs Q E hr h=>?_)
 .obtain⟨_,_,_,_,rfl,_⟩ :=h;rfl
 .obtain⟨v,x,c,l,rfl,hrep,hup,hnz,hlen,k⟩ :=h;have hu:=JbB hr;obtain⟨t,vs,rfl,ht,_,_,rfl,rfl,_,_,rfl,rfl,_,_,rfl,⟨ll,zs,rfl,hll,hzs⟩,rfl⟩ :=hrep
  have hzl:zs.length=l.length:=by rw[hzs.length,A2]
  refine⟨_,(Jd (JL (PW.pt (JbI (JaD (JaI (Jp Jap (by rfl) Z.z_isinstance JM (Jc (pw 0) (Jc (Y0 (v:=.ty "tuple") rfl Z.z_tuple JdY rfl) JV))))) (JbI (Jq JdX (Jp JO (by rfl) Z.z_len Jbj (pa1 (pw 0))) Jb (Jx _)) (JaX (JaD (JaI (Jp Jap (by rfl) Z.z_isinstance JM (Jc (Ju Js (pw 0) Jb (fun _ _=>rfl)) (Jc (Y0 (v:=.ty "list") rfl Z.z_list JbT rfl) JV))))))))) (Jg (Jn Jbg)) Jr)
   (Jd (JL (PW.pt (JbI (JaD (JaI (Jo Jb4 (hr.mono (by decide)) (pa1 (Ju Js (pw 0) Jb (fun _ _=>rfl)))))) (JaX (JaD (JaI (Jo Jb4 (hr.mono (by decide)) (pa1 (Ju Js (pw 0) Jb (fun _ _=>rfl))))))))) (Jg (Jn Jbg)) Jr)
   (Jd (Jam PassesOwn.never rfl (Ja5 (Ju Js (pw 0) Jb (fun _ _=>rfl))) (JH (i:=1) JcA.nd rfl (Or.inl rfl)) (Jd (JL (PW.pt (JbI (JaD (JaI (Jp Jap (by rfl) Z.z_isinstance JM (Jc (pw 1) (Jc (Y0 (v:=.ty "tuple") rfl Z.z_tuple JdY rfl) JV))))) (JaX (Jq JdX (Jp JO (by rfl) Z.z_len Jbj (pa1 (pw 1))) Jb (Jx _))))) (Jg (Jn Jbg)) Jr)
   (Jg (JL (PW.pt (JbI (JaD (JaI (Jo Jb4 (hr.mono (by decide)) (pa1 (Ju Js (pw 1) Jb (fun _ _=>rfl)))))) (JbI (JaD (JaI (Jo Jb4 (hr.mono (by decide)) (pa1 (Ju Js (pw 1) Jb (fun _ _=>rfl)))))) (JaX (Jq Y1 (Ju Js (pw 1) Jb (fun _ _=>rfl)) Jb (Jx _)))))) (Jg (Jn Jbg)) Jr))))
   (Jd (Jdd (i:=2) ["_law_line"] [none] JcA.nd rfl (Or.inl rfl) rfl Jdj (Ja5 (Ju Js (pw 0) Jb (fun _ _=>rfl))) (fun _ _ _ _=>(JH (i:=0) Jdj.nd rfl (Or.inl rfl) (Or.inr rfl))) (fun _ _ _ _=>JcF) (fun _ _ _ _=>(Ju (show IxR _ (Jot K) from Js) (pw 0) Jb (fun _ _=>rfl))))
   (Jg (Jn (Jcl (Jqc hu) (pw 2) (Jp (JeL rfl) (by rfl) Z.z_sorted JfI (pa1 (YK (Jiy rfl) (by rfl) Z.z_set JoI (pa1 (pw 2))))) (Jx _)))))))),fun _ nz=>?_⟩
  refine⟨.ref t, "tuple", "tuple",rfl,.tup ht,by decide,by decide,_,rfl,?_⟩;refine JcM ?_;refine⟨t,_,rfl,.inr (SqT.of ht),rfl,_,rfl,?_⟩;refine JcM ?_;refine⟨t,_,2,_,rfl,rfl,SqT.of ht,Jh (j:=2) rfl,.ref ll, "list", "list",rfl,.lst hll,by decide,by decide,_,rfl,?_⟩;refine JcM ?_;refine nz fun _ nz=>⟨t,_,0,_,rfl,rfl,SqT.of ht,Jh (j:=0) rfl,x,rfl,_,rfl,?_⟩;refine JcM ?_;refine⟨t,_,1,_,rfl,rfl,SqT.of ht,Jh (j:=1) rfl,c,rfl,_,rfl,?_⟩;refine JcM ?_;refine nz fun _ nz=>⟨t,_,2,_,rfl,rfl,SqT.of ht,Jh (j:=2) rfl,ll,rfl,⟨_,SqL.of hll⟩,?_⟩
  have line:∀(i:Nat)(v:V),zs[i]?=some v->∃(q:Addr)(p:Int×Int),l[i]?=some p/\v=.ref q/\H q=some (.tup [.int p.1,.int p.2]):=fun i v hv=>by
   have hi:i<l.length:=hzl ▸ (A6.mp hv).1;obtain⟨q,ws,e,hq,_,_,rfl,rfl,_,_,rfl,rfl,rfl⟩ :=hzs.get i v _ hv (by rw[Aq,A3 hi];rfl);exact⟨q,_,A3 hi,e,hq⟩
  refine JbO (K:=K) (xs:=zs) (fun i σ H'=>∃v1:Option V,σ=[some (.ref t),v1,none]/\H=H')
   ⟨none,rfl,rfl⟩ (fun _ _ _ _ ⟨_,_,e⟩ =>by subst e;exact SqL.of hll) ?_ ?_
  .rintro i v σ _ hv ⟨v1,rfl,rfl⟩;obtain⟨q,p,hp,rfl,hq⟩ :=line i v hv;refine fun _ ny=>⟨.ref q, "tuple", "tuple",rfl,.tup hq,by decide,by decide,_,rfl,?_⟩;refine JcM ?_;refine⟨q,_,rfl,.inr (SqT.of hq),rfl,_,rfl,?_⟩;refine JcM ?_;refine ny ⟨q,_,0,_,rfl,rfl,SqT.of hq,Jh (j:=0) rfl,p.1,rfl,_,rfl,?_⟩;refine JcM ?_;refine⟨q,_,1,_,rfl,rfl,SqT.of hq,Jh (j:=1) rfl,p.2,rfl,_,rfl,?_⟩;refine JcM ?_;refine⟨q,_,1,_,rfl,rfl,SqT.of hq,Jh (j:=1) rfl,rfl,_,rfl,?_⟩;refine JT (fun h=>absurd (V.int.inj (of_decide_eq_true h)) (hnz p (B9 hp))) (fun _=>?_);exact⟨_,rfl,rfl⟩
  .rintro σ _ ⟨v1,rfl,rfl⟩;refine nz fun _ nz=>⟨t,_,2,_,rfl,rfl,SqT.of ht,Jh (j:=2) rfl,ll,rfl,⟨_,SqL.of hll⟩,fun acc hacc=>?_⟩
   refine JcE (K:=K) (xs:=zs) (fun i ys σ' H'=>∃v0:Option V,σ'=[v0]/\JX H H'/\H' acc=some (.lst ys)/\ys=(l.take i).map fun p=>V.int p.1)
    ⟨none,rfl,Je hacc,Ja,by simp⟩ (fun _ _ _ _ ⟨_,_,s1,_⟩ =>SqL.of (s1 _ _ hll)) ?_ ?_
   .rintro i v ys σ' H' hv ⟨v0,rfl,s1,hac,rfl⟩;obtain⟨q,p,hp,rfl,hq⟩ :=line i v hv;refine⟨Jy (by rw[A2,B7];omega),?_⟩;dsimp only[JcP,JeS];rw[if_pos rfl];refine⟨q,_,0,_,rfl,rfl,SqT.of (s1 _ _ hq),Jh (j:=0) rfl,hac,?_⟩;refine⟨_,rfl,JR s1 hacc,Ja,?_⟩;rw[B8,hp,B4];rfl
   .rintro ys σ' H1 ⟨v0,rfl,s1,hac,rfl⟩;rw[hzl,List.take_length,show(l.map fun p=>V.int p.1)=(l.map (·.1)).map V.int by rw[List.map_map];rfl]at hac;refine nz ?_
    have hml:(l.map (·.1)).length<=40:=by rw[A2];exact hlen
    generalize l.map (·.1)=ns at hup hac hml;refine⟨acc,ns,rfl,SqL.of hac,(by unfold scanBound;omega),fun l4 ms so4 hl4 hs4 nd hm=>?_⟩;have u4:=Je (o:=so4) hl4
    have hml2:ms.length<64:=by
     have:=nd.length_le_of_subset (l₂:=ns) fun z hz=>(hm z).mp hz;omega
    refine⟨l4,ms,so4,rfl,Ja,hs4,hml2,fun l5 rs hl5 pm so=>?_⟩;have u5:=Je (o:=HO.lst (rs.map V.int)) hl5;have e:=(JfP pm nd hm so).mpr hup;refine⟨acc,l5,ns,rs,rfl,rfl,SqL.of (u5 _ _ (u4 _ _ hac)),SqL.of Ja,?_⟩;rw[decide_eq_true e];exact k _ ((s1.trans u4).trans u5)
inductive Jrk(vs:List V)(H:Hp)(Q:VK):Prop
 | mk (x y:V) (d:Dt) (h1:vs=[x,y]) (h2:Rep H d x) (h3:Rep H d y) (h4:dsz d<=100000) (h5:∀H',JX H H'->Q (.bl true) H'):Jrk vs H Q
noncomputable def Jrb:Sp:=fun vs H Q _=>Jrk vs H Q
theorem Jjh{f:Addr}{fd:FuncData}(F:Fun K "_law_unturned" "_law_unturned" JbM f fd)(Z:Zs mg):YO P w K mg base CX0 1 f fd ["_law_found", "_law_due"] Jrb:=by
 refine F.ok JaW (fun vs H Q E h=>?_) (fun cdv A outer s0 H vs Q E hr h=>?_)
 .obtain⟨x,y,d,rfl,_⟩ :=h;rfl
 .obtain⟨x,y,d0,rfl,hx,hy,hsz,k⟩ :=h;have hu:=JbB hr
  refine⟨_,(Jd (Jl 2 JaW.nd (Yd (pa1 (J2 (Jc (pw 0) (pa1 (pw 1)))))))
   (Jd (Jn9 PassesOwn.never (Jq (JhE hu) (pw 2) (Yd JV) (Jx _)) (Jd (JoT (JmU PySem.F.plainAttrs_list PySem.F.slot_list_pop PySem.F.type_list_pop Jp6 (pw 2)) (JeK rfl (YA (JH (i:=3) JaW.nd rfl (Or.inl rfl)) (YA (JH (i:=4) JaW.nd rfl (Or.inl rfl)) JcL))))
   (Jg (JL (JaI (Jp Jfn (by rfl) Z.z_isinstance JM (Jc (pw 4) (Jc (J2 (Jc (Y0 (v:=.ty "list") rfl Z.z_list JbT rfl) (Jc (Y0 (v:=.ty "tuple") rfl Z.z_tuple JdY rfl) JV))) JV)))) (Jd (JL (Jq JdX (Jp Jap (by rfl) Z.z_isinstance JM (Jc (pw 3) (Jc (Y0 (v:=.ty "list") rfl Z.z_list JbT rfl) JV))) (Jp Jap (by rfl) Z.z_isinstance JM (Jc (pw 4) (Jc (Y0 (v:=.ty "list") rfl Z.z_list JbT rfl) JV))) (Jx _)) (Jg (Jn Jbg)) Jr)
   (Jd (JL (PW.pt (JbI (JaD (JaI (Jp Jfn (by rfl) Z.z_isinstance JM (Jc (pw 3) (Jc (J2 (Jc (Y0 (v:=.ty "list") rfl Z.z_list JbT rfl) (Jc (Y0 (v:=.ty "tuple") rfl Z.z_tuple JdY rfl) JV))) JV))))) (JaX (Jq JdX (Jp JO (by rfl) Z.z_len Jbj (pa1 (pw 3))) (Jp JO (by rfl) Z.z_len Jbj (pa1 (pw 4))) (Jx _))))) (Jg (Jn Jbg)) Jr)
   (Jg (Jam PassesOwn.never rfl (Jca rfl Z.z_range (pa1 (Jp JO (by rfl) Z.z_len Jbj (pa1 (pw 4))))) (JH (i:=5) JaW.nd rfl (Or.inl rfl)) (Jg (Jbh (Jhf PySem.F.plainAttrs_list PySem.F.slot_list_append PySem.F.type_list_append Jah (pw 2) (pa1 (J2 (Jc (Ju Jou (pw 3) (pw 5) (fun _ _=>rfl)) (pa1 (Ju Jou (pw 4) (pw 5) (fun _ _=>rfl))))))))))))) (Jg (JL (PW.pt (JbI (JaN (JcT (pw 3))) (JaX (JaN (JcT (pw 4)))))) (Jg (JL (PW.pt (JbI (JaN (JcN (pw 3))) (JaX (JaN (JcN (pw 4)))))) (Jg (Jn Jbg)) Jr)) (Jg (JL (Jq JdX (Jp Jap (by rfl) Z.z_isinstance JM (Jc (pw 3) (Jc (Y0 (v:=.ty "bool") rfl Z.z_bool JiL rfl) JV))) (Jp Jap (by rfl) Z.z_isinstance JM (Jc (pw 4) (Jc (Y0 (v:=.ty "bool") rfl Z.z_bool JiL rfl) JV))) (Jx _)) (Jg (Jn Jbg)) (Jg (JL (Jq JdX (Jp Jap (by rfl) Z.z_isinstance JM (Jc (pw 3) (Jc (Y0 (v:=.ty "str") rfl Z.z_str Jk6 rfl) JV))) (Jp Jap (by rfl) Z.z_isinstance JM (Jc (pw 4) (Jc (Y0 (v:=.ty "str") rfl Z.z_str Jk6 rfl) JV))) (Jx _)) (Jg (Jn Jbg)) (Jg (JL (PW.pt (JbI (JaD (JaI (Jp Jfn (by rfl) Z.z_isinstance JM (Jc (pw 3) (Jc (J2 (Jc (Y0 (v:=.ty "str") rfl Z.z_str Jk6 rfl) (Jc (Y0 (v:=.ty "int") rfl Z.z_int Jgm rfl) JV))) JV))))) (JaX (Jq JdX (pw 3) (pw 4) (Jx _))))) (Jg (Jn Jbg)) Jr))))))))))))
   (Jg (Jn Jbg)))),fun _ nz=>?_⟩
  refine⟨zs2,fun t0 ht0=>⟨zs1,fun l hl=>?_⟩⟩;have hl0:H l=none:=(Je ht0).free hl
  refine nz fun _ nz=>⟨fun m σ Hc=>∃(ps:List Addr)(ds:List Dt)(v3 v4 v5:Option V),σ=[some x,some y,some (.ref l),v3,v4,v5]/\Jk0 H l ps ds Hc/\m=Jex ds/\Jex ds<=100000,
   ⟨_,[t0],[d0],none,none,none,rfl,⟨JR (Je ht0) hl0,Ja,rfl,?_⟩,rfl,by simp only[Jex];omega⟩,?_⟩
  .intro i p d e1 e2
   cases i with
   | succ i=>simp at e1
   | zero=>
    cases e1;cases e2;exact⟨x,y,Je hl _ _ Ja,hx,hy⟩
  rintro m σ Hc ⟨ps,ds,v3,v4,v5,rfl,W,rfl,hms⟩;refine⟨Bz _,fun le hle=>?_⟩;have W1:=W.new (o:=HO.lst []) hle;refine⟨l,le,_,rfl,rfl,SqL.of W1.lst,SqL.of Ja,_,rfl,?_⟩
  rcases List.eq_nil_or_concat ps with rfl|⟨ps,p,rfl⟩
  .refine JT (fun h=>absurd h (by decide)) (fun _=>nz ?_);exact k _ W1.same
  .rw[List.concat_eq_append]at W W1 ⊢
   rcases List.eq_nil_or_concat ds with rfl|⟨ds,d,rfl⟩
   .have:=W.len;simp at this
   rw[List.concat_eq_append]at W W1 hms ⊢;refine JT (fun _=>?_) (fun h=>absurd (by simp) h)
   refine⟨fun σ' H'=>∃(ps':List Addr)(ds':List Dt)(v3 v4 v5:Option V),σ'=[some x,some y,some (.ref l),v3,v4,v5]/\Jk0 H l ps' ds' H'/\Jex ds'<Jex (ds++[d]),
    fun σ' H' ⟨ps',ds',v3,v4,v5,e,W',hlt⟩ =>⟨_,hlt,ps',ds',v3,v4,v5,e,W',rfl,by omega⟩,fun _ ny=>?_⟩
   obtain⟨W2,u,v,hp,hp2,hu',hv'⟩ :=W1.pop hl0
   have hlast:(List.map V.ref (ps++[p]))[(List.map V.ref (ps++[p])).length-1]?=some (V.ref p):=by simp
   have hdl:(List.map V.ref (ps++[p])).dropLast=ps.map V.ref:=by simp
   refine⟨.inl ⟨rfl,_,SqL.of W1.lst⟩,l,_,_,rfl,rfl,W1.lst,hlast,?_⟩;rw[hdl];refine⟨p,_,rfl,SqT.of hp2,rfl,u,_,rfl,v,_,rfl,rfl,ny ?_⟩;generalize upd (upd Hc le (HO.lst [])) l (HO.lst (ps.map V.ref))=H2 at W2 hp2 ⊢
   have hd1:Jex (ds++[d])=Jex ds+dsz d:=by rw[Jd7];simp only[Jex];omega
   have hdp:=Jlj d;refine⟨zs2,fun tp htp=>?_⟩;have W3:=W2.new (o:=HO.tup [V.ty "list",V.ty "tuple"]) htp;refine⟨_,dty d,tp,["list", "tuple"],rfl,Ja,(hv'.same W3.same).ty,Jch d,by decide,_,rfl,?_⟩
   by_cases hseq:∃dl,d=.tup dl\/d=.lst dl
   .obtain⟨dl,hdl'⟩ :=hseq;have hany:=Jpe hdl';refine JT (fun _=>fun _ nq=>?_) (fun h=>absurd hany h)
    have hdz:dsz d=1+Jex dl:=by rcases hdl' with rfl|rfl<;>rfl
    refine⟨_,dty d, "list",rfl,(hu'.same W3.same).ty,Jch d,by decide,_,dty d, "list",rfl,(hv'.same W3.same).ty,Jch d,by decide,rfl,_,rfl,?_⟩;refine Jhq rfl (nq fun _ nq=>?_);refine⟨zs2,fun tq htq=>?_⟩;have W4:=W3.new (o:=HO.tup [V.ty "list",V.ty "tuple"]) htq;refine⟨_,dty d,tq,["list", "tuple"],rfl,Ja,(hu'.same W4.same).ty,Jch d,by decide,_,rfl,?_⟩;refine JT (fun h=>absurd h (by rw[hany];decide)) (fun _=>?_);obtain⟨a1,ys1,e1,q1,n1⟩ :=Jmu (K:=K) hdl' hu' W4.same;obtain⟨a2,ys2,e2,q2,n2⟩ :=Jmu (K:=K) hdl' hv' W4.same;refine⟨a1,ys1,by rw[e1],q1,a2,ys2,by rw[e2],q2,rfl,_,rfl,?_⟩;refine Jhq (by rw[n1,n2]) (nq ?_);have hdl3:=JgP dl;refine⟨a2,ys2,by rw[e2],q2,_,rfl,(by rw[n2];omega),(by rw[n2];omega),?_⟩
    refine Jb1 (lo:=0) (fun i σ H5=>∃(qs:List Addr)(v5:Option V),σ=[some x,some y,some (.ref l),some u,some v,v5]/\Jk0 H l (ps++qs) (ds++dl.take i) H5)
     ⟨[],_,rfl,by rw[List.append_nil,List.take_zero,List.append_nil];exact W4⟩ ?_ ?_
    .rintro i σ H5 hi ⟨qs,w5,rfl,W5⟩
     have hi:i<dl.length:=by rw[n2]at hi;omega
     have he:dl[i]?=some dl[i]:=A3 hi;obtain⟨x1,r1,i1⟩ :=JjP (K:=K) hdl' hu' W5.same he;obtain⟨x2,r2,i2⟩ :=JjP (K:=K) hdl' hv' W5.same he;refine⟨.inl ⟨rfl,_,SqL.of W5.lst⟩,i1 _ (i2 _ ⟨zs2,fun t ht=>?_⟩)⟩;have W6:=W5.push hl0 ht r1 r2;have hw5:=JgP (ds++dl.take i);have hlen5:=W5.len
     have htk:Jex (ds++dl.take i)<=100000:=by
      have h1:Jex (dl.take i)<=Jex dl:=by
       have:=Jd7 (dl.take i) (dl.drop i);rw[List.take_append_drop]at this;omega
      rw[Jd7];omega
     refine⟨l,_,_,rfl,rfl,Je ht _ _ W5.lst,C9 (show _<=100000 by rw[A2];omega) (by decide),?_⟩;refine⟨qs++[t],_,rfl,?_⟩;rw[B8,he,<- List.append_assoc,<- List.append_assoc];exact W6
    .rintro σ H5 ⟨qs,w5,rfl,W5⟩;refine⟨ps++qs,_,_,_,_,rfl,W5,?_⟩
     have e:(0-0+(ys2.length:Int)).toNat=dl.length:=by omega
     have hn:dl.take (ys2.length:Int).toNat=dl:=by rw[n2];exact List.take_of_length_le (by omega)
     rw[hn,Jd7,hd1,hdz];omega
   .rcases Jo3 (fun dl=>⟨fun e=>hseq ⟨dl,.inl e⟩,fun e=>hseq ⟨dl,.inr e⟩⟩) hu' hv' with⟨rfl,rfl,rfl⟩|⟨rfl,hF⟩
    .refine JT (fun h=>absurd h (by decide)) (fun _=>?_);refine⟨_,rfl,?_⟩;refine JT (fun _=>?_) (fun h=>absurd (decide_eq_true rfl) h);refine JfH ?_;refine⟨_,rfl,?_⟩;refine JT (fun h=>absurd h (by decide)) (fun _=>?_);refine⟨_,rfl,?_⟩;refine JT (fun h=>absurd h (by decide)) (fun _=>?_);exact⟨ps,ds,_,_,_,rfl,W3,by omega⟩
    .refine JT (fun h=>absurd h hF.no) (fun _=>?_);refine⟨_,rfl,?_⟩;refine JT (fun h=>absurd (of_decide_eq_true h) hF.nn) (fun _=>?_);refine⟨_,rfl,?_⟩;refine JT (fun h=>absurd (of_decide_eq_true h) hF.nn) (fun _=>?_);refine⟨_,dty d, "bool",rfl,(hu'.same W3.same).ty,Jch d,by decide,_,dty d, "bool",rfl,(hu'.same W3.same).ty,Jch d,by decide,rfl,_,rfl,?_⟩;refine Jhq rfl ?_;refine⟨_,dty d, "str",rfl,(hu'.same W3.same).ty,Jch d,by decide,_,dty d, "str",rfl,(hu'.same W3.same).ty,Jch d,by decide,rfl,_,rfl,?_⟩;refine Jhq rfl ?_;refine⟨zs2,fun tq htq=>?_⟩;have W4:=W3.new (o:=HO.tup [V.ty "str",V.ty "int"]) htq;refine⟨_,dty d,tq,["str", "int"],rfl,Ja,(hu'.same W4.same).ty,Jch d,by decide,_,rfl,?_⟩;refine JT (fun h=>absurd h (by rw[hF.si];decide)) (fun _=>?_);refine⟨hF.sc,_,rfl,?_⟩;refine Jhq rfl ?_;exact⟨ps,ds,_,_,_,rfl,W4,by omega⟩
structure JmF(cs:List Int)(last:Int)(pre:List Y7):Prop where
 len:pre.length<=57
 ok:∀d∈pre,Ja1 d/\Jo8 (J9 cs) (·∈Jv cs) d/\Jm4 d=true/\∀who week,d=.payday who week->week<=last
inductive JiG(K:WF)(vs:List V)(H:Hp)(Q:VK):Prop
 | mk (a p:Addr) (ns cs:List Int) (h1:vs=[.ref a,.ref p]) (h2:SqL K H a (ns.map V.int)) (h3:SqL K H p (cs.map V.int)) (h4:cs.length<=28) (h5:∀l us pre H',JX H H'->H l=none->H' l=some (.lst us)->
 YL H' ((pre++JbG (4*JA cs+12*J3 cs) (Jv cs)).map Jbi) us->JmF cs (4*JA cs+12*J3 cs) pre->Q (.ref l) H'):JiG K vs H Q
noncomputable def Jix(K:WF):Sp:=fun vs H Q _=>JiG K vs H Q
theorem JkM{f f1 f2 f3 f4:Addr}{fd fd1 fd2 fd3 fd4:FuncData}(F:Fun K "_law_asking" "_law_asking" Jbt f fd)(Z:Zs mg)
  (JdB:JI P w K mg base "_law_written" ["_law_cells"] (Jh9 (K:=K)) 3 f1 fd1)
  (J5:JI P w K mg base "_law_so_far" ["_law_cells"] (JfK (K:=K)) 1 f2 fd2)
  (JN:JI P w K mg base "_law_first_month" ["_law_cells"] (Jhb (K:=K)) 1 f3 fd3)
  (YY:JI P w K mg base "_law_people" ["_law_cells"] (Jfc (K:=K)) 1 f4 fd4):YO P w K mg base CX0 4 f fd ["_law_script", "_law_cells"] (Jix K):=by
 refine F.ok JbD (fun vs H Q E h=>?_) (fun cdv A outer s0 H vs Q E hr h=>?_)
 .obtain⟨_,_,_,_,rfl,_⟩ :=h;rfl
 .obtain⟨a,p,ns,cs,rfl,hS,hp,hcl,k⟩ :=h
  refine⟨_,(Jd (Jl 2 JbD.nd (Yd JV))
   (Jd (Jl 3 JbD.nd (Jk JF (Jk J7 Jb (Jo JN (hr.mono (by decide)) (pa1 (pw 1)))) (Jk J7 Jb (Jo J5 (hr.mono (by decide)) (pa1 (pw 1))))))
   (Jd (Jam PassesOwn.never rfl (Ja5 (Jo JdB (hr.mono (by decide)) (pa1 (pw 1)))) (JH (i:=4) JbD.nd rfl (Or.inl rfl)) (Jg (JL (Jq JfC (Ju Js (pw 4) Jb (fun _ _=>rfl)) (Yd (Jc Jt (Jc Jt (Jc Jt (pa1 Jt))))) (by with_unfolding_all rfl)) (Jg (Jbh (Jhf PySem.F.plainAttrs_list PySem.F.slot_list_append PySem.F.type_list_append Jah (pw 2) (pa1 (pw 4))))) Jr)))
   (JaO (JL (PW.pt (Jcu (Jq Jfj (Jp JO (by rfl) Z.z_len Jbj (pa1 (pw 0))) Jb (Jx _)) (Jbe (Jq Y1 (Jk JC (Ju JK (pw 0) Jb (fun _ _=>rfl)) Jb) Jb (Jx _))))) (Jd (Jbh (Jhf PySem.F.plainAttrs_list PySem.F.slot_list_append PySem.F.type_list_append Jah (pw 2) (pa1 (J2 (Jc Jt (Jc Jt (pa1 (Jk JW (pw 3) Jb))))))))
   (Jg (Jam PassesOwn.never rfl (Ja5 (YS JbW (pw 2) JaH (YG (Jdh (op:=.USub) Jaw Jb)))) (JH (i:=4) JbD.nd rfl (Or.inl rfl)) (Jg (JL (PW.pt (Jcu (Jq Y1 (Ju Js (pw 4) Jb (fun _ _=>rfl)) Jt (Jx _)) (Jbe (Jq Y1 (Ju Js (pw 4) Jb (fun _ _=>rfl)) Jt (Jx _))))) (Jg (Jbh (Jhf PySem.F.plainAttrs_list PySem.F.slot_list_append PySem.F.type_list_append Jah (pw 2) (pa1 (J2 (Jc Jt (Jc Jt (Jc (Ju Js (pw 4) Jb (fun _ _=>rfl)) (pa1 Jb))))))))) Jr))))) Jr)
   (Jg (Jn (Jk JhG (pw 2) (JcI ["_law_who", "_law_last"] [none,some 3] rfl JdM (Ja5 (Jo YY (hr.mono (by decide)) (pa1 (pw 1)))) (fun _ _ _ _=>(JH (i:=0) JdM.nd rfl (Or.inl rfl) (Or.inr rfl))) (fun _ _ _ _=>JcF) (fun _ _ _ _=>(J2 (Jc Jt (Jc (pw 0) (pa1 (pw 1)))))))))))))),fun _ nz=>?_⟩
  refine⟨zs0,fun ml hml=>?_⟩;have q1:=Jg2 (o:=HO.lst []) hml;generalize upd H ml (.lst [])=H1 at q1 ⊢;obtain⟨w1,q1⟩ :=q1;refine nz fun _ nz=>⟨p,cs,rfl,w1.seq hp,fun H2 u2=>⟨Yj (by decide) (by decide),p,cs,rfl,(w1.trans u2).seq hp,fun H3 u3=>⟨Yj (by decide) (by decide),?_⟩⟩⟩;have hap:=Jg5 cs;have s3:JX H H3:=(w1.trans u2).trans u3;have q3:=u3 _ _ (u2 _ _ q1);clear w1 u2 u3 q1
  try dsimp only[rJ0,rJ]
  generalize hla:4*JA cs+12*J3 cs=last at k ⊢
  have hle:4*JA cs+9*J3 cs<=last:=by omega
  have hann:("ann" : Str)∈Jv cs:=by
   unfold Jv;split
   .exact .head _
   .split<;>exact .head _
  refine nz fun _ nz=>⟨p,cs,rfl,s3.seq hp,by omega,fun wl us ds H4 u4 nwl W=>?_⟩
  have hul:us.length=ds.length:=by rw[W.rep.length,A2]
  have s4:=s3.trans u4;have q4:=u4 _ _ q3;have hwl:=W.at_
  have nwm:wl≠ml:=fun z=>by rw[z,q3]at nwl;cases nwl
  have hrp:=W.rep;have hdok:∀d∈ds,Ja1 d/\JpL cs d:=W.ok
  have hdn:ds.length<=28:=by rw[W.len];exact hcl
  clear W;refine⟨wl,rfl,⟨_,SqL.of hwl⟩,?_⟩
  refine JbO (K:=K) (xs:=us) (fun i σ H'=>∃(ys:List V)(pre:List Y7)(v4:Option V),σ=[some (.ref a),some (.ref p),some (.ref ml),some (.int last),v4]/\Ja0 H4 H'/\JX H H'/\H' wl=some (.lst us)/\H' ml=some (.lst ys)/\YL H' (pre.map Jbi) ys/\pre.length<=i/\
    ∀d∈pre,Ja1 d/\Jo8 (J9 cs) (·∈Jv cs) d/\Jm4 d=true/\∀who week,d=.payday who week->week<=last)
   ⟨[],[],none,rfl,fun _ _ z=>z,s4,hwl,q4,rfl,A5 _,fun _ h=>nomatch h⟩ (fun _ _ _ _ ⟨_,_,_,_,_,_,e,_⟩ =>SqL.of e) ?_ ?_
  .rintro i v σ H' hv ⟨ys,pre,v4,rfl,sT,sH,hw',hm',rp',hpl,hpo⟩;have hi:i<ds.length:=hul ▸ (A6.mp hv).1;obtain⟨d,hd⟩:∃d,ds[i]?=some d:=⟨ds[i],A3 hi⟩;have hdr:Rep H' (Jbi d) v:=Rep.sameT sT (Jav d) (hrp.get i v _ hv (by rw[Aq,hd];rfl));obtain⟨b,r,rfl,ht⟩ :=JfA hdr
   have hyl:ys.length=pre.length:=by rw[rp'.length,A2]
   refine⟨b,_,0,_,rfl,rfl,SqT.of ht,Jh (j:=0) rfl,zs4,fun ql hql=>?_⟩;have w4:=Je (o:=HO.lst [V.str "hours",V.str "rate",V.str "dues",V.str "payday"]) hql;have q5:upd H' ql (.lst [V.str "hours",V.str "rate",V.str "dues",V.str "payday"]) ql=some (.lst [V.str "hours",V.str "rate",V.str "dues",V.str "payday"]):=Ja
   try dsimp only[rJ0,rJ]
   generalize upd H' ql (.lst [V.str "hours",V.str "rate",V.str "dues",V.str "payday"])=H5 at w4 q5 ⊢;refine⟨ql,_,rfl,.inl (SqL.of q5),rfl,rfl,_,rfl,?_⟩;rw[if_neg Bool.false_ne_true,Jns];have hm5:=w4 _ _ hm';refine JT (fun h=>?_) (fun h=>?_)
   .refine⟨.inl ⟨rfl,_,SqL.of hm5⟩,ml,ys,_,rfl,rfl,hm5,Jy (by omega),?_⟩;have sx:Ja0 H5 (upd H5 ml (.lst (ys++[.ref b]))):=Ja0.lst hm5;refine⟨ys++[.ref b],pre++[d],_,rfl,(sT.trans (Ja0.of w4)).trans sx,JR (sH.trans w4) hml,by rw[Jf nwm];exact w4 _ _ hw',Ja,?_,by rw[Ak];show pre.length+1<=i+1;omega,fun e he=>?_⟩
    .rw[B4];exact YL.snoc (YL.sameT sx (Jcf Jav pre) (rp'.same w4)) (Rep.sameT sx (Jav d) (Rep.same w4 hdr))
    .rcases B5.mp he with he|he
     .exact hpo e he
     .rw[A7.mp he];obtain⟨o1,o2⟩ :=hdok d (B9 hd);refine⟨o1,o2.fits,h,fun who week z=>?_⟩;subst z;exact Int.le_trans o2.2 hle
   .exact⟨ys,pre,_,rfl,sT.trans (Ja0.of w4),sH.trans w4,w4 _ _ hw',hm5,rp'.same w4,by omega,hpo⟩
  rintro σ H5 ⟨ys,pre,v4,rfl,-,s5,-,hm5,rp5,hpl,hpo⟩;refine nz ?_
  have hpl:pre.length<=28:=by omega
  clear hrp hdok hdn hwl nwm nwl hul q4 s4 u4 s3 q3;refine⟨fun σ' H'=>∃(ys:List V)(pre:List Y7)(v4:Option V),σ'=[some (.ref a),some (.ref p),some (.ref ml),some (.int last),v4]/\JX H H'/\H' ml=some (.lst ys)/\YL H' (pre.map Jbi) ys/\JmF cs last pre,?_,?_⟩
  .refine⟨a,_,rfl,.inl (s5.seq hS),_,rfl,?_⟩;have six5:JmF cs last pre:=⟨by omega,hpo⟩
   have hyl:ys.length=pre.length:=by rw[rp5.length,A2]
   refine JT (fun h=>?_) (fun _=>?_)
   .have h:(0:Int)<((ns.map V.int).length:Nat):=of_decide_eq_true h;rw[A2]at h;obtain⟨x,hx⟩ :=JiS (ns:=ns) (Int.le_refl 0) h;refine⟨a,_,0,_,rfl,rfl,s5.seq hS,hx,(by show(0:Int)<3;decide),rfl,_,rfl,?_⟩;refine JT (fun _=>fun _ ny=>?_) (fun _=>?_)
    .refine⟨.inl ⟨rfl,_,SqL.of hm5⟩,zs3,fun t ht=>?_⟩;have w6:=Je (o:=HO.tup [V.str "payday",V.str "ann",V.int (last-1)]) ht;have r6:upd H5 t (.tup [V.str "payday",V.str "ann",V.int (last-1)]) t=some (.tup [V.str "payday",V.str "ann",V.int (last-1)]):=Ja
     try dsimp only[rJ0,rJ]
     generalize upd H5 t (.tup [V.str "payday",V.str "ann",V.int (last-1)])=H6 at w6 r6 ⊢;have hm6:=w6 _ _ hm5;refine⟨ml,ys,_,rfl,rfl,hm6,Jy (by omega),ny ?_⟩;have sx:Ja0 H6 (upd H6 ml (.lst (ys++[.ref t]))):=Ja0.lst hm6;have s7:JX H (upd H6 ml (.lst (ys++[.ref t]))):=JR (s5.trans w6) hml;have hm7:upd H6 ml (.lst (ys++[.ref t])) ml=some (.lst (ys++[.ref t])):=Ja;have rp7:YL (upd H6 ml (.lst (ys++[.ref t]))) (pre.map Jbi) ys:=YL.sameT sx (Jcf Jav pre) (rp5.same w6);have rt7:Rep (upd H6 ml (.lst (ys++[.ref t]))) (Jbi (.payday "ann" (last-1))) (.ref t):=Rep.sameT sx (Jav _) ⟨t,_,rfl,r6,_,_,rfl,rfl,_,_,rfl,rfl,_,_,rfl,rfl,rfl⟩;generalize upd H6 ml (.lst (ys++[.ref t]))=H7 at sx s7 hm7 rp7 rt7 ⊢;refine⟨ml,_,rfl,SqL.of hm7,fun cl hcl=>?_⟩;rw[show Jf6 (ys++[V.ref t]) none (some (-1))=ys by rw[Jfq (by simp)];simp];have w8:=Je (o:=HO.lst ys) hcl;have r8:upd H7 cl (.lst ys) cl=some (.lst ys):=Ja
     have ncl:cl≠ml:=fun z=>by rw[z,hm7]at hcl;cases hcl
     generalize upd H7 cl (.lst ys)=H8 at w8 r8 ⊢;refine⟨cl,rfl,⟨_,SqL.of r8⟩,?_⟩;have rp8:=rp7.same w8
     refine JbO (K:=K) (xs:=ys) (fun i σ H'=>∃(zs:List V)(post:List Y7)(v4:Option V),σ=[some (.ref a),some (.ref p),some (.ref ml),some (.int last),v4]/\Ja0 H8 H'/\JX H H'/\H' cl=some (.lst ys)/\H' ml=some (.lst zs)/\YL H' ((pre++[Y7.payday "ann" (last-1)]++post).map Jbi) zs/\post.length<=i/\
       ∀d∈post,Ja1 d/\Jo8 (J9 cs) (·∈Jv cs) d/\Jm4 d=true/\∀who week,d=.payday who week->week<=last)
      ⟨_,[],_,rfl,fun _ _ z=>z,s7.trans w8,r8,w8 _ _ hm7,?_,A5 _,(fun _ h=>nomatch h)⟩ (fun _ _ _ _ ⟨_,_,_,_,_,_,e,_⟩ =>SqL.of e) ?_ ?_
     .rw[List.append_nil,B4];exact YL.snoc rp8 (Rep.same w8 rt7)
     .rintro i v σ H' hv ⟨zs,post,v4,rfl,sT,sH,hc',hm',rp',hpl',hpo'⟩;have hi:i<pre.length:=hyl ▸ (A6.mp hv).1;obtain⟨d,hd⟩:∃d,pre[i]?=some d:=⟨pre[i],A3 hi⟩;have hdr:Rep H' (Jbi d) v:=Rep.sameT sT (Jav d) (rp8.get i v _ hv (by rw[Aq,hd];rfl));obtain⟨b,r,rfl,ht⟩ :=JfA hdr
      have hzl:zs.length=pre.length+1+post.length:=by rw[rp'.length,A2,Ak,Ak];rfl
      have hfd:=hpo d (B9 hd);refine⟨b,_,0,_,rfl,rfl,SqT.of ht,Jh (j:=0) rfl,rfl,_,rfl,?_⟩;refine JT (fun h=>?_) (fun _=>?_)
      .obtain⟨who,day,many,rfl⟩ :=Jhw (JbR h)
       next=>
        obtain⟨_,vs,e,ht,_,_,rfl,rfl,_,_,rfl,rfl,_,_,rfl,rfl,_,_,rfl,rfl,rfl⟩ :=hdr;cases e;refine⟨b,_,1,_,rfl,rfl,SqT.of ht,Jh (j:=1) rfl,rfl,_,rfl,?_⟩;refine JT (fun h2=>?_) (fun _=>?_)
        .have hwa:who = "ann":=JbR h2;refine⟨.inl ⟨rfl,_,SqL.of hm'⟩,b,_,2,_,rfl,rfl,SqT.of ht,Jh (j:=2) rfl,zs4,fun t2 ht2=>?_⟩;have w9:=Je (o:=HO.tup [V.str "hours",V.str "ann",V.int day,V.int 0]) ht2;have r9:upd H' t2 (.tup [V.str "hours",V.str "ann",V.int day,V.int 0]) t2=some (.tup [V.str "hours",V.str "ann",V.int day,V.int 0]):=Ja
         try dsimp only[rJ0,rJ]
         generalize upd H' t2 (.tup [V.str "hours",V.str "ann",V.int day,V.int 0])=H9 at w9 r9 ⊢;have hm9:=w9 _ _ hm';refine⟨ml,zs,_,rfl,rfl,hm9,Jy (by omega),?_⟩;have sy:Ja0 H9 (upd H9 ml (.lst (zs++[.ref t2]))):=Ja0.lst hm9;refine⟨zs++[.ref t2],post++[.hours "ann" day 0],_,rfl,(sT.trans (Ja0.of w9)).trans sy,JR (sH.trans w9) hml,by rw[Jf ncl];exact w9 _ _ hc',Ja,?_,by rw[Ak];show post.length+1<=i+1;omega,fun e he=>?_⟩
         .rw[<- List.append_assoc,B4];exact YL.snoc (YL.sameT sy (Jcf Jav _) (rp'.same w9)) (Rep.sameT sy (Jav (.hours "ann" day 0)) (Jh4 r9))
         .rcases B5.mp he with he|he
          .exact hpo' e he
          .rw[A7.mp he];exact⟨trivial,fun _=>hfd.2.1 (by rw[hwa];exact hann),rfl,fun _ _ z=>nomatch z⟩
        .exact⟨zs,post,_,rfl,sT,sH,hc',hm',rp',by omega,hpo'⟩
      .refine JcM ?_;exact⟨zs,post,_,rfl,sT,sH,hc',hm',rp',by omega,hpo'⟩
     .rintro σ H' ⟨zs,post,v4,rfl,-,sH,-,hm',rp',hpl',hpo'⟩;refine⟨zs,_,_,rfl,sH,hm',rp',?_,fun d hd=>?_⟩
      .rw[Ak,Ak];show pre.length+1+post.length<=57;omega
      .rcases B5.mp hd with hd|hd
       .rcases B5.mp hd with hd|hd
        .exact hpo d hd
        .rw[A7.mp hd];exact⟨trivial,hann,rfl,fun _ _ z=>by cases z;omega⟩
       .exact hpo' d hd
    .exact⟨ys,pre,_,rfl,s5,hm5,rp5,six5⟩
   .refine JcM ?_;exact⟨ys,pre,_,rfl,s5,hm5,rp5,six5⟩
  clear hm5 rp5 hpo s5 hpl;rintro σ H5 ⟨ys,pre,v4,rfl,s5,hm5,rp5,six⟩
  have hyl:ys.length=pre.length:=by rw[rp5.length,A2]
  have h57:=six.len;have hp3:=JbQ cs;refine⟨p,cs,rfl,s5.seq hp,fun nl H6 u6 nnl hnl=>⟨nl,rfl,⟨_,SqL.of hnl⟩,fun acc hacc=>?_⟩⟩
  refine JcE (K:=K) (xs:=(Jv cs).map V.str) (fun i zs σ' H'=>∃v0:Option V,σ'=[v0,some (.int last)]/\JX H6 H'/\H' acc=some (.lst zs)/\YL H' ((JbG last ((Jv cs).take i)).map Jbi) zs/\zs.length=i)
   ⟨none,rfl,Je hacc,Ja,rfl,rfl⟩ (fun _ _ _ _ ⟨_,_,s,_⟩ =>SqL.of (s _ _ hnl)) ?_ ?_
  .rintro i x zs σ' H' hx ⟨v0,rfl,s',hac,rp',hzl⟩;rw[Aq]at hx;obtain⟨who,hw,rfl⟩ :=B1.mp hx;have hi:i<3:=hp3 ▸ (A6.mp hw).1;refine⟨Jy (by omega),?_⟩;dsimp only[JcP,JeS];rw[if_pos rfl];refine⟨zs3,fun t ht=>?_⟩;have w7:=Je (o:=HO.tup [V.str "payday",V.str who,V.int last]) ht;have r7:upd H' t (.tup [V.str "payday",V.str who,V.int last]) t=some (.tup [V.str "payday",V.str who,V.int last]):=Ja;generalize upd H' t (.tup [V.str "payday",V.str who,V.int last])=H7 at w7 r7 ⊢;have hac7:=w7 _ _ hac;have sx:Ja0 H7 (upd H7 acc (.lst (zs++[.ref t]))):=Ja0.lst hac7;refine⟨hac7,_,rfl,JR (s'.trans w7) hacc,Ja,?_,by rw[Ak,hzl];rfl⟩;rw[B8,hw];unfold JbG;rw[B4,B4];exact YL.snoc (YL.sameT sx (Jcf Jav _) (rp'.same w7)) (Rep.sameT sx (Jav (.payday who last)) ⟨t,_,rfl,r7,_,_,rfl,rfl,_,_,rfl,rfl,_,_,rfl,rfl,rfl⟩)
  .rintro zs σ' H7 ⟨v0,rfl,s7,hac,rp',hzl⟩;rw[A2,List.take_length]at rp';rw[A2]at hzl;have s67:=u6.trans s7;refine⟨ml,acc,_,_,rfl,rfl,s67 _ _ hm5,hac,Jc9 (by omega),fun l8 hl8=>?_⟩;have w8:=Je (o:=HO.lst (ys++zs)) hl8;refine k l8 _ pre _ ((s5.trans s67).trans w8) ((s5.trans s67).free hl8) Ja ?_ six;rw[B4];exact JjX (rp5.same (s67.trans w8)) (rp'.same w8)
inductive JqG(K:WF)(vs:List V)(H:Hp)(Q:VK):Prop
 | mk (a:Addr) (ns:List Int) (h1:vs=[.ref a]) (h2:SqL K H a (ns.map V.int)) (h3:ns.length<=63) (h4:∀H',Q (.bl true) H'):JqG K vs H Q
noncomputable def Jnk(K:WF):Sp:=fun vs H Q _=>JqG K vs H Q
theorem Jrf{f f1 f2 f3 f4 f5 f6 f7 f8 f9 fA fB:Addr}{fd fd1 fd2 fd3 fd4 fd5 fd6 fd7 fd8 fd9 fdA fdB:FuncData}(F:Fun K "law" "law" JkN f fd)(Z:Zs mg)
  (Jg3:JI P w K mg base "_law_room" ["_law_script", "_law_most", "_law_bound"] (JoO (K:=K)) 1 f1 fd1)
  (Jez:JI P w K mg base "_law_asking" ["_law_script", "_law_cells"] (Jix K) 4 f2 fd2)
  (Jfe:JI P w K mg base "_law_begun" ["_law_cells"] (JlK K) 2 f3 fd3)
  (Ja7:JI P w K mg base "_law_refused" ["_law_state", "_law_deed"] JfS 2 f4 fd4)
  (Jht:JI P w K mg base "_law_done" ["_law_state", "_law_deed"] JlT 6 f5 fd5)
  (JfT:JI P w K mg base "answers" ["deeds"] JhK 12 f6 fd6)
  (Jdu:JI P w K mg base "_law_is_slip" ["_law_told"] JoD 2 f7 fd7)
  (J5:JI P w K mg base "_law_so_far" ["_law_cells"] (JfK (K:=K)) 1 f8 fd8)
  (JcU:JI P w K mg base "_law_unturned" ["_law_found", "_law_due"] Jrb 1 f9 fd9)
  (Yz:JI P w K mg base "_law_all_nets" ["_law_state", "_law_who", "_law_last"] JdJ 4 fA fdA)
  (YY:JI P w K mg base "_law_people" ["_law_cells"] (Jfc (K:=K)) 1 fB fdB):YO P w K mg base CX0 13 f fd ["_law_script"] (Jnk K):=by
 refine F.ok JaP (fun vs H Q E h=>?_) (fun cdv A outer s0 H vs Q E hr h=>?_)
 .obtain⟨_,_,rfl,_⟩ :=h;rfl
 .obtain⟨a,ns,rfl,hS,hlen,k⟩ :=h;have hu:=JbB hr
  refine⟨_,(Jd (Jl 1 JaP.nd (YS JbW (pw 0) (YG Jb) (YG (Jk JF Jb (Jo Jg3 (hr.mono (by decide)) (Jc (pw 0) (Jc Jb (pa1 Jb))))))))
   (Jd (Jl 2 JaP.nd (Jo Jez (hr.mono (by decide)) (Jc (pw 0) (pa1 (pw 1)))))
   (Jd (Jl 3 JaP.nd (Jo JfT (hr.mono (by decide)) (pa1 (YK Jio (by rfl) Z.z_list JbT (pa1 (pw 2))))))
   (Jd (JL (PW.pt (JbI (JaD (JaI (Jp Jap (by rfl) Z.z_isinstance JM (Jc (pw 3) (Jc (Y0 (v:=.ty "list") rfl Z.z_list JbT rfl) JV))))) (JaX (Jq JdX (Jp JO (by rfl) Z.z_len Jbj (pa1 (pw 3))) (Jp JO (by rfl) Z.z_len Jbj (pa1 (pw 2))) (Jx _))))) (Jg (Jn Jbg)) Jr)
   (Jd (Jl 4 JaP.nd (Jo Jfe (hr.mono (by decide)) (pa1 (pw 1))))
   (Jd (Jl 5 JaP.nd Yw)
   (Jd (Jl 6 JaP.nd Yw)
   (Jd (Jl 7 JaP.nd Yw)
   (Jd (Jam PassesOwn.never rfl (Ja5 (Jo YY (hr.mono (by decide)) (pa1 (pw 1)))) (JH (i:=8) JaP.nd rfl (Or.inl rfl)) (Jd (YI hu (pw 5) (pw 8) Jb rfl)
   (Jd (YI hu (pw 6) (pw 8) Jb rfl)
   (Jg (YI hu (pw 7) (pw 8) Yw rfl)))))
   (Jd (Jam PassesOwn.never rfl (Jca rfl Z.z_range (pa1 (Jp JO (by rfl) Z.z_len Jbj (pa1 (pw 2))))) (JH (i:=9) JaP.nd rfl (Or.inl rfl)) (Jd (Jl 10 JaP.nd (Ju JK (pw 2) (pw 9) (fun _ _=>rfl)))
   (Jd (Jl 11 JaP.nd (Jo Ja7 (hr.mono (by decide)) (Jc (pw 4) (pa1 (pw 10)))))
   (Jd (Jl 12 JaP.nd (Jo Jht (hr.mono (by decide)) (Jc (pw 4) (pa1 (pw 10)))))
   (Jg (JL (PW.pt (Jcu (Jq Y1 (Ju Js (pw 10) Jb (fun _ _=>rfl)) Jt (Jx _)) (Jbe (Jq Y1 (pw 11) Jt (Jx _))))) (Jd (JL (PW.pt (JbI (JaD (JaI (Jo Jdu (hr.mono (by decide)) (pa1 (Ju JK (pw 3) (pw 9) (fun _ _=>rfl)))))) (JaX (JaD (JaI (Jo JcU (hr.mono (by decide)) (Jc (Ju JK (pw 3) (pw 9) (fun _ _=>rfl)) (pa1 (pw 12))))))))) (Jg (Jn Jbg)) Jr)
   (Jd (Jl 13 JaP.nd (Jp (JaJ rfl) (by rfl) Z.z_sum JcV (pa1 (JcI ["_law_line"] [none] rfl JjG (Ja5 (Ju Js (pw 12) Jb (fun _ _=>rfl))) (fun _ _ _ _=>(JH (i:=0) JjG.nd rfl (Or.inl rfl) (Or.inr rfl))) (fun _ _ _ _=>JcF) (fun _ _ _ _=>(Ju (show IxR _ (Jot K) from Js) (pw 0) Jb (fun _ _=>rfl)))))))
   (Jd (JL (Jq JdX (Jk JF (J6 hu (pw 5) (Ju Js (pw 10) Jb (fun _ _=>rfl)) (fun _ _=>rfl)) (pw 13)) (Jk JF (Ju Js (pw 12) Jb (fun _ _=>rfl)) (Ju Js (pw 12) Jb (fun _ _=>rfl))) (Jx _)) (Jg (Jn Jbg)) Jr)
   (Jd (YI hu (pw 5) (Ju Js (pw 10) Jb (fun _ _=>rfl)) (Ju Js (pw 12) Jb (fun _ _=>rfl)) rfl)
   (Jd (YI hu (pw 6) (Ju Js (pw 10) Jb (fun _ _=>rfl)) (Jk JF (J6 hu (pw 6) (Ju Js (pw 10) Jb (fun _ _=>rfl)) (fun _ _=>rfl)) (Ju Js (pw 12) Jb (fun _ _=>rfl))) rfl)
   (Jg (Jam PassesOwn.never rfl (Ja5 (Ju Js (pw 12) Jb (fun _ _=>rfl))) (JeK rfl (YA (JH (i:=14) JaP.nd rfl (Or.inl rfl)) (YA (JH (i:=15) JaP.nd rfl (Or.inl rfl)) JcL))) (Jg (YI hu (J6 hu (pw 7) (Ju Js (pw 10) Jb (fun _ _=>rfl)) (fun _ _=>rfl)) (pw 14) (Jk JF (Y9 hu (J6 hu (pw 7) (Ju Js (pw 10) Jb (fun _ _=>rfl)) (fun _ _=>rfl)) (pw 14) Jb (by constructor<;>rfl)) (pw 15)) rfl))))))))) Jr))))))
   (Jd (Jam PassesOwn.never rfl (Ja5 (Jo YY (hr.mono (by decide)) (pa1 (pw 1)))) (JH (i:=8) JaP.nd rfl (Or.inl rfl)) (Jd (Jl 16 JaP.nd (Jo Yz (hr.mono (by decide)) (Jc (pw 4) (Jc (pw 8) (pa1 (Jk JF (Jk J7 Jb (J6 hu (pw 4) Jt (fun _ _=>rfl))) (Jk J7 Jb (Jo J5 (hr.mono (by decide)) (pa1 (pw 1))))))))))
   (Jd (Jam PassesOwn.never rfl (Jca rfl Z.z_range (pa1 (Jp JO (by rfl) Z.z_len Jbj (pa1 (pw 16))))) (JH (i:=9) JaP.nd rfl (Or.inl rfl)) (Jg (JL (Jq JdX (Y9 hu (J6 hu (pw 7) (pw 8) (fun _ _=>rfl)) (Ju JK (J6 hu (pw 4) Jt (fun _ _=>rfl)) (pw 9) (fun _ _=>rfl)) Jb (by constructor<;>rfl)) (Ju JK (pw 16) (pw 9) (fun _ _=>rfl)) (Jx _)) (Jg (Jn Jbg)) Jr)))
   (Jg (JL (Jq JdX (Jk JF (J6 hu (pw 6) (pw 8) (fun _ _=>rfl)) (J6 hu (pw 5) (pw 8) (fun _ _=>rfl))) (Jp (JaJ rfl) (by rfl) Z.z_sum JcV (pa1 (pw 16))) (Jx _)) (Jg (Jn Jbg)) Jr)))))
   (Jg (Jn Jbg))))))))))))),fun _ nz=>?_⟩
  refine⟨a,_,28,100,rfl,hS,by rw[A2];exact hlen,a,_,rfl,hS,fun p hp=>?_⟩;rw[show Jf6 (ns.map V.int) (some 1) (some (1+28))=((ns.drop 1).take 28).map V.int from Jsv ns 1 28];generalize hcs:(ns.drop 1).take 28=cs
  have hcl:cs.length<=28:=by rw[<- hcs,B7];omega
  have q1:=Jg2 (o:=HO.lst (cs.map V.int)) hp;generalize upd H p (HO.lst (cs.map V.int))=H1 at q1 ⊢;obtain⟨u1,q1⟩ :=q1;refine nz fun _ nz=>⟨a,p,ns,cs,rfl,u1.seq hS,SqL.of q1,hcl,fun al us pre H2 u2 nal hal rp ok6=>?_⟩;generalize hla:4*JA cs+12*J3 cs=last at rp ok6
  have hall:∀d∈pre++JbG last (Jv cs),Ja1 d/\Jo8 (J9 cs) (·∈Jv cs) d:=by
   intro d hd
   rcases B5.mp hd with hd|hd
   .exact⟨(ok6.ok d hd).1,(ok6.ok d hd).2.1⟩
   .obtain⟨who,hw,rfl⟩ :=Bw.mp hd;exact⟨trivial,hw⟩
  have hpn:(JbG last (Jv cs)).length=3:=by unfold JbG;rw[A2];exact JbQ cs
  have hfew:((pre++JbG last (Jv cs)).filter isH).length<64:=C9 (List.length_filter_le _ _) (by rw[Ak,hpn];have:=ok6.len;omega);generalize hDS:pre++JbG last (Jv cs)=DS at rp hall hfew
  have hdl:DS.length<=60:=by rw[<- hDS,Ak,hpn];have:=ok6.len;omega
  have hul:us.length=DS.length:=by rw[rp.length,A2]
  refine nz fun _ nz=>⟨al,_,rfl,.inl (SqL.of hal),fun lb hlb=>?_⟩;have q3:=Jg2 (o:=HO.lst us) hlb;generalize upd H2 lb (HO.lst us)=H3 at q3 ⊢;obtain⟨u3,q3⟩ :=q3;refine⟨lb,DS,rfl,⟨⟨lb,us,rfl,q3,rp.same u3⟩,by omega,fun d hd=>(hall d hd).1,hfew⟩,fun fl H4 nfl u4 rf=>?_⟩;obtain⟨_,fs,e,hfl,rfs⟩ :=rf;cases e;rw[<- (Lk.outs (Jiu cs) (Lk.new (J9 cs) (·∈Jv cs)) Jcr.new hall).1]at rfs
  have hfsl:fs.length=us.length:=by rw[rfs.length,JfJ,hul]
  have fo:Jji H4 (J9 cs) DS fs:=Jji.of (es:=[]) (by rw[List.append_nil];exact rfs);have hal4:=u4 _ _ (u3 _ _ hal);have q4:=u4 _ _ (u3 _ _ (u2 _ _ q1));have rp4:=rp.same (u3.trans u4);clear rfs rp q3 hal u1 q1 u3 u2 nal hlb nfl hp u4;refine nz fun _ nz=>⟨.ref fl, "list", "list",rfl,.lst hfl,by decide,by decide,_,rfl,?_⟩;refine JcM ?_;refine⟨fl,_,rfl,.inl (SqL.of hfl),al,_,rfl,.inl (SqL.of hal4),rfl,_,rfl,?_⟩;refine Jhq (by rw[hfsl]) (nz fun _ nz=>?_);refine⟨p,cs,rfl,SqL.of q4,fun st A H5 u5 fr law0=>?_⟩;have hal5:=u5 _ _ hal4;have q5:=u5 _ _ q4;have hfl5:=u5 _ _ hfl;have fo5:=fo.sameS (Ye.of u5);have rp5:=rp4.same u5;clear hal4 q4 hfl fo rp4 fr u5 hfsl;have hms:=Jiu cs;have hmn:(J9 cs).Nodup:=hms.imp fun z=>Int.ne_of_lt z
  have hmf:(J9 cs).length<=18:=by
   unfold J9;split<;>simp[Jct]<;>omega
  generalize hmo:J9 cs=ms at hms hmn hmf law0 fo5;refine nz fun _ nz=>fun dc hdc=>?_;have c6:=Jg2 (o:=HO.dK []) hdc;generalize upd H5 dc (.dK [])=H6 at c6 ⊢;obtain⟨w6,c6⟩ :=c6;refine nz fun _ nz=>fun dp hdp=>?_;have c7:=Jg2 (o:=HO.dK []) hdp;generalize upd H6 dp (.dK [])=H7 at c7 ⊢;obtain⟨w7,c7⟩ :=c7;refine nz fun _ nz=>fun dm hdm=>?_;have c8:=Jg2 (o:=HO.dK []) hdm;generalize upd H7 dm (.dK [])=H8 at c8 ⊢;obtain⟨w8,c8⟩ :=c8;have nA:∀x,H5 x=none->x∉st::A.all:=fun x hx m=>law0.there m hx;have ncA:=nA dc hdc;have npA:=nA dp (w6.free hdp);have nmA:=nA dm ((w6.trans w7).free hdm);have cp:dc≠dp:=Ji c6 hdp;have cm:dc≠dm:=Ji (w7 _ _ c6) hdm;have pm:dp≠dm:=Ji c7 hdm;have s58:=(w6.trans w7).trans w8;refine nz fun _ nz=>⟨p,cs,rfl,SqL.of (s58 _ _ q5),fun nl H9 u9 nnl hnl=>⟨nl,rfl,⟨_,SqL.of hnl⟩,?_⟩⟩;have s59:=s58.trans u9;have t0:Tri H9 dc dp dm (fun _=>0) (fun y=>y∈(Jv cs).take 0) 0 (fun _=>0) (fun _=>0) (fun _ _=>0):=⟨⟨[],u9 _ _ (w8 _ _ (w7 _ _ c6)),A5 _,(fun _ z=>nomatch z)⟩,⟨[],u9 _ _ (w8 _ _ c7),A5 _,(fun _ z=>nomatch z)⟩,⟨[],u9 _ _ c8,A5 _,(fun _ z=>nomatch z)⟩,(fun _ z=>nomatch z)⟩;have a0:Jnd dc dp dm (fun _=>0) (fun y=>y∈(Jv cs).take 0):=⟨cp,cm,pm,(fun _ z=>nomatch z),(fun _ z=>nomatch z),(fun _ z=>nomatch z),(fun _ z=>nomatch z)⟩;have law9:=law0.same s59;have hl3:=JbQ cs
  refine JbO (K:=K) (xs:=(Jv cs).map V.str) (fun i σ H'=>∃(ad:Str->Addr)(v8:Option V),σ=[some (.ref a),some (.ref p),some (.ref al),some (.ref fl),some (.ref st),some (.ref dc),some (.ref dp),some (.ref dm),v8,none,none,none,none,none,none,none,none]/\
    (∀x o,H9 x=some o->x≠dc->x≠dp->x≠dm->H' x=some o)/\Tri H' dc dp dm ad (fun y=>y∈(Jv cs).take i) i (fun _=>0) (fun _=>0) (fun _ _=>0)/\Jnd dc dp dm ad (fun y=>y∈(Jv cs).take i)/\∀y,y∈(Jv cs).take i->H9 (ad y)=none)
   ⟨_,none,rfl,fun _ _ z _ _ _=>z,t0,a0,(fun _ z=>nomatch z)⟩ (fun _ _ _ _ ⟨_,_,_,kp,_⟩ =>SqL.of (kp _ _ hnl (fun z=>by rw[z,u9 _ _ (w8 _ _ (w7 _ _ c6))]at hnl;cases hnl) (fun z=>by rw[z,u9 _ _ (w8 _ _ c7)]at hnl;cases hnl) (fun z=>by rw[z,u9 _ _ c8]at hnl;cases hnl))) ?_ ?_
  .rintro i x σ H' hx ⟨ad,v8,rfl,kp,T,TA,fa⟩;rw[Aq]at hx;obtain⟨who,hw,rfl⟩ :=B1.mp hx;have hi:i<3:=hl3 ▸ (A6.mp hw).1;obtain⟨kc,ec,lc,_⟩ :=T.cv;obtain⟨kq,eq,lq,_⟩ :=T.pv;obtain⟨km,em,lm,_⟩ :=T.mv;refine fun _ ny=>⟨dc,_,rfl,Jei.k (k:=A8 who) ec (Jy (by omega)),?_⟩;refine ny fun _ ny=>⟨dp,_,rfl,Jei.k (k:=A8 who) ((Jf cp.symm).trans eq) (Jy (by omega)),?_⟩;refine ny ?_;refine fun e he=>?_
   have he1:H' e=none:=by
    have z1:e≠dc:=fun z=>by rw[z,Jf cp,Ja]at he;cases he
    have z2:e≠dp:=fun z=>by rw[z,Ja]at he;cases he
    rw[Jf z2,Jf z1]at he;exact he
   have ne1:e≠dc:=fun z=>by rw[z,ec]at he1;cases he1
   have ne2:e≠dp:=fun z=>by rw[z,eq]at he1;cases he1
   have ne3:e≠dm:=fun z=>by rw[z,em]at he1;cases he1
   refine⟨dm,_,rfl,Jei.k (k:=A8 who) (by rw[Jf ne3.symm,Jf pm.symm,Jf cm.symm];exact em) (Jy (by omega)),?_⟩
   have htk:∀y,y∈(Jv cs).take (i+1)->y=who\/y∈(Jv cs).take i:=fun y hy=>by
    rw[B8,hw]at hy
    rcases B5.mp hy with hy|hy
    .exact .inr hy
    .exact .inl (A7.mp hy)
   have he9:H9 e=none:=by
    cases z:H9 e with
    | none=>rfl
    | some o=>rw[kp e o z ne1 ne2 ne3]at he1;cases he1
   obtain⟨T1,A1⟩ :=T.one TA (who:=who) (e:=e) (H':=upd (upd (upd (upd H' dc (.dK (Yt kc (A8 who) (.int 0)))) dp (.dK (Yt kq (A8 who) (.int 0)))) e (.dK [])) dm (.dK (Yt km (A8 who) (.ref e)))) ec eq em he1
    (by rw[Jf cm,Jf ne1.symm,Jf cp,Ja]) (by rw[Jf pm,Jf ne2.symm,Ja]) Ja (by rw[Jf ne3,Ja]) (fun x o z n1 n2 n3=>by rw[Jf n3,Jf (fun q=>by rw[q,he1]at z;cases z),Jf n2,Jf n1];exact z)
   refine⟨_,_,rfl,fun x o z n1 n2 n3=>?_,T1.sub htk,A1.sub htk,fun y hy=>?_⟩
   .rw[Jf n3,Jf (fun q=>by rw[q,he9]at z;cases z),Jf n2,Jf n1];exact kp x o z n1 n2 n3
   .show H9 (if y=who then e else ad y)=none;split
    .exact he9
    .rename_i q;exact fa y ((htk y hy).resolve_left q)
  rintro σ Ha ⟨ad,v8,rfl,kp,T,TA,fa⟩;rw[A2,List.take_length]at T TA fa;rw[hl3]at T;have nS:∀x,H5 x=none->x≠dc->x≠dp->x≠dm->True:=fun _ _ _ _ _=>trivial
  have e9a:∀c∈st::A.all,Ha c=H9 c:=fun c hc=>by
   cases z:H9 c with
   | none=>exact absurd z (law9.there hc)
   | some o=>exact kp c o z (fun q=>ncA (q ▸ hc)) (fun q=>npA (q ▸ hc)) (fun q=>nmA (q ▸ hc))
  have nd:∀{x:Addr}{o:HO},H9 x=some o->(∀kv,o≠.dK kv)->Ha x=some o:=fun{x o} z n=>by
   obtain⟨k1,e1,_⟩ :=t0.cv;obtain⟨k2,e2,_⟩ :=t0.pv;obtain⟨k3,e3,_⟩ :=t0.mv;exact kp x o z (fun q=>by rw[q,e1]at z;cases z;exact n _ rfl) (fun q=>by rw[q,e2]at z;cases z;exact n _ rfl) (fun q=>by rw[q,e3]at z;cases z;exact n _ rfl)
  have S9a:Ye H9 Ha:=⟨fun b xs z=>nd z (fun _ q=>nomatch q),fun b xs z=>nd z (fun _ q=>nomatch q)⟩;have lawA:=law9.mono S9a e9a;have S5a:Ye H5 Ha:=(Ye.of s59).trans S9a;have adA:∀y,y∈Jv cs->ad y∉st::A.all:=fun y hy m=>law9.there m (fa y hy)
  have out:∀x,(x=dc\/x=dp\/x=dm\/∃who,who∈Jv cs/\x=ad who)->x∉A.all:=fun x hx m=>by
   rcases hx with rfl|rfl|rfl|⟨y,hy,rfl⟩
   .exact ncA (.tail _ m)
   .exact npA (.tail _ m)
   .exact nmA (.tail _ m)
   .exact adA y hy (.tail _ m)
  have halA:=S5a.2 _ _ hal5;have qA:=S5a.2 _ _ q5;have hflA:=S5a.2 _ _ hfl5;have foA:=fo5.sameS S5a;have rpA:=YL.sameS S5a rp5;clear kp fa e9a nd S9a S5a t0 a0 law9 s59 u9 hnl nnl nl s58 cp cm pm c8 c7 c6 w8 w7 w6 hdm hdp hdc nA law0 hal5 q5 hfl5 fo5 rp5 nS H5 H6 H7 H8 H9;refine nz fun _ nz=>⟨al,_,rfl,.inl (SqL.of halA),_,rfl,by omega,by omega,?_⟩;rw[hul,Int.toNat_natCast]
  refine Jb1 (lo:=0) (fun i σ H2=>∃(c:Str->Int)(s:Str->Int->Int)(v8 v9 v10 v11 v12 v13 v14 v15:Option V),σ=[some (.ref a),some (.ref p),some (.ref al),some (.ref fl),some (.ref st),some (.ref dc),some (.ref dp),some (.ref dm),v8,v9,v10,v11,v12,v13,v14,v15,none]/\Ye Ha H2/\
    Law H2 st A (JA cs) ms (JeE ms Bk.new (DS.take i)) (3*i)/\Tri H2 dc dp dm ad (·∈Jv cs) (3+200*i) c (JeE ms Bk.new (DS.take i)).paid s/\Bal ms (JeE ms Bk.new (DS.take i)) c/\∀y,y∈Jv cs->∀m∈ms,s y m=(JeE ms Bk.new (DS.take i)).nets y m)
   ⟨_,_,_,_,_,_,_,_,_,_,rfl,⟨fun _ _ z=>z,fun _ _ z=>z⟩,lawA,T,Bal.new ms,fun _ _ _ _=>rfl⟩ ?_ ?_
  .rintro i σ H2 hi ⟨c,s,v8,v9,v10,v11,v12,v13,v14,v15,rfl,sS,hL,hT,hB,hs⟩;obtain⟨d,hd⟩:∃d,DS[i]?=some d:=⟨DS[i],A3 hi⟩;obtain⟨v,hv⟩:∃v,us[i]?=some v:=⟨us[i],A3 (by omega)⟩
   have htk:DS.take (i+1)=DS.take i++[d]:=by rw[B8,hd];rfl
   have hdr:Rep H2 (Jbi d) v:=Rep.sameS sS (rpA.get i v _ hv (by rw[Aq,hd];rfl));have hdm:=B9 hd;obtain⟨fv,hfv,frp⟩ :=foA.at_ i d hd;rw[htk];simp only[JmZ];generalize JeE ms Bk.new (DS.take i)=B at hL hT hB hs frp ⊢;obtain⟨b,r,rfl,ht⟩ :=JfA hdr;rw[show(0:Int)+(i:Int)=(i:Int) by omega];refine fun _ ny=>⟨al,_,_,_,rfl,rfl,SqL.of (sS.2 _ _ halA),Jh (j:=i) hv,?_⟩;refine ny fun _ ny=>⟨st,A,_,ms,B,d,_,rfl,hL.sta,hL.bk,hdr,(hall d hdm).1,fun H3 s3=>?_⟩;refine ny fun _ ny=>⟨st,A,_,ms,B,3*i,d,_,rfl,hL.same s3,by omega,Rep.same s3 hdr,(hall d hdm).1,fun r4 H4 k4 L4 x4=>?_⟩;have S4:Ye H2 H4:=(Ye.of s3).trans ((hL.same s3).sameS k4);have T4:Tri H4 dc dp dm ad (·∈Jv cs) (3+200*i) c B.paid s:=(hT.same s3).to fun x hx o z=>k4 x o z (out x hx);have ht4:=S4.1 _ _ ht;refine ny ⟨b,_,0,_,rfl,rfl,SqT.of ht4,Jh (j:=0) rfl,rfl,_,rfl,?_⟩;refine JT (fun h=>?_) (fun h=>?_)
   .refine⟨rfl,_,rfl,?_⟩;refine JT (fun h2=>fun _ nq=>?_) (fun h2=>?_)
    .obtain⟨who,week,rfl⟩ :=Jfv (JbR h)
     next=>
      have hno:Jdn B (.payday who week) = "":=JbR h2
      have ce:early B who week=false:=by
       cases ce:early B who week with
       | false=>rfl
       | true=>
        rw[show Jdn B (.payday who week) = "too early" from if_pos ce]at hno;exact absurd hno (by decide +kernel)
      have es:=Jj9 (ms:=ms) ce;have hw:who∈Jv cs:=(hall _ hdm).2;rw[es]at x4 frp L4;have L4:Law H4 st A (JA cs) ms (Jkc ms B who week) (3*i+3):=L4;have hsl:Rep H4 (Jl1 (mx 0 (rightS ms B who week-B.paid who)) (mn 0 (rightS ms B who week-B.paid who)) (Jaj ms B who week)) r4:=x4.1;have frp:Rep Ha (Jl1 (mx 0 (rightS ms B who week-B.paid who)) (mn 0 (rightS ms B who week-B.paid who)) (Jaj ms B who week)) fv:=frp;have S04:=sS.trans S4;have frp4:=Rep.sameS S04 frp;obtain⟨_,vs,e,ht5,_,_,rfl,rfl,_,_,rfl,rfl,_,_,rfl,rfl,rfl⟩ :=Rep.sameS S4 hdr;cases e
      have hlu:((Jaj ms B who week).map (·.1)).Pairwise (·<·):=by rw[Je2];exact JrL hms
      have hlz:∀p∈Jaj ms B who week,p.2≠0:=fun p hp=>by rw[Je2]at hp;exact(Jq0 hp).2.2
      have hln:=Nat.le_trans (Jlq ms B who week) hmf;have hsz:=Jnr (mx 0 (rightS ms B who week-B.paid who)) (mn 0 (rightS ms B who week-B.paid who)) (Jaj ms B who week);have htot:=hB.tot (who:=who) (week:=week);have hbal:=hB.pay (who:=who) (week:=week)
      have hat:∀m∈ms,(((Jaj ms B who week).filter fun p=>decide (p.1=m)).map (·.2)).sum=netS B who m week-B.nets who m:=fun m hm=>by rw[Je2];exact Jpc hmn hm
      have hpaid:(Jkc ms B who week).paid=Jfl B.paid who (B.paid who+mx 0 (rightS ms B who week-B.paid who)):=rfl;generalize hleft:rightS ms B who week-B.paid who=left at hsl frp4 htot hbal hsz hpaid;generalize Jaj ms B who week=lns at hsl frp4 hlu hlz hln hsz htot hat;obtain⟨ta,_,rfl,hta,_,_,rfl,rfl,_,_,rfl,rfl,_,_,rfl,⟨tl,zs,rfl,htl,hzs⟩,rfl⟩ :=hsl
      have hzl:zs.length=lns.length:=by rw[hzs.length,A2]
      have line:∀(i:Nat)(v:V),zs[i]?=some v->∃(q:Addr)(p:Int×Int),lns[i]?=some p/\v=.ref q/\H4 q=some (.tup [.int p.1,.int p.2]):=fun i v hv=>by
       have hi:i<lns.length:=hzl ▸ (A6.mp hv).1;obtain⟨q,ws,e,hq,_,_,rfl,rfl,_,_,rfl,rfl,rfl⟩ :=hzs.get i v _ hv (by rw[Aq,A3 hi];rfl);exact⟨q,_,A3 hi,e,hq⟩
      have tsl:Rep H4 (Jl1 (mx 0 left) (mn 0 left) lns) (.ref ta):=⟨ta,_,rfl,hta,_,_,rfl,rfl,_,_,rfl,rfl,_,_,rfl,⟨tl,zs,rfl,htl,hzs⟩,rfl⟩;have hfl4:=S04.2 _ _ hflA;refine⟨fl,_,_,_,rfl,rfl,SqL.of hfl4,Jh (j:=i) hfv,_,_,_,_,rfl,frp4,hlu,hlz,by omega,fun H5 s5=>⟨_,rfl,?_⟩⟩;refine JcM ?_;refine⟨fl,_,_,_,rfl,rfl,SqL.of (s5 _ _ hfl4),Jh (j:=i) hfv,_,_,_,rfl,Rep.same s5 frp4,Rep.same s5 tsl,by omega,fun H6 s6=>⟨_,rfl,?_⟩⟩;refine JcM ?_;refine nq fun _ nq=>?_;have s46:=s5.trans s6;refine⟨ta,_,2,_,rfl,rfl,SqT.of (s46 _ _ hta),Jh (j:=2) rfl,tl,rfl,⟨_,SqL.of (s46 _ _ htl)⟩,fun acc hacc=>?_⟩
      refine JcE (K:=K) (xs:=zs) (fun i ys σ' H'=>∃v0:Option V,σ'=[v0]/\JX H6 H'/\H' acc=some (.lst ys)/\ys=(lns.take i).map fun p=>V.int p.2)
       ⟨none,rfl,Je hacc,Ja,by simp⟩ (fun _ _ _ _ ⟨_,_,s1,_⟩ =>SqL.of (s1 _ _ (s46 _ _ htl))) ?_ ?_
      .rintro i v ys σ' H' hv ⟨v0,rfl,s1,hac,rfl⟩;obtain⟨q,p,hp,rfl,hq⟩ :=line i v hv;refine⟨Jy (by rw[A2,B7];omega),?_⟩;dsimp only[JcP,JeS];rw[if_pos rfl];refine⟨q,_,1,_,rfl,rfl,SqT.of (s1 _ _ (s46 _ _ hq)),Jh (j:=1) rfl,hac,?_⟩;refine⟨_,rfl,JR s1 hacc,Ja,?_⟩;rw[B8,hp,B4];rfl
      .rintro ys σ' H7 ⟨v0,rfl,s7,hac,rfl⟩;rw[hzl,List.take_length,show(lns.map fun p=>V.int p.2)=(lns.map (·.2)).map V.int by rw[List.map_map];rfl]at hac;refine⟨acc,_,rfl,SqL.of hac,?_⟩;have s47:=s46.trans s7;have T7:=T4.same s47;have L7:=L4.same s47;have hta7:=s47 _ _ hta;have htl7:=s47 _ _ htl;have ht7:=s47 _ _ ht5
       have line7:∀(i:Nat)(v:V),zs[i]?=some v->∃(q:Addr)(p:Int×Int),lns[i]?=some p/\v=.ref q/\H7 q=some (.tup [.int p.1,.int p.2]):=fun i v hv=>let ⟨q,p,e1,e2,e3⟩ :=line i v hv;⟨q,p,e1,e2,s47 _ _ e3⟩
       have S07:Ye Ha H7:=S04.trans (Ye.of s47);clear hac s47 s46 s7 s6 s5 hacc tsl frp4 frp hfl4 line;obtain⟨kc,ec,lc,rc⟩ :=T7.cv;refine nq fun _ nq=>⟨b,_,1,_,rfl,rfl,SqT.of ht7,Jh (j:=1) rfl,dc,.int (c who),rfl,by rw[<- rc who hw];exact Jbc.k (k:=A8 who) ec,ta,_,0,_,rfl,rfl,SqT.of hta7,Jh (j:=0) rfl,ta,_,1,_,rfl,rfl,SqT.of hta7,Jh (j:=1) rfl,rfl,_,rfl,?_⟩;refine Jhq (congrArg V.int htot) (nq fun _ nq=>?_);refine⟨ta,_,1,_,rfl,rfl,SqT.of hta7,Jh (j:=1) rfl,b,_,1,_,rfl,rfl,SqT.of ht7,Jh (j:=1) rfl,dc,_,rfl,Jei.k (k:=A8 who) ec (C9 (show _<=100000 by omega) (by decide)),?_⟩;have T8:=T7.putC TA ec who (mn 0 left);have L8:=L7.updD (o:=HO.dK (Yt kc (A8 who) (.int (mn 0 left)))) ec ncA;have S8:Ye H7 (upd H7 dc (.dK (Yt kc (A8 who) (.int (mn 0 left))))):=Ye.dict ec
       try dsimp only[rJ0,rJ]
       generalize upd H7 dc (.dK (Yt kc (A8 who) (.int (mn 0 left))))=H8 at T8 L8 S8 ⊢;refine nq fun _ nq=>?_;have hta8:=S8.1 _ _ hta7;have ht8:=S8.1 _ _ ht7;obtain⟨kq,eq,lq,rq⟩ :=T8.pv;refine⟨b,_,1,_,rfl,rfl,SqT.of ht8,Jh (j:=1) rfl,dp,.int (B.paid who),rfl,by rw[<- rq who hw];exact Jbc.k (k:=A8 who) eq,ta,_,0,_,rfl,rfl,SqT.of hta8,Jh (j:=0) rfl,b,_,1,_,rfl,rfl,SqT.of ht8,Jh (j:=1) rfl,dp,_,rfl,Jei.k (k:=A8 who) eq (C9 (show _<=100000 by omega) (by decide)),?_⟩;have T9:=T8.putP TA eq who (B.paid who+mx 0 left);have L9:=L8.updD (o:=HO.dK (Yt kq (A8 who) (.int (B.paid who+mx 0 left)))) eq npA;have S9:Ye H8 (upd H8 dp (.dK (Yt kq (A8 who) (.int (B.paid who+mx 0 left))))):=Ye.dict eq
       try dsimp only[rJ0,rJ]
       generalize upd H8 dp (.dK (Yt kq (A8 who) (.int (B.paid who+mx 0 left))))=H9 at T9 L9 S9 ⊢;refine nq ?_;have S79:=S8.trans S9;have S09:=S07.trans S79;have hta9:=S9.1 _ _ hta8;have ht9:=S9.1 _ _ ht8;have htl9:=S79.2 _ _ htl7;rw[<- hpaid]at T9;refine⟨ta,_,2,_,rfl,rfl,SqT.of hta9,Jh (j:=2) rfl,tl,rfl,⟨_,SqL.of htl9⟩,?_⟩
       refine JbO (K:=K) (xs:=zs) (fun j σ H'=>∃(s':Str->Int->Int)(w14 w15:Option V),σ=[some (.ref a),some (.ref p),some (.ref al),some (.ref fl),some (.ref st),some (.ref dc),some (.ref dp),some (.ref dm),v8,some (.int i),some (.ref b),some (.str (Jdn B (.payday who week))),some (.ref ta),some (.int (lns.map (·.2)).sum),w14,w15,none]/\Ye H9 H'/\
         Law H' st A (JA cs) ms (Jkc ms B who week) (3*i+3)/\Tri H' dc dp dm ad (·∈Jv cs) (3+200*i+1+1+j) (Jfl c who (mn 0 left)) (Jkc ms B who week).paid s'/\(∀y,y≠who->s' y=s y)/\∀m,s' who m=s who m+(((lns.take j).filter fun p=>decide (p.1=m)).map (·.2)).sum)
        ⟨s,_,_,rfl,⟨fun _ _ z=>z,fun _ _ z=>z⟩,L9,T9,fun _ _=>rfl,fun m=>by simp⟩ (fun _ _ _ _ ⟨_,_,_,_,s1,_⟩ =>SqL.of (s1.2 _ _ htl9)) ?_ ?_
       .rintro j v σ H' hv ⟨s',w14,w15,rfl,sS',L',T',ho,hm'⟩;obtain⟨q,pr,hpr,rfl,hq⟩ :=line7 j v hv
        have hj:j<18:=by have:=(A6.mp hv).1;omega
        have hq':=(S79.trans sS').1 _ _ hq;have hb':=sS'.1 _ _ ht9;obtain⟨km,em,lm,rm⟩ :=T'.mv;obtain⟨kv,ev,lv,rv⟩ :=T'.sv who hw;refine⟨q,_,rfl,SqT.of hq',rfl,_,_,rfl,_,_,rfl,rfl,?_⟩;refine⟨b,_,1,_,rfl,rfl,SqT.of hb',Jh (j:=1) rfl,dm,.ref (ad who),rfl,by rw[<- rm who hw];exact Jbc.k (k:=A8 who) em,ad who,rfl,.inl ⟨kv,.inl ev⟩,_,Jbc.k (k:=Az pr.1) ev,?_⟩;rw[rv pr.1];refine⟨b,_,1,_,rfl,rfl,SqT.of hb',Jh (j:=1) rfl,dm,.ref (ad who),rfl,by rw[<- rm who hw];exact Jbc.k (k:=A8 who) em,ad who,_,rfl,Jei.k (k:=Az pr.1) ev (C9 (show _<=100000 by omega) (by decide)),?_⟩;refine⟨_,_,_,rfl,sS'.trans (Ye.dict ev),L'.updD ev (adA who hw),T'.putS TA hw ev pr.1 (s' who pr.1+pr.2),fun y hy=>?_,fun m=>?_⟩
        .funext m;show(if y=who/\m=pr.1 then _ else s' y m)=s y m;rw[if_neg fun z=>hy z.1,ho y hy]
        .show(if who=who/\m=pr.1 then s' who pr.1+pr.2 else s' who m)=_;rw[B8,hpr,List.filter_append,B4,List.sum_append]
         by_cases z:m=pr.1
         .rw[if_pos ⟨rfl,z⟩,z,hm' pr.1];simp;omega
         .have z2:¬pr.1=m:=fun q=>z q.symm
          have f0:List.filter (fun p:Int×Int=>decide (p.1=m)) (some pr).toList=[]:=by
           show List.filter _ [pr]=[];rw[List.filter_cons,if_neg (by simpa using z2)];rfl
          rw[if_neg fun w=>z w.2,hm' m,f0];simp
       .rintro σ H' ⟨s',w14,w15,rfl,sS',L',T',ho,hm'⟩;rw[hzl,List.take_length]at hm';rw[es];refine⟨_,s',_,_,_,_,_,_,_,_,rfl,S09.trans sS',L'.le (by omega),T'.le (by omega),hbal,fun y hy m hm=>?_⟩
        by_cases z:y=who
        .subst z;rw[hm' m,hat m hm,hs y hy m hm];show _=(Jkc ms B y week).nets y m;rw[Jhv];omega
        .rw[ho y z,hs y hy m hm];show _=(if y=who then _ else B.nets y m);rw[if_neg z]
    .have hn:¬(nmD d = "payday"/\Jdn B d = ""):=fun z=>h2 (by rw[z.2];exact JgE);refine⟨c,s,_,_,_,_,_,_,_,_,rfl,sS.trans S4,L4.le (by omega),?_,hB.keep hn,?_⟩
     .rw[Jfh hn];exact T4.le (by omega)
     .rw[Jfw hn];exact hs
   .refine JcM ?_;have hn:¬(nmD d = "payday"/\Jdn B d = ""):=fun z=>h (by rw[z.1];exact JgE);refine⟨c,s,_,_,_,_,_,_,_,_,rfl,sS.trans S4,L4.le (by omega),?_,hB.keep hn,?_⟩
    .rw[Jfh hn];exact T4.le (by omega)
    .rw[Jfw hn];exact hs
  .rintro σ H2 ⟨c,s,v8,v9,v10,v11,v12,v13,v14,v15,rfl,sS,hL,hT,hB,hs⟩;rw[List.take_length]at hL hT hB hs;have hlb:Jb2 last (JeE ms Bk.new pre):=Jb2.all (Jb2.new _) fun who week m=>(ok6.ok _ m).2.2.2 who week rfl
   have hbk:JeE ms Bk.new DS=JeE ms (JeE ms Bk.new pre) (JbG last (Jv cs)):=by
    rw[<- hDS];unfold JeE;rw[List.foldl_append]
   obtain⟨n1,n2,_⟩ :=Jim (ms:=ms) (Jv cs) (JeE ms Bk.new pre) hlb;rw[<- hbk]at n1 n2;have hnet:∀who,who∈Jv cs->∀m,(JeE ms Bk.new DS).nets who m=netS (JeE ms Bk.new DS) who m last:=fun who hw m=>(n2 who hw m).trans (n1 who m last).symm;clear n1 n2 hbk hlb;generalize JeE ms Bk.new DS=B at hL hT hB hs hnet;refine nz fun _ nz=>⟨p,cs,rfl,SqL.of (sS.2 _ _ qA),fun nl H3 u3 nnl hnl=>⟨nl,rfl,⟨_,SqL.of hnl⟩,?_⟩⟩;have q3:=u3 _ _ (sS.2 _ _ qA);have L3:=hL.same u3;have T3:=hT.same u3
   refine JbO (K:=K) (xs:=(Jv cs).map V.str) (fun i σ H'=>∃v8 v9 v16:Option V,σ=[some (.ref a),some (.ref p),some (.ref al),some (.ref fl),some (.ref st),some (.ref dc),some (.ref dp),some (.ref dm),v8,v9,v10,v11,v12,v13,v14,v15,v16]/\JX H3 H')
    ⟨_,_,_,rfl,fun _ _ z=>z⟩ (fun _ _ _ _ ⟨_,_,_,_,s1⟩ =>SqL.of (s1 _ _ hnl)) ?_ ?_
   .rintro i x σ H' hx ⟨v8,v9,v16,rfl,s'⟩;rw[Aq]at hx;obtain⟨who,hw,rfl⟩ :=B1.mp hx;have hw:=B9 hw;have L':=L3.same s';obtain⟨kvs,e0,_,_,_,_,_,_,eb,em⟩ :=L'.sta.kvs;refine fun _ ny=>⟨st,.int (JA cs),rfl,by rw[<- eb];exact Jbc.k (k:=A8 "base") e0,Yj (by decide) (by decide),p,cs,rfl,SqL.of (s' _ _ q3),fun H4 u4=>⟨Yj (by decide) (by decide),?_⟩⟩;have L4:=L'.same u4;refine⟨st,A,_,ms,B,who,_,rfl,L4.sta,L4.bk,L4.ok,L4.few,fun rl H5 u5 nrl hrl=>?_⟩;rw[hla]at hrl;have s35:=s'.trans (u4.trans u5);have T5:=T3.same s35;have L5:=L3.same s35;have hrn:(ms.map fun m=>V.int (netS B who m last)).length=ms.length:=A2 _;refine ny fun _ ny=>⟨rl,_,rfl,.inl (SqL.of hrl),_,rfl,by rw[hrn];omega,by rw[hrn];omega,?_⟩;rw[hrn,Int.toNat_natCast];refine Jb1 (lo:=0) (fun j σ H'=>∃v9:Option V,σ=[some (.ref a),some (.ref p),some (.ref al),some (.ref fl),some (.ref st),some (.ref dc),some (.ref dp),some (.ref dm),some (.str who),v9,v10,v11,v12,v13,v14,v15,some (.ref rl)]/\H5=H') ⟨_,rfl,rfl⟩ ?_ ?_
    .rintro j σ _ hj ⟨v9,rfl,rfl⟩;rw[show(0:Int)+(j:Int)=(j:Int) by omega];have hm:ms[j]?=some ms[j]:=A3 hj;have hmem:=List.getElem_mem hj;generalize ms[j]=m at hm hmem;obtain⟨kvs,e0,_,_,_,_,_,_,eb,em⟩ :=L5.sta.kvs;obtain⟨km,ek,lm,rm⟩ :=T5.mv;obtain⟨kv,ev,lv,rv⟩ :=T5.sv who hw;refine⟨dm,.ref (ad who),rfl,by rw[<- rm who hw];exact Jbc.k (k:=A8 who) ek,ad who,rfl,.inl ⟨kv,.inl ev⟩,st,.ref A.months,rfl,by rw[<- em];exact Jbc.k (k:=A8 "months") e0,A.months,_,_,.int m,rfl,rfl,SqL.of L5.sta.months,Jh (j:=j) (by rw[Aq,hm];rfl),_,Jbc.k (k:=Az m) ev,?_⟩;rw[rv m];refine⟨rl,_,_,.int (netS B who m last),rfl,rfl,SqL.of hrl,Jh (j:=j) (by rw[Aq,hm];rfl),rfl,_,rfl,?_⟩;refine Jhq (by rw[hs who hw m hmem,hnet who hw m]) ?_;exact⟨_,rfl,rfl⟩
    .rintro σ _ ⟨v9,rfl,rfl⟩;obtain⟨kc,ec,lc,rc⟩ :=T5.cv;obtain⟨kq,eq,lq,rq⟩ :=T5.pv;refine ny ⟨dp,.int (B.paid who),rfl,by rw[<- rq who hw];exact Jbc.k (k:=A8 who) eq,dc,.int (c who),rfl,by rw[<- rc who hw];exact Jbc.k (k:=A8 who) ec,rl,ms.map fun m=>netS B who m last,rfl,SqL.of (by rw[hrl,List.map_map];rfl),rfl,_,rfl,?_⟩;refine Jhq (congrArg V.int ((hB who).trans (by rw[C7 fun m _=>hnet who hw m]))) ?_;exact⟨_,_,_,rfl,s35⟩
   .rintro σ H' ⟨v8,v9,v16,rfl,s'⟩;exact nz (k H')
end
end TLA
namespace TLA
open PySem PySem.Spec PyProof.Rows L2 Wb
abbrev An(K:WF)(x:Str)(v:Value):Prop:=PySem.W.nsIn K mainGlobals x=some (some v)
abbrev Fn(K:WF)(x:Str)(st:Stmt)(f:Addr):Prop:=An K x (.ref f)/\∃fd,Fun K x x st f fd
abbrev Mn(K:WF)(C:Addr)(x q:Str)(st:Stmt)(f:Addr):Prop:=(PySem.W.findIn K (.ref C) x=some (some (.ref f))/\PySem.W.isFn K (.ref f)=true)/\∃fd,Fun K x q st f fd
abbrev Xn(K:WF)(x:Str)(C:Addr):Prop:=An K x (.ref C)/\PySem.W.excIn K C [.type "ValueError",.type "Exception",.type "BaseException",.type "object"] "ValueError.__new__" = true
abbrev Cn(K:WF)(x:Str)(C:Addr):Prop:=An K x (.ref C)/\(PySem.W.plainGet K C Str.empty=true/\PySem.W.hasDictIn K C=true/\PySem.W.plainOver K C=true/\PySem.W.findIn K (.ref C) "__setattr__" = some (some (.builtin "object.__setattr__")))/\PySem.W.makesIn K C=true/\PySem.W.keepIn K (.ref C)=true
abbrev En(K:WF)(C D:Addr)(b:Bool):Prop:=PySem.W.exmOne K (.ref C) (.ref D)=some b
theorem cal{P:Program}{w:World}{K:WF}{mg:MO}{h base:Heap}{k:Nat}{f:Addr}{fd:FuncData}{ps:List Str}{sp:Sp}{x q:Str}{st:Stmt}(X:K.In h)(G:h.Ns mainGlobals mg)(a:An K x (.ref f))(F:Fun K x q st f fd)(o:YO P w K mg base CX0 k f fd ps sp)(b:Jdi K fd ps []):JI P w K mg base x ps sp k f fd:=⟨o,PySem.W.mg_of X G a,F.kp,b⟩
theorem Jsy{P:Program}{w:World}{K:WF}{mg:MO}{h base:Heap}{k:Nat}{f:Addr}{fd:FuncData}{ps:List Str}{sp:Sp}{x q:Str}{st:Stmt}(X:K.In h)(G:h.Ns mainGlobals mg)(a:An K x (.ref f))(F:Fun K x q st f fd)(o:YO P w K mg base (CXr P w) k f fd ps sp)(b:Jdi K fd ps []):JlF P w K mg base x ps sp k f fd:=⟨o,PySem.W.mg_of X G a,F.kp,b⟩
theorem met{P:Program}{w:World}{K:WF}{mg:MO}{base:Heap}{CX:CXT}{C:Addr}{k:Nat}{f:Addr}{fd:FuncData}{ps:List Str}{sp:Sp}{x q:Str}{st:Stmt}(a:PySem.W.findIn K (.ref C) x=some (some (.ref f))/\PySem.W.isFn K (.ref f)=true)(F:Fun K x q st f fd)(o:YO P w K mg base CX k f fd ps sp)(b:Jdi K fd ps []):JaF P w K mg base CX C x ps sp k f fd:=⟨o,⟨a.1,a.2,F.kp⟩,b⟩
theorem all_mk{l:PySem.W.OpenLaw}{w:World}{K:WF}{h:Heap}{mg:MO}{fa f1 f2 f3 f4 f5 f6 f7 f8 f9 f10 f11 f12 f13 f14 f15 f16 f17 f18 f19 f20 f21 f22 f23 f24 f25 f26 f27 f28 f29 f30 f31 f32 f33 f34 f35 f36 f37 f38 f39 f40 f41 f42 f43 f44 f45 f46 f47 f48 f49 f50 f51 f52 f53 f54 f55 f56 f57 f58 f59 CP CB CH CN CT:Addr}{gt0 gt1 gt2 gt3:Tok}(X:K.In h)(G:h.Ns mainGlobals mg)(hfa:mg "law" = some (.ref fa))
  (aCP:Cn K "Person" CP)
  (aCB:Cn K "Book" CB)
  (aCH:Xn K "NoHours" CH)
  (aCN:Xn K "NoTable" CN)
  (aCT:Xn K "TooEarly" CT)
  (eCHCH:En K CH CH true) (eCNCH:En K CN CH false) (eCTCH:En K CT CH false) (eCHCN:En K CH CN false) (eCNCN:En K CN CN true) (eCTCN:En K CT CN false) (eCHCT:En K CH CT false) (eCNCT:En K CN CT false) (eCTCT:En K CT CT true)
  (a1:Fn K "parts_of" JcZ f1)
  (a2:Fn K "worth" Jej f2)
  (a3:Fn K "relief_of" Jcn f3)
  (a4:Fn K "due_of" JeZ f4)
  (a5:Fn K "holding" Jb6 f5)
  (a6:Fn K "good_bands" JaB f6)
  (a7:Fn K "good_dues" Ja3 f7)
  (a8:Fn K "week_of" Jed f8)
  (a9:Fn K "month_of" Jdf f9)
  (a10:Fn K "pay_for" Jec f10)
  (a11:Fn K "net_for" JdI f11)
  (a12:Fn K "lines_between" JaQ f12)
  (a13:Mn K CP "__init__" "Person.__init__" Jbq f13)
  (a14:Mn K CP "set_hours" "Person.set_hours" Y3 f14)
  (a15:Mn K CP "hours_by_week" "Person.hours_by_week" Yr f15)
  (a16:Mn K CP "week_pay" "Person.week_pay" Y8 f16)
  (a17:Mn K CP "pays_by_month" "Person.pays_by_month" Yq f17)
  (a18:Mn K CP "nets_by_month" "Person.nets_by_month" Yp f18)
  (a19:Mn K CP "hold_payday" "Person.hold_payday" YE f19)
  (a20:Mn K CB "__init__" "Book.__init__" Jcp f20)
  (a21:Mn K CB "person_of" "Book.person_of" Jas f21)
  (a22:Mn K CB "tell_hours" "Book.tell_hours" Jaa f22)
  (a23:Mn K CB "tell_rate" "Book.tell_rate" Jar f23)
  (a24:Mn K CB "tell_dues" "Book.tell_dues" Jao f24)
  (a25:Mn K CB "hold_payday_of" "Book.hold_payday_of" Yy f25)
  (a26:Mn K CB "pay_of" "Book.pay_of" Jbn f26)
  (a27:Mn K CB "nets_of" "Book.nets_of" Jba f27)
  (a28:Mn K CB "net_of" "Book.net_of" Jbm f28)
  (a29:Mn K CB "right_of" "Book.right_of" JaY f29)
  (a30:Mn K CB "paid_to" "Book.paid_to" Jbb f30)
  (a31:Mn K CB "owing_to" "Book.owing_to" JaK f31)
  (a32:Fn K "asked" Jhr f32)
  (a33:Fn K "done" JjN f33)
  (a34:Fn K "answer" Je4 f34)
  (a35:Fn K "answers" JbZ f35)
  (a36:Fn K "_law_unturned" JbM f36)
  (a37:Fn K "_law_room" Je6 f37)
  (a38:Fn K "_law_whole" JdE f38)
  (a39:Fn K "_law_banded" Jbr f39)
  (a40:Fn K "_law_spoilt" Jde f40)
  (a41:Fn K "_law_people" Jc4 f41)
  (a42:Fn K "_law_so_far" Jc5 f42)
  (a43:Fn K "_law_first_month" JaZ f43)
  (a44:Fn K "_law_penned" Jc3 f44)
  (a45:Fn K "_law_written" Ja8 f45)
  (a46:Fn K "_law_value" JdL f46)
  (a47:Fn K "_law_owed" Je9 f47)
  (a48:Fn K "_law_can_be" Jbv f48)
  (a49:Fn K "_law_begun" JdO f49)
  (a50:Fn K "_law_holds" Jea f50)
  (a51:Fn K "_law_wages" Jd9 f51)
  (a52:Fn K "_law_net" JgS f52)
  (a53:Fn K "_law_all_nets" Jaz f53)
  (a54:Fn K "_law_refused" Jcm f54)
  (a55:Fn K "_law_paying" JcX f55)
  (a56:Fn K "_law_done" Jfa f56)
  (a57:Fn K "_law_is_slip" Ja4 f57)
  (a58:Fn K "_law_asking" Jbt f58)
  (a59:Fn K "law" JkN f59)
  (nCP0:Jal K CP "days") (nCP1:Jal K CP "paid") (nCP2:Jal K CP "last_week") (nCP3:Jal K CP "last_nets")
  (nCB0:Jal K CB "people") (nCB1:Jal K CB "rates") (nCB2:Jal K CB "dues")
  (gi0:An K "GREATEST_EACH_OF_DUES" (.int 100 gt0)) (gi1:An K "DAYS_OF_WEEK" (.int 7 gt1)) (gi2:An K "WEEKS_OF_MONTH" (.int 4 gt2)) (gi3:An K "HOURS_OF_DAY" (.int 24 gt3))
  (z1:PySem.W.nsIn K mainGlobals "len" = some none) (z2:PySem.W.nsIn K mainGlobals "isinstance" = some none) (z3:PySem.W.nsIn K mainGlobals "int" = some none) (z4:PySem.W.nsIn K mainGlobals "bool" = some none) (z5:PySem.W.nsIn K mainGlobals "list" = some none) (z6:PySem.W.nsIn K mainGlobals "tuple" = some none) (z7:PySem.W.nsIn K mainGlobals "range" = some none) (z8:PySem.W.nsIn K mainGlobals "str" = some none) (z9:PySem.W.nsIn K mainGlobals "sum" = some none) (z10:PySem.W.nsIn K mainGlobals "min" = some none) (z11:PySem.W.nsIn K mainGlobals "max" = some none) (z12:PySem.W.nsIn K mainGlobals "sorted" = some none) (z13:PySem.W.nsIn K mainGlobals "set" = some none) (z14:PySem.W.nsIn K mainGlobals "zip" = some none) (z15:PySem.W.nsIn K mainGlobals "all" = some none) (z16:PySem.W.nsIn K mainGlobals "any" = some none) :
  ∃fd:FuncData,(∀(s:Shared)(v:Value),BindsTo s fd ⟨[v],[]⟩ [("_law_script",v)])/\∀base:Heap,K.In base->base.Ns mainGlobals mg->YO l.prog w K mg base CX0 13 fa fd ["_law_script"] (Jnk K):=by
 obtain⟨a1,d1,F1⟩ :=a1;obtain⟨a2,d2,F2⟩ :=a2;obtain⟨a3,d3,F3⟩ :=a3;obtain⟨a4,d4,F4⟩ :=a4;obtain⟨a5,d5,F5⟩ :=a5;obtain⟨a6,d6,F6⟩ :=a6;obtain⟨a7,d7,F7⟩ :=a7;obtain⟨a8,d8,F8⟩ :=a8;obtain⟨a9,d9,F9⟩ :=a9;obtain⟨a10,d10,F10⟩ :=a10;obtain⟨a11,d11,F11⟩ :=a11;obtain⟨a12,d12,F12⟩ :=a12;obtain⟨a13,d13,F13⟩ :=a13;obtain⟨a14,d14,F14⟩ :=a14;obtain⟨a15,d15,F15⟩ :=a15;obtain⟨a16,d16,F16⟩ :=a16;obtain⟨a17,d17,F17⟩ :=a17;obtain⟨a18,d18,F18⟩ :=a18;obtain⟨a19,d19,F19⟩ :=a19;obtain⟨a20,d20,F20⟩ :=a20;obtain⟨a21,d21,F21⟩ :=a21;obtain⟨a22,d22,F22⟩ :=a22;obtain⟨a23,d23,F23⟩ :=a23;obtain⟨a24,d24,F24⟩ :=a24;obtain⟨a25,d25,F25⟩ :=a25;obtain⟨a26,d26,F26⟩ :=a26;obtain⟨a27,d27,F27⟩ :=a27;obtain⟨a28,d28,F28⟩ :=a28;obtain⟨a29,d29,F29⟩ :=a29;obtain⟨a30,d30,F30⟩ :=a30;obtain⟨a31,d31,F31⟩ :=a31;obtain⟨a32,d32,F32⟩ :=a32;obtain⟨a33,d33,F33⟩ :=a33;obtain⟨a34,d34,F34⟩ :=a34;obtain⟨a35,d35,F35⟩ :=a35;obtain⟨a36,d36,F36⟩ :=a36;obtain⟨a37,d37,F37⟩ :=a37;obtain⟨a38,d38,F38⟩ :=a38;obtain⟨a39,d39,F39⟩ :=a39;obtain⟨a40,d40,F40⟩ :=a40;obtain⟨a41,d41,F41⟩ :=a41;obtain⟨a42,d42,F42⟩ :=a42;obtain⟨a43,d43,F43⟩ :=a43;obtain⟨a44,d44,F44⟩ :=a44;obtain⟨a45,d45,F45⟩ :=a45;obtain⟨a46,d46,F46⟩ :=a46;obtain⟨a47,d47,F47⟩ :=a47;obtain⟨a48,d48,F48⟩ :=a48;obtain⟨a49,d49,F49⟩ :=a49;obtain⟨a50,d50,F50⟩ :=a50;obtain⟨a51,d51,F51⟩ :=a51;obtain⟨a52,d52,F52⟩ :=a52;obtain⟨a53,d53,F53⟩ :=a53;obtain⟨a54,d54,F54⟩ :=a54;obtain⟨a55,d55,F55⟩ :=a55;obtain⟨a56,d56,F56⟩ :=a56;obtain⟨a57,d57,F57⟩ :=a57;obtain⟨a58,d58,F58⟩ :=a58;obtain⟨a59,d59,F59⟩ :=a59;have e:=hfa.symm.trans (PySem.W.mg_of X G a59);cases e;have Z:Zs mg:=⟨PySem.W.mg_none_of X G z1,PySem.W.mg_none_of X G z2,PySem.W.mg_none_of X G z3,PySem.W.mg_none_of X G z4,PySem.W.mg_none_of X G z5,PySem.W.mg_none_of X G z6,PySem.W.mg_none_of X G z7,PySem.W.mg_none_of X G z8,PySem.W.mg_none_of X G z9,PySem.W.mg_none_of X G z10,PySem.W.mg_none_of X G z11,PySem.W.mg_none_of X G z12,PySem.W.mg_none_of X G z13,PySem.W.mg_none_of X G z14,PySem.W.mg_none_of X G z15,PySem.W.mg_none_of X G z16⟩;have GI:Gs mg:=⟨⟨_,PySem.W.mg_of X G gi0⟩,⟨_,PySem.W.mg_of X G gi1⟩,⟨_,PySem.W.mg_of X G gi2⟩,⟨_,PySem.W.mg_of X G gi3⟩⟩;have T:Txt K mg CB CP f20 f13:=⟨⟨aCP.2.1.1,aCP.2.1.2.1,aCP.2.1.2.2.1,aCP.2.1.2.2.2⟩,⟨aCB.2.1.1,aCB.2.1.2.1,aCB.2.1.2.2.1,aCB.2.1.2.2.2⟩,⟨aCP.2.2.1,a13.1,a13.2,aCP.2.2.2⟩,⟨aCB.2.2.1,a20.1,a20.2,aCB.2.2.2⟩,PySem.W.mg_of X G aCP.1,PySem.W.mg_of X G aCB.1,nCP0,nCP1,nCP2,nCP3,nCB0,nCB1,nCB2⟩;refine⟨d59,?_,fun base bX bG=>?_⟩
 .obtain⟨_,_,_,_,_,_,_,_,_,rfl,_⟩ :=F59.ex;exact fun s v=>.of_eq rfl
 have X_NoHours:=Exc.mk' (mg:=mg) bX bG aCH.1 aCH.2;have X_NoTable:=Exc.mk' (mg:=mg) bX bG aCN.1 aCN.2;have X_TooEarly:=Exc.mk' (mg:=mg) bX bG aCT.1 aCT.2;have Y_NoHours:Ys K mg "NoHours" CH CN CT:=⟨PySem.W.mg_of X G aCH.1,eCHCH,eCNCH,eCTCH⟩;have Y_NoTable:Ys K mg "NoTable" CN CH CT:=⟨PySem.W.mg_of X G aCN.1,eCNCN,eCHCN,eCTCN⟩;have Y_TooEarly:Ys K mg "TooEarly" CT CH CN:=⟨PySem.W.mg_of X G aCT.1,eCTCT,eCHCT,eCNCT⟩;have Jek:=cal (P:=l.prog) (w:=w) (base:=base) X G a1 F1 (Jn4 F1 Z) (F1.binds fun _ _ _ _ _ _ us hl=>by obtain⟨_,_,rfl⟩ :=JgF hl;rfl);have Jep:=cal (P:=l.prog) (w:=w) (base:=base) X G a2 F2 (JnB F2 Z Jek) (F2.binds fun _ _ _ _ _ _ us hl=>by obtain⟨_,_,rfl⟩ :=JgF hl;rfl);have Jdx:=cal (P:=l.prog) (w:=w) (base:=base) X G a3 F3 (JlV F3 Z) (F3.binds fun _ _ _ _ _ _ us hl=>by obtain⟨_,_,_,rfl⟩ :=Jge hl;rfl);have Jha:=cal (P:=l.prog) (w:=w) (base:=base) X G a4 F4 (Jqr F4 Z Jep Jdx) (F4.binds fun _ _ _ _ _ _ us hl=>by obtain⟨_,_,rfl⟩ :=JgF hl;rfl);have Jcb:=cal (P:=l.prog) (w:=w) (base:=base) X G a5 F5 (Jkw F5 Z) (F5.binds fun _ _ _ _ _ _ us hl=>by obtain⟨_,_,rfl⟩ :=JgF hl;rfl);have JaC:=cal (P:=l.prog) (w:=w) (base:=base) X G a6 F6 (Jg6 F6 Z) (F6.binds fun _ _ _ _ _ _ us hl=>by obtain⟨_,rfl⟩ :=JiK hl;rfl);have JdC:=cal (P:=l.prog) (w:=w) (base:=base) X G a7 F7 (Jiz F7 Z GI JaC) (F7.binds fun _ _ _ _ _ _ us hl=>by obtain⟨_,rfl⟩ :=JiK hl;rfl);have Jb8:=cal (P:=l.prog) (w:=w) (base:=base) X G a8 F8 (JkI F8 GI) (F8.binds fun _ _ _ _ _ _ us hl=>by obtain⟨_,rfl⟩ :=JiK hl;rfl);have Jbs:=cal (P:=l.prog) (w:=w) (base:=base) X G a9 F9 (Jjn F9 GI) (F9.binds fun _ _ _ _ _ _ us hl=>by obtain⟨_,rfl⟩ :=JiK hl;rfl);have Jb3:=cal (P:=l.prog) (w:=w) (base:=base) X G a10 F10 (JkG F10 Jcb Jep) (F10.binds fun _ _ _ _ _ _ us hl=>by obtain⟨_,_,_,rfl⟩ :=Jge hl;rfl);have Jfy:=cal (P:=l.prog) (w:=w) (base:=base) X G a11 F11 (JkQ F11 Jcb Jha) (F11.binds fun _ _ _ _ _ _ us hl=>by obtain⟨_,_,_,rfl⟩ :=Jge hl;rfl);have Jbz:=cal (P:=l.prog) (w:=w) (base:=base) X G a12 F12 (Jnm F12 Z) (F12.binds fun _ _ _ _ _ _ us hl=>by obtain⟨_,_,rfl⟩ :=JgF hl;rfl);have Jbp:=met (P:=l.prog) (w:=w) (mg:=mg) (base:=base) a13 F13 (Jf3 F13 T) (F13.binds fun _ _ _ _ _ _ us hl=>by obtain⟨_,rfl⟩ :=JiK hl;rfl);have Yv:=met (P:=l.prog) (w:=w) (mg:=mg) (base:=base) a14 F14 (JhU F14 T) (F14.binds fun _ _ _ _ _ _ us hl=>by obtain⟨_,_,_,rfl⟩ :=Jge hl;rfl);have JE:=met (P:=l.prog) (w:=w) (mg:=mg) (base:=base) a15 F15 (JeY F15 T Jb8) (F15.binds fun _ _ _ _ _ _ us hl=>by obtain⟨_,rfl⟩ :=JiK hl;rfl);have YH:=met (P:=l.prog) (w:=w) (mg:=mg) (base:=base) a16 F16 (Ji8 F16 T JE Jb3) (F16.binds fun _ _ _ _ _ _ us hl=>by obtain⟨_,_,_,rfl⟩ :=Jge hl;rfl);have J4:=met (P:=l.prog) (w:=w) (mg:=mg) (base:=base) a17 F17 (JeX F17 T JE Jb3 Jbs) (F17.binds fun _ _ _ _ _ _ us hl=>by obtain⟨_,_,_,rfl⟩ :=Jge hl;rfl);have JD:=met (P:=l.prog) (w:=w) (mg:=mg) (base:=base) a18 F18 (JeT F18 T J4 Jfy) (F18.binds fun _ _ _ _ _ _ us hl=>by obtain⟨_,_,_,_,rfl⟩ :=JqZ hl;rfl);have Yi:=met (P:=l.prog) (w:=w) (mg:=mg) (base:=base) a19 F19 (Jf9 F19 Z T X_TooEarly JD Jbz) (F19.binds fun _ _ _ _ _ _ us hl=>by obtain⟨_,_,_,_,rfl⟩ :=JqZ hl;rfl);have Jce:=met (P:=l.prog) (w:=w) (mg:=mg) (base:=base) a20 F20 (Jiv F20 T) (F20.binds fun _ _ _ _ _ _ us hl=>by obtain⟨_,rfl⟩ :=JiK hl;rfl);have Jm:=met (P:=l.prog) (w:=w) (mg:=mg) (base:=base) a21 F21 (Jh1 F21 T Jbp) (F21.binds fun _ _ _ _ _ _ us hl=>by obtain⟨_,_,rfl⟩ :=JgF hl;rfl);have J8:=met (P:=l.prog) (w:=w) (mg:=mg) (base:=base) a26 F26 (Jk8 F26 T Jm YH) (F26.binds fun _ _ _ _ _ _ us hl=>by obtain⟨_,_,_,rfl⟩ :=Jge hl;rfl);have JZ:=met (P:=l.prog) (w:=w) (mg:=mg) (base:=base) a27 F27 (Jkt F27 T Jm JD) (F27.binds fun _ _ _ _ _ _ us hl=>by obtain⟨_,_,_,rfl⟩ :=Jge hl;rfl);have JaL:=met (P:=l.prog) (w:=w) (mg:=mg) (base:=base) a28 F28 (Jlt F28 T JZ Jbs) (F28.binds fun _ _ _ _ _ _ us hl=>by obtain⟨_,_,_,rfl⟩ :=Jge hl;rfl);have JU:=met (P:=l.prog) (w:=w) (mg:=mg) (base:=base) a29 F29 (Ji4 F29 Z T JZ) (F29.binds fun _ _ _ _ _ _ us hl=>by obtain⟨_,_,_,rfl⟩ :=Jge hl;rfl);have JY:=met (P:=l.prog) (w:=w) (mg:=mg) (base:=base) a30 F30 (Jku F30 T Jm) (F30.binds fun _ _ _ _ _ _ us hl=>by obtain⟨_,_,rfl⟩ :=JgF hl;rfl);have Y5:=met (P:=l.prog) (w:=w) (mg:=mg) (base:=base) a31 F31 (Jjc F31 T JU JY) (F31.binds fun _ _ _ _ _ _ us hl=>by obtain⟨_,_,_,rfl⟩ :=Jge hl;rfl);have YJ:=met (P:=l.prog) (w:=w) (mg:=mg) (base:=base) a22 F22 (Jhh F22 GI T X_NoHours Jm Yv J8 Jb8) (F22.binds fun _ _ _ _ _ _ us hl=>by obtain⟨_,_,_,_,rfl⟩ :=JqZ hl;rfl);have YV:=met (P:=l.prog) (w:=w) (mg:=mg) (base:=base) a23 F23 (JhP F23 T X_NoTable JaC) (F23.binds fun _ _ _ _ _ _ us hl=>by obtain⟨_,_,_,rfl⟩ :=Jge hl;rfl);have YW:=met (P:=l.prog) (w:=w) (mg:=mg) (base:=base) a24 F24 (Jib F24 T X_NoTable JdC) (F24.binds fun _ _ _ _ _ _ us hl=>by obtain⟨_,_,_,rfl⟩ :=Jge hl;rfl);have Yb:=met (P:=l.prog) (w:=w) (mg:=mg) (base:=base) a25 F25 (Jer F25 T Jm Yi) (F25.binds fun _ _ _ _ _ _ us hl=>by obtain⟨_,_,_,rfl⟩ :=Jge hl;rfl);have Jjj:=cal (P:=l.prog) (w:=w) (base:=base) X G a32 F32 (Jnu F32 T J8 JaL JU Y5) (F32.binds fun _ _ _ _ _ _ us hl=>by obtain⟨_,_,_,_,rfl⟩ :=JqZ hl;rfl);have Jgz:=Jsy (P:=l.prog) (w:=w) (base:=base) X G a33 F33 (Jpn F33 T YJ YV YW Yb JY Jjj) (F33.binds fun _ _ _ _ _ _ us hl=>by obtain⟨_,_,rfl⟩ :=JgF hl;rfl);have Jhs:=cal (P:=l.prog) (w:=w) (base:=base) X G a34 F34 (JlG F34 Y_NoHours Y_NoTable Y_TooEarly Jgz) (F34.binds fun _ _ _ _ _ _ us hl=>by obtain⟨_,_,rfl⟩ :=JgF hl;rfl);have JfT:=cal (P:=l.prog) (w:=w) (base:=base) X G a35 F35 (JkB F35 T Jhs Jce) (F35.binds fun _ _ _ _ _ _ us hl=>by obtain⟨_,rfl⟩ :=JiK hl;rfl);have Jg3:=cal (P:=l.prog) (w:=w) (base:=base) X G a37 F37 (Jo0 F37 Z) (F37.binds fun _ _ _ _ _ _ us hl=>by obtain⟨_,_,_,rfl⟩ :=Jge hl;rfl);have Jb4:=cal (P:=l.prog) (w:=w) (base:=base) X G a38 F38 (JnU F38 Z) (F38.binds fun _ _ _ _ _ _ us hl=>by obtain⟨_,rfl⟩ :=JiK hl;rfl);have Jey:=cal (P:=l.prog) (w:=w) (base:=base) X G a39 F39 (Jl8 F39 Z) (F39.binds fun _ _ _ _ _ _ us hl=>by obtain⟨_,_,_,rfl⟩ :=Jge hl;rfl);have Jeu:=cal (P:=l.prog) (w:=w) (base:=base) X G a40 F40 (Jm2 F40) (F40.binds fun _ _ _ _ _ _ us hl=>by obtain⟨_,_,rfl⟩ :=JgF hl;rfl);have YY:=cal (P:=l.prog) (w:=w) (base:=base) X G a41 F41 (JlB F41 Z) (F41.binds fun _ _ _ _ _ _ us hl=>by obtain⟨_,rfl⟩ :=JiK hl;rfl);have J5:=cal (P:=l.prog) (w:=w) (base:=base) X G a42 F42 (Joh F42 Z) (F42.binds fun _ _ _ _ _ _ us hl=>by obtain⟨_,rfl⟩ :=JiK hl;rfl);have JN:=cal (P:=l.prog) (w:=w) (base:=base) X G a43 F43 (JnE F43 Z) (F43.binds fun _ _ _ _ _ _ us hl=>by obtain⟨_,rfl⟩ :=JiK hl;rfl);have Jel:=cal (P:=l.prog) (w:=w) (base:=base) X G a44 F44 (JmB F44 Z Jeu Jey J5 JN YY) (F44.binds fun _ _ _ _ _ _ us hl=>by obtain⟨_,_,rfl⟩ :=JgF hl;rfl);have JdB:=cal (P:=l.prog) (w:=w) (base:=base) X G a45 F45 (Jkn F45 Z Jel) (F45.binds fun _ _ _ _ _ _ us hl=>by obtain⟨_,rfl⟩ :=JiK hl;rfl);have Jb9:=cal (P:=l.prog) (w:=w) (base:=base) X G a46 F46 (Jnx F46 Z) (F46.binds fun _ _ _ _ _ _ us hl=>by obtain⟨_,_,rfl⟩ :=JgF hl;rfl);have JgZ:=cal (P:=l.prog) (w:=w) (base:=base) X G a47 F47 (Jo1 F47 Z Jb9) (F47.binds fun _ _ _ _ _ _ us hl=>by obtain⟨_,_,rfl⟩ :=JgF hl;rfl);have Jda:=cal (P:=l.prog) (w:=w) (base:=base) X G a48 F48 (Jn5 F48 Z) (F48.binds fun _ _ _ _ _ _ us hl=>by obtain⟨_,_,rfl⟩ :=JgF hl;rfl);have Jfe:=cal (P:=l.prog) (w:=w) (base:=base) X G a49 F49 (Jnv F49 Z JN J5) (F49.binds fun _ _ _ _ _ _ us hl=>by obtain⟨_,rfl⟩ :=JiK hl;rfl);have Jb0:=cal (P:=l.prog) (w:=w) (base:=base) X G a50 F50 (JnO F50 Z) (F50.binds fun _ _ _ _ _ _ us hl=>by obtain⟨_,_,rfl⟩ :=JgF hl;rfl);have JbC:=cal (P:=l.prog) (w:=w) (base:=base) X G a51 F51 (Jn7 F51 Z Jb0 Jb9) (F51.binds fun _ _ _ _ _ _ us hl=>by obtain⟨_,_,_,rfl⟩ :=Jge hl;rfl);have Jen:=cal (P:=l.prog) (w:=w) (base:=base) X G a52 F52 (Jri F52 Z Jb0 JbC JgZ) (F52.binds fun _ _ _ _ _ _ us hl=>by obtain⟨_,_,_,_,rfl⟩ :=JqZ hl;rfl);have Yz:=cal (P:=l.prog) (w:=w) (base:=base) X G a53 F53 (JkT F53 Z Jen) (F53.binds fun _ _ _ _ _ _ us hl=>by obtain⟨_,_,_,rfl⟩ :=Jge hl;rfl);have Ja7:=cal (P:=l.prog) (w:=w) (base:=base) X G a54 F54 (JkL F54 Jda) (F54.binds fun _ _ _ _ _ _ us hl=>by obtain⟨_,_,rfl⟩ :=JgF hl;rfl);have JeA:=cal (P:=l.prog) (w:=w) (base:=base) X G a55 F55 (Jk7 F55 Z Yz) (F55.binds fun _ _ _ _ _ _ us hl=>by obtain⟨_,_,_,rfl⟩ :=Jge hl;rfl);have Jht:=cal (P:=l.prog) (w:=w) (base:=base) X G a56 F56 (Jno F56 Z Ja7 JbC JeA Jen Yz) (F56.binds fun _ _ _ _ _ _ us hl=>by obtain⟨_,_,rfl⟩ :=JgF hl;rfl);have JcU:=cal (P:=l.prog) (w:=w) (base:=base) X G a36 F36 (Jjh F36 Z) (F36.binds fun _ _ _ _ _ _ us hl=>by obtain⟨_,_,rfl⟩ :=JgF hl;rfl);have Jdu:=cal (P:=l.prog) (w:=w) (base:=base) X G a57 F57 (JpR F57 Z Jb4) (F57.binds fun _ _ _ _ _ _ us hl=>by obtain⟨_,rfl⟩ :=JiK hl;rfl);have Jez:=cal (P:=l.prog) (w:=w) (base:=base) X G a58 F58 (JkM F58 Z JdB J5 JN YY) (F58.binds fun _ _ _ _ _ _ us hl=>by obtain⟨_,_,rfl⟩ :=JgF hl;rfl);exact Jrf F59 Z Jg3 Jez Jfe Ja7 Jht JfT Jdu J5 JcU Yz YY
theorem walk{l:PySem.W.OpenLaw}{q:Program}{loose:List Str}{XP:(MO)->Heap->Prop}{YP:World->Heap->Prop}{d:DefRec}{K:Params->WF}(hn:l.most=some 63)(hdf:d.params.defaults=[])
  (hY:∀(w:World)(h:Heap),YP w h->(K w.params).In h)
  (F:∀(w:World)(mg:MO)(fa:Addr)(h:Heap),(K w.params).In h->h.Ns mainGlobals mg->mg d.name=some (.ref fa)->
   ∃fd:FuncData,(∀(s:Shared)(u:Value),BindsTo s fd ⟨[u],[]⟩ [("_law_script",u)])/\∀base:Heap,(K w.params).In base->base.Ns mainGlobals mg->YO l.prog w (K w.params) mg base CX0 13 fa fd ["_law_script"] (Jnk (K w.params))) :
  PySem.W.WalkO q loose XP YP l.row.toRowW d [] (fun f vs=>PySem.call f vs):=
 L2.JpW (n:=63) (k:=13) (x:="_law_script") (CX:=fun _=>CX0) (sp:=fun w=>Jnk (K w.params)) hn (by decide) hdf ⟨rfl,by decide,by decide⟩ hY F (fun _ _ a ns hl _ hS=>⟨a,ns,rfl,hS,hl,fun _=>rfl⟩) fun _ _ _ _ _ z=>z
end TLA
open PySem PySem.W PyProof.Rows
set_option maxRecDepth 100000 in
set_option maxHeartbeats 0 in
theorem PySem.Challenge.cw_wagebook_k06_whole_paydays_explained_holds : PySem.Challenge.rw_wagebook_k06_whole_paydays_explained.Holds := by
 w_on;o_law
 have lf:PySem.W.LeftO PySem.Challenge.rw_wagebook_k06_whole_paydays_explained.row.prog TLA.vw [] TLA.Jso TLA.hk.obs TLA.hk.val 3193:=TLA.left
 refine holds_open (XP:=XL TLA.vw []) (YP:=PySem.W.InK TLA.myK) lf TLA.hk.of TLA.hk.keeps (fun s e=>xl_of s (Bool.and_eq_true_iff.mp e).1) XL.keeps
  rfl rfl rfl (fun s e=>recFacts_of (Bool.and_eq_true_iff.mp e).2) rfl ?k1 ?ok ⟨rfl,rfl,rfl,rfl,rfl,?b⟩ ?hw ?hc
 case k1=>first|assumption|decide +kernel
 case ok=>decide +kernel
 case b=>decide +kernel
 case hw=>w_witness2
 k_fill
 refine TLA.walk (l:=PySem.Challenge.rw_wagebook_k06_whole_paydays_explained) rfl rfl (fun w h Y=>Y) ?F
 case F=>
  intro w mg fa h KX G hmg;refine' TLA.all_mk KX G hmg ?aCP ?aCB ?aCH ?aCN ?aCT ?eCHCH ?eCNCH ?eCTCH ?eCHCN ?eCNCN ?eCTCN ?eCHCT ?eCNCT ?eCTCT ?a1 ?a2 ?a3 ?a4 ?a5 ?a6 ?a7 ?a8 ?a9 ?a10 ?a11 ?a12 ?a13 ?a14 ?a15 ?a16 ?a17 ?a18 ?a19 ?a20 ?a21 ?a22 ?a23 ?a24 ?a25 ?a26 ?a27 ?a28 ?a29 ?a30 ?a31 ?a32 ?a33 ?a34 ?a35 ?a36 ?a37 ?a38 ?a39 ?a40 ?a41 ?a42 ?a43 ?a44 ?a45 ?a46 ?a47 ?a48 ?a49 ?a50 ?a51 ?a52 ?a53 ?a54 ?a55 ?a56 ?a57 ?a58 ?a59 ?nCP0 ?nCP1 ?nCP2 ?nCP3 ?nCB0 ?nCB1 ?nCB2 ?gi0 ?gi1 ?gi2 ?gi3 ?z1 ?z2 ?z3 ?z4 ?z5 ?z6 ?z7 ?z8 ?z9 ?z10 ?z11 ?z12 ?z13 ?z14 ?z15 ?z16
  case aCP|aCB=>refine'⟨?a,⟨?pg,?hd,?po,?sa⟩,?mk,?kc⟩;(case a=>show _=_;k_is);(case pg=>show _=_;k_is);(case hd=>show _=_;k_is);(case po=>show _=_;k_is);(case sa=>show _=_;k_is);(case mk=>show _=_;k_is);(case kc=>show _=_;k_is)
  case aCH|aCN|aCT=>refine'⟨?a,?e⟩;(case a=>show _=_;k_is);(case e=>k_exc)
  case eCHCH|eCNCH|eCTCH|eCHCN|eCNCN|eCTCN|eCHCT|eCNCT|eCTCT=>show _=_;kts_exm
  case a1|a2|a3|a4|a5|a6|a7|a8|a9|a10|a11|a12|a32|a33|a34|a35|a36|a37|a38|a39|a40|a41|a42|a43|a44|a45|a46|a47|a48|a49|a50|a51|a52|a53|a54|a55|a56|a57|a58|a59=>refine'⟨?a,_,L2.JoG ?l ?c ?k⟩;(case a=>show _=_;k_is);(case l=>show _=_;k_is);(case c=>show _=_;k_is);(case k=>show _=_;k_is)
  case a13|a14|a15|a16|a17|a18|a19|a20|a21|a22|a23|a24|a25|a26|a27|a28|a29|a30|a31=>refine'⟨⟨?a,?i⟩,_,L2.JoG ?l ?c ?k⟩;(case a=>show _=_;k_is);(case i=>show _=_;k_is);(case l=>show _=_;k_is);(case c=>show _=_;k_is);(case k=>show _=_;k_is)
  case nCP0|nCP1|nCP2|nCP3|nCB0|nCB1|nCB2=>unfold L2.Jal;show _=_;k_is
  case gi0|gi1|gi2|gi3|z1|z2|z3|z4|z5|z6|z7|z8|z9|z10|z11|z12|z13|z14|z15|z16=>show _=_;k_is
