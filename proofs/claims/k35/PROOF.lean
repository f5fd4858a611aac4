import PyProof.Rows.All
import Wide.All
import OpenK.AllK
import Wide.FinOn
import Lean
import PyProof.EqAt
import PyProof.EqKinds
import PyProof.TupleCall
import PyProof.NeData
import PyProof.StrLawsChain
import KE.KSortTup
import KE.KRevSl
import KE.KMinKey
import PyProof.P3In
import KE.KRevIter
import KE.KDictSum
import PyProof.StrCalls6
import PyProof.ToksMono
import PyProof.ReprRoads
import PyProof.StrOps2
import KE.KDictLaws
import KE.KDictList
import PyProof.DictValues
import PyProof.TupleKey
import PyProof.IsRules
import PyProof.Rows.SetFrom
import PyProof.DictWalks
import PyProof.FactsAll.set_1
import PyProof.ReprText
import KE.KLam
import PyProof.ListStr
import PyProof.Rows.Range3
import PySem.Challenge.RW_loggather_k35_whole_equal_logs
set_option maxHeartbeats 8000000
abbrev Vz:=PySem.W.Frag
abbrev Vy:=PySem.Value
abbrev Vx:=PySem.Shared
def Vw:=@PySem.wpAny_bind
def Vv:=@PySem.wpAny_pure
def Vu:=@PySem.Heap.get?_push_of_some
def Vt:=@PySem.wpAny_mono
def Vs:=@PySem.wpAny_holding
open List renaming length_map→PQ,mem_of_getElem?→PU,getElem?_eq_getElem→PV,length_append→PX,mem_cons_of_mem→PY,mem_singleton→PZ,size_toArray→P1,take_of_length_le→P4,mem_cons_self→P5,getElem?_map→P7,length_singleton→P8,mem_map→P9,map_append→Qa,mem_append→Qc,getD_eq_getElem?_getD→Qf,length_take→Qg,length_cons→Qh,mem_cons→Qi,map_cons→Ql,take_add_one→Qn,mem_append_right→Qo,all_eq_true→Qs,getElem?_append_left→Qv,drop_eq_getElem_cons→Qw,getElem?_eq_none→Qx,mem_range→QA,getElem?_append_right→QB,eq_nil_of_length_eq_zero→QC,append_nil→QD,getElem_mem→QE,lookup_cons→QG,drop_of_length_le→QH,map_congr_left→QI,length_nil→QK,dropLast_concat_getLast→QL,any_cons→QM,map_eq_nil_iff→QN,getElem?_eq_some_iff→QP,length_range→QQ,sum_cons→QT,filter_append→QV,length_filter_le→QX,mem_filter→QY,pairwise_map→Q1,nodup_append→Q3,mem_of_mem_take→Q4,map_map→Q5,append_assoc→Q7,mem_map_of_mem→Q8,not_mem_nil→Ra,length_eq_zero_iff→Rb,countP_cons→Rc,getElem?_set_self→Rg,nodup_cons→Ri,find?_cons→Rj,take_append_drop→Rk,flatMap_cons→Rl,pairwise_append→Rm,mem_append_left→Rn,map_nil→Rr,length_drop→Rt,cons_append→Ru,mem_or_eq_of_mem_set→Rv,getElem?_zip_eq_some→Rw,getElem?_eq_none_iff→Rx,length_pos_iff→Ry,filterMap_cons→Rz,all_cons→RA,length_set→RC,zip_cons_cons→RE,length_replicate→RF,any_eq_true→RG,mem_iff_getElem→RI,getElem?_of_mem→RJ,drop_eq_nil_iff→RK,range_succ→RO,mem_filterMap→RS,length_eraseIdx_of_lt→RT,getElem?_drop→RU,drop_zero→RV,pairwise_iff_getElem→R0,getLast?_eq_getElem?→R1,exists_mem_of_ne_nil→R3,foldl_append→R5,ext_getElem?→R6,length_eraseIdx_le→R9,isEmpty_iff→Sb,getElem?_replicate→Sd,map_set→Si
open Nat renaming le_refl→PR,le_trans→P2,zero_le→Qb,ne_of_lt→Qj,lt_of_lt_of_le→Qm,lt_or_ge→Qz,lt_irrefl→QF,le_succ→QO,add_le_add_right→QZ,lt_trans→Ro,lt_succ_self→Rp,le_of_lt→Rq,min_eq_left→RN,ne_of_gt→RQ,lt_of_le_of_lt→RR,lt_succ_of_lt→R4,zero_add→Se,min_self→Sf,le_of_eq→Sg
open Bool renaming false_ne_true→P6,eq_false_iff→Qe,eq_iff_iff→Qp,and_eq_true→Qt,false_eq_true→Qu,and_false→QW,true_and→RB,and_eq_true_iff→RM,false_and→RW
open Array renaming length_toList→Qd,getElem?_eq_getElem→Qq,getElem?_toList→Qy,getElem?_eq_none→QR,getD_eq_getD_getElem?→QS,toList_inj→QU,toList_append→Q9,mem_append→RH,size_extract→RX,perm_iff_toList_perm→RY,append_assoc→RZ,size_append→R7,all_eq_true→R8
open Int renaming toNat_natCast→QJ,eq_ofNat_of_zero_le→Rf,emod_lt_of_pos→Rh,emod_nonneg→RD,le_refl→RL,toNat_of_nonneg→RP
set_option Elab.async false
set_option linter.all false
set_option autoImplicit false
set_option maxRecDepth 100000
namespace L2
open PySem PySem.W
section
variable {p:Program}{q:Program}{loose:List Str}{Xt:Vx->Bool}{α:Type}{Yf:Vx->α}{Ya:World->α}{N:Nat}{H₀:Params->Heap}{d₀:Drawn}{k₀ m₀:Nat}{ann:Option Vy}{env:Env}{c:Code}{qp:Pos}
def tp (p q:Program) (loose:List Str) (Xt:Vx->Bool) {α:Type} (Yf:Vx->α) (Ya:World->α) (H₀:Params->Heap) (m₀:Nat) (ann:Option Vy) (env:Env) (c:Code) (qp:Pos) (n:Nat) (l:List Stmt) (pos:Pos) (w:World) (s:Vx):Prop:=
 ∃ r,topRun treeTable p w m₀ ann n s (restOf l env c pos [topFrame qp])=some r/\(staticsOk (importedModules p.main.body) (H₀ w.params) r.heap && namesBound p r.heap && gensDone r && laidKept (H₀ w.params) r.heap)=true/\openSeen q loose (importedModules p.main.body) Xt true r=openGood q loose/\Yf r=Ya w
theorem Fw {n nF:Nat}{l:List Stmt}{pos:Pos}{w:World}{s:Vx}
  (h:(segRun treeTable p w m₀ ann 1 n s (piecesOf l env c pos [topFrame qp])).bind (λz=>(topRun treeTable p w m₀ ann nF z.2.1 ⟨doneF .next,c,z.2.2.2,[topFrame qp]⟩).map λr=>(z.1,z.2.2.1,(staticsOk (importedModules p.main.body) (H₀ w.params) r.heap && namesBound p r.heap && gensDone r && laidKept (H₀ w.params) r.heap),openSeen q loose (importedModules p.main.body) Xt true r,Yf r))=some (.next,c,true,openGood q loose,Ya w)) :
  tp p q loose Xt Yf Ya H₀ m₀ ann env c qp (n+nF) l pos w s:=by
 obtain ⟨⟨f,s',c',p'⟩,h1,h2⟩:=Option.bind_eq_some_iff.mp h;obtain ⟨r,h3,h4⟩:=Option.map_eq_some_iff.mp h2;simp only [Prod.mk.injEq] at h4;obtain ⟨e1,e2,e3,e4,e5⟩:=h4;have e1':f=Flow.next:=e1;have e2':c' = c:=e2;subst e1' e2';have:=piece_app (rest:=[]) h1 (piece_nil h3);rw [QD] at this;exact ⟨r,this,e3,e4,e5⟩
theorem t8 {n n':Nat}{l l' l2:List Stmt}{pos pos':Pos}{w:World}{s s':Vx} (h:segRun treeTable p w m₀ ann 1 n s (piecesOf l env c pos [topFrame qp])=some (.next,s',c,pos')) (hl:l++l' = l2) (t:tp p q loose Xt Yf Ya H₀ m₀ ann env c qp n' l' pos' w s'):tp p q loose Xt Yf Ya H₀ m₀ ann env c qp (n+n') l2 pos w s:=by
 obtain ⟨r,h1,h2⟩:=t;rw [<-hl];exact ⟨r,piece_app h h1,h2⟩
theorem AS (b:List Stmt) (a d:Nat):(b.drop a).take d++b.drop (a+d)=b.drop a:=by
 rw [<-List.drop_drop];exact Rk _ _
theorem ER {nP nB n1 n2:Nat}{b l1 l2:List Stmt}{Lm pos:Pos}{HM:Params->Heap}{dM:Drawn}{kM:Nat} (hc:c = .body b env) (hb:l1++l2=b)
  (Le:∀ w:World,(fencedOpening treeTable p w N).map (λs=>(s.heap,s.gens,s.drawn,s.toks))=some (H₀ w.params,Array.mk [],d₀,k₀))
  (size:∀ w:World,((H₀ w.params).isNs mainGlobals,(H₀ w.params).objs.size,(H₀ w.params).nsMap mainGlobals "__annotations__")=(true,m₀,ann))
  (h1:∀ (w:World) (os:OsState),(topGo treeTable p w m₀ ann nP ⟨H₀ w.params,Array.mk [],d₀,k₀,os⟩ (topStub p)).bind (λx=>(segRun treeTable p w m₀ ann 1 nB x.1 (blockOf b env c Lm [topFrame qp])).bind λy=>(segRun treeTable p w m₀ ann 1 n1 y.2.1 (piecesOf l1 env c y.2.2.2 [topFrame qp])).map λz=>(x.2,y.1,y.2.2.1,z))=some (⟨denote treeTable c,c,Lm,[topFrame qp]⟩,.next,c,(.next,⟨HM w.params,Array.mk [],dM,kM,os⟩,c,pos)))
  (h2:∀ (w:World) (os:OsState),tp p q loose Xt Yf Ya H₀ m₀ ann env c qp n2 l2 pos w ⟨HM w.params,Array.mk [],dM,kM,os⟩) (le:Nat.ble (nP+(nB+(n1+n2))) N=true):LeftO p q loose Xt Yf Ya N true:=λw=>by
 obtain ⟨⟨h,gs,d,k,os⟩,e,e'⟩:=Option.map_eq_some_iff.mp (Le w);obtain ⟨rfl,rfl,rfl,rfl⟩:h=H₀ w.params/\gs=Array.mk []/\d=d₀/\k=k₀:=by simpa using e'
 obtain ⟨z1,z2,z3⟩:_/\_/\_:=by simpa only [Prod.mk.injEq] using size w
 obtain ⟨⟨sa,ta⟩,a1,a2⟩:=Option.bind_eq_some_iff.mp (h1 w os);obtain ⟨⟨fb,sb,cb,pb⟩,b1,b2⟩:=Option.bind_eq_some_iff.mp a2;obtain ⟨⟨fz,sz,cz,pz⟩,c1,c2⟩:=Option.map_eq_some_iff.mp b2;simp only [Prod.mk.injEq] at c2;obtain ⟨t1,t2,t3,t4,t5,t6,t7⟩:=c2;subst t1 t2 t3 t4 t5 t6 t7;obtain ⟨r,g1,g2,g3,g4⟩:=h2 w os;have p1:=piece_app c1 g1;rw [hb] at p1;subst hc;have p2:=piece_block b1 p1;have p3:=go_top a1 p2;have p4:=topRun_mono (N - (nP+(nB+(n1+n2)))) _ _ _ _ p3;rw [show nP+(nB+(n1+n2))+(N - (nP+(nB+(n1+n2))))=N by have:=Nat.le_of_ble_eq_true le;lia] at p4;have t:topFrom treeTable p w N ⟨H₀ w.params,Array.mk [],d,k,os⟩=some r:=by
  unfold topFrom;dsimp only;rw [z1,z2,z3,p4];show (match staticsOk (importedModules p.main.body) (H₀ w.params) r.heap && namesBound p r.heap && gensDone r && laidKept (H₀ w.params) r.heap with | true=>some r | false=>none)=some r
  rw [g2]
 unfold openEnds;rw [e];show ((topFrom treeTable p w N ⟨H₀ w.params,Array.mk [],d,k,os⟩).map λs=>(openSeen q loose (importedModules p.main.body) Xt true s,Yf s))=_;rw [t];show some (openSeen q loose (importedModules p.main.body) Xt true r,Yf r)=_;rw [g3,g4]
end
end L2
namespace L2
open PySem
def cD (s:Stmt):Arguments:=match s with
 | .FunctionDef _ a _ _ _ _ _ _ _ _=>a
 | _=>{ posonlyargs:=[],args:=[],vararg:=none,kwonlyargs:=[],kw_defaults:=[],kwarg:=none,defaults:=[] }
def b7 (s:Stmt):List Stmt:=match s with
 | .FunctionDef _ _ b _ _ _ _ _ _ _=>b
 | _=>[]
def ak (s:Stmt):Scope:=match s with
 | .FunctionDef _ _ _ _ _ _ sc _ _ _=>sc
 | _=>{ kind:=.function,names:=[],isGenerator:=false,isCoroutine:=false }
end L2
namespace K35
open PySem L2
def top (i:Nat):Stmt:=PySem.Challenge.pw_loggather_k35_whole_equal_logs.main.body.getD i (.Pass ⟨0,0,0,0⟩)
def mIn (i j:Nat):Stmt:=match top i with
 | .ClassDef _ _ _ b _ _ _ _ _ _ _=>b.getD j (.Pass ⟨0,0,0,0⟩)
 | x=>x
def hqC (x:Str) (a:Nat) (L n:Int) (r:Nat) (d:Nat):Obj:=⟨.type "code",none,.fields #[.str x a,.str x (a+1),.str "/claim/cut.py" (a+2),.int L 0,.int n 0,.int 0 0,.int 0 0,.int 3 0,.ref r,.bool true,.int 181 0,.ref (r+1),.none,.ref (r+2),.ref (r+3),.ref (r+4),.int (Int.ofNat d) 0,.int L 0,.str "/claim/cut.py" (d+1)],#[]⟩
def hqD (x:Str) (a:Nat) (L n:Int) (r:Nat):Obj:=⟨.type "code",none,.fields #[.str x a,.str x (a+1),.str "/claim/cut.py" (a+2),.int L 0,.int n 0,.int 0 0,.int 0 0,.int 3 0,.ref r,.bool true,.int 181 0,.ref (r+1),.none,.none,.none,.ref (r+2),.int (Int.ofNat (a+3)) 0,.int L 0,.str "/claim/cut.py" (a+4)],#[]⟩
def hqU (l:List Vy):Obj:=⟨.type "tuple",none,.seq l.toArray 0,#[]⟩
def hqN:Obj:=⟨.none,none,.fields #[],#[]⟩
def hFz (i:Nat) (x:Str):Obj:=⟨.none,none,.func { name:=x,qualname:=x,params:=cD (top i),body:=.stmts (b7 (top i)),scope:=ak (top i),globals:=0,closure:=[],defaults:=.none,kwdefaults:=.none },#[]⟩
def hFd (i:Nat) (x:Str) (m:Vy) (c D:Nat):Obj:=⟨.type "function",none,.func { name:=x,qualname:=x,params:=cD (top i),body:=.stmts (b7 (top i)),scope:=ak (top i),globals:=3,closure:=[],defaults:=.ref D,kwdefaults:=.none,pyModule:=m,code:=.ref c },#[]⟩
def mFd (i j:Nat) (x q:Str) (g:Addr) (m c:Vy):FuncData:={ name:=x,qualname:=q,params:=cD (mIn i j),body:=.stmts (b7 (mIn i j)),scope:=ak (mIn i j),globals:=g,closure:=[],defaults:=.none,kwdefaults:=.none,pyModule:=m,code:=c }
def Kk (i j:Nat) (x q:Str) (g:Addr) (m c:Vy) (D:Nat):FuncData:={ name:=x,qualname:=q,params:=cD (mIn i j),body:=.stmts (b7 (mIn i j)),scope:=ak (mIn i j),globals:=g,closure:=[],defaults:=.ref D,kwdefaults:=.none,pyModule:=m,code:=c }
def hEn (P:Params) (x:Str) (t:Nat) (v:Vy):DictEntry:=⟨PyData.keyHash P x,.str x t,v⟩
def hqR (P:Params) (x:Str) (n k:Nat):=hEn P x n (.ref k)
def hqM (x y:Str) (a:Nat) (L n:Int) (r d:Nat):Obj:=⟨.type "code",none,.fields #[.str x a,.str y (a+1),.str "/claim/cut.py" (a+2),.int L 0,.int n 0,.int 0 0,.int 0 0,.int 3 0,.ref r,.bool true,.int 181 0,.ref (r+1),.none,.ref (r+2),.ref (r+3),.ref (r+4),.int (Int.ofNat d) 0,.int L 0,.str "/claim/cut.py" (d+1)],#[]⟩
def hqO (x y:Str) (a:Nat) (L n:Int) (r:Nat):Obj:=⟨.type "code",none,.fields #[.str x a,.str y (a+1),.str "/claim/cut.py" (a+2),.int L 0,.int n 0,.int 0 0,.int 0 0,.int 3 0,.ref r,.bool true,.int 181 0,.ref (r+1),.none,.none,.none,.ref (r+2),.int (Int.ofNat (a+3)) 0,.int L 0,.str "/claim/cut.py" (a+4)],#[]⟩
def hqB (x:Str) (a:Nat) (L:Int) (r:Nat):Obj:=⟨.type "code",none,.fields #[.str x a,.str x (a+1),.str "/claim/cut.py" (a+2),.int L 0,.int 0 0,.int 0 0,.int 0 0,.int 0 0,.ref r,.bool false,.int 181 0,.ref (r+1),.none,.none,.none,.none,.int (Int.ofNat (a+3)) 0,.int L 0,.str "/claim/cut.py" (a+4)],#[]⟩
def bW:Vy:=.str "loggather.logs" 552
def fW:Vy:=.str "loggather.patterns" 371
def g6:Vy:=.str "loggather.errors" 194
def mJ:Vy:=.str "loggather.gathering" 466
def qU:Vy:=.str "law_loggather_k35_whole_equal_logs" 814
def qK:Vy:=.str "loggather.words" 319
def Dn:Vy:=.str "loggather.falling" 531
def hqF (i j:Nat) (x q:Str) (m:Vy) (c:Nat):Obj:=⟨.type "function",none,.func (mFd i j x q 3 m (.ref c)),#[]⟩
def hqG (i j:Nat) (x q:Str):Obj:=⟨.none,none,.func (mFd i j x q 0 .none .none),#[]⟩
def hqW (a b:Nat) (m:Vy):Obj:=⟨.type "frame",none,.plain,#[some (.ref a),some (.ref 3),some (.ref b),none,some m,none,some (.ref 0)]⟩
def hqI (x:String) (a:Nat):Obj:=⟨.type "builtin_function_or_method",none,.fields #[.builtin x,.ref a],#[]⟩
def hqS (a:Nat):Obj:=⟨.type "super",none,.fields #[.ref a,.ref a,.ref a],#[]⟩
def hqE (x:Str) (b s n a c d:Nat):Obj:=⟨.type "type",none,.cls { name:=x,bases:=[.ref b],mro:=[.ref s,.ref b,.type "ValueError",.type "Exception",.type "BaseException",.type "object"],ns:=n,qualname:=x,hasDict:=true,slotNames:=[],subclasses:=[],abstract:=false,collection:=none,hasDel:=false },#[some (.ref a),none,some (.str x c),some (.str x d),some (.builtin "ValueError.__new__"),some (.bool true)]⟩
def Mt (P:Params):List DictEntry:=[hEn P "__doc__" 166 (.none),hEn P "__package__" 167 (.none),hEn P "__loader__" 168 (.builtin "__main__.__loader__#opaque"),hEn P "__spec__" 169 (.none),hqR P "__annotations__" 170 6,hqR P "__builtins__" 171 4,hEn P "__file__" 173 (.str "/claim/cut.py" 172),hEn P "__cached__" 174 (.none),hqR P "_wall" 193 21,hqR P "GatherError" 213 31,hqR P "NoJoin" 229 44,hqR P "NoLine" 245 56,hqR P "NoMoment" 270 75]
def MO (P:Params):List DictEntry:=Mt P++[hqR P "NoPattern" 286 87,hqR P "TooMany" 302 99,hqR P "NothingLeft" 318 111,hEn P "MOST_WORDS" 322 (.int 12 321),hEn P "FIGURES" 324 (.str "0123456789" 323),hEn P "SMALL_LETTERS" 326 (.str "abcdefghijklmnopqrstuvwxyz" 325),hEn P "WORD_SIGNS" 328 (.str "!\"#$&'()*+,-./0123456789:;<=>?@ABCDEFGHIJKLMNOPQRSTUVWXYZ[\\]^_`abcdefghijklmnopqrstuvwxyz{|}~" 327),hqR P "has_only" 336 120,hqR P "is_word" 343 127,hqR P "kind_of" 350 134,hqR P "words_of" 357 141,hqR P "is_line" 363 146,hqR P "word_key" 370 153,hEn P "MOST_PARTS" 374 (.int 12 373),hqR P "HOLE_KINDS" 378 154,hqR P "is_part" 385 161,hqR P "is_pattern" 391 166,hqR P "is_hole" 398 173,hqR P "part_takes" 406 180,hqR P "all_taken" 416 187,hqR P "fits" 424 194,hqR P "kind_of_hole_around" 432 201]
def Ms (P:Params):List DictEntry:=MO P++[hqR P "joined_part" 438 206,hqR P "joined" 444 211,hqR P "part_key" 453 218,hqR P "pattern_key" 459 223,hqR P "ordered" 465 228,hqR P "PLAIN_SIEVE" 470 229,hqR P "grouped" 481 236,hqR P "words_at" 487 241,hqR P "many_unlike_at" 495 248,hqR P "is_fit_to_part_at" 501 253,hqR P "place_to_part_at" 507 258,hqR P "parted" 518 265,hqR P "pattern_of_group" 524 270,hqR P "gathered" 530 276,hqR P "looseness_of_part" 539 283,hqR P "looseness" 545 288,hqR P "falls_under" 551 293,hEn P "MOST_LINES" 555 (.int 120 554),hEn P "MOST_BY_HAND" 557 (.int 12 556),hqR P "how_often" 566 300,hqR P "words_in_order" 572 305,hqR P "State" 610 327]
def Me (P:Params):List DictEntry:=Ms P++[hqR P "Log" 775 462]
def NH (P:Params):List DictEntry:=Me P++[hqR P "Desk" 813 490,hqR P "_law_deck" 823 501,hqR P "_law_pick" 833 508,hqR P "_law_kind" 839 513,hqR P "_law_word" 845 518,hqR P "_law_line" 851 523,hqR P "_law_lines" 857 528,hqR P "_law_pattern" 869 535,hqR P "_law_sieve" 876 542,hqR P "_law_made" 890 549,hqR P "_law_near" 896 554,hqR P "law" 916 561]
def Cq:List Vy:=[.int 1 0,.int 0 0,.ref 20,.int 5 0,.int 0 0,.ref 27,.int 7 0,.int 0 0,.ref 40,.int 9 0,.int 0 0,.ref 52,.int 11 0,.int 0 0,.ref 64]
def Ld:List Vy:=Cq++[.int 16 0,.int 0 0,.ref 83,.int 18 0,.int 0 0,.ref 95,.int 20 0,.int 0 0,.ref 107,.int 27 0,.int 0 0,.ref 119,.int 29 0,.int 0 0,.ref 126,.int 31 0,.int 0 0,.ref 133,.int 37 0,.int 0 0,.ref 140,.int 39 0,.int 0 0,.ref 145,.int 44 0,.int 0 0,.ref 152,.int 49 0,.int 0 0,.ref 160,.int 55 0,.int 0 0,.ref 165,.int 59 0,.int 0 0,.ref 172,.int 61 0,.int 0 0,.ref 179,.int 67 0,.int 0 0,.ref 186,.int 74 0,.int 0 0,.ref 193,.int 76 0,.int 0 0,.ref 200]
def My:List Vy:=Ld++[.int 81 0,.int 0 0,.ref 205,.int 88 0,.int 0 0,.ref 210,.int 95 0,.int 0 0,.ref 217,.int 100 0,.int 0 0,.ref 222,.int 102 0,.int 0 0,.ref 227,.int 106 0,.int 0 0,.ref 235,.int 111 0,.int 0 0,.ref 240,.int 113 0,.int 0 0,.ref 247,.int 115 0,.int 0 0,.ref 252,.int 120 0,.int 0 0,.ref 257,.int 123 0,.int 0 0,.ref 264,.int 131 0,.int 0 0,.ref 269,.int 133 0,.int 0 0,.ref 275,.int 140 0,.int 0 0,.ref 282,.int 144 0,.int 0 0,.ref 287,.int 146 0,.int 0 0,.ref 292,.int 152 0,.int 0 0,.ref 299,.int 157 0,.int 0 0,.ref 304,.int 160 0,.int 0 0,.ref 311]
def Nn:List Vy:=My++[.int 172 0,.int 0 0,.ref 337]
def hFn (i:Nat) (x:Str) (m:Vy) (c:Nat):Obj:=⟨.type "function",none,.func { name:=x,qualname:=x,params:=cD (top i),body:=.stmts (b7 (top i)),scope:=ak (top i),globals:=3,closure:=[],defaults:=.none,kwdefaults:=.none,pyModule:=m,code:=.ref c },#[]⟩
def hV:Program:={ PySem.Challenge.pw_loggather_k35_whole_equal_logs with main:={ PySem.Challenge.pw_loggather_k35_whole_equal_logs.main with body:=[0,2,3,4,5,6,7,8,10,11,12,13,14,15,16,17,18,19,21,22,23,24,25,26,27,28,29,30,31,32,33,34,36,37,38,39,40,41,42,43,46,47,48,50,51,52,53,54,55,57,59,60,61,62,63,64,65,66,67,68,69].map top } }
def hK (P:Params):Vz:=[(4,⟨.type "module",some 0,.plain,#[]⟩),
 (3,⟨.type "dict",none,.dict (hEn P "__name__" 165 qU::NH P).toArray 71,#[]⟩),
 (20,hqC "_wall" 187 1 1 15 191),
 (21,hFn 0 "_wall" (.str "__main__" 164) 20),
 (119,hqC "has_only" 329 27 2 114 334),
 (120,hFn 14 "has_only" qK 119),
 (126,hqC "is_word" 337 29 1 121 341),
 (127,hFn 15 "is_word" qK 126),
 (133,hqC "kind_of" 344 31 1 128 348),
 (134,hFn 16 "kind_of" qK 133),
 (140,hqC "words_of" 351 37 1 135 355),
 (141,hFn 17 "words_of" qK 140),
 (145,hqD "is_line" 358 39 1 142),
 (146,hFn 18 "is_line" qK 145),
 (152,hqC "word_key" 364 44 1 147 368),
 (153,hFn 19 "word_key" qK 152),
 (154,hqU [.str "number" 375,.str "name" 376,.str "any" 377]),
 (160,hqC "is_part" 379 49 1 155 383),
 (161,hFn 23 "is_part" fW 160),
 (165,hqD "is_pattern" 386 55 1 162),
 (166,hFn 24 "is_pattern" fW 165),
 (172,hqC "is_hole" 392 59 1 167 396),
 (173,hFn 25 "is_hole" fW 172),
 (179,hqC "part_takes" 399 61 2 174 404),
 (180,hFn 26 "part_takes" fW 179),
 (186,hqC "all_taken" 407 67 2 181 414),
 (187,hFn 27 "all_taken" fW 186),
 (193,hqC "fits" 417 74 2 188 422),
 (194,hFn 28 "fits" fW 193),
 (200,hqC "kind_of_hole_around" 425 76 1 195 430),
 (201,hFn 29 "kind_of_hole_around" fW 200),
 (205,hqD "joined_part" 433 81 1 202),
 (206,hFn 30 "joined_part" fW 205),
 (210,hqD "joined" 439 88 1 207),
 (211,hFn 31 "joined" fW 210),
 (217,hqC "part_key" 445 95 1 212 451),
 (218,hFn 32 "part_key" fW 217),
 (222,hqD "pattern_key" 454 100 1 219),
 (223,hFn 33 "pattern_key" fW 222),
 (227,hqD "ordered" 460 102 1 224),
 (228,hFn 34 "ordered" fW 227),
 (229,hqU [.int 3 468,.int 2 469]),
 (235,hqC "grouped" 471 106 2 230 479),
 (236,hFn 37 "grouped" mJ 235),
 (240,hqD "words_at" 482 111 2 237),
 (241,hFn 38 "words_at" mJ 240),
 (247,hqC "many_unlike_at" 488 113 2 242 493),
 (248,hFn 39 "many_unlike_at" mJ 247),
 (252,hqD "is_fit_to_part_at" 496 115 3 249),
 (253,hFn 40 "is_fit_to_part_at" mJ 252),
 (257,hqD "place_to_part_at" 502 120 2 254),
 (258,hFn 41 "place_to_part_at" mJ 257),
 (264,hqC "parted" 508 123 2 259 516),
 (265,hFn 42 "parted" mJ 264),
 (269,hqD "pattern_of_group" 519 131 1 266),
 (270,hFn 43 "pattern_of_group" mJ 269),
 (271,hqU [.ref 229]),
 (275,hqD "gathered" 525 133 2 272),
 (276,hFd 44 "gathered" mJ 275 271),
 (282,hqC "looseness_of_part" 533 140 1 277 537),
 (283,hFn 46 "looseness_of_part" Dn 282),
 (287,hqD "looseness" 540 144 1 284),
 (288,hFn 47 "looseness" Dn 287),
 (292,hqD "falls_under" 546 146 2 289),
 (293,hFn 48 "falls_under" Dn 292),
 (299,hqC "how_often" 558 152 1 294 564),
 (300,hFn 52 "how_often" bW 299),
 (304,hqD "words_in_order" 567 157 1 301),
 (305,hFn 53 "words_in_order" bW 304),
 (316,hqO "__init__" "State.__init__" 585 162 4 313),
 (317,hqF 54 0 "__init__" "State.__init__" bW 316),
 (326,⟨.type "dict",none,.dict #[hEn P "__module__" 580 bW,hEn P "__firstlineno__" 584 (.int 160 583),hqR P "__init__" 590 317,hqR P "fall_of" 598 324,hqR P "__static_attributes__" 603 325,hqR P "__dict__" 605 328,hqR P "__weakref__" 607 329,hEn P "__doc__" 608 (.none)] 4,#[]⟩),
 (327,⟨.type "type",none,.cls { name:= "State",bases:=[.type "object"],mro:=[.ref 327,.type "object"],ns:=326,qualname:= "State",hasDict:=true,slotNames:=[],subclasses:=[],abstract:=false,collection:=none,hasDel:=false },#[none,none,some (.str "State" 573),some (.str "State" 581),some (.builtin "object.__new__"),some (.bool true)]⟩),
 (339,hqU [.ref 229]),
 (345,hqM "__init__" "Log.__init__" 623 174 2 340 628),
 (346,⟨.type "function",none,.func (Kk 55 0 "__init__" "Log.__init__" 3 bW (.ref 345) 339),#[]⟩),
 (352,hqM "__len__" "Log.__len__" 631 181 1 347 635),
 (353,hqF 55 1 "__len__" "Log.__len__" bW 352),
 (359,hqM "__eq__" "Log.__eq__" 638 184 2 354 643),
 (360,hqF 55 2 "__eq__" "Log.__eq__" bW 359),
 (366,hqM "held" "Log.held" 646 189 1 361 650),
 (367,hqF 55 3 "held" "Log.held" bW 366),
 (373,hqM "rows_with_falls" "Log.rows_with_falls" 653 192 1 368 657),
 (374,hqF 55 4 "rows_with_falls" "Log.rows_with_falls" bW 373),
 (380,hqM "turn_to" "Log.turn_to" 660 195 2 375 667),
 (381,hqF 55 5 "turn_to" "Log.turn_to" bW 380),
 (387,hqM "do_deed" "Log.do_deed" 670 200 3 382 676),
 (388,hqF 55 6 "do_deed" "Log.do_deed" bW 387),
 (394,hqM "come" "Log.come" 679 205 3 389 686),
 (395,hqF 55 7 "come" "Log.come" bW 394),
 (401,hqM "put" "Log.put" 689 216 2 396 695),
 (402,hqF 55 8 "put" "Log.put" bW 401),
 (413,hqM "back" "Log.back" 704 230 1 408 708),
 (414,hqF 55 10 "back" "Log.back" bW 413),
 (420,hqM "again" "Log.again" 711 236 1 415 715),
 (421,hqF 55 11 "again" "Log.again" bW 420),
 (432,hqO "patterns" "Log.patterns" 725 245 1 429),
 (433,hqF 55 13 "patterns" "Log.patterns" bW 432),
 (439,hqM "under" "Log.under" 731 248 2 434 736),
 (440,hqF 55 14 "under" "Log.under" bW 439),
 (453,hqM "counts" "Log.counts" 747 254 3 448 753),
 (454,hqF 55 16 "counts" "Log.counts" bW 453),
 (458,hqO "holes" "Log.holes" 756 257 2 455),
 (459,hqF 55 17 "holes" "Log.holes" bW 458),
 (461,⟨.type "dict",none,.dict #[hEn P "__module__" 618 bW,hEn P "__firstlineno__" 622 (.int 172 621),hqR P "__init__" 630 346,hqR P "__len__" 637 353,hqR P "__eq__" 645 360,hqR P "held" 652 367,hqR P "rows_with_falls" 659 374,hqR P "turn_to" 669 381,hqR P "do_deed" 678 388,hqR P "come" 688 395,hqR P "put" 697 402,hqR P "take" 703 407,hqR P "back" 710 414,hqR P "again" 717 421,hqR P "moves" 724 428,hqR P "patterns" 730 433,hqR P "under" 738 440,hqR P "would_fall" 746 447,hqR P "counts" 755 454,hqR P "holes" 761 459,hqR P "__static_attributes__" 767 460,hqR P "__dict__" 769 463,hqR P "__weakref__" 771 464,hEn P "__doc__" 772 (.none),hEn P "__hash__" 773 (.none)] 5,#[]⟩),
 (462,⟨.type "type",none,.cls { name:= "Log",bases:=[.type "object"],mro:=[.ref 462,.type "object"],ns:=461,qualname:= "Log",hasDict:=true,slotNames:=[],subclasses:=[],abstract:=false,collection:=none,hasDel:=false },#[none,none,some (.str "Log" 611),some (.str "Log" 619),some (.builtin "object.__new__"),some (.bool true)]⟩),
 (479,hqM "__init__" "Desk.__init__" 790 266 1 474 794),
 (480,⟨.type "function",none,.func (mFd 57 0 "__init__" "Desk.__init__" 3 (.str "loggather.desk" 776) (.ref 479)),#[]⟩),
 (489,⟨.type "dict",none,.dict #[hEn P "__module__" 785 (.str "loggather.desk" 776),hEn P "__firstlineno__" 789 (.int 264 788),hqR P "__init__" 796 480,hqR P "say" 804 487,hqR P "__static_attributes__" 806 488,hqR P "__dict__" 808 491,hqR P "__weakref__" 810 492,hEn P "__doc__" 811 (.none)] 4,#[]⟩),
 (490,⟨.type "type",none,.cls { name:= "Desk",bases:=[.type "object"],mro:=[.ref 490,.type "object"],ns:=489,qualname:= "Desk",hasDict:=true,slotNames:=[],subclasses:=[],abstract:=false,collection:=none,hasDel:=false },#[none,none,some (.str "Desk" 778),some (.str "Desk" 786),some (.builtin "object.__new__"),some (.bool true)]⟩),
 (500,hqC "_law_deck" 816 272 2 495 821),
 (501,hFn 59 "_law_deck" qU 500),
 (507,hqC "_law_pick" 824 276 2 502 831),
 (508,hFn 60 "_law_pick" qU 507),
 (512,hqD "_law_kind" 834 287 1 509),
 (513,hFn 61 "_law_kind" qU 512),
 (517,hqD "_law_word" 840 292 1 514),
 (518,hFn 62 "_law_word" qU 517),
 (522,hqD "_law_line" 846 302 2 519),
 (523,hFn 63 "_law_line" qU 522),
 (527,hqD "_law_lines" 852 304 2 524),
 (528,hFn 64 "_law_lines" qU 527),
 (534,hqC "_law_pattern" 858 315 2 529 867),
 (535,hFn 65 "_law_pattern" qU 534),
 (541,hqC "_law_sieve" 870 327 1 536 874),
 (542,hFn 66 "_law_sieve" qU 541),
 (548,hqC "_law_made" 877 329 4 543 888),
 (549,hFn 67 "_law_made" qU 548),
 (553,hqD "_law_near" 891 343 4 550),
 (554,hFn 68 "_law_near" qU 553),
 (560,hqC "law" 897 362 1 555 914),
 (561,hFn 69 "law" qU 560)]
def hLo:List Str:=[("gathered" : Str),("Log" : Str)]
def hH:PySem.W.Hook:=PySem.W.kmHook hK [4,3,20,21,119,120,126,127,133,134,140,141,145,146,152,153,154,160,161,165,166,172,173,179,180,186,187,193,194,200,201,205,206,210,211,217,218,222,223,227,228,229,235,236,240,241,247,248,252,253,257,258,264,265,269,270,271,275,276,282,283,287,288,292,293,299,300,304,305,316,317,326,327,339,345,346,352,353,359,360,366,367,373,374,380,381,387,388,394,395,401,402,413,414,420,421,432,433,439,440,453,454,458,459,461,462,479,480,489,490,500,501,507,508,512,513,517,518,522,523,527,528,534,535,541,542,548,549,553,554,560,561] (λ_=>by kernel_rfl) [255]
def hX (s:Vx):Bool:=PySem.W.xlAt hV [] s && PySem.W.recOk (PySem.W.RowW.records (PySem.W.OpenRow.toRowW (PySem.W.OpenLaw.row PySem.Challenge.rw_loggather_k35_whole_equal_logs))) s
noncomputable def mS0 (P:Params):List Obj:=[PySem.W.boot_o_0 P,PySem.W.boot_o_1 P,PySem.W.boot_o_2 P]
noncomputable def mS4 (P:Params):List Obj:=[PySem.W.boot_o_4 P,PySem.W.boot_o_5 P,PySem.W.boot_o_6 P,PySem.W.boot_o_7 P,PySem.W.boot_o_8 P,PySem.W.boot_o_9 P,PySem.W.boot_o_10 P,hqU []]
noncomputable def GV (P:Params):List Obj:=[hqB "<module>" 182 1 11,⟨.type "frame",none,.plain,#[some (.ref 13),some (.ref 3),some (.ref 3),none,some (.str "__main__" 164),none,some (.ref 0)]⟩,hqU [],hqN,hqU [.str "k" 190],hqU [],hFz 0 "_wall",hqC "_wall" 187 1 1 15 191,hFn 0 "_wall" (.str "__main__" 164) 20,hqU [.type "ValueError"],⟨.type "builtin_function_or_method",none,.fields #[.builtin "type.__prepare__",.type "type"],#[]⟩,⟨.type "dict",none,.dict #[hEn P "__module__" 203 g6,hEn P "__qualname__" 205 (.str "GatherError" 204),hEn P "__firstlineno__" 207 (.int 5 206),hqR P "__static_attributes__" 208 29] 4,#[]⟩,hqU [],hqN,hqB "GatherError" 198 5 25,hqW 27 24 g6,hqU [],⟨.type "dict",none,.dict #[hEn P "__module__" 203 g6,hEn P "__firstlineno__" 207 (.int 5 206),hqR P "__static_attributes__" 208 29,hqR P "__weakref__" 210 32,hEn P "__doc__" 211 (.none)] 3,#[]⟩]
noncomputable def GB (P:Params):List Obj:=[⟨.type "getset_descriptor",none,.fields #[.str "__weakref__" 209,.ref 31,.builtin "ExceptionGroup.__weakref__",.none],#[]⟩,hqS 31,hqI "object.__init_subclass__" 31,hqU [.ref 31],⟨.type "builtin_function_or_method",none,.fields #[.builtin "type.__prepare__",.type "type"],#[]⟩,⟨.type "dict",none,.dict #[hEn P "__module__" 221 g6,hEn P "__qualname__" 223 (.str "NoJoin" 222),hEn P "__firstlineno__" 225 (.int 7 224),hqR P "__static_attributes__" 226 42] 4,#[]⟩,hqU [],hqN,hqB "NoJoin" 216 7 38,hqW 40 37 g6,hqU [],⟨.type "dict",none,.dict #[hEn P "__module__" 221 g6,hEn P "__firstlineno__" 225 (.int 7 224),hqR P "__static_attributes__" 226 42,hEn P "__doc__" 227 (.none)] 2,#[]⟩,hqE "NoJoin" 31 44 43 35 214 222,hqS 44,hqI "object.__init_subclass__" 44,hqU [.ref 31],⟨.type "builtin_function_or_method",none,.fields #[.builtin "type.__prepare__",.type "type"],#[]⟩,⟨.type "dict",none,.dict #[hEn P "__module__" 237 g6,hEn P "__qualname__" 239 (.str "NoLine" 238),hEn P "__firstlineno__" 241 (.int 9 240),hqR P "__static_attributes__" 242 54] 4,#[]⟩,hqU [],hqN,hqB "NoLine" 232 9 50,hqW 52 49 g6,hqU [],⟨.type "dict",none,.dict #[hEn P "__module__" 237 g6,hEn P "__firstlineno__" 241 (.int 9 240),hqR P "__static_attributes__" 242 54,hEn P "__doc__" 243 (.none)] 2,#[]⟩,hqE "NoLine" 31 56 55 47 230 238,hqS 56,hqI "object.__init_subclass__" 56,hqU [.ref 31],⟨.type "builtin_function_or_method",none,.fields #[.builtin "type.__prepare__",.type "type"],#[]⟩,⟨.type "dict",none,.dict #[hEn P "__module__" 253 g6,hEn P "__qualname__" 255 (.str "NoMoment" 254),hEn P "__firstlineno__" 257 (.int 11 256),hqR P "__init__" 265 72,hqR P "__static_attributes__" 267 73] 5,#[]⟩,hqU [],⟨.none,none,.fields #[.int 13 0,.int 4 0,.ref 71],#[]⟩,hqB "NoMoment" 248 11 62,hqW 64 61 g6,hqU [],hqN,hqU [.str "self" 261,.str "last" 262],hqU [],hqG 5 0 "__init__" "NoMoment.__init__",hqM "__init__" "NoMoment.__init__" 258 13 2 66 263,hqF 5 0 "__init__" "NoMoment.__init__" g6 71,hqU [.str "last" 266],⟨.type "dict",none,.dict #[hEn P "__module__" 253 g6,hEn P "__firstlineno__" 257 (.int 11 256),hqR P "__init__" 265 72,hqR P "__static_attributes__" 267 73,hEn P "__doc__" 268 (.none)] 2,#[]⟩,hqE "NoMoment" 31 75 74 59 246 254,hqS 75,hqI "object.__init_subclass__" 75]
noncomputable def J9 (P:Params):List Obj:=[hqU [.ref 31],⟨.type "builtin_function_or_method",none,.fields #[.builtin "type.__prepare__",.type "type"],#[]⟩,⟨.type "dict",none,.dict #[hEn P "__module__" 278 g6,hEn P "__qualname__" 280 (.str "NoPattern" 279),hEn P "__firstlineno__" 282 (.int 16 281),hqR P "__static_attributes__" 283 85] 4,#[]⟩,hqU [],hqN,hqB "NoPattern" 273 16 81,hqW 83 80 g6,hqU [],⟨.type "dict",none,.dict #[hEn P "__module__" 278 g6,hEn P "__firstlineno__" 282 (.int 16 281),hqR P "__static_attributes__" 283 85,hEn P "__doc__" 284 (.none)] 2,#[]⟩,hqE "NoPattern" 31 87 86 78 271 279,hqS 87,hqI "object.__init_subclass__" 87,hqU [.ref 31],⟨.type "builtin_function_or_method",none,.fields #[.builtin "type.__prepare__",.type "type"],#[]⟩,⟨.type "dict",none,.dict #[hEn P "__module__" 294 g6,hEn P "__qualname__" 296 (.str "TooMany" 295),hEn P "__firstlineno__" 298 (.int 18 297),hqR P "__static_attributes__" 299 97] 4,#[]⟩,hqU [],hqN,hqB "TooMany" 289 18 93,hqW 95 92 g6,hqU [],⟨.type "dict",none,.dict #[hEn P "__module__" 294 g6,hEn P "__firstlineno__" 298 (.int 18 297),hqR P "__static_attributes__" 299 97,hEn P "__doc__" 300 (.none)] 2,#[]⟩,hqE "TooMany" 31 99 98 90 287 295,hqS 99,hqI "object.__init_subclass__" 99,hqU [.ref 31],⟨.type "builtin_function_or_method",none,.fields #[.builtin "type.__prepare__",.type "type"],#[]⟩,⟨.type "dict",none,.dict #[hEn P "__module__" 310 g6,hEn P "__qualname__" 312 (.str "NothingLeft" 311),hEn P "__firstlineno__" 314 (.int 20 313),hqR P "__static_attributes__" 315 109] 4,#[]⟩,hqU [],hqN,hqB "NothingLeft" 305 20 105,hqW 107 104 g6,hqU [],⟨.type "dict",none,.dict #[hEn P "__module__" 310 g6,hEn P "__firstlineno__" 314 (.int 20 313),hqR P "__static_attributes__" 315 109,hEn P "__doc__" 316 (.none)] 2,#[]⟩,hqE "NothingLeft" 31 111 110 102 303 311,hqS 111,hqI "object.__init_subclass__" 111,hqU [],hqN,hqU [.str "text" 332,.str "signs" 333],hqU [],hFz 14 "has_only",hqC "has_only" 329 27 2 114 334,hFn 14 "has_only" qK 119,hqU [],hqN,hqU [.str "thing" 340],hqU [],hFz 15 "is_word",hqC "is_word" 337 29 1 121 341,hFn 15 "is_word" qK 126,hqU [],hqN,hqU [.str "word" 347],hqU [],hFz 16 "kind_of",hqC "kind_of" 344 31 1 128 348,hFn 16 "kind_of" qK 133,hqU [],hqN,hqU [.str "line" 354],hqU [],hFz 17 "words_of",hqC "words_of" 351 37 1 135 355,hFn 17 "words_of" qK 140,hqU [],hqN,hFz 18 "is_line",hqD "is_line" 358 39 1 142,hFn 18 "is_line" qK 145,hqU [],hqN,hqU [.str "word" 367],hqU [],hFz 19 "word_key",hqC "word_key" 364 44 1 147 368,hFn 19 "word_key" qK 152,hqU [.str "number" 375,.str "name" 376,.str "any" 377],hqU [],hqN,hqU [.str "thing" 382],hqU [],hFz 23 "is_part",hqC "is_part" 379 49 1 155 383,hFn 23 "is_part" fW 160,hqU [],hqN,hFz 24 "is_pattern",hqD "is_pattern" 386 55 1 162,hFn 24 "is_pattern" fW 165,hqU [],hqN,hqU [.str "part" 395],hqU [],hFz 25 "is_hole",hqC "is_hole" 392 59 1 167 396,hFn 25 "is_hole" fW 172,hqU [],hqN,hqU [.str "part" 402,.str "word" 403],hqU [],hFz 26 "part_takes",hqC "part_takes" 399 61 2 174 404,hFn 26 "part_takes" fW 179,hqU [],hqN,hqU [.str "parts" 410,.str "words" 411,.str "part" 412,.str "word" 413],hqU [],hFz 27 "all_taken",hqC "all_taken" 407 67 2 181 414,hFn 27 "all_taken" fW 186,hqU [],hqN,hqU [.str "pattern" 420,.str "line" 421],hqU [],hFz 28 "fits",hqC "fits" 417 74 2 188 422,hFn 28 "fits" fW 193,hqU [],hqN,hqU [.str "part" 428,.str "kind" 429],hqU [],hFz 29 "kind_of_hole_around",hqC "kind_of_hole_around" 425 76 1 195 430,hFn 29 "kind_of_hole_around" fW 200]
noncomputable def IM (P:Params):List Obj:=[hqU [],hqN,hFz 30 "joined_part",hqD "joined_part" 433 81 1 202,hFn 30 "joined_part" fW 205,hqU [],hqN,hFz 31 "joined",hqD "joined" 439 88 1 207,hFn 31 "joined" fW 210,hqU [],hqN,hqU [.str "part" 448,.str "length" 449,.str "text" 450],hqU [],hFz 32 "part_key",hqC "part_key" 445 95 1 212 451,hFn 32 "part_key" fW 217,hqU [],hqN,hFz 33 "pattern_key",hqD "pattern_key" 454 100 1 219,hFn 33 "pattern_key" fW 222,hqU [],hqN,hFz 34 "ordered",hqD "ordered" 460 102 1 224,hFn 34 "ordered" fW 227,hqU [.int 3 468,.int 2 469],hqU [],hqN,hqU [.str "rows" 474,.str "keys" 475,.str "groups" 476,.str "row" 477,.str "key" 478],hqU [],hFz 37 "grouped",hqC "grouped" 471 106 2 230 479,hFn 37 "grouped" mJ 235,hqU [],hqN,hFz 38 "words_at",hqD "words_at" 482 111 2 237,hFn 38 "words_at" mJ 240,hqU [],hqN,hqU [.str "group" 491,.str "place" 492],hqU [],hFz 39 "many_unlike_at",hqC "many_unlike_at" 488 113 2 242 493,hFn 39 "many_unlike_at" mJ 247,hqU [],hqN,hFz 40 "is_fit_to_part_at",hqD "is_fit_to_part_at" 496 115 3 249,hFn 40 "is_fit_to_part_at" mJ 252,hqU [],hqN,hFz 41 "place_to_part_at",hqD "place_to_part_at" 502 120 2 254,hFn 41 "place_to_part_at" mJ 257,hqU [],hqN,hqU [.str "group" 511,.str "sieve" 512,.str "place" 513,.str "groups" 514,.str "smaller" 515],hqU [],hFz 42 "parted",hqC "parted" 508 123 2 259 516,hFn 42 "parted" mJ 264,hqU [],hqN,hFz 43 "pattern_of_group",hqD "pattern_of_group" 519 131 1 266,hFn 43 "pattern_of_group" mJ 269,hqU [.ref 229],hqU [],hqN,hFz 44 "gathered",hqD "gathered" 525 133 2 272,hFd 44 "gathered" mJ 275 271,hqU [],hqN,hqU [.str "part" 536],hqU [],hFz 46 "looseness_of_part",hqC "looseness_of_part" 533 140 1 277 537,hFn 46 "looseness_of_part" Dn 282,hqU [],hqN,hFz 47 "looseness",hqD "looseness" 540 144 1 284,hFn 47 "looseness" Dn 287,hqU [],hqN,hFz 48 "falls_under",hqD "falls_under" 546 146 2 289,hFn 48 "falls_under" Dn 292,hqU [],hqN,hqU [.str "things" 561,.str "many" 562,.str "thing" 563],hqU [],hFz 52 "how_often",hqC "how_often" 558 152 1 294 564,hFn 52 "how_often" bW 299,hqU [],hqN,hFz 53 "words_in_order",hqD "words_in_order" 567 157 1 301,hFn 53 "words_in_order" bW 304,hqU [],⟨.type "builtin_function_or_method",none,.fields #[.builtin "type.__prepare__",.type "type"],#[]⟩,⟨.type "dict",none,.dict #[hEn P "__module__" 580 bW,hEn P "__qualname__" 582 (.str "State" 581),hEn P "__firstlineno__" 584 (.int 160 583),hqR P "__init__" 590 317,hqR P "fall_of" 598 324,hqR P "__static_attributes__" 603 325] 6,#[]⟩,hqU [],⟨.none,none,.fields #[.int 162 0,.int 4 0,.ref 316,.int 170 0,.int 4 0,.ref 323],#[]⟩,hqB "State" 575 160 309,hqW 311 308 bW,hqU [],hqN,hqG 54 0 "__init__" "State.__init__",hqO "__init__" "State.__init__" 585 162 4 313,hqF 54 0 "__init__" "State.__init__" bW 316,hqU [],hqN,hqU [.str "self" 594,.str "line" 595],hqU [],hqG 54 1 "fall_of" "State.fall_of",hqM "fall_of" "State.fall_of" 591 170 2 318 596,hqF 54 1 "fall_of" "State.fall_of" bW 323,hqU [.str "by_hand" 599,.str "falls" 600,.str "found" 601,.str "rows" 602],⟨.type "dict",none,.dict #[hEn P "__module__" 580 bW,hEn P "__firstlineno__" 584 (.int 160 583),hqR P "__init__" 590 317,hqR P "fall_of" 598 324,hqR P "__static_attributes__" 603 325,hqR P "__dict__" 605 328,hqR P "__weakref__" 607 329,hEn P "__doc__" 608 (.none)] 4,#[]⟩,⟨.type "type",none,.cls { name:= "State",bases:=[.type "object"],mro:=[.ref 327,.type "object"],ns:=326,qualname:= "State",hasDict:=true,slotNames:=[],subclasses:=[],abstract:=false,collection:=none,hasDel:=false },#[none,none,some (.str "State" 573),some (.str "State" 581),some (.builtin "object.__new__"),some (.bool true)]⟩,⟨.type "getset_descriptor",none,.fields #[.str "__dict__" 604,.ref 327,.builtin "function.__dict__",.builtin "function.__dict__#set"],#[]⟩,⟨.type "getset_descriptor",none,.fields #[.str "__weakref__" 606,.ref 327,.builtin "ExceptionGroup.__weakref__",.none],#[]⟩,hqS 327,hqI "object.__init_subclass__" 327]
noncomputable def MA (P:Params):List Obj:=[hqU [],⟨.type "builtin_function_or_method",none,.fields #[.builtin "type.__prepare__",.type "type"],#[]⟩,⟨.type "dict",none,.dict #[hEn P "__module__" 618 bW,hEn P "__qualname__" 620 (.str "Log" 619),hEn P "__firstlineno__" 622 (.int 172 621),hqR P "__init__" 630 346,hqR P "__len__" 637 353,hqR P "__eq__" 645 360,hqR P "held" 652 367,hqR P "rows_with_falls" 659 374,hqR P "turn_to" 669 381,hqR P "do_deed" 678 388,hqR P "come" 688 395,hqR P "put" 697 402,hqR P "take" 703 407,hqR P "back" 710 414,hqR P "again" 717 421,hqR P "moves" 724 428,hqR P "patterns" 730 433,hqR P "under" 738 440,hqR P "would_fall" 746 447,hqR P "counts" 755 454,hqR P "holes" 761 459,hqR P "__static_attributes__" 767 460] 22,#[]⟩,hqU [],⟨.none,none,.fields #[.int 174 0,.int 4 0,.ref 345,.int 181 0,.int 4 0,.ref 352,.int 184 0,.int 4 0,.ref 359,.int 189 0,.int 4 0,.ref 366,.int 192 0,.int 4 0,.ref 373,.int 195 0,.int 4 0,.ref 380,.int 200 0,.int 4 0,.ref 387,.int 205 0,.int 4 0,.ref 394,.int 216 0,.int 4 0,.ref 401,.int 224 0,.int 4 0,.ref 406,.int 230 0,.int 4 0,.ref 413,.int 236 0,.int 4 0,.ref 420,.int 242 0,.int 4 0,.ref 427,.int 245 0,.int 4 0,.ref 432,.int 248 0,.int 4 0,.ref 439,.int 251 0,.int 4 0,.ref 446,.int 254 0,.int 4 0,.ref 453,.int 257 0,.int 4 0,.ref 458],#[]⟩,hqB "Log" 613 172 335,hqW 337 334 bW,hqU [.ref 229],hqU [],hqN,hqU [.str "self" 626,.str "sieve" 627],hqU [],hqG 55 0 "__init__" "Log.__init__",hqM "__init__" "Log.__init__" 623 174 2 340 628,⟨.type "function",none,.func (Kk 55 0 "__init__" "Log.__init__" 3 bW (.ref 345) 339),#[]⟩,hqU [],hqN,hqU [.str "self" 634],hqU [],hqG 55 1 "__len__" "Log.__len__",hqM "__len__" "Log.__len__" 631 181 1 347 635,hqF 55 1 "__len__" "Log.__len__" bW 352,hqU [],hqN,hqU [.str "self" 641,.str "other" 642],hqU [],hqG 55 2 "__eq__" "Log.__eq__",hqM "__eq__" "Log.__eq__" 638 184 2 354 643,hqF 55 2 "__eq__" "Log.__eq__" bW 359,hqU [],hqN,hqU [.str "self" 649],hqU [],hqG 55 3 "held" "Log.held",hqM "held" "Log.held" 646 189 1 361 650,hqF 55 3 "held" "Log.held" bW 366,hqU [],hqN,hqU [.str "self" 656],hqU [],hqG 55 4 "rows_with_falls" "Log.rows_with_falls",hqM "rows_with_falls" "Log.rows_with_falls" 653 192 1 368 657,hqF 55 4 "rows_with_falls" "Log.rows_with_falls" bW 373,hqU [],hqN,hqU [.str "self" 663,.str "held" 664,.str "rows" 665,.str "by_hand" 666],hqU [],hqG 55 5 "turn_to" "Log.turn_to",hqM "turn_to" "Log.turn_to" 660 195 2 375 667,hqF 55 5 "turn_to" "Log.turn_to" bW 380,hqU [],hqN,hqU [.str "self" 673,.str "rows" 674,.str "by_hand" 675],hqU [],hqG 55 6 "do_deed" "Log.do_deed",hqM "do_deed" "Log.do_deed" 670 200 3 382 676,hqF 55 6 "do_deed" "Log.do_deed" bW 387,hqU [],hqN,hqU [.str "self" 682,.str "moment" 683,.str "line" 684,.str "rows" 685],hqU [],hqG 55 7 "come" "Log.come",hqM "come" "Log.come" 679 205 3 389 686,hqF 55 7 "come" "Log.come" bW 394,hqU [],hqN,hqU [.str "self" 692,.str "pattern" 693,.str "by_hand" 694],hqU [],hqG 55 8 "put" "Log.put",hqM "put" "Log.put" 689 216 2 396 695,hqF 55 8 "put" "Log.put" bW 401,hqU [],hqN,hqG 55 9 "take" "Log.take",hqO "take" "Log.take" 698 224 2 403,hqF 55 9 "take" "Log.take" bW 406,hqU [],hqN,hqU [.str "self" 707],hqU [],hqG 55 10 "back" "Log.back",hqM "back" "Log.back" 704 230 1 408 708,hqF 55 10 "back" "Log.back" bW 413,hqU [],hqN,hqU [.str "self" 714],hqU [],hqG 55 11 "again" "Log.again",hqM "again" "Log.again" 711 236 1 415 715,hqF 55 11 "again" "Log.again" bW 420,hqU [],hqN,hqU [.str "self" 721],hqU [],hqG 55 12 "moves" "Log.moves",hqM "moves" "Log.moves" 718 242 1 422 722,hqF 55 12 "moves" "Log.moves" bW 427,hqU [],hqN,hqG 55 13 "patterns" "Log.patterns",hqO "patterns" "Log.patterns" 725 245 1 429,hqF 55 13 "patterns" "Log.patterns" bW 432,hqU [],hqN,hqU [.str "self" 734,.str "number" 735],hqU [],hqG 55 14 "under" "Log.under",hqM "under" "Log.under" 731 248 2 434 736,hqF 55 14 "under" "Log.under" bW 439,hqU [],hqN,hqU [.str "self" 742,.str "line" 743],hqU [],hqG 55 15 "would_fall" "Log.would_fall",hqM "would_fall" "Log.would_fall" 739 251 2 441 744,hqF 55 15 "would_fall" "Log.would_fall" bW 446,hqU [],hqN,hqU [.str "self" 750,.str "low" 751,.str "high" 752],hqU [],hqG 55 16 "counts" "Log.counts",hqM "counts" "Log.counts" 747 254 3 448 753,hqF 55 16 "counts" "Log.counts" bW 453,hqU [],hqN,hqG 55 17 "holes" "Log.holes",hqO "holes" "Log.holes" 756 257 2 455,hqF 55 17 "holes" "Log.holes" bW 458,hqU [.str "ahead" 762,.str "past" 763,.str "sieve" 764,.str "state" 765,.str "taken_back" 766],⟨.type "dict",none,.dict #[hEn P "__module__" 618 bW,hEn P "__firstlineno__" 622 (.int 172 621),hqR P "__init__" 630 346,hqR P "__len__" 637 353,hqR P "__eq__" 645 360,hqR P "held" 652 367,hqR P "rows_with_falls" 659 374,hqR P "turn_to" 669 381,hqR P "do_deed" 678 388,hqR P "come" 688 395,hqR P "put" 697 402,hqR P "take" 703 407,hqR P "back" 710 414,hqR P "again" 717 421,hqR P "moves" 724 428,hqR P "patterns" 730 433,hqR P "under" 738 440,hqR P "would_fall" 746 447,hqR P "counts" 755 454,hqR P "holes" 761 459,hqR P "__static_attributes__" 767 460,hqR P "__dict__" 769 463,hqR P "__weakref__" 771 464,hEn P "__doc__" 772 (.none),hEn P "__hash__" 773 (.none)] 5,#[]⟩,⟨.type "type",none,.cls { name:= "Log",bases:=[.type "object"],mro:=[.ref 462,.type "object"],ns:=461,qualname:= "Log",hasDict:=true,slotNames:=[],subclasses:=[],abstract:=false,collection:=none,hasDel:=false },#[none,none,some (.str "Log" 611),some (.str "Log" 619),some (.builtin "object.__new__"),some (.bool true)]⟩,⟨.type "getset_descriptor",none,.fields #[.str "__dict__" 768,.ref 462,.builtin "function.__dict__",.builtin "function.__dict__#set"],#[]⟩,⟨.type "getset_descriptor",none,.fields #[.str "__weakref__" 770,.ref 462,.builtin "ExceptionGroup.__weakref__",.none],#[]⟩,hqS 462,hqI "object.__init_subclass__" 462]
noncomputable def mH0 (P:Params):Heap:=⟨(mS0 P++(([⟨.type "dict",none,.dict (hEn P "__name__" 165 g6::Mt P).toArray 14,#[]⟩]:List Obj)++(mS4 P++(([⟨.none,none,.fields Cq.toArray,#[]⟩]:List Obj)++(GV P++(([⟨.type "type",none,.cls { name:= "GatherError",bases:=[.type "ValueError"],mro:=[.ref 31,.type "ValueError",.type "Exception",.type "BaseException",.type "object"],ns:=30,qualname:= "GatherError",hasDict:=true,slotNames:=[],subclasses:=[.ref 44,.ref 56,.ref 75],abstract:=false,collection:=none,hasDel:=false },#[some (.ref 22),none,some (.str "GatherError" 196),some (.str "GatherError" 204),some (.builtin "ValueError.__new__"),some (.bool true)]⟩]:List Obj)++(GB P))))))).toArray,(PySem.W.boot_heap P).life⟩
noncomputable def mH1 (P:Params):Heap:=⟨(mS0 P++(([⟨.type "dict",none,.dict (hEn P "__name__" 165 fW::MO P).toArray 36,#[]⟩]:List Obj)++(mS4 P++(([⟨.none,none,.fields Ld.toArray,#[]⟩]:List Obj)++(GV P++(([⟨.type "type",none,.cls { name:= "GatherError",bases:=[.type "ValueError"],mro:=[.ref 31,.type "ValueError",.type "Exception",.type "BaseException",.type "object"],ns:=30,qualname:= "GatherError",hasDict:=true,slotNames:=[],subclasses:=[.ref 44,.ref 56,.ref 75,.ref 87,.ref 99,.ref 111],abstract:=false,collection:=none,hasDel:=false },#[some (.ref 22),none,some (.str "GatherError" 196),some (.str "GatherError" 204),some (.builtin "ValueError.__new__"),some (.bool true)]⟩]:List Obj)++(GB P++(J9 P)))))))).toArray,(PySem.W.boot_heap P).life⟩
noncomputable def mH2 (P:Params):Heap:=⟨(mS0 P++(([⟨.type "dict",none,.dict (hEn P "__name__" 165 bW::Ms P).toArray 58,#[]⟩]:List Obj)++(mS4 P++(([⟨.none,none,.fields My.toArray,#[]⟩]:List Obj)++(GV P++(([⟨.type "type",none,.cls { name:= "GatherError",bases:=[.type "ValueError"],mro:=[.ref 31,.type "ValueError",.type "Exception",.type "BaseException",.type "object"],ns:=30,qualname:= "GatherError",hasDict:=true,slotNames:=[],subclasses:=[.ref 44,.ref 56,.ref 75,.ref 87,.ref 99,.ref 111],abstract:=false,collection:=none,hasDel:=false },#[some (.ref 22),none,some (.str "GatherError" 196),some (.str "GatherError" 204),some (.builtin "ValueError.__new__"),some (.bool true)]⟩]:List Obj)++(GB P++(J9 P++(IM P))))))))).toArray,(PySem.W.boot_heap P).life⟩
noncomputable def mH3 (P:Params):Heap:=⟨(mS0 P++(([⟨.type "dict",none,.dict (hEn P "__name__" 165 bW::Me P).toArray 59,#[]⟩]:List Obj)++(mS4 P++(([⟨.none,none,.fields Nn.toArray,#[]⟩]:List Obj)++(GV P++(([⟨.type "type",none,.cls { name:= "GatherError",bases:=[.type "ValueError"],mro:=[.ref 31,.type "ValueError",.type "Exception",.type "BaseException",.type "object"],ns:=30,qualname:= "GatherError",hasDict:=true,slotNames:=[],subclasses:=[.ref 44,.ref 56,.ref 75,.ref 87,.ref 99,.ref 111],abstract:=false,collection:=none,hasDel:=false },#[some (.ref 22),none,some (.str "GatherError" 196),some (.str "GatherError" 204),some (.builtin "ValueError.__new__"),some (.bool true)]⟩]:List Obj)++(GB P++(J9 P++(IM P++(MA P)))))))))).toArray,(PySem.W.boot_heap P).life⟩
def mB:List Stmt:=PySem.W.behindTheImports PySem.Challenge.pw_loggather_k35_whole_equal_logs
def tP:Env:={ scope:=PySem.Challenge.pw_loggather_k35_whole_equal_logs.main.scope,locals:=mainNs,globals:=mainNs,cells:=[],code:=.ref 13,frame:=some 14 }
def mC:Code:=.body mB tP
theorem mSz (w:World):((PySem.W.boot_heap w.params).isNs mainGlobals,(PySem.W.boot_heap w.params).objs.size,(PySem.W.boot_heap w.params).nsMap mainGlobals "__annotations__")=(true,11,some (.ref 6)):=by kernel_rfl
theorem mR0 (w:World) (os:OsState):(PySem.W.topGo treeTable PySem.Challenge.pw_loggather_k35_whole_equal_logs w 11 (some (.ref 6)) 12 ⟨PySem.W.boot_heap w.params,Array.mk [],PySem.W.boot_drawn,PySem.W.boot_toks,os⟩ (PySem.W.topStub PySem.Challenge.pw_loggather_k35_whole_equal_logs)).bind (λx=>(PySem.W.segRun treeTable PySem.Challenge.pw_loggather_k35_whole_equal_logs w 11 (some (.ref 6)) 1 1 x.1 (PySem.W.blockOf mB tP mC ⟨0,0,0,0⟩ [PySem.W.topFrame ⟨0,0,0,0⟩])).bind λy=>(PySem.W.segRun treeTable PySem.Challenge.pw_loggather_k35_whole_equal_logs w 11 (some (.ref 6)) 1 896 y.2.1 (PySem.W.piecesOf (mB.take 6) tP mC y.2.2.2 [PySem.W.topFrame ⟨0,0,0,0⟩])).map λz=>(x.2,y.1,y.2.2.1,z))=some (⟨denote treeTable mC,mC,⟨0,0,0,0⟩,[PySem.W.topFrame ⟨0,0,0,0⟩]⟩,.next,mC,(.next,⟨mH0 w.params,Array.mk [],⟨0,0,0,0⟩,271,os⟩,mC,⟨11,0,15,24⟩)):=by kernel_rfl
theorem mR1 (w:World) (os:OsState):PySem.W.segRun treeTable PySem.Challenge.pw_loggather_k35_whole_equal_logs w 11 (some (.ref 6)) 1 1094 ⟨mH0 w.params,Array.mk [],⟨0,0,0,0⟩,271,os⟩ (PySem.W.piecesOf ((mB.drop 6).take 24) tP mC ⟨11,0,15,24⟩ [PySem.W.topFrame ⟨0,0,0,0⟩])=some (.next,⟨mH1 w.params,Array.mk [],⟨0,0,0,0⟩,433,os⟩,mC,⟨76,0,80,48⟩):=by kernel_rfl
theorem mR2 (w:World) (os:OsState):PySem.W.segRun treeTable PySem.Challenge.pw_loggather_k35_whole_equal_logs w 11 (some (.ref 6)) 1 813 ⟨mH1 w.params,Array.mk [],⟨0,0,0,0⟩,433,os⟩ (PySem.W.piecesOf ((mB.drop 30).take 25) tP mC ⟨76,0,80,48⟩ [PySem.W.topFrame ⟨0,0,0,0⟩])=some (.next,⟨mH2 w.params,Array.mk [],⟨0,0,0,0⟩,611,os⟩,mC,⟨160,0,171,16⟩):=by kernel_rfl
theorem mR3 (w:World) (os:OsState):PySem.W.segRun treeTable PySem.Challenge.pw_loggather_k35_whole_equal_logs w 11 (some (.ref 6)) 1 771 ⟨mH2 w.params,Array.mk [],⟨0,0,0,0⟩,611,os⟩ (PySem.W.piecesOf ((mB.drop 55).take 1) tP mC ⟨160,0,171,16⟩ [PySem.W.topFrame ⟨0,0,0,0⟩])=some (.next,⟨mH3 w.params,Array.mk [],⟨0,0,0,0⟩,776,os⟩,mC,⟨172,0,262,85⟩):=by kernel_rfl
theorem mZ (w:World) (os:OsState):(PySem.W.segRun treeTable PySem.Challenge.pw_loggather_k35_whole_equal_logs w 11 (some (.ref 6)) 1 605 ⟨mH3 w.params,Array.mk [],⟨0,0,0,0⟩,776,os⟩ (PySem.W.piecesOf (mB.drop 56) tP mC ⟨172,0,262,85⟩ [PySem.W.topFrame ⟨0,0,0,0⟩])).bind (λz=>(PySem.W.topRun treeTable PySem.Challenge.pw_loggather_k35_whole_equal_logs w 11 (some (.ref 6)) 2 z.2.1 ⟨PySem.W.doneF .next,mC,z.2.2.2,[PySem.W.topFrame ⟨0,0,0,0⟩]⟩).map λr=>(z.1,z.2.2.1,(PySem.W.staticsOk (importedModules PySem.Challenge.pw_loggather_k35_whole_equal_logs.main.body) (PySem.W.boot_heap w.params) r.heap && PySem.W.namesBound PySem.Challenge.pw_loggather_k35_whole_equal_logs r.heap && PySem.W.gensDone r && PySem.W.laidKept (PySem.W.boot_heap w.params) r.heap),PySem.W.openSeen hV hLo (importedModules PySem.Challenge.pw_loggather_k35_whole_equal_logs.main.body) hX true r,hH.obs r))=some (.next,mC,true,PySem.W.openGood hV hLo,hH.val w):=by kernel_rfl
theorem mT3 (w:World) (os:OsState):L2.tp PySem.Challenge.pw_loggather_k35_whole_equal_logs hV hLo hX hH.obs hH.val PySem.W.boot_heap 11 (some (.ref 6)) tP mC ⟨0,0,0,0⟩ (771+(605+2)) (mB.drop 55) ⟨160,0,171,16⟩ w ⟨mH2 w.params,Array.mk [],⟨0,0,0,0⟩,611,os⟩:=L2.t8 (mR3 w os) (L2.AS mB 55 1) (L2.Fw (mZ w os))
theorem mT2 (w:World) (os:OsState):L2.tp PySem.Challenge.pw_loggather_k35_whole_equal_logs hV hLo hX hH.obs hH.val PySem.W.boot_heap 11 (some (.ref 6)) tP mC ⟨0,0,0,0⟩ (813+(771+(605+2))) (mB.drop 30) ⟨76,0,80,48⟩ w ⟨mH1 w.params,Array.mk [],⟨0,0,0,0⟩,433,os⟩:=L2.t8 (mR2 w os) (L2.AS mB 30 25) (mT3 w os)
theorem mT1 (w:World) (os:OsState):L2.tp PySem.Challenge.pw_loggather_k35_whole_equal_logs hV hLo hX hH.obs hH.val PySem.W.boot_heap 11 (some (.ref 6)) tP mC ⟨0,0,0,0⟩ (1094+(813+(771+(605+2)))) (mB.drop 6) ⟨11,0,15,24⟩ w ⟨mH0 w.params,Array.mk [],⟨0,0,0,0⟩,271,os⟩:=L2.t8 (mR1 w os) (L2.AS mB 6 24) (mT2 w os)
theorem hL:PySem.W.LeftO PySem.Challenge.pw_loggather_k35_whole_equal_logs hV hLo hX hH.obs hH.val 8474:=L2.ER (c:=mC) (env:=tP) (b:=mB) (n2:=1094+(813+(771+(605+2)))) rfl (Rk 6 mB) (PySem.W.boot_open (by kernel_rfl) (by decide) (λs=>by kernel_rfl)) mSz mR0 (λw os=>mT1 w os) (by decide)
end K35
namespace L2
open PySem PySem.Spec PyProof.Rows
abbrev Key:=Sum Int Str
def tV:Key->Vy->Bool
 | .inl k,v=>Value.isInt k v
 | .inr x,v=>Value.isStrOf x v
def Og (w:World):Key->Int
 | .inl k=>hashInt k
 | .inr x=>hashStr w x
theorem b9:∀ {k:Key}{v:Vy},tV k v=true->(∃ i t,k=Sum.inl i/\v=Value.int i t)\/(∃ x t,k=Sum.inr x/\v=Value.str x t)
 | .inl i,v,h=>by
  obtain ⟨t,e⟩:=Value.isInt_shape (k:=i) (v:=v) h;exact .inl ⟨i,t,rfl,e⟩
 | .inr x,v,h=>by
  obtain ⟨t,e⟩:=Value.isStrOf_shape (x:=x) (v:=v) h;exact .inr ⟨x,t,rfl,e⟩
theorem Dz (i:Int) (t:Tok):tV (.inl i) (.int i t)=true:=by simp [tV,Value.isInt]
theorem Cv (x:Str) (t:Tok):tV (.inr x) (.str x t)=true:=by simp [tV,Value.isStrOf]
theorem Ku (a b:Int):decide ((Sum.inl a:Key)=Sum.inl b)=(a == b):=by
 by_cases e:a=b
 ·subst e;simp
 ·have h:¬ (Sum.inl a:Key)=Sum.inl b:=λq=>e (Sum.inl.inj q);rw [decide_eq_false h];exact (beq_eq_false_iff_ne.mpr e).symm
theorem J4 (a b:Str):decide ((Sum.inr a:Key)=Sum.inr b)=decide (a=b):=by
 by_cases e:a=b
 ·subst e;simp
 ·have h:¬ (Sum.inr a:Key)=Sum.inr b:=λq=>e (Sum.inr.inj q);rw [decide_eq_false h,decide_eq_false e]
theorem Kf (a:Int) (b:Str):decide ((Sum.inl a:Key)=Sum.inr b)=false:=decide_eq_false (λq=>nomatch q)
theorem KO (a:Str) (b:Int):decide ((Sum.inr a:Key)=Sum.inl b)=false:=decide_eq_false (λq=>nomatch q)
def ba (prog:Program) (w:World):PySem.KeyKind prog w Key where
 is:=tV
 hash:=Og w
 inj:=λv a b ha hb=>by
  rcases b9 ha with ⟨i,t,rfl,rfl⟩ | ⟨x,t,rfl,rfl⟩
  ·rcases b9 hb with ⟨j,u,rfl,e⟩ | ⟨y,u,rfl,e⟩
   ·injection e with e1 _;rw [e1]
   ·exact nomatch e
  ·rcases b9 hb with ⟨j,u,rfl,e⟩ | ⟨y,u,rfl,e⟩
   ·exact nomatch e
   ·injection e with e1 _;rw [e1]
 byValue:=λk v h=>by
  rcases b9 h with ⟨i,t,rfl,rfl⟩ | ⟨x,t,rfl,rfl⟩ <;> rfl
 pyHash:=λhv h=>by
  rcases b9 hv with ⟨i,t,rfl,rfl⟩ | ⟨x,t,rfl,rfl⟩
  ·exact wpAny_pyHash_int h
  ·exact wpAny_pyHash_str h
 eqBool:=λhu hv h=>by
  rcases b9 hu with ⟨i,t,rfl,rfl⟩ | ⟨x,t,rfl,rfl⟩
  ·rcases b9 hv with ⟨j,u,rfl,rfl⟩ | ⟨y,u,rfl,rfl⟩
   ·rw [Ku] at h;exact wpAny_eqBool_int h
   ·rw [Kf] at h;exact SeqAt.EqAt.int_str i t y u _ _ _ _ h
  ·rcases b9 hv with ⟨j,u,rfl,rfl⟩ | ⟨y,u,rfl,rfl⟩
   ·rw [KO] at h;exact SeqAt.EqAt.str_int x t j u _ _ _ _ h
   ·rw [J4] at h;exact wpAny_eqBool_str h
 «strs»:=λk x t v h=>by
  rcases b9 h with ⟨i,u,rfl,e⟩ | ⟨y,u,rfl,e⟩
  ·exact nomatch e
  ·injection e with e1 _;subst e1;cases v <;> rfl
theorem xQ (prog:Program) (w:World) (i:Int) (t:Tok):(ba prog w).is (.inl i) (.int i t)=true:=Dz i t
theorem iK (prog:Program) (w:World) (x:Str) (t:Tok):(ba prog w).is (.inr x) (.str x t)=true:=Cv x t
inductive V where
 | non | bl (b:Bool) | int (i:Int) | str (x:Str) | byt (b:Array UInt8) | flt (b:UInt64) | ref (a:Addr) | ty (n:String)
 deriving DecidableEq
def RelV:V->Vy->Prop
 | .non,u=>u=Value.none
 | .bl b,u=>u=Value.bool b
 | .int i,u=>∃ t,u=Value.int i t
 | .str x,u=>∃ t,u=Value.str x t
 | .byt b,u=>∃ t,u=Value.bytes b t
 | .flt b,u=>∃ t,u=Value.float b t
 | .ref a,u=>u=Value.ref a
 | .ty n,u=>u=Value.type n
abbrev aS:List V->List Vy->Prop:=Paired RelV
theorem aS.length {xs:List V}{us:List Vy} (r:aS xs us):xs.length=us.length:=Paired.length r
theorem aS.get:∀ {xs:List V}{us:List Vy}{i:Nat}{x:V},aS xs us->xs[i]? = some x->∃ u,us[i]? = some u/\RelV x u
 | _,_,_,_,.nil,e=>by simp at e
 | _,_,0,_,.cons r _,e=>by simp at e;subst e;exact ⟨_,rfl,r⟩
 | _,_,i+1,x,.cons _ t,e=>by
  obtain ⟨u,h1,h2⟩:=aS.get (i:=i) (x:=x) t (by simpa using e);exact ⟨u,by simpa using h1,h2⟩
theorem aS.set {x:V}{u:Vy} (r:RelV x u):∀ {xs:List V}{us:List Vy} (i:Nat),aS xs us->aS (xs.set i x) (us.set i u)
 | _,_,_,.nil=>.nil
 | _,_,0,.cons _ t=>.cons r t
 | _,_,i+1,.cons q t=>.cons q (aS.set r i t)
theorem aS.append:∀ {xs ys:List V}{us ws:List Vy},aS xs us->aS ys ws->aS (xs++ys) (us++ws)
 | _,_,_,_,.nil,s=>s
 | _,_,_,_,.cons r t,s=>.cons r (aS.append t s)
theorem aS.take:∀ {xs:List V}{us:List Vy} (n:Nat),aS xs us->aS (xs.take n) (us.take n)
 | _,_,0,_=>.nil
 | _,_,_+1,.nil=>.nil
 | _,_,n+1,.cons r t=>.cons r (aS.take n t)
theorem aS.drop:∀ {xs:List V}{us:List Vy} (n:Nat),aS xs us->aS (xs.drop n) (us.drop n)
 | _,_,0,r=>r
 | _,_,_+1,.nil=>.nil
 | _,_,n+1,.cons _ t=>aS.drop n t
theorem aS.none_of:∀ {xs:List V}{us:List Vy}{i:Nat},aS xs us->xs[i]? = none->us[i]? = none:=λ{xs us i} r e=>by
 have h1:=r.length;have h2:xs.length<=i:=Rx.mp e;exact Rx.mpr (by lia)
def pB:Option V->Option Vy->Prop
 | some v,some u=>RelV v u
 | none,none=>True
 | _,_=>False
def KV {κ:Type}:List (κ×V)->List (κ×Vy)->Prop:=Paired λ(p:κ×V) (q:κ×Vy)=>p.1=q.1/\RelV p.2 q.2
def kV:Key->V
 | .inl i=>.int i
 | .inr x=>.str x
inductive HO where
 | lst (xs:List V)
 | tup (xs:List V)
 | dK (kvs:List (Key×V)) | dT (kvs:List (List Key×V))
 | set (S:Int->Bool) (n:Nat)
 | ins (C dx:Addr) (fs:List (Str×V))
 | own (x:Addr)
 | xd (fs:List (Str×V))
 | met (f x:Addr)
 | rng (lo hi:Int)
 | frz (o:Obj) (u:HO)
 | tbl (ps:Array Vy)
 | ext (φ:Heap->Prop)
abbrev Hp:=Addr->Option HO
def upd (H:Hp) (a:Addr) (o:HO):Hp:=λb=>if b=a then some o else H b
theorem ab {H:Hp}{a:Addr}{o:HO}:upd H a o a=some o:=by unfold upd;rw [if_pos rfl]
theorem au {H:Hp}{a b:Addr}{o:HO} (h:b≠a):upd H a o b=H b:=by unfold upd;rw [if_neg h]
theorem aw {H:Hp}{a b:Addr}{o:HO} (h:H a=some o) (h':H b=none):a≠b:=by
 intro e;subst e;rw [h] at h';cases h'
section
variable (P:Program) (w:World)
def bU (H:Hp) (h:Heap) (a:Addr):HO->Prop
 | .lst xs=>xs.length<=sizeLine/\∃ (its:List Vy) (n:Nat),aS xs its/\h.get? a=some { cls:=.type "list",data:=.seq its.toArray n }
 | .tup xs=>xs.length<=sizeLine/\∃ its:List Vy,aS xs its/\IsTup h a its.toArray
 | .dK kvs=>kvs.length<=sizeLine/\(a == sysModules)=false/\∃ vs,KV kvs vs/\h.DictOf (ba P w) a vs
 | .dT kvs=>kvs.length<=sizeLine/\(a == sysModules)=false/\∃ xs:List (List Key×Addr×Vy),
   Paired (λ(p:List Key×V) (q:List Key×Addr×Vy)=>p.1=q.1/\H q.2.1=some (.tup (p.1.map kV))/\RelV p.2 q.2.2) kvs xs /\
   ∃ o es ep,h.get? a=some o/\o.ExactDict/\o.data = .dict es ep/\es.toList=xs.map (entryOfKey (tupleKind (ba P w)))/\(xs.map (·.1)).Nodup
 | .set S n=>h.SetOf (intKind P w) a S n
 | .ins C dx fs=>H dx=some (.own a)/\fs.length<=1000/\dx≠a/\h.get? a=some (PySem.W.instObj C dx) /\
   ∃ mA,h.Ns1 dx mA/\(∀ f,pB (fs.lookup f) (mA f))/\PySem.Within mA (fs.map (·.1))
 | .own _=>∃ o,h.get? a=some o
 | .xd fs=>∃ mA,h.Ns1 a mA/\∀ f,pB (fs.lookup f) (mA f)
 | .rng lo hi=>∃ t u v,h.get? a=some { cls:=.type "range",data:=.fields #[.int lo t,.int hi u,.int 1 v] }
 | .frz o u=>h.get? a=some o/\bU H h a u
 | .tbl ps=>h.get? a=some { cls:=.none,data:=.fields ps }
 | .met f x=>h.get? a=some (PySem.W.methodObj (.ref f) (.ref x))
 | .ext φ=>φ h/\(∃ o,h.get? a=some o)/\∀ h1 h2:Heap,φ h1->(∀ o,h1.get? a=some o->h2.get? a=some o)->φ h2
def HOk (H:Hp) (h:Heap):Prop:=∀ a o,H a=some o->bU P w H h a o
end
section
variable {P:Program}{w:World}{H H':Hp}{h h':Heap}{a:Addr}{o:HO}
theorem bU.lt (x:bU P w H h a o):a<h.objs.size:=by
 cases o with
 | lst xs=>obtain ⟨_,_,_,_,e⟩:=x;exact Heap.lt_size e
 | tup xs=>obtain ⟨_,_,_,p⟩:=x;exact p.lt
 | dK kvs=>obtain ⟨_,_,_,_,o,_,_,e,_⟩:=x;exact Heap.lt_size e
 | dT kvs=>obtain ⟨_,_,_,_,o,_,_,e,_⟩:=x;exact Heap.lt_size e
 | set S n=>obtain ⟨o,_,_,_,e,_⟩:=x;exact Heap.lt_size e
 | ins C dx fs=>obtain ⟨_,_,_,e,_⟩:=x;exact Heap.lt_size e
 | own y=>obtain ⟨_,e⟩:=x;exact Heap.lt_size e
 | xd fs=>obtain ⟨_,⟨_,_,_,e,_⟩,_⟩:=x;exact Heap.lt_size e
 | rng lo hi=>obtain ⟨_,_,_,e⟩:=x;exact Heap.lt_size e
 | frz ob u=>obtain ⟨e,_⟩:=x;exact Heap.lt_size e
 | tbl ps=>exact Heap.lt_size (show h.get? a=some _ from x)
 | met f y=>exact Heap.lt_size (show h.get? a=some _ from x)
 | ext φ=>obtain ⟨_,⟨_,e⟩,_⟩:=x;exact Heap.lt_size e
theorem Paired.ME {α β:Type}{F G:α->β->Prop}:∀ {l₁:List α}{l₂:List β},Paired F l₁ l₂->(∀ a b,F a b->G a b)->Paired G l₁ l₂
 | _,_,.nil,_=>.nil
 | _,_,.cons r t,f=>.cons (f _ _ r) (Paired.ME t f)
theorem bU.xo (x:bU P w H h a o) (k:∀ b u,(b=a\/H b=some (.own a))->h.get? b=some u->h'.get? b=some u)
  (ho:∀ b,H b=some (.own a)->H' b=some (.own a)) (ht:∀ b xs,H b=some (.tup xs)->H' b=some (.tup xs)):bU P w H' h' a o:=by
 induction o with
 | lst xs=>obtain ⟨z,its,n,r,e⟩:=x;exact ⟨z,its,n,r,k _ _ (.inl rfl) e⟩
 | tup xs=>obtain ⟨z,its,r,ob,e,c⟩:=x;exact ⟨z,its,r,ob,k _ _ (.inl rfl) e,c⟩
 | dK kvs=>obtain ⟨z,y,vs,r,ob,es,ep,e,c⟩:=x;exact ⟨z,y,vs,r,ob,es,ep,k _ _ (.inl rfl) e,c⟩
 | dT kvs=>
  obtain ⟨z,y,xs,r,ob,es,ep,e,c⟩:=x;exact ⟨z,y,xs,Paired.ME r λp q z=>⟨z.1,ht _ _ z.2.1,z.2.2⟩,ob,es,ep,k _ _ (.inl rfl) e,c⟩
 | set S n=>obtain ⟨ob,es,ep,t,e,c⟩:=x;exact ⟨ob,es,ep,t,k _ _ (.inl rfl) e,c⟩
 | ins C dx fs=>
  obtain ⟨d,z,ne,e,mA,⟨od,es,ep,e2,c⟩,r⟩:=x;exact ⟨ho _ d,z,ne,k _ _ (.inl rfl) e,mA,⟨od,es,ep,k _ _ (.inr d) e2,c⟩,r⟩
 | own y=>obtain ⟨ob,e⟩:=x;exact ⟨ob,k _ _ (.inl rfl) e⟩
 | xd fs=>obtain ⟨mA,⟨od,es,ep,e,c⟩,r⟩:=x;exact ⟨mA,⟨od,es,ep,k _ _ (.inl rfl) e,c⟩,r⟩
 | rng lo hi=>obtain ⟨t,u,v,e⟩:=x;exact ⟨t,u,v,k _ _ (.inl rfl) e⟩
 | frz ob u ih=>obtain ⟨e,q⟩:=x;exact ⟨k _ _ (.inl rfl) e,ih q⟩
 | tbl ps=>
  have e:h.get? a=some { cls:=.none,data:=.fields ps }:=x;show h'.get? a=some { cls:=.none,data:=.fields ps };exact k a _ (.inl rfl) e
 | met f y=>
  have e:h.get? a=some (PySem.W.methodObj (.ref f) (.ref y)):=x;show h'.get? a=some (PySem.W.methodObj (.ref f) (.ref y));exact k a _ (.inl rfl) e
 | ext φ=>obtain ⟨p,⟨o,e⟩,st⟩:=x;exact ⟨st _ _ p λo q=>k _ _ (.inl rfl) q,⟨o,k _ _ (.inl rfl) e⟩,st⟩
theorem HOk.lt (x:HOk P w H h) (e:H a=some o):a<h.objs.size:=(x a o e).lt
theorem HOk.fresh (x:HOk P w H h) (e:h.objs.size<=a):H a=none:=by
 cases q:H a with
 | none=>rfl
 | some u=>exact absurd (Qm (x.lt q) e) (QF _)
theorem HOk.kept (x:HOk P w H h) (k:∀ b u,h.get? b=some u->h'.get? b=some u):HOk P w H h':=λa o e=>
 (x a o e).xo (λb u _ q=>k b u q) (λ_ q=>q) λ_ _ q=>q
theorem HOk.laid (x:HOk P w H h) (k:∀ b u,h.get? b=some u->h'.get? b=some u) (hp:h.objs.size<=a) (new:bU P w (upd H a o) h' a o):HOk P w (upd H a o) h':=λb u e=>by
 have hn:=x.fresh hp;by_cases hb:b=a
 ·subst hb;rw [ab] at e;cases e;exact new
 ·rw [au hb] at e;exact (x b u e).xo (λc v _ q=>k c v q) (λc q=>by rw [au (aw q hn)];exact q) λc xs q=>by rw [au (aw q hn)];exact q
end
def Rd (H:Hp) (a:Addr) (u:HO):Prop:=H a=some u\/∃ o,H a=some (.frz o u)
theorem Rd.of {H:Hp}{a:Addr}{u:HO} (h:H a=some u):Rd H a u:=.inl h
theorem Rd.ok {P:Program}{w:World}{H:Hp}{h:Heap}{a:Addr}{u:HO} (r:Rd H a u) (x:HOk P w H h):bU P w H h a u:=by
 rcases r with r | ⟨o,r⟩
 ·exact x a u r
 ·obtain ⟨_,q⟩:=x a _ r;exact q
def Mut:Option HO->Prop
 | some (.lst _)=>True
 | some (.dK _)=>True
 | some (.dT _)=>True
 | some (.set _ _)=>True
 | some (.ins _ _ _)=>True
 | some (.ext _)=>True
 | _=>False
section
variable {P:Program}{w:World}{H:Hp}{h h':Heap}{x e:Addr}{o':HO}
theorem HOk.write (ok:HOk P w H h) (mu:Mut (H x)) (he:e=x\/H e=some (.own x)) (k:∀ b u,b≠e->h.get? b=some u->h'.get? b=some u) (heo:∃ u,h'.get? e=some u)
  (new:bU P w (upd H x o') h' x o'):HOk P w (upd H x o') h':=λb u q=>by
 have Lw:∀ c y,H c=some (.own y)->c≠x:=λc y r z=>by subst z;rw [r] at mu;exact mu
 have NX:∀ c xs,H c=some (.tup xs)->c≠x:=λc xs r z=>by subst z;rw [r] at mu;exact mu
 by_cases hb:b=x
 ·subst hb;rw [ab] at q;cases q;exact new
 ·rw [au hb] at q;by_cases hbe:b=e
  ·have q':H b=some (.own x):=by
    rcases he with z | z
    ·exact absurd (hbe.trans z) hb
    ·rw [hbe];exact z
   rw [q] at q';cases q';obtain ⟨v,hv⟩:=heo;exact ⟨v,by rw [hbe];exact hv⟩
  ·refine (ok b u q).xo (λc v hc r=>k c v ?_ r) (λc r=>by rw [au (Lw c b r)];exact r) λc xs r=>by rw [au (NX c xs r)];exact r
   rcases hc with rfl | hc
   ·exact hbe
   ·rintro rfl;rcases he with z | z
    ·exact Lw c b hc z
    ·rw [hc] at z;cases z;exact hb rfl
end
structure Un (fs ex:List Addr) (H H':Hp) (h h':Heap):Prop where
 keep:∀ b o,h.get? b=some o->H b=none->b∉fs->b∉ex->h'.get? b=some o
 slot:∀ b o,h.get? b=some o->H b=none->b∈fs->b∉ex->∃ sl,h'.get? b=some { o with slots:=sl }
 free:∀ b o,h.get? b=some o->H b=none->b∉ex->H' b=none
 there:∀ b o,h.get? b=some o->b∉ex->∃ o',h'.get? b=some o'
 rJ:∀ b xs,H b=some (.tup xs)->H' b=some (.tup xs)
 qQ:∀ b o u,H b=some (.frz o u)->H' b=some (.frz o u)
 qR:∀ b ps,H b=some (.tbl ps)->∃ more,H' b=some (.tbl (ps++more))
section
variable {fs fs' ex ex':List Addr}{H H1 H2:Hp}{h h1 h2 h':Heap}{a x e:Addr}{o:HO}
theorem Un.any (u:Un fs ex H H1 h h1) {b:Addr}{ob:Obj} (q:h.get? b=some ob) (n:H b=none) (hx:b∉ex):∃ sl,h1.get? b=some { ob with slots:=sl }:=by
 by_cases hb:b∈fs
 ·exact u.slot b ob q n hb hx
 ·exact ⟨ob.slots,u.keep b ob q n hb hx⟩
theorem Un.trans (a:Un fs ex H H1 h h1) (b:Un fs ex H1 H2 h1 h2):Un fs ex H H2 h h2 where
 keep:=λc ob q n hc hx=>b.keep c ob (a.keep c ob q n hc hx) (a.free c ob q n hx) hc hx
 slot:=λc ob q n hc hx=>by
  obtain ⟨sl,e1⟩:=a.slot c ob q n hc hx;obtain ⟨sl',e2⟩:=b.slot c _ e1 (a.free c ob q n hx) hc hx;exact ⟨sl',e2⟩
 free:=λc ob q n hx=>by
  obtain ⟨o',e1⟩:=a.there c ob q hx;exact b.free c o' e1 (a.free c ob q n hx) hx
 there:=λc ob q hx=>by
  obtain ⟨o',e1⟩:=a.there c ob q hx;exact b.there c o' e1 hx
 rJ:=λc xs q=>b.rJ c xs (a.rJ c xs q)
 qQ:=λc ob xs q=>b.qQ c ob xs (a.qQ c ob xs q)
 qR:=λc ps q=>by
  obtain ⟨m1,e1⟩:=a.qR c ps q;obtain ⟨m2,e2⟩:=b.qR c _ e1;exact ⟨m1++m2,by rw [e2,RZ]⟩
theorem Un.kept (k:∀ b u,h.get? b=some u->h'.get? b=some u):Un fs ex H H h h':=
 ⟨λb ob q _ _ _=>k b ob q,λb ob q _ _ _=>⟨ob.slots,k b ob q⟩,λ_ _ _ n _=>n,λb ob q _=>⟨ob,k b ob q⟩,λ_ _ q=>q,λ_ _ _ q=>q,λ_ ps q=>⟨#[],by rw [q];simp⟩⟩
theorem Un.refl:Un fs ex H H h h:=Un.kept λ_ _ q=>q
theorem Un.laid (k:∀ b u,h.get? b=some u->h'.get? b=some u) (hp:h.objs.size<=a) (hn:H a=none):Un fs ex H (upd H a o) h h' where
 keep:=λb u q _ _ _=>k b u q
 slot:=λb u q _ _ _=>⟨u.slots,k b u q⟩
 free:=λb u q n _=>by rw [au (Qj (Qm (Heap.lt_size q) hp))];exact n
 there:=λb u q _=>⟨u,k b u q⟩
 rJ:=λb xs q=>by rw [au (aw q hn)];exact q
 qQ:=λb u xs q=>by rw [au (aw q hn)];exact q
 qR:=λb ps q=>⟨#[],by rw [au (aw q hn),q];simp⟩
theorem Un.write (mu:Mut (H x)) (he:e=x\/H e=some (.own x)) (k:∀ b u,b≠e->h.get? b=some u->h'.get? b=some u) (heo:∃ u,h'.get? e=some u):Un fs ex H (upd H x o) h h':=by
 have hx:∀ b,H b=none->b≠x:=λb n z=>by subst z;rw [n] at mu;exact mu
 have hb:∀ b,H b=none->b≠e:=λb n z=>by
  subst z;rcases he with r | r
  ·exact hx b n r
  ·rw [n] at r;cases r
 have hm:∀ b u,H b=some u -> ¬ Mut (some u)->b≠x:=λb u q nm z=>by subst z;rw [q] at mu;exact nm mu
 refine ⟨λb u q n _ _=>k b u (hb b n) q,λb u q n _ _=>⟨u.slots,k b u (hb b n) q⟩,λb u q n _=>by rw [au (hx b n)];exact n,λb u q _=>?_,
  λb xs q=>by rw [au (hm b _ q λz=>z)];exact q,λb u xs q=>by rw [au (hm b _ q λz=>z)];exact q,λb ps q=>⟨#[],by rw [au (hm b _ q λz=>z),q];simp⟩⟩
 by_cases hbe:b=e
 ·subst hbe;exact heo
 ·exact ⟨u,k b u hbe q⟩
end
def trk (h:Heap) (H:Hp):List Addr:=(List.range h.objs.size).filter λa=>(H a).isSome
def zr (h:Heap) (H:Hp):Heap:=PySem.W.hideAll h (trk h H)
theorem Dq (h:Heap) (H:Hp):(zr h H).objs.size=h.objs.size:=PySem.W.hideAll_size _ _
theorem y4 {h:Heap}{H:Hp}{b:Addr}{o:Obj} (e:h.get? b=some o) (n:H b=none):(zr h H).get? b=some o:=
 PySem.W.hideAll_get _ e λhm=>by
  have q:(H b).isSome=true:=(QY.mp hm).2;rw [n] at q;simp at q
theorem Iw {h:Heap}{H:Hp}{b:Addr}{o:Obj} (e:(zr h H).get? b=some o):h.get? b=some o/\H b=none:=by
 have e':h.get? b=some o:=PySem.W.of_hideAll (trk h H) e;refine ⟨e',?_⟩;cases q:H b with
 | none=>rfl
 | some x=>
  have hm:b∈trk h H:=QY.mpr ⟨QA.mpr (Heap.lt_size e'),by simp [q]⟩;have z:(zr h H).get? b=none:=PySem.W.hideAll_none (trk h H) hm;rw [z] at e;cases e
def GO (g h:Heap) (L:Addr):List (Addr×Obj):=(List.range h.objs.size).filterMap λa=>if a=L\/(g.get? a).isSome=true then none else (h.get? a).map λo=>(a,o)
def rest (g h:Heap) (L d:Addr):List (Addr×Obj):=(GO g h L).filter λp=>decide (p.1≠d)
structure Mod (K:Vz) (mg:Str->Option Vy) (base:Heap):Prop where
 kin:K.In base
 glob:base.Ns mainGlobals mg
 blt:∃ mb,base.Ns builtinsNs mb/\∀ x:Str,x ≠ "__name__" -> mb x=bootBuiltins x
 nolimit:base.NoLimit
structure Cx where
 prog:Program
 w:World
 K:Vz
 mg:Str->Option Vy
 base:Heap
 A:Around
 N:List Str
 s₀:Vx
 H₀:Hp
 env:Env
 outer:List Env
 stack:List Env
 ex:List Addr
 fn:Str->Bool
 calm:Bool
 pn:List (Addr×Obj)
 xe:Vy->Vx->Prop
def frs (l:List Env):List Addr:=l.filterMap (·.frame)
abbrev Cx.fs (X:Cx):List Addr:=frs X.outer
def Vis (sc:Scope) (x:Str):Prop:=sc.names.lookup x=some .local\/sc.names.lookup x=some .cell\/sc.names.lookup x=some .free
def Loc (sc:Scope) (x:Str):Prop:=sc.names.lookup x=some .local\/sc.names.lookup x=some .cell
def Look (env:Env) (h:Heap) (m:Str->Option Vy) (x:Str) (u:Vy):Prop:=
 (env.kindOf x=some .local/\m x=some u)\/((env.kindOf x=some .cell\/env.kindOf x=some .free)/\∃ c,env.cells.lookup x=some c/\h.IsCell c (some u))
structure Cx.Ok (X:Cx):Prop where
 mod:Mod X.K X.mg X.base
 kind:X.env.scope.kind = .function
 glob:X.env.globals=mainGlobals
 blt:X.env.builtins=builtinsNs
 above:X.s₀.heap.objs.size<=X.env.locals
 inj:∀ x y c,X.env.cells.lookup x=some c->X.env.cells.lookup y=some c->x=y
 has:∀ x,(X.env.kindOf x=some .cell\/X.env.kindOf x=some .free)->∃ c,X.env.cells.lookup x=some c
 cab:∀ x c,X.fn x=true->X.env.cells.lookup x=some c->X.s₀.heap.objs.size<=c
 hd:X.calm=true->X.A.handled=none
 frames:X.A.frames=some X.stack
 stk:X.stack=X.outer\/(X.stack=X.env::X.outer/\X.env.frame=some X.env.locals)
 exf:∀ b∈X.ex,b≠X.env.locals/\∀ x c,X.env.cells.lookup x=some c->c≠b
 bs:∀ b o,X.base.get? b=some o->X.s₀.heap.get? b=some o/\X.H₀ b=none
 bsz:X.base.objs.size<=X.s₀.heap.objs.size
 E3:∀ b o,X.base.get? b=some o->b∉X.ex
 DM:∀ b∈X.ex,b∉X.fs
 nU:X.s₀.heap.FunFrames X.base X.outer
 frf:∀ b∈X.fs,X.H₀ b=none
structure Inv (X:Cx) (pins:List (Addr×Obj)) (σ:List (Option V)) (H:Hp) (s:Vx):Prop where
 ok:X.Ok
 os:s.os=X.s₀.os
 bare:AllBare s.gens
 base:Un X.fs X.ex X.H₀ H X.s₀.heap s.heap
 loc:∃ m,s.heap.Ns X.env.locals m/\∀ (i:Nat) (x:Str) (v:V),X.N[i]? = some x->σ[i]? = some (some v)->Vis X.env.scope x->∃ u,RelV v u/\Look X.env s.heap m x u
 cell:∀ x c,X.env.cells.lookup x=some c->∃ v,s.heap.IsCell c v
 free:H X.env.locals=none
 j9:∀ x c,X.env.cells.lookup x=some c->H c=none
 pin:∀ p∈X.pn++pins,s.heap.get? p.1=some p.2/\H p.1=none/\p.1≠X.env.locals/\p.1∉X.fs/\∀ v,p.2.data ≠ .cell v
 hok:HOk X.prog X.w H s.heap
 len:σ.length=X.N.length
section
variable {X:Cx}{pins:List (Addr×Obj)}{σ:List (Option V)}{H H':Hp}{s:Vx}{h':Heap}
theorem Cx.Ok.Ni (ok:X.Ok) {b:Addr}{o:Obj} (e:X.base.get? b=some o):b∉X.fs:=λhb=>by
 have:=(ok.nU.mem hb).1;rw [e] at this;cases this
theorem Inv.bs (I:Inv X pins σ H s):∀ b o,X.base.get? b=some o->s.heap.get? b=some o/\H b=none:=λb o e=>
 ⟨I.base.keep b o (I.ok.bs b o e).1 (I.ok.bs b o e).2 (I.ok.Ni e) (I.ok.E3 b o e),I.base.free b o (I.ok.bs b o e).1 (I.ok.bs b o e).2 (I.ok.E3 b o e)⟩
theorem Inv.bk (I:Inv X pins σ H s):∀ b o,X.base.get? b=some o->s.heap.get? b=some o:=λb o e=>(I.bs b o e).1
theorem Inv.mod (I:Inv X pins σ H s):Mod X.K X.mg X.base:=I.ok.mod
theorem Inv.kIn (I:Inv X pins σ H s):X.K.In s.heap:=I.ok.mod.kin.keeps I.bk
theorem Inv.nolimit (I:Inv X pins σ H s):s.heap.NoLimit:=I.ok.mod.nolimit.keeps I.bk
theorem Inv.fr (I:Inv X pins σ H s):∃ m,Fr X.base X.env.locals s.heap m:=
 let ⟨m,hn,_⟩:=I.loc
 ⟨m,hn,I.bk,P2 I.ok.bsz I.ok.above⟩
theorem Inv.lt (I:Inv X pins σ H s):X.env.locals<s.heap.objs.size:=let ⟨_,hn,_⟩:=I.loc;hn.lt
theorem Inv.sz (I:Inv X pins σ H s):X.s₀.heap.objs.size<=s.heap.objs.size:=P2 I.ok.above (Rq I.lt)
theorem Inv.Mo (I:Inv X pins σ H s) {a:Addr} (h:s.heap.objs.size<=a):a∉X.fs:=λhb=>by
 obtain ⟨_,o,ho,_⟩:=I.ok.nU.mem hb;exact absurd (Qm (Heap.lt_size ho) (P2 I.sz h)) (QF _)
theorem Inv.cne (I:Inv X pins σ H s):∀ x c,X.env.cells.lookup x=some c->c≠X.env.locals:=λx c e z=>by
 obtain ⟨v,o,ho,hd⟩:=I.cell x c e;obtain ⟨m,⟨o',es,ep,ho',hd',_⟩,_⟩:=I.loc;rw [z,ho'] at ho;cases ho;rw [hd'] at hd;cases hd
theorem Inv.nU (I:Inv X pins σ H s):s.heap.FunFrames X.base X.outer:=by
 have all:∀ (l:List Env),(∀ b∈frs l,b∈X.fs)->X.s₀.heap.FunFrames X.base l->s.heap.FunFrames X.base l:=by
  intro l
  induction l with
  | nil=>intro _ _;trivial
  | cons env r ih=>
   intro hs hl;obtain ⟨hk,⟨L,o,hf,hn,ho,hd⟩,hr⟩:=hl;have hL:L∈X.fs:=hs L (by unfold frs;rw [Rz,hf];exact P5);obtain ⟨sl,e⟩:=I.base.slot L o ho (I.ok.frf L hL) hL λz=>I.ok.DM L z hL;exact ⟨hk,⟨L,_,hf,hn,e,hd⟩,ih (λb hb=>hs b (by unfold frs;rw [Rz,hf];exact PY _ hb)) hr⟩
 exact all X.outer (λ_ hb=>hb) I.ok.nU
theorem Inv.stack (I:Inv X pins σ H s):s.heap.FunFrames X.base X.stack:=by
 rcases I.ok.stk with e | ⟨e,hf⟩
 ·rw [e];exact I.nU
 ·rw [e];obtain ⟨m,hn,_⟩:=I.loc;refine .cons (by rw [I.ok.kind];decide) hf hn ?_ I.nU;exact Heap.get?_none_of_le (P2 I.ok.bsz I.ok.above)
theorem Inv.Av (I:Inv X pins σ H s):∀ b∈frs X.stack,b∈X.env.locals::X.fs:=λb hb=>by
 rcases I.ok.stk with e | ⟨e,hf⟩
 ·rw [e] at hb;exact PY _ hb
 ·rw [e] at hb;unfold frs at hb;rw [Rz,hf] at hb;exact hb
theorem Inv.Cd (I:Inv X pins σ H s):∀ b∈frs X.stack,H b=none:=λb hb=>by
 rcases Qi.mp (I.Av b hb) with e | hb
 ·rw [e];exact I.free
 ·obtain ⟨_,o,ho,_⟩:=I.ok.nU.mem hb;exact I.base.free b o ho (I.ok.frf b hb) λz=>I.ok.DM b z hb
theorem Inv.step {g':Array GenState}{t':Nat}{d':Drawn}{ch:List Addr} (I:Inv X pins σ H s)
  (hch:∀ b∈ch,(b∈X.ex\/X.s₀.heap.objs.size<=b)/\b≠X.env.locals/\(∀ x c,X.env.cells.lookup x=some c->c≠b)/\∀ p∈X.pn++pins,p.1≠b)
  (keep:∀ b o,b≠X.env.locals->b∉X.fs->b∉ch->s.heap.get? b=some o->H b=none->h'.get? b=some o)
  (slot:∀ b o,b≠X.env.locals->b∈X.fs->b∉ch->s.heap.get? b=some o->H b=none->∃ sl,h'.get? b=some { o with slots:=sl }) (free:∀ b o,b∉ch->s.heap.get? b=some o->H b=none->H' b=none)
  (there:∀ b o,b∉ch->s.heap.get? b=some o->∃ o',h'.get? b=some o')
  (rJ:∀ b xs,H b=some (.tup xs)->H' b=some (.tup xs)) (qQ:∀ b o u,H b=some (.frz o u)->H' b=some (.frz o u)) (qR:∀ b ps,H b=some (.tbl ps)->∃ more,H' b=some (.tbl (ps++more)))
  (ns:∀ m,s.heap.Ns X.env.locals m->h'.Ns X.env.locals m) (hok:HOk X.prog X.w H' h') (hg:AllBare g') :
  Inv X pins σ H' { s with heap:=h',gens:=g',drawn:=d',toks:=t' }:=by
 have neL:∀ b o,X.s₀.heap.get? b=some o->b≠X.env.locals:=λb o e=>Qj (Qm (Heap.lt_size e) I.ok.above);have neC:∀ b o,X.s₀.heap.get? b=some o->b∉X.ex->b∉ch:=λb o e hx hb=>by
  rcases (hch b hb).1 with z | z
  ·exact hx z
  ·exact absurd (Qm (Heap.lt_size e) z) (QF _)
 have cellK:∀ x c,X.env.cells.lookup x=some c->∀ v,s.heap.IsCell c v->h'.IsCell c v:=λx c e v ⟨o,ho,hd⟩=>by
  have nch:c∉ch:=λz=>(hch c z).2.2.1 x c e rfl;by_cases hc:c∈X.fs
  ·obtain ⟨sl,q⟩:=slot c o (I.cne x c e) hc nch ho (I.j9 x c e);exact ⟨_,q,hd⟩
  ·exact ⟨o,keep c o (I.cne x c e) hc nch ho (I.j9 x c e),hd⟩
 refine ⟨I.ok,I.os,hg,⟨λb o e n hb hx=>?_,λb o e n hb hx=>?_,λb o e n hx=>?_,λb o e hx=>?_,λb xs e=>rJ b xs (I.base.rJ b xs e),λb o xs e=>qQ b o xs (I.base.qQ b o xs e),λb ps e=>?_⟩,?_,λx c e=>?_,?_,λx c e=>?_,λp hp=>?_,hok,I.len⟩
 ·exact keep b o (neL b o e) hb (neC b o e hx) (I.base.keep b o e n hb hx) (I.base.free b o e n hx)
 ·obtain ⟨sl,e1⟩:=I.base.slot b o e n hb hx;obtain ⟨sl',e2⟩:=slot b _ (neL b o e) hb (neC b o e hx) e1 (I.base.free b o e n hx);exact ⟨sl',e2⟩
 ·obtain ⟨o',e1⟩:=I.base.there b o e hx;exact free b o' (neC b o e hx) e1 (I.base.free b o e n hx)
 ·obtain ⟨o',e1⟩:=I.base.there b o e hx;exact there b o' (neC b o e hx) e1
 ·obtain ⟨m1,e1⟩:=I.base.qR b ps e;obtain ⟨m2,e2⟩:=qR b _ e1;exact ⟨m1++m2,by rw [e2,RZ]⟩
 ·obtain ⟨m,hn,hl⟩:=I.loc;refine ⟨m,ns m hn,λi x v e1 e2 e3=>?_⟩;obtain ⟨u,r,l⟩:=hl i x v e1 e2 e3;refine ⟨u,r,?_⟩;rcases l with l | ⟨k,c,e,z⟩
  ·exact .inl l
  ·exact .inr ⟨k,c,e,cellK x c e _ z⟩
 ·obtain ⟨v,z⟩:=I.cell x c e;exact ⟨v,cellK x c e v z⟩
 ·obtain ⟨m,⟨o,_,_,ho,_⟩,_⟩:=I.loc;exact free _ o (λz=>(hch _ z).2.1 rfl) ho I.free
 ·obtain ⟨v,o,ho,hd⟩:=I.cell x c e;exact free c o (λz=>(hch c z).2.2.1 x c e rfl) ho (I.j9 x c e)
 ·obtain ⟨e,n,ne,nf,d⟩:=I.pin p hp;have nch:p.1∉ch:=λz=>(hch p.1 z).2.2.2 p hp rfl;exact ⟨keep p.1 p.2 ne nf nch e n,free p.1 p.2 nch e n,ne,nf,d⟩
theorem Inv.un {t':Nat} (I:Inv X pins σ H s) (u:Un X.fs [] H H' s.heap h') (hok:HOk X.prog X.w H' h'):Inv X pins σ H' { s with heap:=h',toks:=t' }:=by
 obtain ⟨m,⟨o,es,ep,ho,r⟩,_⟩:=id I.loc;obtain ⟨sl,hL⟩:=u.any ho I.free (by simp);exact I.step (g':=s.gens) (d':=s.drawn) (ch:=[]) (λ_ z=>nomatch z) (λb o _ hb _ e n=>u.keep b o e n hb (by simp)) (λb o _ hb _ e n=>u.slot b o e n hb (by simp)) (λb o _ e n=>u.free b o e n (by simp)) (λb o _ e=>u.there b o e (by simp)) u.rJ u.qQ u.qR (λm' hm=>by
  obtain ⟨o',es',ep',ho',r'⟩:=hm;rw [ho] at ho';cases ho';exact ⟨_,es',ep',hL,r'⟩) hok I.bare
theorem Inv.call {g':Array GenState}{t':Nat}{d':Drawn}{ch:List Addr} (I:Inv X pins σ H s) (u:Un (frs X.stack) ch H H' s.heap h') (hok:HOk X.prog X.w H' h') (hg:AllBare g')
  (hch:∀ b∈ch,(b∈X.ex\/X.s₀.heap.objs.size<=b)/\b≠X.env.locals/\(∀ x c,X.env.cells.lookup x=some c->c≠b)/\∀ p∈X.pn++pins,p.1≠b) :
  Inv X pins σ H' { s with heap:=h',gens:=g',drawn:=d',toks:=t' }:=by
 obtain ⟨m,⟨o,es,ep,ho,r⟩,_⟩:=id I.loc;obtain ⟨sl,hL⟩:=u.any ho I.free λz=>(hch _ z).2.1 rfl;exact I.step (ch:=ch) hch (λb o hL hb hc e n=>u.keep b o e n (λz=>(Qi.mp (I.Av b z)).elim hL hb) hc) (λb o _ _ hc e n=>u.any e n hc) (λb o hc e n=>u.free b o e n hc) (λb o hc e=>u.there b o e hc) u.rJ u.qQ u.qR (λm' hm=>by
  obtain ⟨o',es',ep',ho',r'⟩:=hm;rw [ho] at ho';cases ho';exact ⟨_,es',ep',hL,r'⟩) hok hg
theorem Inv.turned {t':Nat}{it:Addr} (I:Inv X pins σ H s) (k:∀ b o,b≠it->s.heap.get? b=some o->h'.get? b=some o) (hn:H it=none) (hL:it≠X.env.locals)
  (h1:it∈X.ex\/X.s₀.heap.objs.size<=it) (h2:∀ x c,X.env.cells.lookup x=some c->c≠it) (h3:∀ p∈X.pn++pins,p.1≠it):Inv X pins σ H { s with heap:=h',toks:=t' }:=by
 have nit:∀ b u,H b=some u->b≠it:=λb u e z=>by rw [z,hn] at e;cases e
 refine I.step (g':=s.gens) (d':=s.drawn) (ch:=[it]) (λb hb=>?_) (λb o _ _ hc e _=>k b o (λz=>hc (by simp [z])) e) (λb o _ _ hc e _=>⟨o.slots,k b o (λz=>hc (by simp [z])) e⟩) (λ_ _ _ _ n=>n)
  (λb o hc e=>⟨o,k b o (λz=>hc (by simp [z])) e⟩) (λ_ _ e=>e) (λ_ _ _ e=>e) (λb ps e=>⟨#[],by rw [e];simp⟩) (λm hm=>?_) (λb u e=>?_) I.bare
 ·have e:b=it:=by simpa using hb
  subst e;exact ⟨h1,hL,h2,h3⟩
 ·obtain ⟨o,es,ep,ho,r⟩:=hm;exact ⟨o,es,ep,k _ o (Ne.symm hL) ho,r⟩
 ·refine (I.hok b u e).xo (λc v hc q=>k c v ?_ q) (λ_ q=>q) λ_ _ q=>q;rcases hc with z | z
  ·rw [z];exact nit b u e
  ·exact nit c _ z
theorem Inv.tok (I:Inv X pins σ H s) (t:Nat):Inv X pins σ H { s with toks:=t }:=I.un (h':=s.heap) (t':=t) Un.refl I.hok
theorem Inv.kept {t':Nat} (I:Inv X pins σ H s) (k:∀ b u,s.heap.get? b=some u->h'.get? b=some u):Inv X pins σ H { s with heap:=h',toks:=t' }:=I.un (Un.kept k) (I.hok.kept k)
theorem Inv.laid {a:Addr}{o:HO}{t':Nat} (I:Inv X pins σ H s) (k:∀ b u,s.heap.get? b=some u->h'.get? b=some u) (hp:s.heap.objs.size<=a) (new:bU X.prog X.w (upd H a o) h' a o) :
  Inv X pins σ (upd H a o) { s with heap:=h',toks:=t' }:=I.un (Un.laid k hp (I.hok.fresh hp)) (I.hok.laid k hp new)
theorem Inv.write {x e:Addr}{o:HO}{t':Nat} (I:Inv X pins σ H s) (mu:Mut (H x)) (he:e=x\/H e=some (.own x)) (k:∀ b u,b≠e->s.heap.get? b=some u->h'.get? b=some u) (heo:∃ u,h'.get? e=some u)
  (new:bU X.prog X.w (upd H x o) h' x o):Inv X pins σ (upd H x o) { s with heap:=h',toks:=t' }:=I.un (Un.write mu he k heo) (I.hok.write mu he k heo new)
theorem Inv.nN {IH:List (Addr×Obj)} (I:Inv X pins σ H s) (h:∀ p∈IH,s.heap.get? p.1=some p.2/\H p.1=none/\p.1≠X.env.locals/\p.1∉X.fs/\∀ v,p.2.data ≠ .cell v):Inv X IH σ H s:=
 ⟨I.ok,I.os,I.bare,I.base,I.loc,I.cell,I.free,I.j9,λp hp=>(Qc.mp hp).elim (λz=>I.pin p (Rn _ z)) (h p),I.hok,I.len⟩
theorem yt {N:List Str} (hN:N.Nodup) {i j:Nat}{x:Str} (a:N[i]? = some x) (b:N[j]? = some x):i=j:=by
 obtain ⟨h1,e1⟩:=QP.mp a;obtain ⟨h2,e2⟩:=QP.mp b;exact (List.getElem_inj hN).mp (e1.trans e2.symm)
theorem vb {M:Model}{A:Around}{E:Vy->Vx->Prop}{i:Nat}{x:Str}{v:V}{u:Vy}{Q:Unit->Vx->Prop} (I:Inv X pins σ H s) (hN:X.N.Nodup) (hi:X.N[i]? = some x) (hx:Loc X.env.scope x) (r:RelV v u)
  (h:∀ s',Inv X pins (σ.set i (some v)) H s'->(∃ a,Heap.SameBut a s.heap s'.heap/\(a=X.env.locals\/X.env.cells.lookup x=some a))->Q () s') (hf:X.fn x=true\/X.env.scope.names.lookup x=some .local:=by first | exact .inl rfl | exact .inr rfl | assumption):wpAny M A (storeName X.env x u) Q E s:=by
 obtain ⟨m,hn,hl⟩:=id I.loc;have NC:(X.env.scope.kind == .class || (X.env.scope.kind == .module && X.env.locals != X.env.globals))=false:=by rw [I.ok.kind];rfl
 have hiσ:i<σ.length:=by rw [I.len];exact (QP.mp hi).1
 have cne:=I.cne;have tracked:∀ {a:Addr}{h':Heap},(∃ o,s.heap.get? a=some o/\H a=none)->Heap.SameBut a s.heap h'->HOk X.prog X.w H h':=λ{a h'} ha hs b ob e=>by
  obtain ⟨_,_,IL⟩:=ha;refine (I.hok b ob e).xo (λc w' hc q=>(hs.2 c ?_).trans q) (λ_ q=>q) λ_ _ q=>q;rintro rfl;rcases hc with rfl | hc
  ·rw [IL] at e;cases e
  ·rw [IL] at hc;cases hc
 rcases hx with hk | hk
 ·refine wpAny_storeName_local hk hn (λh' hn' hs=>?_) NC;obtain ⟨oL,_,_,hoL,_⟩:=id hn;refine h _ ⟨I.ok,I.os,I.bare,⟨λb o e n hb hx=>?_,λb o e n hb hx=>?_,I.base.free,λb o e hx=>?_,I.base.rJ,I.base.qQ,I.base.qR⟩,⟨_,hn',λj y v' e1 e2 e3=>?_⟩,λy c e=>?_,I.free,I.j9,λp hp=>?_,tracked ⟨oL,hoL,I.free⟩ hs,by simpa using I.len⟩ ⟨_,hs,.inl rfl⟩
  ·exact (hs.2 b (Qj (Qm (Heap.lt_size e) I.ok.above))).trans (I.base.keep b o e n hb hx)
  ·obtain ⟨sl,e1⟩:=I.base.slot b o e n hb hx;exact ⟨sl,(hs.2 b (Qj (Qm (Heap.lt_size e) I.ok.above))).trans e1⟩
  ·obtain ⟨o',e1⟩:=I.base.there b o e hx;exact ⟨o',(hs.2 b (Qj (Qm (Heap.lt_size e) I.ok.above))).trans e1⟩
  ·by_cases hj:j=i
   ·subst hj;rw [hi] at e1;cases e1;rw [Rg hiσ] at e2;cases e2;exact ⟨u,r,.inl ⟨hk,by simp⟩⟩
   ·rw [List.getElem?_set_ne (Ne.symm hj)] at e2;obtain ⟨u',r',q⟩:=hl j y v' e1 e2 e3;refine ⟨u',r',?_⟩;rcases q with ⟨k,e⟩ | ⟨k,c,e,z⟩
    ·refine .inl ⟨k,?_⟩;have:y≠x:=λe=>hj (yt hN e1 (e ▸ hi));simp [this,e]
    ·exact .inr ⟨k,c,e,z.sameBut hs (cne y c e)⟩
  ·obtain ⟨w',z⟩:=I.cell y c e;exact ⟨w',z.sameBut hs (cne y c e)⟩
  ·obtain ⟨e,n,ne,nf,d⟩:=I.pin p hp;exact ⟨(hs.2 p.1 ne).trans e,n,ne,nf,d⟩
 ·have hfn:X.fn x=true:=by
   rcases hf with z | z
   ·exact z
   ·rw [z] at hk;cases hk
  obtain ⟨c,hc⟩:=I.ok.has x (.inl hk);obtain ⟨w',z⟩:=I.cell x c hc;refine wpAny_storeName_cell I.ok.kind hk hc z (λh' hc' hs=>?_);obtain ⟨oc,hoc,OS⟩:=id z;refine h { s with heap:=h' } ⟨I.ok,I.os,I.bare,⟨λb o e n hb hx=>?_,λb o e n hb hx=>?_,I.base.free,λb o e hx=>?_,I.base.rJ,I.base.qQ,I.base.qR⟩,⟨m,hn.sameBut hs (Ne.symm (cne x c hc)),λj y v' e1 e2 e3=>?_⟩,λy c' e=>?_,I.free,I.j9,λp hp=>?_,tracked ⟨oc,hoc,I.j9 x c hc⟩ hs,by simpa using I.len⟩ ⟨c,hs,.inr hc⟩
  ·exact (hs.2 b (Qj (Qm (Heap.lt_size e) (I.ok.cab x c hfn hc)))).trans (I.base.keep b o e n hb hx)
  ·obtain ⟨sl,e1⟩:=I.base.slot b o e n hb hx;exact ⟨sl,(hs.2 b (Qj (Qm (Heap.lt_size e) (I.ok.cab x c hfn hc)))).trans e1⟩
  ·obtain ⟨o',e1⟩:=I.base.there b o e hx;exact ⟨o',(hs.2 b (Qj (Qm (Heap.lt_size e) (I.ok.cab x c hfn hc)))).trans e1⟩
  ·by_cases hj:j=i
   ·subst hj;rw [hi] at e1;cases e1;rw [Rg hiσ] at e2;cases e2;exact ⟨u,r,.inr ⟨.inl hk,c,hc,hc'⟩⟩
   ·rw [List.getElem?_set_ne (Ne.symm hj)] at e2;obtain ⟨u',r',q⟩:=hl j y v' e1 e2 e3;refine ⟨u',r',?_⟩;rcases q with q | ⟨k,c',e,z'⟩
    ·exact .inl q
    ·refine .inr ⟨k,c',e,z'.sameBut hs ?_⟩;rintro rfl;exact hj (yt hN e1 (I.ok.inj _ _ _ e hc ▸ hi))
  ·by_cases hcc:c' = c
   ·subst hcc;exact ⟨_,hc'⟩
   ·obtain ⟨w2,z2⟩:=I.cell y c' e;exact ⟨w2,z2.sameBut hs hcc⟩
  ·obtain ⟨e,n,ne,nf,d⟩:=I.pin p hp;refine ⟨(hs.2 p.1 ?_).trans e,n,ne,nf,d⟩;intro q;rw [q,hoc] at e;have q':oc=p.2:=Option.some.inj e;exact d w' (by rw [<-q'];exact OS)
theorem yg {M:Model}{A:Around}{E:Vy->Vx->Prop}{i:Nat}{x:Str}{v:V}{u:Vy}{Q:Unit->Vx->Prop} (I:Inv X pins σ H s) (hN:X.N.Nodup) (hi:X.N[i]? = some x) (hx:Loc X.env.scope x) (r:RelV v u)
  (h:∀ s',Inv X pins (σ.set i (some v)) H s'->Q () s') (hf:X.fn x=true\/X.env.scope.names.lookup x=some .local:=by first | exact .inl rfl | exact .inr rfl | assumption):wpAny M A (storeName X.env x u) Q E s:=
 vb I hN hi hx r (λs' I' _=>h s' I') hf
theorem Inv.K8 {s':Vx}{ch:List Addr} (I:Inv X pins σ H s) (ho:s'.os=s.os) (u:Un (frs X.stack) ch H H' s.heap s'.heap) (hok:HOk X.prog X.w H' s'.heap) (hg:AllBare s'.gens)
  (hch:∀ b∈ch,(b∈X.ex\/X.s₀.heap.objs.size<=b)/\b≠X.env.locals/\(∀ x c,X.env.cells.lookup x=some c->c≠b)/\∀ p∈X.pn++pins,p.1≠b):Inv X pins σ H' s':=by
 obtain ⟨h',g',d',t',o'⟩:=s';have e:o' = s.os:=ho;subst e;exact I.call (g':=g') (t':=t') (d':=d') u hok hg hch
end
abbrev XK:=Vy->Option Addr->Hp->Prop
abbrev St:=List (Option V)
abbrev VK:=V->Hp->Prop
abbrev TE:=St->Hp->VK->Prop
abbrev TT:=St->Hp->(Bool->Hp->Prop)->Prop
abbrev TA:=St->Hp->(List V->Hp->Prop)->Prop
structure Ends where
 nx:St->Hp->Prop
 rt:VK
 bk:St->Hp->Prop:=λ_ _=>False
 ct:St->Hp->Prop:=λ_ _=>False
abbrev TS:=Ends->St->Hp->Prop
def EP (X:Cx) (pins:List (Addr×Obj)) (σ:St) (Q:VK) (u:Vy) (s':Vx):Prop:=∃ v H',Inv X pins σ H' s'/\RelV v u/\Q v H'
def TP (X:Cx) (pins:List (Addr×Obj)) (σ:St) (Q:Bool->Hp->Prop) (b:Bool) (s':Vx):Prop:=∃ H',Inv X pins σ H' s'/\Q b H'
def AP (X:Cx) (pins:List (Addr×Obj)) (σ:St) (Q:List V->Hp->Prop) (us:List Vy) (s':Vx):Prop:=∃ vs H',Inv X pins σ H' s'/\aS vs us/\Q vs H'
def SP (X:Cx) (pins:List (Addr×Obj)) (D:Ends) (f:Flow) (s':Vx):Prop:=
 match f with
 | .next=>∃ σ' H',Inv X pins σ' H' s'/\D.nx σ' H'
 | .brk=>∃ σ' H',Inv X pins σ' H' s'/\D.bk σ' H'
 | .cont=>∃ σ' H',Inv X pins σ' H' s'/\D.ct σ' H'
 | .ret u=>∃ v σ' H',Inv X pins σ' H' s'/\RelV v u/\D.rt v H'
def PE (X:Cx) (e:Expr) (t:TE):Prop:=
 ∀ (pins:List (Addr×Obj)) (s:Vx) (σ:St) (H:Hp) (Q:VK),Inv X pins σ H s->t σ H Q->wpAny (model X.prog X.w) X.A (eval e X.env) (EP X pins σ Q) X.xe s
def PT (X:Cx) (e:Expr) (t:TT):Prop:=
 ∀ (pins:List (Addr×Obj)) (s:Vx) (σ:St) (H:Hp) (Q:Bool->Hp->Prop),Inv X pins σ H s->t σ H Q->wpAny (model X.prog X.w) X.A (isTrue e X.env (eval e X.env)) (TP X pins σ Q) X.xe s
def PW (X:Cx) (e:Expr) (t:TT):Prop:=
 ∀ (whole:Sem Vy) (pins:List (Addr×Obj)) (s:Vx) (σ:St) (H:Hp) (Q:Bool->Hp->Prop),Inv X pins σ H s->t σ H Q->wpAny (model X.prog X.w) X.A (isTrue e X.env whole) (TP X pins σ Q) X.xe s
theorem PW.pt {X:Cx}{e:Expr}{t:TT} (h:PW X e t):PT X e t:=h _
def PA (X:Cx) (es:List Expr) (t:TA):Prop:=
 ∀ (pos:Pos) (pins:List (Addr×Obj)) (s:Vx) (σ:St) (H:Hp) (Q:List V->Hp->Prop),Inv X pins σ H s->t σ H Q->wpAny (model X.prog X.w) X.A (spliced (backTo pos (starEach es X.env))) (AP X pins σ Q) X.xe s
def PS (X:Cx) (st:Stmt) (t:TS):Prop:=
 ∀ (pins:List (Addr×Obj)) (s:Vx) (σ:St) (H:Hp) (D:Ends),Inv X pins σ H s->t D σ H->wpAny (model X.prog X.w) X.A (exec st X.env) (SP X pins D) X.xe s
def PSs (X:Cx) (st:List Stmt) (t:TS):Prop:=
 ∀ (pins:List (Addr×Obj)) (s:Vx) (σ:St) (H:Hp) (D:Ends),Inv X pins σ H s->t D σ H->wpAny (model X.prog X.w) X.A (execs st X.env) (SP X pins D) X.xe s
theorem thn {α:Type}{t:Sem α}{Q Q':α->Vx->Prop}{M:Model}{A:Around}{E:Vy->Vx->Prop}{s:Vx} (h:wpAny M A t Q E s) (hQ:∀ a s,Q a s->Q' a s):wpAny M A t Q' E s:=Vt h hQ λ_ _ x=>x
section
variable {X:Cx}
def tY (i:Nat):TE:=λσ H Q=>∃ v,σ[i]? = some (some v)/\Q v H
def tC (v:V):TE:=λ_ H Q=>Q v H
theorem J8 {i:Nat}{x:Str}{pos:Pos} (hN:X.N[i]? = some x) (hv:Vis X.env.scope x) (hd:(x == ("__debug__" : Str))=false:=by decide) (hcd:(x == ("__classdict__" : Str))=false:=by decide):PE X (.Name x pos) (tY i):=by
 intro pins s σ H Q I h;obtain ⟨v,e,h⟩:=h;obtain ⟨m,hn,hl⟩:=I.loc;obtain ⟨u,r,l⟩:=hl i x v hN e hv;have fin:EP X pins σ Q u s:=⟨v,H,I,r,h⟩;rcases l with ⟨hk,hm⟩ | ⟨hk,c,hc,va⟩
 ·exact wpAny_Name (wpAny_loadName_local I.ok.kind hk hn hm fin) hd
 ·rcases hk with hk | hk
  ·exact wpAny_Name (wpAny_loadName_cell I.ok.kind hk hc va fin) hd
  ·exact wpAny_Name (wpAny_loadName_free I.ok.kind hk hc va fin hcd) hd
theorem ar {i j pos}:PE X (.Constant (.int i) j pos) (tC (.int i)):=λ_ _ _ H _ I h=>wpAny_Constant_int ⟨.int i,H,I.tok _,⟨_,rfl⟩,h⟩
theorem jg {b j pos}:PE X (.Constant (.bool b) j pos) (tC (.bl b)):=λ_ _ _ H _ I h=>Constant_bool ⟨.bl b,H,I,rfl,h⟩
theorem AN {j pos}:PE X (.Constant .none j pos) (tC .non):=λ_ _ _ H _ I h=>Constant_none ⟨.non,H,I,rfl,h⟩
theorem aL {x j pos}:PE X (.Constant (.str x) j pos) (tC (.str x)):=λ_ _ _ H _ I h=>Calls.Constant_str ⟨.str x,H,I.tok _,⟨_,rfl⟩,h⟩
def Gl (X:Cx) (x:Str):Prop:=X.env.kindOf x=some .globalImplicit
theorem jE {E:Vy->Vx->Prop}{pins:List (Addr×Obj)}{s:Vx}{σ:St}{H:Hp}{x:Str}{u:Vy}{pos:Pos}{Q:Vy->Vx->Prop} (I:Inv X pins σ H s) (hg:Gl X x) (hm:X.mg x=some u) (h:Q u s)
  (hd:(x == ("__debug__" : Str))=false:=by decide):wpAny (model X.prog X.w) X.A (eval (.Name x pos) X.env) Q E s:=
 Calls.Name_function_global I.ok.kind hg (Calls.loadGlobal_global (by rw [I.ok.glob];exact I.mod.glob.keeps I.bk) hm h) hd
theorem gM {E:Vy->Vx->Prop}{pins:List (Addr×Obj)}{s:Vx}{σ:St}{H:Hp}{x:Str}{u:Vy}{pos:Pos}{Q:Vy->Vx->Prop} (I:Inv X pins σ H s) (hg:Gl X x) (hm:X.mg x=none) (hv:bootBuiltins x=some u) (h:Q u s)
  (hn:x ≠ "__name__" :=by decide) (hd:(x == ("__debug__" : Str))=false:=by decide):wpAny (model X.prog X.w) X.A (eval (.Name x pos) X.env) Q E s:=by
 obtain ⟨mb,h1,h2⟩:=I.mod.blt;exact Calls.Name_function_global I.ok.kind hg (Calls.loadGlobal_builtin (by rw [I.ok.glob];exact I.mod.glob.keeps I.bk) hm (by rw [I.ok.blt];exact h1.keeps I.bk) ((h2 x hn).trans hv) h) hd
theorem fE {x:Str}{v:V}{u:Vy}{pos:Pos} (hg:Gl X x) (hm:X.mg x=some u) (r:RelV v u) (hd:(x == ("__debug__" : Str))=false:=by decide):PE X (.Name x pos) (tC v):=
 λ_ _ _ H _ I h=>jE I hg hm ⟨v,H,I,r,h⟩ hd
theorem rh {x:Str}{v:V}{u:Vy}{pos:Pos} (hg:Gl X x) (hm:X.mg x=none) (hv:bootBuiltins x=some u) (r:RelV v u) (hn:x ≠ "__name__" :=by decide) (hd:(x == ("__debug__" : Str))=false:=by decide):PE X (.Name x pos) (tC v):=
 λ_ _ _ H _ I h=>gM I hg hm hv ⟨v,H,I,r,h⟩ hn hd
variable {a b:Expr}{ta tb:TE}{pos:Pos}
def tB (t:TE):TT:=λσ H Q=>t σ H λx H1=>∃ c,x = .bl c/\Q c H1
theorem cJ {e:Expr}{t:TE} (h:PE X e t) (he:∀ whole,isTrue e X.env whole=(do let v <-whole;standAt e.pos;holding [v] (truthy v)):=by intro _;rfl):PT X e (tB t):=by
 intro pins s σ H Q I hw;refine isTrue_plain (thn (h pins s σ H _ I hw) λv s1 ⟨x,H1,I1,r1,q1⟩=>?_) (he _);obtain ⟨d,rfl,q⟩:=q1;cases r1;exact wpAny_truthy_bool ⟨H1,I1,q⟩
variable {tA tB':TT}{rest:List Expr}
def Np (t u:TT):TT:=λσ H Q=>t σ H λc H1=>if c=true then u σ H1 Q else Q false H1
def tOr (t u:TT):TT:=λσ H Q=>t σ H λc H1=>if c=true then Q true H1 else u σ H1 Q
def KJ (t:TT):TT:=λσ H Q=>t σ H λc H1=>Q (!c) H1
theorem pw_and1 (ha:PT X a tA):PW X (.BoolOp .And [a] pos) tA:=by
 intro wh pins s σ H Q I h;refine isTrue_and (thn (ha pins s σ H Q I h) λc s1 e=>?_);cases c with
 | true=>exact isTrue_and_nil e
 | false=>exact e
theorem pw_or1 (ha:PT X a tA):PW X (.BoolOp .Or [a] pos) tA:=by
 intro wh pins s σ H Q I h;refine isTrue_or (thn (ha pins s σ H Q I h) λc s1 e=>?_);cases c with
 | false=>exact isTrue_or_nil e
 | true=>exact e
theorem pw_and (ha:PT X a tA) (hb:PW X (.BoolOp .And (b::rest) pos) tB'):PW X (.BoolOp .And (a::b::rest) pos) (Np tA tB'):=by
 intro wh pins s σ H Q I h;refine isTrue_and (thn (ha pins s σ H _ I h) λc s1 ⟨H1,I1,q1⟩=>?_);cases c with
 | true=>exact hb wh pins s1 σ H1 Q I1 q1
 | false=>exact ⟨H1,I1,q1⟩
theorem pw_or (ha:PT X a tA) (hb:PW X (.BoolOp .Or (b::rest) pos) tB'):PW X (.BoolOp .Or (a::b::rest) pos) (tOr tA tB'):=by
 intro wh pins s σ H Q I h;refine isTrue_or (thn (ha pins s σ H _ I h) λc s1 ⟨H1,I1,q1⟩=>?_);cases c with
 | true=>exact ⟨H1,I1,q1⟩
 | false=>exact hb wh pins s1 σ H1 Q I1 q1
theorem dD (ha:PT X a tA):PT X (.UnaryOp .Not a pos) (KJ tA):=by
 intro pins s σ H Q I h;exact isTrue_not (ha pins s σ H (λc H1=>Q (!c) H1) I h)
def Mu (ta tb:TE):TE:=λσ H Q=>ta σ H λx H1=>∃ c,x = .bl c/\if c=true then tb σ H1 Q else Q (.bl false) H1
theorem iP {op}{t:TE} (h:PE X a t):PE X (.BoolOp op [a] pos) t:=λpins s σ H Q I hw=>BoolOp_one (h pins s σ H Q I hw)
theorem fg (ha:PE X a ta) (hb:PE X (.BoolOp .And (b::rest) pos) tb):PE X (.BoolOp .And (a::b::rest) pos) (Mu ta tb):=by
 intro pins s σ H Q I h;refine BoolOp_and (thn (ha pins s σ H _ I h) λv s1 ⟨x,H1,I1,r1,q1⟩=>?_);obtain ⟨c,rfl,q1⟩:=q1;cases r1;refine wpAny_truthy_bool ?_;cases c with
 | true=>exact hb pins s1 σ H1 Q I1 q1
 | false=>exact ⟨.bl false,H1,I1,rfl,q1⟩
def tIf (t:TT) (ta tb:TE):TE:=λσ H Q=>t σ H λc H1=>if c=true then ta σ H1 Q else tb σ H1 Q
theorem k4 {c:Expr} (hc:PT X c tA) (ha:PE X a ta) (hb:PE X b tb):PE X (.IfExp c a b pos) (tIf tA ta tb):=by
 intro pins s σ H Q I h;refine wpAny_IfExp (thn (hc pins s σ H _ I h) λd s1 ⟨H1,I1,q1⟩=>?_);cases d with
 | true=>exact ha pins s1 σ H1 Q I1 q1
 | false=>exact hb pins s1 σ H1 Q I1 q1
end
def SqL (K:Vz) (H:Hp) (a:Addr) (xs:List V):Prop:=
 Rd H a (.lst xs) \/
  ∃ (o:Obj) (its:Array Vy) (n:Nat),K.lookup a=some o/\o.cls = .type "list" /\ o.dict=none/\o.data = .seq its n/\its.size<=sizeLine/\aS xs its.toList
def SqT (K:Vz) (H:Hp) (a:Addr) (xs:List V):Prop:=
 Rd H a (.tup xs) \/
  ∃ (o:Obj) (its:Array Vy) (n:Nat),K.lookup a=some o/\o.cls = .type "tuple" /\ o.data = .seq its n/\its.size<=sizeLine/\aS xs its.toList
def Oj:Vy->Option V
 | .none=>some .non
 | .bool b=>some (.bl b)
 | .int i _=>some (.int i)
 | .str x _=>some (.str x)
 | .bytes b _=>some (.byt b)
 | .float b _=>some (.flt b)
 | .ref a=>some (.ref a)
 | .type n=>some (.ty n)
 | _=>none
theorem RelV.abs {x:V}{u:Vy} (r:RelV x u):Oj u=some x:=by
 cases x with
 | non=>cases r;rfl
 | bl _=>cases r;rfl
 | int _=>obtain ⟨t,rfl⟩:=r;rfl
 | str _=>obtain ⟨t,rfl⟩:=r;rfl
 | byt _=>obtain ⟨t,rfl⟩:=r;rfl
 | flt _=>obtain ⟨t,rfl⟩:=r;rfl
 | ref _=>cases r;rfl
 | ty _=>cases r;rfl
theorem RelV.inj {x y:V}{u:Vy} (r:RelV x u) (q:RelV y u):x=y:=Option.some.inj (r.abs.symm.trans q.abs)
theorem aS.inj:∀ {xs ys:List V}{us:List Vy},aS xs us->aS ys us->xs=ys
 | _,_,_,.nil,.nil=>rfl
 | _,_,_,.cons r t,.cons r' t'=>by rw [r.inj r',aS.inj t t']
section
variable {X:Cx}{pins:List (Addr×Obj)}{σ:St}{H:Hp}{s:Vx}{a:Addr}{xs ys:List V}
theorem SqL.of {K:Vz} (h:H a=some (.lst xs)):SqL K H a xs:=.inl (.inl h)
theorem SqT.of {K:Vz} (h:H a=some (.tup xs)):SqT K H a xs:=.inl (.inl h)
theorem Inv.list (I:Inv X pins σ H s) (h:SqL X.K H a xs):∃ its:List Vy,aS xs its/\PlainL s.heap a its.toArray/\xs.length<=sizeLine:=by
 rcases h with h | ⟨o,its,n,hk,hc,hd,hs,hz,r⟩
 ·obtain ⟨z,its,n,r,e⟩:=h.ok I.hok;exact ⟨its,r,⟨_,n,e,rfl,rfl,rfl⟩,z⟩
 ·refine ⟨its.toList,r,⟨o,n,I.kIn a o hk,hc,hd,by simpa using hs⟩,?_⟩;have e:=r.length;simp only [Qd] at e;lia
theorem Inv.tuple (I:Inv X pins σ H s) (h:SqT X.K H a xs):∃ its:List Vy,aS xs its/\IsTup s.heap a its.toArray/\xs.length<=sizeLine:=by
 rcases h with h | ⟨o,its,n,hk,hc,hs,hz,r⟩
 ·obtain ⟨z,its,r,p⟩:=h.ok I.hok;exact ⟨its,r,p,z⟩
 ·refine ⟨its.toList,r,⟨o,I.kIn a o hk,hc,n,by simpa using hs⟩,?_⟩;have e:=r.length;simp only [Qd] at e;lia
theorem Inv.r9 (I:Inv X pins σ H s) (h:SqL X.K H a xs) (h':SqL X.K H a ys):xs=ys:=by
 obtain ⟨its,r,⟨o,n,e,_,_,d⟩,_⟩:=I.list h;obtain ⟨pq,r',⟨o',n',e',_,_,d'⟩,_⟩:=I.list h';rw [e] at e';cases e';rw [d] at d';injection d' with d1 _;have:its=pq:=by simpa using congrArg Array.toList d1
 subst this;exact r.inj r'
end
abbrev Cx.uE (X:Cx) (E:Vy->Vx->Prop):Cx:={ X with xe:=E }
abbrev Cx.nox (X:Cx):Cx:=X.uE λ_ _=>False
theorem Cx.Ok.uE {X:Cx} (ok:X.Ok) (E:Vy->Vx->Prop):(X.uE E).Ok:=
 ⟨ok.mod,ok.kind,ok.glob,ok.blt,ok.above,ok.inj,ok.has,ok.cab,ok.hd,ok.frames,ok.stk,ok.exf,ok.bs,ok.bsz,ok.E3,ok.DM,ok.nU,ok.frf⟩
theorem Cx.Ok.lJ {X:Cx}{E:Vy->Vx->Prop} (ok:(X.uE E).Ok):X.Ok:=
 ⟨ok.mod,ok.kind,ok.glob,ok.blt,ok.above,ok.inj,ok.has,ok.cab,ok.hd,ok.frames,ok.stk,ok.exf,ok.bs,ok.bsz,ok.E3,ok.DM,ok.nU,ok.frf⟩
section
variable {X:Cx}{pins:List (Addr×Obj)}{σ:St}{H:Hp}{s:Vx}{E:Vy->Vx->Prop}
theorem Inv.uE (I:Inv X pins σ H s) (E:Vy->Vx->Prop):Inv (X.uE E) pins σ H s:=⟨I.ok.uE E,I.os,I.bare,I.base,I.loc,I.cell,I.free,I.j9,I.pin,I.hok,I.len⟩
theorem Inv.lJ (I:Inv (X.uE E) pins σ H s):Inv X pins σ H s:=⟨I.ok.lJ,I.os,I.bare,I.base,I.loc,I.cell,I.free,I.j9,I.pin,I.hok,I.len⟩
theorem SP.lJ {D:Ends}{f:Flow}{s':Vx} (h:SP (X.uE E) pins D f s'):SP X pins D f s':=by
 cases f with
 | next=>obtain ⟨σ',H',I,q⟩:=h;exact ⟨σ',H',I.lJ,q⟩
 | brk=>obtain ⟨σ',H',I,q⟩:=h;exact ⟨σ',H',I.lJ,q⟩
 | cont=>obtain ⟨σ',H',I,q⟩:=h;exact ⟨σ',H',I.lJ,q⟩
 | ret u=>obtain ⟨v,σ',H',I,r,q⟩:=h;exact ⟨v,σ',H',I.lJ,r,q⟩
theorem PSs.nox {st:List Stmt}{t:TS} (h:PSs X.nox st t):PSs X st t:=λpins s σ H D I hw=>
 Vt (h pins s σ H D (I.uE _) hw) (λ_ _ q=>q.lJ) λ_ _ z=>False.elim z
end
section
variable {X:Cx}{st:Stmt}{rest:List Stmt}{t u:TS}{e:Expr}{te:TE}{pos:Pos}
def LQ:TS:=λD σ H=>D.nx σ H
def Nf (t u:TS):TS:=λD σ H=>t { D with nx:=u D } σ H
theorem aO:PSs X [] LQ:=λ_ _ σ H _ I h=>wpAny_execs_nil ⟨σ,H,I,h⟩
theorem ag (h1:PS X st t) (h2:PSs X rest u):PSs X (st::rest) (Nf t u):=by
 intro pins s σ H D I h;refine wpAny_execs_cons (thn (h1 pins s σ H { D with nx:=u D } I h) λf s1 q=>?_);cases f with
 | next=>
  obtain ⟨σ',H',I',q⟩:=q;exact h2 pins s1 σ' H' D I' q
 | ret v=>exact q
 | brk=>exact q
 | cont=>exact q
theorem ao (h1:PS X st t):PSs X [st] t:=by
 intro pins s σ H D I h;refine wpAny_execs_cons (thn (h1 pins s σ H D I h) λf s1 q=>?_);cases f with
 | next=>exact wpAny_execs_nil q
 | ret v=>exact q
 | brk=>exact q
 | cont=>exact q
theorem Inv.quiet {pins:List (Addr×Obj)}{σ:St}{H:Hp}{s:Vx} (I:Inv X pins σ H s):interactive X.env=false:=by simp [interactive,I.ok.kind]
def Ly (te:TE):TS:=λD σ H=>te σ H λ_ H1=>D.nx σ H1
theorem be (he:PE X e te) (hs:swapsWith e none pos.line X.env=pure false:=by rfl):PS X (.Expr e pos) (Ly te):=by
 intro pins s σ H D I h;exact wpAny_Expr_any (thn (he pins s σ H _ I h) λv s1 ⟨x,H1,I1,r1,q1⟩=>⟨σ,H1,I1,q1⟩) I.quiet hs
def K7 (te:TE):TS:=λD σ H=>te σ H D.rt
theorem aC (he:PE X e te):PS X (.Return (some e) pos) (K7 te):=by
 intro pins s σ H D I h;exact wpAny_Return_some (thn (he pins s σ H _ I h) λv s1 ⟨x,H1,I1,r1,q1⟩=>⟨x,σ,H1,I1,r1,q1⟩)
def Ov (c:TT) (t u:TS):TS:=λD σ H=>c σ H λb H1=>if b=true then t D σ H1 else u D σ H1
theorem a8 {c:Expr}{a b:List Stmt}{tc:TT} (hc:PT X c tc) (ha:PSs X a t) (hb:PSs X b u):PS X (.If c a b pos) (Ov tc t u):=by
 intro pins s σ H D I h;refine wpAny_If (thn (hc pins s σ H _ I h) λd s1 ⟨H1,I1,q1⟩=>?_);cases d with
 | true=>exact ha pins s1 σ H1 D I1 q1
 | false=>exact hb pins s1 σ H1 D I1 q1
def Jo:TS:=λ_ _ _=>False
theorem eB:PS X st Jo:=λ_ _ _ _ _ _ h=>h.elim
end
abbrev TG:=V->St->Hp->(St->Hp->Prop)->Prop
abbrev TGs:=List V->St->Hp->(St->Hp->Prop)->Prop
def PG (X:Cx) (target:Expr) (t:TG):Prop:=
 ∀ (pins:List (Addr×Obj)) (s:Vx) (σ:St) (H:Hp) (v:V) (u:Vy) (Q:St->Hp->Prop),Inv X pins σ H s->RelV v u->t v σ H Q ->
  wpAny (model X.prog X.w) X.A (assign target X.env u) (λ_ s'=>∃ σ' H',Inv X pins σ' H' s'/\Q σ' H') X.xe s
def PGs (X:Cx) (ts:List Expr) (t:TGs):Prop:=
 ∀ (pins:List (Addr×Obj)) (s:Vx) (σ:St) (H:Hp) (vs:List V) (us:List Vy) (Q:St->Hp->Prop),Inv X pins σ H s->aS vs us->t vs σ H Q ->
  wpAny (model X.prog X.w) X.A (assignInOrder ((assignEach ts X.env).map (·.2)) us) (λ_ s'=>∃ σ' H',Inv X pins σ' H' s'/\Q σ' H') X.xe s
abbrev Kv:=V->V->V->Hp->(Hp->Prop)->Prop
def LY (X:Cx) (t:Kv):Prop:=
 ∀ (pins:List (Addr×Obj)) (s:Vx) (σ:St) (H:Hp) (o i v:V) (ov iv u:Vy) (Q:Hp->Prop),Inv X pins σ H s->RelV o ov->RelV i iv->RelV v u->t o i v H Q ->
  wpAny (model X.prog X.w) X.A (setItem ov iv u) (λ_ s'=>∃ H',Inv X pins σ H' s'/\Q H') X.xe s
section
variable {X:Cx}{pos:Pos}
def br (i:Nat):TG:=λv σ H Q=>Q (σ.set i (some v)) H
theorem aI {i:Nat}{x:Str} (hN:X.N.Nodup) (hi:X.N[i]? = some x) (hx:Loc X.env.scope x) (hf:X.fn x=true\/X.env.scope.names.lookup x=some .local:=by first | exact .inl rfl | exact .inr rfl | assumption):PG X (.Name x pos) (br i):=by
 intro pins s σ H v u Q I r h;exact wpAny_assign_Name (yg I hN hi hx r (λs' I'=>⟨_,H,I',h⟩) hf)
def CD:TGs:=λvs σ H Q=>vs=[]/\Q σ H
def kQ (t:TG) (u:TGs):TGs:=λvs σ H Q=>∃ v r,vs=v::r/\t v σ H λσ' H'=>u r σ' H' Q
theorem gy:PGs X [] CD:=by
 intro pins s σ H vs us Q I r h;obtain ⟨e,h⟩:=h;subst e;cases r;exact assignInOrder_nil ⟨σ,H,I,h⟩
theorem bK {e:Expr}{es:List Expr}{t:TG}{u:TGs} (h1:PG X e t) (h2:PGs X es u)
  (hs:(assignEach (e::es) X.env).map (·.2)=assign e X.env::(assignEach es X.env).map (·.2):=by rfl):PGs X (e::es) (kQ t u):=by
 intro pins s σ H vs us Q I r h;obtain ⟨v,vr,e1,h⟩:=h;subst e1;cases r with
 | cons r rr=>
  rw [hs];refine assignInOrder_cons (thn (h1 pins s σ H _ _ _ I r h) λ_ s1 ⟨σ1,H1,I1,q1⟩=>?_);exact h2 pins s1 σ1 H1 _ _ Q I1 rr q1
def C3 (K:Vz) (n:Nat) (t:TGs):TG:=λv σ H Q=>∃ a xs,v = .ref a/\SqT K H a xs/\xs.length=n/\t xs σ H Q
theorem jL {es:List Expr}{k:Nat}{t:TGs}{n:Nat} (hc:X.calm=true) (h:PGs X es t)
  (hn:(assignEach es X.env).length=n:=by rfl) (hst:(assignEach es X.env).findIdx? (·.1)=none:=by rfl):PG X (.Tuple es k pos) (C3 X.K n t):=by
 intro pins s σ H v u Q I r hw;obtain ⟨a,xs,e1,hq,hl,hw⟩:=hw;subst e1;cases r;obtain ⟨its,rv,ht,hz⟩:=I.tuple hq;refine assign_Tuple_tuple (I.ok.hd hc) ht (by simp [hn,<-hl,rv.length]) hst λh' hx=>?_;have I1:Inv X pins σ H { s with heap:=h' }:=I.kept (t':=s.toks) λb o e=>hx b o (Qj (Heap.lt_size e)) e;exact h pins _ σ H xs _ Q I1 (by simpa using rv) hw
def NN (to ti:TE) (t:Kv):TG:=λv σ H Q=>to σ H λo H1=>ti σ H1 λi H2=>t o i v H2 λH3=>Q σ H3
theorem sO {o i:Expr}{to ti:TE}{t:Kv} (ho:PE X o to) (hi:PE X i ti) (hs:LY X t)
  (ha:∀ v,assign (.Subscript o i pos) X.env v=(do
   let ov <-holding [v] (eval o X.env)
   let iv <-holding [v,ov] (eval i X.env)
   standAt pos
   holding [v,ov,iv] (setItem ov iv v)
   release [v,ov,iv] []):=by intro _;rfl):PG X (.Subscript o i pos) (NN to ti t):=by
 intro pins s σ H v u Q I r h;rw [ha];refine Vw (Vs (thn (ho pins s σ H _ I h) λov s1 ⟨x,H1,I1,r1,q1⟩=>?_));refine Vw (Vs (thn (hi pins s1 σ H1 _ I1 q1) λiv s2 ⟨y,H2,I2,r2,q2⟩=>?_));refine Vw (wpAny_standAt (Vw (Vs (thn (hs pins s2 σ H2 x y v ov iv u _ I2 r1 r2 r q2) λ_ s3 ⟨H3,I3,q3⟩=>?_))));exact wpAny_release ⟨σ,H3,I3,q3⟩
def Jl (te:TE) (g:TG):TS:=λD σ H=>te σ H λx H1=>g x σ H1 D.nx
theorem lC {tg e:Expr}{te:TE}{g:TG} (he:PE X e te) (hg:PG X tg g) (hs:swapsWithSole [tg] e pos.line X.env=pure false:=by rfl) (hw:swappedStores [tg] e X.env=pure none:=by rfl)
  (h1:(assignEach [tg] X.env).map (·.2)=[assign tg X.env]:=by rfl):PS X (.Assign [tg] e pos) (Jl te g):=by
 intro pins s σ H D I h;refine wpAny_Assign_stores (thn (he pins s σ H _ I h) λv s1 ⟨x,H1,I1,r1,q1⟩=>?_) hs hw;rw [h1];exact thn (hg pins s1 σ H1 x v _ I1 r1 q1) λ_ s2 q=>q
theorem aY {i:Nat}{x:Str}{e:Expr}{te:TE}{pos':Pos} (hN:X.N.Nodup) (hi:X.N[i]? = some x) (hx:Loc X.env.scope x) (he:PE X e te) (hs:swapsWith e (some (.Name x pos')) pos.line X.env=pure false:=by rfl) (hf:X.fn x=true\/X.env.scope.names.lookup x=some .local:=by first | exact .inl rfl | exact .inr rfl | assumption) :
  PS X (.Assign [.Name x pos'] e pos) (Jl te (br i)):=by
 intro pins s σ H D I h;refine wpAny_Assign_Name (thn (he pins s σ H _ I h) λv s1 ⟨y,H1,I1,r1,q1⟩=>?_) hs;exact yg I1 hN hi hx r1 (λs2 I2=>⟨_,H1,I2,q1⟩) hf
end
section
variable {X:Cx}{pos:Pos}
def DF (c:TT) (tb:TS):TS:=λD σ H=>∃ W:Nat->St->Hp->Prop,(∃ m,W m σ H)/\∀ m σ H,W m σ H ->
 c σ H λb H1=>if b=true then ∃ N:St->Hp->Prop,(∀ σ' H',N σ' H'->∃ m',m' < m/\W m' σ' H')/\tb { D with nx:=N,ct:=N,bk:=D.nx } σ H1 else D.nx σ H1
theorem FU {c:Expr}{body:List Stmt}{tc:TT}{tb:TS} (hp:PassesOwn (model X.prog X.w) X.A X.env X.xe) (hc:PT X c tc) (hb:PSs X body tb):PS X (.While c body [] pos) (DF tc tb):=by
 intro pins s σ H D I h;obtain ⟨W,⟨m0,w0⟩,turn⟩:=h;refine wpAny_While (codeAny_whileLoop (λn s'=>∃ σ' H',Inv X pins σ' H' s'/\W n σ' H') ?_ m0 ⟨σ,H,I,w0⟩);rintro n s1 ⟨σ1,H1,I1,w1⟩;refine wpAny_passesOwn hp (thn (hc pins s1 σ1 H1 _ I1 (turn n σ1 H1 w1)) λb s2 ⟨H2,I2,q2⟩=>?_);cases b with
 | true=>
  obtain ⟨N,hN,q2⟩:=q2;rw [if_pos rfl];refine wpAny_passesOwn hp (thn (hb pins s2 σ1 H2 _ I2 q2) λf s3 q3=>?_);cases f with
  | next=>
   obtain ⟨σ3,H3,I3,n3⟩:=q3;obtain ⟨m',hm,w3⟩:=hN σ3 H3 n3;exact ⟨m',hm,σ3,H3,I3,w3⟩
  | cont=>
   obtain ⟨σ3,H3,I3,n3⟩:=q3;obtain ⟨m',hm,w3⟩:=hN σ3 H3 n3;exact ⟨m',hm,σ3,H3,I3,w3⟩
  | brk=>exact q3
  | ret v=>exact q3
 | false=>
  rw [if_neg P6];exact wpAny_execs_nil ⟨σ1,H2,I2,q2⟩
end
structure It where
 go:Nat->Hp->Prop
 yld:Nat->Hp->V->Hp->Prop
 stop:Nat->Hp->Prop
def cE (X:Cx) (pins:List (Addr×Obj)) (H:Hp) (b:Addr):Prop:=
 H b=none/\b≠X.env.locals/\b∉X.fs/\(b∈X.ex\/X.s₀.heap.objs.size<=b)/\(∀ x c,X.env.cells.lookup x=some c->c≠b)/\∀ p∈X.pn++pins,p.1≠b
theorem Inv.xi {X:Cx}{pins:List (Addr×Obj)}{σ:St}{H H':Hp}{s:Vx}{b:Addr} (I:Inv X pins σ H s) (hb:s.heap.objs.size<=b) (hn:H' b=none):cE X pins H' b:=by
 refine ⟨hn,RQ (Qm I.lt hb),I.Mo hb,.inr (P2 I.sz hb),λx c e z=>?_,λp hp z=>?_⟩
 ·obtain ⟨v,q⟩:=I.cell x c e;exact absurd (Qm q.lt (by rw [z];exact hb)) (QF _)
 ·exact absurd (Qm (Heap.lt_size (I.pin p hp).1) (by rw [z];exact hb)) (QF _)
structure Turn (P:Program) (w:World) (K:Vz) (tg:Expr) (J:It) (fp:List Addr) (it:Addr) (tn:Nat->Heap->Prop):Prop where
 mem:it∈fp
 obj:∀ i h,tn i h->∀ b∈fp,∃ o,h.get? b=some o/\∀ v,o.data ≠ .cell v
 keep:∀ i h h',tn i h->(∀ b∈fp,∀ o,h.get? b=some o->h'.get? b=some o)->tn i h'
 item:∀ (X:Cx),X.prog=P->X.w=w->X.K=K->X.calm=true->∀ (i:Nat) (pins:List (Addr×Obj)) (s:Vx) (σ:St) (H:Hp) (E:Vy->Vx->Prop),Inv X pins σ H s->(∀ b∈fp,cE X pins H b)->tn i s.heap->J.go i H ->
  wpAny (model P w) X.A (pyNext (.ref it)) (λr s1=>∃ u,r=some u /\
   wpAny (model P w) X.A (letOwnedTupleGo tg (.ref it) u) (λ_ s2=>∃ x H',Inv X pins σ H' s2/\RelV x u/\J.yld i H x H'/\tn (i+1) s2.heap/\∀ b∈fp,H' b=none) E s1) E s
 done:∀ (X:Cx),X.prog=P->X.w=w->X.K=K->X.calm=true->∀ (i:Nat) (pins:List (Addr×Obj)) (s:Vx) (σ:St) (H:Hp) (E:Vy->Vx->Prop),Inv X pins σ H s->(∀ b∈fp,cE X pins H b)->tn i s.heap->J.stop i H ->
  wpAny (model P w) X.A (pyNext (.ref it)) (λr s1=>r=none/\Inv X pins σ H s1) E s
 self:∀ (A:Around) (i:Nat) (s:Vx) (Q:Vy->Vx->Prop) (E:Vy->Vx->Prop),tn i s.heap->Q (.ref it) s->wpAny (model P w) A (pyIter (.ref it)) Q E s
abbrev TI:=St->Hp->(It->Hp->Prop)->Prop
def PIE (X:Cx) (pins:List (Addr×Obj)) (σ:St) (tg:Expr) (R:It->Hp->Prop) (itv:Vy) (s2:Vx):Prop:=
 ∃ (it:Addr) (fp:List Addr) (tn:Nat->Heap->Prop) (J:It) (H':Hp),itv = .ref it/\Inv X pins σ H' s2/\Turn X.prog X.w X.K tg J fp it tn/\tn 0 s2.heap/\(∀ b∈fp,cE X pins H' b)/\R J H'
def PI (X:Cx) (tg iter:Expr) (wi:TI):Prop:=
 ∀ (pins:List (Addr×Obj)) (s:Vx) (σ:St) (H:Hp) (R:It->Hp->Prop),Inv X pins σ H s->wi σ H R ->
  wpAny (model X.prog X.w) X.A (eval iter X.env) (λv s1=>wpAny (model X.prog X.w) X.A (pyIter v) (PIE X pins σ tg R) X.xe s1) X.xe s
theorem Fh {M:Model}{A:Around}{E:Vy->Vx->Prop}{s:Vx}{tg:Expr}{it:Addr}{u:Vy}{o:Obj}{n:String}{vs:Array Vy}{Q:Unit->Vx->Prop} (ho:s.heap.get? it=some o) (hc:o.cls = .type n) (hd:o.data = .fields vs)
  (hn:["enumerate","zip","dict_itemiterator","dict_reverseitemiterator","odict_iterator","itertools.zip_longest","itertools.pairwise"].contains n=false) (hQ:Q () s):wpAny M A (letOwnedTupleGo tg (.ref it) u) Q E s:=by
 unfold letOwnedTupleGo;cases tg <;> first
  | exact Vv hQ
  | (cases u <;> first
    | exact Vv hQ
    | (refine Vw (wpAny_load ho ?_)
       rw [hc,hd];show wpAny M A (if (["enumerate","zip","dict_itemiterator","dict_reverseitemiterator","odict_iterator","itertools.zip_longest","itertools.pairwise"].contains n && vs[0]? == some (rawInt _))=true then _ else _) Q E s;rw [if_neg (by intro h;rw [hn,RW] at h;cases h)];exact Vv hQ))
def Itl (K:Vz) (a:Addr):It:=
 ⟨λi H=>∃ xs x,SqL K H a xs/\xs[i]? = some x,λi H x H'=>H' = H/\∀ xs,SqL K H a xs->xs[i]? = some x,λi H=>∃ xs,SqL K H a xs/\xs.length<=i⟩
def Itr (lo:Int) (n:Nat):It:=⟨λi _=>i<n,λi H x H'=>H' = H/\x = .int (lo+i),λi _=>n<=i⟩
theorem Cf {P:Program}{w:World}{K:Vz}{tg:Expr} (a it:Addr):Turn P w K tg (Itl K a) [it] it (λi h=>h.IsListIter it a i) where
 mem:=by simp
 obj:=λi h st b hb=>by
  have e:b=it:=by simpa using hb
  subst e;obtain ⟨o,e,c,d⟩:=st;exact ⟨o,e,λv z=>by rw [d] at z;cases z⟩
 keep:=λi h h' st k=>st.at λo e=>k it (by simp) o e
 item:=by
  intro X hP hw hK hc i pins s σ H E I hf st hg;subst hP hw hK;obtain ⟨xs,x,hq,hx⟩:=hg;obtain ⟨its,rv,p,hz⟩:=I.list hq;obtain ⟨u,hu,ru⟩:=rv.get hx;obtain ⟨f0,f1,f2,f3,f4,f5⟩:=hf it (by simp);refine wpAny_pyNext_list_item st p.isList (x:=u) (by simpa using hu) λh' st' sb=>?_;have I1:Inv X pins σ H { s with heap:=h' }:=I.turned (t':=s.toks) (λb o hb e=>(sb.2 b hb).trans e) f0 f1 f3 f4 f5;obtain ⟨o,e,c,d⟩:=id st';exact ⟨u,rfl,Fh (s:={ s with heap:=h' }) e c d (by decide) ⟨x,H,I1,ru,⟨rfl,λys hy=>by rw [I.r9 hy hq];exact hx⟩,st',λb hb=>(hf b hb).1⟩⟩
 done:=by
  intro X hP hw hK hc i pins s σ H E I hf st hg;subst hP hw hK;obtain ⟨xs,hq,hx⟩:=hg;obtain ⟨its,rv,p,hz⟩:=I.list hq;obtain ⟨f0,f1,f2,f3,f4,f5⟩:=hf it (by simp);have hl:=rv.length;exact wpAny_pyNext_list_end (I.ok.hd hc) st p.isList (by simp;lia) λh' eb=>⟨rfl,I.turned (t':=s.toks) (λb o hb e=>eb b o hb e) f0 f1 f3 f4 f5⟩
 self:=λ_ _ _ _ _ st h=>wpAny_pyIter_listiter st h
theorem zN {P:Program}{w:World}{K:Vz}{tg:Expr} (it:Addr) (lo:Int) (n:Nat):Turn P w K tg (Itr lo n) [it] it (λi h=>IsRangeIter h it (lo+(i:Nat) * 1) ((n:Int) - (i:Nat)) 1) where
 mem:=by simp
 obj:=λi h st b hb=>by
  have e:b=it:=by simpa using hb
  subst e;exact ⟨_,st,λv z=>by
   have z':Data.fields _=Data.cell v:=z;cases z'⟩
 keep:=λi h h' st k=>k it (by simp) _ st
 item:=by
  intro X hP hw hK hc i pins s σ H E I hf st hg;subst hP hw hK;obtain ⟨f0,f1,f2,f3,f4,f5⟩:=hf it (by simp);have W:=Walks.range (prog:=X.prog) (w:=X.w) (I.ok.hd hc) it lo 1 n;refine W.item i s _ _ hg st λv h' tk hv st' kk=>?_;obtain ⟨t,rfl⟩:=hv;have I1:Inv X pins σ H { s with heap:=h',toks:=tk }:=I.turned (λb o hb e=>kk b o (by simpa using hb) e) f0 f1 f3 f4 f5;refine ⟨_,rfl,Fh (s:={ s with heap:=h',toks:=tk }) (n:= "range_iterator") st' rfl rfl (by decide) ⟨.int (lo+i),H,I1,⟨t,?_⟩,⟨rfl,rfl⟩,st',λb hb=>(hf b hb).1⟩⟩;rw [Int.mul_one]
 done:=by
  intro X hP hw hK hc i pins s σ H E I hf st hg;subst hP hw hK;obtain ⟨f0,f1,f2,f3,f4,f5⟩:=hf it (by simp);exact wpAny_pyNext_range_end (I.ok.hd hc) st (by have:n<=i:=hg;lia) λh' eb=>⟨rfl,I.turned (t':=s.toks) (λb o hb e=>eb b o hb e) f0 f1 f3 f4 f5⟩
 self:=λ_ _ _ _ _ st h=>wpAny_pyIter_rangeiter st h
section
variable {X:Cx}{tg:Expr}
def FA (K:Vz) (tl:TE):TI:=λσ H R=>tl σ H λx H1=>∃ a,x = .ref a/\(∃ xs,SqL K H1 a xs)/\R (Itl K a) H1
theorem bh {l:Expr}{tl:TE} (hl:PE X l tl):PI X tg l (FA X.K tl):=by
 intro pins s σ H R I h;refine thn (hl pins s σ H _ I h) λv s1 ⟨x,H1,I1,r1,q1⟩=>?_;obtain ⟨a,e,⟨xs,hq⟩,q⟩:=q1;subst e;cases r1;obtain ⟨its,rv,p,hz⟩:=I1.list hq;refine wpAny_pyIter_list p.isList ?_;refine ⟨s1.heap.objs.size,[s1.heap.objs.size],_,_,H1,rfl,I1.kept (t':=s1.toks) λb o e=>Vu _ e,Cf a _,⟨_,Heap.get?_push_size _ rfl,rfl,rfl⟩,λb hb=>?_,q⟩;have e:b=s1.heap.objs.size:=by simpa using hb
 subst e;exact I1.xi (PR _) (I1.hok.fresh (PR _))
theorem Fb {pins:List (Addr×Obj)}{σ:St}{H:Hp}{s:Vx}{R:It->Hp->Prop}{E:Vy->Vx->Prop}{lo hi:Int}{t u v:Tok}{tk:Nat} (I:Inv X pins σ H s) (h1 : -(2 ^ 62)<=lo) (h2:lo<2 ^ 62) (h3 : -(2 ^ 62)<=hi) (h4:hi<2 ^ 62)
  (q:R (Itr lo (hi - lo).toNat) H):wpAny (model X.prog X.w) X.A (pyIter (.ref s.heap.objs.size)) (PIE X pins σ tg R) E { s with heap:=s.heap.push { cls:=.type "range",data:=.fields #[.int lo t,.int hi u,.int 1 v] },toks:=tk }:=by
 refine wpAny_pyIter_range (IsRange.new ..) (small_one h1 h2 h3 h4) ?_;have I1:Inv X pins σ H { s with heap:=s.heap.push { cls:=.type "range",data:=.fields #[.int lo t,.int hi u,.int 1 v] },toks:=tk }:=I.kept λb o e=>Vu _ e;refine ⟨(s.heap.push { cls:=.type "range",data:=.fields #[.int lo t,.int hi u,.int 1 v] }).objs.size,[(s.heap.push { cls:=.type "range",data:=.fields #[.int lo t,.int hi u,.int 1 v] }).objs.size],_,_,H,rfl,
  I1.kept (t':=tk) λb o e=>Vu _ e,zN _ lo (hi - lo).toNat,?_,λb hb=>?_,q⟩
 ·have e1:lo+((0:Nat):Int) * 1=lo:=by simp
  have e2:(((hi - lo).toNat:Nat):Int) - ((0:Nat):Int)=Builtin.Range.rangeSize lo hi 1:=by rw [rangeSize_one];split <;> lia
  show IsRangeIter _ _ (lo+((0:Nat):Int) * 1) ((((hi - lo).toNat:Nat):Int) - ((0:Nat):Int)) 1;rw [e1,e2];exact Heap.get?_push_size _ rfl
 ·have e:b=(s.heap.push { cls:=.type "range",data:=.fields #[.int lo t,.int hi u,.int 1 v] }).objs.size:=by simpa using hb
  subst e;exact I1.xi (PR _) (I1.hok.fresh (PR _))
def Mv (ta:TA):TI:=λσ H R=>ta σ H λvs H1=>∃ j:Int,vs=[.int j] /\ -(2 ^ 62)<=j/\j<2 ^ 62/\R (Itr 0 j.toNat) H1
theorem dR {a:Expr}{ta:TA}{p pos:Pos} (hg:Gl X "range") (hm:X.mg "range" = none) (ha:PA X [a] ta) (hs:starEach [a] X.env=[(false,eval a X.env)]:=by rfl):PI X tg (.Call (.Name "range" p) [a] [] pos) (Mv ta):=by
 intro pins s σ H R I h;refine Call_ (gM I hg hm boot_range (PyProof.Rows.callWith_type1 (thn (ha pos pins s σ H _ I h) λus s1 ⟨vs,H1,I1,r1,q1⟩=>?_) hs rfl));obtain ⟨j,e,q1,q2,q⟩:=q1;subst e;cases r1 with
 | cons r rr=>
  cases rr;obtain ⟨t,rfl⟩:=r;exact call_range_1 (Fb I1 (by lia) (by lia) q1 q2 (by simpa using q))
def OO (wi:TI) (g:TG) (tb:TS):TS:=λD σ H=>wi σ H λJ H1=>∃ W:Nat->Nat->St->Hp->Prop,(∃ m,W 0 m σ H1)/\∀ i m σ H,W i m σ H ->
 (J.stop i H/\D.nx σ H)\/(J.go i H/\∃ N:St->Hp->Prop,(∀ σ' H',N σ' H'->∃ m',m' < m/\W (i+1) m' σ' H')/\∀ x H',J.yld i H x H'->g x σ H' λσ2 H2=>tb { D with nx:=N,ct:=N,bk:=D.nx } σ2 H2)
def sZ (fp:List Addr) (h:Heap):List (Addr×Obj):=fp.filterMap λb=>(h.get? b).map λo=>(b,o)
theorem jA {fp:List Addr}{h:Heap}{b:Addr}{o:Obj} (hb:b∈fp) (e:h.get? b=some o):(b,o)∈sZ fp h:=RS.mpr ⟨b,hb,by rw [e];rfl⟩
theorem De {fp:List Addr}{h:Heap}{p:Addr×Obj} (hp:p∈sZ fp h):p.1∈fp/\h.get? p.1=some p.2:=by
 obtain ⟨b,hb,e⟩:=RS.mp hp;cases q:h.get? b with
 | none=>rw [q] at e;cases e
 | some o=>
  rw [q] at e;have e':(b,o)=p:=Option.some.inj e;subst e';exact ⟨hb,q⟩
theorem Inv.pinned {pins:List (Addr×Obj)}{σ:St}{H:Hp}{s:Vx}{fp:List Addr} (I:Inv X pins σ H s) (hf:∀ b∈fp,cE X pins H b) (ho:∀ b∈fp,∃ o,s.heap.get? b=some o/\∀ v,o.data ≠ .cell v):Inv X (pins++sZ fp s.heap) σ H s:=
 I.nN λp hp=>(Qc.mp hp).elim (λz=>I.pin p (Qo _ z)) λz=>by
  obtain ⟨hb,e⟩:=De z;obtain ⟨f0,f1,f2,_⟩:=hf p.1 hb;obtain ⟨o,e',d⟩:=ho p.1 hb;rw [e] at e';cases e';exact ⟨e,f0,f1,f2,d⟩
theorem Inv.gO {pins pl:List (Addr×Obj)}{σ:St}{H:Hp}{s:Vx} (I:Inv X (pins++pl) σ H s):Inv X pins σ H s:=I.nN λp hp=>I.pin p (Qo _ (Rn _ hp))
theorem fZ {iter:Expr}{body:List Stmt}{wi:TI}{g:TG}{tb:TS}{pos:Pos} (hp:PassesOwn (model X.prog X.w) X.A X.env X.xe) (hc:X.calm=true) (hi:PI X tg iter wi) (hg:PG X tg g) (hb:PSs X body tb)
  (hs:∀ x,foldedSetIterable iter X.env x=pure x:=by intro _;rfl):PS X (.For tg iter body [] pos) (OO wi g tb):=by
 intro pins s σ H D I h;refine wpAny_For (thn (hi pins s σ H _ I h) λv s1 h1=>thn h1 λitv s2 h2=>?_) hs;obtain ⟨it,fp,tn,J,H2,e,I2,T,st2,f2,W,⟨m0,w0⟩,turn⟩:=h2;subst e;have AF:∀ {H':Hp},(∀ b∈fp,H' b=none)->∀ b∈fp,cE X pins H' b:=λhn b hb=>⟨hn b hb,(f2 b hb).2⟩;refine codeAny_forLoop_any (λn s'=>∃ i σ' H',Inv X pins σ' H' s'/\tn i s'.heap/\(∀ b∈fp,H' b=none)/\W i n σ' H') ?_ m0 ⟨0,σ,H2,I2,st2,λb hb=>(f2 b hb).1,w0⟩;rintro n s3 ⟨i,σ3,H3,I3,st3,fr3,w3⟩;rcases turn i n σ3 H3 w3 with ⟨stop,qn⟩ | ⟨go,N,hN,step⟩
 ·refine wpAny_passesOwn hp (thn (T.done X rfl rfl rfl hc i pins s3 σ3 H3 X.xe I3 (AF fr3) st3 stop) λr s4 ⟨hr,I4⟩=>?_);subst hr;exact wpAny_execs_nil ⟨σ3,H3,I4,qn⟩
 ·refine wpAny_passesOwn hp (thn (T.item X rfl rfl rfl hc i pins s3 σ3 H3 X.xe I3 (AF fr3) st3 go) λr s4 ⟨u,hr,h4⟩=>?_);subst hr;refine wpAny_passesOwn hp (thn h4 λ_ s5 ⟨x,H5,I5,r5,y5,st5,fr5⟩=>?_);have I5':=I5.pinned (AF fr5) (T.obj _ _ st5);refine wpAny_passesOwn hp (thn (hg _ s5 σ3 H5 x u _ I5' r5 (step x H5 y5)) λ_ s6 ⟨σ6,H6,I6,q6⟩=>?_);refine wpAny_passesOwn hp (thn (hb _ s6 σ6 H6 _ I6 q6) λf s7 q7=>?_);have again:∀ {σ7:St}{H7:Hp},Inv X (pins++sZ fp s5.heap) σ7 H7 s7->N σ7 H7->∃ m,m<n/\∃ i σ' H',Inv X pins σ' H' s7/\tn i s7.heap/\(∀ b∈fp,H' b=none)/\W i m σ' H':=λ{σ7 H7} I7 n7=>by
   obtain ⟨m',hm,w7⟩:=hN σ7 H7 n7;refine ⟨m',hm,i+1,σ7,H7,I7.gO,T.keep _ _ _ st5 λb hb o e=>(I7.pin (b,o) (Qo _ (Qo _ (jA hb e)))).1,λb hb=>?_,w7⟩;obtain ⟨o,e,d⟩:=T.obj _ _ st5 b hb;exact (I7.pin (b,o) (Qo _ (Qo _ (jA hb e)))).2.1
  cases f with
  | next=>obtain ⟨σ7,H7,I7,n7⟩:=q7;exact again I7 n7
  | cont=>obtain ⟨σ7,H7,I7,n7⟩:=q7;exact again I7 n7
  | brk=>obtain ⟨σ7,H7,I7,q7⟩:=q7;exact ⟨σ7,H7,I7.gO,q7⟩
  | ret v=>obtain ⟨x7,σ7,H7,I7,r7,q7⟩:=q7;exact ⟨x7,σ7,H7,I7.gO,r7,q7⟩
end
theorem jr {K:Vz}{a:Addr}{xs:List V}{g:TG}{tb:TS}{D:Ends}{σ:St}{H:Hp} (Pv:Nat->St->Hp->Prop) (h0:Pv 0 σ H) (hl:∀ i σ H,i<=xs.length->Pv i σ H->SqL K H a xs)
  (hs:∀ i x σ H,xs[i]? = some x->Pv i σ H->g x σ H λσ2 H2=>tb { D with nx:=Pv (i+1),ct:=Pv (i+1),bk:=D.nx } σ2 H2) (hd:∀ σ H,Pv xs.length σ H->D.nx σ H) :
  ∃ W:Nat->Nat->St->Hp->Prop,(∃ m,W 0 m σ H)/\∀ i m σ H,W i m σ H ->
   ((Itl K a).stop i H/\D.nx σ H)\/((Itl K a).go i H/\∃ N:St->Hp->Prop,(∀ σ' H',N σ' H'->∃ m',m' < m/\W (i+1) m' σ' H')/\∀ x H',(Itl K a).yld i H x H'->g x σ H' λσ2 H2=>tb { D with nx:=N,ct:=N,bk:=D.nx } σ2 H2):=by
 refine ⟨λi m σ H=>m=xs.length - i/\i<=xs.length/\Pv i σ H,⟨xs.length,by simp,Qb _,h0⟩,?_⟩;rintro i m σ H ⟨rfl,hi,p⟩;have q:=hl i σ H hi p;by_cases hlt:i<xs.length
 ·refine .inr ⟨⟨xs,xs[i],q,by simp [hlt]⟩,Pv (i+1),λσ' H' p'=>⟨xs.length - (i+1),by lia,rfl,hlt,p'⟩,λx H' y=>?_⟩;obtain ⟨e,y⟩:=y;subst e;exact hs i x σ _ (y xs q) p
 ·have e:i=xs.length:=by lia
  subst e;exact .inl ⟨⟨xs,q,PR _⟩,hd σ H p⟩
theorem me {lo:Int}{n:Nat}{g:TG}{tb:TS}{D:Ends}{σ:St}{H:Hp} (Pv:Nat->St->Hp->Prop) (h0:Pv 0 σ H)
  (hs:∀ i σ H,i<n->Pv i σ H->g (.int (lo+i)) σ H λσ2 H2=>tb { D with nx:=Pv (i+1),ct:=Pv (i+1),bk:=D.nx } σ2 H2) (hd:∀ σ H,Pv n σ H->D.nx σ H) :
  ∃ W:Nat->Nat->St->Hp->Prop,(∃ m,W 0 m σ H)/\∀ i m σ H,W i m σ H ->
   ((Itr lo n).stop i H/\D.nx σ H)\/((Itr lo n).go i H/\∃ N:St->Hp->Prop,(∀ σ' H',N σ' H'->∃ m',m' < m/\W (i+1) m' σ' H')/\∀ x H',(Itr lo n).yld i H x H'->g x σ H' λσ2 H2=>tb { D with nx:=N,ct:=N,bk:=D.nx } σ2 H2):=by
 refine ⟨λi m σ H=>m=n - i/\i<=n/\Pv i σ H,⟨n,by simp,Qb _,h0⟩,?_⟩;rintro i m σ H ⟨rfl,hi,p⟩;by_cases hlt:i<n
 ·refine .inr ⟨hlt,Pv (i+1),λσ' H' p'=>⟨n - (i+1),by lia,rfl,hlt,p'⟩,λx H' y=>?_⟩;obtain ⟨e,y⟩:=y;subst e y;exact hs i σ _ hlt p
 ·have e:i=n:=by lia
  subst e;exact .inl ⟨PR _,hd σ H p⟩
abbrev R2:=V->V->Hp->VK->Prop
def OpR (X:Cx) (f:Vy->Vy->Sem Vy) (r:R2):Prop:=
 ∀ (pins:List (Addr×Obj)) (s:Vx) (σ:St) (H:Hp) (x y:V) (v u:Vy) (Q:VK),Inv X pins σ H s->RelV x v->RelV y u->r x y H Q ->
  wpAny (model X.prog X.w) X.A (f v u) (EP X pins σ Q) X.xe s
def UnR (X:Cx) (f:Vy->Sem Vy) (r:V->Hp->VK->Prop):Prop:=
 ∀ (pins:List (Addr×Obj)) (s:Vx) (σ:St) (H:Hp) (x:V) (v:Vy) (Q:VK),Inv X pins σ H s->RelV x v->r x H Q ->
  wpAny (model X.prog X.w) X.A (f v) (EP X pins σ Q) X.xe s
def iC (X:Cx) (f:Vy) (r:List V->Hp->VK->Prop):Prop:=
 ∀ (pins:List (Addr×Obj)) (s:Vx) (σ:St) (H:Hp) (xs:List V) (us:List Vy) (Q:VK),Inv X pins σ H s->aS xs us->r xs H Q ->
  wpAny (model X.prog X.w) X.A (call f us) (EP X pins σ Q) X.xe s
def NT (X:Cx) (r:V->Hp->(Bool->Hp->Prop)->Prop):Prop:=
 ∀ (pins:List (Addr×Obj)) (s:Vx) (σ:St) (H:Hp) (x:V) (v:Vy) (Q:Bool->Hp->Prop),Inv X pins σ H s->RelV x v->r x H Q ->
  wpAny (model X.prog X.w) X.A (truthy v) (TP X pins σ Q) X.xe s
def tOp (r:R2) (ta tb:TE):TE:=λσ H Q=>ta σ H λx H1=>tb σ H1 λy H2=>r x y H2 Q
def tUn (r:V->Hp->VK->Prop) (ta:TE):TE:=λσ H Q=>ta σ H λx H1=>r x H1 Q
def rI (C:Int->Int->Prop) (g:Int->Int->V):R2:=λx y H Q=>∃ i j,x = .int i/\y = .int j/\C i j/\Q (g i j) H
def rI0 (g:Int->Int->V):R2:=λx y H Q=>∃ i j,x = .int i/\y = .int j/\Q (g i j) H
def rU (g:Int->V):V->Hp->VK->Prop:=λx H Q=>∃ i,x = .int i/\Q (g i) H
section
variable {X:Cx}{a b c:Expr}{ta tb tc:TE}{pos:Pos}
theorem KC (ha:PE X a ta) (hb:PE X b tb) {pins:List (Addr×Obj)}{s:Vx}{σ:St}{H:Hp}{R:V->V->Hp->Prop} (I:Inv X pins σ H s)
  (h:ta σ H λx H1=>tb σ H1 λy H2=>R x y H2) {Q:Vy->Vx->Prop}{f:Vy->Vy->Sem Vy}
  (hf:∀ v u s2 x y H2,Inv X pins σ H2 s2->RelV x v->RelV y u->R x y H2->wpAny (model X.prog X.w) X.A (f v u) Q X.xe s2) :
  wpAny (model X.prog X.w) X.A (eval a X.env) (λv s₁=>wpAny (model X.prog X.w) X.A (eval b X.env) (λu s₂=>wpAny (model X.prog X.w) X.A (f v u) Q X.xe s₂) X.xe s₁) X.xe s:=by
 refine thn (ha pins s σ H _ I h) λv s1 ⟨x,H1,I1,r1,q1⟩=>?_;refine thn (hb pins s1 σ H1 _ I1 q1) λu s2 ⟨y,H2,I2,r2,q2⟩=>?_;exact hf v u s2 x y H2 I2 r1 r2 q2
theorem bS {op:Operator}{r:R2} (ho:OpR X (binaryOp op) r) (ha:PE X a ta) (hb:PE X b tb):PE X (.BinOp a op b pos) (tOp r ta tb):=by
 intro pins s σ H Q I h;exact wpAny_BinOp (KC ha hb I h λv u s2 x y H2 I2 rx ry q=>ho pins s2 σ H2 x y v u Q I2 rx ry q)
theorem yh {op:UnaryOp}{r:V->Hp->VK->Prop} (ho:UnR X (unaryOp op) r) (ha:PE X a ta):PE X (.UnaryOp op a pos) (tUn r ta):=by
 intro pins s σ H Q I h;exact UnaryOp_ (thn (ha pins s σ H _ I h) λv s1 ⟨x,H1,I1,r1,q1⟩=>ho pins s1 σ H1 x v Q I1 r1 q1)
theorem opI {f:Vy->Vy->Sem Vy}{C:Int->Int->Prop}{g:Int->Int->Int}
  (rule:∀ (i j:Int) (t u:Tok) (s:Vx) (Q:Vy->Vx->Prop) (E:Vy->Vx->Prop),C i j->Q (.int (g i j) s.toks) { s with toks:=s.toks+1 }->wpAny (model X.prog X.w) X.A (f (.int i t) (.int j u)) Q E s) :
  OpR X f (rI C λi j=>.int (g i j)):=by
 intro pins s σ H x y v u Q I rx ry h;obtain ⟨i,j,rfl,rfl,hc,q⟩:=h;obtain ⟨t,rfl⟩:=rx;obtain ⟨t',rfl⟩:=ry;exact rule i j t t' s _ _ hc ⟨.int (g i j),H,I.tok _,⟨_,rfl⟩,q⟩
theorem K1 {f:Vy->Vy->Sem Vy}{g:Int->Int->Int}
  (rule:∀ (i j:Int) (t u:Tok) (s:Vx) (Q:Vy->Vx->Prop) (E:Vy->Vx->Prop),Q (.int (g i j) s.toks) { s with toks:=s.toks+1 }->wpAny (model X.prog X.w) X.A (f (.int i t) (.int j u)) Q E s) :
  OpR X f (rI0 λi j=>.int (g i j)):=by
 intro pins s σ H x y v u Q I rx ry h;obtain ⟨i,j,rfl,rfl,q⟩:=h;obtain ⟨t,rfl⟩:=rx;obtain ⟨t',rfl⟩:=ry;exact rule i j t t' s _ _ ⟨.int (g i j),H,I.tok _,⟨_,rfl⟩,q⟩
theorem Ih {f:Vy->Vy->Sem Vy}{g:Int->Int->Bool}
  (rule:∀ (i j:Int) (t u:Tok) (s:Vx) (Q:Vy->Vx->Prop) (E:Vy->Vx->Prop),Q (.bool (g i j)) s->wpAny (model X.prog X.w) X.A (f (.int i t) (.int j u)) Q E s) :
  OpR X f (rI0 λi j=>.bl (g i j)):=by
 intro pins s σ H x y v u Q I rx ry h;obtain ⟨i,j,rfl,rfl,q⟩:=h;obtain ⟨t,rfl⟩:=rx;obtain ⟨t',rfl⟩:=ry;exact rule i j t t' s _ _ ⟨.bl (g i j),H,I,rfl,q⟩
def NR (i j:Int):Prop:=0<j/\j<1073741824
def OP (i j:Int):Prop:=0<=j/\j<=1000000/\i.natAbs<2 ^ 64
def Ko (i j:Int):Prop:=(-(2 ^ 64)<i/\i<2 ^ 64)\/(-(2 ^ 64)<j/\j<2 ^ 64)
theorem Ko.ok {i j:Int} (h:Ko i j):IntMulOk i j:=by
 rcases h with ⟨h1,h2⟩ | ⟨h1,h2⟩
 ·exact .of_left (intBits_le_64 h1 h2)
 ·exact .of_right (intBits_le_64 h1 h2)
theorem fV:OpR X (binaryOp .Add) (rI0 λi j=>.int (i+j)):=K1 λ_ _ _ _ _ _ _ q=>add_int q
theorem zL:OpR X (binaryOp .Sub) (rI0 λi j=>.int (i - j)):=K1 λ_ _ _ _ _ _ _ q=>sub_int q
theorem DX:OpR X (binaryOp .Mult) (rI Ko λi j=>.int (i * j)):=opI λ_ _ _ _ _ _ _ hc q=>mul_int q hc.ok
theorem BX:OpR X (binaryOp .FloorDiv) (rI NR λi j=>.int (i / j)):=opI λi j _ _ _ _ _ hc q=>by
 have h1:(0:Int)<j:=hc.1;have h2:j<1073741824:=hc.2;exact floordiv_int (by lia) (by rw [Int.fdiv_eq_ediv_of_nonneg i (by lia)];exact q) (.inl (PyProof.noPylong_small (by lia)))
theorem pA:OpR X (binaryOp .Mod) (rI (λ_ j=>0<j) λi j=>.int (i % j)):=opI λi j _ _ _ _ _ hc q=>by
 have h1:(0:Int)<j:=hc;exact mod_int' (by lia) (by rw [Int.fmod_eq_emod_of_nonneg i (by lia)];exact q)
theorem wV:OpR X (binaryOp .Pow) (rI OP λi j=>.int (i ^ j.toNat)):=opI λ_ _ _ _ _ _ _ hc q=>pow_int_small hc.1 hc.2.1 hc.2.2 q
theorem unI {f:Vy->Sem Vy}{g:Int->Int}
  (rule:∀ (i:Int) (t:Tok) (s:Vx) (Q:Vy->Vx->Prop) (E:Vy->Vx->Prop),Q (.int (g i) s.toks) { s with toks:=s.toks+1 }->wpAny (model X.prog X.w) X.A (f (.int i t)) Q E s) :
  UnR X f (rU λi=>.int (g i)):=by
 intro pins s σ H x v Q I rx h;obtain ⟨i,rfl,q⟩:=h;obtain ⟨t,rfl⟩:=rx;exact rule i t s _ _ ⟨.int (g i),H,I.tok _,⟨_,rfl⟩,q⟩
theorem rE:UnR X (unaryOp .USub) (rU λi=>.int (-i)):=unI λ_ _ _ _ _ q=>neg_int q
end
def L9:V->V->Bool
 | .non,.non=>true | .non,.int _=>true | .int _,.non=>true | .non,.bl _=>true | .bl _,.non=>true | .non,.str _=>true | .str _,.non=>true
 | .int _,.int _=>true | .bl _,.bl _=>true | .str _,.str _=>true | .byt _,.byt _=>true
 | .int _,.str _=>true | .str _,.int _=>true | .bl _,.str _=>true | .str _,.bl _=>true
 | _,_=>false
def rEq:R2:=λx y H Q=>L9 x y=true/\Q (.bl (decide (x=y))) H
def rNe:R2:=λx y H Q=>L9 x y=true/\Q (.bl (!decide (x=y))) H
theorem Bg {i j:Int}:decide (V.int i=V.int j)=(i == j):=by
 rw [Qp];simp
theorem Ez {i j:Bool}:decide (V.bl i=V.bl j)=(i == j):=by
 rw [Qp];simp
theorem B3 {i j:Str}:decide (V.str i=V.str j)=(i == j):=by
 rw [Qp];simp
theorem BS {i j:Array UInt8}:decide (V.byt i=V.byt j)=(i.toList == j.toList):=by
 rw [Qp];cases i;cases j;simp
section
variable {X:Cx}{a b c:Expr}{ta tb tc:TE}{pos:Pos}
theorem bA {pins:List (Addr×Obj)}{σ:St}{H:Hp}{s:Vx}{Q:VK}{k k':Bool} (I:Inv X pins σ H s) (q:Q (.bl k) H) (e:k=k'):EP X pins σ Q (.bool k') s:=by
 subst e;exact ⟨.bl k,H,I,rfl,q⟩
theorem eO:OpR X (compareOp .Eq) rEq:=by
 intro pins s σ H x y v u Q I rx ry h;obtain ⟨hs,q⟩:=h;cases x with
 | non=>
  cases rx;cases y with
  | non=>cases ry;exact PySem.EqNone.eq_none_none (bA I q (by simp))
  | bl j=>cases ry;exact PySem.EqNone.eq_none_bool (bA I q (by simp))
  | int j=>obtain ⟨t',rfl⟩:=ry;exact PySem.EqNone.eq_none_int (bA I q (by simp))
  | str j=>obtain ⟨t',rfl⟩:=ry;exact PySem.EqNone.eq_none_str (bA I q (by simp))
  | _=>exact absurd (show false=true from hs) P6
 | bl i=>
  cases rx;cases y with
  | non=>cases ry;exact PySem.EqNone.eq_bool_none (bA I q (by simp))
  | bl j=>cases ry;exact eq_bool (bA I q Ez)
  | str j=>obtain ⟨t',rfl⟩:=ry;exact PySem.EqMixed.eq_bool_str (bA I q (by simp))
  | _=>exact absurd (show false=true from hs) P6
 | int i=>
  obtain ⟨t,rfl⟩:=rx;cases y with
  | non=>cases ry;exact PySem.EqNone.eq_int_none (bA I q (by simp))
  | int j=>obtain ⟨t',rfl⟩:=ry;exact eq_int (bA I q Bg)
  | str j=>obtain ⟨t',rfl⟩:=ry;exact PySem.EqMixed.eq_int_str (bA I q (by simp))
  | _=>exact absurd (show false=true from hs) P6
 | str i=>
  obtain ⟨t,rfl⟩:=rx;cases y with
  | non=>cases ry;exact PySem.EqNone.eq_str_none (bA I q (by simp))
  | bl j=>cases ry;exact PySem.EqMixed.eq_str_bool (bA I q (by simp))
  | int j=>obtain ⟨t',rfl⟩:=ry;exact PySem.EqMixed.eq_str_int (bA I q (by simp))
  | str j=>obtain ⟨t',rfl⟩:=ry;exact eq_str (bA I q B3)
  | _=>exact absurd (show false=true from hs) P6
 | byt i=>
  obtain ⟨t,rfl⟩:=rx;cases y with
  | byt j=>obtain ⟨t',rfl⟩:=ry;exact PySem.W.eq_bytes (bA I q BS)
  | _=>exact absurd (show false=true from hs) P6
 | _=>cases y <;> exact absurd (show false=true from hs) P6
theorem qC:OpR X (compareOp .NotEq) rNe:=by
 intro pins s σ H x y v u Q I rx ry h;obtain ⟨hs,q⟩:=h;cases x with
 | non=>
  cases rx;cases y with
  | non=>cases ry;exact PySem.EqNone.ne_none_none (bA I q (by simp))
  | bl j=>cases ry;exact PySem.EqNone.ne_none_bool (bA I q (by simp))
  | int j=>obtain ⟨t',rfl⟩:=ry;exact PySem.EqNone.ne_none_int (bA I q (by simp))
  | str j=>obtain ⟨t',rfl⟩:=ry;exact PySem.EqNone.ne_none_str (bA I q (by simp))
  | _=>exact absurd (show false=true from hs) P6
 | bl i=>
  cases rx;cases y with
  | non=>cases ry;exact PySem.EqNone.ne_bool_none (bA I q (by simp))
  | bl j=>cases ry;exact ne_bool (bA I q (congrArg not Ez))
  | str j=>obtain ⟨t',rfl⟩:=ry;exact PySem.EqMixed.ne_bool_str (bA I q (by simp))
  | _=>exact absurd (show false=true from hs) P6
 | int i=>
  obtain ⟨t,rfl⟩:=rx;cases y with
  | non=>cases ry;exact PySem.EqNone.ne_int_none (bA I q (by simp))
  | int j=>obtain ⟨t',rfl⟩:=ry;exact ne_int (bA I q (congrArg not Bg))
  | str j=>obtain ⟨t',rfl⟩:=ry;exact PySem.EqMixed.ne_int_str (bA I q (by simp))
  | _=>exact absurd (show false=true from hs) P6
 | str i=>
  obtain ⟨t,rfl⟩:=rx;cases y with
  | non=>cases ry;exact PySem.EqNone.ne_str_none (bA I q (by simp))
  | bl j=>cases ry;exact PySem.EqMixed.ne_str_bool (bA I q (by simp))
  | int j=>obtain ⟨t',rfl⟩:=ry;exact PySem.EqMixed.ne_str_int (bA I q (by simp))
  | str j=>obtain ⟨t',rfl⟩:=ry;exact ne_str (bA I q (congrArg not B3))
  | _=>exact absurd (show false=true from hs) P6
 | byt i=>
  obtain ⟨t,rfl⟩:=rx;cases y with
  | byt j=>obtain ⟨t',rfl⟩:=ry;exact PySem.W.ne_bytes (bA I q (congrArg not BS))
  | _=>exact absurd (show false=true from hs) P6
 | _=>cases y <;> exact absurd (show false=true from hs) P6
theorem tH:OpR X (compareOp .Lt) (rI0 λi j=>.bl (decide (i<j))):=Ih λ_ _ _ _ _ _ _ q=>lt_int q
theorem zv:OpR X (compareOp .LtE) (rI0 λi j=>.bl (decide (i<=j))):=Ih λ_ _ _ _ _ _ _ q=>le_int q
theorem IR:OpR X (compareOp .Gt) (rI0 λi j=>.bl (decide (j<i))):=Ih λ_ _ _ _ _ _ _ q=>gt_int q
theorem Ca:OpR X (compareOp .GtE) (rI0 λi j=>.bl (decide (j<=i))):=Ih λ_ _ _ _ _ _ _ q=>ge_int q
theorem AO:OpR X (compareOp .Is) (λx y H Q=>y = .non/\Q (.bl (decide (x = .non))) H):=by
 intro pins s σ H x y v u Q I rx ry h;obtain ⟨rfl,q⟩:=h;cases ry;refine is_none_gen (bA I q ?_);cases x <;> first
  | (cases rx;rfl)
  | (obtain ⟨t,rfl⟩:=rx;rfl)
theorem aG (b:Expr) {op:CmpOp} (h:op ≠ .In:=by decide) (h2:op ≠ .NotIn:=by decide):behindInMarks op b=false:=by
 have e1:(op == CmpOp.In)=false:=by cases op <;> first | rfl | exact absurd rfl h
 have e2:(op == CmpOp.NotIn)=false:=by cases op <;> first | rfl | exact absurd rfl h2
 cases b <;> simp [behindInMarks,e1,e2]
theorem bJ {op:CmpOp}{r:R2} (ho:OpR X (compareOp op) r) (ha:PE X a ta) (hb:PE X b tb) (hm:behindInMarks op b=false):PE X (.Compare a [op] [b] pos) (tOp r ta tb):=by
 intro pins s σ H Q I h;exact wpAny_Compare1 (KC ha hb I h λv u s2 x y H2 I2 rx ry q=>ho pins s2 σ H2 x y v u Q I2 rx ry q) hm
def vF (t:TE):TT:=λσ H Q=>t σ H λx H'=>∃ k,x = .bl k/\Q k H'
theorem aJ {op:CmpOp}{r:R2} (ho:OpR X (compareOp op) r) (ha:PE X a ta) (hb:PE X b tb) (hm:behindInMarks op b=false):PT X (.Compare a [op] [b] pos) (vF (tOp r ta tb)):=by
 intro pins s σ H Q I h;refine wpAny_isTrue_Compare1 (thn (ha pins s σ H _ I h) λv s1 ⟨x,H1,I1,r1,q1⟩=>thn (hb pins s1 σ H1 _ I1 q1) λu s2 ⟨y,H2,I2,r2,q2⟩=>
  thn (ho pins s2 σ H2 x y v u _ I2 r1 r2 q2) λc s3 ⟨z,H3,I3,r3,k,e,q3⟩=>?_) hm
 subst e;cases r3;exact wpAny_truthy_bool ⟨H3,I3,q3⟩
def w6 (r r':R2) (ta tb tc:TE):TE:=λσ H Q=>ta σ H λx H1=>tb σ H1 λy H2=>r x y H2 λz H3=>∃ k,z = .bl k /\
 (if k=true then tc σ H3 λw' H4=>r' y w' H4 Q else Q (.bl false) H3)
theorem xT {op op':CmpOp}{r r':R2} (ho:OpR X (compareOp op) r) (ho':OpR X (compareOp op') r') (ha:PE X a ta) (hb:PE X b tb) (hc:PE X c tc)
  (hm:lastMarks [op,op'] [b,c]=false:=by with_unfolding_all rfl):PE X (.Compare a [op,op'] [b,c] pos) (w6 r r' ta tb tc):=by
 intro pins s σ H Q I h;refine Compare_chain (thn (ha pins s σ H _ I h) λv s1 ⟨x,H1,I1,r1,q1⟩=>chain_link (thn (hb pins s1 σ H1 _ I1 q1) λu s2 ⟨y,H2,I2,r2,q2⟩=>
  thn (ho pins s2 σ H2 x y v u _ I2 r1 r2 q2) λd s3 ⟨z,H3,I3,r3,k,e,q3⟩=>?_)) hm
 subst e;cases r3;refine wpAny_truthy_bool ?_;cases k with
 | false=>exact ite_ff ⟨.bl false,H3,I3,rfl,q3⟩
 | true=>exact ite_tt (chain_last (thn (hc pins s3 σ H3 _ I3 q3) λw' s4 ⟨z',H4,I4,r4,q4⟩=>ho' pins s4 σ H4 y z' u w' Q I4 r2 r4 q4))
theorem yE {op op':CmpOp}{r r':R2} (ho:OpR X (compareOp op) r) (ho':OpR X (compareOp op') r') (ha:PE X a ta) (hb:PE X b tb) (hc:PE X c tc)
  (hm:lastMarks [op,op'] [b,c]=false:=by with_unfolding_all rfl):PT X (.Compare a [op,op'] [b,c] pos) (vF (w6 r r' ta tb tc)):=by
 intro pins s σ H Q I h;refine isTrue_chain (thn (ha pins s σ H _ I h) λv s1 ⟨x,H1,I1,r1,q1⟩=>test_link (thn (hb pins s1 σ H1 _ I1 q1) λu s2 ⟨y,H2,I2,r2,q2⟩=>
  thn (ho pins s2 σ H2 x y v u _ I2 r1 r2 q2) λd s3 ⟨z,H3,I3,r3,k,e,q3⟩=>?_)) hm
 subst e;cases r3;refine wpAny_truthy_bool ?_;cases k with
 | false=>
  obtain ⟨k',e',q'⟩:=q3;cases e';exact ite_ff ⟨H3,I3,q'⟩
 | true=>
  refine ite_tt (test_last (thn (hc pins s3 σ H3 _ I3 q3) λw' s4 ⟨z',H4,I4,r4,q4⟩=>thn (ho' pins s4 σ H4 y z' u w' _ I4 r2 r4 q4) λd' s5 ⟨z2,H5,I5,r5,k2,e2,q5⟩=>?_));subst e2;cases r5;exact wpAny_truthy_bool ⟨H5,I5,q5⟩
def G9 (K:Vz) (x:V) (H:Hp) (k:Bool):Prop:=
 match x with
 | .non=>k=false
 | .bl b=>k=b
 | .int i=>k=(i != 0)
 | .str y=>y.length<=sizeLine/\k=((y.length:Int) != 0)
 | .byt y=>y.size<=sizeLine/\k=((y.size:Int) != 0)
 | .ref p=>(∃ xs,SqL K H p xs/\k = !xs.isEmpty)\/(∃ xs,SqT K H p xs/\k = !xs.isEmpty)\/∃ kvs,H p=some (.dK kvs)/\k = !kvs.isEmpty
 | _=>False
theorem Ak {κ:Type}{kvs:List (κ×V)}{vs:List (κ×Vy)} (r:KV kvs vs):(!vs.isEmpty) = !kvs.isEmpty:=by
 cases r <;> rfl
theorem rR {xs:List V}{its:List Vy} (r:aS xs its):(!its.toArray.isEmpty) = !xs.isEmpty:=by
 cases r <;> simp
theorem nz:(sizeLine:Nat)<2 ^ 63:=by rw [sizeLine_eq];decide
theorem F1:NT X (λx H Q=>∃ k,G9 X.K x H k/\Q k H):=by
 intro pins s σ H x v Q I rx h;obtain ⟨k,e,q⟩:=h;have hl:=nz;have hs:sizeLine=16777216:=sizeLine_eq;cases x with
 | non=>
  cases rx;have e':k=false:=e;subst e';exact truthy_none ⟨H,I,q⟩
 | bl b=>
  cases rx;have e':k=b:=e;subst e';exact wpAny_truthy_bool ⟨H,I,q⟩
 | int i=>
  obtain ⟨t,rfl⟩:=rx;have e':k=(i != 0):=e;subst e';exact PySem.P.truthy_int ⟨H,I,q⟩
 | str y=>
  obtain ⟨t,rfl⟩:=rx;obtain ⟨hy,e'⟩:y.length<=sizeLine/\k=((y.length:Int) != 0):=e;subst e';exact PySem.P.truthy_str (by lia) ⟨H,I.tok _,q⟩
 | byt y=>
  obtain ⟨t,rfl⟩:=rx;obtain ⟨hy,e'⟩:y.size<=sizeLine/\k=((y.size:Int) != 0):=e;subst e';exact PySem.W.truthy_bytes (by lia) ⟨H,I.tok _,q⟩
 | ref p=>
  cases rx;have e':(∃ xs,SqL X.K H p xs/\k = !xs.isEmpty)\/(∃ xs,SqT X.K H p xs/\k = !xs.isEmpty)\/∃ kvs,H p=some (.dK kvs)/\k = !kvs.isEmpty:=e;rcases e' with ⟨xs,hx,e'⟩ | ⟨xs,hx,e'⟩ | ⟨kvs,hx,e'⟩
  ·subst e';obtain ⟨its,r,pl,hz⟩:=I.list hx;have hlen:=r.length;exact wpAny_truthy_list pl.isList (by simp only [P1];lia) ⟨H,I.tok _,by rw [rR r];exact q⟩
  ·subst e';obtain ⟨its,r,pl,hz⟩:=I.tuple hx;have hlen:=r.length;exact truthy_tuple pl (by simp only [P1];lia) ⟨H,I.tok _,by rw [rR r];exact q⟩
  ·subst e';obtain ⟨hz,hS,vs,r,m⟩:kvs.length<=sizeLine/\(p == sysModules)=false/\∃ vs,KV kvs vs/\s.heap.DictOf (ba X.prog X.w) p vs:=I.hok p _ hx;have hlen:kvs.length=vs.length:=Paired.length r;exact wpAny_truthy_dict hS m (by lia) ⟨H,I.tok _,by rw [Ak r];exact q⟩
 | _=>exact (show False from e).elim
theorem sf (ha:PE X a ta) (he:∀ whole,isTrue a X.env whole=(do let v <-whole;standAt a.pos;holding [v] (truthy v))) :
  PT X a (λσ H Q=>ta σ H λx H'=>∃ k,G9 X.K x H' k/\Q k H'):=by
 intro pins s σ H Q I h;exact isTrue_plain (thn (ha pins s σ H _ I h) λv s1 ⟨x,H1,I1,r1,q1⟩=>F1 pins s1 σ H1 x v Q I1 r1 q1) (he _)
theorem zO:OpR X (binaryOp .Add) (λx y H Q=>∃ i j,x = .str i/\y = .str j/\i.length+j.length<=sizeLine/\Q (.str (i++j)) H):=by
 intro pins s σ H x y v u Q I rx ry h;obtain ⟨i,j,rfl,rfl,hz,q⟩:=h;obtain ⟨t,rfl⟩:=rx;obtain ⟨t',rfl⟩:=ry;exact add_str (λt' tk=>⟨.str (i++j),H,I.tok _,⟨_,rfl⟩,q⟩) hz
theorem vals1 {x:V}{us:List Vy} (r:aS [x] us):∃ u,us=[u]/\RelV x u:=by
 cases r with
 | cons r1 r2=>cases r2;exact ⟨_,rfl,r1⟩
theorem vals2 {x y:V}{us:List Vy} (r:aS [x,y] us):∃ u w',us=[u,w']/\RelV x u/\RelV y w':=by
 cases r with
 | cons r1 r2=>
  cases r2 with
  | cons r3 r4=>cases r4;exact ⟨_,_,rfl,r1,r3⟩
end
structure Am (h:Heap) (x dx C:Addr) (mA:Str->Option Vy):Prop where
 obj:h.get? x=some (PySem.W.instObj C dx)
 ns:h.Ns1 dx mA
 ne:dx≠x
theorem C1 {h:Heap}{dx:Addr}{mA:Str->Option Vy} (n:h.Ns1 dx mA):∃ od,h.get? dx=some od/\∀ name,PySem.W.lookIn name od=some (mA name):=by
 obtain ⟨o,es,ep,ho,hd,hk,_,hm⟩:=n;refine ⟨o,ho,λname=>?_⟩;have e:=hm name;unfold nsFind findBy at e;rw [<-Array.find?_toList] at e;unfold PySem.W.lookIn;rw [hd];dsimp only
 split
 ·rename_i y q;rw [q] at e;exact congrArg some e
 ·rename_i q;rw [q] at e;have a:es.toList.any (·.refKey)=false:=by
   rw [List.any_eq_false];intro y hy;obtain ⟨z,t,HS⟩:=hk y (Array.mem_toList_iff.mp hy);simp [DictEntry.refKey,HS]
  have a':¬ es.toList.any (·.refKey)=true:=by rw [a];exact P6
  rw [if_neg a'];exact congrArg some e
theorem Am.look {h:Heap}{x dx C:Addr}{mA:Str->Option Vy} (I:Am h x dx C mA):∃ od,PySem.W.InstAt h x (PySem.W.instObj C dx) C (some od)/\∀ name,PySem.W.lookIn name od=some (mA name):=
 let ⟨od,ho,hl⟩:=C1 I.ns
 ⟨od,⟨I.obj,rfl,rfl,ho⟩,hl⟩
section
variable {prog:Program}{w:World}{A:Around}{E:Vy->Vx->Prop}{s:Vx}{K:Vz}{x dx C f:Addr}{mA:Str->Option Vy}{name:Str}{v:Vy}
theorem get_map {expr:Bool}{Q:Vy->Vx->Prop} (X:K.In s.heap) (I:Am s.heap x dx C mA) (hg:PySem.W.plainGet K C name=true) (hh:PySem.W.hasDictIn K C=true)
  (ha:PySem.W.findIn K (.ref C) name=some none) (hv:mA name=some v) (hv':PySem.W.handedIn v=true) (h:Q v { s with toks:=s.toks+1 }) :
  wpAny (model prog w) A (getAttr (.ref x) name expr) Q E s:=by
 obtain ⟨od,J,hl⟩:=I.look;exact PySem.W.get_value X J (PySem.W.plainGet_of hg).1 (PySem.W.findObj_own hh ha rfl (by rw [hl,hv])) hv' h
theorem EH {pl:Sem Bool}{Q:Vy×List Vy->Vx->Prop} (X:K.In s.heap) (I:Am s.heap x dx C mA) (hg:PySem.W.plainGet K C name=true)
  (hf:PySem.W.findIn K (.ref C) name=some (some (.ref f))) (ht:PySem.W.isFn K (.ref f)=true) (hv:mA name=none) (h:Q (.ref f,[.ref x]) s) :
  wpAny (model prog w) A (getMethod (.ref x) name pl) Q E s:=by
 obtain ⟨od,J,hl⟩:=I.look;exact PySem.W.method_fn X J (PySem.W.plainGet_of hg).1 (PySem.W.plainGet_of hg).2 hf (beq_iff_eq.mp ht) (by show (PySem.W.lookIn name od).map (·.isSome)=some false;rw [hl,hv];rfl) h
theorem HL {ns:List Str}{Q:Unit->Vx->Prop} (X:K.In s.heap) (I:Am s.heap x dx C mA)
  (hs:PySem.W.findIn K (.ref C) "__setattr__" = some (some (.builtin "object.__setattr__"))) (hp:PySem.W.plainOver K C=true) (ht:PySem.W.takerIn K C name=some none) (hh:PySem.W.hasDictIn K C=true)
  (hw:PySem.Within mA ns) (hsz:ns.length<=sizeLine)
  (h:∀ h',Am h' x dx C (λy=>if y=name then some v else mA y)->Heap.SameBut dx s.heap h'->Q () { s with heap:=h',toks:=s.toks+2 }) :
  wpAny (model prog w) A (setAttr (.ref x) name v) Q E s:=by
 obtain ⟨od,J,hl⟩:=I.look;refine PySem.W.set_plain X J hs (PySem.W.osa_open (s:={ s with toks:=s.toks+1 }) (r:=none) X J hp ht λb=>?_);obtain ⟨cd,hc,hd'⟩:=PySem.W.any_some hh;have hx:s.heap.get? x=some ⟨.ref C,some dx,.plain,#[]⟩:=I.obj;refine Vw (Vv (Vw (Vw (wpAny_loadPart hx (Vw (PySem.W.Looks.here (s:={ s with toks:=s.toks+1 }) (PySem.W.looks_clsIn X hc) ?_))))));rw [hd'];refine Vv (a:=some dx) (Vw (Vv (Vw ?_)));refine wpAny_nsSet1 (s:={ s with toks:=s.toks+1 }) I.ns λh' hn2 hs2=>?_;obtain ⟨oD,esD,epD,hoD,hdD,hcD⟩:=hn2.count (PySem.Within.cons name v hw);refine Vw (wpAny_lookBehind hoD (by rw [hdD];exact pastItsLine_dict (P2 hcD (by rw [Qh];lia))) ?_);exact Vv (h _ ⟨(hs2.2 _ (Ne.symm I.ne)).trans I.obj,hn2,I.ne⟩ hs2)
theorem Fk {R:Result->Vx->Prop}{vs:List Vy}{kw:List (Str×Vy)} (X:K.In s.heap) (hm:PySem.W.makesIn K C=true)
  (hi:PySem.W.findIn K (.ref C) "__init__" = some (some (.ref f))) (hf:PySem.W.typeIn K (.ref f)=some (.type "function"))
  (h:codeAny (model prog w) (A.under (.builtin "type.__call__" ⟨.ref C::vs,kw⟩)) (.call (.ref f) ⟨.ref (s.heap.objs.size+1)::vs,kw⟩) (PySem.W.InitBack (s.heap.objs.size+1) R)
   { s with heap:=(s.heap.push PySem.W.emptyDict).push (PySem.W.instObj C s.heap.objs.size) }) :
  codeAny (model prog w) A (.call (.ref C) ⟨vs,kw⟩) R s:=by
 obtain ⟨hh,g,d,t,os⟩:=s;exact PySem.W.make_core (PySem.W.makes_of X hm) (PySem.W.looks_findIn X hi) (λself=>PySem.W.bind_fn X self hf) (.inl rfl) h
end
def mz (f:Str) (v:V):List (Str×V)->List (Str×V)
 | []=>[(f,v)]
 | (g,x)::r=>if g=f then (g,v)::r else (g,x)::mz f v r
theorem qm (f g:Str) (v:V):∀ fs:List (Str×V),(mz f v fs).lookup g=if g=f then some v else fs.lookup g
 | []=>by
  show List.lookup g [(f,v)]=_;by_cases h:g=f
  ·have hb:(g == f)=true:=beq_iff_eq.mpr h;simp only [List.lookup,hb,if_pos h]
  ·have hb:(g == f)=false:=beq_eq_false_iff_ne.mpr h;simp only [List.lookup,hb,if_neg h]
 | (k,x)::r=>by
  have ih:=qm f g v r;rw [show mz f v ((k,x)::r)=(if k=f then (k,v)::r else (k,x)::mz f v r) from rfl];by_cases hk:k=f
  ·rw [if_pos hk];by_cases h:g=k
   ·have hb:(g == k)=true:=beq_iff_eq.mpr h;simp only [List.lookup,hb,if_pos (h.trans hk)]
   ·have hb:(g == k)=false:=beq_eq_false_iff_ne.mpr h;simp only [List.lookup,hb,if_neg (λe:g=f=>h (e.trans hk.symm))]
  ·rw [if_neg hk];by_cases h:g=k
   ·have hb:(g == k)=true:=beq_iff_eq.mpr h;simp only [List.lookup,hb,if_neg (λe:g=f=>hk (h.symm.trans e))]
   ·have hb:(g == k)=false:=beq_eq_false_iff_ne.mpr h;simp only [List.lookup,hb];exact ih
theorem p6 (f:Str) (v:V):∀ fs:List (Str×V),f∈(mz f v fs).map (·.1)/\∀ g,g∈fs.map (·.1)->g∈(mz f v fs).map (·.1)
 | []=>⟨by simp [mz],λg h=>by simp at h⟩
 | (k,x)::r=>by
  obtain ⟨i1,i2⟩:=p6 f v r;rw [show mz f v ((k,x)::r)=(if k=f then (k,v)::r else (k,x)::mz f v r) from rfl];by_cases hk:k=f
  ·rw [if_pos hk];subst hk;exact ⟨by simp,λg h=>by simpa using h⟩
  ·rw [if_neg hk];refine ⟨?_,λg h=>?_⟩
   ·rw [Ql];exact PY _ i1
   ·rw [Ql] at h ⊢;rcases Qi.mp h with e | e
    ·exact Qi.mpr (.inl e)
    ·exact PY _ (i2 g e)
theorem qe (f:Str) (v:V):∀ fs:List (Str×V),(mz f v fs).length<=fs.length+1
 | []=>by simp [mz]
 | (k,x)::r=>by
  have ih:=qe f v r;rw [show mz f v ((k,x)::r)=(if k=f then (k,v)::r else (k,x)::mz f v r) from rfl];by_cases hk:k=f
  ·rw [if_pos hk,Qh,Qh];lia
  ·rw [if_neg hk,Qh,Qh];lia
theorem pB.some_of {v:V}{o:Option Vy} (r:pB (some v) o):∃ u,o=some u/\RelV v u:=by
 cases o with
 | none=>exact (show False from r).elim
 | some u=>exact ⟨u,rfl,r⟩
theorem pB.none_of {o:Option Vy} (r:pB none o):o=none:=by
 cases o with
 | none=>rfl
 | some u=>exact (show False from r).elim
theorem Dj {v:V}{u:Vy} (r:RelV v u):PySem.W.handedIn u=true:=by
 cases v with
 | non=>cases (show u=Value.none from r);rfl
 | bl b=>cases (show u=Value.bool b from r);rfl
 | int i=>obtain ⟨t,e⟩:=(show ∃ t,u=Value.int i t from r);cases e;rfl
 | str x=>obtain ⟨t,e⟩:=(show ∃ t,u=Value.str x t from r);cases e;rfl
 | byt b=>obtain ⟨t,e⟩:=(show ∃ t,u=Value.bytes b t from r);cases e;rfl
 | flt b=>obtain ⟨t,e⟩:=(show ∃ t,u=Value.float b t from r);cases e;rfl
 | ref a=>cases (show u=Value.ref a from r);rfl
 | ty n=>cases (show u=Value.type n from r);rfl
section
variable {P:Program}{w:World}{H H':Hp}{h h':Heap}{a C dx:Addr}{fs fs':List (Str×V)}
theorem gq (hok:HOk P w H h) (e:H a=some (.ins C dx fs)):∃ mA,Am h a dx C mA/\(∀ f,pB (fs.lookup f) (mA f))/\PySem.Within mA (fs.map (·.1))/\fs.length<=1000/\H dx=some (.own a):=by
 obtain ⟨d,z,ne,ob,mA,n,r,q⟩:=(show bU P w H h a (.ins C dx fs) from hok a _ e);exact ⟨mA,⟨ob,n,ne⟩,r,q,z,d⟩
end
structure Cls (K:Vz) (C:Addr):Prop where
 pg:PySem.W.plainGet K C Str.empty=true
 hd:PySem.W.hasDictIn K C=true
 po:PySem.W.plainOver K C=true
 sa:PySem.W.findIn K (.ref C) "__setattr__" = some (some (.builtin "object.__setattr__"))
theorem Cls.get {K:Vz}{C:Addr} (c:Cls K C) (f:Str):PySem.W.plainGet K C f=true:=c.pg
def bQ (K:Vz) (C:Addr) (f:Str):Prop:=PySem.W.findIn K (.ref C) f=some none
theorem bQ.L8 {K:Vz}{C:Addr}{f:Str} (n:bQ K C f):PySem.W.takerIn K C f=some none:=by
 unfold PySem.W.takerIn;rw [show PySem.W.findIn K (.ref C) f=some none from n];rfl
structure Con (K:Vz) (C:Addr) (f:Str) (v:V) (u:Vy):Prop where
 at_:PySem.W.findIn K (.ref C) f=some (some u)
 rel:RelV v u
 get:PySem.W.specialIn K u "__get__" = some none
 cp:PySem.W.copiedNames.contains f=false
structure i3 (K:Vz) (C:Addr) (m:Str) (f:Addr):Prop where
 at_:PySem.W.findIn K (.ref C) m=some (some (.ref f))
 fn:PySem.W.isFn K (.ref f)=true
 kp:PySem.W.keepIn K (.ref f)=true
section
variable {X:Cx}{pins:List (Addr×Obj)}{σ:St}{H:Hp}{s:Vx}{a C dx:Addr}{fs:List (Str×V)}{f:Str}{v:V}{A:Around}{E:Vy->Vx->Prop}
theorem A9 {b:Bool}{Q:Vy->Vx->Prop} (I:Inv X pins σ H s) (e:H a=some (.ins C dx fs)) (c:Cls X.K C) (n:bQ X.K C f) (l:fs.lookup f=some v)
  (h:∀ u s',Inv X pins σ H s'->RelV v u->Q u s'):wpAny (model X.prog X.w) A (getAttr (.ref a) f b) Q E s:=by
 obtain ⟨mA,O,r,_,_,_⟩:=gq I.hok e;obtain ⟨u,hu,ru⟩:=pB.some_of (v:=v) (o:=mA f) (by rw [<-l];exact r f);exact get_map I.kIn O (c.get f) c.hd n hu (Dj ru) (h u _ (I.tok _) ru)
theorem rD {m:Str}{g:Addr}{pl:Sem Bool}{Q:Vy×List Vy->Vx->Prop} (I:Inv X pins σ H s) (e:H a=some (.ins C dx fs)) (c:Cls X.K C) (k:i3 X.K C m g) (l:fs.lookup m=none)
  (h:Q (.ref g,[.ref a]) s):wpAny (model X.prog X.w) A (getMethod (.ref a) m pl) Q E s:=by
 obtain ⟨mA,O,r,_,_,_⟩:=gq I.hok e;have hn:mA m=none:=pB.none_of (by rw [<-l];exact r m);exact EH I.kIn O (c.get m) k.at_ k.fn hn h
theorem Ax {y:V}{u:Vy}{Q:Unit->Vx->Prop} (I:Inv X pins σ H s) (e:H a=some (.ins C dx fs)) (c:Cls X.K C) (n:bQ X.K C f) (hl:fs.length<1000) (ry:RelV y u)
  (h:∀ s',Inv X pins σ (upd H a (.ins C dx (mz f y fs))) s'->Q () s'):wpAny (model X.prog X.w) A (setAttr (.ref a) f u) Q E s:=by
 obtain ⟨mA,O,r,wi,_,ho⟩:=gq I.hok e;have hz:(fs.map (·.1)).length<=sizeLine:=by rw [PQ,sizeLine_eq];lia
 refine HL I.kIn O c.sa c.po n.L8 c.hd wi hz λh' O' sb=>h _ ?_;have hd:∃ o,h'.get? dx=some o:=let ⟨o,_,_,e',_⟩:=O'.ns;⟨o,e'⟩;refine I.write (x:=a) (e:=dx) (by rw [e];exact True.intro) (.inr ho) (λb q hb z=>(sb.2 b hb).trans z) hd ?_;refine ⟨by rw [au O.ne];exact ho,?_,O.ne,O'.obj,_,O'.ns,λg=>?_,λg hg=>?_⟩
 ·have:=qe f y fs;lia
 ·show pB ((mz f y fs).lookup g) (if g=f then some u else mA g);rw [qm];by_cases q:g=f
  ·rw [if_pos q,if_pos q];exact ry
  ·rw [if_neg q,if_neg q];exact r g
 ·by_cases q:g=f
  ·rw [q];exact (p6 f y fs).1
  ·refine (p6 f y fs).2 g (wi g λz=>hg ?_);show (if g=f then some u else mA g)=none;rw [if_neg q];exact z
theorem Inv.made (I:Inv X pins σ H s):Inv X pins σ (upd (upd H s.heap.objs.size (.own (s.heap.objs.size+1))) (s.heap.objs.size+1) (.ins C s.heap.objs.size []))
  { s with heap:=(s.heap.push PySem.W.emptyDict).push (PySem.W.instObj C s.heap.objs.size) }:=by
 have e1:(s.heap.push PySem.W.emptyDict).get? s.heap.objs.size=some PySem.W.emptyDict:=Heap.get?_push_size s.heap rfl;have e2:((s.heap.push PySem.W.emptyDict).push (PySem.W.instObj C s.heap.objs.size)).get? (s.heap.objs.size+1)=some (PySem.W.instObj C s.heap.objs.size):=by
  have:=Heap.get?_push_size (s.heap.push PySem.W.emptyDict) (o:=PySem.W.instObj C s.heap.objs.size) rfl
  rwa [Heap.size_push] at this
 have e3:(s.heap.push PySem.W.emptyDict).Ns s.heap.objs.size (λ_=>none):=⟨PySem.W.emptyDict,#[],_,e1,rfl,(λe he=>absurd he (by simp)),λ_=>rfl⟩;have I1:=I.laid (a:=s.heap.objs.size) (o:=.own (s.heap.objs.size+1)) (h':=s.heap.push PySem.W.emptyDict) (t':=s.toks) (λb u q=>Vu _ q) (PR _) ⟨_,e1⟩;refine I1.laid (a:=s.heap.objs.size+1) (o:=.ins C s.heap.objs.size []) (t':=s.toks) (λb u q=>Vu _ q) (Sg (Heap.size_push _ _)) ?_;have ne:s.heap.objs.size≠s.heap.objs.size+1:=Qj (Rp _);refine ⟨by rw [au ne,ab],Qb _,ne,e2,λ_=>none,(Heap.Ns1.of_empty e3).at λo q=>Vu _ q,λ_=>True.intro,λy hy=>absurd rfl hy⟩
theorem HG {prog:Program}{w:World}{env:Env}{e:Expr}{f:Str}{pos:Pos}{s:Vx}{Q:Vy->Vx->Prop} (hb:attributeBase e f env (eval e env)=eval e env)
  (h:wpAny (model prog w) A (eval e env) (λo s₁=>wpAny (model prog w) A (getAttr o f true) Q E s₁) E s):wpAny (model prog w) A (eval (.Attribute e f pos) env) Q E s:=
 Attribute_any_ h (by rw [arm_eval_Attribute,hb])
end
section
variable {X:Cx}{o e value:Expr}{f:Str}{pos pos' JB:Pos}{ta tv:TE}
end
section
variable {X:Cx}{pins:List (Addr×Obj)}{σ:St}{H:Hp}{s:Vx}{A:Around}{E:Vy->Vx->Prop}{Q:Vy->Vx->Prop}{c:Vy}{b:Bool}
inductive ke (K:Vz) (H:Hp):V->Vy->Prop where
 | non:ke K H .non (.type "NoneType")
 | bl (x:Bool):ke K H (.bl x) (.type "bool")
 | int (i:Int):ke K H (.int i) (.type "int")
 | str (x:Str):ke K H (.str x) (.type "str")
 | flt (x:UInt64):ke K H (.flt x) (.type "float")
 | lst {a:Addr}{xs:List V} (e:H a=some (.lst xs)):ke K H (.ref a) (.type "list")
 | frz {a:Addr}{o:Obj}{xs:List V} (e:H a=some (.frz o (.lst xs))):ke K H (.ref a) (.type "list")
 | tup {a:Addr}{xs:List V} (e:H a=some (.tup xs)):ke K H (.ref a) (.type "tuple")
 | dK {a:Addr}{kvs:List (Key×V)} (e:H a=some (.dK kvs)):ke K H (.ref a) (.type "dict")
 | dT {a:Addr}{kvs:List (List Key×V)} (e:H a=some (.dT kvs)):ke K H (.ref a) (.type "dict")
 | ins {a C dx:Addr}{fs:List (Str×V)} (e:H a=some (.ins C dx fs)) (cl:Cls K C) (ha:PySem.W.findIn K (.ref C) "__class__" = some (some (.builtin "object.__class__")))
   (hn:PySem.W.specialIn K (.builtin "object.__class__") "__get__" = some (some (.builtin "getset_descriptor.__get__"))) (htk:PySem.W.takesIn K (.builtin "object.__class__")=some true)
   (hm:PySem.W.mroIn K C (.type "object")=some true):ke K H (.ref a) (.ref C)
theorem vG {x:V}{u t:Vy} (I:Inv X pins σ H s) (rx:RelV x u) (ty:ke X.K H x t) (e:PySem.W.kitOne X.K t c=some b) (h:∀ tk,Q (.bool b) { s with toks:=tk }) :
  wpAny (model X.prog X.w) A (call (.builtin "isinstance") [u,c]) Q E s:=by
 cases ty with
 | non=>cases (show u=Value.none from rx);exact PySem.W.kia_one PySem.W.kitx_none I.kIn True.intro e (λz=>nomatch z) h
 | bl y=>cases (show u=Value.bool y from rx);exact PySem.W.kia_one PySem.W.kitx_bool I.kIn True.intro e (λz=>nomatch z) h
 | int i=>obtain ⟨t,q⟩:=(show ∃ t,u=Value.int i t from rx);cases q;exact PySem.W.kia_one PySem.W.kitx_int I.kIn True.intro e (λz=>nomatch z) h
 | str y=>obtain ⟨t,q⟩:=(show ∃ t,u=Value.str y t from rx);cases q;exact PySem.W.kia_one PySem.W.kitx_str I.kIn True.intro e (λz=>nomatch z) h
 | flt y=>obtain ⟨t,q⟩:=(show ∃ t,u=Value.float y t from rx);cases q;exact PySem.W.kia_one PySem.W.kitx_float I.kIn True.intro e (λz=>nomatch z) h
 | @lst a xs ea=>
  cases (show u=Value.ref a from rx);obtain ⟨_,_,n,_,h1⟩:=(show bU X.prog X.w H s.heap a (.lst xs) from I.hok a _ ea);exact PySem.W.kia_one PySem.W.kitx_list I.kIn ⟨_,h1,rfl⟩ e (λz=>nomatch z) h
 | @frz a ob xs ea=>
  cases (show u=Value.ref a from rx);obtain ⟨_,_,_,n,_,h1⟩:=(show bU X.prog X.w H s.heap a (.frz ob (.lst xs)) from I.hok a _ ea);exact PySem.W.kia_one PySem.W.kitx_list I.kIn ⟨_,h1,rfl⟩ e (λz=>nomatch z) h
 | @tup a xs ea=>
  cases (show u=Value.ref a from rx);obtain ⟨_,_,_,p⟩:=(show bU X.prog X.w H s.heap a (.tup xs) from I.hok a _ ea);obtain ⟨o,h1,h2,_⟩:=p;exact PySem.W.kia_one PySem.W.kitx_tuple I.kIn ⟨o,h1,h2⟩ e (λz=>nomatch z) h
 | @dK a kvs ea=>
  cases (show u=Value.ref a from rx);obtain ⟨_,_,vs,_,p⟩:=(show bU X.prog X.w H s.heap a (.dK kvs) from I.hok a _ ea);obtain ⟨o,es,ep,h1,h2,_⟩:=p;exact PySem.W.kia_one PySem.W.kitx_dict I.kIn ⟨o,h1,h2.1⟩ e (λz=>nomatch z) h
 | @dT a kvs ea=>
  cases (show u=Value.ref a from rx);obtain ⟨_,_,xs,_,o,es,ep,h1,h2,_⟩:=(show bU X.prog X.w H s.heap a (.dT kvs) from I.hok a _ ea);exact PySem.W.kia_one PySem.W.kitx_dict I.kIn ⟨o,h1,h2.1⟩ e (λz=>nomatch z) h
 | @ins a C dx fs ea cl ha hn htk hm=>
  cases (show u=Value.ref a from rx);obtain ⟨mA,O,_⟩:=gq I.hok ea;obtain ⟨od,J,_⟩:=O.look;exact PySem.W.kia_one (PySem.W.kitx_own (cl.get _) cl.hd ha hn htk hm) I.kIn J e (λz=>nomatch z) h
end
structure bX (k:Nat) (A:Around):Prop where
 hd:A.handled=none
 dp:A.depth+3 * k+5<recursionLimit
 un:A.units+16 * k+200<cLine
 gd:A.guards=some []
theorem bX.mono {j k:Nat}{A:Around} (r:bX k A) (h:j<=k):bX j A:=⟨r.hd,by have:=r.dp;lia,by have:=r.un;lia,r.gd⟩
theorem bX.deeper {k:Nat}{A:Around} (r:bX (k+1) A) (env:Env):bX k (A.deeper env):=
 ⟨r.hd,by have:=r.dp;show A.depth+1+3 * k+5<_;lia,by have:=r.un;show A.units+3+16 * k+200<_;lia,r.gd⟩
theorem bX.in1 {k:Nat}{A:Around} (r:bX (k+1) A):bX k A.in1:=
 ⟨r.hd,by have:=r.dp;show A.depth+3 * k+5<_;lia,by have:=r.un;show A.units+1+16 * k+200<_;lia,r.gd⟩
theorem A4 {A:Around}{C:Addr}{us:List Vy}{kw:List (Str×Vy)}:(A.under (.builtin "type.__call__" ⟨.ref C::us,kw⟩)).depth=A.depth+1:=by
 first | rfl | simp [Around.under,Code.weight,Code.isCreation,Code.isGuard,Code.isCaller,Code.frames,Code.isFrame,guardIds]
theorem Ab {A:Around}{C:Addr}{us:List Vy}{kw:List (Str×Vy)}:(A.under (.builtin "type.__call__" ⟨.ref C::us,kw⟩)).units=A.units+1:=by
 first | rfl | simp [Around.under,Code.cUnits,Code.frames,Code.isFrame]
theorem yr {A:Around}{C:Addr}{us:List Vy}{kw:List (Str×Vy)}:(A.under (.builtin "type.__call__" ⟨.ref C::us,kw⟩)).guards=A.guards:=by
 have h:(Code.builtin "type.__call__" ⟨.ref C::us,kw⟩).guards=[]:=by rfl
 simp only [Around.under,h];cases A.guards <;> rfl
theorem bX.make {k:Nat}{A:Around} (r:bX (k+1) A) (C:Addr) (us:List Vy) (kw:List (Str×Vy)):bX k (A.under (.builtin "type.__call__" ⟨.ref C::us,kw⟩)):=
 ⟨r.hd,by have:=r.dp;rw [A4];lia,by have:=r.un;rw [Ab];lia,by rw [yr];exact r.gd⟩
theorem bX.depth {k:Nat}{A:Around} (r:bX k A):A.depth<recursionLimit:=by have:=r.dp;lia
def Eg:TA:=λ_ H Q=>Q [] H
def Mc (ta:TE) (tr:TA):TA:=λσ H Q=>ta σ H λx H1=>tr σ H1 λxs H2=>Q (x::xs) H2
section
variable {X:Cx}{e:Expr}{es:List Expr}{te:TE}{t:TA}{pos:Pos}
theorem ae:PA X [] Eg:=λ_ _ _ _ H Q I h=>Calls.spliced_nil ⟨[],H,I,.nil,h⟩
theorem aa (ha:PE X e te) (hr:PA X es t) (hs:starEach (e::es) X.env=(false,eval e X.env)::starEach es X.env:=by rfl):PA X (e::es) (Mc te t):=by
 intro pos pins s σ H Q I h;rw [hs];show wpAny _ _ (spliced ((false,eval e X.env)::backTo pos (starEach es X.env))) _ _ s;refine Calls.spliced_cons (thn (ha pins s σ H _ I h) λu s1 ⟨x,H1,I1,r1,q1⟩=>?_);exact thn (hr pos pins s1 σ H1 _ I1 q1) λus s2 ⟨xs,H2,I2,r2,q2⟩=>⟨x::xs,H2,I2,.cons r1 r2,q2⟩
def Ow (t:TA):TE:=λσ H Q=>t σ H λxs H1=>xs.length<=sizeLine/\∀ p,H1 p=none->Q (.ref p) (upd H1 p (.tup xs))
def Ka (t:TA):TE:=λσ H Q=>t σ H λxs H1=>xs.length<=sizeLine/\∀ p,H1 p=none->Q (.ref p) (upd H1 p (.lst xs))
theorem bT {x1} (h:PA X es t):PE X (.Tuple es x1 pos) (Ow t):=by
 intro pins s σ H Q I hq;refine wpAny_Tuple_spliced (thn (h pos pins s σ H _ I hq) λus s1 ⟨xs,H1,I1,r,z,q⟩=>⟨by rw [<-r.length];exact z,?_⟩);have hf:H1 s1.heap.objs.size=none:=I1.hok.fresh (PR _);refine ⟨.ref s1.heap.objs.size,upd H1 s1.heap.objs.size (.tup xs),I1.laid (t':=s1.toks) (λb u e=>Vu _ e) (PR _) ?_,rfl,q _ hf⟩;exact ⟨z,us,r,⟨_,Heap.get?_push_size _ rfl,rfl,_,rfl⟩⟩
theorem bu (h:PA X es t):PE X (.List es pos) (Ka t):=by
 intro pins s σ H Q I hq;refine wpAny_List_spliced (thn (h pos pins s σ H _ I hq) λus s1 ⟨xs,H1,I1,r,z,q⟩=>⟨by rw [<-r.length];exact z,?_⟩);have hf:H1 s1.heap.objs.size=none:=I1.hok.fresh (PR _);refine ⟨.ref s1.heap.objs.size,upd H1 s1.heap.objs.size (.lst xs),I1.laid (t':=s1.toks) (λb u e=>Vu _ e) (PR _) ?_,rfl,q _ hf⟩;exact ⟨z,us,0,r,Heap.get?_push_size _ rfl⟩
end
abbrev Sp:=List V->Hp->VK->XK->Prop
abbrev CXT:=List Env->Hp->Vx->XK->Vy->Vx->Prop
structure si (P:Program) (w:World) (K:Vz) (mg:Str->Option Vy) (base:Heap) (A:Around) (outer:List Env) (s:Vx) (H:Hp):Prop where
 frames:A.frames=some outer
 mod:Mod K mg base
 bs:∀ b o,base.get? b=some o->s.heap.get? b=some o/\H b=none
 bsz:base.objs.size<=s.heap.objs.size
 nU:s.heap.FunFrames base outer
 frf:∀ b∈frs outer,H b=none
 hok:HOk P w H s.heap
 bare:AllBare s.gens
def CE (outer:List Env) (P:Program) (w:World) (H:Hp) (s:Vx) (Q:VK) (u:Vy) (s':Vx):Prop:=
 ∃ v H',s'.os=s.os/\AllBare s'.gens/\Un (frs outer) [] H H' s.heap s'.heap/\HOk P w H' s'.heap/\RelV v u/\Q v H'
def CR (CX:CXT) (outer:List Env) (P:Program) (w:World) (H:Hp) (s:Vx) (Q:VK) (E:XK) (r:Result) (s':Vx):Prop:=
 match r with
 | .ok (.ret u)=>CE outer P w H s Q u s'
 | .ok _=>False
 | .error e=>CX outer H s E e s'
structure ax (P:Program) (w:World) (K:Vz) (mg:Str->Option Vy) (base:Heap) (CX:CXT) (k:Nat) (f:Addr) (fd:FuncData) (ps:List Str) (sp:Sp):Prop where
 len:∀ vs H Q E,sp vs H Q E->vs.length=ps.length
 run:∀ (A:Around) (outer:List Env) (s:Vx) (H:Hp) (args:Args) (us:List Vy) (vs:List V) (Q:VK) (E:XK),bX k A->si P w K mg base A outer s H->BindsTo s fd args (ps.zip us)->aS vs us->sp vs H Q E ->
  codeAny (model P w) A (.call (.ref f) args) (CR CX outer P w H s Q E) s
theorem ax.mono {P:Program}{w:World}{K:Vz}{mg:Str->Option Vy}{base:Heap}{CX:CXT}{j k:Nat}{f:Addr}{fd:FuncData}{ps:List Str}{sp:Sp} (F:ax P w K mg base CX j f fd ps sp) (h:j<=k) :
  ax P w K mg base CX k f fd ps sp:=⟨F.len,λA outer s H args us vs Q E hr=>F.run A outer s H args us vs Q E (hr.mono h)⟩
theorem si.make {P:Program}{w:World}{K:Vz}{mg:Str->Option Vy}{base:Heap}{A:Around}{outer:List Env}{s:Vx}{H:Hp} (e:si P w K mg base A outer s H) (C:Addr) (us:List Vy) (kw:List (Str×Vy)) :
  si P w K mg base (A.under (.builtin "type.__call__" ⟨.ref C::us,kw⟩)) outer s H:=⟨by first | exact e.frames | (simpa [Around.under,Code.envs,Code.isFrame,pushEnvs] using e.frames),e.mod,e.bs,e.bsz,e.nU,e.frf,e.hok,e.bare⟩
theorem si.in1 {P:Program}{w:World}{K:Vz}{mg:Str->Option Vy}{base:Heap}{A:Around}{outer:List Env}{s:Vx}{H:Hp} (e:si P w K mg base A outer s H) :
  si P w K mg base A.in1 outer s H:=⟨e.frames,e.mod,e.bs,e.bsz,e.nU,e.frf,e.hok,e.bare⟩
section
variable {X:Cx}{pins:List (Addr×Obj)}{σ:St}{H:Hp}{s s':Vx}
theorem Inv.xF (I:Inv X pins σ H s):si X.prog X.w X.K X.mg X.base X.A X.stack s H:=
 ⟨I.ok.frames,I.ok.mod,I.bs,P2 I.ok.bsz I.sz,I.stack,I.Cd,I.hok,I.bare⟩
theorem Inv.after {Q:VK}{u:Vy} (I:Inv X pins σ H s) (h:CE X.stack X.prog X.w H s Q u s'):EP X pins σ Q u s':=by
 obtain ⟨v,H',os,bare,un,hok,r,q⟩:=h;obtain ⟨hh,g,d,t,os'⟩:=s';obtain rfl:os' = s.os:=os;exact ⟨v,H',I.call (h':=hh) (g':=g) (d':=d) (t':=t) (ch:=[]) un hok bare (λb z=>absurd z (by simp)),r,q⟩
end
def Li (sp:Sp) (dvs:List V) (E:XK) (t:TA):TE:=λσ H Q=>t σ H λvs H1=>sp (vs++dvs) H1 Q E
def Jb (C:Addr) (m:Str) (sp:Sp) (dvs:List V) (E:XK) (ta:TE) (t:TA):TE:=λσ H Q=>ta σ H λx H1=>∃ a dx fs,x = .ref a/\H1 a=some (.ins C dx fs)/\fs.lookup m=none /\
 t σ H1 λvs H2=>sp (x::(vs++dvs)) H2 Q E
def IG (C:Addr) (sp:Sp) (dvs:List V) (E:XK) (t:TA):TE:=λσ H Q=>t σ H λvs H1=>∀ x dx,H1 x=none->H1 dx=none->dx≠x ->
 sp (.ref x::(vs++dvs)) (upd (upd H1 dx (.own x)) x (.ins C dx [])) (λv H2=>v = .non/\Q (.ref x) H2) E
def Binds (K:Vz) (fd:FuncData) (ps:List Str) (ds:List Vy):Prop:=
 ∀ (s:Vx) (us:List Vy),K.In s.heap->(us++ds).length=ps.length->BindsTo s fd ⟨us,[]⟩ (ps.zip (us++ds))
theorem Binds.all {K:Vz}{fd:FuncData}{ps:List Str} (h:∀ us:List Vy,us.length=ps.length->bindArgs fd ⟨us,[]⟩=pure (ps.zip us)):Binds K fd ps []:=λs us _ hl=>by
 rw [QD] at hl ⊢;exact .of_eq (h us hl)
def kP (CX:CXT) (X:Cx) (E:XK):Prop:=∀ (pins:List (Addr×Obj)) (σ:St) (H:Hp) (s:Vx) (e:Vy) (s':Vx),Inv X pins σ H s->CX X.stack H s E e s'->X.xe e s'
section
variable {X:Cx}{CX:CXT}{k:Nat}{f C:Addr}{fd:FuncData}{ps:List Str}{sp:Sp}{dvs:List V}{ds:List Vy}{E:XK}{x m:Str}{p pos apos:Pos}{e o:Expr}{es:List Expr}{ta:TE}{t:TA}
theorem Ag {pins:List (Addr×Obj)}{σ:St}{H:Hp}{s:Vx}{Q:VK}{us:List Vy}{vs:List V} (F:ax X.prog X.w X.K X.mg X.base CX k f fd ps sp) (hr:bX k X.A) (hb:Binds X.K fd ps ds) (hd:aS dvs ds) (hx:kP CX X E)
  (I:Inv X pins σ H s) (r:aS vs us) (h:sp (vs++dvs) H Q E):wpAny (model X.prog X.w) X.A (call (.ref f) us) (EP X pins σ Q) X.xe s:=by
 have r2:aS (vs++dvs) (us++ds):=r.append hd;have hl:(us++ds).length=ps.length:=by rw [<-r2.length];exact F.len _ _ _ _ h
 refine wpAny_call (codeAny_mono (F.run X.A X.stack s H ⟨us,[]⟩ (us++ds) (vs++dvs) Q E hr I.xF (hb s us I.kIn hl) r2 h) λr s' hq=>?_);cases r with
 | error e=>exact hx pins σ H s e s' I hq
 | ok fl=>
  cases fl with
  | ret u=>exact I.after hq
  | next=>exact False.elim hq
  | brk=>exact False.elim hq
  | cont=>exact False.elim hq
theorem av (F:ax X.prog X.w X.K X.mg X.base CX k f fd ps sp) (hr:bX k X.A) (hg:Gl X x) (hm:X.mg x=some (.ref f)) (hk:PySem.W.keepIn X.K (.ref f)=true) (hb:Binds X.K fd ps ds) (hd:aS dvs ds) (hx:kP CX X E)
  (ha:PA X (e::es) t) (hdb:(x == ("__debug__" : Str))=false:=by decide) (he:starEach (e::es) X.env=(false,eval e X.env)::starEach es X.env:=by rfl) (hpl:(backTo pos (starEach es X.env)).any (·.1)=false:=by rfl) :
  PE X (.Call (.Name x p) (e::es) [] pos) (Li sp dvs E t):=by
 intro pins s σ H Q I h;refine wpAny_Call_Name_kw (jE I hg hm ?_ hdb);refine PySem.W.callWith_K (h₀:=X.base) I.ok.mod.kin hk (thn (ha pos pins s σ H _ I h) λus s1 ⟨vs,H1,I1,r,q⟩=>⟨I1.kIn,?_⟩) he hpl;exact Ag F hr hb hd hx I1 r q
theorem fF {pl:Sem Bool} (he:PE X o ta) (c:Cls X.K C) (hm:i3 X.K C m f) (F:ax X.prog X.w X.K X.mg X.base CX k f fd ps sp) (hr:bX k X.A) (hb:Binds X.K fd ps ds) (hd:aS dvs ds) (hx:kP CX X E) (ha:PA X (e::es) t)
  (hst:starEach (e::es) X.env=(false,eval e X.env)::starEach es X.env:=by rfl) (hpl:(backTo pos (starEach es X.env)).any (·.1)=false:=by rfl)
  (ht:eval (.Call (.Attribute o m apos) (e::es) [] pos) X.env=(do
   let ov <-eval o X.env
   standAt apos.atName
   let (f,first) <-holding [ov] (getMethod ov m pl)
   callWith pos f first (backTo pos (starEach (e::es) X.env)) (backToKw pos (keywordEach [] X.env))):=by rfl) :
  PE X (.Call (.Attribute o m apos) (e::es) [] pos) (Jb C m sp dvs E ta t):=by
 intro pins s σ H Q I h;refine PySem.W.methodCall_KW (pl:=pl) (thn (he pins s σ H _ I h) λu s1 ⟨x,H1,I1,rx,a,dx,fs,ex,ea,l,q⟩=>?_) ht;subst ex;obtain rfl:u=Value.ref a:=rx;refine rD I1 ea c hm l ?_;refine PySem.W.callWith_K (first:=[.ref a]) (h₀:=X.base) I.ok.mod.kin hm.kp (thn (ha pos pins s1 σ H1 _ I1 q) λus s2 ⟨vs,H2,I2,r,q2⟩=>⟨I2.kIn,?_⟩) hst hpl;exact Ag (us:=.ref a::us) (vs:=.ref a::vs) F hr hb hd hx I2 (.cons rfl r) q2
theorem je {pl:Sem Bool} (he:PE X o ta) (c:Cls X.K C) (hm:i3 X.K C m f) (F:ax X.prog X.w X.K X.mg X.base CX k f fd ps sp) (hr:bX k X.A) (hb:Binds X.K fd ps ds) (hd:aS dvs ds) (hx:kP CX X E)
  (ht:eval (.Call (.Attribute o m apos) [] [] pos) X.env=(do
   let ov <-eval o X.env
   standAt apos.atName
   let (f,first) <-holding [ov] (getMethod ov m pl)
   callWith pos f first (backTo pos (starEach [] X.env)) (backToKw pos (keywordEach [] X.env))):=by rfl) :
  PE X (.Call (.Attribute o m apos) [] [] pos) (Jb C m sp dvs E ta Eg):=by
 intro pins s σ H Q I h;refine PySem.W.methodCall_KW (pl:=pl) (thn (he pins s σ H _ I h) λu s1 ⟨x,H1,I1,rx,a,dx,fs,ex,ea,l,q⟩=>?_) ht;subst ex;obtain rfl:u=Value.ref a:=rx;refine rD I1 ea c hm l ?_;exact PySem.W.callWith_K0 (first:=[.ref a]) I1.kIn hm.kp (Ag (us:=[.ref a]) (vs:=[.ref a]) F hr hb hd hx I1 (.cons rfl .nil) q)
structure Mk (K:Vz) (C f:Addr):Prop where
 makes:PySem.W.makesIn K C=true
 init:PySem.W.findIn K (.ref C) "__init__" = some (some (.ref f))
 fn:PySem.W.isFn K (.ref f)=true
 kp:PySem.W.keepIn K (.ref C)=true
theorem yQ {pins:List (Addr×Obj)}{σ:St}{H:Hp}{s:Vx}{Q:VK}{us:List Vy}{vs:List V} (M:Mk X.K C f) (F:ax X.prog X.w X.K X.mg X.base CX k f fd ps sp) (hr:bX (k+1) X.A) (hb:Binds X.K fd ps ds) (hd:aS dvs ds)
  (hx:kP CX X E) (I:Inv X pins σ H s) (r:aS vs us)
  (h:∀ x dx,H x=none->H dx=none->dx≠x->sp (.ref x::(vs++dvs)) (upd (upd H dx (.own x)) x (.ins C dx [])) (λv H2=>v = .non/\Q (.ref x) H2) E) :
  wpAny (model X.prog X.w) X.A (call (.ref C) us) (EP X pins σ Q) X.xe s:=by
 have hq:=h (s.heap.objs.size+1) s.heap.objs.size (I.hok.fresh (QO _)) (I.hok.fresh (PR _)) (Qj (Rp _));have I2:=Inv.made (C:=C) I;have r2:aS (V.ref (s.heap.objs.size+1)::(vs++dvs)) (Value.ref (s.heap.objs.size+1)::(us++ds)):=.cons rfl (r.append hd);have hl:(Value.ref (s.heap.objs.size+1)::us++ds).length=ps.length:=by
  have e:=r2.length;rw [F.len _ _ _ _ hq] at e;exact e.symm
 refine wpAny_call (Fk (f:=f) I.kIn M.makes M.init (beq_iff_eq.mp M.fn) (codeAny_mono (F.run _ X.stack _ _ ⟨Value.ref (s.heap.objs.size+1)::us,[]⟩ (Value.ref (s.heap.objs.size+1)::(us++ds)) _ _ E (hr.make C us [])
  (I2.xF.make C us []) (hb _ (Value.ref (s.heap.objs.size+1)::us) I2.kIn hl) r2 hq) λr s' hq'=>?_))
 cases r with
 | error e=>exact hx pins σ _ _ e s' I2 hq'
 | ok fl=>
  cases fl with
  | ret u=>
   obtain ⟨v,H',I3,rv,ev,q3⟩:=I2.after hq';subst ev;exact ⟨rv,⟨V.ref (s.heap.objs.size+1),H',I3,rfl,q3⟩⟩
  | next=>exact False.elim hq'
  | brk=>exact False.elim hq'
  | cont=>exact False.elim hq'
theorem xa (M:Mk X.K C f) (F:ax X.prog X.w X.K X.mg X.base CX k f fd ps sp) (hr:bX (k+1) X.A) (hg:Gl X x) (hm:X.mg x=some (.ref C)) (hb:Binds X.K fd ps ds) (hd:aS dvs ds) (hx:kP CX X E)
  (ha:PA X (e::es) t) (hdb:(x == ("__debug__" : Str))=false:=by decide) (he:starEach (e::es) X.env=(false,eval e X.env)::starEach es X.env:=by rfl) (hpl:(backTo pos (starEach es X.env)).any (·.1)=false:=by rfl) :
  PE X (.Call (.Name x p) (e::es) [] pos) (IG C sp dvs E t):=by
 intro pins s σ H Q I h;refine wpAny_Call_Name_kw (jE I hg hm ?_ hdb);refine PySem.W.callWith_K (h₀:=X.base) I.ok.mod.kin M.kp (thn (ha pos pins s σ H _ I h) λus s1 ⟨vs,H1,I1,r,q⟩=>⟨I1.kIn,?_⟩) he hpl;exact yQ M F hr hb hd hx I1 r q
theorem y6 (M:Mk X.K C f) (F:ax X.prog X.w X.K X.mg X.base CX k f fd ps sp) (hr:bX (k+1) X.A) (hg:Gl X x) (hm:X.mg x=some (.ref C)) (hb:Binds X.K fd ps ds) (hd:aS dvs ds) (hx:kP CX X E)
  (hdb:(x == ("__debug__" : Str))=false:=by decide):PE X (.Call (.Name x p) [] [] pos) (IG C sp dvs E Eg):=by
 intro pins s σ H Q I h;refine wpAny_Call_Name_kw (jE I hg hm ?_ hdb);exact PySem.W.callWith_K0 I.kIn M.kp (yQ (us:=[]) M F hr hb hd hx I .nil h)
end
section
variable {X:Cx}{CX:CXT}{k:Nat}{f C:Addr}{fd:FuncData}{ps ks:List Str}{sp:Sp}{E:XK}{x m:Str}{p pos apos PC:Pos}{e o:Expr}{es:List Expr}{kws:List Keyword}{te ta:TE}{t tk:TA}{nm:Option Str}
structure NI (K:Vz) (fd:FuncData) (ps ks:List Str) (g:List Vy->List Vy->List Vy) (gV:List V->List V->List V):Prop where
 to:∀ (s:Vx) (us ws:List Vy),K.In s.heap->(g us ws).length=ps.length->BindsTo s fd ⟨us,ks.zip ws⟩ (ps.zip (g us ws))
 rel:∀ {vs:List V}{us:List Vy}{zs:List V}{ws:List Vy},aS vs us->aS zs ws->aS (gV vs zs) (g us ws)
variable {g:List Vy->List Vy->List Vy}{gV:List V->List V->List V}
end
structure aE (N P:List Str) (sc:Scope):Prop where
 kind:sc.kind = .function
 co:sc.isCoroutine=false
 gen:sc.isGenerator=false
 nd:N.Nodup
 pre:N.take P.length=P
 par:∀ x∈P,sc.names.lookup x=some .local\/sc.names.lookup x=some .cell
 KA:∀ y∈sc.names,y.2 ≠ .free
theorem uT {kindOf:Str->Option NameKind}{x:Str}:∀ {binds:List (Str×Vy)}{m:Str->Option Vy},(∀ v,(x,v)∉binds)->bindL kindOf binds m x=m x
 | [],_,_=>rfl
 | (n,v)::r,m,h=>by
  unfold bindL;rw [uT λw hw=>h w (PY _ hw)]
  split
  ·have:x≠n:=by rintro rfl;exact h v P5
   simp [this]
  ·rfl
theorem vm {kindOf:Str->Option NameKind}{x:Str}:∀ {binds:List (Str×Vy)}{m:Str->Option Vy},(∀ v,(x,v)∉binds)->bindC kindOf binds m x=m x
 | [],_,_=>rfl
 | (n,v)::r,m,h=>by
  unfold bindC;rw [vm λw hw=>h w (PY _ hw)]
  split
  ·rfl
  ·have:x≠n:=by rintro rfl;exact h v P5
   simp [this]
theorem uU {kindOf:Str->Option NameKind}{x:Str}{v:Vy}:∀ {P:List Str}{vs:List Vy}{i:Nat}{m:Str->Option Vy},P.Nodup->P[i]? = some x->vs[i]? = some v->kindOf x=some .local ->
  bindL kindOf (P.zip vs) m x=some v
 | [],_,_,_,_,h,_,_=>by simp at h
 | _::_,[],_,_,_,_,h,_=>by simp at h
 | p::P,w::vs,0,m,nd,h1,h2,hk=>by
  simp at h1 h2;subst h1;subst h2;show bindL kindOf ((p,w)::P.zip vs) m p=_;unfold bindL;rw [uT λv hv=>(Ri.mp nd).1 (List.of_mem_zip hv).1,if_pos hk];simp
 | p::P,w::vs,i+1,m,nd,h1,h2,hk=>by
  show bindL kindOf ((p,w)::P.zip vs) m x=_;unfold bindL;exact uU (i:=i) (Ri.mp nd).2 (by simpa using h1) (by simpa using h2) hk
theorem vJ {kindOf:Str->Option NameKind}{x:Str}{v:Vy}:∀ {P:List Str}{vs:List Vy}{i:Nat}{m:Str->Option Vy},P.Nodup->P[i]? = some x->vs[i]? = some v->kindOf x≠some .local ->
  bindC kindOf (P.zip vs) m x=some v
 | [],_,_,_,_,h,_,_=>by simp at h
 | _::_,[],_,_,_,_,h,_=>by simp at h
 | p::P,w::vs,0,m,nd,h1,h2,hk=>by
  simp at h1 h2;subst h1;subst h2;show bindC kindOf ((p,w)::P.zip vs) m p=_;unfold bindC;rw [vm λv hv=>(Ri.mp nd).1 (List.of_mem_zip hv).1,if_neg hk];simp
 | p::P,w::vs,i+1,m,nd,h1,h2,hk=>by
  show bindC kindOf ((p,w)::P.zip vs) m x=_;unfold bindC;exact vJ (i:=i) (Ri.mp nd).2 (by simpa using h1) (by simpa using h2) hk
def start (N:List Str) (vs:List V):St:=vs.map some++List.replicate (N.length - vs.length) none
def zi (CX:CXT) (P:Program) (w:World) (K:Vz) (mg:Str->Option Vy) (base:Heap) (N:List Str) (qual:Str) (scope:Scope) (f:Addr) (cd:Vy) (A:Around) (outer:List Env) (s:Vx) (H:Hp) (E:XK):Cx where
 prog:=P
 w:=w
 K:=K
 mg:=mg
 base:=base
 A:=A.deeper (envOfC qual scope s.heap.objs.size f cd)
 N:=N
 s₀:=s
 H₀:=H
 env:=envOfC qual scope s.heap.objs.size f cd
 outer:=outer
 stack:=envOfC qual scope s.heap.objs.size f cd::outer
 ex:=[]
 calm:=true
 fn:=λ_=>true
 pn:=[]
 xe:=λe s'=>wpAny (model P w) (A.deeper (envOfC qual scope s.heap.objs.size f cd)) (leaving (envOfC qual scope s.heap.objs.size f cd) e) (λ_ s''=>CX outer H s E e s'') (λe' s''=>CX outer H s E e' s'') s'
theorem zy {sc:Scope}{n:Nat}{x:Str} (h:sc.names.lookup x=some .cell):∃ c,(cellsFrom n sc.names []).lookup x=some c:=by
 have q:=PySem.W.cellsFrom_some sc.names n [] (.inl h);exact Option.isSome_iff_exists.mp q
theorem Dg {CX:CXT}{P:Program}{w:World}{K:Vz}{mg:Str->Option Vy}{base:Heap}{N ps:List Str}{qual:Str}{scope:Scope}{f:Addr}{cd:Vy}{A:Around}{outer:List Env}{s s1:Vx}{H:Hp}{E:XK}{us:List Vy}{vs:List V}
  (S:aE N ps scope) (hd:A.handled=none) (e0:si P w K mg base A outer s H) (hl:vs.length=ps.length) (r:aS vs us)
  (x:InCallC s s.heap.objs.size (bindL (envOfC qual scope s.heap.objs.size f cd).kindOf (ps.zip us) λ_=>none) (cellsFrom (s.heap.objs.size+1) scope.names []) (bindC (envOfC qual scope s.heap.objs.size f cd).kindOf (ps.zip us) λ_=>none) s1) :
  Inv (zi CX P w K mg base N qual scope f cd A outer s H E) [] (start N vs) H s1:=by
 have hpl:ps.length<=N.length:=by have:=congrArg List.length S.pre;rw [Qg] at this;lia
 obtain ⟨h1,tk,rfl,hk⟩:=x.done;have noA:∀ b:Addr,b∉(zi CX P w K mg base N qual scope f cd A outer s H E).ex:=λb z=>absurd (show b∈([]:List Addr) from z) (by simp);refine ⟨⟨e0.mod,S.kind,rfl,rfl,PR _,λy z c h1 h2=>?_,λy hy=>?_,λy c _ h=>?_,λ_=>hd,Around.frames_deeper e0.frames,.inr ⟨rfl,rfl⟩,λb z=>absurd z (noA b),e0.bs,e0.bsz,λb _ _=>noA b,λb z=>absurd z (noA b),e0.nU,e0.frf⟩,
  rfl,e0.bare,Un.kept hk,⟨_,x.toInCall.ns,λi y v h1 h2 h3=>?_⟩,λy c h=>⟨_,x.cell y c h⟩,e0.hok.fresh (PR _),λy c h=>?_,λp hp=>absurd (show p∈([]:List (Addr×Obj)) from hp) (by simp),e0.hok.kept hk,?_⟩
 ·exact name_of_addr x.apart (PySem.mem_of_lookup h1) (PySem.mem_of_lookup h2)
 ·have hy:scope.names.lookup y=some .cell\/scope.names.lookup y=some .free:=hy;rcases hy with hy | hy
  ·exact zy hy
  ·exact absurd rfl (S.KA _ (PySem.mem_of_lookup hy))
 ·exact Rq (x.above y c (PySem.mem_of_lookup h))
 ·have hi:i<vs.length:=by
   unfold start at h2;by_cases hi:i<vs.length
   ·exact hi
   ·rw [QB (by simpa using hi)] at h2;rw [Sd] at h2
    split at h2 <;> cases h2
  have ha:vs[i]? = some v:=by
   unfold start at h2;rw [Qv (by simpa using hi),P7] at h2;cases e:vs[i]? with
   | none=>rw [e] at h2;cases h2
   | some a=>rw [e] at h2;cases h2;rfl
  obtain ⟨u,hu,rv⟩:=r.get ha;have hp:ps[i]? = some y:=by
   rw [<-S.pre,List.getElem?_take_of_lt (by lia)];exact h1
  have ndP:ps.Nodup:=by rw [<-S.pre];exact S.nd.sublist (List.take_sublist _ _)
  refine ⟨u,rv,?_⟩;rcases S.par y (PU hp) with k | k
  ·exact .inl ⟨k,uU ndP hp hu k⟩
  ·obtain ⟨c,e⟩:=zy (n:=s.heap.objs.size+1) k;refine .inr ⟨.inl k,c,e,?_⟩;have q:=x.cell y c e;rw [vJ ndP hp hu (by show scope.names.lookup y≠_;rw [k];decide)] at q;exact q
 ·exact e0.hok.fresh (Rq (x.above y c (PySem.mem_of_lookup h)))
 ·unfold start;show _=N.length;rw [PX,PQ,RF];lia
theorem FC {CX:CXT}{P:Program}{w:World}{K:Vz}{mg:Str->Option Vy}{base:Heap}{k:Nat}{f:Addr}{name qual:Str}{params:Arguments}{body:List Stmt}{scope:Scope}{dV kV doc pm cdv ct oc:Vy}{an od:Option Addr}
  {osl:Array (Option Vy)}{N ps:List Str}{sp:Sp} (lk:K.lookup f=some ⟨oc,od,.func (PySem.W.fnOf name qual params body scope dV kV doc pm an cdv ct),osl⟩) (hcd:PySem.W.codeIn K cdv qual=true) (S:aE N ps scope)
  (len:∀ vs H Q E,sp vs H Q E->vs.length=ps.length)
  (jd:∀ (A:Around) (outer:List Env) (s:Vx) (H:Hp) (vs:List V) (Q:VK) (E:XK),bX k (A.deeper (envOfC qual scope s.heap.objs.size f cdv))->sp vs H Q E ->
   ∃ t,PSs (zi CX P w K mg base N qual scope f cdv A outer s H E) body t/\t { nx:=λ_ H'=>Q .non H',rt:=Q } (start N vs) H) :
  ax P w K mg base CX (k+1) f (PySem.W.fnOf name qual params body scope dV kV doc pm an cdv ct) ps sp:=by
 refine ⟨len,λA outer s H args us vs Q E hr e0 hb r hsp=>?_⟩;have hl:=len _ _ _ _ hsp;have KX:K.In s.heap:=e0.mod.kin.keeps λb o e=>(e0.bs b o e).1;have lim:s.heap.NoLimit:=e0.mod.nolimit.keeps λb o e=>(e0.bs b o e).1;have KW:∀ y∈ps.zip us,scope.names.lookup y.1=some .local\/(scope.names.lookup y.1=some .cell/\((cellsFrom (s.heap.objs.size+1) scope.names []).lookup y.1).isSome=true):=λ⟨n,v⟩ hy=>by
  rcases S.par n (List.of_mem_zip hy).1 with q | q
  ·exact .inl q
  ·exact .inr ⟨q,PySem.W.cellsFrom_some _ _ _ (.inl q)⟩
 refine codeAny_call_function hr.depth (KX _ _ lk) rfl S.co S.gen rfl (PySem.W.codeRec_of KX hcd) (hb _ _ _ _ ?_);refine wpAny_newFunctionEnv_cells S.kind KW λenv he s1 x=>?_;subst he;refine ⟨lim.keeps x.toInCall.keep,codeAny_func ?_⟩;obtain ⟨t,ht,hq⟩:=jd A outer s H vs Q E (hr.deeper _) hsp;have I:Inv (zi CX P w K mg base N qual scope f cdv A outer s H E) [] (start N vs) H s1:=Dg S hr.hd e0 hl r x;refine Vt (ht [] s1 (start N vs) H _ I hq) (λfl s' hs=>?_) λe s' hs=>hs;have fin:∀ {σ':St}{H':Hp}{v:V}{u:Vy},Inv (zi CX P w K mg base N qual scope f cdv A outer s H E) [] σ' H' s'->RelV v u->Q v H'->CE outer P w H s Q u s':=
  λ{σ' H' v u} J rv q=>⟨v,H',J.os,J.bare,J.base,J.hok,rv,q⟩
 cases fl with
 | ret u=>
  obtain ⟨v,σ',H',J,rv,q⟩:=hs;exact fin J rv q
 | next=>
  obtain ⟨σ',H',J,q⟩:=hs;exact fin (v:=V.non) (u:=Value.none) J rfl q
 | brk=>
  obtain ⟨_,_,_,q⟩:=hs;exact False.elim q
 | cont=>
  obtain ⟨_,_,_,q⟩:=hs;exact False.elim q
section
variable {X:Cx}{x:Str}{p pos:Pos}{e:Expr}{es:List Expr}{t:TA}{id T:String}{r:List V->Hp->VK->Prop}
def tCB (r:List V->Hp->VK->Prop) (t:TA):TE:=λσ H Q=>t σ H λvs H1=>r vs H1 Q
theorem aK (hc:iC X (.builtin id) r) (hg:Gl X x) (hm:X.mg x=none) (hv:bootBuiltins x=some (.builtin id)) (ha:PA X (e::es) t) (hn:x ≠ "__name__" :=by decide) (hdb:(x == ("__debug__" : Str))=false:=by decide)
  (he:starEach (e::es) X.env=(false,eval e X.env)::starEach es X.env:=by rfl) (hpl:(backTo pos (starEach es X.env)).any (·.1)=false:=by rfl):PE X (.Call (.Name x p) (e::es) [] pos) (tCB r t):=by
 intro pins s σ H Q I h;refine wpAny_Call_Name_kw (gM I hg hm hv ?_ hn hdb);exact PyProof.Rows.callWith_builtin1 (thn (ha pos pins s σ H _ I h) λus s1 ⟨vs,H1,I1,r1,q1⟩=>hc pins s1 σ H1 vs us Q I1 r1 q1) he hpl
theorem i6 (hc:iC X (.type T) r) (hg:Gl X x) (hm:X.mg x=none) (hv:bootBuiltins x=some (.type T)) (ha:PA X (e::es) t) (hn:x ≠ "__name__" :=by decide) (hdb:(x == ("__debug__" : Str))=false:=by decide)
  (he:starEach (e::es) X.env=(false,eval e X.env)::starEach es X.env:=by rfl) (hpl:(backTo pos (starEach es X.env)).any (·.1)=false:=by rfl):PE X (.Call (.Name x p) (e::es) [] pos) (tCB r t):=by
 intro pins s σ H Q I h;refine wpAny_Call_Name_kw (gM I hg hm hv ?_ hn hdb);exact PyProof.Rows.callWith_type1 (thn (ha pos pins s σ H _ I h) λus s1 ⟨vs,H1,I1,r1,q1⟩=>hc pins s1 σ H1 vs us Q I1 r1 q1) he hpl
end
end L2
namespace HT
open PySem PyProof.Rows
theorem FQ (A:Around) (s:Vx) (a:Int) (t:Tok) (c:Int) (u:Tok) (prog:Program) (w:World) (E:Vy->Vx->Prop) (Q:Vy->Vx->Prop) (h:Q (.bool (decide (a<c))) s) :
  wpAny (model prog w) A (richCompare .Lt (.int a t) (.int c u)) Q E s:=
 (PyProof.Rows.lt_int h:wpAny (model prog w) A (compareOp .Lt (.int a t) (.int c u)) Q E s)
section
open PySem.SeqAt
open PySem.AutoSeq1 (wpAny_loadPart')
open PySem.MeetsSeq PySem.MeetsSeq2 PySem.MeetsSeq3
end
section
variable {prog:Program}{w:World}{A:Around}{E:Vy->Vx->Prop}{s:Vx}
def sIx (n d:Nat):Option Int->Nat
 | none=>d
 | some v=>if v<0 then (v+(n:Int)).toNat else min v.toNat n
theorem Fn (n d:Nat):sIx n d none=d:=rfl
theorem BI (n d k:Nat):sIx n d (some (k:Int))=min k n:=by
 show (if (k:Int)<0 then ((k:Int)+(n:Int)).toNat else min (k:Int).toNat n)=min k n;rw [if_neg (by lia),QJ]
end
end HT
namespace L2
open PySem PySem.Spec PyProof.Rows
abbrev TO:=St->Hp->(Option Int->Hp->Prop)->Prop
def PO (X:Cx) (e:Option Expr) (t:TO):Prop:=
 ∀ (pins:List (Addr×Obj)) (s:Vx) (σ:St) (H:Hp) (Q:Option Int->Hp->Prop),Inv X pins σ H s->t σ H Q ->
  wpAny (model X.prog X.w) X.A (evalPart e X.env) (λu s'=>∃ o H',Inv X pins σ H' s'/\IsPart u o/\Q o H') X.xe s
def GF:TO:=λ_ H Q=>Q none H
def Lj (t:TE):TO:=λσ H Q=>t σ H λx H1=>∃ i,x = .int i/\Q (some i) H1
section
variable {X:Cx}{e:Expr}{te:TE}{lo hi:Option Expr}{tl th:TO}{pos p2:Pos}
theorem qX:PO X none GF:=by
 intro pins s σ H Q I h;rw [evalPart_none];exact Vv ⟨none,H,I,.none,h⟩
theorem l3 (h:PE X e te):PO X (some e) (Lj te):=by
 intro pins s σ H Q I hw;rw [evalPart_some];refine thn (h pins s σ H _ I hw) λu s1 ⟨x,H1,I1,r1,q1⟩=>?_;obtain ⟨i,rfl,q⟩:=q1;obtain ⟨t,rfl⟩:=r1;exact ⟨some i,H1,I1,.int i t,q⟩
def SlR (X:Cx) (r:V->Option Int->Option Int->Hp->VK->Prop):Prop:=
 ∀ (pins:List (Addr×Obj)) (s:Vx) (σ:St) (H:Hp) (x:V) (v vl vu:Vy) (lo hi:Option Int) (sl:Addr) (Q:VK),Inv X pins σ H s->RelV x v->s.heap.IsSliceOf sl vl vu .none->IsPart vl lo->IsPart vu hi->r x lo hi H Q ->
  ∃ T id,typeLookup (.type T) "__getitem__" = pure (some (.builtin id))/\s.TypeIs v T/\wpAny (model X.prog X.w) X.A (getItem v (.ref sl)) (EP X pins σ Q) X.xe s
def tSl (r:V->Option Int->Option Int->Hp->VK->Prop) (te:TE) (tl th:TO):TE:=λσ H Q=>te σ H λx H1=>tl σ H1 λl H2=>th σ H2 λu H3=>r x l u H3 Q
theorem lM {r:V->Option Int->Option Int->Hp->VK->Prop} (hr:SlR X r) (he:PE X e te) (hl:PO X lo tl) (hu:PO X hi th):PE X (.Subscript e (.Slice lo hi none p2) pos) (tSl r te tl th):=by
 intro pins s σ H Q I h;refine Subscript_ (thn (he pins s σ H _ I h) λv s1 ⟨x,H1,I1,r1,q1⟩=>?_);refine wpAny_Slice (thn (hl pins s1 σ H1 _ I1 q1) λvl s2 ⟨l,H2,I2,pl,q2⟩=>thn (hu pins s2 σ H2 _ I2 q2) λvu s3 ⟨u,H3,I3,pu,q3⟩=>?_);rw [evalPart_none];refine Vv ?_;have I4:Inv X pins σ H3 { s3 with heap:=s3.heap.push { cls:=.type "slice",data:=.fields #[vl,vu,.none] } }:=I3.kept (t':=s3.toks) λb ob q=>Vu _ q;obtain ⟨T,id,hT,ht,hg⟩:=hr pins { s3 with heap:=s3.heap.push { cls:=.type "slice",data:=.fields #[vl,vu,.none] } } σ H3 x v vl vu l u s3.heap.objs.size Q I4 r1 (Heap.IsSliceOf.new ..) pl pu q3;show wpAny (model X.prog X.w) X.A (subscriptTail e (.Slice lo hi none p2) v (.ref s3.heap.objs.size)) (EP X pins σ Q) X.xe { s3 with heap:=s3.heap.push { cls:=.type "slice",data:=.fields #[vl,vu,.none] } };exact tail_any (ops:=[.ref s3.heap.objs.size,v]) ht hT hg (by with_unfolding_all rfl)
def px (xs:List V) (lo hi:Option Int):List V:=(xs.drop (HT.sIx xs.length 0 lo)).take (HT.sIx xs.length xs.length hi - HT.sIx xs.length 0 lo)
theorem y7 (xs:List V) (lo hi:Option Int):(px xs lo hi).length<=xs.length:=by
 unfold px;rw [Qg,Rt];lia
end
def ixN (n:Nat) (i:Int):Option Nat:=if 0<=i then (if i<n then some i.toNat else none) else if -(n:Int)<=i then some (i+n).toNat else none
def atI {α:Type} (xs:List α) (i:Int):Option α:=(ixN xs.length i).bind λj=>xs[j]?
theorem Bh {n:Nat}{i:Int}{j:Nat} (h:ixN n i=some j):seqIndex? i n=some j/\j<n /\ -(n:Int)<=i/\i<n:=by
 unfold ixN at h;by_cases h0:0<=i
 ·rw [if_pos h0] at h;by_cases h1:i<n
  ·rw [if_pos h1] at h;have e:i.toNat=j:=Option.some.inj h;exact ⟨by rw [seqIndex_of h0 h1,e],by lia,by lia,h1⟩
  ·rw [if_neg h1] at h;cases h
 ·rw [if_neg h0] at h;by_cases h1 : -(n:Int)<=i
  ·rw [if_pos h1] at h;have e:(i+n).toNat=j:=Option.some.inj h;exact ⟨by rw [seqIndex_neg (by lia) h1,e],by lia,h1,by lia⟩
  ·rw [if_neg h1] at h;cases h
theorem xp {α:Type}{xs:List α}{i:Int}{v:α} (h:atI xs i=some v):∃ j,seqIndex? i xs.length=some j/\xs[j]? = some v/\j<xs.length /\ -(xs.length:Int)<=i/\i<xs.length:=by
 unfold atI at h;cases e:ixN xs.length i with
 | none=>rw [e] at h;cases h
 | some j=>
  rw [e] at h;obtain ⟨h1,h2,h3,h4⟩:=Bh e;exact ⟨j,h1,h,h2,h3,h4⟩
theorem cL {α:Type}{xs:List α}{j:Nat}{v:α} (h:xs[j]? = some v):atI xs (j:Int)=some v:=by
 have hj:j<xs.length:=(QP.mp h).1;have e:ixN xs.length (j:Int)=some j:=by
  unfold ixN;rw [if_pos (by lia),if_pos (by lia)];simp
 unfold atI;rw [e];exact h
def HP (b:Expr):Prop:=∀ o i,subscripted b false o i=operate [o,i] (getItem o i)
def IxR (X:Cx) (r:R2):Prop:=
 ∀ (value slice:Expr) (pins:List (Addr×Obj)) (s:Vx) (σ:St) (H:Hp) (x y:V) (v u:Vy) (Q:VK),Inv X pins σ H s->RelV x v->RelV y u->r x y H Q ->
  subscripted slice false v u=operate [v,u] (getItem v u)->wpAny (model X.prog X.w) X.A (subscriptTail value slice v u) (EP X pins σ Q) X.xe s
def MtR (X:Cx) (id:String) (r:V->List V->Hp->VK->Prop):Prop:=
 ∀ (pins:List (Addr×Obj)) (s:Vx) (σ:St) (H:Hp) (x:V) (xs:List V) (v:Vy) (us:List Vy) (Q:VK),Inv X pins σ H s->RelV x v->aS xs us->r x xs H Q ->
  wpAny (model X.prog X.w) X.A (call (.builtin id) (v::us)) (EP X pins σ Q) X.xe s
section
variable {X:Cx}{a b:Expr}{ta tb:TE}{pos:Pos}
theorem aU {r:R2} (hr:IxR X r) (ha:PE X a ta) (hb:PE X b tb) (hs:HP b):PE X (.Subscript a b pos) (tOp r ta tb):=by
 intro pins s σ H Q I h;exact Subscript_ (KC ha hb I h λv u s2 x y H2 I2 rx ry q=>hr a b pins s2 σ H2 x y v u Q I2 rx ry q (hs _ _))
def dE (K:Vz):R2:=λx y H Q=>∃ p xs i v,x = .ref p/\y = .int i/\SqL K H p xs/\atI xs i=some v/\Q v H
def eP (K:Vz):R2:=λx y H Q=>∃ p xs i v,x = .ref p/\y = .int i/\SqT K H p xs/\atI xs i=some v/\Q v H
def NK:R2:=λx y H Q=>∃ z i c,x = .str z/\y = .int i/\z.length<=sizeLine/\atI z.cps.toList i=some c/\Q (.str ⟨#[c]⟩) H
theorem aX:IxR X (dE X.K):=by
 intro value slice pins s σ H x y v u Q I rx ry h hs;obtain ⟨p,xs,i,z,rfl,rfl,hq,he,q⟩:=h;cases rx;obtain ⟨t,rfl⟩:=ry;obtain ⟨its,r,pl,hz⟩:=I.list hq;obtain ⟨j,h1,h2,h3,h4,h5⟩:=xp he;obtain ⟨w,ew,rw'⟩:=r.get h2;have hl:=r.length;have hn:=nz;have fin:EP X pins σ Q w s:=⟨z,H,I,rw',q⟩;by_cases h0:0<=i
 ·have hj:i.toNat=j:=by
   rw [seqIndex_of h0 h5] at h1;exact Option.some.inj h1
  exact item_listR pl.isList h0 (by lia) (by rw [hj];simpa using ew) fin hs
 ·have hj:(i+(its.toArray.size:Int)).toNat=j:=by
   rw [seqIndex_neg (by lia) h4] at h1;rw [P1,<-hl];exact Option.some.inj h1
  exact subscriptTail_builtinR (x:=w) pl.isList.typeIs slot_list_getitem.lookup
   (wpAny_getItem_list_neg (Q:=λr s'=>r=w/\EP X pins σ Q r s') pl.isList (by lia) (by rw [P1] <;> lia) (by lia) (by rw [hj];simpa using ew) ⟨rfl,fin⟩) hs
theorem bF:IxR X (eP X.K):=by
 intro value slice pins s σ H x y v u Q I rx ry h hs;obtain ⟨p,xs,i,z,rfl,rfl,hq,he,q⟩:=h;cases rx;obtain ⟨t,rfl⟩:=ry;obtain ⟨its,r,pl,hz⟩:=I.tuple hq;obtain ⟨j,h1,h2,h3,h4,h5⟩:=xp he;obtain ⟨w,ew,rw'⟩:=r.get h2;have hl:=r.length;have hn:=nz;have fin:EP X pins σ Q w s:=⟨z,H,I,rw',q⟩;exact subscriptTail_builtinR (x:=w) pl.typeIs slot_tuple_getitem.lookup
  (getItem_tuple (j:=j) (Q:=λr s'=>r=w/\EP X pins σ Q r s') pl (by lia) (by lia) (by rw [P1,<-hl];exact h1) (by simpa using ew) ⟨rfl,fin⟩) hs
theorem JA:IxR X NK:=by
 intro value slice pins s σ H x y v u Q I rx ry h hs;obtain ⟨z,i,c,rfl,rfl,hz,he,q⟩:=h;obtain ⟨t,rfl⟩:=rx;obtain ⟨t',rfl⟩:=ry;obtain ⟨j,h1,h2,h3,h4,h5⟩:=xp he;have hl:z.cps.toList.length=z.length:=by simp [Str.length]
 rw [hl] at h1 h4 h5;have hn:=nz;exact tail_any (typeIs_str s z t) slot_str_getitem.lookup (getItem_str (c:=c) (by
  have e1:decide (i < -(2 ^ 63:Int))=false:=decide_eq_false (by lia);have e2:decide (i ≥ 2 ^ 63)=false:=decide_eq_false (by lia);rw [e1,e2,Bool.or_false]) (by rw [h1];simpa using h2) ⟨.str ⟨#[c]⟩,H,I.tok _,⟨_,rfl⟩,q⟩) hs
theorem zM (its:List Vy) (n j:Nat) (u:Vy):Obj.mapSeq (·.setIfInBounds j u) { cls:=.type "list",data:=.seq its.toArray n }={ cls:=.type "list",data:=.seq (its.set j u).toArray n }:=by
 simp [Obj.mapSeq]
theorem Inv.lst {pins:List (Addr×Obj)}{σ:St}{H:Hp}{s:Vx}{p:Addr}{xs:List V} (I:Inv X pins σ H s) (h:H p=some (.lst xs)) :
  ∃ (its:List Vy) (n:Nat),aS xs its/\s.heap.get? p=some { cls:=.type "list",data:=.seq its.toArray n }/\xs.length<=sizeLine:=by
 obtain ⟨z,its,n,r,e⟩:=I.hok p _ h;exact ⟨its,n,r,e,z⟩
theorem Inv.JX {pins:List (Addr×Obj)}{σ:St}{H:Hp}{s:Vx}{p:Addr}{xs ys:List V}{its pq:List Vy}{n n':Nat}{f:Obj->Obj} (I:Inv X pins σ H s) (h:H p=some (.lst xs))
  (ho:s.heap.get? p=some { cls:=.type "list",data:=.seq its.toArray n }) (hf:f { cls:=.type "list",data:=.seq its.toArray n }={ cls:=.type "list",data:=.seq pq.toArray n' }) (r:aS ys pq) (hz:ys.length<=sizeLine) (t:Nat) :
  Inv X pins σ (upd H p (.lst ys)) { s with heap:=s.heap.update p f,toks:=t }:=by
 have e:(s.heap.update p f).get? p=some { cls:=.type "list",data:=.seq pq.toArray n' }:=by
  rw [Heap.get?_update_self f ho (by rw [hf] <;> rfl),hf]
 refine I.write (x:=p) (e:=p) (by rw [h];trivial) (.inl rfl) (λb u hb q=>(Heap.get?_update_other _ _ (Ne.symm hb)).trans q) ⟨_,e⟩ ?_;exact ⟨hz,pq,n',r,e⟩
def Lh:V->V->V->Hp->(Hp->Prop)->Prop:=λo i v H Q=>∃ p xs k j,o = .ref p/\i = .int k/\H p=some (.lst xs)/\ixN xs.length k=some j/\Q (upd H p (.lst (xs.set j v)))
theorem set_list:LY X Lh:=by
 intro pins s σ H o i v ov iv u Q I ro ri rv h;obtain ⟨p,xs,k,j,rfl,rfl,hp,hj,q⟩:=h;cases ro;obtain ⟨t,rfl⟩:=ri;obtain ⟨its,n,r,ho,hz⟩:=I.lst hp;obtain ⟨h1,h2,h3,h4⟩:=Bh hj;have hl:=r.length;have hn:=nz;have I':Inv X pins σ (upd H p (.lst (xs.set j v))) { s with heap:=s.heap.update p (Obj.mapSeq (·.setIfInBounds j u)) }:=
  I.JX hp ho (zM its n j u) (r.set rv j) (by rw [RC];exact hz) s.toks
 by_cases h0:0<=k
 ·have hk:k.toNat=j:=by
   rw [seqIndex_of h0 h4] at h1;exact Option.some.inj h1
  exact PySem.W.ki_setAt ho h0 (by lia) (by rw [P1,<-hl];exact h4) (by rw [hk];exact ⟨_,I',q⟩)
 ·have hk:(k+(its.toArray.size:Int)).toNat=j:=by
   rw [seqIndex_neg (by lia) h3] at h1;rw [P1,<-hl];exact Option.some.inj h1
  exact PySem.W.ki_setBack ho (by lia) (by rw [P1,<-hl];exact h3) (by lia) (by rw [hk];exact ⟨_,I',q⟩)
theorem xh (lo hi:Option Int) (n:Nat):(sliceBounds lo hi none n).1=((HT.sIx n 0 lo:Nat):Int)/\(sliceBounds lo hi none n).2.1=((HT.sIx n n hi:Nat):Int)/\(sliceBounds lo hi none n).2.2=1:=by
 refine ⟨?_,?_,rfl⟩
 ·cases lo with
  | none=>simp [sliceBounds,HT.sIx]
  | some i=>
   simp only [sliceBounds,HT.sIx,Option.getD_none,show (1:Int) > 0 by decide,if_true];by_cases h:i<0
   ·simp only [h,if_true] <;> lia
   ·simp only [h,if_false] <;> lia
 ·cases hi with
  | none=>simp [sliceBounds,HT.sIx]
  | some i=>
   simp only [sliceBounds,HT.sIx,Option.getD_none,show (1:Int) > 0 by decide,if_true];by_cases h:i<0
   ·simp only [h,if_true] <;> lia
   ·simp only [h,if_false] <;> lia
theorem uq (its:List Vy) (lo hi:Option Int):slicePick its.toArray lo hi none=((its.drop (HT.sIx its.length 0 lo)).take (HT.sIx its.length its.length hi - HT.sIx its.length 0 lo)).toArray:=by
 obtain ⟨h1,h2,h3⟩:=xh lo hi its.toArray.size;unfold slicePick;rw [h1,h2,h3];simp only [sliceRange_one,pick_run,P1] <;> rfl
def HI (K:Vz):V->Option Int->Option Int->Hp->VK->Prop:=λx lo hi H Q=>∃ a xs,x = .ref a/\SqL K H a xs/\∀ p,H p=none->Q (.ref p) (upd H p (.lst (px xs lo hi)))
theorem vX:SlR X (HI X.K):=by
 intro pins s σ H x v vl vu lo hi sl Q I rx hs pl pu h;obtain ⟨a,xs,rfl,hx,q⟩:=h;cases rx;obtain ⟨its,r,ht,hz⟩:=I.list hx;have hlen:=r.length;refine ⟨"list",_,slot_list_getitem.lookup,ht.isList.typeIs,?_⟩;refine wpAny_getItem_list_slice ht.isList hs pl pu .none (by simp) ?_ (by rw [P1] <;> lia);rw [uq,<-hlen];refine ⟨.ref s.heap.objs.size,_,I.laid (t':=s.toks) (o:=.lst (px xs lo hi)) (λb ob q=>Vu _ q) (PR _) ?_,rfl,q _ (I.hok.fresh (PR _))⟩;exact ⟨P2 (y7 xs lo hi) hz,_,0,(r.drop (HT.sIx xs.length 0 lo)).take (HT.sIx xs.length xs.length hi - HT.sIx xs.length 0 lo),Heap.get?_push_size _ rfl⟩
def hJ:V->Bool
 | .non=>true
 | .bl _=>true
 | .int _=>true
 | .str _=>true
 | _=>false
def eqV:V->V->Bool
 | .non,.non=>true
 | .bl a,.bl b=>a == b
 | .bl a,.int b=>(if a then 1 else 0) == b
 | .int a,.bl b=>a == (if b then 1 else 0)
 | .int a,.int b=>a == b
 | .str a,.str b=>a == b
 | _,_=>false
theorem Fo {A:Around}{s:Vx}{y x:V}{u v:Vy} (ry:RelV y u) (rx:RelV x v) (fy:hJ y=true) (fx:hJ x=true):SeqAt.EqAt A s u v (eqV y x):=by
 cases y with
 | non=>
  cases ry;cases x with
  | non=>cases rx;exact SeqAt.EqAt.same _
  | bl b=>cases rx;exact SeqAt.EqAt.none_bool b
  | int b=>obtain ⟨t,rfl⟩:=rx;exact SeqAt.EqAt.none_int b t
  | str b=>obtain ⟨t,rfl⟩:=rx;exact SeqAt.EqAt.none_str b t
  | _=>exact absurd (show false=true from fx) P6
 | bl a=>
  cases ry;cases x with
  | non=>cases rx;exact SeqAt.EqAt.bool_none a
  | bl b=>cases rx;exact SeqAt.EqAt.bool_bool a b
  | int b=>obtain ⟨t,rfl⟩:=rx;exact SeqAt.EqAt.bool_int a b t
  | str b=>obtain ⟨t,rfl⟩:=rx;exact SeqAt.EqAt.bool_str a b t
  | _=>exact absurd (show false=true from fx) P6
 | int a=>
  obtain ⟨t',rfl⟩:=ry;cases x with
  | non=>cases rx;exact SeqAt.EqAt.int_none a t'
  | bl b=>cases rx;exact SeqAt.EqAt.int_bool a t' b
  | int b=>obtain ⟨t,rfl⟩:=rx;exact SeqAt.EqAt.int_int a t' b t
  | str b=>obtain ⟨t,rfl⟩:=rx;exact SeqAt.EqAt.int_str a t' b t
  | _=>exact absurd (show false=true from fx) P6
 | str a=>
  obtain ⟨t',rfl⟩:=ry;cases x with
  | non=>cases rx;exact SeqAt.EqAt.str_none a t'
  | bl b=>cases rx;exact SeqAt.EqAt.str_bool a t' b
  | int b=>obtain ⟨t,rfl⟩:=rx;exact SeqAt.EqAt.str_int a t' b t
  | str b=>obtain ⟨t,rfl⟩:=rx;exact SeqAt.EqAt.str_str a t' b t
  | _=>exact absurd (show false=true from fx) P6
 | _=>exact absurd (show false=true from fy) P6
def eqU (x:V) (u:Vy):Bool:=match u with
 | .none=>eqV .non x
 | .bool b=>eqV (.bl b) x
 | .int i _=>eqV (.int i) x
 | .str z _=>eqV (.str z) x
 | _=>false
theorem zH {x y:V}{u:Vy} (r:RelV y u) (f:hJ y=true):eqU x u=eqV y x:=by
 cases y with
 | non=>cases r;rfl
 | bl b=>cases r;rfl
 | int i=>obtain ⟨t,rfl⟩:=r;rfl
 | str z=>obtain ⟨t,rfl⟩:=r;rfl
 | _=>exact absurd (show false=true from f) P6
theorem vY {x:V}:∀ {xs:List V}{us:List Vy},aS xs us->xs.all hJ=true->us.any (eqU x)=xs.any λy=>eqV y x
 | _,_,.nil,_=>rfl
 | y::xs,u::us,.cons r t,f=>by
  rw [RA,Qt] at f;rw [QM,QM,zH r f.1,vY t f.2]
theorem nQ {A:Around}{s:Vx}{x:V}{v:Vy} (rx:RelV x v) (fx:hJ x=true):∀ {xs:List V}{us:List Vy},aS xs us->xs.all hJ=true->∀ u∈us,SeqAt.EqAt A s u v (eqU x u)
 | _,_,.nil,_=>λu hu=>by cases hu
 | y::xs,u::us,.cons r t,f=>λu' hu=>by
  rw [RA,Qt] at f;rcases Qi.mp hu with rfl | hu
  ·rw [zH r f.1];exact Fo r rx f.1 fx
  ·exact nQ rx fx t f.2 u' hu
def inV (x:V) (xs:List V):Bool:=xs.any λy=>eqV y x
def rIn (K:Vz) (neg:Bool):R2:=λx y H Q=>∃ p xs,y = .ref p/\(SqL K H p xs\/SqT K H p xs)/\hJ x=true/\xs.all hJ=true/\Q (.bl (if neg then !inV x xs else inV x xs)) H
theorem uS:OpR X (compareOp .In) (rIn X.K false):=by
 intro pins s σ H x y v u Q I rx ry h;obtain ⟨p,xs,rfl,hq,fx,fs,q⟩:=h;cases ry;rcases hq with hq | hq
 ·obtain ⟨its,r,pl,hz⟩:=I.list hq;refine SeqAt.in_listAt (eqU x) pl.isList (λw hw=>nQ rx fx r fs w (by simpa using hw)) ⟨.bl _,H,I,rfl,?_⟩;rw [show its.toArray.any (eqU x)=its.any (eqU x) by simp,vY r fs];exact q
 ·obtain ⟨its,r,pl,hz⟩:=I.tuple hq;refine SeqAt.in_tupleAt (eqU x) pl (λw hw=>nQ rx fx r fs w (by simpa using hw)) ⟨.bl _,H,I,rfl,?_⟩;rw [show its.toArray.any (eqU x)=its.any (eqU x) by simp,vY r fs];exact q
theorem w8:iC X (.builtin "len") (λxs H Q=>∃ p ys,xs=[.ref p]/\(SqL X.K H p ys\/SqT X.K H p ys)/\Q (.int ys.length) H):=by
 intro pins s σ H xs us Q I r h;obtain ⟨p,ys,rfl,hq,q⟩:=h;obtain ⟨u,rfl,rx⟩:=vals1 r;cases rx;have hn:=nz;rcases hq with hq | hq
 ·obtain ⟨its,r',pl,hz⟩:=I.list hq;have hlen:=r'.length;exact Calls.call_len_list pl.isList (by simp only [P1] <;> lia) ⟨.int ys.length,H,I.tok _,⟨s.toks+1,by rw [P1,hlen]⟩,q⟩
 ·obtain ⟨its,r',pl,hz⟩:=I.tuple hq;have hlen:=r'.length;exact len_tuple pl (by simp only [P1] <;> lia) ⟨.int ys.length,H,I.tok _,⟨s.toks+1,by rw [P1,hlen]⟩,q⟩
theorem nK:iC X (.builtin "len") (λxs H Q=>∃ z,xs=[.str z]/\z.length<=sizeLine/\Q (.int z.length) H):=by
 intro pins s σ H xs us Q I r h;obtain ⟨z,rfl,hz,q⟩:=h;obtain ⟨u,rfl,t,rfl⟩:=vals1 r;have hn:=nz;exact len_str (by lia) ⟨.int z.length,H,I.tok _,⟨_,rfl⟩,q⟩
theorem xt:iC X (.type "list") (λxs H Q=>∃ p ys,xs=[.ref p]/\(SqL X.K H p ys\/SqT X.K H p ys)/\∀ l,H l=none->Q (.ref l) (upd H l (.lst ys))):=by
 intro pins s σ H xs us Q I r h;obtain ⟨p,ys,rfl,hq,q⟩:=h;obtain ⟨u,rfl,rx⟩:=vals1 r;cases rx;have fin:∀ (its:List Vy),aS ys its->ys.length<=sizeLine->∀ (h':Heap) (c':Nat),(∀ b o',s.heap.get? b=some o'->h'.get? b=some o') ->
   h'.get? s.heap.objs.size=some { cls:=.type "list",dict:=none,data:=.seq its.toArray c',slots:=#[] }->EP X pins σ Q (.ref s.heap.objs.size) { s with heap:=h' }:=λits r' hz h' c' kp e=>
  ⟨.ref s.heap.objs.size,_,I.laid (t':=s.toks) kp (PR _) (show bU X.prog X.w _ h' _ (.lst ys) from ⟨hz,its,c',r',e⟩),rfl,q _ (I.hok.fresh (PR _))⟩
 rcases hq with hq | hq
 ·obtain ⟨its,r',pl,hz⟩:=I.list hq;have hlen:=r'.length;obtain ⟨o,ho,hc,n,hd⟩:=pl.isList;exact call_list_seq p (.inl rfl) ho hc hd (λh' c' kp e=>fin its r' hz h' c' kp e) (by simp only [P1] <;> lia)
 ·obtain ⟨its,r',pl,hz⟩:=I.tuple hq;have hlen:=r'.length;obtain ⟨o,ho,hc,n,hd⟩:=pl;exact call_list_seq p (.inr rfl) ho hc hd (λh' c' kp e=>fin its r' hz h' c' kp e) (by simp only [P1] <;> lia)
theorem uy:iC X (.type "tuple") (λxs H Q=>∃ p ys,xs=[.ref p]/\((SqL X.K H p ys/\∀ l,H l=none->Q (.ref l) (upd H l (.tup ys)))\/(SqT X.K H p ys/\Q (.ref p) H))):=by
 intro pins s σ H xs us Q I r h;obtain ⟨p,ys,rfl,h⟩:=h;obtain ⟨u,rfl,rx⟩:=vals1 r;cases rx;rcases h with ⟨hq,q⟩ | ⟨hq,q⟩
 ·obtain ⟨its,r',pl,hz⟩:=I.list hq;have hlen:=r'.length;refine call_tuple_list pl.isList (λh' kp=>?_) (by simp only [P1] <;> lia);have I1:Inv X pins σ H { s with heap:=h' }:=I.kept (t':=s.toks) kp;have I2:Inv X pins σ (upd H h'.objs.size (.tup ys)) { s with heap:=h'.push { cls:=.type "tuple",data:=.seq its.toArray } }:=
   I1.laid (t':=s.toks) (λb o e=>Vu _ e) (PR _) (show bU X.prog X.w _ _ _ (.tup ys) from ⟨hz,its,r',IsTup.new _ _⟩)
  exact ⟨.ref h'.objs.size,_,I2,rfl,q _ (I1.hok.fresh (PR _))⟩
 ·obtain ⟨its,r',pl,hz⟩:=I.tuple hq;exact call_tuple_same pl ⟨.ref p,H,I,rfl,q⟩
def tyV (K:Vz) (T:String) (x:V) (H:Hp):Prop:=match x with
 | .str _=>T = "str"
 | .int _=>T = "int"
 | .ref p=>(T = "list" /\ ∃ xs,SqL K H p xs)\/(T = "tuple" /\ ∃ o,K.lookup p=some o/\o.cls = .type "tuple" /\ o.dict=none) \/
   (T = "dict" /\ ((∃ kvs,H p=some (.dK kvs))\/∃ kvs,H p=some (.dT kvs)))\/(T = "set" /\ ∃ S n,H p=some (.set S n))
 | _=>False
theorem Gg {pins:List (Addr×Obj)}{σ:St}{H:Hp}{s:Vx}{T:String}{x:V}{v:Vy} (I:Inv X pins σ H s) (r:RelV x v) (ty:tyV X.K T x H) :
  s.TypeIs v T/\∀ a,v = .ref a->∃ ob,s.heap.get? a=some ob/\ob.dict=none:=by
 cases x with
 | str z=>
  obtain ⟨t,rfl⟩:=r;cases (show T = "str" from ty);exact ⟨typeIs_str s z t,λ_ e=>nomatch e⟩
 | int i=>
  obtain ⟨t,rfl⟩:=r;cases (show T = "int" from ty);exact ⟨typeIs_int s i t,λ_ e=>nomatch e⟩
 | ref p=>
  cases r;rcases ty with ⟨rfl,xs,hq⟩ | ⟨rfl,o,hk,hc,hd⟩ | ⟨rfl,hk⟩ | ⟨rfl,S,n,hk⟩
  ·obtain ⟨its,_,pl,_⟩:=I.list hq;refine ⟨pl.isList.typeIs,λa e=>?_⟩;cases e;obtain ⟨o,n,e,c,hd,_⟩:=pl;exact ⟨o,e,hd⟩
  ·refine ⟨⟨o,I.kIn p o hk,hc⟩,λa e=>?_⟩;cases e;exact ⟨o,I.kIn _ o hk,hd⟩
  ·have z:∃ o,s.heap.get? p=some o/\o.ExactDict:=by
    rcases hk with ⟨kvs,hk⟩ | ⟨kvs,hk⟩
    ·obtain ⟨_,_,_,_,o,_,_,e,ex,_⟩:=I.hok p _ hk;exact ⟨o,e,ex⟩
    ·obtain ⟨_,_,_,_,o,_,_,e,ex,_⟩:=I.hok p _ hk;exact ⟨o,e,ex⟩
   obtain ⟨o,e,ex⟩:=z;refine ⟨⟨o,e,ex.1⟩,λa e2=>?_⟩;cases e2;exact ⟨o,e,ex.2.1⟩
  ·obtain ⟨o,_,_,_,e,ex,_⟩:=I.hok p _ hk;refine ⟨⟨o,e,ex.1⟩,λa e2=>?_⟩;cases e2;exact ⟨o,e,ex.2.1⟩
 | _=>exact False.elim ty
def N4 (K:Vz) (T:String) (r:V->List V->Hp->VK->Prop) (to:TE):TE:=λσ H Q=>to σ H λx H1=>tyV K T x H1/\r x [] H1 Q
def tBM (K:Vz) (T:String) (r:V->List V->Hp->VK->Prop) (to:TE) (t:TA):TE:=λσ H Q=>to σ H λx H1=>tyV K T x H1/\t σ H1 λxs H2=>r x xs H2 Q
variable {o e:Expr}{es:List Expr}{to:TE}{t:TA}{name:Str}{apos dv:Pos}{T id:String}{r:V->List V->Hp->VK->Prop}
theorem Em (pa:PlainAttrs T) (slot:Slot T name id) (hty:typeOf (.builtin id)=pure (.type "method_descriptor")) (hm:MtR X id r) (ho:PE X o to)
  (tN:attributeBase o name X.env (eval o X.env)=eval o X.env:=by rfl) (rX:(apos.endLine == dv.line)=true:=by rfl):PE X (.Call (.Attribute o name apos) [] [] dv) (N4 X.K T r to):=by
 intro pins s σ H Q I h;refine wpAny_Call_method0_late tN rX (thn (ho pins s σ H _ I h) λv s1 ⟨x,H1,I1,r1,ty,q1⟩=>?_);obtain ⟨h1,h2⟩:=Gg I1 r1 ty;exact ⟨T,id,pa,slot,hty,h1,h2,Calls.callWith_builtin rfl (PySem.evalArgs_none (hm pins s1 σ H1 x [] v [] Q I1 r1 .nil q1))⟩
theorem cQ (pa:PlainAttrs T) (slot:Slot T name id) (hty:typeOf (.builtin id)=pure (.type "method_descriptor")) (hm:MtR X id r) (ho:PE X o to) (ha:PA X (e::es) t)
  (tN:attributeBase o name X.env (eval o X.env)=eval o X.env:=by rfl)
  (Ju:((backTo dv (starEach (e::es) X.env)).all (λx=>!x.1) && (backToKw dv (keywordEach [] X.env)).all (λx=>x.1.isSome)
   && decide ((e::es).length+([]:List Keyword).length+(if ([]:List Keyword).isEmpty then 0 else 1)<30))=true:=by rfl)
  (rX:(apos.endLine == dv.line)=true:=by rfl) (hs:starEach (e::es) X.env=(false,eval e X.env)::starEach es X.env:=by rfl) (jy:(backTo dv (starEach es X.env)).any (·.1)=false:=by rfl) :
  PE X (.Call (.Attribute o name apos) (e::es) [] dv) (tBM X.K T r to t):=by
 intro pins s σ H Q I h;refine wpAny_Call_method_late tN Ju rX rfl (thn (ho pins s σ H _ I h) λv s1 ⟨x,H1,I1,r1,ty,q1⟩=>?_);obtain ⟨h1,h2⟩:=Gg I1 r1 ty;refine ⟨T,id,pa,slot,hty,h1,h2,?_⟩;have hA:=ha dv pins s1 σ H1 _ I1 q1;rw [hs] at hA ⊢;refine Calls.callWith_builtin (by show (false || (backTo dv (starEach es X.env)).any (·.1))=false;rw [jy] <;> rfl) (Calls.evalArgs_plain ?_)
 exact thn hA λus s2 ⟨vs,H2,I2,r2,q2⟩=>hm pins s2 σ H2 x vs v us Q I2 r1 r2 q2
end
def MtM (X:Cx) (id:String) (r:V->List V->Hp->VK->Prop):Prop:=
 ∀ (pins:List (Addr×Obj)) (s:Vx) (σ:St) (H:Hp) (x:V) (xs:List V) (v:Vy) (us:List Vy) (Q:VK),Inv X pins σ H s->RelV x v->aS xs us->r x xs H Q ->
  wpAny (model X.prog X.w) X.A (call (.builtin id) (v::us)) (EP X pins σ Q) X.xe s
theorem aS.one:∀ {x:V}{us:List Vy},aS [x] us->∃ u,us=[u]/\RelV x u
 | _,_,.cons r .nil=>⟨_,rfl,r⟩
section
variable {X:Cx}{pins:List (Addr×Obj)}{σ:St}{H:Hp}{s:Vx}{l b:Addr}{xs ys zs:List V}
theorem Inv.Ig {its pq:List Vy}{n:Nat}{f:Array Vy->Array Vy}{t':Nat} (I:Inv X pins σ H s) (hH:H l=some (.lst xs))
  (e:s.heap.get? l=some { cls:=.type "list",data:=.seq its.toArray n }) (hf:f its.toArray=pq.toArray) (hv:aS ys pq) (hz:ys.length<=sizeLine) :
  Inv X pins σ (upd H l (.lst ys)) { s with heap:=s.heap.update l (Obj.mapSeq f),toks:=t' }:=by
 have q:=PySem.IsL.update e f;rw [hf] at q;refine I.write (x:=l) (e:=l) (by rw [hH];exact trivial) (.inl rfl) (λb' u hb hu=>(Heap.get?_update_other s.heap (Obj.mapSeq f) (Ne.symm hb)).trans hu) ⟨_,q⟩ ?_;exact ⟨hz,pq,_,hv,q⟩
theorem Inv.NU {its:List Vy}{t':Nat} (I:Inv X pins σ H s) (hv:aS ys its) (hz:ys.length<=sizeLine) :
  Inv X pins σ (upd H s.heap.objs.size (.lst ys)) { s with heap:=s.heap.push { cls:=.type "list",data:=.seq its.toArray },toks:=t' }:=
 I.laid (λ_ _ q=>Vu _ q) (PR _) ⟨hz,its,0,hv,Heap.get?_push_size _ rfl⟩
theorem Inv.fresh (I:Inv X pins σ H s):H s.heap.objs.size=none:=I.hok.fresh (PR _)
theorem Inv.Fd (I:Inv X pins σ H s) (hH:H l=some (.lst xs)):xs.length<=sizeLine/\∃ (its:List Vy) (n:Nat),aS xs its/\xs.length=its.length/\s.heap.get? l=some { cls:=.type "list",data:=.seq its.toArray n }:=by
 obtain ⟨z,its,n,r,e⟩:=I.hok l _ hH;exact ⟨z,its,n,r,r.length,e⟩
theorem Fs {n:Nat} (h:n<=sizeLine):Builtin.List.listTooLong n=false:=by
 unfold Builtin.List.listTooLong;exact decide_eq_false (by lia)
end
section
variable {X:Cx}
def G5:V->List V->Hp->VK->Prop:=λx vs H Q=>∃ l xs y,x = .ref l/\vs=[y]/\H l=some (.lst xs)/\xs.length<sizeLine/\Q .non (upd H l (.lst (xs++[y])))
theorem cm:MtM X "list.append" G5:=by
 intro pins s σ H x vs v us Q I rx rv h;obtain ⟨l,xs,y,rfl,rfl,hH,hz,q⟩:=h;cases rx;obtain ⟨u,rfl,ru⟩:=rv.one;obtain ⟨z,its,n,r,hl,e⟩:=I.Fd hH;refine call_meets F.slot_list_append ⟨_,e,rfl⟩ F.entry_list_append (F.args_list_append_2 _ _) (PySem.list_append l its.toArray n u (by rw [P1];lia)) ⟨e,?_⟩;refine ⟨.non,_,I.Ig (pq:=its++[u]) hH e (by simp) (r.append (.cons ru .nil)) ?_,rfl,q⟩;rw [PX,P8];lia
def GS:V->List V->Hp->VK->Prop:=λx vs H Q=>∃ l b xs zs,x = .ref l/\vs=[.ref b]/\H l=some (.lst xs)/\H b=some (.lst zs)/\xs.length+zs.length<=sizeLine/\Q .non (upd H l (.lst (xs++zs)))
theorem vz:MtM X "list.extend" GS:=by
 intro pins s σ H x vs v us Q I rx rv h;obtain ⟨l,b,xs,zs,rfl,rfl,hH,hB,hz,q⟩:=h;cases rx;obtain ⟨u,rfl,ru⟩:=rv.one;cases ru;obtain ⟨z,its,n,r,hl,e⟩:=I.Fd hH;obtain ⟨z2,iq,n2,r2,hl2,e2⟩:=I.Fd hB;have hsz:its.toArray.size+iq.toArray.size<=sizeLine:=by rw [P1,P1];lia
 have MM:¬ (!its.toArray.isEmpty && Builtin.List.listTooLong (its.toArray.size+iq.toArray.size))=true:=by
  rw [Fs hsz,QW];exact P6
 refine call_meets F.slot_list_extend ⟨_,e,rfl⟩ F.entry_list_extend (F.args_list_extend_2 _ _)
  (AutoSeq1.list_extend_list_list_0 l its.toArray n b iq.toArray n2 MM (by rw [P1];lia) (by lia)) ⟨e,e2,?_⟩
 refine ⟨.non,_,I.Ig (pq:=its++iq) hH e (by simp) (r.append r2) ?_,rfl,q⟩;rw [PX];lia
end
section
variable {prog:Program}{w:World}{A:Around}{E:Vy->Vx->Prop}{s:Vx}
end
section
variable {X:Cx}
end
end L2
namespace Att
open PySem PySem.W PySem.Calls PyProof.Rows
theorem qN {P:Params}{h:Heap}:∀ (ns:List Int) (vs:List Vy),WellAll P h vs (ns.map WData.int)->IntsAre vs ns:=by
 intro ns
 induction ns with
 | nil=>
  intro vs w;rw [Rr] at w;cases w;exact .nil
 | cons n ns ih=>
  intro vs w;rw [Ql] at w;cases w with
  | cons a b=>
   cases a;exact .cons _ _ (ih _ b)
theorem Cj {l:OpenLaw}{n:Nat} (hn:l.most=some n) {P:Params}{h:Heap}{args:List WData}{vals:List Vy}
  (Hj:l.row.toRowW.claim.pre args=true) (hwl:WellAll P h vals args) :
  ∃ a vs ns,vals=[Value.ref a]/\args=[WData.list (ns.map WData.int)]/\h.get? a=some { cls:=.type "list",data:=.seq vs.toArray }/\IntsAre vs ns/\ns.length<=n:=by
 have hsh:WShape.hasAll [] args [.list .int]=true:=(pre_splitW Hj).1;have hc:l.pre.holds [] { args:=args }=true:=(pre_splitW Hj).2;obtain ⟨d,r,rfl,h1,h2⟩:=hasAllW_cons hsh;obtain rfl:=hasAllW_nil h2;obtain ⟨xs,rfl,h3⟩:=hasW_list h1;obtain ⟨ns,rfl⟩:=items_int h3;have hlen:ns.length<=n:=by
  unfold OpenLaw.pre at hc;have h4:(WTm.not (.lt (.lit (.int (n:Int))) (.len (.arg 0)))).holds [] { args:=[.list (ns.map .int)] }=true:=by
   have h4:=(holds_andW hc).1;rw [hn] at h4;exact h4
  have h5:=condW_of h4 (w_not (w_lt w_lit (w_len_list (w_arg rfl))));rw [PQ] at h5;refine Nat.le_of_not_lt λq=>?_;have q':(n:Int)<((ns.length:Nat):Int):=by lia
  first
   | (rw [decide_eq_true q'] at h5;exact absurd h5 (by decide))
   | (simp at h5;lia)
 cases hwl with
 | cons w1 w2=>
  cases w2;cases w1 with
  | list ho gW=>exact ⟨_,_,ns,rfl,rfl,ho,qN ns _ gW,hlen⟩
theorem DD (l:OpenLaw) (args:List WData):l.row.toRowW.claim.post args (.bool true) args=true:=
 postW_of (r:=l.row.toRowW) (X:=(true == true))
  (show WShape.has [] (.bool true) .bool=true by first | rfl | decide | simp [WShape.has,WShape.arms,WShape.armsAll])
  (show (WTm.eq .res (.lit (.bool true))).value [] { args:=args,res:=some (.bool true),after:=args }=some (.bool (true == true)) from w_eq_bool (w_res rfl) w_lit) rfl
theorem xW {l:OpenLaw}{n:Nat}{q:Program}{loose:List Str}{XP:(Str->Option Vy)->Heap->Prop}{YP:World->Heap->Prop}{d:DefRec}
  (hn:l.most=some n) (hdf:d.params.defaults=[])
  (call:∀ (w:World) (s₀ s₁:Vx) (mg mb:Str->Option Vy) (fa:Addr) (o:Obj) (pm cd doc:Vy) (a:Addr) (vs:List Vy) (ns:List Int),
   Ground q loose [] XP w s₀ mg mb s₁.heap->YP w s₁.heap ->
   s₁.heap.get? fa=some o->o.data = .func (docDef d.name d.params d.body d.scope pm cd doc)->s₁.heap.CodeRec cd d.name->mg d.name=some (.ref fa) ->
   s₁.heap.get? a=some { cls:=.type "list",data:=.seq vs.toArray }->IntsAre vs ns->ns.length<=n->s₁.gens = #[] ->
   codeAny (model l.prog w) callerA (.call (.ref fa) ⟨[.ref a],[]⟩) (λr s'=>r = .ok (.ret (.bool true))/\OldK s₁.heap s'.heap/\s'.os=s₁.os/\AllBare s'.gens) s₁) :
  WalkO q loose XP YP l.row.toRowW d [] (λf vs=>PySem.call f vs):=by
 intro w s₀ s₁ mg mb G Y fa o pm cd doc dV kV ho hd hcd hD hmg hg args vals as Hj Pr hrd hwl hlo;obtain rfl:dV = .none:=Dflts.none hD hdf;obtain rfl:kV = .none:=Dflts.noKw hD;obtain ⟨a,vs,ns,rfl,rfl,Kb,Gc,hlen⟩:=Cj hn Hj hwl;refine enter_call (codeAny_mono (call w s₀ s₁ mg mb fa o pm cd doc a vs ns G Y ho (fd_plain hd) hcd hmg Kb Gc hlen hg) λr s' hq=>?_);obtain ⟨rfl,h2,h3,h4⟩:=hq;exact ⟨.inl ⟨.bool true,.bool true,[],rfl,λ_=>rfl,.bool true,DD l _,λ_=>⟨List.Pairwise.nil,λ_ hm=>(nomatch hm)⟩⟩,h2,h3,h4⟩
section
variable {prog:Program}{w:World}{A:Around}{E:Vy->Vx->Prop}{s:Vx}{K:Frag}
end
end Att
namespace L2
open PySem PySem.Spec PyProof.Rows
theorem uY:∀ {vs:List Vy}{ns:List Int},IntsAre vs ns->aS (ns.map V.int) vs
 | _,_,.nil=>.nil
 | _,_,.cons n t h=>.cons ⟨t,rfl⟩ (uY h)
abbrev CX0:CXT:=λ_ _ _ _ _ _=>False
abbrev E0:XK:=λ_ _ _=>False
theorem ay {X:Cx}:kP CX0 X E0:=λ_ _ _ _ _ _ _ h=>h.elim
structure Fun (K:Vz) (x qual:Str) (st:Stmt) (f:Addr) (fd:FuncData):Prop where
 ex:∃ (oc:Vy) (od:Option Addr) (kV doc pm:Vy) (an:Option Addr) (cdv ct:Vy) (osl:Array (Option Vy)),
  fd=PySem.W.fnOf x qual (cD st) (b7 st) (ak st) .none kV doc pm an cdv ct/\K.lookup f=some ⟨oc,od,.func fd,osl⟩/\PySem.W.codeIn K cdv qual=true
 kp:PySem.W.keepIn K (.ref f)=true
section
variable {P:Program}{w:World}{K:Vz}{mg:Str->Option Vy}{base:Heap}
theorem Fun.ok {x qual:Str}{st:Stmt}{f:Addr}{fd:FuncData}{N ps:List Str}{k:Nat}{sp:Sp} (F:Fun K x qual st f fd) (S:aE N ps (ak st)) (len:∀ vs H Q E,sp vs H Q E->vs.length=ps.length)
  (jd:∀ (cdv:Vy) (A:Around) (outer:List Env) (s:Vx) (H:Hp) (vs:List V) (Q:VK) (E:XK),bX k (A.deeper (envOfC qual (ak st) s.heap.objs.size f cdv))->sp vs H Q E ->
   ∃ t,PSs (zi CX0 P w K mg base N qual (ak st) f cdv A outer s H E).nox (b7 st) t/\t { nx:=λ_ H'=>Q .non H',rt:=Q } (start N vs) H):ax P w K mg base CX0 (k+1) f fd ps sp:=by
 obtain ⟨oc,od,kV,doc,pm,an,cdv,ct,osl,rfl,lk,hcd⟩:=F.ex;refine FC lk hcd S len λA outer s H vs Q E hr hsp=>?_;obtain ⟨t,h,q⟩:=jd cdv A outer s H vs Q E hr hsp;exact ⟨t,h.nox,q⟩
theorem Fun.binds {x qual:Str}{st:Stmt}{f:Addr}{fd:FuncData}{ps:List Str} (F:Fun K x qual st f fd)
  (h:∀ (kV doc pm:Vy) (an:Option Addr) (cdv ct:Vy) (us:List Vy),us.length=ps.length->bindArgs (PySem.W.fnOf x qual (cD st) (b7 st) (ak st) .none kV doc pm an cdv ct) ⟨us,[]⟩=pure (ps.zip us)):Binds K fd ps []:=by
 obtain ⟨oc,od,kV,doc,pm,an,cdv,ct,osl,rfl,lk,hcd⟩:=F.ex;exact .all (h kV doc pm an cdv ct)
theorem F7 {x qual:Str}{st:Stmt}{f:Addr}{oc:Vy}{od an:Option Addr}{osl:Array (Option Vy)}{kV doc pm cdv ct:Vy} (l:K.lookup f=some ⟨oc,od,.func (PySem.W.fnOf x qual (cD st) (b7 st) (ak st) .none kV doc pm an cdv ct),osl⟩)
  (c:PySem.W.codeIn K cdv qual=true) (k:PySem.W.keepIn K (.ref f)=true):Fun K x qual st f (PySem.W.fnOf x qual (cD st) (b7 st) (ak st) .none kV doc pm an cdv ct):=⟨⟨oc,od,kV,doc,pm,an,cdv,ct,osl,rfl,l,c⟩,k⟩
end
section
variable {X:Cx}
theorem pv (i:Nat) {x:Str}{pos:Pos} (hN:X.N[i]? = some x:=by rfl) (hv:Vis X.env.scope x:=by first | exact Or.inl rfl | exact Or.inr (Or.inl rfl) | exact Or.inr (Or.inr rfl)) (hd:(x == ("__debug__" : Str))=false:=by decide)
  (hcd:(x == ("__classdict__" : Str))=false:=by decide):PE X (.Name x pos) (tY i):=J8 hN hv hd hcd
end
theorem bf {A B:Prop} (h:B):if false=true then A else B:=by
 rw [if_neg P6];exact h
theorem ck {A B:Prop} (h:A):if true=true then A else B:=by
 rw [if_pos rfl];exact h
theorem mL {c A B:Prop} [Decidable c] (h1:c->A) (h2:¬ c->B):if c then A else B:=by
 by_cases h:c
 ·rw [if_pos h];exact h1 h
 ·rw [if_neg h];exact h2 h
def af (H H':Hp):Prop:=∀ b o,H b=some o->H' b=some o
theorem af.refl (H:Hp):af H H:=λ_ _ h=>h
theorem af.trans {H H1 H2:Hp} (a:af H H1) (b:af H1 H2):af H H2:=λc o h=>b c o (a c o h)
theorem af.free {H H':Hp} (e:af H H') {l:Addr} (h:H' l=Option.none):H l=Option.none:=by
 cases q:H l with
 | none=>rfl
 | some o=>
  rw [e l o q] at h;cases h
theorem af.seq {K:Vz}{H H':Hp}{a:Addr}{xs:List V} (e:af H H') (h:SqL K H a xs):SqL K H' a xs:=by
 rcases h with (h | ⟨o,h⟩) | h
 ·exact .inl (.inl (e _ _ h))
 ·exact .inl (.inr ⟨o,e _ _ h⟩)
 ·exact .inr h
section
variable {κ:Type} [DecidableEq κ]
def i7 (kvs:List (κ×V)) (k:κ):Option V:=(kvs.find? λkv=>decide (kv.1=k)).map (·.2)
def putK (kvs:List (κ×V)) (k:κ) (v:V):List (κ×V):=
 if (kvs.any λkv=>decide (kv.1=k))=true then kvs.map (λkv=>if kv.1=k then (kv.1,v) else kv) else kvs++[(k,v)]
theorem sJ {p:κ×V}{r:List (κ×V)}{k:κ} (e:p.1=k):i7 (p::r) k=some p.2:=by simp [i7,Rj,e]
theorem DW {p:κ×V}{r:List (κ×V)}{k:κ} (e:¬ p.1=k):i7 (p::r) k=i7 r k:=by simp [i7,Rj,e]
theorem yz (kvs:List (κ×V)) (k:κ) (v:V):(putK kvs k v).length<=kvs.length+1:=by
 unfold putK
 split
 ·rw [PQ];lia
 ·rw [PX,Qh,QK];lia
theorem KV.val {kvs:List (κ×V)}{vs:List (κ×Vy)} (r:KV kvs vs) (k:κ):pB (i7 kvs k) (valueAt vs k):=by
 unfold KV at r
 induction r with
 | nil=>exact True.intro
 | @cons p q ps qs h t ih=>
  obtain ⟨h1,h2⟩:=h;by_cases e:p.1=k
  ·have e':q.1=k:=h1.symm.trans e;have b:valueAt (q::qs) k=some q.2:=by simp [valueAt,Rj,e']
   rw [sJ e,b];exact h2
  ·have e':¬ q.1=k:=λz=>e (h1.trans z);have b:valueAt (q::qs) k=valueAt qs k:=by simp [valueAt,Rj,e']
   rw [DW e,b];exact ih
theorem KV.any {kvs:List (κ×V)}{vs:List (κ×Vy)} (r:KV kvs vs) (k:κ):(kvs.any λkv=>decide (kv.1=k))=vs.any λkv=>decide (kv.1=k):=by
 unfold KV at r
 induction r with
 | nil=>rfl
 | cons h t ih=>rw [QM,QM,ih,h.1]
theorem KV.M9 {kvs:List (κ×V)}{vs:List (κ×Vy)} (r:KV kvs vs) (k:κ) {y:V}{u:Vy} (ry:RelV y u) :
  KV (kvs.map λkv=>if kv.1=k then (kv.1,y) else kv) (vs.map λkv=>if kv.1=k then (kv.1,u) else kv):=by
 unfold KV at r ⊢
 induction r with
 | nil=>exact .nil
 | @cons p q ps qs h t ih=>
  rw [Ql,Ql];refine .cons ?_ ih;obtain ⟨h1,h2⟩:=h;by_cases e:p.1=k
  ·rw [if_pos e,if_pos (h1.symm.trans e)];exact ⟨h1,ry⟩
  ·rw [if_neg e,if_neg (λz=>e (h1.trans z))];exact ⟨h1,h2⟩
theorem KV.put {kvs:List (κ×V)}{vs:List (κ×Vy)} (r:KV kvs vs) (k:κ) {y:V}{u:Vy} (ry:RelV y u):KV (putK kvs k y) (stored vs k u):=by
 unfold putK stored;rw [r.any k];by_cases e:(vs.any λkv=>decide (kv.1=k))=true
 ·rw [if_pos e,if_pos e];exact r.M9 k ry
 ·rw [if_neg e,if_neg e];exact Paired.snoc r ⟨rfl,ry⟩
theorem KV.length {kvs:List (κ×V)}{vs:List (κ×Vy)} (r:KV kvs vs):kvs.length=vs.length:=Paired.length r
end
theorem IV {P:Program}{w:World}{k:Key}{u:Vy} (r:RelV (kV k) u):(ba P w).is k u=true:=by
 cases k with
 | inl i=>obtain ⟨t,e⟩:=(show ∃ t,u=Value.int i t from r);subst e;exact xQ P w i t
 | inr x=>obtain ⟨t,e⟩:=(show ∃ t,u=Value.str x t from r);subst e;exact iK P w x t
theorem vP {P:Program}{w:World}:∀ {ks:List Key}{us:List Vy},aS (ks.map kV) us->ItemsAre (ba P w) ks us
 | [],_,r=>by rw [Rr] at r;cases r;exact .nil
 | k::ks,_,r=>by
  rw [Ql] at r;cases r with
  | cons h t=>exact .cons (IV h) (vP t)
abbrev KT (H:Hp):List (List Key×V)->List (List Key×Addr×Vy)->Prop:=Paired λp q=>p.1=q.1/\H q.2.1=some (.tup (p.1.map kV))/\RelV p.2 q.2.2
section
variable {P:Program}{w:World}{H:Hp}{h:Heap}{a:Addr}
theorem IQ {u:HO} (ok:HOk P w H h) (e:Rd H a u):bU P w H h a u:=e.ok ok
theorem DT {kvs:List (Key×V)} (ok:HOk P w H h) (e:Rd H a (.dK kvs)):kvs.length<=sizeLine/\(a == sysModules)=false/\∃ vs,KV kvs vs/\h.DictOf (ba P w) a vs:=
 show bU P w H h a (.dK kvs) from IQ ok e
theorem Mm {kvs:List (Key×V)} (ok:HOk P w H h) (e:H a=some (.dK kvs)):kvs.length<=sizeLine/\(a == sysModules)=false/\∃ vs,KV kvs vs/\h.DictOf (ba P w) a vs:=DT ok (.inl e)
theorem KP {ks:List Key} (ok:HOk P w H h) (e:H a=some (.tup (ks.map kV))):(tupleKind (ba P w)).is h ks a:=by
 obtain ⟨_,its,r,o,h1,h2,n,h3⟩:=(show bU P w H h a (.tup (ks.map kV)) from ok a _ e);exact ⟨o,its.toArray,n,h1,h2,h3,by simpa using vP r⟩
theorem L7 {kvs:List (List Key×V)} (ok:HOk P w H h) (e:Rd H a (.dT kvs)):kvs.length<=sizeLine/\(a == sysModules)=false /\
  ∃ xs,KT H kvs xs/\h.DictOfH (tupleKind (ba P w)) a xs:=by
 obtain ⟨z,y,xs,r,o,es,ep,h1,h2,h3,h4,h5⟩:=(show bU P w H h a (.dT kvs) from IQ ok e);refine ⟨z,y,xs,r,o,es,ep,h1,h2,h3,h4,λx hx=>?_,h5⟩;have all:∀ {l:List (List Key×V)}{m:List (List Key×Addr×Vy)},KT H l m->∀ x∈m,(tupleKind (ba P w)).is h x.1 x.2.1:=by
  intro l m q
  induction q with
  | nil=>intro x hx;exact nomatch hx
  | @cons p q ps qs hq t ih=>
   intro x hx;rcases Qi.mp hx with e | hx
   ·subst e;exact KP ok (by rw [<-hq.1];exact hq.2.1)
   ·exact ih x hx
 exact all r x hx
end
section
variable {X:Cx}{pins:List (Addr×Obj)}{σ:St}{H:Hp}{s:Vx}{a:Addr}{y v:V}{u r:Vy}{o:Option V}{A:Around}{E:Vy->Vx->Prop}
theorem Inv.big (I:Inv X pins σ H s):sysModules<s.heap.objs.size:=by
 have h:mainGlobals<s.heap.objs.size:=(I.mod.glob.keeps I.bk).lt;exact Ro (by decide) h
theorem Hc {h':Heap}{t':Nat}{ob:HO} (I:Inv X pins σ H s) (mu:Mut (H a)) (hs:Heap.SameBut a s.heap h') (he:∃ q,h'.get? a=some q) (new:bU X.prog X.w (upd H a ob) h' a ob) :
  Inv X pins σ (upd H a ob) { s with heap:=h',toks:=t' }:=
 I.write (x:=a) (e:=a) mu (.inl rfl) (λb q hb z=>(hs.2 b hb).trans z) he new
theorem Kh {P:Program}{w:World}{H':Hp}{h':Heap}{kvs:List (Key×V)}{vs:List (Key×Vy)} (z:kvs.length<=sizeLine) (hd:(a == sysModules)=false) (rel:KV kvs vs) (dd:h'.DictOf (ba P w) a vs) :
  bU P w H' h' a (.dK kvs):=⟨z,hd,vs,rel,dd⟩
end
section
variable {X:Cx}{pins:List (Addr×Obj)}{σ:St}{H:Hp}{s:Vx}{a:Addr}{kvs:List (Key×V)}{k:Key}{u:Vy}{A:Around}{E:Vy->Vx->Prop}
end
section
variable {X:Cx}{o i e value:Expr}{pos pos' JB:Pos}{td ty tv:TE}
end
theorem Es {P:Program}{w:World}{H:Hp} (h:Heap) (hb:sysModules<h.objs.size):bU P w H (h.push { cls:=.type "dict",data:=.dict #[] }) h.objs.size (.dK []):=
 ⟨Qb _,beq_eq_false_iff_ne.mpr (Ne.symm (Qj hb)),[],.nil,Heap.DictOf.new h⟩
def Ki:TE:=λ_ H Q=>∀ p,H p=none->Q (.ref p) (upd H p (.dK []))
section
variable {X:Cx}{pos:Pos}
theorem FN:PE X (.Dict [] [] pos) Ki:=λpins s σ H Q I h=>
 wpAny_Dict_empty ⟨.ref s.heap.objs.size,_,I.laid (a:=s.heap.objs.size) (o:=.dK []) (t':=s.toks) (λ_ _ q=>Vu _ q) (PR _) (Es s.heap I.big),rfl,h _ (I.hok.fresh (PR _))⟩
end
structure M1 (X:Cx) (o:Expr) (m:Str) (apos:Pos) (e:Expr) (dv:Pos):Prop where
 base:attributeBase o m X.env (eval o X.env)=eval o X.env
 few:((backTo dv (starEach [e] X.env)).all (λx=>!x.1) && (backToKw dv (keywordEach [] X.env)).all (λx=>x.1.isSome)
  && decide (([e]:List Expr).length+([]:List Keyword).length+(if ([]:List Keyword).isEmpty then 0 else 1)<30))=true
 line:(apos.endLine == dv.line)=true
 II:backTo dv (starEach [e] X.env)=[(false,eval e X.env)]
structure M2 (X:Cx) (o:Expr) (m:Str) (apos:Pos) (e f:Expr) (dv:Pos):Prop where
 base:attributeBase o m X.env (eval o X.env)=eval o X.env
 few:((backTo dv (starEach [e,f] X.env)).all (λx=>!x.1) && (backToKw dv (keywordEach [] X.env)).all (λx=>x.1.isSome)
  && decide (([e,f]:List Expr).length+([]:List Keyword).length+(if ([]:List Keyword).isEmpty then 0 else 1)<30))=true
 line:(apos.endLine == dv.line)=true
 II:backTo dv (starEach [e,f] X.env)=[(false,eval e X.env),(false,eval f X.env)]
def IsD (H:Hp) (a:Addr):Prop:=(∃ kvs,Rd H a (.dK kvs))\/∃ kvs,Rd H a (.dT kvs)
theorem Gp {X:Cx}{pins:List (Addr×Obj)}{σ:St}{H:Hp}{s:Vx}{a:Addr} (I:Inv X pins σ H s) (d:IsD H a) :
  s.TypeIs (.ref a) "dict" /\ (∀ b,Value.ref a = .ref b->∃ ob,s.heap.get? b=some ob/\ob.dict=none)/\(a == sysModules)=false:=by
 rcases d with ⟨kvs,e⟩ | ⟨kvs,e⟩
 ·obtain ⟨_,hd,vs,_,dd⟩:=DT I.hok e;refine ⟨dd.typeIs,λb q=>?_,hd⟩;cases q;obtain ⟨ob,_,_,h1,h2,_⟩:=dd;exact ⟨ob,h1,h2.2.1⟩
 ·obtain ⟨_,hd,xs,_,dd⟩:=L7 I.hok e;refine ⟨dd.typeIs,λb q=>?_,hd⟩;cases q;obtain ⟨ob,_,_,h1,h2,_⟩:=dd;exact ⟨ob,h1,h2.2.1⟩
section
variable {X:Cx}{pins:List (Addr×Obj)}{σ:St}{H:Hp}{s:Vx}{a:Addr}{y d:V}{u r:Vy}{o:Option V}{A:Around}{E:Vy->Vx->Prop}
end
section
variable {X:Cx}{o e f:Expr}{apos dv:Pos}{td ty tx:TE}
end
section
variable {X:Cx}{pins:List (Addr×Obj)}{σ:St}{H:Hp}{s:Vx}{a:Addr}{kvs:List (Key×V)}{A:Around}{E:Vy->Vx->Prop}
end
section
variable {X:Cx}{pins:List (Addr×Obj)}{σ:St}{H:Hp}{s:Vx}{a:Addr}{y:V}{u:Vy}{A:Around}{E:Vy->Vx->Prop}
end
def fQ (cells:List (Str×Addr)):List (Str×NameKind)->List (Str×Addr)->List (Str×Addr)
 | [],acc=>acc
 | (n,k)::r,acc=>fQ cells r (if (k == NameKind.free)=true then (match cells.lookup n with | some c=>(n,c)::acc | none=>acc) else acc)
theorem fY {env:Env}:∀ (names:List (Str×NameKind)) (acc:List (Str×Addr)),(∀ y∈names,y.2 = .free->∃ c,env.cells.lookup y.1=some c) ->
  (forIn (m:=Sem) names acc λ(x:Str×NameKind) r=>(match x with | (name,kind)=>if (kind == NameKind.free)=true then (do let a <-cellOf env name;pure (ForInStep.yield ((name,a)::r))) else pure (ForInStep.yield r)))=pure (fQ env.cells names acc)
 | [],acc,_=>rfl
 | (n,k)::r,acc,h=>by
  rw [List.forIn_cons];unfold fQ;by_cases hk:(k == NameKind.free)=true
  ·obtain ⟨c,e⟩:=h (n,k) P5 (by simpa using hk);simp only [hk,if_true];have e1:cellOf env n=pure c:=by unfold cellOf;rw [show env.cells.lookup n=some c from e]
   rw [e1,show env.cells.lookup n=some c from e];simp only [pure_bind];exact fY r _ λy hy=>h y (PY _ hy)
  ·have hk':(k == NameKind.free)=false:=by simpa using hk
   simp only [hk',Qu,if_false,pure_bind];exact fY r _ λy hy=>h y (PY _ hy)
theorem tE {env:Env}{scope:Scope} (h:∀ y∈scope.names,y.2 = .free->∃ c,env.cells.lookup y.1=some c):closureFor scope env=pure (fQ env.cells scope.names []):=by
 have e:=fY (env:=env) scope.names [] h;unfold closureFor;simp only [bind_pure];exact e
theorem nS {cells:List (Str×Addr)}{x:Str}{c:Addr}:∀ (names:List (Str×NameKind)) (acc:List (Str×Addr)),(∀ y d,acc.lookup y=some d->cells.lookup y=some d)->(fQ cells names acc).lookup x=some c->cells.lookup x=some c
 | [],acc,ha,h=>ha _ _ h
 | (n,k)::r,acc,ha,h=>by
  unfold fQ at h;refine nS r _ (λy d hy=>?_) h
  split at hy
  ·split at hy
   ·rename_i c' e';rw [QG] at hy;cases hb:y == n with
    | true=>rw [hb] at hy;cases hy;rw [beq_iff_eq.mp hb];exact e'
    | false=>rw [hb] at hy;exact ha _ _ hy
   ·exact ha _ _ hy
  ·exact ha _ _ hy
theorem jh {x n:Str}{c:Addr}{acc:List (Str×Addr)} (h:∃ d,acc.lookup x=some d):∃ d,((n,c)::acc).lookup x=some d:=by
 rw [QG];cases x == n with
 | true=>exact ⟨_,rfl⟩
 | false=>exact h
theorem oY {cells:List (Str×Addr)}{x:Str}:∀ (names:List (Str×NameKind)) (acc:List (Str×Addr)),((∃ d,acc.lookup x=some d)\/((x,NameKind.free)∈names/\∃ d,cells.lookup x=some d))->∃ d,(fQ cells names acc).lookup x=some d
 | [],acc,h=>by
  rcases h with h | ⟨h,_⟩
  ·exact h
  ·cases h
 | (n,k)::r,acc,h=>by
  unfold fQ;refine oY r _ ?_;rcases h with h | ⟨h,d,hd⟩
  ·refine .inl ?_
   split
   ·split
    ·exact jh h
    ·exact h
   ·exact h
  ·rcases Qi.mp h with e | h
   ·cases e;refine .inl ?_;rw [if_pos (by decide),hd];exact ⟨d,by rw [QG];simp⟩
   ·exact .inr ⟨h,d,hd⟩
theorem cX:∀ (names:List (Str×NameKind)) (n:Nat) (acc:List (Str×Addr)),cellsFrom n names acc=cellsFrom n names []++acc
 | [],n,acc=>rfl
 | (x,k)::r,n,acc=>by
  unfold cellsFrom
  split
  ·rw [cX r _ ((x,n)::acc),cX r _ [(x,n)]];simp
  ·exact cX r n acc
theorem m8 {x:Str}{c:Addr}:∀ {l l':List (Str×Addr)},(l++l').lookup x=some c->l.lookup x=some c\/l'.lookup x=some c
 | [],_,h=>.inr h
 | (n,d)::r,l',h=>by
  rw [Ru,QG] at h;rw [QG];cases hb:x == n with
  | true=>rw [hb] at h;exact .inl h
  | false=>rw [hb] at h;exact m8 h
theorem bO {x:Str}:∀ (names:List (Str×NameKind)) (n:Nat) (acc:List (Str×Addr)),((∃ d,acc.lookup x=some d)\/(x,NameKind.cell)∈names)->∃ d,(cellsFrom n names acc).lookup x=some d
 | [],n,acc,h=>by
  rcases h with h | h
  ·exact h
  ·cases h
 | (y,k)::r,n,acc,h=>
  by
  unfold cellsFrom;rcases h with h | h
  ·split
   ·exact bO r _ _ (.inl (jh h))
   ·exact bO r _ _ (.inl h)
  ·rcases Qi.mp h with e | h
   ·cases e;rw [if_pos (by decide)];exact bO r _ _ (.inl ⟨n,by rw [QG];simp⟩)
   ·split
    ·exact bO r _ _ (.inr h)
    ·exact bO r _ _ (.inr h)
def HB (scope:Scope) (C:Addr) (env:Env):Env:=
 { scope:=relabel scope env,locals:=C,globals:=env.globals,cells:=cellsFrom (C+1) scope.names (fQ env.cells scope.names []),qual:=env.qual,func:=none,code:=env.code,frame:=env.frame,builtins:=env.builtins }
theorem qD {scope:Scope}{env:Env}{x:Str}{k:NameKind} (h:(relabel scope env).names.lookup x=some k):∃ k',(x,k')∈scope.names/\(k' = k\/(k' = .free/\k = .cell/\env.kindOf x=some .cell)):=by
 have h':=P9.mp (mem_of_lookup h);obtain ⟨⟨n,q⟩,hm,e⟩:=h';dsimp only at e
 split at e
 ·rename_i hc;injection e with e1 e2;subst e1;refine ⟨q,hm,.inr ?_⟩;simp only [Qt,beq_iff_eq] at hc;exact ⟨hc.1.1,e2.symm,hc.2⟩
 ·injection e with e1 e2;subst e1;exact ⟨q,hm,.inl e2⟩
def fw (X:Cx) (scope:Scope) (N':List Str) (s:Vx) (H:Hp) (fp:List Addr):Cx where
 prog:=X.prog
 w:=X.w
 K:=X.K
 mg:=X.mg
 base:=X.base
 A:=X.A
 N:=N'
 s₀:=s
 H₀:=H
 env:=HB scope s.heap.objs.size X.env
 outer:=X.stack
 stack:=X.stack
 ex:=fp
 calm:=X.calm
 fn:=λx=>decide ((x,NameKind.cell)∈scope.names/\(x,NameKind.free)∉scope.names)
 pn:=[]
 xe:=λ_ _=>False
def sub (n:Nat) (fi:List Nat) (σ:St):St:=List.replicate n none++fi.map λk=>(σ[k]?).join
theorem sub_len (n:Nat) (fi:List Nat) (σ:St):(sub n fi σ).length=n+fi.length:=by simp [sub]
structure lD (X:Cx) (scope:Scope) (N':List Str) (n:Nat) (fi:List Nat):Prop where
 kind:scope.kind = .function
 names:∀ y∈scope.names,y.2 = .local->scope.names.lookup y.1=some .local
 free:∀ y∈scope.names,y.2 = .free->X.env.kindOf y.1=some .cell\/X.env.kindOf y.1=some .free
 len:N'.length=n+fi.length
 at':∀ (j:Nat) (k:Nat),fi[j]? = some k->∃ x,N'[n+j]? = some x/\X.N[k]? = some x/\scope.names.lookup x=some .free/\(x,NameKind.cell)∉scope.names
theorem Im {M:Model}{A:Around}{E:Vy->Vx->Prop}{s:Vx}{scope:Scope}{globals:Addr}{cl:List (Str×Addr)}{qual:Str}{env:Env}{Q:Env->Vx->Prop}
  (h:∀ h',h'.Ns s.heap.objs.size (λ_=>none)->(∀ b o,s.heap.get? b=some o->h'.get? b=some o)->CellsOk h' (s.heap.objs.size+1) (cellsFrom (s.heap.objs.size+1) scope.names []) ->
   Q { scope,locals:=s.heap.objs.size,globals,cells:=cellsFrom (s.heap.objs.size+1) scope.names cl,qual,func:=none,code:=env.code,frame:=env.frame,builtins:=env.builtins } { s with heap:=h' }) :
  wpAny M A (newFunctionEnv scope globals cl [] qual none .none (some env)) Q E s:=by
 have size:(s.heap.push { cls:=.type "dict",data:=.dict #[] }).objs.size=s.heap.objs.size+1:=Heap.size_push ..;have before:∀ b o,s.heap.get? b=some o->(s.heap.push { cls:=.type "dict",data:=.dict #[] }).get? b=some o:=λb o e=>Vu _ e;have names:=Heap.Ns.new s.heap (.type "dict");simp only [newFunctionEnv,if_true,Option.isSome_some];refine Vw (wpAny_alloc ?_);generalize s.heap.push { cls:=.type "dict",data:=.dict #[] }=h1 at size before names;have Mf:CellsOk h1 (s.heap.objs.size+1) []:=⟨(λ_ _ z=>by cases z),List.Pairwise.nil⟩;have laid:=cellsFrom_ok scope.names h1 _ [] Mf (Sg size.symm);have more:=pushCells_keeps scope.names h1;rw [size] at laid;refine Vw (wpAny_layCells _ (λ_ kind _=>?_) scope.names cl { s with heap:=h1 } _ (Vw (Vv (Vv ?_))))
 ·cases e:kind == NameKind.cell <;> simp [e]
 ·show Q { scope,locals:=s.heap.objs.size,globals,cells:=cellsFrom h1.objs.size scope.names cl,qual,func:=none,code:=env.code,frame:=env.frame,builtins:=env.builtins } _;rw [size];exact h _ (names.keeps more) (λb o e=>more b o (before b o e)) laid
section
variable {X:Cx}{pins:List (Addr×Obj)}{σ:St}{H:Hp}{s:Vx}{scope:Scope}{N':List Str}{n:Nat}{fi:List Nat}{fp:List Addr}{h':Heap}
theorem lD.Je (S:lD X scope N' n fi) (ok:X.Ok):∀ y∈scope.names,y.2 = .free->∃ c,X.env.cells.lookup y.1=some c:=λy hy hk=>ok.has _ (S.free y hy hk)
theorem jf {C:Addr}{x:Str}{c:Addr} (h:(HB scope C X.env).cells.lookup x=some c):(cellsFrom (C+1) scope.names []).lookup x=some c\/X.env.cells.lookup x=some c:=by
 have h1:(cellsFrom (C+1) scope.names (fQ X.env.cells scope.names [])).lookup x=some c:=h;rw [cX] at h1;rcases m8 h1 with z | z
 ·exact .inl z
 ·exact .inr (nS _ _ (λ_ _ q=>by cases q) z)
theorem cellsFrom_names {x:Str}{c:Addr}:∀ (names:List (Str×NameKind)) (k:Nat) (acc:List (Str×Addr)),(x,c)∈cellsFrom k names acc->(x,NameKind.cell)∈names\/(x,c)∈acc
 | [],_,_,h=>.inr h
 | (y,q)::r,k,acc,h=>by
  unfold cellsFrom at h
  split at h
  ·rename_i hq;have hq':q = .cell:=by simpa using hq
   subst hq';rcases cellsFrom_names r _ _ h with z | z
   ·exact .inl (PY _ z)
   ·rcases Qi.mp z with e | z
    ·cases e;exact .inl P5
    ·exact .inr z
  ·rcases cellsFrom_names r _ _ h with z | z
   ·exact .inl (PY _ z)
   ·exact .inr z
theorem CW (I:Inv X pins σ H s) (S:lD X scope N' n fi) (hf:∀ b∈fp,cE X pins H b) (ho:∀ b∈fp,∃ o,s.heap.get? b=some o)
  (hns:h'.Ns s.heap.objs.size (λ_=>none)) (hk:∀ b o,s.heap.get? b=some o->h'.get? b=some o) (hc:CellsOk h' (s.heap.objs.size+1) (cellsFrom (s.heap.objs.size+1) scope.names [])) :
  Inv (fw X scope N' s H fp) [] (sub n fi σ) H { s with heap:=h' }:=by
 have ltC:∀ {b:Addr}{o:Obj},s.heap.get? b=some o->b<s.heap.objs.size:=λe=>Heap.lt_size e;have Bu:∀ {x:Str}{c:Addr},X.env.cells.lookup x=some c->c<s.heap.objs.size:=λ{x c} e=>by
  obtain ⟨v,q⟩:=I.cell x c e;exact q.lt
 have mm:∀ {x:Str}{c:Addr},(cellsFrom (s.heap.objs.size+1) scope.names []).lookup x=some c->h'.IsCell c none/\s.heap.objs.size+1<=c:=λ{x c} e=>hc.empty x c (PySem.mem_of_lookup e);refine ⟨⟨I.ok.mod,S.kind,I.ok.glob,I.ok.blt,PR _,λx y c h1 h2=>?_,λx hx=>?_,λx c hx h=>?_,I.ok.hd,I.ok.frames,.inl rfl,λb hb=>?_,λb o e=>?_,?_,λb o e hb=>?_,λb hb hz=>?_,I.stack,I.Cd⟩,
  rfl,I.bare,Un.kept hk,⟨_,hns,λi x v h1 h2 h3=>?_⟩,λx c h=>?_,I.hok.fresh (PR _),λx c h=>?_,λp hp=>absurd (show p∈([]:List (Addr×Obj)) from hp) (by simp),I.hok.kept hk,?_⟩
 ·rcases jf h1 with z1 | z1 <;> rcases jf h2 with z2 | z2
  ·exact name_of_addr hc.apart (PySem.mem_of_lookup z1) (PySem.mem_of_lookup z2)
  ·exact absurd (Ro (Bu z2) (mm z1).2) (QF _)
  ·exact absurd (Ro (Bu z1) (mm z2).2) (QF _)
  ·exact I.ok.inj x y c z1 z2
 ·have hx:(relabel scope X.env).names.lookup x=some .cell\/(relabel scope X.env).names.lookup x=some .free:=hx;have go:∀ k,(relabel scope X.env).names.lookup x=some k->(k = .cell\/k = .free)->∃ c,(cellsFrom (s.heap.objs.size+1) scope.names (fQ X.env.cells scope.names [])).lookup x=some c:=λk e hk=>by
   obtain ⟨k',hm,hkk⟩:=qD e;have:k' = .cell\/k' = .free:=by
    rcases hkk with z | z
    ·rw [z];exact hk
    ·exact .inr z.1
   rcases this with z | z
   ·exact bO _ _ _ (.inr (z ▸ hm))
   ·exact bO _ _ _ (.inl (oY _ _ (.inr ⟨z ▸ hm,S.Je I.ok (x,k') hm z⟩)))
  rcases hx with z | z
  ·exact go _ z (.inl rfl)
  ·exact go _ z (.inr rfl)
 ·have hx':(x,NameKind.cell)∈scope.names/\(x,NameKind.free)∉scope.names:=of_decide_eq_true hx;have h1:(cellsFrom (s.heap.objs.size+1) scope.names (fQ X.env.cells scope.names [])).lookup x=some c:=h;rw [cX] at h1;obtain ⟨d,hd⟩:=bO (x:=x) scope.names (s.heap.objs.size+1) [] (.inr hx'.1);have e2:(cellsFrom (s.heap.objs.size+1) scope.names []++fQ X.env.cells scope.names []).lookup x=some d:=by
   have lk:∀ (l l':List (Str×Addr)),l.lookup x=some d->(l++l').lookup x=some d:=by
    intro l
    induction l with
    | nil=>intro l' q;cases q
    | cons p r ih=>
     obtain ⟨n,q⟩:=p;intro l' e;rw [Ru,QG];rw [QG] at e;cases hb:x == n with
     | true=>rw [hb] at e;exact e
     | false=>rw [hb] at e;exact ih l' e
   exact lk _ _ hd
  rw [h1] at e2;cases e2;exact Rq (mm hd).2
 ·refine ⟨?_,λx c e z=>?_⟩
  ·obtain ⟨o,e⟩:=ho b hb;exact Qj (ltC e)
  ·obtain ⟨o,eo⟩:=ho b hb;rcases jf e with q | q
   ·have h1:=(mm q).2;have h2:=ltC eo;rw [z] at h1;exact QF _ (Ro h2 h1)
   ·exact (hf b hb).2.2.2.2.1 x c q z
 ·exact I.bs b o e
 ·exact P2 I.ok.bsz I.sz
 ·rcases (hf b hb).2.2.2.1 with z | z
  ·exact I.ok.E3 b o e z
  ·exact absurd (Qm (Heap.lt_size (I.ok.bs b o e).1) z) (QF _)
 ·rcases Qi.mp (I.Av b hz) with z | z
  ·exact (hf b hb).2.1 z
  ·exact (hf b hb).2.2.1 z
 ·have hi:n<=i:=by
   by_cases hi:n<=i
   ·exact hi
   ·unfold sub at h2;rw [Qv (by simp;lia),Sd] at h2
    split at h2 <;> cases h2
  have h2':(fi.map λk=>(σ[k]?).join)[i - n]? = some (some v):=by
   unfold sub at h2;rw [QB (by simpa using hi)] at h2;simpa using h2
  rw [P7] at h2';cases ek:fi[i - n]? with
  | none=>rw [ek] at h2';cases h2'
  | some k=>
   rw [ek] at h2';have wF:(σ[k]?).join=some v:=Option.some.inj h2';have hσ:σ[k]? = some (some v):=by
    cases q:σ[k]? with
    | none=>rw [q] at wF;cases wF
    | some w'=>rw [q] at wF;exact congrArg some wF
   obtain ⟨x',e1,e2,e3,e4⟩:=S.at' (i - n) k ek;have e1':N'[i]? = some x':=by rw [<-e1];congr 1;lia
   have h1':N'[i]? = some x:=h1;rw [e1'] at h1';cases h1';have hm:(x,NameKind.free)∈scope.names:=by
    generalize scope.names=l at e3
    induction l with
    | nil=>cases e3
    | cons p r ih=>
     obtain ⟨n',q⟩:=p;rw [QG] at e3;cases hb:x == n' with
     | true=>rw [hb] at e3;cases e3;rw [beq_iff_eq.mp hb];exact P5
     | false=>rw [hb] at e3;exact PY _ (ih e3)
   have kx:=S.free _ hm rfl;have vis:Vis X.env.scope x:=kx.elim (λz=>.inr (.inl z)) λz=>.inr (.inr z);obtain ⟨m0,hn0,hl0⟩:=I.loc;obtain ⟨u,ru,lk⟩:=hl0 k x v e2 hσ vis;refine ⟨u,ru,.inr ⟨?_,?_⟩⟩
   ·have h3:Vis (relabel scope X.env) x:=h3;rcases h3 with z | z | z
    ·obtain ⟨k',hm',hk'⟩:=qD z;rcases hk' with q | q
     ·exfalso;have:=S.names (x,k') hm' (by rw [q]);rw [show scope.names.lookup x=some .free from e3] at this;cases this
     ·cases q.2.1
    ·exact .inl z
    ·exact .inr z
   ·rcases lk with ⟨kl,_⟩ | ⟨_,c,ec,va⟩
    ·rcases kx with z | z <;> (rw [show X.env.kindOf x=_ from kl] at z;cases z)
    ·refine ⟨c,?_,va.keeps hk⟩;show (cellsFrom (s.heap.objs.size+1) scope.names (fQ X.env.cells scope.names [])).lookup x=some c;obtain ⟨d,hd⟩:=bO (x:=x) scope.names (s.heap.objs.size+1) (fQ X.env.cells scope.names []) (.inl (oY _ _ (.inr ⟨hm,c,ec⟩)));rw [hd];have hd':=hd;rw [cX] at hd';rcases m8 hd' with z | z
     ·rcases cellsFrom_names _ _ _ (PySem.mem_of_lookup z) with q | q
      ·exact absurd q e4
      ·cases q
     ·have:=nS _ _ (λ_ _ q=>by cases q) z;rw [ec] at this;exact this.symm
 ·rcases jf h with z | z
  ·exact ⟨none,(mm z).1⟩
  ·obtain ⟨v,q⟩:=I.cell x c z;exact ⟨v,q.keeps hk⟩
 ·rcases jf h with z | z
  ·exact I.hok.fresh (Rq (mm z).2)
  ·exact I.j9 x c z
 ·show (sub n fi σ).length=N'.length;rw [sub_len,S.len]
end
def CQ (X:Cx) (ifs:List Expr) (t:TT):Prop:=
 ∀ (pins:List (Addr×Obj)) (s:Vx) (σ:St) (H:Hp) (Q:Bool->Hp->Prop),Inv X pins σ H s->t σ H Q ->
  wpAny (model X.prog X.w) X.A (forIn ifs true λc r=>if r=true then do let ok <-isTrue c X.env (eval c X.env);pure (ForInStep.yield ok) else pure (ForInStep.yield r)) (TP X pins σ Q) X.xe s
def KH:TT:=λ_ H Q=>Q true H
theorem a9 {X:Cx}:CQ X [] KH:=λ_ _ _ H _ I h=>wpAny_tests_nil ⟨H,I,h⟩
theorem k7 {X:Cx}{c:Expr}{t:TT} (h:PT X c t):CQ X [c] t:=λpins s σ H Q I q=>wpAny_tests_one (h pins s σ H Q I q)
def qI (g:TG) (tt:TT) (te:TE) (J:It) (D:Addr) (Q:VK) (σ:St) (H:Hp):Prop:=
 ∃ W:Nat->Nat->St->Hp->Prop,(∃ m,W 0 m σ H)/\∀ i m σ H,W i m σ H ->
  (J.stop i H/\Q (.ref D) H)\/(J.go i H/\∃ N:St->Hp->Prop,(∀ σ' H',N σ' H'->∃ m',m' < m/\W (i+1) m' σ' H') /\
   ∀ x H',J.yld i H x H'->g x σ H' λσ2 H2=>tt σ2 H2 λb H3=>if b=true then te σ2 H3 λv H4=>∃ xs,H4 D=some (.lst xs)/\xs.length<sizeLine/\N σ2 (upd H4 D (.lst (xs++[v]))) else N σ2 H3)
def zx (wi:TI) (g:TG) (tt:TT) (te:TE) (n:Nat) (fi:List Nat):TE:=λσ H Q=>
 wi σ H λJ H1=>∀ D,H1 D=none->qI g tt te J D Q (sub n fi σ) (upd H1 D (.lst []))
section
variable {X:Cx}{elt tg iter:Expr}{ifs:List Expr}{scope:Scope}{pos:Pos}
theorem C2 {Y:Cx}{g:TG}{tt:TT}{te:TE}{J:It}{D it:Addr}{fp:List Addr}{tn:Nat->Heap->Prop}{Qr:VK}{σ:St}{H:Hp}{s:Vx} (hc:Y.calm=true) (hxe:∀ e s,¬ Y.xe e s)
  (hg:PG Y tg g) (hi:CQ Y ifs tt) (he:PE Y elt te) (T:Turn Y.prog Y.w Y.K tg J fp it tn) (I:Inv Y [] σ H s) (st:tn 0 s.heap) (hf:∀ b∈fp,cE Y [] H b) (hw:qI g tt te J D Qr σ H) :
  codeAny (model Y.prog Y.w) Y.A (.compLoop (.ListComp elt [⟨tg,iter,ifs,0⟩] scope pos) 0 (.ref it) (.ref D) Y.env) (λr s'=>r = .ok .next/\∃ σ' H',Inv Y [] σ' H' s'/\Qr (.ref D) H') s:=by
 obtain ⟨W,⟨m0,w0⟩,turn⟩:=hw;have AF:∀ {H':Hp},(∀ b∈fp,H' b=none)->∀ b∈fp,cE Y [] H' b:=λhn b hb=>⟨hn b hb,(hf b hb).2⟩;refine codeAny_loop rfl (λn s'=>∃ i σ' H',Inv Y [] σ' H' s'/\tn i s'.heap/\(∀ b∈fp,H' b=none)/\W i n σ' H') ?_ m0 ⟨0,σ,H,I,st,λb hb=>(hf b hb).1,w0⟩;rintro n s3 ⟨i,σ3,H3,I3,st3,fr3,w3⟩;show wpAny _ Y.A ((compTurn (.ListComp elt [⟨tg,iter,ifs,0⟩] scope pos) 0 (.ref it) (.ref D) Y.env).onRaise (λx=>do noteFrame x Y.env;theTreesLotGoes x)) _ _ s3;refine wpAny_noted ?_;rw [compTurn_list]
 (refine Vw (wpAny_standAt (Vw ?_)))
 rcases turn i n σ3 H3 w3 with ⟨stop,qn⟩ | ⟨go,N,hN,step⟩
 ·refine thn (T.done Y rfl rfl rfl hc i [] s3 σ3 H3 _ I3 (AF fr3) st3 stop) λr s4 ⟨hr,I4⟩=>?_;subst hr;exact Vv ⟨rfl,σ3,H3,I4,qn⟩
 ·refine thn (T.item Y rfl rfl rfl hc i [] s3 σ3 H3 _ I3 (AF fr3) st3 go) λr s4 ⟨u,hr,h4⟩=>?_;subst hr;refine Vw (thn h4 λ_ s5 ⟨x,H5,I5,r5,y5,st5,fr5⟩=>?_);have I5':=I5.pinned (AF fr5) (T.obj _ _ st5);have Gd:∀ {σ7:St}{H7:Hp}{s7:Vx},Inv Y ([]++sZ fp s5.heap) σ7 H7 s7->N σ7 H7->∃ m,m<n/\∃ i σ' H',Inv Y [] σ' H' s7/\tn i s7.heap/\(∀ b∈fp,H' b=none)/\W i m σ' H':=λ{σ7 H7 s7} I7 n7=>by
   obtain ⟨m',hm,w7⟩:=hN σ7 H7 n7;refine ⟨m',hm,i+1,σ7,H7,I7.gO,T.keep _ _ _ st5 λb hb o e=>(I7.pin (b,o) (Qo _ (Qo _ (jA hb e)))).1,λb hb=>?_,w7⟩;obtain ⟨o,e,d⟩:=T.obj _ _ st5 b hb;exact (I7.pin (b,o) (Qo _ (Qo _ (jA hb e)))).2.1
  refine Vw (Vt (hg _ s5 σ3 H5 x u _ I5' r5 (step x H5 y5)) (λ_ s6 ⟨σ6,H6,I6,q6⟩=>?_) λe s' z=>(hxe e s' z).elim);refine Vw (Vt (hi _ s6 σ6 H6 _ I6 q6) (λok s7 ⟨H7,I7,q7⟩=>?_) λe s' z=>(hxe e s' z).elim);cases ok with
  | false=>
   exact Vv ⟨rfl,Gd I7 q7⟩
  | true=>
   refine Vw (Vw (Vt (he _ s7 σ6 H7 _ I7 q7) (λu8 s8 ⟨v8,H8,I8,r8,xs,e8,z8,n8⟩=>?_) λe s' z=>(hxe e s' z).elim));refine Vw (Vt (cm (X:=Y) _ s8 σ6 H8 (.ref D) [v8] (.ref D) [u8] (λ_ H9=>N σ6 H9) I8 rfl (.cons r8 .nil) ⟨D,xs,v8,rfl,rfl,e8,z8,n8⟩) (λu9 s9 h9=>?_) λe s' z=>(hxe e s' z).elim);obtain ⟨v9,H9,I9,_,n9⟩:=h9;exact Vv (Vv ⟨rfl,Gd I9 n9⟩)
theorem Inv.letGo {pins:List (Addr×Obj)}{σ:St}{H:Hp}{s:Vx}{C:Addr}{h':Heap} (I:Inv X pins σ H s) (hs:Heap.SameBut C s.heap h') (hn:H C=none) (hC:X.s₀.heap.objs.size<=C) (hL:C≠X.env.locals)
  (h2:∀ x c,X.env.cells.lookup x=some c->c≠C) (h3:∀ p∈X.pn++pins,p.1≠C):Inv X pins σ H { s with heap:=h' }:=
 I.turned (t':=s.toks) (λb o hb e=>hs.extBut b o hb e) hn hL (.inr hC) h2 h3
theorem vp {N':List Str}{n:Nat}{fi:List Nat}{wi:TI}{g:TG}{tt:TT}{te:TE}{use:Option (Vy->Sem Unit)}{Q:Vy->Vx->Prop}{Qr:VK}{Nx:Pos}{pins:List (Addr×Obj)}{σ:St}{H:Hp}{s:Vx}
  (zf:X.calm=true) (S:lD X scope N' n fi) (hit:∀ R,wi σ H R->wpAny (model X.prog X.w) X.A (eval iter X.env) (λv s1=>wpAny (model X.prog X.w) X.A (pyIter v) (PIE X pins σ tg R) X.xe s1) X.xe s)
  (hg:∀ s H fp,PG (fw X scope N' s H fp) tg g) (hi:∀ s H fp,CQ (fw X scope N' s H fp) ifs tt) (he:∀ s H fp,PE (fw X scope N' s H fp) elt te)
  (I:Inv X pins σ H s) (hw:zx wi g tt te n fi σ H Qr) (hs:∀ x,foldedSetIterable iter X.env x=pure x)
  (post:∀ (D C:Addr) (s':Vx) (H':Hp) (m:Str->Option Vy),Inv X pins σ H' s'->s'.heap.Ns C m->H' C=none->X.s₀.heap.objs.size<=C->C≠X.env.locals->(∀ x c,X.env.cells.lookup x=some c->c≠C)->(∀ p∈X.pn++pins,p.1≠C)->Qr (.ref D) H' ->
   compPost (model X.prog X.w) X.A X.xe use Q (.ref D) C (.ok .next) s') :
  wpAny (model X.prog X.w) X.A (comprehension (.ListComp elt [⟨tg,iter,ifs,0⟩] scope pos) scope X.env Nx (newList []) false (eval iter X.env) use) Q X.xe s:=by
 refine wpAny_comprehension_free (use:=use) (g:=⟨tg,iter,ifs,0⟩) (gs:=[]) rfl hs (tE (S.Je I.ok)) S.kind S.names ?_;refine thn (hit _ hw) λv s1 h1=>thn h1 λitv s2 h2=>?_;obtain ⟨it,fp,tn,J,H2,e,I2,T,st2,f2,hw2⟩:=h2;subst e;refine wpAny_newList ?_ (Qb _);have hD:H2 s2.heap.objs.size=none:=I2.hok.fresh (PR _);have I3:Inv X pins σ (upd H2 s2.heap.objs.size (.lst [])) { s2 with heap:=s2.heap.push { cls:=.type "list",data:=.seq ([]:List Vy).toArray } }:=
  I2.laid (t':=s2.toks) (λb u e=>Vu _ e) (PR _) ⟨Qb _,[],0,.nil,Heap.get?_push_size _ rfl⟩
 have hw3:=hw2 _ hD;have u23:Un (frs X.stack) fp H2 (upd H2 s2.heap.objs.size (.lst [])) s2.heap (s2.heap.push { cls:=.type "list",data:=.seq ([]:List Vy).toArray }):=
  Un.laid (λb u e=>Vu _ e) (PR _) hD
 generalize hs3:({ s2 with heap:=s2.heap.push { cls:=.type "list",data:=.seq ([]:List Vy).toArray } }:Vx)=s3 at I3 ⊢;have hh3:s3.heap=s2.heap.push { cls:=.type "list",data:=.seq ([]:List Vy).toArray }:=by rw [<-hs3]
 have ho3:s3.os=s2.os:=by rw [<-hs3]
 have hz3:s3.heap.objs.size=s2.heap.objs.size+1:=by rw [hh3,Heap.size_push]
 rw [<-hh3] at u23;have hH3:∀ b,b≠s2.heap.objs.size->upd H2 s2.heap.objs.size (.lst []) b=H2 b:=λb hb=>au hb;generalize upd H2 s2.heap.objs.size (.lst [])=H3 at *;have IT:∀ b∈fp,∃ o,s2.heap.get? b=some o:=λb hb=>let ⟨o,e,_⟩:=T.obj _ _ st2 b hb;⟨o,e⟩;have k23:∀ b u,s2.heap.get? b=some u->s3.heap.get? b=some u:=λb u e=>by rw [hh3];exact Vu _ e
 have MC:∀ b∈fp,cE X pins H3 b:=λb hb=>by
  obtain ⟨o,e⟩:=IT b hb;exact ⟨(hH3 b (Qj (Heap.lt_size e))).trans (f2 b hb).1,(f2 b hb).2⟩
 refine Im λh4 hns hk hc=>?_;show codeAny _ _ (.compStart _ 0 _ _ (HB scope s3.heap.objs.size X.env)) _ _;have I4:=CW I3 S MC (λb hb=>let ⟨o,e⟩:=IT b hb;⟨o,k23 b o e⟩) hns hk hc;have hfY:∀ b∈fp,cE (fw X scope N' s3 H3 fp) [] H3 b:=λb hb=>⟨(MC b hb).1,(I4.ok.exf b hb).1,I4.ok.DM b hb,.inl hb,(I4.ok.exf b hb).2,λp hp=>absurd (show p∈([]:List (Addr×Obj)) from hp) (by simp)⟩;have st4:tn 0 h4:=T.keep _ _ _ st2 λb hb o e=>hk b o (k23 b o e);have loop:=C2 (Y:=fw X scope N' s3 H3 fp) (elt:=elt) (tg:=tg) (iter:=iter) (ifs:=ifs) (scope:=scope) (pos:=pos) zf (λ_ _ z=>z) (hg s3 H3 fp) (hi s3 H3 fp) (he s3 H3 fp) T I4 st4 hfY hw3;have fin:codeAny (model X.prog X.w) X.A (.compLoop (.ListComp elt [⟨tg,iter,ifs,0⟩] scope pos) 0 (.ref it) (.ref s2.heap.objs.size) (HB scope s3.heap.objs.size X.env)) (compPost (model X.prog X.w) X.A X.xe use Q (.ref s2.heap.objs.size) s3.heap.objs.size) { s3 with heap:=h4 }:=by
  refine codeAny_mono loop λr s' ⟨hr,σ',H',J5,q5⟩=>?_;subst hr;have u5:Un (frs X.stack) fp H3 H' s3.heap s'.heap:=J5.base;have I5:Inv X pins σ H' s':=I2.K8 (ch:=fp) (J5.os.trans ho3) (u23.trans u5) J5.hok J5.bare λb hb=>⟨(f2 b hb).2.2.2.1,(f2 b hb).2.1,(f2 b hb).2.2.2.2.1,(f2 b hb).2.2.2.2.2⟩;obtain ⟨m,hm,_⟩:=J5.loc;refine post _ _ s' H' m I5 hm J5.free I3.sz (RQ I3.lt) (λx c e=>?_) (λp hp=>?_) q5
  ·obtain ⟨v,q⟩:=I3.cell x c e;exact Qj q.lt
  ·exact Qj (Heap.lt_size (I3.pin p hp).1)
 exact codeAny_compStart_list fin (T.self _ 0 _ _ _ st4 fin)
theorem bw {N':List Str}{n:Nat}{fi:List Nat}{wi:TI}{g:TG}{tt:TT}{te:TE} (zf:X.calm=true) (S:lD X scope N' n fi) (hit:PI X tg iter wi)
  (hg:∀ s H fp,PG (fw X scope N' s H fp) tg g) (hi:∀ s H fp,CQ (fw X scope N' s H fp) ifs tt) (he:∀ s H fp,PE (fw X scope N' s H fp) elt te)
  (hs:∀ x,foldedSetIterable iter X.env x=pure x:=by intro _;rfl):PE X (.ListComp elt [⟨tg,iter,ifs,0⟩] scope pos) (zx wi g tt te n fi):=by
 intro pins s σ H Q I h;rw [eval_ListComp];refine vp (use:=none) zf S (λR z=>hit pins s σ H R I z) hg hi he I h hs λD C s' H' m I' hm hn hC hL h2 h3 q=>⟨m,hm,λh' hs'=>?_⟩;exact ⟨.ref D,H',I'.letGo hs' hn hC hL h2 h3,rfl,q⟩
theorem oV {N':List Str}{n i:Nat}{fi:List Nat}{wi:TI}{g:TG}{tt:TT}{te:TE}{x:Str}{pos' Lp:Pos} (hN:X.N.Nodup) (hxi:X.N[i]? = some x) (hx:Loc X.env.scope x) (zf:X.calm=true) (S:lD X scope N' n fi) (hit:PI X tg iter wi)
  (hg:∀ s H fp,PG (fw X scope N' s H fp) tg g) (hi:∀ s H fp,CQ (fw X scope N' s H fp) ifs tt) (he:∀ s H fp,PE (fw X scope N' s H fp) elt te)
  (hsw:swapsWith (.ListComp elt [⟨tg,iter,ifs,0⟩] scope pos) (some (.Name x pos')) Lp.line X.env=pure true:=by rfl)
  (hs:∀ x,foldedSetIterable iter X.env x=pure x:=by intro _;rfl) (hf:X.fn x=true\/X.env.scope.names.lookup x=some .local:=by first | exact .inl rfl | exact .inr rfl | assumption) :
  PS X (.Assign [.Name x pos'] (.ListComp elt [⟨tg,iter,ifs,0⟩] scope pos) Lp) (Jl (zx wi g tt te n fi) (br i)):=by
 intro pins s σ H D I h
 (rw [exec_Assign_Name_used _ _ _ _ hsw])
 (refine Vw (wpAny_standAt (Vw ?_)))
 show wpAny _ X.A (do let _ <-comprehension (.ListComp elt [⟨tg,iter,ifs,0⟩] scope pos) scope X.env _ (newList []) false (eval iter X.env) (some (assign (.Name x pos') X.env))) _ _ s;refine Vw (thn (vp (use:=some (assign (.Name x pos') X.env)) (Q:=λ_ s'=>SP X pins D .next s') zf S (λR z=>hit pins s σ H R I z) hg hi he I h hs λDa C s' H' m I' hm hn hC hL h2 h3 q=>?_) λ_ s' q=>Vv (Vv q));show wpAny _ _ (assign (.Name x pos') X.env (.ref Da)) _ _ s';refine wpAny_assign_Name (vb (v:=.ref Da) I' hN hxi hx rfl (λs2 I2 ⟨a,hsb,ha⟩=>?_) hf);have hCa:C≠a:=by
  rcases ha with z | z
  ·rw [z];exact hL
  ·exact (h2 x a z).symm
 exact ⟨m,hm.sameBut hsb hCa,λh' hs'=>⟨_,H',I2.letGo hs' hn hC hL h2 h3,q⟩⟩
end
section
variable {X:Cx}
theorem Inv.eD {pins:List (Addr×Obj)}{σ:St}{H:Hp}{s:Vx}{h':Heap}{t':Nat}{wr:List Addr} (I:Inv X pins σ H s) (hf:∀ b∈wr,cE X pins H b) (k:∀ b o,b∉wr->s.heap.get? b=some o->h'.get? b=some o) :
  Inv X pins σ H { s with heap:=h',toks:=t' }:=by
 have nit:∀ b u,H b=some u->b∉wr:=λb u e z=>by rw [(hf b z).1] at e;cases e
 refine I.step (g':=s.gens) (d':=s.drawn) (ch:=wr) (λb hb=>⟨(hf b hb).2.2.2.1,(hf b hb).2.1,(hf b hb).2.2.2.2.1,(hf b hb).2.2.2.2.2⟩) (λb o _ _ hc e _=>k b o hc e) (λb o _ _ hc e _=>⟨o.slots,k b o hc e⟩) (λ_ _ _ _ n=>n)
  (λb o hc e=>⟨o,k b o hc e⟩) (λ_ _ e=>e) (λ_ _ _ e=>e) (λb ps e=>⟨#[],by rw [e];simp⟩) (λm hm=>?_) (λb u e=>?_) I.bare
 ·obtain ⟨o,es,ep,ho,r⟩:=hm;exact ⟨o,es,ep,k _ o (λz=>(hf _ z).2.1 rfl) ho,r⟩
 ·refine (I.hok b u e).xo (λc v hc q=>k c v ?_ q) (λ_ q=>q) λ_ _ q=>q;rcases hc with z | z
  ·rw [z];exact nit b u e
  ·exact nit c _ z
theorem Inv.CG {pins:List (Addr×Obj)}{σ:St}{H:Hp}{s:Vx}{h':Heap}{t':Nat}{wr:List Addr}{a:Addr}{o:HO} (I:Inv X pins σ H s) (hf:∀ b∈wr,cE X pins H b) (k:∀ b o,b∉wr->s.heap.get? b=some o->h'.get? b=some o)
  (ha:s.heap.objs.size<=a) (new:bU X.prog X.w (upd H a o) h' a o):Inv X pins σ (upd H a o) { s with heap:=h',toks:=t' }:=by
 have nit:∀ b u,H b=some u->b∉wr:=λb u e z=>by rw [(hf b z).1] at e;cases e
 have hfr:H a=none:=I.hok.fresh ha;refine I.step (g':=s.gens) (d':=s.drawn) (ch:=wr) (λb hb=>⟨(hf b hb).2.2.2.1,(hf b hb).2.1,(hf b hb).2.2.2.2.1,(hf b hb).2.2.2.2.2⟩) (λb o _ _ hc e _=>k b o hc e) (λb o _ _ hc e _=>⟨o.slots,k b o hc e⟩)
  (λb ob _ e n=>by rw [au (Qj (Qm (Heap.lt_size e) ha))];exact n)
  (λb o hc e=>⟨o,k b o hc e⟩) (λb xs e=>by rw [au (aw e hfr)];exact e) (λb ob u e=>by rw [au (aw e hfr)];exact e) (λb ps e=>⟨#[],by rw [au (aw e hfr),e];simp⟩) (λm hm=>?_) (λb u e=>?_) I.bare
 ·obtain ⟨o,es,ep,ho,r⟩:=hm;exact ⟨o,es,ep,k _ o (λz=>(hf _ z).2.1 rfl) ho,r⟩
 ·by_cases hb:b=a
  ·subst hb;rw [ab] at e;cases e;exact new
  ·rw [au hb] at e;refine (I.hok b u e).xo (λc v hc q=>k c v ?_ q) (λc q=>by rw [au (aw q hfr)];exact q) λc xs q=>by rw [au (aw q hfr)];exact q
   rcases hc with z | z
   ·rw [z];exact nit b u e
   ·exact nit c _ z
def Its (z:Str):It:=⟨λi _=>i<z.length,λi H x H'=>H' = H/\∃ c,z.cps[i]? = some c/\x = .str ⟨#[c]⟩,λi _=>z.length<=i⟩
theorem yw {P:Program}{w:World}{K:Vz}{tg:Expr}{ty:String} (it:Addr) (z:Str) (t:Tok)
  (hW:∀ A:Around,A.handled=none->Walks P w A it [it] [it] z.cps.size (SignAt z) (λi h=>h.IsStrIter it ty z t i))
  (hty:["enumerate","zip","dict_itemiterator","dict_reverseitemiterator","odict_iterator","itertools.zip_longest","itertools.pairwise"].contains ty=false)
  (LH:∀ (A:Around) (i:Nat) (s:Vx) (Q:Vy->Vx->Prop) (E:Vy->Vx->Prop),s.heap.IsStrIter it ty z t i->Q (.ref it) s->wpAny (model P w) A (pyIter (.ref it)) Q E s) :
  Turn P w K tg (Its z) [it] it (λi h=>i<=z.length/\h.IsStrIter it ty z t i) where
 mem:=by simp
 obj:=λi h st b hb=>by
  have e:b=it:=by simpa using hb
  subst e;obtain ⟨_,o,e,c,d⟩:=st;exact ⟨o,e,λv z=>by rw [d] at z;cases z⟩
 keep:=λi h h' st k=>by
  obtain ⟨hi,o,e,c,d⟩:=st;exact ⟨hi,o,k it (by simp) o e,c,d⟩
 item:=by
  intro X hP hw hK hc i pins s σ H E I hf st hg;subst hP hw hK;refine (hW X.A (I.ok.hd hc)).item i s _ _ hg st.2 λv h' tk hv st' kk=>?_;obtain ⟨c,u,ec,rfl⟩:=hv;have I1:Inv X pins σ H { s with heap:=h',toks:=tk }:=I.eD hf kk;obtain ⟨o,e,cl,d⟩:=id st';exact ⟨_,rfl,Fh (s:={ s with heap:=h',toks:=tk }) e cl d hty ⟨.str ⟨#[c]⟩,H,I1,⟨u,rfl⟩,⟨rfl,c,ec,rfl⟩,⟨hg,st'⟩,λb hb=>(hf b hb).1⟩⟩
 done:=by
  intro X hP hw hK hc i pins s σ H E I hf st hg;subst hP hw hK;have e:i=z.cps.size:=Nat.le_antisymm st.1 hg;subst e;exact (hW X.A (I.ok.hd hc)).done s _ _ st.2 λh' tk kk=>⟨rfl,I.eD hf kk⟩
 self:=λA i s Q E st h=>LH A i s Q E st.2 h
def Kl (tl:TE):TI:=λσ H R=>tl σ H λx H1=>∃ z,x = .str z/\R (Its z) H1
theorem Eb {tg:Expr}{z:Str}{t:Tok}{pins:List (Addr×Obj)}{s:Vx}{σ:St}{H:Hp}{R:It->Hp->Prop} (I:Inv X pins σ H s) (q:R (Its z) H):wpAny (model X.prog X.w) X.A (pyIter (.str z t)) (PIE X pins σ tg R) X.xe s:=by
 have fp:∀ b∈[s.heap.objs.size],cE X pins H b:=λb hb=>by
  have e:b=s.heap.objs.size:=by simpa using hb
  subst e;exact I.xi (PR _) (I.hok.fresh (PR _))
 cases ha:z.cps.all (· < 128) with
 | false=>
  refine wpAny_pyIter_wide ha ?_;exact ⟨s.heap.objs.size,[s.heap.objs.size],_,_,H,rfl,I.kept (t':=s.toks) λb o e=>Vu _ e,yw (ty:= "str_iterator") _ z t (λA hA=>Walks.strWide hA _ z t) (by decide) (λA i s Q E st h=>wpAny_pyIter_striter_wide st h),
   ⟨Qb _,_,Heap.get?_push_size _ rfl,rfl,rfl⟩,fp,q⟩
 | true=>
  refine wpAny_pyIter_ascii ha ?_;exact ⟨s.heap.objs.size,[s.heap.objs.size],_,_,H,rfl,I.kept (t':=s.toks) λb o e=>Vu _ e,yw (ty:= "str_ascii_iterator") _ z t (λA hA=>Walks.strAscii hA _ z t) (by decide) (λA i s Q E st h=>wpAny_pyIter_striter_ascii st h),
   ⟨Qb _,_,Heap.get?_push_size _ rfl,rfl,rfl⟩,fp,q⟩
theorem Et {tg l:Expr}{tl:TE} (hl:PE X l tl):PI X tg l (Kl tl):=by
 intro pins s σ H R I h;refine thn (hl pins s σ H _ I h) λv s1 ⟨x,H1,I1,r1,z,e,q⟩=>?_;subst e;obtain ⟨t,rfl⟩:=r1;exact Eb I1 q
end
mutual
inductive Den (K:Vz) (H:Hp):V->PyData->Prop
 | non:Den K H .non .none
 | bl (b:Bool):Den K H (.bl b) (.bool b)
 | int (i:Int):Den K H (.int i) (.int i)
 | str {x:Str} (h:PyData.strOk x=true):Den K H (.str x) (.str x)
 | lst {a:Addr}{xs:List V}{ds:List PyData} (h:SqL K H a xs) (t:aA K H xs ds):Den K H (.ref a) (.list ds)
 | tup {a:Addr}{xs:List V}{ds:List PyData} (h:SqT K H a xs) (t:aA K H xs ds):Den K H (.ref a) (.tuple ds)
inductive aA (K:Vz) (H:Hp):List V->List PyData->Prop
 | nil:aA K H [] []
 | cons {x:V}{xs:List V}{d:PyData}{ds:List PyData} (h:Den K H x d) (t:aA K H xs ds):aA K H (x::xs) (d::ds)
end
section
variable {K:Vz}{H H':Hp}
theorem aA.length:∀ {xs:List V}{ds:List PyData},aA K H xs ds->xs.length=ds.length
 | _,_,.nil=>rfl
 | _,_,.cons _ t=>by rw [Qh,Qh,t.length]
theorem aA.append:∀ {xs ys:List V}{ds es:List PyData},aA K H xs ds->aA K H ys es->aA K H (xs++ys) (ds++es)
 | _,_,_,_,.nil,s=>s
 | _,_,_,_,.cons r t,s=>.cons r (t.append s)
theorem aA.get:∀ {xs:List V}{ds:List PyData}{i:Nat}{x:V},aA K H xs ds->xs[i]? = some x->∃ d,ds[i]? = some d/\Den K H x d
 | _,_,_,_,.nil,e=>by simp at e
 | _,_,0,_,.cons r _,e=>by simp at e;subst e;exact ⟨_,rfl,r⟩
 | _,_,i+1,x,.cons _ t,e=>by
  obtain ⟨u,h1,h2⟩:=aA.get (i:=i) (x:=x) t (by simpa using e);exact ⟨u,by simpa using h1,h2⟩
theorem aA.getD:∀ {xs:List V}{ds:List PyData}{i:Nat}{d:PyData},aA K H xs ds->ds[i]? = some d->∃ x,xs[i]? = some x/\Den K H x d
 | _,_,_,_,.nil,e=>by simp at e
 | _,_,0,_,.cons r _,e=>by simp at e;subst e;exact ⟨_,rfl,r⟩
 | _,_,i+1,x,.cons _ t,e=>by
  obtain ⟨u,h1,h2⟩:=aA.getD (i:=i) t (by simpa using e);exact ⟨u,by simpa using h1,h2⟩
mutual
theorem Den.keep (h1:∀ a xs,SqL K H a xs->SqL K H' a xs) (h2:∀ a xs,SqT K H a xs->SqT K H' a xs):∀ {v:V}{d:PyData},Den K H v d->Den K H' v d
 | _,_,.non=>.non
 | _,_,.bl b=>.bl b
 | _,_,.int i=>.int i
 | _,_,.str h=>.str h
 | _,_,.lst h t=>.lst (h1 _ _ h) (aA.keep h1 h2 t)
 | _,_,.tup h t=>.tup (h2 _ _ h) (aA.keep h1 h2 t)
theorem aA.keep (h1:∀ a xs,SqL K H a xs->SqL K H' a xs) (h2:∀ a xs,SqT K H a xs->SqT K H' a xs):∀ {v:List V}{d:List PyData},aA K H v d->aA K H' v d
 | _,_,.nil=>.nil
 | _,_,.cons r t=>.cons (Den.keep h1 h2 r) (aA.keep h1 h2 t)
end
theorem af.b8 {a:Addr}{xs:List V} (e:af H H') (h:SqT K H a xs):SqT K H' a xs:=by
 rcases h with (h | ⟨o,h⟩) | h
 ·exact .inl (.inl (e _ _ h))
 ·exact .inl (.inr ⟨o,e _ _ h⟩)
 ·exact .inr h
theorem Den.same {v:V}{d:PyData} (e:af H H') (h:Den K H v d):Den K H' v d:=h.keep (λ_ _ q=>e.seq q) λ_ _ q=>e.b8 q
theorem aA.same {v:List V}{d:List PyData} (e:af H H') (h:aA K H v d):aA K H' v d:=h.keep (λ_ _ q=>e.seq q) λ_ _ q=>e.b8 q
mutual
theorem Den.lay:∀ {v:V}{d:PyData},Den K H v d->d.canLay0=true
 | _,_,.non=>rfl
 | _,_,.bl b=>rfl
 | _,_,.int i=>rfl
 | _,_,.str h=>h
 | _,_,.lst h t=>aA.lay t
 | _,_,.tup h t=>aA.lay t
theorem aA.lay:∀ {v:List V}{d:List PyData},aA K H v d->PyData.canLayAll0 d=true
 | _,_,.nil=>rfl
 | _,_,.cons r t=>by rw [PyData.canLayAll0,Den.lay r,aA.lay t];rfl
end
end
section
variable {X:Cx}{pins:List (Addr×Obj)}{σ:St}{H:Hp}{s:Vx}
mutual
theorem Inv.reads (I:Inv X pins σ H s):∀ {v:V}{d:PyData}{u:Vy},Den X.K H v d->RelV v u->∃ as,Reads s.heap u d as
 | _,_,_,.non,r=>by cases r;exact ⟨_,.none⟩
 | _,_,_,.bl b,r=>by cases r;exact ⟨_,.bool b⟩
 | _,_,_,.int i,r=>by obtain ⟨t,rfl⟩:=r;exact ⟨_,.int i t⟩
 | _,_,_,.str (x:=x) h,r=>by obtain ⟨t,rfl⟩:=r;exact ⟨_,.str x t⟩
 | _,_,_,.lst h t,r=>by
  cases r;obtain ⟨its,rv,⟨o,n,e,c,_,d⟩,_⟩:=I.list h;obtain ⟨as,ra⟩:=I.readsAll t rv;exact ⟨_,.list e c d (by simpa using ra)⟩
 | _,_,_,.tup h t,r=>by
  cases r;obtain ⟨its,rv,⟨o,e,c,n,d⟩,_⟩:=I.tuple h;obtain ⟨as,ra⟩:=I.readsAll t rv;exact ⟨_,.tuple e c d (by simpa using ra)⟩
theorem Inv.readsAll (I:Inv X pins σ H s):∀ {vs:List V}{ds:List PyData}{us:List Vy},aA X.K H vs ds->aS vs us->∃ as,ReadsAll s.heap us ds as
 | _,_,_,.nil,.nil=>⟨_,.nil⟩
 | _,_,_,.cons h t,.cons r rr=>by
  obtain ⟨as,ra⟩:=I.reads h r;obtain ⟨bs,rb⟩:=I.readsAll t rr;exact ⟨_,.cons ra rb⟩
end
def uh (K:Vz):R2:=λx y H Q=>∃ d e,Den K H x d/\Den K H y e/\d.depth<=100/\Q (.bl (PyData.eqv d e)) H
def EF (K:Vz):R2:=λx y H Q=>∃ d e,Den K H x d/\Den K H y e/\d.depth<=100/\Q (.bl (!PyData.eqv d e)) H
theorem qE {k a b:Nat}{A:Around} (hr:bX k A) (h:a<=100):A.units+min a b<cLine:=by
 have:=hr.un;have:min a b<=a:=Nat.min_le_left _ _;lia
theorem nv {k:Nat} (hr:bX k X.A):OpR X (compareOp .Eq) (uh X.K):=by
 intro pins s σ H x y v u Q I rx ry h;obtain ⟨d,e,hd,he,hl,q⟩:=h;obtain ⟨as,ra⟩:=I.reads hd rx;obtain ⟨bs,rb⟩:=I.reads he ry;exact SeqAt.compareEq_reads ra rb hd.lay he.lay (qE hr hl) ⟨.bl _,H,I,rfl,q⟩
theorem wW {k:Nat} (hr:bX k X.A):OpR X (compareOp .NotEq) (EF X.K):=by
 intro pins s σ H x y v u Q I rx ry h;obtain ⟨d,e,hd,he,hl,q⟩:=h;obtain ⟨as,ra⟩:=I.reads hd rx;obtain ⟨bs,rb⟩:=I.reads he ry;exact SeqAt.compareNe_reads ra rb hd.lay he.lay (qE hr hl) ⟨.bl _,H,I,rfl,q⟩
theorem mr:OpR X (compareOp .LtE) (λx y H Q=>∃ i j,x = .str i/\y = .str j/\Q (.bl (!decide (j.cps.toList<i.cps.toList))) H):=by
 intro pins s σ H x y v u Q I rx ry h;obtain ⟨i,j,rfl,rfl,q⟩:=h;obtain ⟨t,rfl⟩:=rx;obtain ⟨t',rfl⟩:=ry;exact PySem.P.le_str ⟨.bl _,H,I,rfl,q⟩
def Oa:V->Option Int->Option Int->Hp->VK->Prop:=λx lo hi H Q=>∃ z,x = .str z/\z.length<=sizeLine/\Q (.str (Txt.slice z lo hi)) H
theorem Fv:SlR X Oa:=by
 intro pins s σ H x v vl vu lo hi sl Q I rx hs pl pu h;obtain ⟨z,rfl,hz,q⟩:=h;obtain ⟨t,rfl⟩:=rx;refine ⟨"str",_,F.slot_str_getitem.lookup,typeIs_str _ _ _,?_⟩;have fin:∀ t' k,EP X pins σ Q (.str (Txt.slice z lo hi) t') { s with toks:=k }:=λt' k=>⟨.str _,H,I.tok _,⟨_,rfl⟩,q⟩;cases pl with
 | none=>
  cases pu with
  | none=>exact wpAny_getItem_str_slice (l:=none) (u:=none) (st:=none) hs rfl (post_val_or_str ⟨P2 (Txt.slice_le z _ _) hz,fin⟩)
  | int j u=>exact wpAny_getItem_str_slice (l:=none) (u:=some (j,u)) (st:=none) hs rfl (post_val_or_str ⟨P2 (Txt.slice_le z _ _) hz,fin⟩)
 | int i t1=>
  cases pu with
  | none=>exact wpAny_getItem_str_slice (l:=some (i,t1)) (u:=none) (st:=none) hs rfl (post_val_or_str ⟨P2 (Txt.slice_le z _ _) hz,fin⟩)
  | int j u=>exact wpAny_getItem_str_slice (l:=some (i,t1)) (u:=some (j,u)) (st:=none) hs rfl (post_val_or_str ⟨P2 (Txt.slice_le z _ _) hz,fin⟩)
theorem uM:∀ (l:List (Str×Tok)),aS ((l.map (·.1)).map V.str) (strValues l)
 | []=>.nil
 | p::r=>.cons ⟨p.2,rfl⟩ (uM r)
def KD:V->List V->Hp->VK->Prop:=λx vs H Q=>∃ z y,x = .str z/\vs=[.str y]/\y.length≠0/\z.length+2<=sizeLine/\∀ l,H l=none->Q (.ref l) (upd H l (.lst ((Txt.split z y).map V.str)))
theorem split_len (z y:Str) (hz:z.length+2<=sizeLine):(Builtin.Str.partsBetween z (Builtin.Str.occurrences z y 0 z.length (z.length+1)) y.length).length<=sizeLine:=by
 have e1:=StrLaws.occ_length_le z y 0 z.length (z.length+1)
 (rw [length_partsBetween];lia)
theorem tq:MtR X "str.split" KD:=by
 intro pins s σ H x vs v us Q I rx rv h;obtain ⟨z,y,rfl,rfl,hy,hz,q⟩:=h;obtain ⟨t,rfl⟩:=rx;obtain ⟨u,rfl,ru⟩:=rv.one;obtain ⟨t',rfl⟩:=ru;have hn:=split_len z y hz;have fin:∀ (l:List (Str×Tok)) (tk:Nat),l.map (·.1)=Txt.split z y->EP X pins σ Q (.ref s.heap.objs.size) { s with heap:=s.heap.push { cls:=.type "list",data:=.seq (strValues l).toArray },toks:=tk }:=λl tk e=>by
  have hl:((Txt.split z y).map V.str).length<=sizeLine:=by
   rw [PQ];unfold Txt.split
   split
   ·show 1<=sizeLine;lia
   ·split
    ·show 1<=sizeLine;lia
    ·exact hn
  refine ⟨.ref s.heap.objs.size,_,I.laid (o:=.lst ((Txt.split z y).map V.str)) (λb ob e=>Vu _ e) (PR _) ⟨hl,strValues l,0,?_,Heap.get?_push_size _ rfl⟩,rfl,q _ (I.hok.fresh (PR _))⟩;rw [<-e];exact uM l
 have hy':(y.length == 0)=false:=by simpa using hy
 cases h1:(decide (z.length<y.length) || decide (Builtin.Str.strKind z<Builtin.Str.strKind y))
 ·cases hf:(Builtin.Str.occurrences z y 0 z.length (z.length+1)).isEmpty
  ·refine call_meets F.slot_str_split (typeIs_str _ _ _) F.entry_str_split (F.args_str_split_2 _ _) (meets_str_split_sep z y t t' h1 hy' hf (by lia) hn) ?_;show wants (EP X pins σ Q) X.xe _ { s with toks:=_,heap:=s.heap.push { cls:=.type "list",data:=.seq (strsFrom s.toks (Builtin.Str.partsBetween z (Builtin.Str.occurrences z y 0 z.length (z.length+1)) y.length)).toArray } };rw [strsFrom_eq];exact fin (numbered s.toks _) _ ((numbered_texts _ _).trans ((if_neg (ne_true_of_eq_false h1)).trans (if_neg (ne_true_of_eq_false hf))).symm)
  ·exact call_meets F.slot_str_split (typeIs_str _ _ _) F.entry_str_split (F.args_str_split_2 _ _) (meets_str_split_not_found z y t t' h1 hy' hf)
    (fin [(z,t)] s.toks ((if_neg (ne_true_of_eq_false h1)).trans (if_pos hf)).symm)
 ·exact call_meets F.slot_str_split (typeIs_str _ _ _) F.entry_str_split (F.args_str_split_2 _ _) (meets_str_split_cannot_occur z y t t' h1)
   (fin [(z,t)] s.toks (if_pos h1).symm)
theorem By:∀ {ys:List Str}{us:List Vy},aS (ys.map V.str) us->∃ l:List (Str×Tok),us=strValues l/\l.map (·.1)=ys
 | [],_,.nil=>⟨[],rfl,rfl⟩
 | y::ys,_,.cons r t=>by
  obtain ⟨tk,rfl⟩:=r;obtain ⟨l,rfl,rfl⟩:=By t;exact ⟨(y,tk)::l,rfl,rfl⟩
def rJoin (K:Vz):V->List V->Hp->VK->Prop:=λx vs H Q=>∃ z l ys,x = .str z/\vs=[.ref l]/\SqL K H l (ys.map V.str)/\JoinOk z ys=true/\Q (.str (Txt.join z ys)) H
theorem wG:MtR X "str.join" (rJoin X.K):=by
 intro pins s σ H x vs v us Q I rx rv h;obtain ⟨z,l,ys,rfl,rfl,hl,hok,q⟩:=h;obtain ⟨t,rfl⟩:=rx;obtain ⟨u,rfl,ru⟩:=rv.one;cases ru;obtain ⟨its,r,pl,_⟩:=I.list hl;obtain ⟨l',rfl,e⟩:=By r;exact SC.join pl.isList e hok λt' k=>⟨.str _,H,I.tok _,⟨_,rfl⟩,q⟩
end
mutual
def ltv:PyData->PyData->Bool
 | .int a,.int b=>decide (a<b)
 | .str x,.str y=>decide (x.cps.toList<y.cps.toList)
 | .list xs,.list ys=>aT xs ys
 | .tuple xs,.tuple ys=>aT xs ys
 | _,_=>false
def aT:List PyData->List PyData->Bool
 | [],[]=>false
 | [],_::_=>true
 | _::_,[]=>false
 | x::xs,y::ys=>if PyData.eqv x y=true then aT xs ys else ltv x y
end
mutual
def oA:PyData->PyData->Bool
 | .int _,.int _=>true
 | .str _,.str _=>true
 | .list xs,.list ys=>cF xs ys
 | .tuple xs,.tuple ys=>cF xs ys
 | _,_=>false
def cF:List PyData->List PyData->Bool
 | [],_=>true
 | _::_,[]=>true
 | x::xs,y::ys=>if PyData.eqv x y=true then cF xs ys else oA x y
end
theorem cx (x y:PyData) (xs ys:List PyData):aT (x::xs) (y::ys)=if PyData.eqv x y=true then aT xs ys else ltv x y:=by rw [aT]
theorem fM (x y:PyData) (xs ys:List PyData):cF (x::xs) (y::ys)=if PyData.eqv x y=true then cF xs ys else oA x y:=by rw [cF]
def z7 (A:Around) (s:Vx) (y x:Vy) (b:Bool):Prop:=
 ∀ (prog:Program) (w:World) (E:Vy->Vx->Prop) (Q:Vy->Vx->Prop),Q (.bool b) s->wpAny (model prog w) A (richCompare .Lt y x) Q E s
def pe (xs ys:List PyData):Prop:=∀ x y,x∈xs->y∈ys->oA x y=true->∀ (A:Around) (s:Vx) (a b:Vy) (as bs:List Addr),Reads s.heap a x as->Reads s.heap b y bs->x.canLay0=true->y.canLay0=true->A.units+x.depth<cLine->z7 A s a b (ltv x y)
theorem pe.tail {x y:PyData}{xs ys:List PyData} (h:pe (x::xs) (y::ys)):pe xs ys:=λa b ha hb=>h a b (PY _ ha) (PY _ hb)
section
open PySem.SeqAt
open PySem.AutoSeq1 (wpAny_loadPart')
open PySem.MeetsSeq PySem.MeetsSeq2 PySem.MeetsSeq3
theorem fu {x:PyData}{xs:List PyData}{k:Nat} (h:k+PyData.depthAll (x::xs)<cLine):k+x.depth<cLine:=by
 rw [PyData.depthAll] at h;have:=Nat.le_max_left x.depth (PyData.depthAll xs);lia
theorem nI {x:PyData}{xs:List PyData}{k:Nat} (h:k+PyData.depthAll (x::xs)<cLine):k+PyData.depthAll xs<cLine:=by
 rw [PyData.depthAll] at h;have:=Nat.le_max_right x.depth (PyData.depthAll xs);lia
theorem wO {k a b:Nat} (h:k+a<cLine):k+min a b<cLine:=by
 have:=Nat.min_le_left a b;lia
def Sq (T:String) (hp:Heap) (a:Addr) (its:Array Vy):Prop:=∃ n dd sl,hp.get? a=some { cls:=.type T,dict:=dd,data:=.seq its n,slots:=sl }
structure Sqs (hp:Heap) (i:Nat) (its iq:Array Vy) (xs ys:List PyData):Prop where
 in1:i<=its.size
 in2:i<=iq.size
 r1:∃ as,ReadsAll hp (its.toList.drop i) xs as
 r2:∃ bs,ReadsAll hp (iq.toList.drop i) ys bs
theorem BJ {its:Array Vy}{i:Nat} (h:its.size<=i):its[((i:Nat):Int).toNat]? = none:=by
 rw [QJ];exact QR h
theorem some_at {its:Array Vy}{i:Nat} (h:i<its.size):its[((i:Nat):Int).toNat]? = some its[i]:=by
 rw [QJ];exact Qq h
theorem Ed (i:Nat):((i:Int)+1)=((i+1:Nat):Int):=rfl
theorem Sqs.MT {hp:Heap}{i:Nat}{its iq:Array Vy}{xs ys:List PyData} (q:Sqs hp i its iq xs ys):xs.length=its.size - i:=by
 obtain ⟨as,r⟩:=q.r1;have:=ReadsAll.length _ _ _ r;rw [Rt,Qd] at this;exact this.symm
theorem Sqs.LB {hp:Heap}{i:Nat}{its iq:Array Vy}{xs ys:List PyData} (q:Sqs hp i its iq xs ys):ys.length=iq.size - i:=by
 obtain ⟨bs,r⟩:=q.r2;have:=ReadsAll.length _ _ _ r;rw [Rt,Qd] at this;exact this.symm
theorem Sqs.over {hp:Heap}{i:Nat}{its iq:Array Vy}{xs ys:List PyData} (q:Sqs hp i its iq xs ys) (h:its.size<=i\/iq.size<=i):aT xs ys=decide (its.size<iq.size)/\aT ys xs=decide (its.size > iq.size):=by
 have z1:=q.MT;have z2:=q.LB;have i1:=q.in1;have i2:=q.in2;cases xs with
 | nil=>
  rw [QK] at z1;cases ys with
  | nil=>
   rw [QK] at z2;rw [aT];exact ⟨(decide_eq_false (by lia)).symm,(decide_eq_false (by lia)).symm⟩
  | cons y ys=>
   rw [Qh] at z2;rw [aT,aT];exact ⟨(decide_eq_true (by lia)).symm,(decide_eq_false (by lia)).symm⟩
 | cons x xs=>
  rw [Qh] at z1;cases ys with
  | nil=>
   rw [QK] at z2;rw [aT,aT];exact ⟨(decide_eq_false (by lia)).symm,(decide_eq_true (by lia)).symm⟩
  | cons y ys=>
   rw [Qh] at z2;lia
theorem Sqs.next {hp:Heap}{i:Nat}{its iq:Array Vy}{xs ys:List PyData} (q:Sqs hp i its iq xs ys) (h1:i<its.size) (h2:i<iq.size):∃ x xs' y ys',xs=x::xs'/\ys=y::ys'/\(∃ as,Reads hp its[i] x as)/\(∃ bs,Reads hp iq[i] y bs)/\Sqs hp (i+1) its iq xs' ys':=by
 obtain ⟨_,_,⟨as,ra⟩,bs,rb⟩:=q;rw [Qw (by rw [Qd];exact h1),Array.getElem_toList] at ra;rw [Qw (by rw [Qd];exact h2),Array.getElem_toList] at rb;cases ra with
 | cons r1 t1=>
  cases rb with
  | cons r2 t2=>exact ⟨_,_,_,_,rfl,rfl,⟨_,r1⟩,⟨_,r2⟩,h1,h2,⟨_,t1⟩,⟨_,t2⟩⟩
theorem yG {x:PyData}{xs:List PyData} (h:PyData.canLayAll0 (x::xs)=true):x.canLay0=true/\PyData.canLayAll0 xs=true:=by simpa [PyData.canLayAll0] using h
theorem uC (l b:Addr) (items eJ:Array Vy) (xs ys:List PyData) (ih:pe xs ys) (cv:cF xs ys=true) (hlx:PyData.canLayAll0 xs=true) (hly:PyData.canLayAll0 ys=true) :
  Meets (Builtin.«tuple.__lt__» ⟨[.ref l,.ref b],[]⟩)
   (λA R s=>Sq "tuple" s.heap l items/\Sq "tuple" s.heap b eJ/\Sqs s.heap 0 items eJ xs ys/\A.in1.units+PyData.depthAll xs<cLine/\R (.ok (.ret (.bool (aT xs ys)))) s):=
 .of_wp λprog w A R s h=>by
  obtain ⟨hp,g,d,tk,os⟩:=s;obtain ⟨⟨n,dd,sl,hl⟩,⟨n2,dd2,sl2,hb⟩,⟨_,_,⟨as,hra⟩,bs,hrb⟩,hu,h⟩:=h;rw [RV] at hra hrb;have f2:=AutoSeq1.sub_tuple_tuple;have z1:items.size=xs.length:=by rw [<-ReadsAll.length _ _ _ hra];simp
  have z2:eJ.size=ys.length:=by rw [<-ReadsAll.length _ _ _ hrb];simp
  wp_walk using wpAny_loadPart' hl,wpAny_loadPart' hb,wpAny_forIn_list _ (λrest b s'=>b.1=none/\s' = ⟨hp,g,d,tk,os⟩/\∃ (vs ws:List Vy) (xs' ys':List PyData) (as bs:List Addr),rest=vs.zip ws /\
   ReadsAll hp vs xs' as/\ReadsAll hp ws ys' bs/\pe xs' ys'/\cF xs' ys' = true/\PyData.canLayAll0 xs' = true/\PyData.canLayAll0 ys' = true/\A.in1.units+PyData.depthAll xs' < cLine/\xs'.length+eJ.size=ys'.length+items.size/\R (.ok (.ret (.bool (aT xs' ys')))) ⟨hp,g,d,tk,os⟩) _
  case turn=>
   rintro ⟨y,x⟩ rest b s' ⟨hb',rfl,vs,ws,xs',ys',as,bs,hz,hvi,hwi,iht,hct,Of,Oc,hu',hlen,hR⟩;cases hvi with
   | nil=>rw [List.zip_nil_left] at hz;cases hz
   | @cons v0 vs0 d0 ds0 as0 as1 r1 hvi'=>
    cases hwi with
    | nil=>rw [List.zip_nil_right] at hz;cases hz
    | @cons w0 ws0 e0 es0 bs0 bs1 r2 hwi'=>
     rw [RE] at hz;injection hz with hyx hrest;injection hyx with hy hx;subst hy hx;rw [cx] at hR;rw [fM] at hct;have J6:d0.canLay0=true/\PyData.canLayAll0 ds0=true:=by simpa [PyData.canLayAll0] using Of
     have Js:e0.canLay0=true/\PyData.canLayAll0 es0=true:=by simpa [PyData.canLayAll0] using Oc
     simp only [Qh] at hlen;have he:=eqAt_reads d0 e0 A.in1 ⟨hp,g,d,tk,os⟩ y x as0 bs0 r1 r2 J6.1 Js.1 (wO (fu hu'));refine Vw (he prog w _ _ ?_);cases hq:PyData.eqv d0 e0 with
     | true=>
      rw [hq,if_pos rfl] at hR hct
      wp_walk
      exact ⟨rfl,rfl,_,_,_,_,_,_,hrest,hvi',hwi',iht.tail,hct,J6.2,Js.2,nI hu',by lia,hR⟩
     | false=>
      rw [hq,if_neg P6] at hR hct;have hri:=iht d0 e0 P5 P5 hct A.in1 ⟨hp,g,d,tk,os⟩ y x as0 bs0 r1 r2 J6.1 Js.1 (fu hu') prog w
      wp_walk using hri
      exact ⟨_,rfl,by simpa using hR⟩
  case fin=>
   rintro ⟨b1,b2⟩ s' ⟨hb',rfl,vs,ws,xs',ys',as,bs,hz,hvi,hwi,_,_,_,_,_,hlen,hR⟩;simp only at hb';subst hb';have hv:aT xs' ys' = decide (items.size<eJ.size):=by
    cases hvi with
    | nil=>
     cases hwi with
     | nil=>
      simp only [QK] at hlen;rw [aT];exact (decide_eq_false (by lia)).symm
     | cons _ _=>
      simp only [QK,Qh] at hlen;rw [aT];exact (decide_eq_true (by lia)).symm
    | cons _ _=>
     cases hwi with
     | nil=>
      simp only [QK,Qh] at hlen;rw [aT];exact (decide_eq_false (by lia)).symm
     | cons _ _=>
      rw [RE] at hz;cases hz
   rw [hv] at hR
   wp_walk
   exact ⟨_,rfl,by simpa [Builtin.Tuple.tupleCompareSizes] using hR⟩
  case h=>
   exact ⟨rfl,rfl,items.toList,eJ.toList,xs,ys,as,bs,rfl,hra,hrb,ih,cv,hlx,hly,hu,by lia,h⟩
theorem wZ (l b:Addr) (items eJ:Array Vy) (k:Nat):∀ (i:Nat) (xs ys:List PyData),items.size - i=k->pe xs ys->cF xs ys=true->PyData.canLayAll0 xs=true->PyData.canLayAll0 ys=true ->
  Meets (Builtin.«list.__eq__.loop» ⟨[.ref l,.ref b,rawInt i,rawInt 0],[]⟩)
   (λA R s=>Sq "list" s.heap l items/\Sq "list" s.heap b eJ/\Sqs s.heap i items eJ xs ys/\A.in1.units+PyData.depthAll xs<cLine/\R (.ok (.ret (.bool (aT xs ys)))) s):=by
 induction k with
 | zero=>
  intro i xs ys hk _ _ _ _ prog w A R s h;obtain ⟨hp,g,d,tk,os⟩:=s;obtain ⟨⟨n,dd,sl,hl⟩,⟨n2,dd2,sl2,hb⟩,sq,_,h⟩:=h;rw [(sq.over (.inl (by lia))).1] at h
  wp_walk using wpAny_loadPart' hl,wpAny_loadPart' hb
  rw [BJ (its:=items) (i:=i) (by lia)]
  wp_walk using wpAny_loadPart' hl,wpAny_loadPart' hb
  exact h
 | succ k ihk=>
  intro i xs ys hk ih cv hlx hly prog w A R s h;obtain ⟨hp,g,d,tk,os⟩:=s;obtain ⟨L1,L2,sq,hu,h⟩:=h;obtain ⟨n,dd,sl,hl⟩:=id L1;obtain ⟨n2,dd2,sl2,hb⟩:=id L2;have lt1:i<items.size:=by lia
  wp_walk using wpAny_loadPart' hl,wpAny_loadPart' hb
  rw [some_at lt1];rcases Qz i eJ.size with lt2 | ge2
  ·obtain ⟨x,xs,y,ys,rfl,rfl,⟨as,rx⟩,⟨bs,ry⟩,sq'⟩:=sq.next lt1 lt2;obtain ⟨lx,lxs⟩:=yG hlx;obtain ⟨ly,lys⟩:=yG hly;rw [cx] at h;rw [fM] at cv;rw [some_at lt2];refine Vw (eqAt_reads x y A.in1 _ _ _ as bs rx ry lx ly (wO (fu hu)) prog w _ _ ?_);cases hq:PyData.eqv x y
   ·simp only [hq,Qu,if_false] at h cv;have less:=ih x y P5 P5 cv A.in1 ⟨hp,g,d,tk,os⟩ _ _ as bs rx ry lx ly (fu hu) prog w
    wp_walk using wpAny_loadPart' hl,wpAny_loadPart' hb
    rw [some_at lt1,some_at lt2]
    wp_walk using less
    exact h
   ·simp only [hq,if_true] at h cv
    wp_walk
    rw [Ed];have on:=ihk (i+1) xs ys (by lia) ih.tail cv lxs lys prog w A R _ ⟨L1,L2,sq',nI hu,h⟩;exact ⟨plainId_quiet plain_eq_loop _,codeAny_builtin entry_eq_loop (by rw [Around.under_plainId plain_eq_loop];exact on)⟩
  ·rw [(sq.over (.inr ge2)).1] at h;rw [BJ (its:=eJ) (i:=i) ge2]
   wp_walk using wpAny_loadPart' hl,wpAny_loadPart' hb
   exact h
theorem wA (l b:Addr) (items eJ:Array Vy) (xs ys:List PyData) (ih:pe xs ys) (cv:cF xs ys=true) (hlx:PyData.canLayAll0 xs=true) (hly:PyData.canLayAll0 ys=true) :
  Meets (Builtin.«list.__lt__» ⟨[.ref l,.ref b],[]⟩)
   (λA R s=>Sq "list" s.heap l items/\Sq "list" s.heap b eJ/\Sqs s.heap 0 items eJ xs ys/\A.in1.units+PyData.depthAll xs<cLine/\R (.ok (.ret (.bool (aT xs ys)))) s):=by
 intro prog w A R s h;have on:=wZ l b items eJ _ 0 xs ys rfl ih cv hlx hly prog w A R s h;obtain ⟨hp,g,d,tk,os⟩:=s;obtain ⟨⟨n,dd,sl,hl⟩,⟨n2,dd2,sl2,hb⟩,_⟩:=h;have both:=AutoSeq1.sub_list_list
 wp_walk using wpAny_loadPart' hl,wpAny_loadPart' hb
 exact ⟨plainId_quiet plain_eq_loop _,codeAny_builtin entry_eq_loop (by rw [Around.under_plainId plain_eq_loop];exact on)⟩
theorem pT {x:PyData}:∀ {xs:List PyData},x∈xs->x.depth<=PyData.depthAll xs
 | y::ys,h=>by
  rw [PyData.depthAll]
  (rcases Qi.mp h with e | h)
  ·subst e;exact Nat.le_max_left _ _
  ·exact P2 (pT h) (Nat.le_max_right _ _)
end
section
open PySem.SeqAt
open PySem.MeetsSeq PySem.MeetsSeq2 PySem.MeetsSeq3
theorem Ah {A:Around}{s:Vx}{l b:Addr}{o o2:Obj}{vs ws:Array Vy}{n n2:Nat}{xs ys:List PyData}{as bs:List Addr} (h1:s.heap.get? l=some o) (c1:o.cls = .type "list") (d1:o.data = .seq vs n) (h2:s.heap.get? b=some o2) (c2:o2.cls = .type "list") (d2:o2.data = .seq ws n2)
  (ra:ReadsAll s.heap vs.toList xs as) (rb:ReadsAll s.heap ws.toList ys bs) (ih:pe xs ys) (cv:cF xs ys=true) (hlx:PyData.canLayAll0 xs=true) (hly:PyData.canLayAll0 ys=true) (hu:A.units+(PyData.depthAll xs+1)<cLine):z7 A s (.ref l) (.ref b) (aT xs ys):=λprog w E Q h=>by
 obtain ⟨cls,dd,data,sl⟩:=o;obtain ⟨LJ,dd2,data2,sl2⟩:=o2;simp only at c1 d1 c2 d2;subst c1 d1 c2 d2;exact richCompare_meets_room (op:=.Lt) ⟨_,h1,rfl⟩ ⟨_,h2,rfl⟩ F.slot_list_lt F.entry_list_lt (F.args_list_lt_2 _ _) (wA l b vs ws xs ys ih cv hlx hly)
  ⟨⟨_,_,_,h1⟩,⟨_,_,_,h2⟩,⟨Qb _,Qb _,⟨_,ra⟩,⟨_,rb⟩⟩,by show A.units+1+PyData.depthAll xs<cLine;lia,show Value.bool (aT xs ys)≠Value.notImplemented/\Q (.bool (aT xs ys)) s from ⟨(λx=>nomatch x),h⟩⟩ (by lia)
theorem za {A:Around}{s:Vx}{l b:Addr}{o o2:Obj}{vs ws:Array Vy}{n n2:Nat}{xs ys:List PyData}{as bs:List Addr} (h1:s.heap.get? l=some o) (c1:o.cls = .type "tuple") (d1:o.data = .seq vs n) (h2:s.heap.get? b=some o2) (c2:o2.cls = .type "tuple") (d2:o2.data = .seq ws n2)
  (ra:ReadsAll s.heap vs.toList xs as) (rb:ReadsAll s.heap ws.toList ys bs) (ih:pe xs ys) (cv:cF xs ys=true) (hlx:PyData.canLayAll0 xs=true) (hly:PyData.canLayAll0 ys=true) (hu:A.units+(PyData.depthAll xs+1)<cLine):z7 A s (.ref l) (.ref b) (aT xs ys):=λprog w E Q h=>by
 obtain ⟨cls,dd,data,sl⟩:=o;obtain ⟨LJ,dd2,data2,sl2⟩:=o2;simp only at c1 d1 c2 d2;subst c1 d1 c2 d2;exact richCompare_meets_room (op:=.Lt) ⟨_,h1,rfl⟩ ⟨_,h2,rfl⟩ F.slot_tuple_lt F.entry_tuple_lt (F.args_tuple_lt_2 _ _) (uC l b vs ws xs ys ih cv hlx hly)
  ⟨⟨_,_,_,h1⟩,⟨_,_,_,h2⟩,⟨Qb _,Qb _,⟨_,ra⟩,⟨_,rb⟩⟩,by show A.units+1+PyData.depthAll xs<cLine;lia,show Value.bool (aT xs ys)≠Value.notImplemented/\Q (.bool (aT xs ys)) s from ⟨(λx=>nomatch x),h⟩⟩ (by lia)
theorem xX {A:Around}{s:Vx}{a b:Vy}{i j:Int}{as bs:List Addr} (ra:Reads s.heap a (.int i) as) (rb:Reads s.heap b (.int j) bs):z7 A s a b (ltv (.int i) (.int j)):=by
 cases ra with
 | int i t=>
  cases rb with
  | int j u=>intro prog w E Q h;exact HT.FQ A s i t j u prog w E Q (by rw [ltv] at h;exact h)
theorem xK {A:Around}{s:Vx}{a b:Vy}{x y:Str}{as bs:List Addr} (ra:Reads s.heap a (.str x) as) (rb:Reads s.heap b (.str y) bs):z7 A s a b (ltv (.str x) (.str y)):=by
 cases ra with
 | str x t=>
  cases rb with
  | str y u=>intro prog w E Q h;exact (PyProof.Rows.lt_str (by rw [ltv] at h;exact h):wpAny (model prog w) A (compareOp .Lt (.str x t) (.str y u)) Q E s)
theorem vN {da db:PyData} (h:oA da db=true):(∃ i j,da = .int i/\db = .int j)\/(∃ x y,da = .str x/\db = .str y)\/(∃ xs ys,da = .list xs/\db = .list ys/\cF xs ys=true)\/∃ xs ys,da = .tuple xs/\db = .tuple ys/\cF xs ys=true:=by
 unfold oA at h
 split at h
 ·exact .inl ⟨_,_,rfl,rfl⟩
 ·exact .inr (.inl ⟨_,_,rfl,rfl⟩)
 ·exact .inr (.inr (.inl ⟨_,_,rfl,rfl,h⟩))
 ·exact .inr (.inr (.inr ⟨_,_,rfl,rfl,h⟩))
 ·cases h
theorem uf:∀ (n:Nat) (da db:PyData),da.depth<=n->oA da db=true->∀ (A:Around) (s:Vx) (a b:Vy) (as bs:List Addr),Reads s.heap a da as->Reads s.heap b db bs->da.canLay0=true->db.canLay0=true->A.units+da.depth<cLine->z7 A s a b (ltv da db):=by
 intro n
 induction n with
 | zero=>
  intro da db hd hc A s a b as bs ra rb ha hb hu;rcases vN hc with ⟨i,j,rfl,rfl⟩ | ⟨x,y,rfl,rfl⟩ | ⟨xs,ys,rfl,rfl,hc⟩ | ⟨xs,ys,rfl,rfl,hc⟩
  ·exact xX ra rb
  ·exact xK ra rb
  ·rw [PyData.depth] at hd;lia
  ·rw [PyData.depth] at hd;lia
 | succ n ih=>
  intro da db hd hc A s a b as bs ra rb ha hb hu;rcases vN hc with ⟨i,j,rfl,rfl⟩ | ⟨x,y,rfl,rfl⟩ | ⟨xs,ys,rfl,rfl,hc⟩ | ⟨xs,ys,rfl,rfl,hc⟩
  ·exact xX ra rb
  ·exact xK ra rb
  ·rw [PyData.depth] at hd hu;cases ra with
   | @list a o vs k xs as1 h1 c1 d1 r1=>
    cases rb with
    | @list b o2 ws k2 ys bs1 h2 c2 d2 r2=>
     rw [ltv];exact Ah h1 c1 d1 h2 c2 d2 r1 r2 (λx y hx hy hxy A' s' a' b' as' bs' ra' rb' la lb hu'=>ih x y (by have:=pT hx;lia) hxy A' s' a' b' as' bs' ra' rb' la lb hu') hc ha hb hu
  ·rw [PyData.depth] at hd hu;cases ra with
   | @tuple a o vs k xs as1 h1 c1 d1 r1=>
    cases rb with
    | @tuple b o2 ws k2 ys bs1 h2 c2 d2 r2=>
     rw [ltv];exact za h1 c1 d1 h2 c2 d2 r1 r2 (λx y hx hy hxy A' s' a' b' as' bs' ra' rb' la lb hu'=>ih x y (by have:=pT hx;lia) hxy A' s' a' b' as' bs' ra' rb' la lb hu') hc ha hb hu
variable {prog:Program}{w:World}{A:Around}{E:Vy->Vx->Prop}{s:Vx}
theorem Co {x y:Vy}{b:Bool}{Q:Bool->Vx->Prop} (h:z7 A s x y b) (q:Q b s):wpAny (model prog w) A (oneLt' false x y) Q E s:=
 PySem.W.kat_one x y (h prog w E _ q)
theorem oneLt_str {x y:Str}{t u:Tok}{Q:Bool->Vx->Prop} (q:Q (decide (x.cps.toList<y.cps.toList)) s):wpAny (model prog w) A (oneLt' true (.str x t) (.str y u)) Q E s:=by
 have:=PySem.W.kas_lt_str (prog:=prog) (w:=w) (A:=A) (E:=E) (s:=s) (a:=x) (c:=y) (t:=t) (u:=u) (Q:=Q) q
 rwa [keyLt'_oneType] at this
theorem Aj {b:Bool}{x y:Addr}{ox oy:Obj}{vx vy:Array Vy}{n k:Nat}{xs ys:List PyData}{as bs:List Addr}{Q:Bool->Vx->Prop} (hx:s.heap.get? x=some ox) (dx:ox.data = .seq vx n) (hy:s.heap.get? y=some oy) (dy:oy.data = .seq vy k)
  (ra:ReadsAll s.heap vx.toList xs as) (rb:ReadsAll s.heap vy.toList ys bs) (ha:PyData.canLayAll0 xs=true) (hb:PyData.canLayAll0 ys=true) (hc:cF xs ys=true) (hf:∀ d e,xs.head? = some d->ys.head? = some e->(b=true->(∃ i j,d = .int i/\e = .int j)\/∃ i j,d = .str i/\e = .str j))
  (hu:A.units+PyData.depthAll xs<cLine) (q:Q (aT xs ys) s):wpAny (model prog w) A (keyLt' (tuples' b) (.ref x) (.ref y)) Q E s:=by
 refine PySem.W.kat_lt hx dx hy dy ?_;have z1:vx.size=xs.length:=by rw [<-ReadsAll.length _ _ _ ra];simp
 have z2:vy.size=ys.length:=by rw [<-ReadsAll.length _ _ _ rb];simp
 have key:∀ (vs ws:List Vy) (xs' ys':List PyData) (as bs:List Addr) (i:Nat),ReadsAll s.heap vs xs' as->ReadsAll s.heap ws ys' bs->PyData.canLayAll0 xs' = true->PyData.canLayAll0 ys' = true->cF xs' ys' = true->A.units+PyData.depthAll xs' < cLine ->
   xs'.length+vy.size=ys'.length+vx.size->(i=0->xs' = xs/\ys' = ys)->Q (aT xs' ys') s->PySem.W.KatLex prog w A b (decide (vx.size<vy.size)) Q (vs.zip ws) i s:=by
  intro vs
  induction vs with
  | nil=>
   intro ws xs' ys' as bs i r1 r2 l1 l2 c u hl h0 hq;cases r1;rw [List.zip_nil_left];refine PySem.W.kat_nil ?_;cases r2 with
   | nil=>
    rw [aT] at hq;simp only [QK] at hl;rw [decide_eq_false (by lia)];exact hq
   | cons _ _=>
    rw [aT] at hq;simp only [QK,Qh] at hl;rw [decide_eq_true (by lia)];exact hq
  | cons v vs ihv=>
   intro ws xs' ys' as bs i r1 r2 l1 l2 c u hl h0 hq;cases r1 with
   | @cons _ _ d0 ds0 as0 as1 r1 r1'=>
   cases r2 with
   | nil=>
    rw [List.zip_nil_right];refine PySem.W.kat_nil ?_;rw [aT] at hq;simp only [QK,Qh] at hl;rw [decide_eq_false (by lia)];exact hq
   | @cons w0 ws0 e0 es0 bs0 bs1 r2 r2'=>
    rw [RE];rw [cx] at hq;rw [fM] at c;have l1':d0.canLay0=true/\PyData.canLayAll0 ds0=true:=by simpa [PyData.canLayAll0] using l1
    have l2':e0.canLay0=true/\PyData.canLayAll0 es0=true:=by simpa [PyData.canLayAll0] using l2
    refine PySem.W.kat_cons (eqAt_reads d0 e0 A s v w0 as0 bs0 r1 r2 l1'.1 l2'.1 (wO (fu u)) prog w _ _ ?_);cases hq':PyData.eqv d0 e0 with
    | true=>
     rw [hq',if_pos rfl] at hq c;refine PySem.W.kat_yes (ihv ws0 ds0 es0 _ _ (i+1) r1' r2' l1'.2 l2'.2 c (nI u) ?_ (λz=>by lia) hq);simp only [Qh] at hl;lia
    | false=>
     rw [hq',if_neg P6] at hq c;refine PySem.W.kat_no ?_;by_cases hbi:(b && i == 0)=true
     ·have hb1:b=true:=by simp at hbi;exact hbi.1
      have hi0:i=0:=by simp at hbi;exact hbi.2
      obtain ⟨e1,e2⟩:=h0 hi0;rw [hbi];rcases hf d0 e0 (by rw [<-e1];rfl) (by rw [<-e2];rfl) hb1 with ⟨p,q',rfl,rfl⟩ | ⟨p,q',rfl,rfl⟩
      ·cases r1;cases r2;rw [ltv] at hq;exact oneLt_int hq
      ·cases r1;cases r2;rw [ltv] at hq;exact oneLt_str hq
     ·have:(b && i == 0)=false:=by simpa using hbi
      rw [this];exact Co (uf _ d0 e0 (PR _) c A s v w0 as0 bs0 r1 r2 l1'.1 l2'.1 (fu u)) hq
 exact key vx.toList vy.toList xs ys as bs 0 ra rb ha hb hc hu (by lia) (λ_=>⟨rfl,rfl⟩) q
end
end L2
namespace L2
open PySem PySem.Spec PyProof.Rows PySem.W
structure qP (n:Nat) (lt:Nat->Nat->Bool):Prop where
 irrefl:∀ a,a<n->lt a a=false
 negTrans:∀ a b c,a<n->b<n->c<n->lt a c=true->lt a b=true\/lt b c=true
 asymm:∀ a b,a<n->b<n->lt a b=true->lt b a=false
def AllLt (n:Nat) (p:Array Nat):Prop:=∀ i,p.getD i 0<n
def pH (lt:Nat->Nat->Bool) (p:Array Nat) (k:Nat):Prop:=∀ i j,i<=j->j<k->lt (p.getD j 0) (p.getD i 0)=false
def kJ (lt:Nat->Nat->Bool) (p:Array Nat) (k:Nat):Prop:=∀ i j,i<=j->j<k->lt (p.getD i 0) (p.getD j 0)=false
theorem AllLt.perm {n:Nat}{p q:Array Nat} (h:AllLt n p) (hn:0<n) (r:q.Perm p):AllLt n q:=by
 intro i;by_cases hi:i<q.size
 ·have e:q.getD i 0=q[i]:=by simp [Array.getD,hi]
  rw [e];have hm:q[i]∈p.toList:=(RY.mp r).mem_iff.mp (by simp);obtain ⟨j,hj,e2⟩:=RI.mp hm;have:=h j;have e3:p.getD j 0=q[i]:=by
   have hj':j<p.size:=by simpa using hj
   have:p.getD j 0=p[j]:=by simp [Array.getD,hj']
   rw [this,<-e2];simp
  rw [<-e3];exact this
 ·have e:q.getD i 0=0:=by simp [Array.getD,hi]
  rw [e];exact hn
section
variable {n:Nat}{lt:Nat->Nat->Bool}{cmp:Nat->Nat->(Bool->Vx->Prop)->Vx->Prop}{P:Vx->Prop}
theorem qP.trans (W:qP n lt) {a b c:Nat} (ha:a<n) (hb:b<n) (hc:c<n) (h1:lt b a=false) (h2:lt c b=false):lt c a=false:=by
 cases q:lt c a with
 | false=>rfl
 | true=>
  rcases W.negTrans c b a hc hb ha q with z | z
  ·rw [h2] at z;cases z
  ·rw [h1] at z;cases z
theorem pH.BL (W:qP n lt) {p:Array Nat} (hp:AllLt n p) {k m:Nat} (h:pH lt p k) (hk:1<=k) (hs:∀ i,k<=i->i<m->lt (p.getD i 0) (p.getD (i - 1) 0)=false):pH lt p m:=by
 have key:∀ d i j,j=i+d->j<m->lt (p.getD j 0) (p.getD i 0)=false:=by
  intro d
  induction d with
  | zero=>intro i j e hj;rw [e];exact W.irrefl _ (hp _)
  | succ d ih=>
   intro i j e hj;by_cases hjk:j<k
   ·exact h i j (by lia) hjk
   ·exact W.trans (hp _) (hp (j - 1)) (hp _) (ih i (j - 1) (by lia) (by lia)) (hs j (by lia) hj)
 intro i j hij hj;exact key (j - i) i j (by lia) hj
theorem qd {p:Array Nat}{k l:Nat} (hk:k<p.size) (hl:l<=k) (i:Nat):(bubble p k (k - l)).getD i 0=if i<l then p.getD i 0 else if i=l then p.getD k 0 else if i<=k then p.getD (i - 1) 0 else p.getD i 0:=by
 have h:=getElem?_bubble (xs:=p) hk (k - l) (by lia) i;rw [QS,h];rw [show k - (k - l)=l by lia];simp only [QS]
 repeat' split
 all_goals first | rfl | (exfalso;lia) | skip
theorem eA {p:Array Nat}{i j:Nat} (hj:j<=p.size) (k:Nat):(kas_rev p i j).getD k 0=if i<=k/\k<j then p.getD (i+j - 1 - k) 0 else p.getD k 0:=by
 have h:=getElem?_mirror_all (xs:=p) (i:=i) hj k;unfold kas_rev;rw [QS,h];simp only [QS]
 repeat' split
 all_goals first | rfl | (exfalso;lia) | skip
theorem zD (cv:∀ i j C s,i<n->j<n->P s->(∀ s',P s'->C (lt i j) s')->cmp i j C s) {p:Array Nat} (hp:AllLt n p) {Q:Nat->Vx->Prop}:∀ (f k:Nat) (s:Vx),P s ->
  (∀ m s',P s'->k<=m->m<=k+f->(∀ i,k<=i->i<m->lt (p.getD i 0) (p.getD (i - 1) 0)=false)->(m<k+f->lt (p.getD m 0) (p.getD (m - 1) 0)=true)->Q m s')->(kas_asc p f k).kasWp cmp Q s
 | 0,k,s,hs,h=>h k s hs (PR _) (PR _) (λi h1 h2=>by lia) λh1=>by lia
 | f+1,k,s,hs,h=>by
  refine cv _ _ _ s (hp _) (hp _) hs λs' hs'=>?_;cases hc:lt (p.getD k 0) (p.getD (k - 1) 0) with
  | true=>
   show KasT.kasWp cmp (if true=true then KasT.ret k else kas_asc p f (k+1)) Q s';rw [if_pos rfl];exact h k s' hs' (PR _) (by lia) (λi h1 h2=>by lia) λ_=>hc
  | false=>
   show KasT.kasWp cmp (if false=true then KasT.ret k else kas_asc p f (k+1)) Q s';rw [if_neg P6];refine (zD cv hp f (k+1) s' hs' λm s'' M7 h1 h2 h3 h4=>h m s'' M7 (by lia) (by lia) (λi h5 h6=>?_) λh5=>h4 (by lia));by_cases e:i=k
   ·rw [e];exact hc
   ·exact h3 i (by lia) h6
def Alike (lt:Nat->Nat->Bool) (p:Array Nat) (k q:Nat):Prop:=∀ i,k - (q+1)<=i->i<k->lt (p.getD (k - 1) 0) (p.getD i 0)=false
theorem vc (W:qP n lt) {p:Array Nat}{k q:Nat} (hp:AllLt n p) (hk:k<=p.size) (hq:q+1<=k) (hd:kJ lt p k) (ha:Alike lt p k q):kJ lt (kas_rev p (k - (q+1)) k) k:=by
 intro i j hij hj;rw [eA hk,eA hk];have eqv:∀ a b,k - (q+1)<=a->a<k->k - (q+1)<=b->b<k->lt (p.getD a 0) (p.getD b 0)=false:=λa b h1 h2 h3 h4=>
  W.trans (hp b) (hp (k - 1)) (hp a) (ha b h3 h4) (hd a (k - 1) (by lia) (by lia))
 by_cases hi:k - (q+1)<=i
 ·rw [if_pos ⟨hi,by lia⟩,if_pos ⟨by lia,hj⟩];exact eqv _ _ (by lia) (by lia) (by lia) (by lia)
 ·rw [if_neg (by lia)];by_cases hj2:k - (q+1)<=j
  ·rw [if_pos ⟨hj2,hj⟩];exact hd _ _ (by lia) (by lia)
  ·rw [if_neg (by lia)];exact hd i j hij hj
theorem jq (W:qP n lt) {p:Array Nat}{k:Nat} (hp:AllLt n p) (h1:1<=k) (hd:kJ lt p k) (h:lt (p.getD (k - 1) 0) (p.getD k 0)=false):kJ lt p (k+1):=by
 intro i j hij hj;by_cases e:j=k
 ·subst e;by_cases e2:i=j
  ·subst e2;exact W.irrefl _ (hp _)
  ·exact W.trans (hp _) (hp (j - 1)) (hp _) h (hd i (j - 1) (by lia) (by lia))
 ·exact hd i j hij (by lia)
theorem rm (W:qP n lt) (cv:∀ i j C s,i<n->j<n->P s->(∀ s',P s'->C (lt i j) s')->cmp i j C s) (hn:0<n) {Q:Array Nat×Nat×Nat->Vx->Prop}:∀ (f:Nat) (p:Array Nat) (k q:Nat) (s:Vx),P s->AllLt n p->k+f<=p.size->q+1<=k->kJ lt p k->Alike lt p k q ->
  (∀ p' k' q' s',P s'->p'.Perm p->k<=k'->k'<=k+f->q' + 1<=k'->kJ lt p' k'->Alike lt p' k' q'->Q (p',k',q') s')->(kas_desc f p k q).kasWp cmp Q s
 | 0,p,k,q,s,hs,hp,hz,hq,hd,ha,h=>h p k q s hs (Array.Perm.refl _) (PR _) (PR _) hq hd ha
 | f+1,p,k,q,s,hs,hp,hz,hq,hd,ha,h=>by
  refine cv _ _ _ s (hp _) (hp _) hs λs' hs'=>?_;cases hc:lt (p.getD k 0) (p.getD (k - 1) 0) with
  | true=>
   have hlt:lt (p.getD (k - 1) 0) (p.getD k 0)=false:=W.asymm _ _ (hp _) (hp _) hc;show KasT.kasWp cmp (if true=true then (if q > 0 then kas_desc f (kas_rev p (k - (q+1)) k) (k+1) 0 else kas_desc f p (k+1) 0) else _) Q s';rw [if_pos rfl]
   split
   ·have bi:(kas_rev p (k - (q+1)) k).Perm p:=mirror_perm _ _ _ _;have hp2:=hp.perm hn bi;have hsz:(kas_rev p (k - (q+1)) k).size=p.size:=mirror_size _ _ _ _;have hd2:=vc W hp (by lia) hq hd ha;refine rm W cv hn f _ (k+1) 0 s' hs' hp2 (by rw [hsz];lia) (by lia) (jq W hp2 (by lia) hd2 ?_) (λi h1 h2=>?_) λp' k' q' s'' a b c d e=>h p' k' q' s'' a (b.trans bi) (by lia) (by lia) e
    ·rw [eA (by lia),eA (by lia),if_pos ⟨by lia,by lia⟩,if_neg (by lia)];refine W.trans (hp _) (hp (k - 1)) (hp _) hlt ?_;exact hd _ _ (by lia) (by lia)
    ·have:i=k+1 - 1:=by lia
     rw [this];exact W.irrefl _ (hp2 _)
   ·refine rm W cv hn f _ (k+1) 0 s' hs' hp (by lia) (by lia) (jq W hp (by lia) hd hlt) (λi h1 h2=>?_) λp' k' q' s'' a b c d e=>h p' k' q' s'' a b (by lia) (by lia) e;have:i=k+1 - 1:=by lia
    rw [this];exact W.irrefl _ (hp _)
  | false=>
   show KasT.kasWp cmp (if false=true then _ else KasT.ask (p.getD (k - 1) 0) (p.getD k 0) λd=>if d=true then KasT.ret (p,k,q) else kas_desc f p (k+1) (q+1)) Q s';rw [if_neg P6];refine cv _ _ _ s' (hp _) (hp _) hs' λs2 hs2=>?_;cases hc2:lt (p.getD (k - 1) 0) (p.getD k 0) with
   | true=>
    show KasT.kasWp cmp (if true=true then KasT.ret (p,k,q) else _) Q s2;rw [if_pos rfl];exact h p k q s2 hs2 (Array.Perm.refl _) (PR _) (by lia) hq hd ha
   | false=>
    show KasT.kasWp cmp (if false=true then _ else kas_desc f p (k+1) (q+1)) Q s2;rw [if_neg P6];refine rm W cv hn f _ (k+1) (q+1) s2 hs2 hp (by lia) (by lia) (jq W hp (by lia) hd hc2) (λi h1 h2=>?_) λp' k' q' s'' a b c d e=>h p' k' q' s'' a b (by lia) (by lia) e;rw [show k+1 - 1=k by lia];by_cases e:i=k
    ·rw [e];exact W.irrefl _ (hp _)
    ·exact W.trans (hp _) (hp (k - 1)) (hp _) (ha i (by lia) (by lia)) hc
theorem yC (W:qP n lt) (cv:∀ i j C s,i<n->j<n->P s->(∀ s',P s'->C (lt i j) s')->cmp i j C s) (hn:0<n) {p:Array Nat}{k my:Nat}{s:Vx}{Q:Nat×Array Nat->Vx->Prop} (hs:P s) (hp:AllLt n p) (hk:k<=my) (h1:1<=k) (hz:my<=p.size) (hd:kJ lt p k)
  (h:∀ m p' s',P s'->p'.Perm p->1<=m->m<=my->pH lt p' m->Q (m,p') s'):(kas_tail3 k my p).kasWp cmp Q s:=by
 unfold kas_tail3;rw [KasT.kasWp_bind];have bi:(kas_rev p 0 k).Perm p:=mirror_perm _ _ _ _;have hp2:=hp.perm hn bi;have up:pH lt (kas_rev p 0 k) k:=λi j hij hj=>by
  rw [eA (by lia),eA (by lia),if_pos ⟨by lia,hj⟩,if_pos ⟨by lia,by lia⟩];exact hd _ _ (by lia) (by lia)
 refine zD cv hp2 _ _ s hs λm s' hs' a b c d=>?_;exact h m _ s' hs' bi (by lia) (by lia) (up.BL W hp2 h1 c)
theorem qB (W:qP n lt) (cv:∀ i j C s,i<n->j<n->P s->(∀ s',P s'->C (lt i j) s')->cmp i j C s) (hn:0<n) {p:Array Nat}{k my:Nat}{s:Vx}{Q:Nat×Array Nat->Vx->Prop} (hs:P s) (hp:AllLt n p) (hk:k+1<=my) (h1:1<=k) (hz:my<=p.size) (hd:kJ lt p (k+1))
  (h:∀ m p' s',P s'->p'.Perm p->1<=m->m<=my->pH lt p' m->Q (m,p') s'):(kas_descPart k my p).kasWp cmp Q s:=by
 unfold kas_descPart;rw [KasT.kasWp_bind];refine rm W cv hn _ p (k+1) 0 s hs hp (by lia) (by lia) hd (λi h2 h3=>?_) λp' k' q' s' hs' bi a b c d e=>?_
 ·have:i=k+1 - 1:=by lia
  rw [this];exact W.irrefl _ (hp _)
 ·have hsz:p'.size=p.size:=bi.size_eq;have hp':=hp.perm hn bi;dsimp only
  split
  ·have Gr:(kas_rev p' (k' - (q' + 1)) k').Perm p':=mirror_perm _ _ _ _;have Pl:(kas_rev p' (k' - (q' + 1)) k').size=p'.size:=mirror_size _ _ _ _;exact yC W cv hn hs' (hp'.perm hn Gr) (by lia) (by lia) (by lia) (vc W hp' (by lia) c d e) λm p2 s2 x y z w v=>h m p2 s2 x (y.trans (Gr.trans bi)) z w v
  ·exact yC W cv hn hs' hp' (by lia) (by lia) (by lia) d λm p2 s2 x y z w v=>h m p2 s2 x (y.trans bi) z w v
theorem EK (W:qP n lt) (cv:∀ i j C s,i<n->j<n->P s->(∀ s',P s'->C (lt i j) s')->cmp i j C s) (hn:0<n) {p:Array Nat}{my:Nat}{s:Vx}{Q:Nat×Array Nat->Vx->Prop} (hs:P s) (hp:AllLt n p) (h1:1<=my) (hz:my<=p.size)
  (h:∀ m p' s',P s'->p'.Perm p->1<=m->m<=my->pH lt p' m->Q (m,p') s'):(kas_count my p).kasWp cmp Q s:=by
 unfold kas_count;rw [KasT.kasWp_bind];refine zD cv hp _ _ s hs λm s' hs' a b c d=>?_;have up1:pH lt p 1:=λi j hij hj=>by
  have:i=0:=by lia
  have:j=0:=by lia
  subst_vars;exact W.irrefl _ (hp _)
 have up:pH lt p m:=up1.BL W hp (PR _) c;by_cases e:m=my
 ·rw [if_pos (by simpa using e)];exact h m p s' hs' (Array.Perm.refl _) a (by lia) up
 ·rw [if_neg (by simpa using e)];have hlt:lt (p.getD m 0) (p.getD (m - 1) 0)=true:=d (by lia);have hle:lt (p.getD (m - 1) 0) (p.getD m 0)=false:=W.asymm _ _ (hp _) (hp _) hlt
  split
  ·refine cv _ _ _ s' (hp _) (hp _) hs' λs2 hs2=>?_;cases hc:lt (p.getD 0 0) (p.getD (m - 1) 0) with
   | true=>
    show KasT.kasWp cmp (if true=true then KasT.ret (m,p) else _) Q s2;rw [if_pos rfl];exact h m p s2 hs2 (Array.Perm.refl _) a (by lia) up
   | false=>
    show KasT.kasWp cmp (if false=true then _ else kas_descPart m my (kas_rev p 0 m)) Q s2;rw [if_neg P6];have bi:(kas_rev p 0 m).Perm p:=mirror_perm _ _ _ _;have hsz:(kas_rev p 0 m).size=p.size:=mirror_size _ _ _ _;have hp2:=hp.perm hn bi;have al:∀ i j,i<m->j<m->lt (p.getD i 0) (p.getD j 0)=false:=λi j hi hj=>by
     have x1:lt (p.getD i 0) (p.getD (m - 1) 0)=false:=W.trans (hp _) (hp 0) (hp _) hc (by
      have y1:lt (p.getD (m - 1) 0) (p.getD i 0)=false:=up i (m - 1) (by lia) (by lia);cases q:lt (p.getD i 0) (p.getD 0 0) with
      | false=>rfl
      | true=>
       have y2:=up 0 i (Qb _) hi;rw [y2] at q;cases q)
     exact W.trans (hp _) (hp (m - 1)) (hp _) (up j (m - 1) (by lia) (by lia)) x1
    refine qB W cv hn hs2 hp2 (by lia) a (by lia) (jq W hp2 a (λi j hij hj=>?_) ?_) λm' p2 s3 x y z w v=>h m' p2 s3 x (y.trans bi) z w v
    ·rw [eA (by lia),eA (by lia),if_pos ⟨by lia,by lia⟩,if_pos ⟨by lia,by lia⟩];exact al _ _ (by lia) (by lia)
    ·rw [eA (by lia),eA (by lia),if_pos ⟨by lia,by lia⟩,if_neg (by lia)];exact W.trans (hp _) (hp (m - 1)) (hp _) hle (al _ _ (by lia) (by lia))
  ·have hm:m=1:=by lia
   refine qB W cv hn hs' hp (by lia) a hz (jq W hp a (λi j hij hj=>?_) hle) h;have:i=0:=by lia
   have:j=0:=by lia
   subst_vars;exact W.irrefl _ (hp _)
theorem tR (W:qP n lt) (cv:∀ i j C s,i<n->j<n->P s->(∀ s',P s'->C (lt i j) s')->cmp i j C s) {p:Array Nat} (hp:AllLt n p) {k:Nat} (up:pH lt p k) {Q:Nat->Vx->Prop}:∀ (f l r:Nat) (s:Vx),P s->l<=r->r<=k->r - l<=f ->
  (∀ i,i<l->lt (p.getD k 0) (p.getD i 0)=false)->(∀ i,r<=i->i<k->lt (p.getD k 0) (p.getD i 0)=true) ->
  (∀ m s',P s'->m<=k->(∀ i,i<m->lt (p.getD k 0) (p.getD i 0)=false)->(∀ i,m<=i->i<k->lt (p.getD k 0) (p.getD i 0)=true)->Q m s')->(kas_place p k f l r).kasWp cmp Q s
 | 0,l,r,s,hs,h1,h2,h3,h4,h5,h=>h l s hs (by lia) h4 λi a b=>h5 i (by lia) b
 | f+1,l,r,s,hs,h1,h2,h3,h4,h5,h=>by
  unfold kas_place;by_cases e:l ≥ r
  ·rw [if_pos e];exact h l s hs (by lia) h4 λi a b=>h5 i (by lia) b
  ·rw [if_neg e];refine cv _ _ _ s (hp _) (hp _) hs λs' hs'=>?_;cases hc:lt (p.getD k 0) (p.getD ((l+r) / 2) 0) with
   | true=>
    show KasT.kasWp cmp (if true=true then kas_place p k f l ((l+r) / 2) else _) Q s';rw [if_pos rfl];refine tR W cv hp up f l ((l+r) / 2) s' hs' (by lia) (by lia) (by lia) h4 (λi a b=>?_) h;rcases W.negTrans _ (p.getD i 0) _ (hp _) (hp _) (hp _) hc with z | z
    ·exact z
    ·have:=up ((l+r) / 2) i a b;rw [this] at z;cases z
   | false=>
    show KasT.kasWp cmp (if false=true then _ else kas_place p k f ((l+r) / 2+1) r) Q s';rw [if_neg P6];refine tR W cv hp up f ((l+r) / 2+1) r s' hs' (by lia) (by lia) (by lia) (λi a=>?_) h5 h;exact W.trans (hp _) (hp ((l+r) / 2)) (hp _) (up i ((l+r) / 2) (by lia) (by lia)) hc
theorem EC (W:qP n lt) (cv:∀ i j C s,i<n->j<n->P s->(∀ s',P s'->C (lt i j) s')->cmp i j C s) (hn:0<n) {Q:Array Nat->Vx->Prop}:∀ (f:Nat) (p:Array Nat) (k:Nat) (s:Vx),P s->AllLt n p->k+f<=p.size->pH lt p k ->
  (∀ p' s',P s'->p'.Perm p->pH lt p' (k+f)->Q p' s')->(kas_bin f p k).kasWp cmp Q s
 | 0,p,k,s,hs,hp,hz,up,h=>h p s hs (Array.Perm.refl _) up
 | f+1,p,k,s,hs,hp,hz,up,h=>by
  unfold kas_bin;rw [KasT.kasWp_bind];refine tR W cv hp up k 0 k s hs (Qb _) (PR _) (by lia) (λi a=>by lia) (λi a b=>by lia) λl s' hs' hl lo hi=>?_;have bi:(bubble p k (k - l)).Perm p:=bubble_perm _ _ _;have hsz:(bubble p k (k - l)).size=p.size:=bubble_size _ _ _;refine EC W cv hn f _ (k+1) s' hs' (hp.perm hn bi) (by rw [hsz];lia) (λi j hij hj=>?_) λp' s2 a b c=>h p' s2 a (b.trans bi) (by rw [show k+(f+1)=k+1+f by lia];exact c);rw [qd (by lia) hl,qd (by lia) hl];by_cases i1:i<l
  ·rw [if_pos i1];by_cases j1:j<l
   ·rw [if_pos j1];exact up i j hij (by lia)
   ·rw [if_neg j1];by_cases j2:j=l
    ·rw [if_pos j2];exact lo i i1
    ·rw [if_neg j2,if_pos (by lia)];exact up i (j - 1) (by lia) (by lia)
  ·rw [if_neg i1,if_neg (show ¬ j<l by lia)];by_cases i2:i=l
   ·rw [if_pos i2];by_cases j2:j=l
    ·rw [if_pos j2];exact W.irrefl _ (hp _)
    ·rw [if_neg j2,if_pos (by lia)];exact W.asymm _ _ (hp _) (hp _) (hi (j - 1) (by lia) (by lia))
   ·rw [if_neg i2,if_pos (show i<=k by lia),if_neg (show ¬ j=l by lia),if_pos (show j<=k by lia)];exact up (i - 1) (j - 1) (by lia) (by lia)
theorem BR (W:qP n lt) (cv:∀ i j C s,i<n->j<n->P s->(∀ s',P s'->C (lt i j) s')->cmp i j C s) (hn:0<n) {s:Vx}{Q:Array Nat->Vx->Prop} (hs:P s)
  (h:∀ p s',P s'->p.toList.Perm (List.range n)->pH lt p n->Q p s'):(kas_sort n).kasWp cmp Q s:=by
 unfold kas_sort;rw [KasT.kasWp_bind];have hp:AllLt n (List.toArray (List.range n)):=λi=>by
  by_cases hi:i<n
  ·simp [Array.getD,hi]
  ·simp [Array.getD,hi];exact hn
 have hz:(List.toArray (List.range n)).size=n:=by simp
 refine EK W cv hn hs hp (by lia) (by rw [hz];exact PR _) λm p' s' hs' bi a b up=>?_;have hsz:p'.size=n:=by rw [bi.size_eq];exact hz
 have toL:∀ {q:Array Nat},q.Perm (List.toArray (List.range n))->q.toList.Perm (List.range n):=λr=>by simpa using RY.mp r
 dsimp only
 split
 ·rw [show max m 1=m by lia];exact EC W cv hn _ p' m s' hs' (hp.perm hn bi) (by lia) up λp2 s2 x y z=>h p2 s2 x (toL (y.trans bi)) (by rw [show m+(n - m)=n by lia] at z;exact z)
 ·have:m=n:=by lia
  subst this;exact h p' s' hs' (toL bi) up
end
inductive Sh where
 | int | str | list (e:Sh) | oB | cu (a r:Sh)
def Sh.has:Sh->PyData->Prop
 | .int,d=>∃ i,d = .int i
 | .str,d=>∃ x,d = .str x
 | .list e,d=>∃ ds,d = .list ds/\∀ x∈ds,Sh.has e x
 | .oB,d=>d = .tuple []
 | .cu a r,d=>∃ x ds,d = .tuple (x::ds)/\Sh.has a x/\Sh.has r (.tuple ds)
structure tw (S:PyData->Prop):Prop where
 cmp:∀ d e,S d->S e->oA d e=true
 eqv:∀ d e,S d->S e->(PyData.eqv d e=true↔d=e)
 irr:∀ d,S d->ltv d d=false
 tot:∀ d e,S d->S e->ltv d e=false->ltv e d=false->d=e
 trans:∀ d e f,S d->S e->S f->ltv d e=true->ltv e f=true->ltv d f=true
theorem tw.asymm {S:PyData->Prop} (o:tw S) {d e:PyData} (hd:S d) (he:S e) (h:ltv d e=true):ltv e d=false:=by
 cases q:ltv e d with
 | false=>rfl
 | true=>
  have:=o.trans d e d hd he hd h q;rw [o.irr d hd] at this;cases this
theorem tw.neg {S:PyData->Prop} (o:tw S) {a b c:PyData} (ha:S a) (hb:S b) (hc:S c) (h:ltv a c=true):ltv a b=true\/ltv b c=true:=by
 cases q:ltv a b with
 | true=>exact .inl rfl
 | false=>
  cases q2:ltv b a with
  | true=>exact .inr (o.trans b a c hb ha hc q2 h)
  | false=>
   have:=o.tot a b ha hb q q2;subst this;exact .inr h
structure Mq (S:PyData->Prop) (L:List PyData->Prop):Prop where
 cmp:∀ d e,L d->L e->cF d e=true
 eqv:∀ d e,L d->L e->(PyData.eqvAll d e=true↔d=e)
 irr:∀ d,L d->aT d d=false
 tot:∀ d e,L d->L e->aT d e=false->aT e d=false->d=e
 trans:∀ d e f,L d->L e->L f->aT d e=true->aT e f=true->aT d f=true
theorem Gm {a b:PyData}{S:PyData->Prop} (o:tw S):Mq S (λl=>∀ x∈l,S x) where
 cmp:=by
  intro d
  induction d with
  | nil=>intro e _ _;rw [cF]
  | cons x xs ih=>
   intro e hd he;cases e with
   | nil=>rw [cF]
   | cons y ys=>
    rw [fM]
    split
    ·exact ih ys (λz hz=>hd z (PY _ hz)) λz hz=>he z (PY _ hz)
    ·exact o.cmp x y (hd x P5) (he y P5)
 eqv:=by
  intro d
  induction d with
  | nil=>
   intro e _ _;cases e with
   | nil=>simp [PyData.eqvAll]
   | cons y ys=>simp [PyData.eqvAll]
  | cons x xs ih=>
   intro e hd he;cases e with
   | nil=>simp [PyData.eqvAll]
   | cons y ys=>
    rw [PyData.eqvAll,Qt,o.eqv x y (hd x P5) (he y P5),ih ys (λz hz=>hd z (PY _ hz)) λz hz=>he z (PY _ hz)];simp
 irr:=by
  intro d
  induction d with
  | nil=>intro _;rw [aT]
  | cons x xs ih=>
   intro hd;rw [cx,if_pos ((o.eqv x x (hd x P5) (hd x P5)).mpr rfl)];exact ih λz hz=>hd z (PY _ hz)
 tot:=by
  intro d
  induction d with
  | nil=>
   intro e _ _ h1 h2;cases e with
   | nil=>rfl
   | cons y ys=>rw [aT] at h1;cases h1
  | cons x xs ih=>
   intro e hd he h1 h2;cases e with
   | nil=>rw [aT] at h2;cases h2
   | cons y ys=>
    have sx:=hd x P5;have sy:=he y P5;rw [cx] at h1 h2;by_cases e1:x=y
    ·subst e1;rw [if_pos ((o.eqv x x sx sx).mpr rfl)] at h1 h2;rw [ih ys (λz hz=>hd z (PY _ hz)) (λz hz=>he z (PY _ hz)) h1 h2]
    ·rw [if_neg (λz=>e1 ((o.eqv x y sx sy).mp z))] at h1;rw [if_neg (λz=>e1 ((o.eqv y x sy sx).mp z).symm)] at h2;exact absurd (o.tot x y sx sy h1 h2) e1
 trans:=by
  intro d
  induction d with
  | nil=>
   intro e f _ _ _ h1 h2;cases f with
   | nil=>cases e <;> (rw [aT] at h2;cases h2)
   | cons z zs=>rw [aT]
  | cons x xs ih=>
   intro e f hd he hf h1 h2;cases e with
   | nil=>rw [aT] at h1;cases h1
   | cons y ys=>
    cases f with
    | nil=>rw [aT] at h2;cases h2
    | cons z zs=>
     have sx:=hd x P5;have sy:=he y P5;have sz:=hf z P5;rw [cx] at h1 h2 ⊢;by_cases e1:x=y
     ·subst e1;rw [if_pos ((o.eqv x x sx sx).mpr rfl)] at h1;by_cases e2:x=z
      ·subst e2;rw [if_pos ((o.eqv x x sx sx).mpr rfl)] at h2 ⊢;exact ih ys zs (λw hw=>hd w (PY _ hw)) (λw hw=>he w (PY _ hw)) (λw hw=>hf w (PY _ hw)) h1 h2
      ·rw [if_neg (λw=>e2 ((o.eqv x z sx sz).mp w))] at h2 ⊢;exact h2
     ·rw [if_neg (λw=>e1 ((o.eqv x y sx sy).mp w))] at h1;by_cases e2:y=z
      ·subst e2;rw [if_neg (λw=>e1 ((o.eqv x y sx sy).mp w))];exact h1
      ·rw [if_neg (λw=>e2 ((o.eqv y z sy sz).mp w))] at h2;by_cases e3:x=z
       ·subst e3;have:=o.asymm sx sy h1;rw [this] at h2;cases h2
       ·rw [if_neg (λw=>e3 ((o.eqv x z sx sz).mp w))];exact o.trans x y z sx sy sz h1 h2
theorem Aq {x y:Str} (h1:decide (x.cps.toList<y.cps.toList)=false) (h2:decide (y.cps.toList<x.cps.toList)=false):x=y:=by
 have e:x.cps.toList=y.cps.toList:=List.le_antisymm (by simpa using h2) (by simpa using h1);cases x;cases y;simp only [Str.mk.injEq];exact QU.mp e
theorem Sh.ok:∀ sh:Sh,tw sh.has
 | .int=>by
  refine ⟨?_,?_,?_,?_,?_⟩
  ·rintro _ _ ⟨i,rfl⟩ ⟨j,rfl⟩;rw [oA]
  ·rintro _ _ ⟨i,rfl⟩ ⟨j,rfl⟩;simp [PyData.eqv]
  ·rintro _ ⟨i,rfl⟩;rw [ltv];simp
  ·rintro _ _ ⟨i,rfl⟩ ⟨j,rfl⟩ h1 h2;rw [ltv] at h1 h2;have:i=j:=by simp at h1 h2;lia
   rw [this]
  ·rintro _ _ _ ⟨i,rfl⟩ ⟨j,rfl⟩ ⟨k,rfl⟩ h1 h2;rw [ltv] at h1 h2 ⊢;simp at h1 h2 ⊢;lia
 | .str=>by
  refine ⟨?_,?_,?_,?_,?_⟩
  ·rintro _ _ ⟨i,rfl⟩ ⟨j,rfl⟩;rw [oA]
  ·rintro _ _ ⟨i,rfl⟩ ⟨j,rfl⟩;simp [PyData.eqv]
  ·rintro _ ⟨i,rfl⟩;rw [ltv];exact decide_eq_false (List.lt_irrefl _)
  ·rintro _ _ ⟨i,rfl⟩ ⟨j,rfl⟩ h1 h2;rw [ltv] at h1 h2;rw [Aq h1 h2]
  ·rintro _ _ _ ⟨i,rfl⟩ ⟨j,rfl⟩ ⟨k,rfl⟩ h1 h2;rw [ltv] at h1 h2 ⊢;exact decide_eq_true (List.lt_trans (of_decide_eq_true h1) (of_decide_eq_true h2))
 | .list e=>by
  have L:=Gm (a:=.none) (b:=.none) (Sh.ok e);refine ⟨?_,?_,?_,?_,?_⟩
  ·rintro _ _ ⟨i,rfl,hi⟩ ⟨j,rfl,hj⟩;rw [oA];exact L.cmp i j hi hj
  ·rintro _ _ ⟨i,rfl,hi⟩ ⟨j,rfl,hj⟩;rw [PyData.eqv,L.eqv i j hi hj];simp
  ·rintro _ ⟨i,rfl,hi⟩;rw [ltv];exact L.irr i hi
  ·rintro _ _ ⟨i,rfl,hi⟩ ⟨j,rfl,hj⟩ h1 h2;rw [ltv] at h1 h2;rw [L.tot i j hi hj h1 h2]
  ·rintro _ _ _ ⟨i,rfl,hi⟩ ⟨j,rfl,hj⟩ ⟨k,rfl,hk⟩ h1 h2;rw [ltv] at h1 h2 ⊢;exact L.trans i j k hi hj hk h1 h2
 | .oB=>by
  refine ⟨?_,?_,?_,?_,?_⟩
  ·rintro _ _ rfl rfl;rw [oA,cF]
  ·rintro _ _ rfl rfl;simp [PyData.eqv,PyData.eqvAll]
  ·rintro _ rfl;rw [ltv,aT]
  ·rintro _ _ rfl rfl _ _;rfl
  ·rintro _ _ _ rfl rfl rfl h1 h2;rw [ltv,aT] at h1;cases h1
 | .cu a r=>by
  have oa:=Sh.ok a;have or:=Sh.ok r;refine ⟨?_,?_,?_,?_,?_⟩
  ·rintro _ _ ⟨x,xs,rfl,hx,hxs⟩ ⟨y,ys,rfl,hy,hys⟩;have:=or.cmp _ _ hxs hys;rw [oA] at this ⊢;rw [fM]
   split
   ·exact this
   ·exact oa.cmp x y hx hy
  ·rintro _ _ ⟨x,xs,rfl,hx,hxs⟩ ⟨y,ys,rfl,hy,hys⟩;have:=or.eqv _ _ hxs hys;rw [PyData.eqv] at this ⊢;rw [PyData.eqvAll,Qt,oa.eqv x y hx hy,this];simp
  ·rintro _ ⟨x,xs,rfl,hx,hxs⟩;have:=or.irr _ hxs;rw [ltv] at this ⊢;rw [cx,if_pos ((oa.eqv x x hx hx).mpr rfl)];exact this
  ·rintro _ _ ⟨x,xs,rfl,hx,hxs⟩ ⟨y,ys,rfl,hy,hys⟩ h1 h2;have ih:=or.tot _ _ hxs hys;rw [ltv] at h1 h2 ih;rw [ltv] at ih;rw [cx] at h1 h2;by_cases e1:x=y
   ·subst e1;rw [if_pos ((oa.eqv x x hx hx).mpr rfl)] at h1 h2;have:=ih h1 h2;injection this with this;rw [this]
   ·rw [if_neg (λw=>e1 ((oa.eqv x y hx hy).mp w))] at h1;rw [if_neg (λw=>e1 ((oa.eqv y x hy hx).mp w).symm)] at h2;exact absurd (oa.tot x y hx hy h1 h2) e1
  ·rintro _ _ _ ⟨x,xs,rfl,hx,hxs⟩ ⟨y,ys,rfl,hy,hys⟩ ⟨z,zs,rfl,hz,hzs⟩ h1 h2;have ih:=or.trans _ _ _ hxs hys hzs;rw [ltv,ltv,ltv] at ih;rw [ltv] at h1 h2 ⊢;rw [cx] at h1 h2 ⊢;by_cases e1:x=y
   ·subst e1;rw [if_pos ((oa.eqv x x hx hx).mpr rfl)] at h1;by_cases e2:x=z
    ·subst e2;rw [if_pos ((oa.eqv x x hx hx).mpr rfl)] at h2 ⊢;exact ih h1 h2
    ·rw [if_neg (λw=>e2 ((oa.eqv x z hx hz).mp w))] at h2 ⊢;exact h2
   ·rw [if_neg (λw=>e1 ((oa.eqv x y hx hy).mp w))] at h1;by_cases e2:y=z
    ·subst e2;rw [if_neg (λw=>e1 ((oa.eqv x y hx hy).mp w))];exact h1
    ·rw [if_neg (λw=>e2 ((oa.eqv y z hy hz).mp w))] at h2;by_cases e3:x=z
     ·subst e3;have:=oa.asymm hx hy h1;rw [this] at h2;cases h2
     ·rw [if_neg (λw=>e3 ((oa.eqv x z hx hz).mp w))];exact oa.trans x y z hx hy hz h1 h2
theorem uu {S:PyData->Prop} (o:tw S):∀ {l l':List PyData},(∀ x∈l,S x)->l.Perm l'->l.Pairwise (λa b=>ltv b a=false)->l'.Pairwise (λa b=>ltv b a=false)->l=l':=by
 intro l l' hS hp h1 h2;refine List.Perm.eq_of_pairwise (le:=λa b=>ltv b a=false) ?_ h1 h2 hp;intro a b ha hb x y;exact o.tot a b (hS a ha) (hS b (hp.mem_iff.mpr hb)) y x
inductive jO:Sh->Bool->Prop
 | int:jO .int true
 | str:jO .str true
 | oB:jO .oB false
 | cu (a r:Sh):jO (.cu a r) false
section
variable {X:Cx}{pins:List (Addr×Obj)}{σ:St}{H:Hp}{s:Vx}
theorem jn {xs:List V}{us:List Vy} (r:aS xs us) (i:Nat):RelV (xs.getD i .non) (us.getD i .none):=by
 rw [Qf,Qf];cases e:xs[i]? with
 | none=>rw [r.none_of e];rfl
 | some x=>
  obtain ⟨u,hu,ru⟩:=r.get e;rw [hu];exact ru
theorem aA.Ep {K:Vz}{xs:List V}{ds:List PyData} (h:aA K H xs ds) (i:Nat) (hi:i<ds.length):Den K H (xs.getD i .non) (ds.getD i .none):=by
 have e:ds[i]? = some ds[i]:=by simp [hi]
 obtain ⟨x,hx,hd⟩:=h.getD e;rw [Qf,Qf,hx,e];exact hd
theorem EE {a r:Sh}:∀ {ks:List V}{us:List Vy}{kds:List PyData},Inv X pins σ H s->aS ks us->aA X.K H ks kds->(∀ d∈kds,(Sh.cu a r).has d) ->
  ∃ fs:List Vy,KatTups s.heap us fs/\fs.length=us.length/\∀ f∈fs,∃ d as,a.has d/\Reads s.heap f d as
 | _,_,_,I,.nil,.nil,_=>⟨[],.nil,rfl,λ_ h=>by cases h⟩
 | _,_,_,I,.cons rv rr,.cons hd ht,hs=>by
  obtain ⟨fs,h1,h2,h3⟩:=EE I rr ht λd hd=>hs d (PY _ hd);obtain ⟨x,ds,e,hx,_⟩:=hs _ P5;subst e;cases hd with
  | tup hq t=>
   cases rv;obtain ⟨its,rv',⟨o,eo,c,n,dt⟩,_⟩:=I.tuple hq;cases t with
   | cons hd0 t0=>
    cases rv' with
    | @cons v0 u0 vs0 us0 r0 rr0=>
     obtain ⟨as,ra⟩:=I.reads hd0 r0;refine ⟨u0::fs,.cons eo c dt (by simp) h1,by simp [h2],λf hf=>?_⟩;rcases Qi.mp hf with e | hf
     ·subst e;exact ⟨x,as,hx,ra⟩
     ·exact h3 f hf
theorem yq {a:Sh}{b:Bool} (hf:jO a b):∃ T:Vy,(T == T)=true/\(T != Value.type "tuple")=b/\∀ (M:Model) (h:Heap) (f:Vy) (d:PyData) (as:List Addr),a.has d->Reads h f d as->Looks M h (typeOf f) T:=by
 cases hf with
 | int=>exact ⟨.type "int",by decide,by decide,λM h f d as hd r=>by obtain ⟨i,rfl⟩:=hd;cases r;exact .of_pure rfl⟩
 | str=>exact ⟨.type "str",by decide,by decide,λM h f d as hd r=>by obtain ⟨i,rfl⟩:=hd;cases r;exact .of_pure rfl⟩
 | oB=>exact ⟨.type "tuple",by decide,by decide,λM h f d as hd r=>by
   have e:d = .tuple []:=hd;subst e;cases r with
   | tuple h1 h2 h3 h4=>rw [<-h2];exact (Looks.ld h1).andThen .now⟩
 | cu a r=>exact ⟨.type "tuple",by decide,by decide,λM h f d as hd r=>by
   obtain ⟨x,ds,rfl,_,_⟩:=hd;cases r with
   | tuple h1 h2 h3 h4=>rw [<-h2];exact (Looks.ld h1).andThen .now⟩
theorem yl {a r:Sh}{b:Bool}{A:Around} (hf:jO a b) {ks:List V}{us:List Vy}{kds:List PyData} (I:Inv X pins σ H s) (hv:aS ks us) (hd:aA X.K H ks kds) (hs:∀ d∈kds,(Sh.cu a r).has d) (Al:∀ d∈kds,d.depth<=100)
  (h2:2<=us.length) (hu:A.units+101<cLine) {G:Array Nat->Vx->Prop}
  (h:∀ p:Array Nat,p.toList.Perm (List.range us.length)->(∀ i j,i<=j->j<us.length->ltv (kds.getD (p.getD j 0) .none) (kds.getD (p.getD i 0) .none)=false)->G p s) :
  wpAny (model X.prog X.w) A (keyKind' us.toArray) (λκ s'=>(kas_sort us.length).kasWp (kas_ask X.prog X.w A κ us) G s') (λ_ _=>False) s:=by
 obtain ⟨fs,t1,t2,t3⟩:=EE I hv hd hs;obtain ⟨T,hT1,hT2,hT3⟩:=yq hf;refine kat_kind t1 (by lia) (λf hf=>?_) hT1 ?_
 ·obtain ⟨d,as,x,y⟩:=t3 f hf;exact hT3 _ _ f d as x y
 rw [hT2];have l1:us.length=kds.length:=by rw [<-hv.length];exact hd.length
 have o:=Sh.ok (.cu a r);have nJ:∀ i,i<us.length->(Sh.cu a r).has (kds.getD i .none):=λi hi=>by
  have e:kds[i]? = some kds[i]:=by simp [<-l1,hi]
  (rw [Qf,e])
  exact hs _ (QE _)
 have hdp:∀ i,i<us.length->(kds.getD i .none).depth<=100:=λi hi=>by
  have e:kds[i]? = some kds[i]:=by simp [<-l1,hi]
  (rw [Qf,e])
  exact Al _ (QE _)
 refine BR (n:=us.length) (lt:=λi j=>ltv (kds.getD i .none) (kds.getD j .none)) (P:=λs'=>s' = s) ⟨λi hi=>o.irr _ (nJ i hi),λi j k hi hj hk q=>o.neg (nJ i hi) (nJ j hj) (nJ k hk) q,λi j hi hj q=>o.asymm (nJ i hi) (nJ j hj) q⟩
  (λi j C s' hi hj e q=>?_) (by lia) rfl λp s' e hp up=>by subst e;exact h p hp up
 subst e;show wpAny (model X.prog X.w) A (keyLt' (tuples' b) (us.getD i .none) (us.getD j .none)) C (λ_ _=>False) s';have di:=hd.Ep i (by lia);have dj:=hd.Ep j (by lia);have ri:=jn hv i;have rj:=jn hv j;have hi':=nJ i hi;have hj':=nJ j hj;have pi:=hdp i hi;have qq:=q s' rfl;have cc:=o.cmp _ _ hi' hj';have lyi:=di.lay;have lyj:=dj.lay;revert di dj hi' hj' pi qq cc lyi lyj;generalize kds.getD i .none=d;generalize kds.getD j .none=e;intro di dj hi' hj' pi qq cc lyi lyj;obtain ⟨x,ds,rfl,hx,_⟩:=hi';obtain ⟨y,es,rfl,hy,_⟩:=hj';revert di dj ri rj;generalize ks.getD i .non=vi;generalize ks.getD j .non=vj;generalize us.getD i .none=ui;generalize us.getD j .none=uj;intro ri rj di dj;cases di with
 | tup qi ti=>
  cases dj with
  | tup qj tj=>
   cases ri;cases rj;obtain ⟨its,rv,⟨oi,ei,ci,ni,dti⟩,_⟩:=I.tuple qi;obtain ⟨jts,rw',⟨oj,ej,cj,nj,dtj⟩,_⟩:=I.tuple qj;obtain ⟨as,ra⟩:=I.readsAll ti rv;obtain ⟨bs,rb⟩:=I.readsAll tj rw';rw [ltv] at qq;rw [oA] at cc;rw [PyData.depth] at pi;refine Aj ei dti ej dtj (by simpa using ra) (by simpa using rb) lyi lyj cc (λd0 e0 h1 h3 hb=>?_) (by lia) qq;have e1:x=d0:=by simpa using h1
   have e2:y=e0:=by simpa using h3
   subst e1 e2;cases hf with
   | int=>obtain ⟨p,rfl⟩:=hx;obtain ⟨q,rfl⟩:=hy;exact .inl ⟨p,q,rfl,rfl⟩
   | str=>obtain ⟨p,rfl⟩:=hx;obtain ⟨q,rfl⟩:=hy;exact .inr ⟨p,q,rfl,rfl⟩
   | oB=>cases hb
   | cu _ _=>cases hb
theorem Inv.adopt {h':Heap}{t':Nat}{wr:List Addr}{a:Addr}{o:HO} (I:Inv X pins σ H s) (hf:∀ b∈wr,cE X pins H b) (ha:a∈wr) (k:∀ b o,b∉wr->s.heap.get? b=some o->h'.get? b=some o)
  (new:bU X.prog X.w (upd H a o) h' a o):Inv X pins σ (upd H a o) { s with heap:=h',toks:=t' }:=by
 have nit:∀ b u,H b=some u->b∉wr:=λb u e z=>by rw [(hf b z).1] at e;cases e
 have hfr:H a=none:=(hf a ha).1;refine I.step (g':=s.gens) (d':=s.drawn) (ch:=wr) (λb hb=>⟨(hf b hb).2.2.2.1,(hf b hb).2.1,(hf b hb).2.2.2.2.1,(hf b hb).2.2.2.2.2⟩) (λb o _ _ hc e _=>k b o hc e) (λb o _ _ hc e _=>⟨o.slots,k b o hc e⟩)
  (λb ob hc e n=>by rw [au (show b≠a from λz=>hc (by rw [z];exact ha))];exact n)
  (λb o hc e=>⟨o,k b o hc e⟩) (λb xs e=>by rw [au (aw e hfr)];exact e) (λb ob u e=>by rw [au (aw e hfr)];exact e) (λb ps e=>⟨#[],by rw [au (aw e hfr),e];simp⟩) (λm hm=>?_) (λb u e=>?_) I.bare
 ·obtain ⟨o,es,ep,ho,r⟩:=hm;exact ⟨o,es,ep,k _ o (λz=>(hf _ z).2.1 rfl) ho,r⟩
 ·by_cases hb:b=a
  ·subst hb;rw [ab] at e;cases e;exact new
  ·rw [au hb] at e;refine (I.hok b u e).xo (λc v hc q=>k c v ?_ q) (λc q=>by rw [au (aw q hfr)];exact q) λc xs q=>by rw [au (aw q hfr)];exact q
   rcases hc with z | z
   ·rw [z];exact nit b u e
   ·exact nit c _ z
def picked (xs:List V) (p:List Nat):List V:=p.map λi=>xs.getD i .non
theorem lA {xs:List V}{us:List Vy} (r:aS xs us):∀ p:List Nat,aS (picked xs p) (p.map λi=>us.getD i .none)
 | []=>.nil
 | i::p=>.cons (jn r i) (lA r p)
theorem nH (xs:List V) (p:List Nat):(picked xs p).length=p.length:=by simp [picked]
theorem gr {α:Type} (us:List α) (d:α):(List.range us.length).map (λi=>us.getD i d)=us:=by
 apply List.ext_getElem
 ·simp
 ·intro i h1 h2;simp [h2]
def gc (kds:List PyData) (p:List Nat):Prop:=(p.map λi=>kds.getD i .none).Pairwise λa b=>ltv b a=false
theorem yj {kds:List PyData}{p:Array Nat}{n:Nat} (hn:p.toList.length=n) (h:∀ i j,i<=j->j<n->ltv (kds.getD (p.getD j 0) .none) (kds.getD (p.getD i 0) .none)=false):gc kds p.toList:=by
 unfold gc
 (rw [R0])
 intro i j hi hj hij;simp only [List.getElem_map];have hi':i<p.size:=by simpa using hi
 have hj':j<p.size:=by simpa using hj
 have:=h i j (by lia) (by simp at hn;lia);have e1:p.getD i 0=p[i]:=by simp [Array.getD,hi']
 have e2:p.getD j 0=p[j]:=by simp [Array.getD,hj']
 rw [e1,e2] at this;simpa using this
theorem qA {kds:List PyData}{n:Nat} (hn:n<2):gc kds (List.range n):=by
 unfold gc
 match n,hn with
 | 0,_=>simp
 | 1,_=>simp
theorem qt {D:Addr}{n0:Nat}{vs:List Vy} (I:Inv X pins σ H s) (ho:s.heap.get? D=some (seqObj "list" vs.toArray n0)) (fD:cE X pins H D) :
  ∃ e1,(s.heap.update D (Obj.mapSeq λ_=>(#[]:Array Vy))).get? D=some (seqObj "list" #[] e1) /\
   ∀ h3,h3=((s.heap.update D (Obj.mapSeq λ_=>(#[]:Array Vy))).push (seqObj "tuple" vs.toArray 0)).push (seqObj "list" #[] 0)->h3.get? D=some (seqObj "list" #[] e1)/\Inv X pins σ H { s with heap:=h3 }:=by
 have gone:=get?_update_seq ho λ_=>(#[]:Array Vy);have rest:=(Heap.SameBut.update s.heap D (Obj.mapSeq λ_=>(#[]:Array Vy))).2;generalize s.heap.update D (Obj.mapSeq λ_=>(#[]:Array Vy))=h1 at gone rest;refine ⟨_,gone,λh3 e3=>?_⟩;have up:∀ c o,h1.get? c=some o->h3.get? c=some o:=λc o e=>e3 ▸ Vu _ (Vu _ e);refine ⟨up D _ gone,I.eD (t':=s.toks) (wr:=[D]) (λc hc=>?_) λc o hc e=>up c o ((rest c λz=>hc (z ▸ PZ.mpr rfl)).trans e)⟩;rw [PZ.mp hc];exact fD
theorem F4 {A:Around}{D:Addr}{n0:Nat}{xs:List V}{vs:List Vy}{ds:List PyData}{P:PySem.Fin->Vx->Prop}{E:Vy->Vx->Prop} (I:Inv X pins σ H s) (ho:s.heap.get? D=some (seqObj "list" vs.toArray n0)) (fD:cE X pins H D)
  (hv:aS xs vs) (eng:∀ (s':Vx) (G:Array Nat->Vx->Prop),Inv X pins σ H s'->2<=vs.length->(∀ p:Array Nat,p.toList.Perm (List.range vs.length)->(∀ i j,i<=j->j<vs.length->ltv (ds.getD (p.getD j 0) .none) (ds.getD (p.getD i 0) .none)=false)->G p s')->wpAny (model X.prog X.w) A (keyKind' vs.toArray) (λκ s''=>(kas_sort vs.length).kasWp (kas_ask X.prog X.w A κ vs) G s'') (λ_ _=>False) s') (h64:vs.length<64)
  (h:∀ (p:List Nat) (h':Heap),p.Perm (List.range xs.length)->gc ds p->Inv X pins σ (upd H D (.lst (picked xs p))) { s with heap:=h' }->P (.done (.ret .none)) { s with heap:=h' }) :
  wpAny (model X.prog X.w) A (Builtin.«list.sort» ⟨[.ref D],[]⟩) P E s:=by
 have hlen:=hv.length;obtain ⟨e1,ho1,at3⟩:=qt I ho fD;rw [list_sort_plain];refine Vw (listItems_at ho rfl (Vw (listUpdate_at ho rfl (Vw (seqEpoch_at ho1 rfl (Vw (wpAny_newTuple (Vw (wpAny_newList (Vs ?main) (Qb _))) ?short)))) ?few (Qb _))))
 case short=>show vs.length<=_;rw [sizeLine_eq];lia
 case few=>rw [P1,sizeLine_eq];lia
 case main=>
 show wpAny (model X.prog X.w) A _ P E { s with heap:=((s.heap.update D (Obj.mapSeq λ_=>(#[]:Array Vy))).push (seqObj "tuple" vs.toArray 0)).push (seqObj "list" #[] 0) };generalize hh3:((s.heap.update D (Obj.mapSeq λ_=>(#[]:Array Vy))).push (seqObj "tuple" vs.toArray 0)).push (seqObj "list" #[] 0)=h3;obtain ⟨hD3,I3⟩:=at3 h3 hh3.symm;have fin:∀ (p:List Nat) (out:Array Vy),p.Perm (List.range xs.length)->gc ds p->out=List.toArray (p.map λi=>vs.getD i Value.none) ->
   P (.done (.ret .none)) { s with heap:=h3.update D (Obj.mapSeq λ_=>out) }:=λp out hp kC eo=>by
  have sb:=Heap.SameBut.update h3 D (Obj.mapSeq λ_=>out);obtain ⟨c2,hc2⟩:∃ c2,(h3.update D (Obj.mapSeq λ_=>out)).get? D=some (seqObj "list" out c2):=⟨_,get?_update_seq hD3 λ_=>out⟩;have pl:p.length=xs.length:=by rw [hp.length_eq];simp
  refine h p _ hp kC (I3.adopt (t':=s.toks) (wr:=[D]) (a:=D) (λc hc=>by rw [show c=D by simpa using hc];exact fD) (by simp) (λc o hc e=>(sb.2 c (by simpa using hc)).trans e) ?_);refine ⟨by rw [nH,pl,sizeLine_eq];lia,p.map λi=>vs.getD i Value.none,c2,lA hv p,?_⟩;rw [hc2,eo]
 dsimp only;by_cases hn2:vs.toArray.size<2
 ·rw [if_pos hn2,if_pos hn2];refine Vw (Vv ?_);refine Vw ?_;show wpAny _ _ ((pure ():StateT SortSt Sem Unit).run _) _ _ _;rw [StateT.run_pure];refine Vv ?_;dsimp only;refine Vw (seqEpoch_at hD3 rfl ?_);have il:(arrOf (SortSt.mk' general' (vs.toArray.zip vs.toArray) #[] 7 none)).map (·.2)=vs.toArray:=by
   show (vs.toArray.zip vs.toArray).map (·.2)=vs.toArray
   apply QU.mp;simp [List.map_snd_zip]
  rw [il];refine Vw (listUpdate_at hD3 rfl ?_ (Qb _) (by show vs.toArray.size<=_;rw [P1,sizeLine_eq];lia))
  (simp only [bne_self_eq_false,Qu,if_false])
  refine Vv (fin (List.range xs.length) _ (List.Perm.refl _) (qA (by rw [P1] at hn2;lia)) ?_);rw [hlen,gr]
 ·rw [if_neg hn2,if_neg hn2];have h2:2<=vs.length:=by rw [P1] at hn2;lia
  refine Vw (Vt (eng _ (λp s'=>s' = { s with heap:=h3 }/\p.toList.Perm (List.range vs.length)/\gc ds p.toList) I3 h2 λp hp up=>⟨rfl,hp,yj (by rw [hp.length_eq];simp) up⟩) (λκ s0 hk=>?_) λ_ _ x=>x.elim);refine Vw (Vt (kat_run (Q:=λst' s'=>∃ p:Array Nat,arrOf st' = p.map (kas_item (vs.toArray.zip vs.toArray))/\failedOf st' = none/\s' = { s with heap:=h3 }/\p.toList.Perm (List.range vs.length)/\gc ds p.toList)
   rfl h2 h64 (λp' st' s' a1 a2 a3 a4=>⟨p',a2,a3,a4⟩) hk) ?_ λ_ _ e=>e)
  rintro ⟨⟨⟩,st'⟩ s' ⟨p,har,hfl,rfl,hp,kC⟩;dsimp only;have il:=kat_snds rfl har;rw [il];refine Vw (seqEpoch_at hD3 rfl ?_);refine Vw (listUpdate_at hD3 rfl ?_ (Qb _) (by rw [P1,PQ,hp.length_eq,QQ,sizeLine_eq];lia));rw [hfl]
  (simp only [bne_self_eq_false,Qu,if_false])
  exact Vv (fin p.toList _ (by rw [hlen];exact hp) kC rfl)
def lH (h:Heap) (vs:List Vy):Heap:=(h.push (seqObj "list" #[] 0)).update h.objs.size (Obj.mapSeq (· ++ vs.toArray))
theorem qF (h:Heap) (vs:List Vy):(lH h vs).objs.size=h.objs.size+1:=(Heap.size_update ..).trans (size_push' _ _)
theorem Cn (h:Heap) (vs:List Vy):((lH h vs).push (seqObj "list" vs.toArray 0)).get? (h.objs.size+1)=some (seqObj "list" vs.toArray 0):=by
 have q:((lH h vs).push (seqObj "list" vs.toArray 0)).get? (lH h vs).objs.size=some (seqObj "list" vs.toArray 0):=Heap.get?_push_size _ rfl
 rwa [qF] at q
theorem zc (h:Heap) (vs:List Vy):∀ b o,h.get? b=some o->((lH h vs).push (seqObj "list" vs.toArray 0)).get? b=some o:=λb o q=>
 Vu _ (((Heap.SameBut.update (h.push (seqObj "list" #[] 0)) h.objs.size (Obj.mapSeq (· ++ vs.toArray))).2 b (Qj (Heap.lt_size q))).trans (Vu _ q))
def tI (sp:Sp):List V->List V->Hp->(List V->Hp->Prop)->Prop
 | [],ks,H,Q=>Q ks H
 | x::r,ks,H,Q=>sp [x] H (λk H'=>tI sp r (ks++[k]) H' Q) E0
theorem Ac {k:Nat}{f D kS:Addr}{fd:FuncData}{ps:List Str}{sp:Sp}{oD:Obj}{xs:List V}{vs:List Vy}{Qk:List V->Hp->Prop}{e0:Nat}{body:Vy->PUnit->Sem (ForInStep PUnit)}{E:Vy->Vx->Prop}{R:PUnit->Vx->Prop}
  (F:ax X.prog X.w X.K X.mg X.base CX0 k f fd ps sp) (hr:bX (k+2) X.A) (hb:Binds X.K fd ps []) (hne:D≠kS) (hD:∀ v,oD.data ≠ .cell v)
  (jd:∀ x (us:List Vy) e (s:Vx) (C:Vy->Vx->Prop),us.length<64->s.heap.get? kS=some (seqObj "list" us.toArray e)->wpAny (model X.prog X.w) X.A.in1.in1 (call (.ref f) [x]) (λk s'=>∃ (us':List Vy) (e':Nat),us'.length<64/\s'.heap.get? kS=some (seqObj "list" us'.toArray e')/\C k s') (λ_ _=>False) s ->
   wpAny (model X.prog X.w) X.A.in1.in1 (body x ⟨⟩) (λr s'=>r = .yield ⟨⟩/\∃ k s1,C k s1/\s' = { s1 with heap:=s1.heap.update kS (Obj.mapSeq (·.push k)) }) E s)
  (hv:aS xs vs) (h64:vs.length<64) (I:Inv X pins σ H s) (fD:cE X pins H D) (fK:cE X pins H kS) (gD:s.heap.get? D=some oD) (gK:s.heap.get? kS=some (seqObj "list" ([]:List Vy).toArray e0)) (hk:tI sp xs [] H Qk)
  (done:∀ s' H' ks us e,Inv X pins σ H' s'->cE X pins H' D->cE X pins H' kS->s'.heap.get? D=some oD->s'.heap.get? kS=some (seqObj "list" us.toArray e)->aS ks us->ks.length=xs.length->Qk ks H'->R ⟨⟩ s') :
  wpAny (model X.prog X.w) X.A.in1.in1 (forIn vs PUnit.unit body) R E s:=by
 have hlen:=hv.length;refine ksk_fold (λj s'=>∃ H' ks us e,Inv X pins σ H' s'/\cE X pins H' D/\cE X pins H' kS/\s'.heap.get? D=some oD/\s'.heap.get? kS=some (seqObj "list" us.toArray e)/\aS ks us/\ks.length=j/\tI sp (xs.drop j) ks H' Qk) vs 0 s
  ⟨H,[],[],e0,I,fD,fK,gD,gK,.nil,rfl,hk⟩ (λj x s' hx ⟨H',ks,us,e,I',fD',fK',gD',gK',rk,lk,tk⟩=>?_) λs' ⟨H',ks,us,e,I',fD',fK',gD',gK',rk,lk,tk⟩=>?_
 ·rw [Se] at tk lk
  (have hj:j<vs.length:=(QP.mp hx).1)
  have hjx:j<xs.length:=by lia
  have ex:xs[j]? = some xs[j]:=by simp [hjx]
  obtain ⟨u,hu,ru⟩:=hv.get ex;rw [hx] at hu;cases hu;rw [Qw hjx] at tk;have hl:=rk.length;have Ip:Inv X (pins++[(D,oD),(kS,seqObj "list" us.toArray e)]) σ H' s':=I'.nN λp hp=>by
   (rcases Qc.mp hp with z | z)
   ·exact I'.pin p (Qo _ z)
   ·rcases Qi.mp z with z | z
    ·subst z;exact ⟨gD',fD'.1,fD'.2.1,fD'.2.2.1,hD⟩
    ·have z':p=(kS,seqObj "list" us.toArray e):=by simpa using z
     subst z';exact ⟨gK',fK'.1,fK'.2.1,fK'.2.2.1,λv q=>by cases q⟩
  have hlp:[x].length=ps.length:=F.len _ _ _ _ tk;have run:=F.run X.A.in1.in1 X.stack s' H' ⟨[x],[]⟩ [x] [xs[j]] _ E0 (hr.in1.in1) (Ip.xF.in1.in1) (by have:=hb s' [x] I'.kIn (by simpa using hlp);simpa using this) (.cons ru .nil) tk;refine Vt (jd x us e s' (λkv s1=>∃ v H1,Inv X (pins++[(D,oD),(kS,seqObj "list" us.toArray e)]) σ H1 s1/\RelV v kv/\tI sp (xs.drop (j+1)) (ks++[v]) H1 Qk) (by lia) gK' (wpAny_call (codeAny_mono run λr s1 hq=>?_))) (λr s2 hr2=>?_) λ_ _ z=>z
  ·cases r with
   | error er=>exact hq.elim
   | ok fl=>
    cases fl with
    | ret kv=>
     obtain ⟨v,H1,I1,r1,q1⟩:=Ip.after hq;refine ⟨us,e,by lia,(I1.pin (kS,seqObj "list" us.toArray e) (by simp)).1,v,H1,I1,r1,q1⟩
    | next=>exact False.elim hq
    | brk=>exact False.elim hq
    | cont=>exact False.elim hq
  ·obtain ⟨er,kv,s1,⟨v,H1,I1,r1,q1⟩,es⟩:=hr2;refine ⟨er,?_⟩;subst es;have pD:=I1.pin (D,oD) (by simp);have pK:=I1.pin (kS,seqObj "list" us.toArray e) (by simp);have I1':Inv X pins σ H1 s1:=I1.gO;have fD1:cE X pins H1 D:=⟨pD.2.1,fD'.2⟩;have fK1:cE X pins H1 kS:=⟨pK.2.1,fK'.2⟩;have sb:=Heap.SameBut.update s1.heap kS (Obj.mapSeq (·.push kv))
   have ea:us.toArray.push kv=(us++[kv]).toArray:=by simp
   obtain ⟨c2,hc2⟩:∃ c2,(s1.heap.update kS (Obj.mapSeq (·.push kv))).get? kS=some (seqObj "list" (us++[kv]).toArray c2):=⟨_,by rw [<-ea];exact get?_update_seq pK.1 (·.push kv)⟩
   have I2:Inv X pins σ H1 { s1 with heap:=s1.heap.update kS (Obj.mapSeq (·.push kv)) }:=I1'.eD (t':=s1.toks) (wr:=[kS]) (λc hc=>by rw [show c=kS by simpa using hc];exact fK1) λc o hc e=>(sb.2 c (by simpa using hc)).trans e
   refine ⟨H1,ks++[v],us++[kv],c2,I2,fD1,fK1,(sb.2 D hne).trans pD.1,hc2,rk.append (.cons r1 .nil),by simp [lk],?_⟩;rw [Se];exact q1
 ·rw [Se] at tk lk;rw [QH (by lia)] at tk;exact done s' H' ks us e I' fD' fK' gD' gK' rk (by lia) tk
theorem A1 {a r:Sh}{b:Bool}{k:Nat}{f D:Addr}{fd:FuncData}{ps:List Str}{sp:Sp}{n0:Nat} (hf:jO a b) {xs:List V}{vs:List Vy}{P:PySem.Fin->Vx->Prop}{E:Vy->Vx->Prop}
  (F:ax X.prog X.w X.K X.mg X.base CX0 k f fd ps sp) (hr:bX (k+2) X.A) (hb:Binds X.K fd ps []) (I:Inv X pins σ H s) (ho:s.heap.get? D=some (seqObj "list" vs.toArray n0)) (fD:cE X pins H D)
  (hv:aS xs vs) (h64:vs.length<64)
  {Qk:List V->Hp->Prop} (h:tI sp xs [] H Qk) (hQ:∀ ks H1,Qk ks H1->∃ kds,aA X.K H1 ks kds/\(∀ d∈kds,(Sh.cu a r).has d)/\(∀ d∈kds,d.depth<=100) /\
   ∀ (p:List Nat) (s':Vx),p.Perm (List.range xs.length)->gc kds p->H1 D=none->Inv X pins σ (upd H1 D (.lst (picked xs p))) s'->P (.done (.ret .none)) s') :
  wpAny (model X.prog X.w) X.A.in1.in1 (ksk_tree D (.ref f) false) P E s:=by
 have hu:X.A.in1.in1.units+101<cLine:=by show X.A.units+1+1+101<cLine;have:=hr.un;lia
 have hlen:=hv.length;obtain ⟨e1,ho1,at3⟩:=qt I ho fD;unfold ksk_tree;refine Vw (listItems_at ho rfl (Vw (listUpdate_at ho rfl (Vw (seqEpoch_at ho1 rfl (Vw (wpAny_newTuple (Vw (wpAny_newList (Vs ?main) (Qb _))) ?short)))) ?few (Qb _))))
 case short=>show vs.length<=_;rw [sizeLine_eq];lia
 case few=>rw [P1,sizeLine_eq];lia
 case main=>
 show wpAny (model X.prog X.w) X.A.in1.in1 (ksk_rest D (.ref f) false vs.toArray e1 (.ref ((s.heap.update D (Obj.mapSeq λ_=>(#[]:Array Vy))).push (seqObj "tuple" vs.toArray 0)).objs.size)) P E { s with heap:=((s.heap.update D (Obj.mapSeq λ_=>(#[]:Array Vy))).push (seqObj "tuple" vs.toArray 0)).push (seqObj "list" #[] 0) };have hsz:((s.heap.update D (Obj.mapSeq λ_=>(#[]:Array Vy))).push (seqObj "tuple" vs.toArray 0)).objs.size=s.heap.objs.size+1:=by rw [size_push',Heap.size_update]
 have gK:(((s.heap.update D (Obj.mapSeq λ_=>(#[]:Array Vy))).push (seqObj "tuple" vs.toArray 0)).push (seqObj "list" #[] 0)).get? (s.heap.objs.size+1)=some (seqObj "list" ([]:List Vy).toArray 0):=by
  (rw [<-hsz];exact Heap.get?_push_size _ rfl)
 rw [hsz];generalize hh3:((s.heap.update D (Obj.mapSeq λ_=>(#[]:Array Vy))).push (seqObj "tuple" vs.toArray 0)).push (seqObj "list" #[] 0)=h3 at gK;obtain ⟨hD3,I3⟩:=at3 h3 hh3.symm;have Nl:D<s.heap.objs.size:=Heap.lt_size ho;have hne:D≠s.heap.objs.size+1:=Qj (R4 Nl);have fK:cE X pins H (s.heap.objs.size+1):=I.xi (QO _) (I.hok.fresh (QO _));generalize s.heap.objs.size+1=kS at *;unfold ksk_rest;refine Vw (wpAny_rule ?_)
 first | rw [List.forIn_toArray] | (rw [<-Array.forIn_toList];simp only [List.toList_toArray])
 refine Vw (Ac (R:=λ_ s'=>wpAny (model X.prog X.w) X.A.in1.in1 (Builtin.List.listItems (.ref kS) >>= λkeys=>ksk_end D false vs.toArray e1 (.ref kS) keys) P E s') F hr hb hne (λv z=>by cases z) (λx us e s' C hz gk hx=>?_) hv h64 I3 fD fK hD3 gK h λs' H' ks us e I' fD' fK' gD' gK' rk lk qk=>?_)
 ·refine Vw (wpAny_attempt (Vt hx (λkv s'' hk=>?_) λ_ _ hF=>hF.elim));obtain ⟨us',e',hz',gk',c⟩:=hk
  try dsimp only
  refine Vw (listUpdate_at gk' rfl ?_ (by rw [P1,sizeLine_eq];lia) (P2 (Sg (Array.size_push ..)) (by rw [P1,sizeLine_eq];lia)));exact Vv ⟨rfl,kv,s'',c,rfl⟩
 ·obtain ⟨kds,hd,hs,Al,q⟩:=hQ _ _ qk;refine Vw (listItems_at gK' rfl ?_);have hl2:us.length=vs.length:=by rw [<-rk.length];lia
  have Lx:∀ (st:SortSt) (p:List Nat),(arrOf st).map (·.2)=List.toArray (p.map λi=>vs.getD i Value.none)->failedOf st=none->p.Perm (List.range xs.length)->gc kds p->wpAny (model X.prog X.w) X.A.in1.in1 (ksk_tail D false e1 (.ref kS) st) P E s':=λst p il hfl hp kC=>by
   have sk:=Heap.SameBut.update s'.heap kS (Obj.mapSeq λ_=>(#[]:Array Vy));have gD2:(s'.heap.update kS (Obj.mapSeq λ_=>(#[]:Array Vy))).get? D=some (seqObj "list" #[] e1):=(sk.2 D hne).trans gD';have pl:p.length=xs.length:=by rw [hp.length_eq];simp
   unfold ksk_tail
   try dsimp only
   rw [il];refine Vw (listUpdate_at gK' rfl ?_ (by rw [P1,sizeLine_eq];lia) (Qb _));refine Vw (wpAny_letGo ?_);refine Vw (seqEpoch_at gD2 rfl ?_);refine Vw (listUpdate_at gD2 rfl ?_ (Qb _) (by simp only [Qu,if_false];rw [P1,PQ,pl,sizeLine_eq];lia));rw [hfl]
   (simp only [bne_self_eq_false,Qu,if_false])
   refine Vv ?_;have sd:=Heap.SameBut.update (s'.heap.update kS (Obj.mapSeq λ_=>(#[]:Array Vy))) D (Obj.mapSeq λ_=>List.toArray (p.map λi=>vs.getD i Value.none));obtain ⟨c2,hc2⟩:∃ c2,((s'.heap.update kS (Obj.mapSeq λ_=>(#[]:Array Vy))).update D (Obj.mapSeq λ_=>List.toArray (p.map λi=>vs.getD i Value.none))).get? D=some (seqObj "list" (List.toArray (p.map λi=>vs.getD i Value.none)) c2):=⟨_,get?_update_seq gD2 λ_=>List.toArray (p.map λi=>vs.getD i Value.none)⟩;refine q p _ hp kC fD'.1 (I'.adopt (t':=s'.toks) (wr:=[D,kS]) (a:=D) (λc hc=>?_) (by simp) (λc o hc e=>?_) ⟨by rw [nH,pl,sizeLine_eq];lia,p.map λi=>vs.getD i Value.none,c2,lA hv p,hc2⟩)
   ·rcases Qi.mp hc with z | z
    ·rw [z];exact fD'
    ·rw [show c=kS by simpa using z];exact fK'
   ·exact (sd.2 c (λz=>hc (by simp [z]))).trans ((sk.2 c (λz=>hc (by simp [z]))).trans e)
  unfold ksk_end
  try dsimp only
  (simp only [Qu,if_false])
  by_cases hn2:vs.toArray.size<2
  ·rw [if_pos hn2,if_pos hn2];refine Vw (Vv ?_);refine Vw ?_;show wpAny _ _ ((pure ():StateT SortSt Sem Unit).run _) _ _ _;rw [StateT.run_pure];refine Vv ?_;dsimp only;refine Lx _ (List.range xs.length) ?_ rfl (List.Perm.refl _) (qA (by rw [P1] at hn2;lia));show (us.toArray.zip vs.toArray).map (·.2)=_
   rw [hlen,gr];apply QU.mp;simp [List.map_snd_zip,hl2]
  ·rw [if_neg hn2,if_neg hn2];have h2:2<=us.length:=by rw [P1] at hn2;lia
   refine Vw (Vt (yl (A:=X.A.in1.in1) (G:=λp s2=>s2=s'/\p.toList.Perm (List.range us.length)/\gc kds p.toList) hf I' rk hd hs Al h2 hu λp hp up=>⟨rfl,hp,yj (by rw [hp.length_eq];simp) up⟩) (λκ s0 hk=>?_) λ_ _ x=>x.elim);rw [hl2] at hk;refine Vw (Vt (kat_run (ks:=us) (vs:=vs) (Q:=λst' s2=>∃ p:Array Nat,arrOf st' = p.map (kas_item (us.toArray.zip vs.toArray))/\failedOf st' = none/\s2=s'/\p.toList.Perm (List.range vs.length)/\gc kds p.toList)
    hl2 (by lia) h64 (λp' st' s2 a1 a2 a3 a4=>⟨p',a2,a3,a4⟩) hk) ?_ λ_ _ e=>e)
   rintro ⟨⟨⟩,st'⟩ s2 ⟨p,har,hfl,rfl,hp,kC⟩;dsimp only;exact Lx st' p.toList (kat_snds hl2 har) hfl (by rw [hlen];exact hp) kC
def Fm (K:Vz) (a r:Sh) (sp:Sp):V->Hp->VK->Prop:=λx H Q=>∃ l xs,x = .ref l/\SqL K H l xs/\xs.length<64/\tI sp xs [] H λks H1=>
 ∃ kds,aA K H1 ks kds/\(∀ d∈kds,(Sh.cu a r).has d)/\(∀ d∈kds,d.depth<=100)/\∀ (D:Addr) (p:List Nat),H1 D=none->p.Perm (List.range xs.length)->gc kds p->Q (.ref D) (upd H1 D (.lst (picked xs p)))
theorem zW {a r:Sh}{b:Bool}{k:Nat}{f:Addr}{fd:FuncData}{ps:List Str}{sp:Sp}{x:V}{u:Vy}{Q:VK} (hf:jO a b) (F:ax X.prog X.w X.K X.mg X.base CX0 k f fd ps sp) (hr:bX (k+2) X.A) (hb:Binds X.K fd ps []) (I:Inv X pins σ H s) (rx:RelV x u) (h:Fm X.K a r sp x H Q) :
  wpAny (model X.prog X.w) X.A (call (.builtin "sorted") [u] [(Str.ofString "key",.ref f)]) (EP X pins σ Q) X.xe s:=by
 obtain ⟨l,ys,rfl,hq,h64,q⟩:=h;cases rx;obtain ⟨vs,r,pl,_⟩:=I.list hq;have hlen:=r.length;refine call_function_entry_kw kind_sorted plain_sorted entry_sorted (ksk_s1 _ _) ?_;unfold Builtin.«sorted»
 (refine Vw (m:=checkCount "sorted" 1 1 _) (Vv ?_))
 refine Vw (collect_list pl.isList ?_ (by rw [sizeLine_eq];lia))
 (refine Vw (wpAny_newList ?_ (by rw [sizeLine_eq];lia)))
 have hsz:=qF s.heap vs;have hoL:=Cn s.heap vs;have keep:=zc s.heap vs;show wpAny _ _ _ _ _ { s with heap:=(lH s.heap vs).push (seqObj "list" vs.toArray 0) };show wpAny _ _ (_ >>= λ_=>_) _ _ { s with heap:=(lH s.heap vs).push (seqObj "list" vs.toArray 0) };rw [show ((s.heap.push (seqObj "list" #[] 0)).update s.heap.objs.size (Obj.mapSeq (· ++ vs.toArray))).objs.size=s.heap.objs.size+1 from hsz]
 generalize (lH s.heap vs).push (seqObj "list" vs.toArray 0)=h2 at hoL keep ⊢;have I2:Inv X pins σ H { s with heap:=h2 }:=I.kept (t':=s.toks) keep;have hDn:H (s.heap.objs.size+1)=none:=I.hok.fresh (QO _);have fD:cE X pins H (s.heap.objs.size+1):=I.xi (QO _) hDn;refine Vw (Vs (wpAny_call_entry_kw slot_list_sort ⟨_,hoL,rfl⟩ entry_list_sort ?body (ksk_l1 _ _)))
 case body=>
  show wpAny (model X.prog X.w) X.A.in1.in1 (Builtin.«list.sort» ⟨[.ref (s.heap.objs.size+1)],[(Str.ofString "key",.ref f)]⟩) _ _ _;rw [ksk_t1];refine A1 (s:={ s with heap:=h2 }) hf F hr hb I2 hoL fD r (by lia) q λks H1 ⟨kds,hd,hs,Al,q2⟩=>⟨kds,hd,hs,Al,λp s' hp kC hn I'=>?_⟩;refine ⟨_,rfl,Vv ⟨_,rfl,?_⟩⟩;exact ⟨.ref _,_,I',rfl,q2 _ p hn hp kC⟩
def Kr (K:Vz) (a r:Sh) (sp:Sp) (ta:TA):TE:=λσ H Q=>ta σ H λvs H1=>∃ x,vs=[x]/\Fm K a r sp x H1 Q
theorem FV {a r:Sh}{b:Bool}{k:Nat}{f:Addr}{fd:FuncData}{ps:List Str}{sp:Sp}{e:Expr}{ta:TA}{y:Str}{p py pos kp:Pos} (hf:jO a b) (F:ax X.prog X.w X.K X.mg X.base CX0 k f fd ps sp) (hr:bX (k+2) X.A) (hb:Binds X.K fd ps [])
  (hg:Gl X "sorted") (hm:X.mg "sorted" = none) (hgf:Gl X y) (hmf:X.mg y=some (.ref f)) (ha:PA X [e] ta) (hdb:(y == ("__debug__" : Str))=false:=by decide)
  (he:backTo pos (starEach [e] X.env)=(false,eval e X.env)::backTo pos (starEach [] X.env):=by rfl) (jy:(backTo pos (starEach [e] X.env)).any (·.1)=false:=by rfl)
  (gW:(backToKw pos (keywordEach [⟨some "key",.Name y py,kp⟩] X.env)).all (·.1.isSome)=true:=by rfl) (hkw:(backToKw pos (keywordEach [⟨some "key",.Name y py,kp⟩] X.env)).any (·.1.isNone)=false:=by rfl) :
  PE X (.Call (.Name "sorted" p) [e] [⟨some "key",.Name y py,kp⟩] pos) (Kr X.K a r sp ta):=by
 intro pins s σ H Q I h;refine wpAny_Call_Name_kw (gM I hg hm boot_sorted ?_);refine callWith_kw (thn (ha pos pins s σ H _ I h) λus s1 ⟨vs,H1,I1,r1,q1⟩=>?_) he jy gW hkw;obtain ⟨x,rfl,q⟩:=q1;obtain ⟨u,rfl,ru⟩:=r1.one;refine kws_cons (jE I1 hgf hmf (kws_nil ?_) hdb);exact zW hf F hr hb I1 ru q
end
section
open PySem.SeqAt
open PySem.AutoSeq1 (wpAny_loadPart')
open PySem.MeetsSeq PySem.MeetsSeq2 PySem.MeetsSeq3
theorem index_loop {prog:Program}{w:World}{A:Around}{E:Vy->Vx->Prop}{s:Vx}{items:Array Vy}{x:Vy}{e:Nat->Bool}{j:Nat} (hj:j<items.size) (hit:e j=true) (hno:∀ m,m<j->e m=false) (he:∀ i (h:i<items.size),EqAt A s items[i] x (e i))
  {body:Nat->Option PySem.Fin×PUnit->Sem (ForInStep (Option PySem.Fin×PUnit))} (hb:∀ i u,body i u=(match items[i]? with
   | some y=>do
    let c <-eqBool y x
    if c=true then do
     let r <-retInt i
     pure (ForInStep.done (some r,⟨⟩))
    else pure (ForInStep.yield (none,⟨⟩))
   | _=>pure (ForInStep.yield (none,⟨⟩)))) {Q:Option PySem.Fin×PUnit->Vx->Prop} (q:Q (some (.done (.ret (.int j s.toks))),⟨⟩) { s with toks:=s.toks+1 }) :
  ∀ (k i:Nat) (u:Option PySem.Fin×PUnit),i<=j->k=items.size - i->wpAny (model prog w) A (forIn (List.range' i k 1) u body) Q E s:=by
 intro k
 induction k with
 | zero=>intro i u hi hk;lia
 | succ k ih=>
  intro i u hi hk;rw [List.range'_succ,List.forIn_cons,hb]
  (have hlt:i<items.size:=by lia)
  have hi1:items[i]? = some items[i]:=by simp [hlt]
  rw [hi1];refine Vw (Vw (he i hlt prog w _ _ ?_));cases hei:e i with
  | true=>
   have:i=j:=by
    by_cases z:i<j
    ·rw [hno i z] at hei;cases hei
    ·lia
   subst this;rw [if_pos rfl];refine Vw ?_;show wpAny _ _ (retInt (i:Int)) _ _ s;unfold retInt
   (refine Vw (wpAny_mkInt ?_))
   (exact Vv (Vv (Vv q)))
  | false=>
   have:i≠j:=λz=>by rw [z,hit] at hei;cases hei
   rw [if_neg P6];refine Vv ?_;exact ih (i+1) _ (by lia) (by lia)
end
section
variable {X:Cx}
def ES (K:Vz):V->List V->Hp->VK->Prop:=λx vs H Q=>∃ p xs y j,x = .ref p/\vs=[y]/\SqT K H p xs/\hJ y=true/\xs.all hJ=true/\j<xs.length/\eqV (xs.getD j .non) y=true/\(∀ m,m<j->eqV (xs.getD m .non) y=false)/\Q (.int j) H
theorem F3:MtR X "tuple.index" (ES X.K):=by
 intro pins s σ H x vs v us Q I rx rv h;obtain ⟨p,xs,y,j,rfl,rfl,hq,fy,fx,hj,e1,e2,q⟩:=h;cases rx;obtain ⟨u,rfl,ru⟩:=rv.one;obtain ⟨its,r,⟨⟨cls,dd,data,sl⟩,eo,c,n,d⟩,_⟩:=I.tuple hq;simp only at c d;subst c d;have hl:=r.length;have eqs:∀ i (hi:i<its.toArray.size) (A:Around),SeqAt.EqAt A s its.toArray[i] u (eqV (xs.getD i .non) y):=λi hi A=>by
  have hi':i<its.length:=by simpa using hi
  have hx:xs[i]? = some xs[i]:=by simp [hl,hi']
  obtain ⟨w,hw,rw'⟩:=r.get hx;have e3:its.toArray[i]=w:=by
   have:its[i]? = some its[i]:=by simp [hi']
   rw [hw] at this;simpa using (Option.some.inj this).symm
  have e4:xs.getD i .non=xs[i]:=by rw [Qf,hx];rfl
  rw [e3,e4];exact Fo rw' ru (Qs.mp fx _ (QE _)) fy
 refine wpAny_call_entry F.slot_tuple_index ⟨_,eo,rfl⟩ F.entry_tuple_index ?_ (F.args_tuple_index_2 _ _);show wpAny _ _ (Builtin.Tuple.tupleItemsOf (.ref p) >>= _) _ _ s;refine Vw ?_
 (unfold Builtin.Tuple.tupleItemsOf)
 refine Vw (wpAny_seqItems eo rfl (Vv ?_));show wpAny _ _ (forIn [0:min its.toArray.size its.toArray.size] ((none:Option PySem.Fin),PUnit.unit) _ >>= _) _ _ s;rw [Std.Legacy.Range.forIn_eq_forIn_range'];have hsz:([0:min its.toArray.size its.toArray.size]:Std.Legacy.Range).size=its.toArray.size:=by simp [Std.Legacy.Range.size]
 rw [hsz];refine Vw (index_loop (items:=its.toArray) (x:=u) (e:=λi=>eqV (xs.getD i .non) y) (j:=j) (by rw [P1];lia) e1 e2 (λi hi=>eqs i hi _) (λi u=>?_) ?_ _ 0 _ (Qb _) rfl)
 ·rfl
 ·refine Vv ⟨_,rfl,?_⟩;exact ⟨.int j,H,I.tok _,⟨_,rfl⟩,q⟩
def Kn (K:Vz):List V->Hp->VK->Prop:=λvs H Q=>∃ x n t b,vs=[x,.ty n]/\ke K H x t/\kitOne K t (.type n)=some b/\Q (.bl b) H
theorem xM:iC X (.builtin "isinstance") (Kn X.K):=by
 intro pins s σ H xs us Q I rv h;obtain ⟨x,n,t,b,rfl,ty,e,q⟩:=h;obtain ⟨u,w',rfl,r1,r2⟩:=vals2 rv;obtain rfl:w' = Value.type n:=r2;exact vG I r1 ty e λtk=>⟨.bl b,H,I.tok _,rfl,q⟩
end
end L2
namespace L2
open PySem PySem.Spec PyProof.Rows
structure bx (K:Vz) (mg:Str->Option Vy) (x:Str) (st:Stmt) (ps:List Str) (f:Addr) (fd:FuncData):Prop where
 fn:Fun K x x st f fd
 bd:Binds K fd ps []
 mg:mg x=some (.ref f)
theorem af.new {H:Hp}{p:Addr}{o:HO} (h:H p=none):af H (upd H p o):=λb u e=>by rw [au (aw e h)];exact e
def CN (D:Addr) (Pv:List V->St->Hp->Prop):St->Hp->Prop:=λσ H=>∃ acc,H D=some (.lst acc)/\Pv acc σ H
section
variable {K:Vz}{g:TG}{tt:TT}{te:TE}{D:Addr}{Q:VK}{σ:St}{H:Hp}
theorem oJ {J:It} (n:Nat) (Pv:Nat->List V->St->Hp->Prop) (hD:H D=some (.lst [])) (h0:Pv 0 [] σ H)
  (hgo:∀ i acc σ H,i<n->H D=some (.lst acc)->Pv i acc σ H->J.go i H) (L5:∀ acc σ H,H D=some (.lst acc)->Pv n acc σ H->J.stop n H)
  (hs:∀ i acc σ H x H',i<n->H D=some (.lst acc)->Pv i acc σ H->J.yld i H x H'->g x σ H' λσ2 H2=>tt σ2 H2 λb H3=>if b=true then te σ2 H3 λv H4=>∃ ys,H4 D=some (.lst ys)/\ys.length<sizeLine/\CN D (Pv (i+1)) σ2 (upd H4 D (.lst (ys++[v]))) else CN D (Pv (i+1)) σ2 H3)
  (hd:∀ acc σ H,H D=some (.lst acc)->Pv n acc σ H->Q (.ref D) H):qI g tt te J D Q σ H:=by
 refine ⟨λi m σ H=>m=n - i/\i<=n/\CN D (Pv i) σ H,⟨n,by simp,Qb _,[],hD,h0⟩,?_⟩;rintro i m σ H ⟨rfl,hi,acc,d9,p⟩;by_cases hlt:i<n
 ·exact .inr ⟨hgo i acc σ H hlt d9 p,CN D (Pv (i+1)),λσ' H' p'=>⟨n - (i+1),by lia,rfl,hlt,p'⟩,λx H' y=>hs i acc σ H x H' hlt d9 p y⟩
 ·have e:i=n:=by lia
  subst e;exact .inl ⟨L5 acc σ H d9 p,hd acc σ H d9 p⟩
theorem bc {a:Addr}{xs:List V} (Pv:Nat->List V->St->Hp->Prop) (hD:H D=some (.lst [])) (h0:Pv 0 [] σ H) (hl:∀ i acc σ H,i<=xs.length->H D=some (.lst acc)->Pv i acc σ H->SqL K H a xs)
  (hs:∀ i x acc σ H,xs[i]? = some x->H D=some (.lst acc)->Pv i acc σ H->g x σ H λσ2 H2=>tt σ2 H2 λb H3=>if b=true then te σ2 H3 λv H4=>∃ ys,H4 D=some (.lst ys)/\ys.length<sizeLine/\CN D (Pv (i+1)) σ2 (upd H4 D (.lst (ys++[v]))) else CN D (Pv (i+1)) σ2 H3)
  (hd:∀ acc σ H,H D=some (.lst acc)->Pv xs.length acc σ H->Q (.ref D) H):qI g tt te (Itl K a) D Q σ H:=by
 refine oJ xs.length Pv hD h0 (λi acc σ H hi d9 p=>⟨xs,xs[i],hl i acc σ H (Rq hi) d9 p,by simp [hi]⟩) (λacc σ H d9 p=>⟨xs,hl _ acc σ H (PR _) d9 p,PR _⟩) (λi acc σ H x H' hi d9 p y=>?_) hd;obtain ⟨e,y⟩:=y;subst e;exact hs i x acc σ _ (y xs (hl i acc σ _ (Rq hi) d9 p)) d9 p
theorem gQ {lo:Int}{n:Nat} (Pv:Nat->List V->St->Hp->Prop) (hD:H D=some (.lst [])) (h0:Pv 0 [] σ H)
  (hs:∀ i acc σ H,i<n->H D=some (.lst acc)->Pv i acc σ H->g (.int (lo+i)) σ H λσ2 H2=>tt σ2 H2 λb H3=>if b=true then te σ2 H3 λv H4=>∃ ys,H4 D=some (.lst ys)/\ys.length<sizeLine/\CN D (Pv (i+1)) σ2 (upd H4 D (.lst (ys++[v]))) else CN D (Pv (i+1)) σ2 H3)
  (hd:∀ acc σ H,H D=some (.lst acc)->Pv n acc σ H->Q (.ref D) H):qI g tt te (Itr lo n) D Q σ H:=by
 refine oJ n Pv hD h0 (λi acc σ H hi d9 p=>hi) (λacc σ H d9 p=>PR _) (λi acc σ H x H' hi d9 p y=>?_) hd;obtain ⟨e,y⟩:=y;subst e y;exact hs i acc σ _ hi d9 p
theorem EL {z:Str} (Pv:Nat->List V->St->Hp->Prop) (hD:H D=some (.lst [])) (h0:Pv 0 [] σ H)
  (hs:∀ i c acc σ H,z.cps[i]? = some c->H D=some (.lst acc)->Pv i acc σ H->g (.str ⟨#[c]⟩) σ H λσ2 H2=>tt σ2 H2 λb H3=>if b=true then te σ2 H3 λv H4=>∃ ys,H4 D=some (.lst ys)/\ys.length<sizeLine/\CN D (Pv (i+1)) σ2 (upd H4 D (.lst (ys++[v]))) else CN D (Pv (i+1)) σ2 H3)
  (hd:∀ acc σ H,H D=some (.lst acc)->Pv z.length acc σ H->Q (.ref D) H):qI g tt te (Its z) D Q σ H:=by
 refine oJ z.length Pv hD h0 (λi acc σ H hi d9 p=>hi) (λacc σ H d9 p=>PR _) (λi acc σ H x H' hi d9 p y=>?_) hd;obtain ⟨e,c,ec,y⟩:=y;subst e y;exact hs i c acc σ _ ec d9 p
end
theorem uZ {K:Vz}{sp:Sp}{Qk:List V->Hp->Prop}{H0:Hp}:∀ (xs:List V) (kds:List PyData) (ks:List V) (dks:List PyData) (H:Hp),xs.length=kds.length->af H0 H->aA K H ks dks ->
  (∀ (i:Nat) (x:V) (d:PyData) (H:Hp) (Q:VK),xs[i]? = some x->kds[i]? = some d->af H0 H->(∀ r H',af H H'->Den K H' r d->Q r H')->sp [x] H Q E0)->(∀ ks' H',af H0 H'->aA K H' ks' (dks++kds)->Qk ks' H')->tI sp xs ks H Qk
 | [],[],ks,dks,H,_,hs,hd,_,hq=>hq ks H hs (by simpa using hd)
 | x::xs,d::kds,ks,dks,H,hl,hs,hd,hsp,hq=>by
  refine hsp 0 x d H _ rfl rfl hs λr H' s' dr=>?_;refine uZ xs kds (ks++[r]) (dks++[d]) H' (by simpa using hl) (hs.trans s') ((hd.same s').append (.cons dr .nil)) (λi y e H2 Q h1 h2=>hsp (i+1) y e H2 Q (by simpa using h1) (by simpa using h2)) λks' H2 h1 h2=>hq ks' H2 h1 (by simpa using h2)
def Jx (sc osc:Scope) (N N':List Str) (n:Nat) (fi:List Nat):Bool:=
 decide (sc.kind = .function) && decide (∀ y∈sc.names,y.2 = .local->sc.names.lookup y.1=some .local)
 && decide (∀ y∈sc.names,y.2 = .free->osc.names.lookup y.1=some .cell\/osc.names.lookup y.1=some .free)
 && decide (N'.length=n+fi.length)
 && (List.range fi.length).all λj=>match fi[j]? with
  | some k=>match N'[n+j]? with
   | some x=>decide (N[k]? = some x) && decide (sc.names.lookup x=some .free) && decide ((x,NameKind.cell)∉sc.names)
   | none=>false
  | none=>false
theorem bH {X:Cx}{sc:Scope}{N':List Str}{n:Nat}{fi:List Nat} (osc:Scope) (N:List Str) (h:Jx sc osc N N' n fi=true) (e1:X.env.scope=osc:=by rfl) (e2:X.N=N:=by rfl):lD X sc N' n fi:=by
 subst e1 e2;simp only [Jx,Qt,decide_eq_true_eq] at h;obtain ⟨⟨⟨⟨h1,h2⟩,h3⟩,h4⟩,h5⟩:=h;refine ⟨h1,h2,h3,h4,λj k hj=>?_⟩;have hlt:j<fi.length:=by
  rcases Qz j fi.length with q | q
  ·exact q
  ·rw [Qx q] at hj;cases hj
 have h6:=Qs.mp h5 j (QA.mpr hlt);rw [hj] at h6;dsimp only at h6;cases e:N'[n+j]? with
 | none=>rw [e] at h6;cases h6
 | some x=>
  rw [e] at h6;simp only [Qt,decide_eq_true_eq] at h6;exact ⟨x,rfl,h6.1.1,h6.1.2,h6.2⟩
def lim (H H':Hp):Hp:=λb=>match H b with | some (.lst _)=>none | _=>H' b
def wo (D:Addr) (H:Hp):Hp:=λb=>if b=D then none else H b
section
variable {H H' H1 H2 H3:Hp}{D E p b:Addr}{o u:HO}{xs ys:List V}
theorem bV (h:∀ zs,H b≠some (.lst zs)):lim H H' b=H' b:=by
 unfold lim
 split
 ·rename_i zs e;exact (h zs e).elim
 ·rfl
theorem iu (h:H p=none):lim H H' p=H' p:=bV λzs e=>by rw [h] at e;cases e
theorem jm:af (lim H H') H':=λb o e=>by
 unfold lim at e
 split at e
 ·cases e
 ·exact e
theorem iA (h:lim H H' b=some o):∀ zs,H b≠some (.lst zs):=λzs e=>by
 simp only [lim,e] at h;cases h
theorem dw (h:af H1 H2):af (lim H H1) (lim H H2):=λb o e=>by
 rw [bV (iA e)];exact h b o (jm b o e)
def LL (H H':Hp):Prop:=∀ b ys,H b=some (.lst ys)->∃ zs,H' b=some (.lst zs)
theorem af.ll (h:af H H'):LL H H':=λb ys e=>⟨ys,h b _ e⟩
theorem e7 (h:LL H H1):af (lim H1 H2) (lim H H2):=λb o e=>by
 rw [bV]
 ·exact jm b o e
 ·intro zs q;obtain ⟨z2,q2⟩:=h b zs q;exact iA e z2 q2
theorem aj (h:b≠D):wo D H b=H b:=by simp [wo,h]
theorem a7:wo D H D=none:=by simp [wo]
theorem aD (h:wo D H b=some o):b≠D/\H b=some o:=by
 unfold wo at h
 split at h
 ·cases h
 ·rename_i q;exact ⟨q,h⟩
theorem aZ:af (wo D H) H:=λb o e=>(aD e).2
theorem mh (h:af H1 H2):af (wo D H1) (wo D H2):=λb o e=>by
 rw [aj (aD e).1];exact h b o (aD e).2
theorem zE:wo D (upd H D o)=wo D H:=by
 funext b
 by_cases e:b=D
 ·subst e;rw [a7,a7]
 ·rw [aj e,aj e,au e]
theorem yU:af (wo D H) (upd H D o):=λb u e=>by rw [au (aD e).1];exact (aD e).2
theorem bI (h:af (wo D H1) H2) (g:af (wo D H2) H3):af (wo D H1) H3:=λb o e=>g b o (by rw [aj (aD e).1];exact h b o e)
theorem JL (h:H D=some (.lst ys)):af (lim H H') (wo D H'):=λb o e=>by
 have hb:b≠D:=λq=>by subst q;exact iA e _ h
 rw [aj hb];exact jm b o e
theorem nV (h:H D=some (.lst ys)):lim H (upd H' D o)=lim H H':=by
 funext b
 by_cases e:b=D
 ·subst e;simp only [lim,h]
 ·unfold lim;rw [au e]
theorem bN (h:H D=none) (s:af H H'):af H (wo D H'):=λb o e=>by
 rw [aj (aw e h)];exact s b o e
theorem Ek (s:af H H') (h:H' D=some (.lst ys)):LL (upd H D o) H':=λb zs e=>by
 by_cases q:b=D
 ·subst q;exact ⟨ys,h⟩
 ·rw [au q] at e;exact ⟨zs,s b _ e⟩
theorem aW {α:Type}{xs:List α}{i:Nat}{x:α} (h:xs[i]? = some x):i<xs.length:=by
 rcases Qz i xs.length with q | q
 ·exact q
 ·rw [Qx q] at h;cases h
theorem eN {α β:Type}{xs:List α}{i:Nat}{x:α} (h:xs[i]? = some x) (f:α->β):(xs.take (i+1)).map f=(xs.take i).map f++[f x]:=by
 rw [Qn,h];simp
theorem aF (h:H D=none) (s:af H H'):af H (upd H' D o):=λb u e=>by
 rw [au (aw e h)];exact s b u e
end
theorem dS {i:Nat}{x:V}{σ:St}{H:Hp}{F G:St->Hp->Prop} (h:F (σ.set i (some x)) H):br i x σ H λσ2 H2=>KH σ2 H2 λb H3=>if b=true then F σ2 H3 else G σ2 H3:=by
 show (if true=true then F (σ.set i (some x)) H else G (σ.set i (some x)) H);rw [if_pos rfl];exact h
theorem small {n:Nat} (h:n<10000000):n<sizeLine:=by rw [sizeLine_eq];exact Qm h (by decide)
end L2
namespace L2
open PySem PySem.Spec PyProof.Rows PySem.Builtin PySem.Builtin.Str
theorem SqT.lim {K:Vz}{H H0 H':Hp}{a:Addr}{xs:List V} (s1:af H H0) (s2:af H H') (h:SqT K H a xs):SqT K (L2.lim H0 H') a xs:=by
 rcases h with (h | ⟨o,h⟩) | h
 ·exact .inl (.inl (by rw [bV λzs e=>by rw [s1 _ _ h] at e;cases e];exact s2 _ _ h))
 ·exact .inl (.inr ⟨o,by rw [bV λzs e=>by rw [s1 _ _ h] at e;cases e];exact s2 _ _ h⟩)
 ·exact .inr h
def oZ (K:Vz):List V->Hp->VK->Prop:=λxs H Q=>∃ p ys,xs=[.ref p]/\(SqL K H p ys\/SqT K H p ys)/\∀ l,H l=none->Q (.ref l) (upd H l (.lst ys))
theorem jD {X:Cx}:iC X (.type "list") (oZ X.K):=xt
theorem lZ:bootBuiltins "list" = some (.type "list"):=by decide +kernel
theorem vO:bootBuiltins "sorted" = some (.builtin "sorted"):=by decide +kernel
theorem dC {n:Nat}:∀ (l:List PyData),(∀ d∈l,d.depth<=n)->PyData.depthAll l<=n
 | [],_=>Qb _
 | d::r,h=>by
  have h1:=h d (P5 ..);have h2:=dC r λe he=>h e (PY _ he);unfold PyData.depthAll;exact Nat.max_le.mpr ⟨h1,h2⟩
theorem Io {z:Str}{i c:Nat} (hz:PyData.strOk z=true) (h:z.cps[i]? = some c):PyData.strOk ⟨#[c]⟩=true:=by
 unfold PyData.strOk at hz ⊢;rw [R8] at hz;have hi:i<z.cps.size:=by
  rcases Qz i z.cps.size with q | q
  ·exact q
  ·rw [QR q] at h;cases h
 have h1:=hz i hi;rw [Qq hi] at h;cases h;simpa using h1
theorem ma {z:Str} (h:∀ c∈z.cps,c<1114112):PyData.strOk z=true:=by
 unfold PyData.strOk;rw [R8];intro i hi;simpa using h _ (Array.getElem_mem hi)
theorem gC {z:Str} (h:PyData.strOk z=true):∀ c∈z.cps,c<1114112:=by
 unfold PyData.strOk at h;intro c hc;obtain ⟨i,hi,rfl⟩:=Array.mem_iff_getElem.mp hc;rw [R8] at h;simpa using h i hi
theorem EX {z:Str}{l u:Option Int} (hz:PyData.strOk z=true):PyData.strOk (Txt.slice z l u)=true/\(Txt.slice z l u).length<=z.length:=by
 unfold Txt.slice
 split
 ·exact ⟨hz,PR _⟩
 ·constructor
  ·refine ma λc hc=>?_;simp only [List.mem_toArray,RS] at hc;obtain ⟨i,_,e⟩:=hc;refine gC hz c ?_;exact Array.mem_of_getElem? e
  ·show (List.toArray _).size<=z.cps.size;simp only [P1];exact P2 (List.length_filterMap_le _ _) (sliceIndices_le l u _)
theorem CI {z:Str}{a b:Nat} (hz:PyData.strOk z=true):PyData.strOk (strSub z a b)=true/\(strSub z a b).length<=z.length:=by
 unfold strSub;constructor
 ·refine ma λc hc=>?_;refine gC hz c ?_;obtain ⟨i,hi,rfl⟩:=Array.mem_iff_getElem.mp hc;simp only [Array.getElem_extract];exact Array.getElem_mem _
 ·show (Array.extract _ _ _).size<=z.cps.size;rw [RX];lia
theorem tF {z y:Str} (hz:PyData.strOk z=true):∀ x∈Txt.split z y,PyData.strOk x=true/\x.length<=z.length:=by
 intro x hx;have one:x∈[z]->PyData.strOk x=true/\x.length<=z.length:=λh=>by
  simp only [PZ] at h;subst h;exact ⟨hz,PR _⟩
 unfold Txt.split at hx
 split at hx
 ·exact one hx
 ·split at hx
  ·exact one hx
  ·unfold partsBetween at hx;simp only [P9] at hx;obtain ⟨p,_,rfl⟩:=hx;exact CI hz
theorem rS {z y:Str}:1<=(Txt.split z y).length/\(Txt.split z y).length<=z.length+2:=by
 have h1:=StrLaws.occ_length_le z y 0 z.length (z.length+1);unfold Txt.split
 split
 ·simp
 ·split
  ·simp
  ·rw [length_partsBetween];lia
theorem BA {y:Str} (hy:PyData.strOk y=true):∀ (xs:List Str) (acc:Array Nat),(∀ x∈xs,PyData.strOk x=true)->(∀ c∈acc,c<1114112)->∀ c∈xs.foldl (λacc p=>acc++y.cps++p.cps) acc,c<1114112
 | [],acc,_,h=>h
 | x::r,acc,hx,h=>by
  refine BA hy r _ (λz hz=>hx z (PY _ hz)) λc hc=>?_;rcases RH.mp hc with hc | hc
  ·rcases RH.mp hc with hc | hc
   ·exact h c hc
   ·exact gC hy c hc
  ·exact gC (hx x (P5 ..)) c hc
theorem yP {y:Str}{m:Nat}:∀ (xs:List Str) (acc:Array Nat),(∀ x∈xs,x.length<=m)->(xs.foldl (λacc p=>acc++y.cps++p.cps) acc).size<=acc.size+xs.length * (m+y.length)
 | [],acc,_=>by simp
 | x::r,acc,hx=>by
  have h1:=yP (y:=y) r (acc++y.cps++x.cps) λz hz=>hx z (PY _ hz);have h2:x.cps.size<=m:=hx x (P5 ..);have h3:(acc++y.cps++x.cps).size=acc.size+y.cps.size+x.cps.size:=by simp;lia
  have h4:y.length=y.cps.size:=rfl;simp only [List.foldl_cons,Qh,Nat.add_mul,Nat.one_mul] at h1 ⊢;lia
theorem wH {y:Str}{m:Nat} (hy:PyData.strOk y=true) {xs:List Str} (h:∀ x∈xs,PyData.strOk x=true/\x.length<=m):PyData.strOk (Txt.join y xs)=true/\(Txt.join y xs).length<=xs.length * (m+y.length):=by
 cases xs with
 | nil=>exact ⟨by show PyData.strOk Str.empty=true;decide +kernel,Qb _⟩
 | cons x r=>
  have hx:=h x (P5 ..);have hr:∀ z∈r,PyData.strOk z=true/\z.length<=m:=λz hz=>h z (PY _ hz);refine ⟨ma (BA hy r x.cps (λz hz=>(hr z hz).1) (gC hx.1)),?_⟩;have h1:=yP (y:=y) (m:=m) r x.cps λz hz=>(hr z hz).2;have h2:x.cps.size<=m:=hx.2;show (List.foldl (λ(acc:Array Nat) (p:Str)=>acc++y.cps++p.cps) x.cps r).size<=(x::r).length * (m+y.length);simp only [Qh,Nat.add_mul,Nat.one_mul] at h1 ⊢;lia
theorem Ff {m:Nat}:∀ {xs:List Str},(∀ x∈xs,x.length<=m)->(xs.map (·.length)).sum<=xs.length * m
 | [],_=>by simp
 | x::r,h=>by
  have h1:=Ff λz hz=>h z (PY x hz);have h2:=h x (P5 ..);simp only [Ql,QT,Qh,Nat.add_mul,Nat.one_mul] at h1 ⊢;lia
theorem pR {y:Str}{m:Nat}{xs:List Str} (h:∀ x∈xs,x.length<=m) (hb:xs.length * m+xs.length * y.length<=16777216):JoinOk y xs=true:=by
 have h1:=Ff h;exact joinOk_of (by lia)
section
variable {K:Vz}{tt:TT}{D:Addr}{Q:VK}{H:Hp}
theorem pX {K:Vz}{H:Hp}:∀ {l:List Str},(∀ x∈l,PyData.strOk x=true)->aA K H (l.map V.str) (l.map PyData.str)
 | [],_=>.nil
 | x::r,h=>.cons (.str (h x (P5 ..))) (pX λy hy=>h y (PY _ hy))
end
end L2
namespace L2
open PySem PySem.Spec PyProof.Rows
def Itz (K:Vz) (a b:Addr):It:=
 ⟨λi H=>∃ xs ys x y,SqL K H a xs/\SqL K H b ys/\xs[i]? = some x/\ys[i]? = some y,
   λi H x H'=>∃ p u v,H p=none/\(∀ xs,SqL K H a xs->xs[i]? = some u)/\(∀ ys,SqL K H b ys->ys[i]? = some v)/\x = .ref p/\H' = upd H p (.tup [u,v]),
   λi H=>∃ xs ys,SqL K H a xs/\SqL K H b ys/\(xs.length<=i\/ys.length<=i)⟩
theorem DZ {P:Program}{w:World}{K:Vz}{Kt:List Expr}{k:Nat}{pos:Pos} (a b z TI TO i1 i2:Addr) (D:ZipApart z TI TO i1 i2 a b) :
  Turn P w K (.Tuple Kt k pos) (Itz K a b) [z,TI,TO,i1,i2] z (λi h=>IsZip h z TI TO .none/\IsPair h TI (.ref i1) (.ref i2)/\(∃ u v,IsPair h TO u v)/\h.IsListIter i1 a i/\h.IsListIter i2 b i) where
 mem:=by simp
 obj:=λi h st c hc=>by
  obtain ⟨hz,hTI,⟨u,v,hTO⟩,⟨o1,e1,_,g1⟩,⟨o2,e2,_,g2⟩⟩:=st;simp only [Qi,Ra,or_false] at hc;rcases hc with rfl | rfl | rfl | rfl | rfl
  ·exact ⟨_,hz,λv q=>by cases q⟩
  ·exact ⟨_,hTI,λv q=>by cases q⟩
  ·exact ⟨_,hTO,λv q=>by cases q⟩
  ·exact ⟨o1,e1,λv q=>by rw [g1] at q;cases q⟩
  ·exact ⟨o2,e2,λv q=>by rw [g2] at q;cases q⟩
 keep:=λi h h' st kk=>by
  obtain ⟨hz,hTI,⟨u,v,hTO⟩,h1,h2⟩:=st;exact ⟨kk z (by simp) _ hz,kk TI (by simp) _ hTI,⟨u,v,kk TO (by simp) _ hTO⟩,h1.at λo e=>kk i1 (by simp) o e,h2.at λo e=>kk i2 (by simp) o e⟩
 item:=by
  intro X hP hw hK hc i pins s σ H E I hf st hg;subst hP hw hK;obtain ⟨xs,ys,x,y,hq,hq',hx,hy⟩:=hg;obtain ⟨its,rv,p,_⟩:=I.list hq;obtain ⟨jts,rv',p',_⟩:=I.list hq';obtain ⟨u,hu,ru⟩:=rv.get hx;obtain ⟨v,hv,rv2⟩:=rv'.get hy;obtain ⟨hz,hTI,⟨u0,v0,hTO⟩,h1,h2⟩:=st;have ltn:∀ {b:Addr}{o:Obj},s.heap.get? b=some o->b<s.heap.objs.size:=λe=>Heap.lt_size e;have hlz:=ltn hz;have O8:=ltn hTI;have Pb:=ltn hTO;have hl1:i1<s.heap.objs.size:=by obtain ⟨_,e,_⟩:=h1;exact ltn e
  have hl2:i2<s.heap.objs.size:=by obtain ⟨_,e,_⟩:=h2;exact ltn e
  refine wpAny_pyNext_zip_item D hz hTI hTO h1 h2 p.isList p'.isList (x:=u) (y:=v) (by simpa using hu) (by simpa using hv) λh' a1 a2 a3 a4 a5 a6 kk=>?_;refine ⟨_,rfl,?_⟩;refine wpAny_letOwnedTupleGo_zip a1 λg hz' sb=>?_;have hfr:H s.heap.objs.size=none:=I.hok.fresh (PR _);have new:g.get? s.heap.objs.size=some { cls:=.type "tuple",data:=.seq #[u,v] }:=(sb.2 _ (RQ hlz)).trans a5;have I2:Inv X pins σ (upd H s.heap.objs.size (.tup [x,y])) { s with heap:=g }:=I.CG (t':=s.toks) (wr:=[z,TI,TO,i1,i2]) hf (λc o hcm ec=>by
    have n1:c≠z:=λq=>hcm (by simp [q]);have n2:c≠TO:=λq=>hcm (by simp [q]);have n3:c≠i1:=λq=>hcm (by simp [q]);have n4:c≠i2:=λq=>hcm (by simp [q]);exact (sb.2 c n1).trans (kk c o n1 n2 n3 n4 ec)) (PR _) ⟨by show 2<=sizeLine;decide,[u,v],.cons ru (.cons rv2 .nil),⟨_,new,rfl,_,rfl⟩⟩
  refine ⟨.ref s.heap.objs.size,_,I2,rfl,⟨_,x,y,hfr,λzs hzs=>by rw [I.r9 hzs hq];exact hx,λzs hzs=>by rw [I.r9 hzs hq'];exact hy,rfl,rfl⟩,⟨hz',?_,⟨u,v,?_⟩,?_,?_⟩,λc hcm=>?_⟩
  ·exact (sb.2 _ D.TIz).trans (kk _ _ D.TIz D.TITO D.TIi1 D.TIi2 hTI)
  ·exact (sb.2 _ D.TOz).trans a2
  ·exact a3.at λo e=>(sb.2 _ D.i1z).trans e
  ·exact a4.at λo e=>(sb.2 _ D.i2z).trans e
  ·have hb':c≠s.heap.objs.size:=by
    simp only [Qi,Ra,or_false] at hcm;rcases hcm with rfl | rfl | rfl | rfl | rfl <;> exact Qj (by assumption)
   rw [au hb'];exact (hf c hcm).1
 done:=by
  intro X hP hw hK hc i pins s σ H E I hf st hg;subst hP hw hK;obtain ⟨xs,ys,hq,hq',hx⟩:=hg;obtain ⟨its,rv,p,_⟩:=I.list hq;obtain ⟨jts,rv',p',_⟩:=I.list hq';have hl:=rv.length;have hl':=rv'.length;obtain ⟨hz,hTI,⟨u0,v0,hTO⟩,h1,h2⟩:=st;refine wpAny_pyNext_zip_end (I.ok.hd hc) D hz hTI hTO h1 h2 p.isList p'.isList ?_ λh' kk=>⟨rfl,I.eD (t':=s.toks) (wr:=[z,TI,TO,i1,i2]) hf λc o hcm e=>kk c o (λq=>hcm (by simp [q])) (λq=>hcm (by simp [q])) (λq=>hcm (by simp [q])) (λq=>hcm (by simp [q])) e⟩;rcases hx with hx | hx
  ·exact .inl (by simp;lia)
  ·exact .inr (by simp;lia)
 self:=λ_ _ _ _ _ st h=>wpAny_pyIter_zip st.1 h
section
variable {X:Cx}
def NO (K:Vz) (ta:TA):TI:=λσ H R=>ta σ H λvs H1=>∃ a b,vs=[.ref a,.ref b]/\(∃ xs,SqL K H1 a xs)/\(∃ ys,SqL K H1 b ys)/\R (Itz K a b) H1
theorem w5 {Kt:List Expr}{k:Nat}{JB:Pos}{a b:Expr}{ta:TA}{p pos:Pos} (hg:Gl X "zip") (hm:X.mg "zip" = none) (ha:PA X [a,b] ta) (hs:starEach [a,b] X.env=(false,eval a X.env)::starEach [b] X.env:=by rfl) (hpl:(backTo pos (starEach [b] X.env)).any (·.1)=false:=by rfl):PI X (.Tuple Kt k JB) (.Call (.Name "zip" p) [a,b] [] pos) (NO X.K ta):=by
 intro pins s σ H R I h;refine Call_ (gM I hg hm boot_zip (PyProof.Rows.callWith_type1 (thn (ha pos pins s σ H _ I h) λus s1 ⟨vs,H1,I1,r1,q1⟩=>?_) hs hpl));obtain ⟨a,b,e,⟨xs,hq⟩,⟨ys,hq'⟩,q⟩:=q1;subst e;obtain ⟨u1,u2,rfl,r1,r2⟩:=vals2 r1;cases r1;cases r2;obtain ⟨its,rv,pl,_⟩:=I1.list hq;obtain ⟨jts,rv',pl',_⟩:=I1.list hq';have la : @LT.lt Nat _ a s1.heap.objs.size:=by obtain ⟨_,e,_⟩:=pl.isList;exact Heap.lt_size e
 have lb : @LT.lt Nat _ b s1.heap.objs.size:=by obtain ⟨_,e,_⟩:=pl'.isList;exact Heap.lt_size e
 refine call_zip_2 pl.isList pl'.isList λh' hz hTI hTO h1 h2 hsz hk=>wpAny_pyIter_zip hz ?_;have D:ZipApart (s1.heap.objs.size+4) (s1.heap.objs.size+2) (s1.heap.objs.size+3) s1.heap.objs.size (s1.heap.objs.size+1) a b:=by constructor <;> (show ((_:Nat)≠_)) <;> lia
 refine ⟨s1.heap.objs.size+4,[s1.heap.objs.size+4,s1.heap.objs.size+2,s1.heap.objs.size+3,s1.heap.objs.size,s1.heap.objs.size+1],_,_,H1,rfl,I1.kept (t':=s1.toks) hk,DZ a b _ _ _ _ _ D,⟨hz,hTI,⟨_,_,hTO⟩,h1,h2⟩,λc hc=>?_,q⟩;have hb':s1.heap.objs.size<=c:=by
  simp only [Qi,Ra,or_false] at hc;rcases hc with rfl | rfl | rfl | rfl | rfl <;> first | exact PR _ | exact Nat.le_add_right _ _
 exact I1.xi hb' (I1.hok.fresh hb')
end
section
variable {K:Vz}{g:TG}{tt:TT}{te:TE}{D:Addr}{Q:VK}{σ:St}{H:Hp}
theorem ze {a b:Addr}{xs ys:List V} (Pv:Nat->List V->St->Hp->Prop) (hD:H D=some (.lst [])) (h0:Pv 0 [] σ H) (hl:∀ i acc σ H,H D=some (.lst acc)->Pv i acc σ H->SqL K H a xs/\SqL K H b ys)
  (hs:∀ i x y acc σ H p,xs[i]? = some x->ys[i]? = some y->H D=some (.lst acc)->Pv i acc σ H->H p=none->g (.ref p) σ (upd H p (.tup [x,y])) λσ2 H2=>tt σ2 H2 λb H3=>if b=true then te σ2 H3 λv H4=>∃ ys,H4 D=some (.lst ys)/\ys.length<sizeLine/\CN D (Pv (i+1)) σ2 (upd H4 D (.lst (ys++[v]))) else CN D (Pv (i+1)) σ2 H3)
  (hd:∀ acc σ H,H D=some (.lst acc)->Pv (min xs.length ys.length) acc σ H->Q (.ref D) H):qI g tt te (Itz K a b) D Q σ H:=by
 refine oJ (min xs.length ys.length) Pv hD h0 (λi acc σ H hi d9 p=>?_) (λacc σ H d9 p=>?_) (λi acc σ H x H' hi d9 p y=>?_) hd
 ·obtain ⟨h1,h2⟩:=hl i acc σ H d9 p;have h3:i<xs.length:=by lia
  have h4:i<ys.length:=by lia
  exact ⟨xs,ys,xs[i],ys[i],h1,h2,by simp [h3],by simp [h4]⟩
 ·obtain ⟨h1,h2⟩:=hl _ acc σ H d9 p;exact ⟨xs,ys,h1,h2,by lia⟩
 ·obtain ⟨q,u,v,hq,hu,hv,e,e'⟩:=y;subst e e';obtain ⟨h1,h2⟩:=hl i acc σ H d9 p;exact hs i u v acc σ _ q (hu xs h1) (hv ys h2) d9 p hq
theorem Bp {a b:Addr}{xs ys:List V}{tb:TS}{D:Ends} (Pv:Nat->St->Hp->Prop) (h0:Pv 0 σ H) (hl:∀ i σ H,Pv i σ H->SqL K H a xs/\SqL K H b ys)
  (hs:∀ i x y σ H p,xs[i]? = some x->ys[i]? = some y->Pv i σ H->H p=none->g (.ref p) σ (upd H p (.tup [x,y])) λσ2 H2=>tb { D with nx:=Pv (i+1),ct:=Pv (i+1),bk:=D.nx } σ2 H2) (hd:∀ σ H,Pv (min xs.length ys.length) σ H->D.nx σ H) :
  ∃ W:Nat->Nat->St->Hp->Prop,(∃ m,W 0 m σ H)/\∀ i m σ H,W i m σ H ->
   ((Itz K a b).stop i H/\D.nx σ H)\/((Itz K a b).go i H/\∃ N:St->Hp->Prop,(∀ σ' H',N σ' H'->∃ m',m' < m/\W (i+1) m' σ' H')/\∀ x H',(Itz K a b).yld i H x H'->g x σ H' λσ2 H2=>tb { D with nx:=N,ct:=N,bk:=D.nx } σ2 H2):=by
 refine ⟨λi m σ H=>m=min xs.length ys.length - i/\i<=min xs.length ys.length/\Pv i σ H,⟨_,rfl,Qb _,h0⟩,?_⟩;rintro i m σ H ⟨rfl,hi,p⟩;obtain ⟨h1,h2⟩:=hl i σ H p;by_cases hlt:i<min xs.length ys.length
 ·have h3:i<xs.length:=by lia
  have h4:i<ys.length:=by lia
  refine .inr ⟨⟨xs,ys,xs[i],ys[i],h1,h2,by simp [h3],by simp [h4]⟩,Pv (i+1),λσ' H' p'=>⟨min xs.length ys.length - (i+1),by lia,rfl,hlt,p'⟩,λx H' y=>?_⟩;obtain ⟨q,u,v,hq,hu,hv,e,e'⟩:=y;subst e e';exact hs i u v σ _ q (hu xs h1) (hv ys h2) p hq
 ·have e:i=min xs.length ys.length:=by lia
  subst e;exact .inl ⟨⟨xs,ys,h1,h2,by lia⟩,hd σ H p⟩
end
section
variable {X:Cx}
def G4:V->List V->Hp->VK->Prop:=λx vs H Q=>∃ z y,x = .str z/\vs=[.str y]/\z.length<=sizeLine/\Q (.str (Txt.stripChars z y)) H
theorem Dc:MtR X "str.strip" G4:=by
 intro pins s σ H x vs v us Q I rx rv h;obtain ⟨z,y,rfl,rfl,hz,q⟩:=h;obtain ⟨t,rfl⟩:=rx;obtain ⟨u,rfl,t',rfl⟩:=rv.one;exact SC.stripChars (λt' k=>⟨.str _,H,I.tok _,⟨_,rfl⟩,q⟩) hz
def Jk:V->List V->Hp->VK->Prop:=λx vs H Q=>∃ z y,x = .str z/\vs=[.str y]/\z.length<=sizeLine/\Q (.str (Txt.removeprefix z y)) H
theorem ET:MtR X "str.removeprefix" Jk:=by
 intro pins s σ H x vs v us Q I rx rv h;obtain ⟨z,y,rfl,rfl,hz,q⟩:=h;obtain ⟨t,rfl⟩:=rx;obtain ⟨u,rfl,t',rfl⟩:=rv.one;exact SC.removeprefix (λt' k=>⟨.str _,H,I.tok _,⟨_,rfl⟩,q⟩) hz
theorem nD:∀ {bs:List Bool}{us:List Vy},aS (bs.map V.bl) us->us=bs.map Value.bool
 | [],_,h=>by cases h;rfl
 | b::r,_,h=>by
  cases h with
  | cons h1 t=>
   obtain rfl:=h1;rw [nD t];rfl
theorem range_all (bs:List Bool):(List.range bs.length).all (λi=>bs.getD i true)=bs.all id:=by
 (rw [Qp,Qs,Qs])
 constructor
 ·intro h x hx;obtain ⟨i,hi,rfl⟩:=RI.mp hx
  (have:=h i (QA.mpr hi))
  simpa [List.getD,PV hi] using this
 ·intro h i hi
  (have hi':=QA.mp hi)
  have:=h bs[i] (QE hi');simpa [List.getD,PV hi'] using this
theorem range_any (bs:List Bool):(List.range bs.length).any (λi=>bs.getD i true)=bs.any id:=by
 (rw [Qp,RG,RG])
 constructor
 ·rintro ⟨i,hi,h⟩
  (have hi':=QA.mp hi)
  refine ⟨bs[i],QE hi',?_⟩;simpa [List.getD,PV hi'] using h
 ·rintro ⟨x,hx,h⟩;obtain ⟨i,hi,rfl⟩:=RI.mp hx;exact ⟨i,QA.mpr hi,by simpa [List.getD,PV hi] using h⟩
def Dr (K:Vz):List V->Hp->VK->Prop:=λxs H Q=>∃ (p:Addr) (bs:List Bool),xs=[.ref p]/\SqL K H p (bs.map V.bl)/\Q (.bl (bs.all id)) H
def ML (K:Vz):List V->Hp->VK->Prop:=λxs H Q=>∃ (p:Addr) (bs:List Bool),xs=[.ref p]/\SqL K H p (bs.map V.bl)/\Q (.bl (bs.any id)) H
theorem qc {P:Program}{w:World}{A:Around} (bs:List Bool):TruthOf P w A (λi v=>(bs.map Value.bool).toArray[i]? = some v) (λi=>bs.getD i true):=by
 intro i v s Q E hv hq;have hv':(bs.map Value.bool)[i]? = some v:=by simpa using hv
 rw [P7] at hv';cases e:bs[i]? with
 | none=>rw [e] at hv';cases hv'
 | some b=>
  rw [e] at hv';cases hv';refine wpAny_truthy_bool ?_;have:bs.getD i true=b:=by simp [List.getD,e]
  have hq':Q (bs.getD i true) s:=hq
  rwa [this] at hq'
theorem lG (hc:X.calm=true):iC X (.builtin "all") (Dr X.K):=by
 intro pins s σ H xs us Q I r h;obtain ⟨p,bs,rfl,hq,q⟩:=h;obtain ⟨u,rfl,rx⟩:=vals1 r;cases rx;obtain ⟨its,r',pl,hz⟩:=I.list hq;have e:=nD r';subst e;have hp:p≠s.heap.objs.size:=by obtain ⟨_,e,_⟩:=pl.isList;exact Qj (Heap.lt_size e)
 refine call_all_walk (wpAny_pyIter_list pl.isList ?_);refine ⟨s.heap.objs.size,_,_,_,_,_,_,rfl,Walks.list (A:=X.A.in1) (show X.A.in1.handled=none from I.ok.hd hc) s.heap.objs.size p hp (bs.map Value.bool).toArray,⟨⟨_,Heap.get?_push_size _ rfl,rfl,rfl⟩,pl.isList.push _⟩,qc bs,λh' tk hk=>?_⟩;have hs:(bs.map Value.bool).toArray.size=bs.length:=by simp
 rw [hs,range_all];refine ⟨.bl _,H,I.kept (t':=tk) λb o e=>hk b o (λhb=>?_) (Vu _ e),rfl,q⟩;simp only [PZ] at hb;exact absurd (Heap.lt_size e) (by rw [hb];exact QF _)
theorem F0 (hc:X.calm=true):iC X (.builtin "any") (ML X.K):=by
 intro pins s σ H xs us Q I r h;obtain ⟨p,bs,rfl,hq,q⟩:=h;obtain ⟨u,rfl,rx⟩:=vals1 r;cases rx;obtain ⟨its,r',pl,hz⟩:=I.list hq;have e:=nD r';subst e;have hp:p≠s.heap.objs.size:=by obtain ⟨_,e,_⟩:=pl.isList;exact Qj (Heap.lt_size e)
 refine call_any_walk (wpAny_pyIter_list pl.isList ?_);refine ⟨s.heap.objs.size,_,_,_,_,_,_,rfl,Walks.list (A:=X.A.in1) (show X.A.in1.handled=none from I.ok.hd hc) s.heap.objs.size p hp (bs.map Value.bool).toArray,⟨⟨_,Heap.get?_push_size _ rfl,rfl,rfl⟩,pl.isList.push _⟩,qc bs,λh' tk hk=>?_⟩;have hs:(bs.map Value.bool).toArray.size=bs.length:=by simp
 rw [hs,range_any];refine ⟨.bl _,H,I.kept (t':=tk) λb o e=>hk b o (λhb=>?_) (Vu _ e),rfl,q⟩;simp only [PZ] at hb;exact absurd (Heap.lt_size e) (by rw [hb];exact QF _)
theorem rP:bootBuiltins "all" = some (.builtin "all"):=by decide +kernel
theorem JI:bootBuiltins "any" = some (.builtin "any"):=by decide +kernel
end
end L2
namespace L2
open PySem PySem.Spec PyProof.Rows PySem.W
def vo (K:Vz) (sp:Sp) (l:Addr) (xs:List V):List V->V->V->Hp->VK->Prop
 | [],b,_,H,Q=>SqL K H l xs/\Q b H
 | x::r,b,kb,H,Q=>SqL K H l xs/\sp [x] H (λk H'=>∃ d e,Den K H' k d/\Den K H' kb e/\oA d e=true/\d.depth<=100/\if ltv d e=true then vo K sp l xs r x k H' Q else vo K sp l xs r b kb H' Q) E0
section
variable {X:Cx}{pins:List (Addr×Obj)}{σ:St}{H:Hp}{s:Vx}
theorem C0 (a v d:Vy):argsOk "min" ⟨[a],[(Str.ofString "key",v),(Str.ofString "default",d)]⟩:=by unfold argsOk;kernel_rfl
def uQ (X:Cx) (pins:List (Addr×Obj)) (σ:St) (f:Addr) (sp:Sp):Prop:=∀ (more:List (Addr×Obj)) (H:Hp) (s:Vx) (x:V) (u:Vy) (Q:VK),Inv X (pins++more) σ H s->RelV x u->sp [x] H Q E0 ->
 codeAny (model X.prog X.w) X.A.in1 (.call (.ref f) ⟨[u],[]⟩) (CR CX0 X.stack X.prog X.w H s Q E0) s
theorem DJ {k:Nat}{f:Addr}{fd:FuncData}{ps:List Str}{sp:Sp} (F:ax X.prog X.w X.K X.mg X.base CX0 k f fd ps sp) (hr:bX (k+1) X.A) (hb:Binds X.K fd ps []):uQ X pins σ f sp:=λmore H s x u Q I rx h=>by
 have hlp:[u].length=ps.length:=F.len _ _ _ _ h;exact F.run X.A.in1 X.stack s H ⟨[u],[]⟩ [u] [x] _ E0 hr.in1 I.xF.in1 (by have:=hb s [u] I.kIn (by simpa using hlp);simpa using this) (.cons rx .nil) h
theorem vh {f I S:Addr}{sp:Sp}{oI oS:Obj}{x:V}{u:Vy}{Q:VK} (C:uQ X pins σ f sp)
  (hI:∀ v,oI.data ≠ .cell v) (hS:∀ v,oS.data ≠ .cell v) (Iv:Inv X pins σ H s) (fI:cE X pins H I) (fS:cE X pins H S) (gI:s.heap.get? I=some oI) (gS:s.heap.get? S=some oS) (rx:RelV x u) (h:sp [x] H Q E0)
  {R:Vy->Vx->Prop}{E:Vy->Vx->Prop} (done:∀ v kv H1 s1,Inv X pins σ H1 s1->cE X pins H1 I->cE X pins H1 S->s1.heap.get? I=some oI->s1.heap.get? S=some oS->RelV v kv->Q v H1->R kv s1) :
  wpAny (model X.prog X.w) X.A.in1 (call (.ref f) [u]) R E s:=by
 have Ip:Inv X (pins++[(I,oI),(S,oS)]) σ H s:=Iv.nN λp hp=>by
  rcases Qc.mp hp with q | q
  ·exact Iv.pin p (Qo _ q)
  ·rcases Qi.mp q with q | q
   ·subst q;exact ⟨gI,fI.1,fI.2.1,fI.2.2.1,hI⟩
   ·have q':p=(S,oS):=by simpa using q
    subst q';exact ⟨gS,fS.1,fS.2.1,fS.2.2.1,hS⟩
 have run:=C [(I,oI),(S,oS)] H s x u _ Ip rx h;refine wpAny_call (codeAny_mono run λr s1 hq=>?_);cases r with
 | error er=>exact hq.elim
 | ok fl=>
  cases fl with
  | ret kv=>
   obtain ⟨v,H1,I1,r1,q1⟩:=Ip.after hq;have pI:=I1.pin (I,oI) (by simp);have pS:=I1.pin (S,oS) (by simp);exact done v kv H1 s1 I1.gO ⟨pI.2.1,fI.2⟩ ⟨pS.2.1,fS.2⟩ pI.1 pS.1 r1 q1
  | next=>exact False.elim hq
  | brk=>exact False.elim hq
  | cont=>exact False.elim hq
theorem Di {k:Nat}{f I S l:Addr}{sp:Sp}{xs:List V}{kw:List (Str×Vy)}{Q:VK}{R:Result->Vx->Prop} (C:uQ X pins σ f sp) (hr:bX (k+1) X.A) (hc:X.calm=true)
  (hlI:l≠I) (hSI:S≠I) (hR:∀ v u H' s',Inv X pins σ H' s'->RelV v u->Q v H'->R (.ok (.ret u)) s') :
  ∀ (r:List V) (j:Nat) (b kb:V) (H:Hp) (s:Vx) (ub uk:Vy) (c:Nat),r=xs.drop j->j<=xs.length->Inv X pins σ H s->cE X pins H I->cE X pins H S->s.heap.get? S=some (seqObj "list" #[ub,uk] c)->s.heap.IsListIter I l j->RelV b ub->RelV kb uk->vo X.K sp l xs r b kb H Q ->
   codeAny (model X.prog X.w) X.A (.builtin "min.loop" ⟨[.ref I,.ref f,.ref S],kw⟩) R s:=by
 (have vw:(toString "min" ++ toString ".loop" : String) = "min.loop" :=by decide)
 intro r
 induction r with
 | nil=>
  intro j b kb H s ub uk c hr' hj Iv fI fS gS hit rb rk h;obtain ⟨hq,q⟩:=h;obtain ⟨its,rv,pl,_⟩:=Iv.list hq;have hlen:=rv.length;have hjl:xs.length<=j:=RK.mp hr'.symm;have W:=Walks.list (prog:=X.prog) (w:=X.w) (A:=X.A.in1) (show X.A.in1.handled=none from Iv.ok.hd hc) I l hlI its.toArray
  (refine codeAny_builtin PySem.F.entry_min_loop ?_)
  (rw [Around.under_plainId PySem.F.plain_min_loop _])
  show wpAny _ X.A.in1 (seqItems? (.ref S) >>= _) _ _ _
  (refine Vw (wpAny_seqItems gS rfl ?_))
  show wpAny _ X.A.in1 (tryCatch (pyNext (.ref I)) _ >>= _) _ _ _;refine Vw (wpAny_tryCatch (W.done _ _ _ ⟨by rw [P1,show its.length=j by lia];exact hit,pl.isList⟩ λh' tk' hk'=>?_));have gS':=hk' S _ (by simpa using hSI) gS;have sb:=Heap.SameBut.update h' S (Obj.mapSeq λ_=>(#[]:Array Vy));show wpAny _ X.A.in1 (updateSeq S (λ_=>#[]) >>= _) _ _ _;refine Vw ?_;refine wpAny_updateSeq gS' rfl (Vw (wpAny_letGo (Vv ?_)));have I1:Inv X pins σ H { s with heap:=h',toks:=tk' }:=Iv.eD (wr:=[I]) (λc hc=>by rw [show c=I by simpa using hc];exact fI) λc o hc e=>hk' c o hc e;exact hR b ub H _ (I1.eD (t':=tk') (wr:=[S]) (λc hc=>by rw [show c=S by simpa using hc];exact fS) λc o hc e=>(sb.2 c (by simpa using hc)).trans e) rb q
 | cons x r ih=>
  intro j b kb H s ub uk c hr' hj Iv fI fS gS hit rb rk h;obtain ⟨hq,q⟩:=h;obtain ⟨its,rv,pl,_⟩:=Iv.list hq;have hlen:=rv.length;have hjl:j<xs.length:=by
   rcases Qz j xs.length with z | z
   ·exact z
   ·rw [QH z] at hr';cases hr'
  have hxj:xs[j]? = some x:=by
   rw [Qw hjl] at hr';injection hr' with e1 e2;rw [PV hjl,<-e1]
  have hrj:r=xs.drop (j+1):=by
   rw [Qw hjl] at hr';injection hr' with e1 e2
  have W:=Walks.list (prog:=X.prog) (w:=X.w) (A:=X.A.in1) (show X.A.in1.handled=none from Iv.ok.hd hc) I l hlI its.toArray
  (refine codeAny_builtin PySem.F.entry_min_loop ?_)
  (rw [Around.under_plainId PySem.F.plain_min_loop _])
  show wpAny _ X.A.in1 (seqItems? (.ref S) >>= _) _ _ _
  (refine Vw (wpAny_seqItems gS rfl ?_))
  show wpAny _ X.A.in1 (tryCatch (pyNext (.ref I)) _ >>= _) _ _ _;refine Vw (wpAny_tryCatch (W.item j _ _ _ (by rw [P1];lia) ⟨hit,pl.isList⟩ λv h' tk' hP nc hk'=>?_));obtain ⟨u,hu,ru⟩:=rv.get hxj;have hv:v=u:=by
   have:its[j]? = some v:=by simpa using hP
   rw [hu] at this;cases this;rfl
  subst hv;have gS':=hk' S _ (by simpa using hSI) gS;have I1:Inv X pins σ H { s with heap:=h',toks:=tk' }:=Iv.eD (wr:=[I]) (λc hc=>by rw [show c=I by simpa using hc];exact fI) λc o hc e=>hk' c o hc e;obtain ⟨oI,eI,cI,dI⟩:=nc.1;show wpAny _ X.A.in1 (tryCatch (holding [v] (call (.ref f) [v])) _ >>= _) _ _ _;refine Vw (wpAny_tryCatch (Vs (vh C (oI:=oI) (oS:=seqObj "list" #[ub,uk] c) (λz q=>by rw [dI] at q;cases q) (λz q=>by cases q) I1 fI fS eI gS' ru q λkv uv H2 s2 I2 fI2 fS2 gI2 gS2 rkv q2=>?_)));obtain ⟨d,e,dk,de,cv,Al,q3⟩:=q2;obtain ⟨as1,rd1⟩:=I2.reads dk rkv;obtain ⟨as2,rd2⟩:=I2.reads de rk;have HY:s2.heap.IsListIter I l (j+1):=⟨oI,gI2,cI,dI⟩;have hu2:X.A.in1.units+d.depth<cLine:=by show X.A.units+1+d.depth<cLine;have:=hr.un;lia
  show wpAny _ X.A.in1 (tryCatch (holding [v,uv] (richCompare .Lt uv uk >>= _)) _ >>= _) _ _ _;refine Vw (wpAny_tryCatch (Vs (Vw (uf 100 d e Al cv X.A.in1 s2 uv uk as1 as2 rd1 rd2 dk.lay de.lay hu2 _ _ _ _ ?_))))
  (refine Vw (Vs (wpAny_truthy_bool ?_)))
  (refine Vw (wpAny_letGo (Vv ?_)))
  cases hb':ltv d e with
  | true=>
   rw [hb',if_pos rfl] at q3;have sb:=Heap.SameBut.update s2.heap S (Obj.mapSeq λ_=>#[v,uv]);obtain ⟨c2,hc2⟩:∃ c2,(s2.heap.update S (Obj.mapSeq λ_=>#[v,uv])).get? S=some (seqObj "list" #[v,uv] c2):=⟨_,get?_update_seq gS2 λ_=>#[v,uv]⟩;simp only [if_true];refine Vw ?_;refine wpAny_updateSeq gS2 rfl (Vw (wpAny_letGo ?_));rw [vw];have I3:Inv X pins σ H2 { s2 with heap:=s2.heap.update S (Obj.mapSeq λ_=>#[v,uv]) }:=I2.eD (t':=s2.toks) (wr:=[S]) (λc hc=>by rw [show c=S by simpa using hc];exact fS2) λc o hc e=>(sb.2 c (by simpa using hc)).trans e;exact Vv ⟨plainId_quiet PySem.F.plain_min_loop _,ih (j+1) x kv H2 _ v uv c2 hrj hjl I3 fI2 fS2 hc2 ⟨oI,(sb.2 I hSI.symm).trans gI2,cI,dI⟩ ru rkv q3⟩
  | false=>
   rw [hb',if_neg (by decide)] at q3
   (simp only [Qu,if_false])
   refine Vw (wpAny_letGo ?_);rw [vw];exact Vv ⟨plainId_quiet PySem.F.plain_min_loop _,ih (j+1) b kb H2 _ ub uk c hrj hjl I2 fI2 fS2 gS2 HY rb rk q3⟩
def vn (K:Vz) (sp:Sp):V->Hp->VK->Prop:=λx H Q=>∃ l xs,x = .ref l/\SqL K H l xs/\match xs with
 | []=>Q .non H
 | y::r=>sp [y] H (λk H'=>vo K sp l xs r y k H' Q) E0
theorem Dx {k:Nat}{f Ia Sa l:Addr}{sp:Sp}{y:V}{r:List V}{kw:List (Str×Vy)}{Q:VK}{R:Result->Vx->Prop} (C:uQ X pins σ f sp) (hr:bX (k+1) X.A) (hc:X.calm=true)
  (hlI:l≠Ia) (hSI:Sa≠Ia) (hR:∀ v u H' s',Inv X pins σ H' s'->RelV v u->Q v H'->R (.ok (.ret u)) s') (I0:Inv X pins σ H s) (fI:cE X pins H Ia) (fS:cE X pins H Sa) (gS:s.heap.get? Sa=some (seqObj "list" #[] 0)) (gI:s.heap.IsListIter Ia l 0) (hq:SqL X.K H l (y::r)) (q:sp [y] H (λk H'=>vo X.K sp l (y::r) r y k H' Q) E0) :
  codeAny (model X.prog X.w) X.A (.builtin "min.loop" ⟨[.ref Ia,.ref f,.ref Sa],kw⟩) R s:=by
 (have vw:(toString "min" ++ toString ".loop" : String) = "min.loop" :=by decide)
 obtain ⟨its,rv,pl,_⟩:=I0.list hq;have hlen:=rv.length;have W:=Walks.list (prog:=X.prog) (w:=X.w) (A:=X.A.in1) (show X.A.in1.handled=none from I0.ok.hd hc) Ia l hlI its.toArray
 (refine codeAny_builtin PySem.F.entry_min_loop ?_)
 (rw [Around.under_plainId PySem.F.plain_min_loop _])
 show wpAny _ X.A.in1 (seqItems? (.ref Sa) >>= _) _ _ _
 (refine Vw (wpAny_seqItems gS rfl ?_))
 show wpAny _ X.A.in1 (tryCatch (pyNext (.ref Ia)) _ >>= _) _ _ _;refine Vw (wpAny_tryCatch (W.item 0 _ _ _ (by rw [P1,<-hlen];exact Nat.succ_pos _) ⟨gI,pl.isList⟩ λv h' tk' hP nc hk'=>?_));obtain ⟨u,hu,ru⟩:=rv.get (i:=0) rfl;have hv:v=u:=by
  have:its[0]? = some v:=by simpa using hP
  rw [hu] at this;cases this;rfl
 subst hv;have gS':=hk' Sa _ (by simpa using hSI) gS;have I1:Inv X pins σ H { s with heap:=h',toks:=tk' }:=I0.eD (wr:=[Ia]) (λc hc=>by rw [show c=Ia by simpa using hc];exact fI) λc o hc e=>hk' c o hc e;obtain ⟨oI,eI,cI,dI⟩:=nc.1;show wpAny _ X.A.in1 (tryCatch (holding [v] (call (.ref f) [v])) _ >>= _) _ _ _;refine Vw (wpAny_tryCatch (Vs (vh C (oI:=oI) (oS:=seqObj "list" #[] 0) (λz q=>by rw [dI] at q;cases q) (λz q=>by cases q) I1 fI fS eI gS' ru q λkv uv H2 s2 I2 fI2 fS2 gI2 gS2 rkv q2=>?_)));have sb:=Heap.SameBut.update s2.heap Sa (Obj.mapSeq λ_=>#[v,uv]);obtain ⟨c2,hc2⟩:∃ c2,(s2.heap.update Sa (Obj.mapSeq λ_=>#[v,uv])).get? Sa=some (seqObj "list" #[v,uv] c2):=⟨_,get?_update_seq gS2 λ_=>#[v,uv]⟩;show wpAny _ X.A.in1 (updateSeq Sa (λ_=>#[v,uv]) >>= _) _ _ _;refine Vw ?_;refine wpAny_updateSeq gS2 rfl ?_;rw [vw];have I3:Inv X pins σ H2 { s2 with heap:=s2.heap.update Sa (Obj.mapSeq λ_=>#[v,uv]) }:=I2.eD (t':=s2.toks) (wr:=[Sa]) (λc hc=>by rw [show c=Sa by simpa using hc];exact fS2) λc o hc e=>(sb.2 c (by simpa using hc)).trans e;exact Vv ⟨plainId_quiet PySem.F.plain_min_loop _,Di (Q:=Q) C hr hc hlI hSI hR r 1 y kv H2 _ v uv c2 rfl (by simp) I3 fI2 fS2 hc2 ⟨oI,(sb.2 Ia hSI.symm).trans gI2,cI,dI⟩ ru rkv q2⟩
structure Gy (X:Cx) (pins:List (Addr×Obj)) (σ:St) (H:Hp) (s:Vx) (l:Addr) (h0:Heap) (Ia Sa:Addr):Prop where
 gI:h0.get? Ia=some { cls:=.type "list_iterator",data:=.fields #[.ref l,.int 0 0] }
 gS:h0.get? Sa=some (seqObj "list" #[] 0)
 keep:∀ b o,s.heap.get? b=some o->h0.get? b=some o
 inv:Inv X pins σ H { s with heap:=h0 }
 fI:cE X pins H Ia
 fS:cE X pins H Sa
 ne:l≠Ia
 two:Sa≠Ia
theorem Ea {l:Addr} (I:Inv X pins σ H s) (hl:l<s.heap.objs.size) :
  Gy X pins σ H s l ((s.heap.push { cls:=.type "list_iterator",data:=.fields #[.ref l,.int 0 0] }).push (seqObj "list" #[] 0)) s.heap.objs.size (s.heap.push { cls:=.type "list_iterator",data:=.fields #[.ref l,.int 0 0] }).objs.size:=by
 have Bx:=λ(o:Obj) (b:Addr) (ob:Obj) (e:s.heap.get? b=some ob)=>Vu o e;have first:=Heap.get?_push_size s.heap (o:={ cls:=.type "list_iterator",data:=.fields #[.ref l,.int 0 0] }) rfl
 have size:=size_push' s.heap { cls:=.type "list_iterator",data:=.fields #[.ref l,.int 0 0] };replace Bx:=Bx { cls:=.type "list_iterator",data:=.fields #[.ref l,.int 0 0] };generalize s.heap.push { cls:=.type "list_iterator",data:=.fields #[.ref l,.int 0 0] }=h1 at Bx first size
 have up:s.heap.objs.size<=h1.objs.size:=by rw [size];exact QO _
 have kp:∀ b o,s.heap.get? b=some o->(h1.push (seqObj "list" #[] 0)).get? b=some o:=λb o e=>Vu _ (Bx b o e);exact { gI:=Vu _ first,gS:=Heap.get?_push_size _ rfl,keep:=kp,inv:=I.kept (t':=s.toks) kp,fI:=I.xi (PR _) (I.hok.fresh (PR _)),fS:=I.xi up (I.hok.fresh up),ne:=Qj hl,two:=by rw [size];exact Nat.succ_ne_self _ }
theorem sM {k:Nat}{f:Addr}{sp:Sp}{x:V}{u:Vy}{Q:VK} (C:uQ X pins σ f sp) (hr:bX (k+1) X.A) (hc:X.calm=true) (Iv:Inv X pins σ H s) (rx:RelV x u) (h:vn X.K sp x H Q) :
  wpAny (model X.prog X.w) X.A (call (.builtin "min") [u] [(Str.ofString "key",.ref f),(Str.ofString "default",.none)]) (EP X pins σ Q) X.xe s:=by
 (have vw:(toString "min" ++ toString ".loop" : String) = "min.loop" :=by decide)
 obtain ⟨l,xs,rfl,hq,q⟩:=h;cases rx;obtain ⟨its,rv,pl,_⟩:=Iv.list hq;have hlen:=rv.length;have hll:l<s.heap.objs.size:=by obtain ⟨_,e,_⟩:=pl.isList;exact Heap.lt_size e
 refine kmk_tree PySem.F.kind_min PySem.F.plain_min PySem.F.entry_min (C0 _ _ _) ?_;show wpAny _ X.A.in1 (Builtin.Builtins.bindParams "min" ["key","default"] 0 ⟨[],[(Str.ofString "key",.ref f),(Str.ofString "default",.none)]⟩ >>= _) _ _ s;refine Vw (wpAny_of_eq (show Builtin.Builtins.bindParams "min" ["key","default"] 0 ⟨[],[(Str.ofString "key",.ref f),(Str.ofString "default",.none)]⟩=pure [some (.ref f),some .none] from rfl) ?_);refine Vw (Vv ?_);refine Vw (wpAny_pyIter_list pl.isList ?_);refine Vw (wpAny_newList ?_ (Qb _):wpAny _ _ _ _ _ _);rw [vw];have two:=Ea (X:=X) (l:=l) Iv hll;generalize (s.heap.push { cls:=.type "list_iterator",data:=.fields #[.ref l,.int 0 0] }).push (seqObj "list" #[] 0)=h0 at two ⊢;generalize (s.heap.push { cls:=.type "list_iterator",data:=.fields #[.ref l,.int 0 0] }).objs.size=Sa at two ⊢;generalize s.heap.objs.size=Ia at two ⊢;obtain ⟨gI,gS,hkp,I0,fI,fS,hlI,hSI⟩:=two;have pl0:h0.IsList l its.toArray:=pl.isList.at λo e=>hkp l o e
 (refine Vv ⟨plainId_quiet PySem.F.plain_min_loop _,?_⟩)
 cases xs with
 | nil=>
  have W:=Walks.list (prog:=X.prog) (w:=X.w) (A:=X.A.in1) (show X.A.in1.handled=none from Iv.ok.hd hc) Ia l hlI its.toArray
  (refine codeAny_builtin PySem.F.entry_min_loop ?_)
  (rw [Around.under_plainId PySem.F.plain_min_loop _])
  show wpAny _ X.A.in1 (seqItems? (.ref Sa) >>= _) _ _ _
  (refine Vw (wpAny_seqItems gS rfl ?_))
  show wpAny _ X.A.in1 (tryCatch (pyNext (.ref Ia)) _ >>= _) _ _ _;refine Vw (wpAny_tryCatch (W.done _ _ _ ⟨⟨_,(by rw [gI]),rfl,by rw [P1,<-hlen];rfl⟩,pl0⟩ λh' tk' hk'=>?_));have I1:Inv X pins σ H { s with heap:=h',toks:=tk' }:=Inv.eD (s:={ s with heap:=h0 }) (t':=tk') (wr:=[Ia]) I0 (λc hc=>by rw [show c=Ia by simpa using hc];exact fI) λc o hc e=>hk' c o hc e
  (refine Vw (wpAny_rule (Vv ?_)))
  exact ⟨.non,H,I1,rfl,q⟩
 | cons y r=>
  exact Dx (Q:=Q) C hr hc hlI hSI (λw' u' H' s' I' r' q'=>⟨w',H',I',r',q'⟩) I0 fI fS gS ⟨_,gI,rfl,rfl⟩ (hq) q
theorem C6 {k:Nat}{f:Addr}{fd:FuncData}{ps:List Str}{sp:Sp}{x:V}{u:Vy}{Q:VK} (F:ax X.prog X.w X.K X.mg X.base CX0 k f fd ps sp) (hr:bX (k+1) X.A) (hb:Binds X.K fd ps []) (hc:X.calm=true) (Iv:Inv X pins σ H s) (rx:RelV x u) (h:vn X.K sp x H Q) :
  wpAny (model X.prog X.w) X.A (call (.builtin "min") [u] [(Str.ofString "key",.ref f),(Str.ofString "default",.none)]) (EP X pins σ Q) X.xe s:=sM (DJ F hr hb) hr hc Iv rx h
def MU (K:Vz) (sp:Sp) (ta:TA):TE:=λσ H Q=>ta σ H λvs H1=>∃ x,vs=[x]/\vn K sp x H1 Q
end
theorem E1:bootBuiltins "min" = some (.builtin "min"):=by decide +kernel
section
variable {X:Cx}
theorem HK {k:Nat}{f:Addr}{fd:FuncData}{ps:List Str}{sp:Sp}{e:Expr}{ta:TA}{y:Str}{kn:Nat}{p py pos kp pd kp2:Pos} (F:ax X.prog X.w X.K X.mg X.base CX0 k f fd ps sp) (hr:bX (k+1) X.A) (hb:Binds X.K fd ps []) (hc:X.calm=true)
  (hg:Gl X "min") (hm:X.mg "min" = none) (hgf:Gl X y) (hmf:X.mg y=some (.ref f)) (ha:PA X [e] ta) (hdb:(y == ("__debug__" : Str))=false:=by decide)
  (he:backTo pos (starEach [e] X.env)=(false,eval e X.env)::backTo pos (starEach [] X.env):=by rfl) (jy:(backTo pos (starEach [e] X.env)).any (·.1)=false:=by rfl)
  (gW:(backToKw pos (keywordEach [⟨some "key",.Name y py,kp⟩,⟨some "default",.Constant .none kn pd,kp2⟩] X.env)).all (·.1.isSome)=true:=by rfl) (hkw:(backToKw pos (keywordEach [⟨some "key",.Name y py,kp⟩,⟨some "default",.Constant .none kn pd,kp2⟩] X.env)).any (·.1.isNone)=false:=by rfl) :
  PE X (.Call (.Name "min" p) [e] [⟨some "key",.Name y py,kp⟩,⟨some "default",.Constant .none kn pd,kp2⟩] pos) (MU X.K sp ta):=by
 intro pins s σ H Q I h;refine wpAny_Call_Name_kw (gM I hg hm E1 ?_);refine callWith_kw (thn (ha pos pins s σ H _ I h) λus s1 ⟨vs,H1,I1,r1,q1⟩=>?_) he jy gW hkw;obtain ⟨x,rfl,q⟩:=q1;obtain ⟨u,rfl,ru⟩:=r1.one;refine kws_cons (jE I1 hgf hmf (kws_cons (Constant_none (kws_nil ?_))) hdb);exact C6 F hr hb hc I1 ru q
end
def fJ:PyData->Nat->Nat->List PyData->Nat
 | _,i,_,[]=>i
 | db,i,j,d::r=>if ltv d db=true then fJ d j (j+1) r else fJ db i (j+1) r
def cw:List PyData->Nat
 | []=>0
 | d::r=>fJ d 0 1 r
theorem nA {S:PyData->Prop} (o:tw S):∀ (r:List PyData) (all:List PyData) (db:PyData) (i j:Nat),(∀ d∈all,S d)->all.drop j=r->i<j->all[i]? = some db->(∀ (m:Nat) (d:PyData),m<j->all[m]? = some d->ltv d db=false)->(∀ (m:Nat) (d:PyData),m<i->all[m]? = some d->ltv db d=true) ->
  ∃ d,all[fJ db i j r]? = some d/\(∀ (m:Nat) (e:PyData),all[m]? = some e->ltv e d=false)/\∀ (m:Nat) (e:PyData),m<fJ db i j r->all[m]? = some e->ltv d e=true
 | [],all,db,i,j,hS,hd,hij,hi,h1,h2=>by
  have hj:all.length<=j:=RK.mp hd;exact ⟨db,hi,λm e he=>h1 m e (Qm (aW he) hj) he,h2⟩
 | d::r,all,db,i,j,hS,hd,hij,hi,h1,h2=>by
  have hjl:j<all.length:=by
   rcases Qz j all.length with z | z
   ·exact z
   ·rw [QH z] at hd;cases hd
  have hc:=Qw hjl;rw [hd] at hc;injection hc with e1 e2;have hdj:all[j]? = some d:=by rw [PV hjl,e1]
  have sd:S d:=hS d (PU hdj);have sb:S db:=hS db (PU hi);unfold fJ;by_cases hlt:ltv d db=true
  ·rw [if_pos hlt];have gW:∀ m e,m<j->all[m]? = some e->ltv d e=true:=λm e hm he=>by
    have se:S e:=hS e (PU he);rcases o.neg sd se sb hlt with z | z
    ·exact z
    ·rw [h1 m e hm he] at z;cases z
   refine nA o r all d j (j+1) hS e2.symm (Rp _) hdj (λm e hm he=>?_) gW;rcases Qz m j with z | z
   ·exact o.asymm sd (hS e (PU he)) (gW m e z he)
   ·have:m=j:=by lia
    subst this;rw [hdj] at he;cases he;exact o.irr d sd
  ·rw [if_neg hlt];refine nA o r all db i (j+1) hS e2.symm (R4 hij) hi (λm e hm he=>?_) h2;rcases Qz m j with z | z
   ·exact h1 m e z he
   ·have:m=j:=by lia
    subst this;rw [hdj] at he;cases he;exact Qe.mpr hlt
theorem sm {S:PyData->Prop} (o:tw S) {all:List PyData} (hS:∀ d∈all,S d) (hne:all≠[]) :
  ∃ d,all[cw all]? = some d/\(∀ (m:Nat) (e:PyData),all[m]? = some e->ltv e d=false)/\∀ (m:Nat) (e:PyData),m<cw all->all[m]? = some e->ltv d e=true:=by
 cases all with
 | nil=>exact (hne rfl).elim
 | cons d r=>
  refine nA o r (d::r) d 0 1 hS rfl Nat.zero_lt_one rfl (λm e hm he=>?_) (λm e hm he=>absurd hm (Nat.not_lt_zero _));have:m=0:=by lia
  subst this;cases he;exact o.irr d (hS d (P5 ..))
theorem D8 {K:Vz}{sp:Sp}{Q:VK}{H0:Hp}{l:Addr}{xs:List V}{S:PyData->Prop} (o:tw S) (hq:SqL K H0 l xs):∀ (r:List V) (kr:List PyData) (i j:Nat) (b kb:V) (db:PyData) (H:Hp),r.length=kr.length->af H0 H->Den K H kb db->S db->(∀ d∈kr,S d/\d.depth<=100)->xs.drop j=r->xs[i]? = some b ->
  (∀ (m:Nat) (x:V) (d:PyData) (H:Hp) (Q:VK),r[m]? = some x->kr[m]? = some d->af H0 H->(∀ k H',af H H'->Den K H' k d->Q k H')->sp [x] H Q E0)->(∀ H',af H0 H'->Q (xs.getD (fJ db i j kr) .non) H')->vo K sp l xs r b kb H Q:=by
 intro r
 induction r with
 | nil=>
  intro kr i j b kb db H hl s dk sb hS hdr hi hsp hQ;cases kr with
  | nil=>exact ⟨s.seq hq,by have:=hQ H s;simpa [fJ,List.getD,hi] using this⟩
  | cons d kr=>cases hl
 | cons x r ih=>
  intro kr i j b kb db H hl s dk sb hS hdr hi hsp hQ;cases kr with
  | nil=>cases hl
  | cons d kr=>
   have hjl:j<xs.length:=by
    rcases Qz j xs.length with z | z
    ·exact z
    ·rw [QH z] at hdr;cases hdr
   have hc:=Qw hjl;rw [hdr] at hc;injection hc with e1 e2;have hxj:xs[j]? = some x:=by rw [PV hjl,e1]
   have sd:=hS d (P5 ..);refine ⟨s.seq hq,hsp 0 x d H _ rfl rfl s λk H' s' dk'=>⟨d,db,dk',dk.same s',o.cmp d db sd.1 sb,sd.2,?_⟩⟩;have hS':∀ e∈kr,S e/\e.depth<=100:=λe he=>hS e (PY _ he);by_cases hlt:ltv d db=true
   ·rw [if_pos hlt];refine ih kr j (j+1) x k d H' (by simpa using hl) (s.trans s') dk' sd.1 hS' e2.symm hxj (λm y e H2 Q2 h1 h2=>hsp (m+1) y e H2 Q2 (by simpa using h1) (by simpa using h2)) λH2 h2=>?_;have:=hQ H2 h2;unfold fJ at this
    rwa [if_pos hlt] at this
   ·rw [if_neg hlt];refine ih kr i (j+1) b kb db H' (by simpa using hl) (s.trans s') (dk.same s') sb hS' e2.symm hi (λm y e H2 Q2 h1 h2=>hsp (m+1) y e H2 Q2 (by simpa using h1) (by simpa using h2)) λH2 h2=>?_;have:=hQ H2 h2;unfold fJ at this
    rwa [if_neg hlt] at this
theorem vK {K:Vz}{sp:Sp}{Q:VK}{H:Hp}{l:Addr}{xs:List V}{kds:List PyData}{S:PyData->Prop} (o:tw S) (hq:SqL K H l xs) (hl:xs.length=kds.length) (hS:∀ d∈kds,S d/\d.depth<=100)
  (hsp:∀ (m:Nat) (x:V) (d:PyData) (H2:Hp) (Q:VK),xs[m]? = some x->kds[m]? = some d->af H H2->(∀ k H',af H2 H'->Den K H' k d->Q k H')->sp [x] H2 Q E0) (h0:xs=[]->Q .non H) (hQ:xs≠[]->∀ H',af H H'->Q (xs.getD (cw kds) .non) H'):vn K sp (.ref l) H Q:=by
 refine ⟨l,xs,rfl,hq,?_⟩;cases xs with
 | nil=>exact h0 rfl
 | cons x r=>
  cases kds with
  | nil=>cases hl
  | cons d kr=>
   refine hsp 0 x d H _ rfl rfl (af.refl _) λk H' s' dk=>?_;refine D8 o hq r kr 0 1 x k d H' (by simpa using hl) s' dk (hS d (P5 ..)).1 (λe he=>hS e (PY _ he)) rfl rfl (λm y e H2 Q2 h1 h2=>hsp (m+1) y e H2 Q2 (by simpa using h1) (by simpa using h2)) λH2 h2=>?_;exact hQ (by intro z;cases z) H2 h2
end L2
namespace LG
open PySem L2 PySem.Builtin PySem.Builtin.Str
def sgn (c:Nat):Bool:=decide (33<=c) && decide (c<=126) && decide (c≠37)
def dig (c:Nat):Bool:=decide (48<=c) && decide (c<=57)
def low (c:Nat):Bool:=decide (97<=c) && decide (c<=122)
def dh (p:Nat->Bool) (l:List Nat):Bool:=!l.isEmpty && l.all p
def bE:List Nat->List Nat
 | 45::r=>r
 | l=>l
def Fe (l:List Nat):Nat:=if dh dig (bE l)=true then 0 else if dh low l=true then 1 else 2
def cS (z:Str):Bool:=dh sgn z.cps.toList
def eQ (z:Str):Nat:=Fe z.cps.toList
def kA:Nat->Str
 | 0=> "number"
 | 1=> "name"
 | _=> "other"
def cB:Nat->Str
 | 0=> "number"
 | 1=> "name"
 | _=> "any"
theorem oG {x y:Str} (h:x.cps.toList=y.cps.toList):x=y:=by
 cases x;cases y;simp only [Str.mk.injEq];exact QU.mp h
theorem takeWhile_all {α:Type}{p:α->Bool}:∀ {l:List α},(l.takeWhile p).length=l.length↔l.all p=true
 | []=>by simp
 | a::r=>by
  rw [List.takeWhile_cons,RA];by_cases h:p a=true
  ·rw [if_pos h,h,RB];simp only [Qh,Nat.add_right_cancel_iff];exact takeWhile_all
  ·rw [if_neg h];simp [h]
theorem strip_nil (z y:Str):decide (V.str (Txt.stripChars z y)=V.str "")=z.cps.toList.all (λc=>y.cps.contains c):=by
 have e:Txt.stripChars z y=strSub z (stripLo (λc=>y.cps.contains c) true z) (stripHi (λc=>y.cps.contains c) true z (stripLo (λc=>y.cps.contains c) true z)):=PyProof.Rows.stripBy_eq _ true true z;have h1:=PyProof.Rows.lo_facts (λc=>y.cps.contains c) z;have h2:=PyProof.Rows.hi_facts (λc=>y.cps.contains c) z (stripLo (λc=>y.cps.contains c) true z) h1.1;have hlo:stripLo (λc=>y.cps.contains c) true z=(z.cps.toList.takeWhile λc=>y.cps.contains c).length:=by simp [stripLo]
 have hz:z.length=z.cps.toList.length:=by simp [Str.length]
 (rw [Qp,decide_eq_true_eq])
 constructor
 ·intro h;have h0:(Txt.stripChars z y).cps.size=0:=by
   have:Txt.stripChars z y = "" :=by injection h
   rw [this];rfl
  rw [e] at h0;have h3:stripHi (λc=>y.cps.contains c) true z (stripLo (λc=>y.cps.contains c) true z)<=stripLo (λc=>y.cps.contains c) true z:=by
   have h4:(Array.extract z.cps (stripLo (λc=>y.cps.contains c) true z) (stripHi (λc=>y.cps.contains c) true z (stripLo (λc=>y.cps.contains c) true z))).size=0:=h0;rw [RX] at h4;have h5:=h2.2.1;have h6:z.length=z.cps.size:=rfl;lia
  rcases Qz (stripLo (λc=>y.cps.contains c) true z) z.length with hl | hl
  ·rcases h1.2.2 with q | q
   ·lia
   ·have:=h2.2.2.1 (stripLo (λc=>y.cps.contains c) true z) h3 hl;rw [q] at this;cases this
  ·have q:stripLo (λc=>y.cps.contains c) true z=z.length:=Nat.le_antisymm h1.1 hl;rw [hlo,hz] at q;exact takeWhile_all.mp q
 ·intro h;have h3:=takeWhile_all.mpr h;rw [<-hlo,<-hz] at h3;have:Txt.stripChars z y = "" :=by
   rw [e,h3];refine oG ?_;have h4:=h2.2.1;refine QC ?_;show (Array.extract z.cps z.length _).toList.length=0;rw [Qd,RX];have h6:z.length=z.cps.size:=rfl;lia
  rw [this]
theorem zl (z:Str):(Txt.removeprefix z "-").cps.toList=bE z.cps.toList:=by
 rw [StrLaws.removeprefix_eq];have h1:(("-" : Str)).length=1:=rfl;have h2:(("-" : Str)).cps = #[45]:=by decide +kernel
 rw [h1];have hz:z.length=z.cps.toList.length:=by simp [Str.length]
 have hs:subAt z "-" 0=(z.cps.extract 0 (0+1) == #[45]):=by
  unfold subAt;rw [h1,h2]
 rw [hs];cases e:z.cps.toList with
 | nil=>
  have h3:z.length=0:=by rw [hz,e];rfl
  rw [h3];simp [bE,e]
 | cons a r=>
  have h3:z.length=r.length+1:=by rw [hz,e];rfl
  have h4:z.cps.extract 0 (0+1) = #[a]:=by
   apply QU.mp;rw [Array.toList_extract,e];simp
  rw [h4,h3];by_cases ha:a=45
  ·subst ha;simp [bE]
  ·have h5:(#[a] == #[45])=false:=by
    rw [beq_eq_false_iff_ne];intro h;apply ha;simpa using h
   rw [h5];simp only [QW,Qu,if_false];rw [e];unfold bE
   split
   ·rename_i q;cases q;exact (ha rfl).elim
   ·rfl
end LG
namespace LG
open PySem L2 PySem.Builtin PySem.Builtin.Str PySem.StrLaws
def isB (l:List Nat) (i:Nat):Bool:=decide (l[i]? = some 32)
theorem y8:∀ l:List Nat,(List.range l.length).countP (isB l)=l.count 32
 | []=>rfl
 | a::r=>by
  rw [Qh,List.range_succ_eq_map,Rc,List.countP_map,List.count_cons];have e:(isB (a::r) ∘ Nat.succ)=isB r:=by funext i;simp [isB]
  rw [e,y8 r];have e2:isB (a::r) 0=(a == 32):=by rw [Qp];simp [isB]
  rw [e2]
theorem vt (z:Str) (i:Nat):subAt z " " i=isB z.cps.toList i:=by
 have h2:((" " : Str)).cps.toList=[32]:=by decide +kernel
 have h1:((" " : Str)).length=1:=rfl;rw [subAt_eq,h1,h2];unfold isB;cases e:z.cps.toList[i]? with
 | none=>
  rw [QH (Rx.mp e)];decide
 | some c=>
  have hi:=aW e;rw [Qw hi];rw [PV hi] at e;cases e;rw [Qp];simp
theorem rQ (z:Str) (BU:Nat) (hl:z.length<BU):∀ (m k:Nat) (st:Array Nat×Nat),k+m<=z.length+1->st.1.size<=k->st.2<=k ->
  st.1.size+(List.range' k m).countP (isB z.cps.toList)<=(forIn (List.range' k m) st (occBody z " " z.length BU)).run.1.size
 | 0,k,st,_,_,_=>by
  simp only [List.range'_zero,List.countP_nil,Nat.add_zero,List.forIn_nil];exact PR _
 | m+1,k,st,hk,hs,hf=>by
  have h1:((" " : Str)).length=1:=rfl;rw [List.range'_succ,List.forIn_cons,Rc];unfold occBody;by_cases hb:isB z.cps.toList k=true
  ·have hkl:k<z.length:=by
    have:z.cps.toList[k]? = some 32:=by simpa [isB] using hb
    have:=aW this;simpa [Str.length] using this
   rw [if_pos hb,if_pos ⟨⟨⟨by lia,hf⟩,by rw [h1];lia⟩,by rw [vt];exact hb⟩];have ih:=rQ z BU hl m (k+1) (st.1.push k,k+((" " : Str)).length) (by lia) (by show (st.1.push k).size<=k+1;rw [Array.size_push];lia) (by show k+_<=k+1;rw [h1];exact PR _);have e:(st.1.push k,k+((" " : Str)).length).1.size=st.1.size+1:=by show (st.1.push k).size=_;rw [Array.size_push]
   rw [e] at ih;refine P2 ?_ ih;lia
  ·rw [if_neg hb,if_neg (by rw [vt];exact λh=>hb h.2)];have ih:=rQ z BU hl m (k+1) (st.1,st.2) (by lia) (by show st.1.size<=_;lia) (by show st.2<=_;lia);exact ih
theorem vC (z:Str):z.cps.toList.count 32<=(occurrences z " " 0 z.length (z.length+1)).length:=by
 rw [occ_eq];have h:=rQ z (z.length+1) (Rp _) (z.length+1) 0 (#[],0) (by lia) (by simp) (PR _);have e:(List.range' 0 (z.length+1)).countP (isB z.cps.toList)=z.cps.toList.count 32:=by
  rw [<-List.range_eq_range',RO,List.countP_append];have hz:z.length=z.cps.toList.length:=by simp [Str.length]
  have e2:isB z.cps.toList z.length=false:=by
   unfold isB;rw [hz,Qx (PR _)];rfl
  rw [hz,y8,<-hz];simp [e2]
 rw [e] at h;simp only [Qd];have h0:((#[]:Array Nat),0).1.size=0:=rfl;rw [h0,Se] at h;exact h
theorem Ae (z:Str):(Txt.split z " ").length=(occurrences z " " 0 z.length (z.length+1)).length+1\/(Txt.split z " " = [z]/\z.cps.toList.count 32=0):=by
 unfold Txt.split
 split
 ·rename_i h
  right
  refine ⟨rfl,?_⟩;rw [Bool.or_eq_true,decide_eq_true_eq,decide_eq_true_eq] at h;have h1:((" " : Str)).length=1:=rfl;rcases h with h | h
  ·have hz:z.cps.toList=[]:=QC (by rw [Qd];have:z.length=z.cps.size:=rfl;lia);rw [hz];rfl
  ·exfalso;have e:PySem.Builtin.Str.strKind (" " : Str)=1:=by decide +kernel
   rw [e] at h;unfold PySem.Builtin.Str.strKind at h
   split at h
   ·lia
   ·split at h <;> lia
 ·split
  ·rename_i h
   right
   refine ⟨rfl,?_⟩;have:=vC z;rw [Sb.mp h] at this;simpa using this
  ·left
   rw [length_partsBetween]
theorem z6 (ts:List Str) (hne:ts≠[]):(Str.join " " ts).cps.toList.count 32=(ts.map λt=>t.cps.toList.count 32).sum+(ts.length - 1):=by
 have h2:((" " : Str)).cps.toList=[32]:=by decide +kernel
 induction ts with
 | nil=>exact (hne rfl).elim
 | cons x r ih=>
  cases r with
  | nil=>show x.cps.toList.count 32=_;simp
  | cons y r=>
   have e:Str.join " " (x::y::r)=x ++ " " ++ Str.join " " (y::r):=rfl;rw [e];have e2:(x++(" " : Str)++Str.join " " (y::r)).cps.toList=x.cps.toList++[32]++(Str.join " " (y::r)).cps.toList:=by
    rw [<-h2]
    (simp only [Str.cps_append,Q9])
   rw [e2,List.count_append,List.count_append,ih (by simp)];simp only [Ql,QT,Qh,List.count_singleton_self];lia
theorem x8:∀ {l:List Nat},l.sum=0->∀ x∈l,x=0
 | [],_,x,h=>by cases h
 | a::r,hs,x,h=>by
  simp only [QT] at hs
  (rcases Qi.mp h with rfl | h)
  ·lia
  ·exact x8 (by lia) x h
theorem split_free (z:Str):∀ x∈Txt.split z " ",32∉x.cps.toList:=by
 intro x hx;have hj:=StrLaws.join_split z " ";have hne:Txt.split z " " ≠ []:=by intro e;rw [e] at hx;cases hx
 have hc:=z6 (Txt.split z " ") hne;rw [hj] at hc;rcases Ae z with h | h
 ·rw [h] at hc;have h3:=vC z;have h4:(List.map (λt:Str=>t.cps.toList.count 32) (Txt.split z " ")).sum=0:=by lia
  have h5:=x8 h4 (x.cps.toList.count 32) (P9.mpr ⟨x,hx,rfl⟩);exact List.count_eq_zero.mp h5
 ·rw [h.1] at hx;simp only [PZ] at hx;subst hx;exact List.count_eq_zero.mp h.2
theorem Iu {a b c d:List Nat} (h:a++32::b=c++32::d) (ha:32∉a) (hc:32∉c):a=c/\b=d:=by
 induction a generalizing c with
 | nil=>
  cases c with
  | nil=>simp at h;exact ⟨rfl,h⟩
  | cons e c=>simp at h;exact (hc (by simp [<-h.1])).elim
 | cons e a ih=>
  cases c with
  | nil=>simp at h;exact (ha (by simp [h.1])).elim
  | cons e' c=>
   simp only [Ru,List.cons.injEq] at h;obtain ⟨h1,h2⟩:=ih h.2 (λq=>ha (PY _ q)) (λq=>hc (PY _ q));exact ⟨by rw [h.1,h1],h2⟩
theorem BK (x y:Str) (r:List Str):(Str.join " " (x::y::r)).cps.toList=x.cps.toList++32::(Str.join " " (y::r)).cps.toList:=by
 have h2:((" " : Str)).cps.toList=[32]:=by decide +kernel
 have e:Str.join " " (x::y::r)=x ++ " " ++ Str.join " " (y::r):=rfl;rw [e];simp only [Str.cps_append,Q9,h2,Q7,List.singleton_append]
theorem zg:∀ {ts us:List Str},ts≠[]->us≠[]->(∀ x∈ts,32∉x.cps.toList)->(∀ x∈us,32∉x.cps.toList)->(Str.join " " ts).cps.toList=(Str.join " " us).cps.toList->ts=us
 | [x],[y],_,_,_,_,h=>by rw [oG (x:=x) (y:=y) h]
 | [x],y::y2::r,_,_,hx,_,h=>by
  rw [BK] at h;have h:x.cps.toList=y.cps.toList++32::(Str.join " " (y2::r)).cps.toList:=h;exact (hx x (by simp) (by rw [h];simp)).elim
 | x::x2::r,[y],_,_,_,hy,h=>by
  rw [BK] at h;have h:x.cps.toList++32::(Str.join " " (x2::r)).cps.toList=y.cps.toList:=h;exact (hy y (by simp) (by rw [<-h];simp)).elim
 | x::x2::r,y::y2::q,_,_,hx,hy,h=>by
  rw [BK,BK] at h;obtain ⟨h1,h2⟩:=Iu h (hx x (by simp)) (hy y (by simp));have:=zg (ts:=x2::r) (us:=y2::q) (by simp) (by simp) (λz hz=>hx z (PY _ hz)) (λz hz=>hy z (PY _ hz)) h2;rw [oG h1,this]
theorem rT {ws:List Str} (hne:ws≠[]) (h:∀ x∈ws,32∉x.cps.toList):Txt.split (Txt.join " " ws) " " = ws:=by
 have e:Txt.join " " ws=Str.join " " ws:=StrLaws.glued_eq_join " " ws;have hj:=StrLaws.join_split (Txt.join " " ws) " ";refine zg ?_ hne (split_free _) h ?_
 ·intro e;have:=(L2.rS (z:=Txt.join " " ws) (y:= " ")).1;rw [e] at this;exact absurd this (by decide)
 ·rw [hj,e]
end LG
namespace LG
open PySem L2 PySem.Builtin PySem.Builtin.Str
theorem qb (y:Str) (p:Nat->Bool) (h1:∀ c<200,y.cps.contains c=p c) (h2:∀ x∈y.cps.toList,x<200) (h3:∀ c,200<=c->p c=false):(λc=>y.cps.contains c)=p:=by
 funext c
 rcases Qz c 200 with h | h
 ·exact h1 c h
 ·rw [h3 c h];rw [Qe];intro q;have:=h2 c (by simpa using q);lia
theorem GP (c:Nat) (h:200<=c):sgn c=false:=by unfold sgn;rw [decide_eq_false (show ¬ c<=126 by lia)];simp
theorem GC (c:Nat) (h:200<=c):dig c=false:=by unfold dig;rw [decide_eq_false (show ¬ c<=57 by lia)];simp
theorem Ik (c:Nat) (h:200<=c):low c=false:=by unfold low;rw [decide_eq_false (show ¬ c<=122 by lia)];simp
@[irreducible] def CT:Str:= "0123456789"
@[irreducible] def CY:Str:= "abcdefghijklmnopqrstuvwxyz"
@[irreducible] def uJ:Str:= "!\"#$&'()*+,-./0123456789:;<=>?@ABCDEFGHIJKLMNOPQRSTUVWXYZ[\\]^_`abcdefghijklmnopqrstuvwxyz{|}~"
theorem Iy:CT = "0123456789" :=by unfold CT;rfl
theorem IA:CY = "abcdefghijklmnopqrstuvwxyz" :=by unfold CY;rfl
theorem EI:uJ = "!\"#$&'()*+,-./0123456789:;<=>?@ABCDEFGHIJKLMNOPQRSTUVWXYZ[\\]^_`abcdefghijklmnopqrstuvwxyz{|}~" :=by unfold uJ;rfl
theorem En:(λc=>CT.cps.contains c)=dig:=qb _ _ (by decide +kernel) (by decide +kernel) GC
theorem Fi:(λc=>CY.cps.contains c)=low:=qb _ _ (by decide +kernel) (by decide +kernel) Ik
theorem Ck:(λc=>uJ.cps.contains c)=sgn:=qb _ _ (by decide +kernel) (by decide +kernel) GP
theorem oH (z:Str):decide (V.str z=V.str "")=z.cps.toList.isEmpty:=by
 rw [Qp,decide_eq_true_eq,Sb];constructor
 ·intro h;have:z = "" :=by injection h
  rw [this];rfl
 ·intro h;have:z = "" :=oG (by rw [h];rfl);rw [this]
theorem GG (z y:Str):((!decide (V.str z=V.str "")) && decide (V.str (Txt.stripChars z y)=V.str ""))=dh (λc=>y.cps.contains c) z.cps.toList:=by
 rw [oH,strip_nil];rfl
theorem Ci {i j:Nat} (hi:i<3) (hj:j<3):decide (V.str (kA i)=V.str (kA j))=decide (i=j):=by
 match i,j,hi,hj with
 | 0,0,_,_=>decide +kernel
 | 0,1,_,_=>decide +kernel
 | 0,2,_,_=>decide +kernel
 | 1,0,_,_=>decide +kernel
 | 1,1,_,_=>decide +kernel
 | 1,2,_,_=>decide +kernel
 | 2,0,_,_=>decide +kernel
 | 2,1,_,_=>decide +kernel
 | 2,2,_,_=>decide +kernel
theorem rA (l:List Nat):Fe l<3:=by
 unfold Fe
 split
 ·decide
 ·split <;> decide
def d6 (l:List Nat):Nat:=if dh dig (bE l)=true then 0 else if l.all low=true then 1 else 2
theorem zw (z:Str):∀ (n a:Nat),a+n<=z.cps.toList.length->((List.range n).map λk=>a+k).filterMap (λi=>z.cps[i]?)=(z.cps.toList.drop a).take n
 | 0,a,_=>by simp
 | n+1,a,h=>by
  rw [RO,Qa,List.filterMap_append,zw z n a (by lia)];have ha:a+n<z.cps.toList.length:=by lia
  have e:z.cps[a+n]? = some (z.cps.toList[a+n]):=by
   rw [<-Qy,PV ha]
  simp only [Ql,Rr,Rz,e,List.filterMap_nil];rw [List.take_succ,RU,PV ha];rfl
theorem uV (z:Str) {l u:Option Int}{a n:Nat} (h:strSliceIndices l u 1 z.length=(List.range n).map λk=>a+k) (hn:a+n<=z.length):(Txt.slice z l u).cps.toList=(z.cps.toList.drop a).take n:=by
 have hz:z.length=z.cps.toList.length:=by simp [Str.length]
 unfold Txt.slice;rw [h]
 split
 ·rename_i hc;have hc':n=z.length:=by simpa using hc
  have ha:a=0:=by lia
  subst ha;rw [RV,P4 (by lia)]
 ·show (List.toArray _).toList=_;rw [List.toList_toArray];exact zw z n a (by lia)
theorem ua (z:Str):(Txt.slice z none (some 1)).cps.toList=z.cps.toList.take 1:=by
 have hz:z.length=z.cps.toList.length:=by simp [Str.length]
 have h:strSliceIndices none (some 1) 1 z.length=(List.range (min 1 z.length)).map λk=>0+k:=by
  (unfold strSliceIndices sliceRange)
  simp only [show (1:Int) > 0 by decide,if_true,show ¬ (1:Int)<0 by decide,if_false];have e:(if (0:Int)<max 0 (min 1 (z.length:Int)) then (max 0 (min 1 (z.length:Int)) - 0+1 - 1) / 1 else 0).toNat=min 1 z.length:=by
   split <;> lia
  rw [e]
  (refine QI λk _=>?_)
  lia
 rw [uV z h (by lia),RV];rcases Nat.eq_zero_or_pos z.length with q | q
 ·have:z.cps.toList=[]:=QC (by lia);rw [this];simp
 ·rw [RN q]
theorem AL (z:Str):(Txt.slice z (some 1) none).cps.toList=z.cps.toList.drop 1:=by
 have hz:z.length=z.cps.toList.length:=by simp [Str.length]
 have h:strSliceIndices (some 1) none 1 z.length=(List.range (z.length - 1)).map λk=>min 1 z.length+k:=by
  (unfold strSliceIndices sliceRange)
  simp only [show (1:Int) > 0 by decide,if_true,show ¬ (1:Int)<0 by decide,if_false];have e:(if max 0 (min 1 (z.length:Int))<(z.length:Int) then ((z.length:Int) - max 0 (min 1 (z.length:Int))+1 - 1) / 1 else 0).toNat=z.length - 1:=by
   split <;> lia
  rw [e];refine QI λk hk=>?_;have:=QA.mp hk;lia
 rw [uV z h (by lia)];rcases Nat.eq_zero_or_pos z.length with q | q
 ·have:z.cps.toList=[]:=QC (by lia);rw [this];simp
 ·rw [RN q,P4 (by rw [Rt];lia)]
theorem CO (z:Str):decide (V.str (Txt.slice z none (some 1))=V.str "-")=decide (z.cps.toList.head? = some 45):=by
 have h2:(("-" : Str)).cps.toList=[45]:=by decide +kernel
 (rw [Qp,decide_eq_true_eq,decide_eq_true_eq])
 constructor
 ·intro h;have e:Txt.slice z none (some 1) = "-" :=by injection h
  have e2:=ua z;rw [e,h2] at e2;cases q:z.cps.toList with
  | nil=>rw [q] at e2;simp at e2
  | cons a r=>rw [q] at e2;simp at e2;simp [e2]
 ·intro h;have e:Txt.slice z none (some 1) = "-" :=by
   refine oG ?_;rw [ua,h2];cases q:z.cps.toList with
   | nil=>rw [q] at h;simp at h
   | cons a r=>rw [q] at h;simp at h;simp [h]
  rw [e]
theorem yF {l:List Nat} (h:l.head? = some 45):l.drop 1=bE l:=by
 cases l with
 | nil=>simp at h
 | cons a r=>simp at h;subst h;rfl
theorem AW {l:List Nat} (h:l.head? ≠ some 45):l=bE l:=by
 cases l with
 | nil=>rfl
 | cons a r=>
  unfold bE
  split
  ·rename_i q;cases q;exact (h rfl).elim
  ·rfl
theorem lt1 (a b:Nat):decide ([a] < [b])=decide (a<b):=by
 (rw [Qp,decide_eq_true_eq,decide_eq_true_eq])
 constructor
 ·intro h;cases h with
  | rel h=>exact h
  | cons h=>cases h
 ·intro h;exact List.Lex.rel h
theorem le1 (a b:Nat):(!decide (([b]:List Nat) < [a]))=decide (a<=b):=by
 rw [lt1];by_cases h:b<a
 ·rw [decide_eq_true h,decide_eq_false (by lia)];rfl
 ·rw [decide_eq_false h,decide_eq_true (by lia)];rfl
theorem jW {a b:Str}{lo hi c:Nat} (ha:a=⟨#[lo]⟩) (hb:b=⟨#[hi]⟩) {H2:Hp}{R:Bool->Hp->Prop} (h:R (!(decide (lo<=c) && decide (c<=hi))) H2) :
  KJ (vF (w6 (λx y H Q=>∃ i j,x = .str i/\y = .str j/\Q (.bl (!decide (j.cps.toList<i.cps.toList))) H) (λx y H Q=>∃ i j,x = .str i/\y = .str j/\Q (.bl (!decide (j.cps.toList<i.cps.toList))) H) (tC (.str a)) (tY 0) (tC (.str b)))) [some (.str ⟨#[c]⟩)] H2 R:=by
 subst ha hb;refine ⟨_,rfl,_,_,rfl,rfl,_,rfl,?_⟩;have e1:(!decide ((⟨#[c]⟩:Str).cps.toList<(⟨#[lo]⟩:Str).cps.toList))=decide (lo<=c):=le1 lo c;rw [e1];by_cases h1:lo<=c
 ·rw [decide_eq_true h1] at h ⊢;rw [if_pos rfl];refine ⟨_,_,rfl,rfl,_,rfl,?_⟩;have e2:(!decide ((⟨#[hi]⟩:Str).cps.toList<(⟨#[c]⟩:Str).cps.toList))=decide (c<=hi):=le1 c hi;rw [e2];rw [RB] at h;exact h
 ·rw [decide_eq_false h1] at h ⊢;rw [if_neg P6];refine ⟨_,rfl,?_⟩;rw [RW] at h;exact h
def sg (c:Nat):Str:=⟨#[c]⟩
section
variable {K:Vz}{tt:TT}{D:Addr}{Q:VK}{H:Hp}
theorem y0 {z:Str} (f:Nat->Bool) (hz:PyData.strOk z=true) (hl:z.length<=1000000) (hD:H D=none) (ht:∀ (c:Nat) (H2:Hp) (R:Bool->Hp->Prop),R (f c) H2->tt [some (.str ⟨#[c]⟩)] H2 R)
  (hq:∀ (H2:Hp),af H H2->H2 D=some (.lst (((z.cps.toList.filter f).map sg).map V.str))->Q (.ref D) H2) :
  qI (br 0) tt (tY 0) (Its z) D Q [none] (upd H D (.lst [])):=by
 have hzl:z.length=z.cps.toList.length:=by simp [Str.length]
 refine EL (λi acc σ H2=>(∃ u,σ=[u])/\af H H2/\acc=((((z.cps.toList.take i).filter f).map sg).map V.str)) ab ⟨⟨_,rfl⟩,af.new hD,rfl⟩ (λi c acc σ H2 hc hDx p=>?_) (λacc σ H2 hDx p=>?_)
 ·obtain ⟨⟨u,rfl⟩,s2,rfl⟩:=p;have hc':z.cps.toList[i]? = some c:=by rw [Qy];exact hc
  have hi:i<z.cps.toList.length:=aW hc';have et:z.cps.toList.take (i+1)=z.cps.toList.take i++[c]:=by rw [Qn,hc'];rfl
  have hlen:((((z.cps.toList.take i).filter f).map sg).map V.str).length<=i:=by
   simp only [PQ];exact P2 (QX _ _) (by rw [Qg];lia)
  show tt [some (.str ⟨#[c]⟩)] H2 _;refine ht _ _ _ ?_;cases hf:f c with
  | true=>
   refine ck ?_;refine ⟨_,rfl,_,hDx,small (by lia),_,ab,⟨_,rfl⟩,aF hD s2,?_⟩;rw [et,QV,Qa,Qa];simp [hf,sg]
  | false=>
   refine bf ⟨_,hDx,⟨_,rfl⟩,s2,?_⟩;rw [et,QV];simp [hf]
 ·obtain ⟨_,s2,rfl⟩:=p;rw [P4 (by lia)] at hDx;exact hq H2 s2 hDx
theorem LX {z:Str} (hz:PyData.strOk z=true) {f:Nat->Bool}:∀ x∈(z.cps.toList.filter f).map sg,PyData.strOk x=true:=λx hx=>by
 obtain ⟨c,hc,rfl⟩:=P9.mp hx;have:=gC hz c (by simpa using (QY.mp hc).1);exact ma λd hd=>by simp [sg] at hd;lia
theorem pJ {σ:St}{i:Nat}{z:Str}{R:Bool->Hp->Prop} (f:Nat->Bool) (hs:σ[i]? = some (some (.str z))) (hz:PyData.strOk z=true) (hl:z.length<=1000000) (ht:∀ (c:Nat) (H2:Hp) (R:Bool->Hp->Prop),R (f c) H2->tt [some (.str ⟨#[c]⟩)] H2 R)
  (h:∀ H',af H H'->R (z.cps.toList.all λc=>!f c) H'):vF (tOp (uh K) (zx (Kl (tY i)) (br 0) tt (tY 0) 1 []) (Ka Eg)) σ H R:=by
 refine ⟨_,hs,z,rfl,λD hD=>?_⟩;refine y0 f hz hl hD ht λH2 s2 hD2=>?_;refine ⟨Qb _,λp hp=>?_⟩;refine ⟨.list (((z.cps.toList.filter f).map sg).map .str),.list [],.lst (.of (by rw [au (aw hD2 hp)];exact hD2)) (pX (LX hz)),.lst (.of ab) .nil,?_,_,rfl,?_⟩
 ·have:PyData.depthAll (((z.cps.toList.filter f).map sg).map PyData.str)<=0:=dC _ λd hd=>by
   obtain ⟨x,_,rfl⟩:=P9.mp hd;exact PR _
  show PyData.depthAll _+1<=100;lia
 ·have e:PyData.eqv (.list (((z.cps.toList.filter f).map sg).map .str)) (.list [])=z.cps.toList.all λc=>!f c:=by
   have:PyData.eqv (.list (((z.cps.toList.filter f).map sg).map .str)) (.list [])=(z.cps.toList.filter f).isEmpty:=by
    cases z.cps.toList.filter f with
    | nil=>rfl
    | cons a r=>rfl
   rw [this,Qp,Sb,List.filter_eq_nil_iff,Qs];simp
  rw [e];exact h _ (s2.trans (af.new hp))
end
inductive Pt where
 | word (w:Str)
 | hole (k:Nat)
 deriving DecidableEq
def Pt.dat:Pt->PyData
 | .word w=>.tuple [.str "word",.str w]
 | .hole k=>.tuple [.str "hole",.str (cB k)]
def TOk (w:Str):Prop:=w.length<=10000/\PyData.strOk w=true
def Pt.ok:Pt->Prop
 | .word w=>TOk w
 | .hole k=>k<3
def bj (ps:List Pt):PyData:=.list (ps.map Pt.dat)
def POk (ps:List Pt):Prop:=ps.length<=10000/\∀ p∈ps,p.ok
def Pt.takes:Pt->Str->Bool
 | .word x,w=>decide (w=x)
 | .hole 0,w=>decide (eQ w=0)
 | .hole 1,w=>decide (eQ w=1)
 | .hole _,w=>cS w
def cn (ps:List Pt) (ws:List Str):Bool:=decide (ps.length=ws.length) && (ps.zip ws).all λp=>p.1.takes p.2
def Pt.within:Pt->Pt->Bool
 | .word x,q=>q.takes x
 | .hole k,q=>decide (q = .hole k) || decide (q = .hole 2)
def vM (ps qs:List Pt):Bool:=decide (ps.length=qs.length) && (ps.zip qs).all λp=>p.1.within p.2
def Pt.loose:Pt->Int
 | .word _=>0
 | .hole 0=>1
 | .hole 1=>1
 | .hole _=>2
def Pt.around:Pt->Nat
 | .word w=>eQ w
 | .hole k=>k
def zu (ps:List Pt):Pt:=match ps with
 | []=>.hole 2
 | p::r=>if r.all (λq=>decide (q=p))=true then p else if r.all (λq=>decide (q.around=p.around))=true then .hole p.around else .hole 2
theorem vf {i j:Nat} (hi:i<3) (hj:j<3) (h:cB i=cB j):i=j:=by
 have key:∀ i<3,∀ j<3,cB i=cB j->i=j:=by decide +kernel
 exact key i hi j hj h
theorem BY {p q:Pt} (hp:p.ok) (hq:q.ok) (h:p.dat=q.dat):p=q:=by
 cases p with
 | word w=>
  cases q with
  | word w'=>simp [Pt.dat] at h;rw [h]
  | hole k=>
   have:("word" : Str) ≠ "hole" :=by decide +kernel
   simp [Pt.dat] at h;exact (this h.1).elim
 | hole k=>
  cases q with
  | word w'=>
   have:("hole" : Str) ≠ "word" :=by decide +kernel
   simp [Pt.dat] at h;exact (this h.1).elim
  | hole k'=>
   simp [Pt.dat] at h;rw [vf hp hq h]
def HA:Sh:=.cu .str (.cu .str .oB)
theorem DI (p:Pt):HA.has p.dat:=by
 cases p with
 | word w=>exact ⟨_,_,rfl,⟨_,rfl⟩,_,_,rfl,⟨_,rfl⟩,rfl⟩
 | hole k=>exact ⟨_,_,rfl,⟨_,rfl⟩,_,_,rfl,⟨_,rfl⟩,rfl⟩
theorem JG {p q:Pt} (hp:p.ok) (hq:q.ok):PyData.eqv p.dat q.dat=decide (p=q):=by
 rw [Qp,decide_eq_true_eq,(Sh.ok HA).eqv _ _ (DI p) (DI q)];exact ⟨BY hp hq,λh=>by rw [h]⟩
theorem Bt (pt:Pt):pt.dat.depth<=5:=by cases pt <;> simp [Pt.dat,PyData.depth,PyData.depthAll]
theorem tL (ps:List Pt):(bj ps).depth<=90:=by
 have h:PyData.depthAll (ps.map Pt.dat)<=5:=dC _ λd hd=>by
  obtain ⟨pt,_,rfl⟩:=P9.mp hd;exact Bt pt
 simp only [bj,PyData.depth];lia
theorem yn {K:Vz}{H:Hp}{v:V}{x:Str} (h:Den K H v (.str x)):v = .str x/\PyData.strOk x=true:=by
 cases h with
 | str q=>exact ⟨rfl,q⟩
theorem mi {K:Vz}{H:Hp}{v:V}{x y:Str} (h:Den K H v (.tuple [.str x,.str y])):∃ a,v = .ref a/\SqT K H a [.str x,.str y]/\PyData.strOk x=true/\PyData.strOk y=true:=by
 cases h with
 | tup hq t=>
  cases t with
  | cons h1 t=>cases t with
   | cons h2 t=>
    cases t;obtain ⟨rfl,q1⟩:=yn h1;obtain ⟨rfl,q2⟩:=yn h2;exact ⟨_,rfl,hq,q1,q2⟩
theorem pL {K:Vz}{H:Hp}{v:V}{pt:Pt} (h:Den K H v pt.dat):∃ a x y,v = .ref a/\SqT K H a [.str x,.str y]/\PyData.strOk x=true/\PyData.strOk y=true/\(match pt with | .word w=>x = "word" /\ y=w | .hole k=>x = "hole" /\ y=cB k):=by
 cases pt with
 | word w=>obtain ⟨a,rfl,hq,q1,q2⟩:=mi h;exact ⟨a,_,_,rfl,hq,q1,q2,rfl,rfl⟩
 | hole k=>obtain ⟨a,rfl,hq,q1,q2⟩:=mi h;exact ⟨a,_,_,rfl,hq,q1,q2,rfl,rfl⟩
theorem iB {K:Vz}{H:Hp}{v:V}{ps:List Pt} (h:Den K H v (bj ps)):∃ a xs,v = .ref a/\SqL K H a xs/\aA K H xs (ps.map Pt.dat):=by
 cases h with
 | lst hq t=>exact ⟨_,_,rfl,hq,t⟩
end LG
namespace L2
open PySem PySem.Spec PyProof.Rows
section
variable {X:Cx}
def cH (K:Vz):List V->Hp->VK->Prop:=λxs H Q=>∃ p ys,xs=[.ref p]/\(SqL K H p ys\/SqT K H p ys)/\Q (.int ys.length) H
theorem aV:iC X (.builtin "len") (cH X.K):=w8
theorem cV:bootBuiltins "isinstance" = some (.builtin "isinstance"):=by decide +kernel
theorem EU:bootBuiltins "str" = some (.type "str"):=by decide +kernel
theorem y3:bootBuiltins "tuple" = some (.type "tuple"):=by decide +kernel
theorem AG {K:Vz}{a:Addr}{x y:V}{σ:St}{H:Hp}{F G:St->Hp->Prop} (hq:SqT K H a [x,y]) (h:F ((σ.set 0 (some x)).set 1 (some y)) H) :
  C3 K 2 (kQ (br 0) (kQ (br 1) CD)) (.ref a) σ H λσ2 H2=>KH σ2 H2 λb H3=>if b=true then F σ2 H3 else G σ2 H3:=by
 refine ⟨a,_,rfl,hq,rfl,_,_,rfl,_,_,rfl,rfl,?_⟩;show (if true=true then F ((σ.set 0 (some x)).set 1 (some y)) H else G ((σ.set 0 (some x)).set 1 (some y)) H);rw [if_pos rfl];exact h
end
theorem Ee {X:Cx}{K:Vz}{o e:Expr}{es:List Expr}{to:TE}{t:TA}{name:Str}{apos dv:Pos}{T id:String}{r:V->List V->Hp->VK->Prop} (eK:X.K=K) (pa:PlainAttrs T) (slot:Slot T name id) (hty:typeOf (.builtin id)=pure (.type "method_descriptor")) (hm:MtR X id r) (ho:PE X o to) (ha:PA X (e::es) t)
  (tN:attributeBase o name X.env (eval o X.env)=eval o X.env:=by rfl)
  (Ju:((backTo dv (starEach (e::es) X.env)).all (λx=>!x.1) && (backToKw dv (keywordEach [] X.env)).all (λx=>x.1.isSome)
   && decide ((e::es).length+([]:List Keyword).length+(if ([]:List Keyword).isEmpty then 0 else 1)<30))=true:=by rfl)
  (rX:(apos.endLine == dv.line)=true:=by rfl) (hs:starEach (e::es) X.env=(false,eval e X.env)::starEach es X.env:=by rfl) (jy:(backTo dv (starEach es X.env)).any (·.1)=false:=by rfl) :
  PE X (.Call (.Attribute o name apos) (e::es) [] dv) (tBM K T r to t):=by
 subst eK;exact cQ pa slot hty hm ho ha tN Ju rX hs jy
def MD (sc osc:Scope):Scope:={ sc with names:=sc.names.map λ(n,k)=>if (k == .free && osc.kind == .function && osc.names.lookup n == some .cell) then (n,.cell) else (n,k) }
theorem Bm {X0:Cx}{sc sc':Scope}{N0 N':List Str}{n:Nat}{fi:List Nat}{s:Vx}{H:Hp}{fp:List Addr} (osc:Scope) (h:Jx sc (MD sc' osc) N0 N' n fi=true) (e:X0.env.scope=osc:=by rfl):lD (fw X0 sc' N0 s H fp) sc N' n fi:=by
 subst e;exact bH (MD sc' X0.env.scope) N0 h rfl rfl
theorem SqT.Lc {K:Vz}{H0 H4 H':Hp}{a:Addr}{xs:List V} (ll:LL H0 H4) (s:af H4 H') (h:SqT K H4 a xs):SqT K (L2.lim H0 H') a xs:=by
 have no:∀ o:HO,H4 a=some o->(∀ zs,o ≠ .lst zs)->∀ zs,H0 a≠some (.lst zs):=λo ho hn zs e=>by
  obtain ⟨z2,q⟩:=ll a zs e;rw [ho] at q;cases q;exact hn z2 rfl
 rcases h with (h | ⟨o,h⟩) | h
 ·exact .inl (.inl (by rw [bV (no _ h λzs z=>by cases z)];exact s _ _ h))
 ·exact .inl (.inr ⟨o,by rw [bV (no _ h λzs z=>by cases z)];exact s _ _ h⟩)
 ·exact .inr h
end L2
namespace LG
open PySem L2 PySem.Builtin PySem.Builtin.Str
def LOk (w:Str):Prop:=w.length<=10000
theorem LOk.s {w:Str} (h:LOk w):w.length<=sizeLine:=P2 h (by decide)
def kG (K:Vz):Sp:=λvs H Q _=>∃ z y:Str,vs=[.str z,.str y]/\LOk z/\Q (.bl (dh (λc=>y.cps.contains c) z.cps.toList)) H
def jI (K:Vz):Sp:=λvs H Q _=>∃ z:Str,vs=[.str z]/\LOk z/\Q (.bl (cS z)) H
def nG (K:Vz):Sp:=λvs H Q _=>∃ z:Str,vs=[.str z]/\LOk z/\Q (.str (kA (eQ z))) H
def iE (K:Vz):Sp:=λvs H Q _=>∃ z:Str,vs=[.str z]/\LOk z/\∀ l,H l=none->Q (.ref l) (upd H l (.lst ((Txt.split z " ").map V.str)))
def gH (K:Vz):Sp:=λvs H Q _=>∃ v pt,vs=[v]/\Den K H v (Pt.dat pt)/\Q (.bl (match pt with | .hole _=>true | _=>false)) H
def mR (K:Vz):Sp:=λvs H Q _=>∃ (v:V) (w:Str) (p:Pt),vs=[v,.str w]/\Den K H v p.dat/\p.ok/\LOk w/\Q (.bl (p.takes w)) H
def pf (K:Vz):Sp:=λvs H Q _=>∃ (a b:Addr) (xs:List V) (ps:List Pt) (ws:List Str),vs=[.ref a,.ref b]/\SqL K H a xs/\aA K H xs (ps.map Pt.dat)/\(∀ p∈ps,p.ok)/\SqL K H b (ws.map V.str)/\(∀ w∈ws,LOk w)/\∀ H',af H H'->Q (.bl (cn ps ws)) H'
def Cb (K:Vz):Sp:=λvs H Q _=>∃ (v:V) (z:Str) (ps:List Pt),vs=[v,.str z]/\Den K H v (bj ps)/\(∀ p∈ps,p.ok)/\LOk z/\PyData.strOk z=true/\∀ H',af H H'->Q (.bl (cn ps (Txt.split z " "))) H'
def eV (K:Vz):Sp:=λvs H Q _=>∃ (v:V) (p:Pt),vs=[v]/\Den K H v p.dat/\p.ok/\Q (.str (cB p.around)) H
def fL (K:Vz):Sp:=λvs H Q _=>∃ (v:V) (p:Pt),vs=[v]/\Den K H v p.dat/\p.ok/\Q (.int p.loose) H
def oq (K:Vz):Sp:=λvs H Q _=>∃ (v:V) (ps:List Pt),vs=[v]/\Den K H v (bj ps)/\POk ps/\∀ D H',H D=none->af H H'->H' D=some (.lst (ps.map λp=>.int p.loose))->Q (.ref D) H'
def li (K:Vz):Sp:=λvs H Q _=>∃ (a:Addr) (xs:List V) (ps:List Pt),vs=[.ref a]/\SqL K H a xs/\aA K H xs (ps.map Pt.dat)/\ps≠[]/\POk ps/\∀ r H',af H H'->Den K H' r (zu ps).dat->Q r H'
theorem pP {p:Pt} (h:p.ok):p.around<3:=by
 cases p with
 | word w=>exact rA _
 | hole k=>exact h
theorem sR {k:Nat}:PyData.strOk (cB k)=true:=by
 match k with
 | 0=>decide +kernel
 | 1=>decide +kernel
 | (n+2)=>show PyData.strOk (cB 2)=true;decide +kernel
theorem yA {k:Nat} (hk:k<3):decide (V.str (cB k)=V.str "any")=decide (k=2):=by
 match k,hk with
 | 0,_=>decide +kernel
 | 1,_=>decide +kernel
 | 2,_=>decide +kernel
theorem CM {k:Nat} (hk:k<2) (w:Str):decide (V.str (kA (eQ w))=V.str (cB k))=decide (eQ w=k):=by
 have h:cB k=kA k:=by
  match k,hk with
  | 0,_=>rfl
  | 1,_=>rfl
 rw [h];exact Ci (rA _) (by lia)
theorem xI (z:Str):eQ z<3:=rA _
theorem CV (z:Str):(Txt.removeprefix z "-").length<=z.length:=by
 have h:=zl z;have h1:(Txt.removeprefix z "-").length=(Txt.removeprefix z "-").cps.toList.length:=by simp [Str.length]
 have h2:z.length=z.cps.toList.length:=by simp [Str.length]
 rw [h1,h,h2];generalize z.cps.toList=l;unfold bE
 split <;> simp
theorem Dl {ps:List Pt}{ws:List Str} (h:ps.length≠ws.length):cn ps ws=false:=by unfold cn;rw [decide_eq_false h];rfl
theorem Fz {α β:Type}{f:α×β->Bool}{xs:List α}{ys:List β}{i:Nat}{x:α}{y:β} (hx:xs[i]? = some x) (hy:ys[i]? = some y) (h:f (x,y)=false):(xs.zip ys).all f=false:=by
 rw [Qe];intro q;rw [Qs] at q;have hm:(x,y)∈xs.zip ys:=by
  refine PU (i:=i) ?_;rw [Rw];exact ⟨hx,hy⟩
 rw [q _ hm] at h;cases h
theorem Hn {α β:Type}{f:α×β->Bool}{xs:List α}{ys:List β} (h:∀ (i:Nat) x y,i<min xs.length ys.length->xs[i]? = some x->ys[i]? = some y->f (x,y)=true):(xs.zip ys).all f=true:=by
 rw [Qs];intro p hp;obtain ⟨i,hi⟩:=RJ hp;rw [Rw] at hi;have h1:=aW hi.1;have h2:=aW hi.2;exact h i p.1 p.2 (by lia) hi.1 hi.2
theorem ml {K:Vz}{H:Hp}{xs:List V}{ps:List Pt}{i:Nat}{x:V} (h:aA K H xs (ps.map Pt.dat)) (hx:xs[i]? = some x):∃ p,ps[i]? = some p/\Den K H x p.dat:=by
 obtain ⟨d,hd,dX⟩:=h.get hx;rw [P7] at hd;cases e:ps[i]? with
 | none=>rw [e] at hd;cases hd
 | some p=>rw [e] at hd;cases hd;exact ⟨p,rfl,dX⟩
theorem fG {ws:List Str}{i:Nat}{y:V} (h:(ws.map V.str)[i]? = some y):∃ w,ws[i]? = some w/\y = .str w:=by
 rw [P7] at h;cases e:ws[i]? with
 | none=>rw [e] at h;cases h
 | some w=>rw [e] at h;cases h;exact ⟨w,rfl,rfl⟩
theorem G1 {K:Vz}{H0 H4 H':Hp} (ll:LL H0 H4) (s:af H4 H') {v:V}{pt:Pt} (h:Den K H4 v pt.dat):Den K (lim H0 H') v pt.dat:=by
 cases pt with
 | word w=>obtain ⟨a,rfl,hq,q1,q2⟩:=mi h;exact .tup (hq.Lc ll s) (.cons (.str q1) (.cons (.str q2) .nil))
 | hole k=>obtain ⟨a,rfl,hq,q1,q2⟩:=mi h;exact .tup (hq.Lc ll s) (.cons (.str q1) (.cons (.str q2) .nil))
def cN (pss:List (List Pt)) (n:Nat):List Pt:=(List.range n).map λi=>zu (pss.map λps=>ps.getD i (.hole 2))
def vV (K:Vz):Sp:=λvs H Q _=>∃ (a:Addr) (xs:List V) (pss:List (List Pt)) (n:Nat),vs=[.ref a]/\SqL K H a xs/\aA K H xs (pss.map bj)/\pss≠[]/\pss.length<=10000/\(∀ ps∈pss,POk ps/\ps.length=n) /\
 ∀ D acc H',H D=none->af H H'->H' D=some (.lst acc)->aA K (lim H H') acc ((cN pss n).map Pt.dat)->Q (.ref D) H'
theorem xD (pss:List (List Pt)) (n:Nat):cN pss (n+1)=cN pss n++[zu (pss.map λps=>ps.getD n (.hole 2))]:=by simp [cN,RO]
theorem eR {K:Vz}{H:Hp}{xs:List V}{pss:List (List Pt)}{i:Nat}{x:V} (h:aA K H xs (pss.map bj)) (hx:xs[i]? = some x):∃ ps,pss[i]? = some ps/\Den K H x (bj ps):=by
 obtain ⟨d,hd,dX⟩:=h.get hx;rw [P7] at hd;cases e:pss[i]? with
 | none=>rw [e] at hd;cases hd
 | some p=>rw [e] at hd;cases hd;exact ⟨p,rfl,dX⟩
end LG
namespace LG
open PySem L2
def Pt.key:Pt->PyData
 | .word w=>.tuple [.int 0,.int w.length,.str w]
 | .hole k=>.tuple [.int 1,.int k,.str ""]
def iM (ps:List Pt):PyData:=.tuple [.int ps.length,.list (ps.map Pt.key)]
theorem Hv (pt:Pt):pt.key.depth<=5:=by cases pt <;> simp [Pt.key,PyData.depth,PyData.depthAll]
theorem F9 (ps:List Pt):(iM ps).depth<=100:=by
 have h:PyData.depthAll (ps.map Pt.key)<=5:=dC _ λd hd=>by
  obtain ⟨pt,_,rfl⟩:=P9.mp hd;exact Hv pt
 simp only [iM,PyData.depth,PyData.depthAll];lia
def DV:Sh:=.cu .int (.cu .int (.cu .str .oB))
def Bc:Sh:=.cu (.list DV) .oB
theorem G7 (pt:Pt):DV.has pt.key:=by
 cases pt with
 | word w=>exact ⟨_,_,rfl,⟨_,rfl⟩,_,_,rfl,⟨_,rfl⟩,_,_,rfl,⟨_,rfl⟩,rfl⟩
 | hole k=>exact ⟨_,_,rfl,⟨_,rfl⟩,_,_,rfl,⟨_,rfl⟩,_,_,rfl,⟨_,rfl⟩,rfl⟩
theorem AM (ps:List Pt):(Sh.cu .int Bc).has (iM ps):=by
 refine ⟨_,_,rfl,⟨_,rfl⟩,_,_,rfl,⟨_,rfl,λx hx=>?_⟩,rfl⟩;obtain ⟨pt,_,rfl⟩:=P9.mp hx;exact G7 pt
theorem GJ {p q:Pt} (h:p.key=q.key):p=q:=by
 cases p with
 | word w=>
  cases q with
  | word w'=>simp [Pt.key] at h;rw [h.2]
  | hole k=>simp [Pt.key] at h
 | hole k=>
  cases q with
  | word w'=>simp [Pt.key] at h
  | hole k'=>
   simp [Pt.key] at h;have:k=k':=by lia
   rw [this]
theorem map_inj {α β:Type}{f:α->β} (hf:∀ a b,f a=f b->a=b):∀ {l l':List α},l.map f=l'.map f->l=l'
 | [],[],_=>rfl
 | [],_::_,h=>by simp at h
 | _::_,[],h=>by simp at h
 | a::r,b::r',h=>by
  rw [Ql,Ql] at h;injection h with h1 h2;rw [hf a b h1,map_inj hf h2]
theorem EV {ps qs:List Pt} (h:iM ps=iM qs):ps=qs:=by
 simp only [iM,PyData.tuple.injEq,List.cons.injEq,PyData.list.injEq,and_true] at h;exact map_inj (λa b=>GJ) h.2
def mD (l:List (List Pt)):Prop:=l.Pairwise λa b=>ltv (iM b) (iM a)=false
def sel (pss:List (List Pt)) (p:List Nat):List (List Pt):=p.map λi=>pss.getD i []
theorem D1 {pss:List (List Pt)}{p:List Nat} (hp:p.Perm (List.range pss.length)):(sel pss p).Perm pss:=by
 have h1:(sel pss p).Perm ((List.range pss.length).map λi=>pss.getD i []):=hp.map _
 rwa [gr] at h1
theorem A2 {pss:List (List Pt)}{p:List Nat} (hp:p.Perm (List.range pss.length)) (h:gc (pss.map iM) p):mD (sel pss p):=by
 unfold gc at h;unfold mD sel;rw [Q1] at h ⊢;refine h.imp_of_mem λ{i j} hi hj q=>?_;have hi':i<pss.length:=QA.mp (hp.mem_iff.mp hi);have hj':j<pss.length:=QA.mp (hp.mem_iff.mp hj);have e1:(pss.map iM).getD i .none=iM (pss.getD i []):=by simp [List.getD,PV hi']
 have e2:(pss.map iM).getD j .none=iM (pss.getD j []):=by simp [List.getD,PV hj']
 rw [e1,e2] at q;exact q
theorem yb {l l':List (List Pt)} (hp:l.Perm l') (h:mD l) (h':mD l'):l=l':=by
 refine map_inj (f:=iM) (λa b=>EV) ?_;refine uu (Sh.ok (.cu .int Bc)) (λx hx=>?_) (hp.map _) ?_ ?_
 ·obtain ⟨ps,_,rfl⟩:=P9.mp hx;exact AM ps
 ·rw [Q1];exact h
 ·rw [Q1];exact h'
def DK (H H':Hp) (acc:List V):Prop:=∀ x∈acc,∃ t ys,x = .ref t/\H t=none/\H' t=some (.lst ys)/\ys.length<=10000
def qr (K:Vz):Sp:=λvs H Q _=>∃ w,vs=[.str w]/\LOk w/\∀ p,H p=none->Q (.ref p) (upd H p (.tup [.int w.length,.str w]))
def qz (K:Vz):Sp:=λvs H Q _=>∃ v pt,vs=[v]/\Den K H v (Pt.dat pt)/\pt.ok/\∀ r H',af H H'->Den K (lim H H') r pt.key->Q r H'
def lK (K:Vz):Sp:=λvs H Q _=>∃ v ps,vs=[v]/\Den K H v (bj ps)/\POk ps/\∀ r H',af H H'->Den K (lim H H') r (iM ps)->Q r H'
def jV (K:Vz):Sp:=λvs H Q _=>∃ a xs pss,vs=[.ref a]/\SqL K H a xs/\xs.length<64/\aA K H xs (pss.map bj)/\(∀ ps∈pss,POk ps) /\
 ∀ D acc H' l,H D=none->af H H'->H' D=some (.lst acc)->l.Perm pss->mD l->DK H H' acc->(∀ x∈acc,x ≠ .ref D)->aA K (lim H H') acc (l.map bj)->Q (.ref D) H'
theorem HZ {K:Vz}{H:Hp}{xs:List V}{pss:List (List Pt)}{p:List Nat}{i:Nat}{x:V} (hds:aA K H xs (pss.map bj)) (hp:p.Perm (List.range pss.length)) (hx:(picked xs p)[i]? = some x) :
  ∃ ps,(sel pss p)[i]? = some ps/\ps∈pss/\Den K H x (bj ps):=by
 unfold picked at hx;rw [P7] at hx;cases e:p[i]? with
 | none=>rw [e] at hx;cases hx
 | some j=>
  rw [e] at hx;cases hx;have hj:j<pss.length:=QA.mp (hp.mem_iff.mp (PU e));have hd:=hds.Ep j (by rw [PQ];exact hj);have e1:pss[j]? = some pss[j]:=PV hj;refine ⟨pss[j],?_,QE hj,?_⟩
  ·unfold sel;rw [P7,e];simp [List.getD,e1]
  ·have e2:(pss.map bj).getD j .none=bj pss[j]:=by simp [List.getD,e1]
   rw [<-e2];exact hd
theorem Kw {m:Nat} (hm:m<3):eqV (([.str "number",.str "name",.str "any"]:List V).getD m .non) (.str (cB m))=true:=by
 match m,hm with
 | 0,_=>decide +kernel
 | 1,_=>decide +kernel
 | 2,_=>decide +kernel
theorem MJ {m:Nat} (hm:m<3):∀ i,i<m->eqV (([.str "number",.str "name",.str "any"]:List V).getD i .non) (.str (cB m))=false:=by
 match m,hm with
 | 0,_=>intro i hi;lia
 | 1,_=>
  intro i hi;have:i=0:=by lia
  subst this;decide +kernel
 | 2,_=>
  intro i hi;have:i=0\/i=1:=by lia
  rcases this with rfl | rfl <;> decide +kernel
theorem G2:([.str "number",.str "name",.str "any"]:List V).all hJ=true:=rfl
theorem JF {K:Vz}{H H0 H':Hp} (s1:af H H0) (s2:af H H') {v:V}{pt:Pt} (h:Den K H v pt.dat):Den K (lim H0 H') v pt.dat:=by
 cases pt with
 | word w=>obtain ⟨a,rfl,hq,q1,q2⟩:=mi h;exact .tup (hq.lim s1 s2) (.cons (.str q1) (.cons (.str q2) .nil))
 | hole k=>obtain ⟨a,rfl,hq,q1,q2⟩:=mi h;exact .tup (hq.lim s1 s2) (.cons (.str q1) (.cons (.str q2) .nil))
theorem Cc {K:Vz}{H H0 H':Hp} (s1:af H H0) (s2:af H H'):∀ {ps:List Pt}{xs:List V},aA K H xs (ps.map Pt.dat)->aA K (lim H0 H') xs (ps.map Pt.dat)
 | [],_,h=>by cases h;exact .nil
 | pt::r,_,h=>by
  cases h with
  | cons h1 t=>exact .cons (JF s1 s2 h1) (Cc s1 s2 t)
def looseD (ps:List Pt):PyData:=.list (ps.map λp=>.int p.loose)
theorem vk {K:Vz}{H:Hp}:∀ {ps:List Pt},aA K H (ps.map λp=>V.int p.loose) (ps.map λp=>PyData.int p.loose)
 | []=>.nil
 | p::r=>.cons (.int _) vk
theorem tJ (ps:List Pt):(Sh.list .int).has (looseD ps):=by
 refine ⟨_,rfl,λx hx=>?_⟩;obtain ⟨p,_,rfl⟩:=P9.mp hx;exact ⟨_,rfl⟩
theorem CH (ps:List Pt):(looseD ps).depth<=100:=by
 have h:PyData.depthAll (ps.map λp=>PyData.int p.loose)<=0:=dC _ λd hd=>by
  obtain ⟨p,_,rfl⟩:=P9.mp hd;exact PR _
 simp only [looseD,PyData.depth];lia
def yW (l:List (List Pt)) (ps:List Pt):Prop:=ps∈l/\∀ q∈l,ltv (looseD q) (looseD ps)=false/\(looseD q=looseD ps->ltv (iM q) (iM ps)=false)
theorem DQ {l:List (List Pt)} (hl:l≠[]) (ho:mD l):∃ ps,l[cw (l.map looseD)]? = some ps/\yW l ps:=by
 obtain ⟨d,hd,h1,h2⟩:=sm (Sh.ok (.list .int)) (all:=l.map looseD) (λd hd=>by obtain ⟨ps,_,rfl⟩:=P9.mp hd;exact tJ ps) (by intro z;exact hl (QN.mp z));rw [P7] at hd;cases e:l[cw (l.map looseD)]? with
 | none=>rw [e] at hd;cases hd
 | some ps=>
  rw [e] at hd;cases hd;refine ⟨ps,rfl,PU e,λq hq=>?_⟩;obtain ⟨m,hm⟩:=RJ hq;have hm':(l.map looseD)[m]? = some (looseD q):=by rw [P7,hm];rfl
  refine ⟨h1 m _ hm',λheq=>?_⟩;rcases Nat.lt_trichotomy m (cw (l.map looseD)) with z | z | z
  ·have:=h2 m _ z hm';rw [heq,(Sh.ok (.list .int)).irr _ (tJ ps)] at this;cases this
  ·rw [z,e] at hm;cases hm;exact (Sh.ok (.cu .int Bc)).irr _ (AM _)
  ·have hlt:m<l.length:=aW hm;have LK:cw (l.map looseD)<l.length:=aW e;have:=R0.mp ho _ m LK hlt z;rw [PV hlt] at hm;rw [PV LK] at e;cases hm;cases e;exact this
def eY (z:Str) (ps:List Pt):Bool:=cn ps (Txt.split z " ")
def IJ (K:Vz) (H H':Hp) (l:List (List Pt)) (r:V):Prop:=(l=[]/\r = .non)\/∃ (t:Addr) (ys:List V) (ps:List Pt),r = .ref t/\H t=none/\H' t=some (.lst ys)/\yW l ps/\Den K (lim H H') r (bj ps)
def km (K:Vz):Sp:=λvs H Q _=>∃ (z:Str) (a:Addr) (xs:List V) (pss:List (List Pt)),vs=[.str z,.ref a]/\SqL K H a xs/\xs.length<64/\aA K H xs (pss.map bj)/\(∀ ps∈pss,POk ps)/\LOk z/\PyData.strOk z=true /\
 ∀ r H',af H H'->IJ K H H' (pss.filter (eY z)) r->Q r H'
end LG
namespace LG
open PySem L2 PySem.Builtin PySem.Builtin.Str
def Dk (H:Hp) (d:Addr) (n:Nat):Prop:=∃ a b c:Int,H d=some (.lst [.int a,.int b,.int c])/\0<=a/\0<=b/\b<2147483579/\0<=c/\c<=n
theorem Dk.mono {H:Hp}{d:Addr}{n m:Nat} (h:Dk H d n) (hm:n<=m):Dk H d m:=by
 obtain ⟨a,b,c,h1,h2,h3,h4,h5,h6⟩:=h;exact ⟨a,b,c,h1,h2,h3,h4,h5,by lia⟩
theorem Dk.lst {H:Hp}{d:Addr}{n:Nat} (h:Dk H d n):∃ ys,H d=some (.lst ys):=by
 obtain ⟨a,b,c,h1,_⟩:=h;exact ⟨_,h1⟩
theorem Dk.same {H H':Hp}{d:Addr}{n:Nat} (h:Dk H d n) (s:af H H'):Dk H' d n:=by
 obtain ⟨a,b,c,h1,h2⟩:=h;exact ⟨a,b,c,s _ _ h1,h2⟩
theorem Dk.upd {H:Hp}{d D:Addr}{n:Nat}{o:HO} (h:Dk H d n) (hne:d≠D):Dk (upd H D o) d n:=by
 obtain ⟨a,b,c,h1,h2⟩:=h;exact ⟨a,b,c,by rw [au hne];exact h1,h2⟩
theorem Dk.ne {H:Hp}{d p:Addr}{n:Nat} (h:Dk H d n) (hp:H p=none):d≠p:=by
 obtain ⟨ys,h1⟩:=h.lst;exact aw h1 hp
theorem Dk.free {H H':Hp}{d p:Addr}{n:Nat} (h:Dk H' d n) (s:af (wo d H) H') (hp:H' p=none):H p=none:=by
 have h1:(wo d H) p=none:=s.free hp
 rwa [aj (h.ne hp).symm] at h1
theorem cs {H H':Hp}{d p:Addr}{o:HO} (s:af (wo d H) H') (h:H p=some o) (hne:d≠p):H' p=some o:=s p o (by rw [aj (Ne.symm hne)];exact h)
theorem yx {H H3 H4:Hp}{d:Addr}{ys:List V} (h:H d=some (.lst ys)) (s:af (wo d H3) H4):af (lim H H3) (lim H H4):=λb o e=>by
 have h1:=iA e;have hb:b≠d:=λq=>by subst q;exact h1 _ h
 rw [bV h1];exact s b o (by rw [aj hb];exact jm b o e)
theorem nX {l:List Str}{r:Int} (h0:0<=r) (h1:r<l.length):∃ x∈l,atI (l.map V.str) r=some (.str x):=by
 obtain ⟨j,rfl⟩:=Rf (h0:(0:Int)<=r);have hj:j<l.length:=by lia
 exact ⟨l[j],QE hj,cL (by rw [P7,PV hj];rfl)⟩
theorem HW {z:Str}{r:Int} (h0:0<=r) (h1:r<z.length):∃ (c i:Nat),atI z.cps.toList r=some c/\z.cps[i]? = some c:=by
 obtain ⟨j,rfl⟩:=Rf (h0:(0:Int)<=r);have hj:j<z.cps.size:=by have:z.length=z.cps.size:=rfl;lia
 exact ⟨z.cps[j],j,cL (by rw [Qy,Qq hj]),Qq hj⟩
theorem KN {n:Nat}{i:Int} (h0:0<=i) (h1:i<n):ixN n i=some i.toNat:=by
 unfold ixN;rw [if_pos h0,if_pos h1]
theorem Eu {xs:List V}{i:Int} (h:0<=i):px xs none (some i)=xs.take i.toNat:=by
 unfold px;have h1:HT.sIx xs.length 0 none=0:=by simp [HT.sIx]
 rw [h1];obtain ⟨j,rfl⟩:=Rf (h:(0:Int)<=i);rw [HT.BI,QJ,RV,Nat.sub_zero];rcases Nat.le_total j xs.length with q | q
 ·rw [RN q]
 ·rw [Nat.min_eq_right q,P4 (PR _),P4 q]
structure WOk (w:Str):Prop where
 word:cS w=true
 len:w.length<=6
 ok:PyData.strOk w=true
theorem yO:sgn 32=false:=by decide
theorem WOk.blank {w:Str} (h:WOk w):32∉w.cps.toList:=λq=>by
 have h1:=h.word;unfold cS dh at h1;rw [Qt,Qs] at h1;have:=h1.2 32 q;rw [yO] at this;cases this
def xq:List Str:=["get","put","a"]
def xg:List Str:=["0","7","12","-3","007"]
def wM:List Str:=["id=4","<any>","=","x1","-","A","<","none"]
def AD:List Str:=["abcdefghijklmnopqrstuvwxyz","0123456789","-09az","!\"#$&'()*+,-./:;<=>?@AZ[\\]^_{|}~"]
theorem w1:∀ x∈xq,cS x=true/\x.length<=6/\PyData.strOk x=true:=by decide +kernel
theorem w2:∀ x∈xg,cS x=true/\x.length<=6/\PyData.strOk x=true:=by decide +kernel
theorem w3:∀ x∈wM,cS x=true/\x.length<=6/\PyData.strOk x=true:=by decide +kernel
theorem w4:∀ x∈AD,PyData.strOk x=true/\x.length<=100/\0<x.length/\x.cps.toList.all sgn=true:=by decide +kernel
theorem Fl {p:Nat->Prop}{y:Str} (hy:∀ c∈y.cps,p c):∀ (xs:List Str) (acc:Array Nat),(∀ x∈xs,∀ c∈x.cps,p c)->(∀ c∈acc,p c)->(∀ c∈xs.foldl (λacc q=>acc++y.cps++q.cps) acc,p c)/\acc.size<=(xs.foldl (λacc q=>acc++y.cps++q.cps) acc).size
 | [],acc,_,h=>⟨h,PR _⟩
 | x::r,acc,hx,h=>by
  have ih:=Fl hy r (acc++y.cps++x.cps) (λz hz=>hx z (PY _ hz)) λc hc=>by
   rcases RH.mp hc with hc | hc
   ·rcases RH.mp hc with hc | hc
    ·exact h c hc
    ·exact hy c hc
   ·exact hx x (P5 ..) c hc
  refine ⟨ih.1,P2 ?_ ih.2⟩;rw [R7,R7];lia
def bY (K:Vz):Sp:=λvs H Q _=>∃ (d:Addr) (m:Int) (n:Nat),vs=[.ref d,.int m]/\Dk H d n/\n<1000000/\0<m/\m<1000000/\∀ (r:Int) H',af (wo d H) H'->Dk H' d (n+1)->0<=r->r<m->Q (.int r) H'
def o5 (K:Vz):Sp:=λvs H Q _=>∃ z:Str,vs=[.str z]/\TOk z/\∀ H',af H H'->Q (.str (kA (d6 z.cps.toList))) H'
structure fX (m:Nat) (x:Str) (ws:List Str):Prop where
 eq:x=Txt.join " " ws
 pos:1<=ws.length
 le:ws.length<=m
 wd:∀ w∈ws,WOk w
theorem fX.split {m:Nat}{x:Str}{ws:List Str} (h:fX m x ws):Txt.split x " " = ws:=by
 rw [h.eq];exact rT (by intro e;have:=h.pos;rw [e] at this;simp at this) λw hw=>(h.wd w hw).blank
theorem fX.ok {m:Nat}{x:Str}{ws:List Str} (h:fX m x ws) (hm:m<=12):PyData.strOk x=true/\x.length<=84:=by
 have hj:=wH (y:= " ") (m:=6) (by decide +kernel) (λy hy=>⟨(h.wd y hy).ok,(h.wd y hy).len⟩);have h1:((" " : Str)).length=1:=rfl;rw [h1,<-h.eq] at hj;have:=h.le;exact ⟨hj.1,by lia⟩
def Drawn (w:Str) (p:Pt):Prop:=p = .word w\/(p = .hole (d6 w.cps.toList)/\d6 w.cps.toList<2)\/p = .hole 2
def ya (ws:List Str) (ps:List Pt):Prop:=ps.length=ws.length/\∀ (i:Nat) w p,ws[i]? = some w->ps[i]? = some p->Drawn w p
def j8 (K:Vz):Sp:=λvs H Q _=>∃ (d:Addr) (z:Str) (n:Nat),vs=[.ref d,.str z]/\Dk H d n/\n<800000/\z.length<=9000/\PyData.strOk z=true /\
 ∀ F H' ps,H F=none->af (wo d H) H'->Dk H' d (n+(z.length+2))->POk ps->ya (Txt.split z " ") ps->(∃ ys,H' F=some (.lst ys))->Den K (lim H H') (.ref F) (bj ps)->Q (.ref F) H'
end LG
namespace LG
open PySem L2
def m3 (K:Vz) (H:Hp) (d:Addr) (z:Str) (F L:Addr) (n i:Nat) (σ:St) (H3:Hp):Prop:=
 (∃ u1 u2 u3,σ=[some (.ref d),some (.str z),some (.ref F),u1,u2,u3])/\af (wo d H) H3/\Dk H3 d (n+i)/\H3 L=some (.lst ((Txt.split z " ").map V.str)) /\
 ∃ (acc:List V) (ps:List Pt),H3 F=some (.lst acc)/\ps.length=i/\(∀ p∈ps,Pt.ok p)/\(∀ (j:Nat) w p,(Txt.split z " ")[j]? = some w->ps[j]? = some p->Drawn w p)/\aA K (lim (upd H F (.lst [])) H3) acc (ps.map Pt.dat)
theorem m3.step {K:Vz}{H H5:Hp}{d F L t:Addr}{z a b wd:Str}{acc:List V}{n i:Nat}{σ:St}{ps:List Pt}{pt:Pt} (hdF:d≠F) (hFL:F≠L) (hF:H F=none)
  (hσ:∃ u1 u2 u3,σ=[some (.ref d),some (.str z),some (.ref F),u1,u2,u3]) (s5:af (wo d H) H5) (dk5:Dk H5 d (n+(i+1))) (hL:H5 L=some (.lst ((Txt.split z " ").map V.str))) (hF5:H5 F=some (.lst acc)) (hps:ps.length=i) (hok:∀ p∈ps,Pt.ok p)
  (hdr:∀ (j:Nat) w p,(Txt.split z " ")[j]? = some w->ps[j]? = some p->Drawn w p) (dn:aA K (lim (upd H F (.lst [])) H5) acc (ps.map Pt.dat)) (hw:(Txt.split z " ")[i]? = some wd) (hd:Drawn wd pt) (e:pt.dat = .tuple [.str a,.str b]) (hpt:pt.ok) (ha:PyData.strOk a=true) (hb:PyData.strOk b=true) (ht:H5 t=none) :
  m3 K H d z F L n (i+1) σ (upd (upd H5 t (.tup [.str a,.str b])) F (.lst (acc++[.ref t]))):=by
 have hFt:F≠t:=aw hF5 ht;have hLt:L≠t:=aw hL ht;have st:af H5 (upd H5 t (.tup [.str a,.str b])):=af.new ht;refine ⟨hσ,aF (by rw [aj hdF.symm];exact hF) (s5.trans st),(dk5.same st).upd hdF,by rw [au hFL.symm];exact st _ _ hL,acc++[.ref t],ps++[pt],ab,by simp [hps],λp hp=>?_,λj w p hj hp=>?_,?_⟩
 ·(rcases Qc.mp hp with hp | hp)
  ·exact hok p hp
  ·simp only [PZ] at hp;subst hp;exact hpt
 ·rcases Nat.lt_trichotomy j ps.length with q | q | q
  ·rw [Qv q] at hp;exact hdr j w p hj hp
  ·subst q;rw [QB (PR _)] at hp;simp at hp;subst hp;rw [hps,hw] at hj;cases hj;exact hd
  ·rw [Qx (by rw [PX,P8];lia)] at hp;cases hp
 ·rw [nV (ys:=[]) ab,Qa];refine (dn.same (dw st)).append (.cons ?_ .nil);have hn:(upd H F (.lst [])) t=none:=by rw [au hFt.symm];exact dk5.free s5 ht
  rw [e];exact .tup (.of ((iu hn).trans ab)) (.cons (.str ha) (.cons (.str hb) .nil))
theorem A8 (l:List Nat):d6 l<3:=by
 unfold d6
 split
 ·decide
 ·split <;> decide
theorem DB {k:Nat} (hk:k<3):decide (V.str (kA k)=V.str "other")=decide (k=2):=by
 match k,hk with
 | 0,_=>decide +kernel
 | 1,_=>decide +kernel
 | 2,_=>decide +kernel
theorem G8 {k:Nat} (hk:k<2):kA k=cB k:=by
 match k,hk with
 | 0,_=>rfl
 | 1,_=>rfl
structure Pc (ws:List Str):Prop where
 pos:1<=ws.length
 le:ws.length<=12
 wd:∀ w∈ws,WOk w
theorem GW {r:Int} (h0:0<=r) (h1:r<3):∃ v:Int,atI [V.int 3,V.int 6,V.int 12] r=some (.int v)/\0<v/\v<13:=by
 have:r=0\/r=1\/r=2:=by lia
 rcases this with rfl | rfl | rfl
 ·exact ⟨3,rfl,by decide,by decide⟩
 ·exact ⟨6,rfl,by decide,by decide⟩
 ·exact ⟨12,rfl,by decide,by decide⟩
end LG
namespace L2
open PySem PySem.Spec PyProof.Rows
section
variable {X:Cx}
end
section
open PySem.SeqAt
open PySem.AutoSeq1 (wpAny_loadPart')
open PySem.MeetsSeq PySem.MeetsSeq2 PySem.MeetsSeq3
end
section
open PySem.SeqAt
open PySem.MeetsSeq PySem.MeetsSeq2 PySem.MeetsSeq3
variable {X:Cx}
end
section
variable {X:Cx}
def Gx (K:Vz) (neg:Bool):R2:=λx y H Q=>∃ (xs:List PyData) (d:PyData),Den K H y (.list xs)/\Den K H x d/\d.depth<=100/\Q (.bl (if neg then !xs.any λe=>PyData.eqv e d else xs.any λe=>PyData.eqv e d)) H
theorem Bn {k:Nat}{A:Around} (hr:bX k A) {a b:Nat} (h:b<=100):A.units+1+min a b<cLine:=by
 have h1:=hr.un;have h2:=Nat.min_le_right a b;lia
theorem Jy {k:Nat} (hr:bX k X.A):OpR X (compareOp .In) (Gx X.K false):=by
 intro pins s σ H x y v u Q I rx ry h;obtain ⟨xs,d,dy,dx,hd,q⟩:=h;obtain ⟨as1,r1⟩:=I.reads dy ry;obtain ⟨as2,r2⟩:=I.reads dx rx;exact SeqAt.in_list_reads r1 r2 (by simpa [PyData.canLay0] using dy.lay) dx.lay (Bn hr hd) ⟨.bl _,H,I,rfl,q⟩
theorem CF {k:Nat} (hr:bX k X.A):OpR X (compareOp .NotIn) (Gx X.K true):=by
 intro pins s σ H x y v u Q I rx ry h;obtain ⟨xs,d,dy,dx,hd,q⟩:=h;obtain ⟨as1,r1⟩:=I.reads dy ry;obtain ⟨as2,r2⟩:=I.reads dx rx;exact SeqAt.notIn_list_reads r1 r2 (by simpa [PyData.canLay0] using dy.lay) dx.lay (Bn hr hd) ⟨.bl _,H,I,rfl,q⟩
end
end L2
namespace LG
open PySem L2
structure OU (ws:List Str) (ps:List Pt):Prop where
 ok:POk ps
 len:ps.length=ws.length
 takes:∀ (i:Nat) w p,ws[i]? = some w->ps[i]? = some p->p.takes w=true
theorem xN:∀ {ps qs:List Pt},(∀ p∈ps,p.ok)->(∀ p∈qs,p.ok)->ps.map Pt.dat=qs.map Pt.dat->ps=qs
 | [],[],_,_,_=>rfl
 | [],_::_,_,_,h=>by simp at h
 | _::_,[],_,_,h=>by simp at h
 | p::r,q::t,hp,hq,h=>by
  rw [Ql,Ql] at h;injection h with h1 h2;rw [BY (hp p (P5 ..)) (hq q (P5 ..)) h1,xN (λx hx=>hp x (PY _ hx)) (λx hx=>hq x (PY _ hx)) h2]
theorem F5 (ps:List Pt):(Sh.list HA).has (bj ps):=by
 refine ⟨_,rfl,λx hx=>?_⟩;obtain ⟨pt,_,rfl⟩:=P9.mp hx;exact DI pt
theorem IB {ps qs:List Pt} (hp:∀ p∈ps,p.ok) (hq:∀ p∈qs,p.ok):PyData.eqv (bj ps) (bj qs)=decide (ps=qs):=by
 rw [Qp,decide_eq_true_eq,(Sh.ok (.list HA)).eqv _ _ (F5 ps) (F5 qs)];constructor
 ·intro h;simp only [bj,PyData.list.injEq] at h;exact xN hp hq h
 ·rintro rfl;rfl
section
variable {K:Vz}{H0 H H':Hp}{d S:Addr}{ws:List Str}{n n' m:Nat}{xs:List V}{pss:List (List Pt)}
end
end LG
namespace L2
open PySem PySem.Spec PyProof.Rows PySem.MeetsSeq PySem.MeetsSeq2 PySem.MeetsSeq3
section
variable {X:Cx}
def uL (K:Vz):R2:=λx y H Q=>∃ l b xs zs,x = .ref l/\y = .ref b/\SqL K H l xs/\SqL K H b zs/\xs.length+zs.length<=sizeLine/\∀ p,H p=none->Q (.ref p) (upd H p (.lst (xs++zs)))
theorem oF:OpR X (binaryOp .Add) (uL X.K):=by
 intro pins s σ H x y v u Q I rx ry h;obtain ⟨l,b,xs,zs,rfl,rfl,hl,hb,hz,q⟩:=h;cases rx;cases ry;obtain ⟨its,r,pl,h1⟩:=I.list hl;obtain ⟨jts,r2,pl2,h2⟩:=I.list hb;have l1:=r.length;have l2:=r2.length;obtain ⟨⟨cls,dd,data,sl⟩,n,ho,hc,_,hd⟩:=pl;obtain ⟨⟨LJ,dd2,data2,sl2⟩,n2,ho2,hc2,_,hd2⟩:=pl2;simp only at hc hd hc2 hd2;subst hc hd hc2 hd2;have ea:its.toArray++jts.toArray=(its++jts).toArray:=by simp
 refine concat_meets ⟨_,ho,rfl⟩ ⟨_,ho2,rfl⟩ noFill_list_add seq_list_add PySem.F.slot_list_add PySem.F.entry_list_add (PySem.F.args_list_add_2 _ _) (list_addW l b its.toArray jts.toArray n n2 dd dd2 sl sl2 (by simp;lia)) ⟨ho,ho2,?_⟩;rw [ea];exact ⟨.ref _,_,I.NU (t':=s.toks) (r.append r2) (by rw [PX];lia),rfl,q _ I.fresh⟩
end
end L2
namespace LG
open PySem L2
def wJ (K:Vz):Sp:=λvs H Q _=>∃ (a:Addr) (ns:List Int),vs=[.ref a]/\SqL K H a (ns.map V.int)/\ns.length<=63/\∀ H',Q (.bl true) H'
def oD:Option (List Pt)->PyData
 | none=>.none
 | some ps=>bj ps
structure N9 (l:List (List Pt)) (o:Option (List Pt)):Prop where
 nil:o=none↔l=[]
 least:∀ ps,o=some ps->yW l ps
theorem rn (pss:List (List Pt)):(PyData.list (pss.map bj)).depth<=100:=by
 have h:PyData.depthAll (pss.map bj)<=90:=dC _ λd hd=>by
  obtain ⟨ps,_,rfl⟩:=P9.mp hd;exact tL ps
 simp only [PyData.depth];lia
end LG
namespace L2
open PySem PySem.Spec PyProof.Rows
section
variable {prog:Program}{w:World}{A:Around}{E:Vy->Vx->Prop}{s:Vx}
end
section
variable {X:Cx}{tg:Expr}
end
section
variable {X:Cx}{elt tg iter tg2 O3:Expr}{ifs Ph:List Expr}{scope:Scope}{pos:Pos}
end
end L2
namespace L2
open PySem PySem.Spec PyProof.Rows PySem.W
section
variable {X:Cx}{pins:List (Addr×Obj)}{σ:St}{H:Hp}{s:Vx}
end
section
variable {X:Cx}
end
end L2
namespace LG
open PySem L2 PySem.Builtin PySem.Builtin.Str
def PtW:Pt->Prop
 | .word w=>cS w=true/\w.length<=500/\PyData.strOk w=true
 | .hole k=>k<3
def PW (ps:List Pt):Prop:=∀ p∈ps,PtW p
def Words (ws:List Str):Prop:=∀ w∈ws,cS w=true
def vH (pss:List (List Pt)) (ws:List Str):Bool:=pss.any λps=>cn ps ws
def sI (ps:List Pt) (oss:List (List Pt)):Bool:=oss.any λos=>vM ps os
theorem PtW.ok {p:Pt} (h:PtW p):p.ok:=by
 cases p with
 | word w=>exact ⟨P2 h.2.1 (by decide),h.2.2⟩
 | hole k=>exact h
def G0 (w:Str):List Pt->Bool
 | []=>false
 | p::_=>p.takes w
def md (oss:List (List Pt)) (w:Str):List (List Pt):=(oss.filter (G0 w)).map List.tail
def wkD (w:Str):PyData:=.tuple [.int w.length,.str w]
def lkD (ws:List Str):PyData:=.tuple [.int ws.length,.list (ws.map wkD)]
def wlt (a b:Str):Bool:=ltv (wkD a) (wkD b)
def Bd (w:Str):Prop:=w.length<=500/\PyData.strOk w=true
structure LW (k:Nat) (named:List Str) (x:Str):Prop where
 wd:cS x=true
 kd:eQ x=k
 no:x∉named
 le:∀ y,cS y=true->eQ y=k->y∉named->wlt y x=false
 bd:Bd x
def named:List Pt->List Str
 | []=>[]
 | .word w::r=>w::named r
 | .hole _::r=>named r
structure FW (p:Pt) (ps:List Pt) (oss:List (List Pt)) (w:Str):Prop where
 tk:p.takes w=true
 nd:sI ps (md oss w)=false
 le:∀ y,p.takes y=true->sI ps (md oss y)=false->wlt y w=false
 bd:Bd w
structure LP (ps:List Pt) (oss:List (List Pt)) (ws:List Str):Prop where
 tk:cn ps ws=true
 kn:vH oss ws=false
 le:∀ vs,cn ps vs=true->vH oss vs=false->aT (vs.map wkD) (ws.map wkD)=false
 bd:∀ w∈ws,Bd w
structure PLn (pss qss:List (List Pt)) (ws:List Str):Prop where
 pa:vH pss ws≠vH qss ws
 wd:Words ws
 bd:∀ w∈ws,Bd w
 ne:ws≠[]
 ln:ws.length<=12
 le:∀ vs,vH pss vs≠vH qss vs->ltv (lkD vs) (lkD ws)=false
structure MW (pss qss:List (List Pt)) (L:List (List Str)):Prop where
 of:∀ ws∈L,∃ ps∈pss,LP ps qss ws
 all:∀ ps∈pss,sI ps qss=true\/∃ ws∈L,LP ps qss ws
def ou (pss:List (List Pt)):Prop:=∀ ps∈pss,PW ps/\ps≠[]/\ps.length<=12
def lnV (ws:List Str):V:=.str (Txt.join " " ws)
def oS:Option (List Str)->V
 | none=>.non
 | some ws=>lnV ws
theorem FP {xs:List V} (j:Nat):px xs (some (j:Int)) none=xs.drop j:=by
 unfold px;rw [HT.BI,HT.Fn];rcases Nat.le_total j xs.length with h | h
 ·rw [RN h,P4 (by rw [Rt];exact PR _)]
 ·rw [Nat.min_eq_right h,Nat.sub_self,List.take_zero,QH h]
theorem at_of {α:Type}{l:List α}{i:Nat} (h:i<l.length):∃ x,l[i]? = some x:=⟨l[i],PV h⟩
end LG
namespace LG
open PySem L2
theorem fU {C:St->Prop}{σ:St}{f:Option V->St} (h:∃ u0,σ=f u0) (k:∀ u0,C (f u0)):C σ:=by
 obtain ⟨u0,rfl⟩:=h;exact k _
theorem n6 {C:St->Prop}{σ:St}{f:Option V->Option V->St} (h:∃ u0 u1,σ=f u0 u1) (k:∀ u0 u1,C (f u0 u1)):C σ:=by
 obtain ⟨u0,u1,rfl⟩:=h;exact k _ _
theorem GD {C:St->Prop}{σ:St}{f:Option V->Option V->Option V->St} (h:∃ u0 u1 u2,σ=f u0 u1 u2) (k:∀ u0 u1 u2,C (f u0 u1 u2)):C σ:=by
 obtain ⟨u0,u1,u2,rfl⟩:=h;exact k _ _ _
theorem L3 {C:St->Prop}{σ:St}{f:Option V->Option V->Option V->Option V->Option V->Option V->Option V->Option V->St} (h:∃ u0 u1 u2 u3 u4 u5 u6 u7,σ=f u0 u1 u2 u3 u4 u5 u6 u7) (k:∀ u0 u1 u2 u3 u4 u5 u6 u7,C (f u0 u1 u2 u3 u4 u5 u6 u7)):C σ:=by
 obtain ⟨u0,u1,u2,u3,u4,u5,u6,u7,rfl⟩:=h;exact k _ _ _ _ _ _ _ _
end LG
namespace LG
open PySem L2 PySem.Builtin PySem.Builtin.Str
end LG
namespace LG
open PySem L2
def Pt.place:Pt->PyData
 | .word w=>.tuple [.int 0,.int w.length,.str w]
 | .hole k=>.tuple [.int (k+1),.int 0,.str ""]
end LG
namespace L2
open PySem PySem.Spec PyProof.Rows PySem.W
theorem LU {P:Program}{w:World}{k:Key}{u:Vy} (h:(ba P w).is k u=true):RelV (kV k) u:=by
 rcases b9 (show tV k u=true from h) with ⟨i,t,rfl,rfl⟩ | ⟨x,t,rfl,rfl⟩
 ·exact ⟨t,rfl⟩
 ·exact ⟨t,rfl⟩
section
variable {X:Cx}{tg:Expr}
end
section
variable {X:Cx}{pins:List (Addr×Obj)}{σ:St}{H:Hp}{s:Vx}
end
end L2
namespace L2
open PySem PySem.Spec PyProof.Rows
section
variable {X:Cx}
end
def Od:PyData->Str
 | .str x=>x
 | d=>d.shown
structure O0 (d:PyData):Prop where
 PN:d.showable=true
 nod:d.hasDict=false
 dep:d.depth<=100
 len:(∀ x,d ≠ .str x)->d.shown.length<=sizeLine
section
variable {X:Cx}
end
section
variable {X:Cx}
structure PAj (X:Cx) (es:List Expr) (t:TA):Prop where
 go:PA X es t
structure PSj (X:Cx) (st:Stmt) (t:TS):Prop where
 go:PS X st t
structure PJ (X:Cx) (st:List Stmt) (t:TS):Prop where
 go:PSs X st t
end
theorem vI {x:V}:∀ {xs:List V}{us:List Vy},aS xs us->xs.all hJ=true->us.countP (eqU x)=xs.countP λy=>eqV y x
 | _,_,.nil,_=>rfl
 | y::xs,u::us,.cons r t,f=>by
  rw [RA,Qt] at f;rw [Rc,Rc,zH r f.1,vI t f.2]
def EJ (K:Vz):V->List V->Hp->VK->Prop:=λx vs H Q=>∃ p xs y,x = .ref p/\vs=[y]/\SqL K H p xs/\hJ y=true/\xs.all hJ=true/\Q (.int (xs.countP λz=>eqV z y:Nat)) H
theorem DN {X:Cx}:MtR X "list.count" (EJ X.K):=by
 intro pins s σ H x vs v us Q I rx rv h;obtain ⟨p,xs,y,rfl,rfl,hq,fy,fs,q⟩:=h;cases rx;obtain ⟨u,rfl,ru⟩:=rv.one;obtain ⟨its,r,pl,hz⟩:=I.list hq;obtain ⟨o,n,ho,hc,hd,hs⟩:=pl;cases o;cases hc;cases hd;cases hs;refine call_meets PySem.F.slot_list_count ⟨_,ho,rfl⟩ PySem.F.entry_list_count (PySem.F.args_list_count_2 _ _) (SeqAt.list_countAt p its.toArray n _ _ u (eqU y)) ⟨ho,λw hw=>nQ ru fy r fs w (by simpa using hw),?_⟩;refine ⟨.int _,H,I.tok _,⟨_,rfl⟩,?_⟩;rw [show its.toArray.toList=its from rfl,vI r fs];exact q
section
variable {X:Cx}{pins:List (Addr×Obj)}{σ:St}{H:Hp}{s:Vx}{a:Addr}{kvs:List (Key×V)}{k:Key}{x:V}{u r:Vy}{A:Around}{E:Vy->Vx->Prop}
theorem EO {Q:Vy->Vx->Prop} (I:Inv X pins σ H s) (e:H a=some (.dK kvs)) (ry:RelV (kV k) u) (rx:RelV x r) (hl:kvs.length<sizeLine)
  (h1:∀ v,i7 kvs k=some v->∀ w' s',Inv X pins σ H s'->RelV v w'->Q w' s') (h2:i7 kvs k=none->∀ s',Inv X pins σ (upd H a (.dK (putK kvs k x))) s'->Q r s') :
  wpAny (model X.prog X.w) A (call (.builtin "dict.setdefault") [.ref a,u,r]) Q E s:=by
 obtain ⟨z,hd,vs,rel,dd⟩:=Mm I.hok e;have hv:=rel.val k;refine call_meetsIn PySem.F.slot_dict_setdefault dd.typeIs PySem.F.entry_dict_setdefault (PySem.F.args_dict_setdefault_3 _ _ _) (kt_meets_setdefault (ba X.prog X.w) a (IV ry) hd r)
  ⟨vs,dd,by rw [<-rel.length];exact z,λw' hw=>?_,λhn h' dd' hs=>?_⟩
 ·rw [hw] at hv;cases q:i7 kvs k with
  | none=>rw [q] at hv;exact absurd hv (by simp [pB])
  | some v=>rw [q] at hv;exact h1 v q _ _ (I.tok _) hv
 ·rw [hn] at hv;cases q:i7 kvs k with
  | some v=>rw [q] at hv;exact absurd hv (by simp [pB])
  | none=>
   have he:∃ q,h'.get? a=some q:=let ⟨q,_,_,hq,_⟩:=dd';⟨q,hq⟩;exact h2 q _ (Hc I (by rw [e];exact True.intro) hs he (Kh (by have:=yz kvs k x;lia) hd (rel.put k rx) dd'))
end
def MP (td ty tx:TE):TE:=λσ H Q=>td σ H λx H1=>∃ a,x = .ref a/\IsD H1 a/\ty σ H1 λy H2=>tx σ H2 λz H3=>∃ kvs k,H3 a=some (.dK kvs)/\y=kV k/\kvs.length<sizeLine /\
 (∀ v,i7 kvs k=some v->Q v H3)/\(i7 kvs k=none->Q z (upd H3 a (.dK (putK kvs k z))))
section
variable {X:Cx}{o e f:Expr}{apos dv:Pos}{td ty tx:TE}
theorem Gz (ho:PE X o td) (he:PE X e ty) (hf:PE X f tx) (m:M2 X o "setdefault" apos e f dv):PE X (.Call (.Attribute o "setdefault" apos) [e,f] [] dv) (MP td ty tx):=by
 intro pins s σ H Q I h;refine wpAny_Call_method m.base m.few m.line PySem.F.plainAttrs_dict PySem.F.slot_dict_setdefault PySem.F.type_dict_setdefault (thn (ho pins s σ H _ I h) λu s1 ⟨x,H1,I1,rx,a,ex,d,q1⟩=>?_);subst ex;obtain rfl:u=Value.ref a:=rx;obtain ⟨t1,t2,_⟩:=Gp I1 d;refine ⟨t1,t2,?_⟩;rw [m.II];refine Calls.callWith_builtin rfl (Calls.evalArgs_plain (Calls.spliced_cons (thn (he pins s1 σ H1 _ I1 q1) λiv s2 ⟨y,H2,I2,ry,q2⟩=>
  Calls.spliced_cons (thn (hf pins s2 σ H2 _ I2 q2) λfv s3 ⟨z,H3,I3,rz,kvs,k,ea,ey,hl,q3,q4⟩=>Calls.spliced_nil ?_))))
 subst ey;exact EO I3 ea ry rz hl (λv hv w' s4 I4 rw'=>⟨v,H3,I4,rw',q3 v hv⟩) λhn s4 I4=>⟨z,_,I4,rz,q4 hn⟩
end
theorem KV.vals {kvs:List (Key×V)}{vs:List (Key×Vy)} (r:KV kvs vs):aS (kvs.map (·.2)) (vs.map (·.2)):=by
 induction r with
 | nil=>exact .nil
 | cons h _ ih=>exact .cons h.2 ih
def tLV (td:TE):TE:=λσ H Q=>td σ H λx H1=>∃ a kvs,x = .ref a/\Rd H1 a (.dK kvs)/\∀ p,H1 p=none->Q (.ref p) (upd H1 p (.lst (kvs.map (·.2))))
section
variable {X:Cx}{x:Str}{p apos dv pos:Pos}{o:Expr}{td:TE}
theorem DL (hh:X.calm=true) (hg:Gl X x) (hm:X.mg x=none) (hv:bootBuiltins x=some (.type "list")) (ho:PE X o td)
  (hn:x ≠ "__name__" :=by decide) (hdb:(x == ("__debug__" : Str))=false:=by decide) (tN:attributeBase o "values" X.env (eval o X.env)=eval o X.env:=by rfl) (rX:(apos.endLine == dv.line)=true:=by rfl)
  (he:starEach [Expr.Call (.Attribute o "values" apos) [] [] dv] X.env=(false,eval (Expr.Call (.Attribute o "values" apos) [] [] dv) X.env)::starEach [] X.env:=by rfl) :
  PE X (.Call (.Name x p) [.Call (.Attribute o "values" apos) [] [] dv] [] pos) (tLV td):=by
 intro pins s σ H Q I h;refine wpAny_Call_Name_kw (gM I hg hm hv ?_ hn hdb);refine PyProof.Rows.callWith_type1 ?_ he rfl;rw [he];refine Calls.spliced_cons (wpAny_Call_method0_late tN rX (thn (ho pins s σ H _ I h) λu s1 ⟨y,H1,I1,ry,a,kvs,ey,d,q1⟩=>?_));subst ey;obtain rfl:u=Value.ref a:=ry;obtain ⟨t1,t2,_⟩:=Gp I1 (.inl ⟨kvs,d⟩);obtain ⟨z,hd,vs,rel,dd⟩:=DT I1.hok d;refine ⟨"dict","dict.values",PySem.F.plainAttrs_dict,PySem.F.slot_dict_values,PySem.F.type_dict_values,t1,t2,Calls.callWith_builtin rfl (PySem.evalArgs_none ?_)⟩;refine call_meetsIn PySem.F.slot_dict_values dd.typeIs PySem.F.entry_dict_values (PySem.F.args_dict_values_1 _) (meets_dict_values (ba X.prog X.w) a hd) ⟨⟨vs,dd⟩,Calls.spliced_nil ?_⟩;obtain ⟨ep,hat⟩:=(dd.push { cls:=.type "dict_values",data:=.fields #[.ref a] }).dictAt;have I2:=I1.kept (t':=s1.toks) (h':=s1.heap.push { cls:=.type "dict_values",data:=.fields #[.ref a] }) λ_ _ q=>Vu _ q;have vl:=rel.length;refine PySem.W.kdl_call (PySem.W.kdl_values (knd:=ba X.prog X.w) (kvs:=vs) (ep:=ep)) (I1.ok.hd hh) ⟨⟨_,Heap.get?_push_size _ rfl,rfl,rfl⟩,hat⟩ (by lia) λh' tk Jv c' hk hS d9=>?_;have hvs:Jv.toList=vs.map (·.2):=PySem.W.kdl_vals_eq Jv.toList (by rw [Qd];exact d9.1) λj v hj=>d9.2 j v (by rw [<-Qy];exact hj)
 refine ⟨.ref _,_,I2.laid (o:=.lst (kvs.map (·.2))) hk (PR _) ⟨by rw [PQ];exact z,Jv.toList,c',by rw [hvs];exact rel.vals,by rw [Array.toArray_toList];exact hS⟩,rfl,q1 _ (I2.hok.fresh (PR _))⟩
end
section
open SetTable
def way (t:SetTable) (h:Int):Nat->Probe
 | 0=>t.probeStart h
 | n+1=>t.advance (way t h n)
end
section
open SetTable
variable {mask:Nat}
end
section
variable {P:Program}{w:World}{A:Around}{E:Vy->Vx->Prop}{s:Vx}
abbrev tK (P:Program) (w:World):=tupleKind (ba P w)
variable {kf:Addr->Int×Str}{a x:Addr}{o:Obj}{es:Array (Int×Vy)}{ep:Nat}{t:SetTable}
def hK (P:Program) (w:World) (k:Int×Str):Int:=(tK P w).hash [.inl k.1,.inr k.2]
end
def vL:Vy->Str
 | .str x _=>x
 | _=>Str.empty
theorem Hl (t:SetTable) (es:Array (Int×Vy)) (h:Int) (x:Vy):(layNew t es h x).2.1.led=t.led:=by
 unfold layNew
 split
 ·simp only [SetTable.put,SetTable.orStandIn,SetTable.standIn]
  repeat (first | rfl | split)
 ·rfl
theorem vg (t:SetTable) (es:Array (Int×Vy)) (n:Nat):(relayAll t es n).2.1.led=t.led/\(t.plain=false->(relayAll t es n).2.1.plain=false):=by
 unfold relayAll
 split
 ·rename_i t' order e;simp only [SetTable.relaid,SetTable.laid] at e;have:t'.led=t.led/\t'.plain=t.plain:=by
   cases h:SetTable.layClean (SetTable.sizeAbove n - 1) (es.map (·.1)) with
   | none=>rw [h] at e;cases e
   | some o=>
    rw [h] at e;cases e;exact ⟨rfl,rfl⟩
  dsimp only
  split
  ·exact ⟨this.1,λz=>by rw [this.2];exact z⟩
  ·exact ⟨rfl,λ_=>rfl⟩
 ·exact ⟨rfl,λ_=>rfl⟩
section
variable {P:Program}{w:World}
def kg (P:Program) (w:World) (byT:Bool) (h:Heap) (a:Addr) (us:List Str):Prop:=∃ o es ep t,h.get? a=some o/\o.ExactSet/\o.data = .set es ep t/\ElemsOf (ba P w) es.toList/\es.size<scanBound/\t.fits es.size=true/\t.led=(!byT)/\(us≠[]->t.plain=false)/\(∀ e∈es.toList,∃ x tk,e.2 = .str x tk)/\(es.toList.map λe=>vL e.2).Perm us
theorem kg.keep {byT:Bool}{h h':Heap}{a:Addr}{us:List Str} (x:kg P w byT h a us) (k:∀ o,h.get? a=some o->h'.get? a=some o):kg P w byT h' a us:=by
 obtain ⟨o,es,ep,t,ho,r⟩:=x;exact ⟨o,es,ep,t,k o ho,r⟩
theorem Ba {byT:Bool}{h:Heap}{a:Addr} (hg:h.get? a=some { cls:=.type "set",dict:=none,data:=.set #[] 0 (.fresh 0 0 (!byT)) }):kg P w byT h a []:=
 ⟨_,#[],0,_,hg,⟨rfl,rfl,rfl⟩,rfl,(λe he=>by simp at he),by decide,by rfl,rfl,λz=>(z rfl).elim,(λe he=>by simp at he),by simp⟩
theorem jN {byT:Bool}{h:Heap}{a:Addr}{o:Obj}{es es':Array (Int×Vy)}{ep:Nat}{t t':SetTable}{us:List Str} (ho:h.get? a=some o) (hex:o.ExactSet) (hd:o.data = .set es ep t)
  (hel:ElemsOf (ba P w) es'.toList) (hb:es'.size<scanBound) (hf:t'.fits es'.size=true) (hl:t'.led = !byT) (hp:us≠[]->t'.plain=false) (hs:∀ e∈es'.toList,∃ x tk,e.2 = .str x tk) (hm:(es'.toList.map λe=>vL e.2).Perm us) :
  (h.update a (Obj.putSet es' t')).get? a=some { o with data:=.set es' (ep+1) t' }/\kg P w byT (h.update a (Obj.putSet es' t')) a us:=by
 have q:=Heap.get?_update_self (Obj.putSet es' t') ho (by rw [putSet_of es' t' hd];rfl);rw [putSet_of es' t' hd] at q;exact ⟨q,_,es',ep+1,t',q,hex,rfl,hel,hb,hf,hl,hp,hs,hm⟩
variable {s:Vx}{A:Around}{E:Vy->Vx->Prop}
theorem DH {byT:Bool}{h:Heap}{a:Addr}{us:List Str}{x:Str}{es:Array (Int×Vy)} (hs:∀ e∈es.toList,∃ x tk,e.2 = .str x tk) (hm:(es.toList.map λe=>vL e.2).Perm us):(∃ e∈es.toList,(ba P w).is (.inr x) e.2=true)↔x∈us:=by
 rw [<-hm.mem_iff,P9];constructor
 ·rintro ⟨e,he,hk⟩;obtain ⟨tk,e2⟩:=LU hk;exact ⟨e,he,by rw [e2];rfl⟩
 ·rintro ⟨e,he,hk⟩;obtain ⟨y,tk,e2⟩:=hs e he;rw [e2] at hk;have:y=x:=hk;refine ⟨e,he,?_⟩;rw [e2,this];exact iK P w x tk
theorem Fj {byT:Bool}{a:Addr}{us:List Str}{x:Str}{tk:Tok}{Q:Bool->Vx->Prop} (hS:kg P w byT s.heap a us) (Lu:us.length+1<scanBound)
  (h:∀ h' b,Heap.SameBut a s.heap h'->kg P w byT h' a (if x∈us then us else us++[x])->Q b { s with heap:=h' }) :
  wpAny (model P w) A (setAddHashed a (.str x tk) ((ba P w).hash (.inr x))) Q E s:=by
 obtain ⟨o,es,ep,t,ho,hex,hd,hel,hb,hf,hl,hp,hs,hm⟩:=id hS;have HS:(ba P w).is (.inr x) (.str x tk)=true:=iK P w x tk;have hsc:(Value.str x tk).scannable=true:=rfl;have hn:es.size=us.length:=by
  have:=hm.length_eq;rw [PQ,Qd] at this;exact this
 have hb1:es.size+1<scanBound:=hn ▸ Lu;have scanned:=byScan_of hsc hb hel;unfold setAddHashed;refine Vs ?_;unfold setAddHashedIn;refine Vw (wpAny_setState_of ho hd hf ?_);dsimp only;rw [scanned,if_pos rfl];unfold setAddByScan;refine Vw (Vw (wpAny_rule (Vw (wpAny_setScan_of HS ho hd hf hel ?_))));have Lq:=DH (P:=P) (w:=w) (byT:=byT) (h:=s.heap) (a:=a) (x:=x) hs hm;cases hr:List.findIdx? (λe=>(ba P w).is (.inr x) e.2) es.toList with
 | some j=>
  dsimp only;obtain ⟨hj,hpj,_⟩:=List.findIdx?_eq_some_iff_getElem.mp hr;have hin:x∈us:=Lq.mp ⟨es.toList[j],QE hj,hpj⟩;have same:=h s.heap false (Heap.SameBut.refl a s.heap) (by rw [if_pos hin];exact hS);exact Vv (Vv same)
 | none=>
  dsimp only;have hin:x∉us:=λz=>by
   obtain ⟨e,he,hk⟩:=Lq.mpr z;have:=List.findIdx?_eq_none_iff.mp hr e he;rw [hk] at this;cases this
  have hgw:∀ (b:Bool) {s₁:Vx}{Q':Unit->Vx->Prop},Q' () s₁->wpAny (model P w) A (match b with | true=>rule "set.scan.the-table-gave-way" | false=>pure ()) Q' E s₁:=
   λb _ _ q=>match b with
    | true=>wpAny_rule q
    | false=>Vv q
  have bi:=layNew_perm t es ((ba P w).hash (.inr x)) (.str x tk);have Bl:=layNew_fits t es ((ba P w).hash (.inr x)) (.str x tk);have GA:=Hl t es ((ba P w).hash (.inr x)) (.str x tk);generalize layNew t es ((ba P w).hash (.inr x)) (.str x tk)=L at bi Bl GA ⊢;obtain ⟨es1,t1,dm,O9⟩:=L;dsimp only at bi Bl GA ⊢;rw [Array.toList_push] at bi;have Hw:ElemsOf (ba P w) es1.toList:=(hel.push HS hsc).perm bi;have hs1:∀ e∈es1.toList,∃ x tk,e.2 = .str x tk:=λe he=>by
   rcases Qc.mp (bi.mem_iff.mp he) with z | z
   ·exact hs e z
   ·rw [PZ.mp z];exact ⟨x,tk,rfl⟩
  have hm1:(es1.toList.map λe=>vL e.2).Perm (us++[x]):=by
   refine (bi.map _).trans ?_;rw [Qa];exact hm.append_right _
  have Cr:es1.size<scanBound:=by rw [<-Qd,bi.length_eq,PX,Qd];simpa using hb1
  refine Vw (hgw _ ?_);have Ij:∀ h',Heap.SameBut a s.heap h'->kg P w byT h' a (us++[x])->Q true { s with heap:=h' }:=λh' sb hx=>h h' true sb (by rw [if_neg hin];exact hx);have pk:plainKind (.str x tk)=false:=rfl;have ft:({ t1 with plain:=false }:SetTable).fits es1.size=true/\({ t1 with plain:=false }:SetTable).led=(!byT)/\({ t1 with plain:=false }:SetTable).plain=false:=⟨SetTable.fits_plain_off Bl,GA.trans hl,rfl⟩;have fs:t1.plain=false->t1.fits es1.size=true/\t1.led=(!byT)/\t1.plain=false:=λz=>⟨Bl,GA.trans hl,z⟩;cases hpl:t1.plain
  ·have f2:=fs hpl;clear fs ft;rw [if_neg (by decide)];refine Vw (Vv ?_);simp only [if_true];generalize t1=t2 at f2 ⊢;obtain ⟨ho2,hS2⟩:=jN (P:=P) (w:=w) (us:=us++[x]) ho hex hd Hw Cr f2.1 f2.2.1 (λ_=>f2.2.2) hs1 hm1;have sb2:=Heap.SameBut.update s.heap a (Obj.putSet es1 t2);refine Vw (wpAny_storeSet_of ho hd ?_ (fits_of_scanBound Cr));refine wpAny_ite_split (λ_=>?_) λ_=>Vv (Vv (Ij _ sb2 hS2));obtain ⟨rp,rf⟩:=And.intro (relayAll_perm t2 es1 (SetTable.grown es1.size)) (relayAll_fits t2 es1 (SetTable.grown es1.size));obtain ⟨rl1,rl2⟩:=vg t2 es1 (SetTable.grown es1.size);generalize relayAll t2 es1 (SetTable.grown es1.size)=Z at rp rf rl1 rl2 ⊢;have zb:Z.1.size<scanBound:=by
    have e:=rp.length_eq;rw [Qd,Qd] at e;rw [e];exact Cr
   obtain ⟨_,hS3⟩:=jN (P:=P) (w:=w) (us:=us++[x]) ho2 hex rfl (Hw.perm rp) zb rf (rl1.trans f2.2.1) (λ_=>rl2 f2.2.2) (λe he=>hs1 e (rp.mem_iff.mp he)) ((rp.map _).trans hm1);refine Vw (hgw _ (Vw (wpAny_storeSet_of ho2 rfl ?_ (fits_of_scanBound zb))));exact Vv (Vv (Ij _ (sb2.trans (Heap.SameBut.update _ a _)) hS3))
  ·have f2:=ft;clear fs ft;rw [if_pos rfl,hashByValue_scannable 8 hsc];refine Vw (Vv ?_);simp only [pk,Qu,if_false];generalize ({ t1 with plain:=false }:SetTable)=t2 at f2 ⊢;obtain ⟨ho2,hS2⟩:=jN (P:=P) (w:=w) (us:=us++[x]) ho hex hd Hw Cr f2.1 f2.2.1 (λ_=>f2.2.2) hs1 hm1;have sb2:=Heap.SameBut.update s.heap a (Obj.putSet es1 t2);refine Vw (wpAny_storeSet_of ho hd ?_ (fits_of_scanBound Cr));refine wpAny_ite_split (λ_=>?_) λ_=>Vv (Vv (Ij _ sb2 hS2));obtain ⟨rp,rf⟩:=And.intro (relayAll_perm t2 es1 (SetTable.grown es1.size)) (relayAll_fits t2 es1 (SetTable.grown es1.size));obtain ⟨rl1,rl2⟩:=vg t2 es1 (SetTable.grown es1.size);generalize relayAll t2 es1 (SetTable.grown es1.size)=Z at rp rf rl1 rl2 ⊢;have zb:Z.1.size<scanBound:=by
    have e:=rp.length_eq;rw [Qd,Qd] at e;rw [e];exact Cr
   obtain ⟨_,hS3⟩:=jN (P:=P) (w:=w) (us:=us++[x]) ho2 hex rfl (Hw.perm rp) zb rf (rl1.trans f2.2.1) (λ_=>rl2 f2.2.2) (λe he=>hs1 e (rp.mem_iff.mp he)) ((rp.map _).trans hm1);refine Vw (hgw _ (Vw (wpAny_storeSet_of ho2 rfl ?_ (fits_of_scanBound zb))));exact Vv (Vv (Ij _ (sb2.trans (Heap.SameBut.update _ a _)) hS3))
def jZ:List Str->List Str->List Str
 | us,[]=>us
 | us,x::r=>jZ (if x∈us then us else us++[x]) r
theorem Bw:∀ (zs us:List Str),(jZ us zs).length<=us.length+zs.length
 | [],us=>PR _
 | x::r,us=>by
  have:=Bw r (if x∈us then us else us++[x]);unfold jZ
  split at this
  ·rw [if_pos ‹_›];simp at *;lia
  ·rw [if_neg ‹_›];simp at *;lia
theorem lY:∀ (zs us:List Str),us.Nodup->(jZ us zs).Nodup
 | [],us,h=>h
 | y::r,us,h=>by
  unfold jZ;refine lY r _ ?_
  split
  ·exact h
  ·rename_i hn;exact Q3.mpr ⟨h,by simp,λa ha b hb e=>hn (by rw [PZ.mp hb] at e;rw [<-e];exact ha)⟩
theorem C5 {byT:Bool}{R:Result->Vx->Prop}{I:Addr}{fp wr:List Addr}{G:Array GenState->Array GenState->Prop}{n:Nat}{Pv:Nat->Vy->Prop}{St:Nat->Vx->Prop} (W:WalksS P w A.in1 I fp wr G n Pv St) (S:Addr) (hSf:S∉fp)
  (zs:List Str) (hz:zs.length=n) (Nt:∀ i v,Pv i v->∃ x t,zs[i]? = some x/\v = .str x t) (hb:n+1<scanBound) :
  ∀ (r:List Str) (i:Nat) (s:Vx) (us:List Str),r=zs.drop i->i<=n->us.length<=i->St i s->kg P w byT s.heap S us ->
   (∀ s',Moved (S::wr) G s s'->kg P w byT s'.heap S (jZ us r)->R (.ok (.ret .none)) s') ->
   codeAny (model P w) A (.builtin "set.update.loop" ⟨[.ref S,.ref I],[]⟩) R s:=by
 have hSw:S∉wr:=mt (W.sub S) hSf;have GI:=λb (z:b∈wr)=>PY S z;intro r
 induction r with
 | nil=>
  intro i s us hr hi hus hst hS hR;have hin:i=n:=by
   have:=RK.mp hr.symm;lia
  subst hin;refine codeAny_builtin PyProof.Rows.F.entry_set_update_loop ?_;rw [Around.under_plainId PyProof.Rows.F.plain_set_update_loop _];refine Vw (m:=pyNext (.ref I)) (W.done s _ _ hst λs' hm=>?_);exact Vv (hR s' (hm.mono GI) (hS.keep λo e=>hm.heap S _ hSw e))
 | cons x r ih=>
  intro i s us hr hi hus hst hS hR;have hlt:i<zs.length:=by
   rcases Qz i zs.length with z | z
   ·exact z
   ·rw [QH z] at hr;cases hr
  have hxe:zs[i]? = some x/\r=zs.drop (i+1):=by
   rw [Qw hlt] at hr;injection hr with e1 e2;exact ⟨by rw [PV hlt,<-e1],e2⟩
  refine codeAny_builtin PyProof.Rows.F.entry_set_update_loop ?_;rw [Around.under_plainId PyProof.Rows.F.plain_set_update_loop _];refine Vw (m:=pyNext (.ref I)) (W.item i s _ _ (by lia) hst λv s' hP nc hm=>?_);obtain ⟨x',t,hx',rfl⟩:=Nt i v hP;rw [hxe.1] at hx';cases hx';have hS':kg P w byT s'.heap S us:=hS.keep λo e=>hm.heap S _ hSw e;show wpAny _ A.in1 (holding [Value.str x t] (setAdd S (.str x t)) >>= _) _ _ s';refine Vw (Vs ?_);unfold setAdd;refine Vs ?_;refine Vw ((ba P w).pyHash (k:=.inr x) (iK P w x t) ?_);refine Fj (s:={ s' with toks:=s'.toks+1 }) hS' (by lia) λh' b sb hS2=>?_;refine Vv ⟨plainId_quiet PyProof.Rows.F.plain_set_update_loop _,ih (i+1) _ _ hxe.2 (by lia) ?_ (W.frame _ s' _ _ nc (QO _) λb hb o e=>?_) hS2 λs'' Ny NJ=>?_⟩
  ·split
   ·lia
   ·simp;lia
  ·rw [sb.2 b (λh:b=S=>hSf (by rw [<-h];exact hb))];exact e
  ·have first:=hm.mono GI
   have put:=first.then_heap (QO s'.toks) (h':=h') λb o hb e=>(sb.2 b λz=>hb (z ▸ P5)).trans e;exact hR s'' (Moved.trans W.gtrans put Ny) NJ
def iW (w:World):Bool:=w.params.followText "set-order"
def Cp (w:World):Obj:={ cls:=.type "set",dict:=none,data:=.set #[] 0 (.fresh 0 0 (!iW w)) }
theorem Hy (a:Vy) {Q₁:Vy->Vx->Prop} (h:Q₁ (.ref s.heap.objs.size) { s with heap:=s.heap.push (Cp w) }) :
  codeAny (model P w) A (.call (.builtin "set.__new__") ⟨[.type "set",a],[]⟩) (wants Q₁ E) s:=by
 have key:∀ led,led=(!iW w)->Q₁ (.ref s.heap.objs.size) { s with heap:=s.heap.push { cls:=.type "set",dict:=none,data:=.set #[] 0 (.fresh 0 0 led) } }:=λled e=>by subst e;exact h
 refine codeAny_of_tree (Vw (m:=checkBuiltinCall "set.__new__" ⟨[.type "set",a],[]⟩) (wpAny_of_eq (PySem.F.newCall_set_1 a) (Vv ⟨plainId_quiet PySem.F.plain_set_new _,codeAny_builtin PySem.F.entry_set_new ?_⟩)));rw [Around.under_plainId PySem.F.plain_set_new _];unfold Builtin.«set.__new__» Builtin.Frozenset.newClass;have GI:=sub_set_self;clear h;obtain ⟨hp,g,d,tk,os⟩:=s;dsimp only at key ⊢
 wp_walk
 refine wpAny_askSetting (Vv ?_);dsimp only;simp only [newObj];exact Vw (wpAny_alloc (Vv (Vv (key _ rfl))))
theorem DG {l a:Addr}{items:Array Vy}{zs:List Str}{Q:PySem.Fin->Vx->Prop} (hh:A.handled=none) (hl:s.heap.IsList l items) (hi:aS (zs.map V.str) items.toList) (hb:items.size+1<scanBound) (ha:s.heap.get? a=some (Cp w)) (hal:l≠a)
  (h:∀ (h':Heap) (tk:Nat),kg P w (iW w) h' a (jZ [] zs)->(∀ b o,b≠a->s.heap.get? b=some o->h'.get? b=some o)->Q (.done (.ret .none)) { s with heap:=h',toks:=tk }) :
  wpAny (model P w) A (Builtin.«set.__init__» ⟨[.ref a,.ref l],[]⟩) Q E s:=by
 have hT:s.TypeIs (.ref a) "set" :=⟨_,ha,rfl⟩;obtain ⟨ol,hol,hcl,nl,hdl⟩:=id hl;obtain ⟨Pu,O5,O1,Oh⟩:=ol;simp only at hcl hdl;subst hcl hdl;have Pp:=PySem.F.sub_list_set;have Pn:=PySem.F.sub_list_frozenset;have hne:(Value.type "list" == Value.type "dict")=false:=by decide
 have ha':s.heap.get? a=some { cls:=.type "set",dict:=none,data:=.set #[] 0 (.fresh 0 0 (!iW w)) }:=ha;unfold Builtin.«set.__init__» noKeywords Builtin.Frozenset.updateFrom;generalize hPI:pyIter=PI
 wp_walk
 subst hPI;refine wpAny_pyIter_list hl (Vw (wpAny_runValue ?_));have hla:l<s.heap.objs.size:=Heap.lt_size hol;have haa:a<s.heap.objs.size:=Heap.lt_size ha;have hlen:zs.length=items.size:=by have:=hi.length;rw [PQ,Qd] at this;exact this
 refine C5 (byT:=iW w) ((Walks.list (show A.in1.handled=none from hh) s.heap.objs.size l (Qj hla) items).toS) a (by simp only [Qi,Ra,or_false,not_or];exact ⟨Qj haa,hal.symm⟩) zs hlen (λi v hv=>?_) hb zs 0 _ [] rfl (Qb _) (PR _)
  ⟨⟨_,Heap.get?_push_size _ rfl,rfl,rfl⟩,hl.push _⟩ (Ba (Vu _ ha')) λs' hm hS'=>?_
 ·have hv':items.toList[i]? = some v:=by rw [Qy];exact hv
  have hiz:i<zs.length:=by rw [hlen];rw [Qy] at hv';exact (Array.getElem?_eq_some_iff.mp hv').1
  obtain ⟨x,hx⟩:∃ x,zs[i]? = some x:=⟨zs[i],PV hiz⟩;obtain ⟨u,hu,ru⟩:=hi.get (i:=i) (x:=.str x) (by rw [P7,hx];rfl);rw [hv'] at hu;cases hu;obtain ⟨t,rfl⟩:=ru;exact ⟨x,t,hx,rfl⟩
 ·obtain ⟨h',g',d',tk',os'⟩:=s';obtain rfl:g' = s.gens:=hm.gens;obtain rfl:d' = s.drawn:=hm.drawn;obtain rfl:os' = s.os:=hm.os;refine Vv (Vv (h h' tk' hS' λb o hb e=>hm.heap b o (λz=>?_) (Vu _ e)));rcases Qi.mp z with z | z
  ·exact hb z
  ·exact absurd (Heap.lt_size e) (by rw [PZ.mp z];exact QF _)
theorem uG {l:Addr}{items:Array Vy}{zs:List Str}{Q:Vy->Vx->Prop} (hh:A.handled=none) (hl:s.heap.IsList l items) (hi:aS (zs.map V.str) items.toList) (hb:items.size+1<scanBound)
  (h:∀ (h':Heap) (tk:Nat),kg P w (iW w) h' s.heap.objs.size (jZ [] zs)->(∀ b o,s.heap.get? b=some o->h'.get? b=some o)->Q (.ref s.heap.objs.size) { s with heap:=h',toks:=tk }) :
  wpAny (model P w) A (call (.type "set") [.ref l]) Q E s:=by
 obtain ⟨c,tl,PD⟩:=PySem.F.called_set.mro;have O2:=PySem.F.called_set.made;have GI:=PySem.F.called_set.sub;have h1:=PySem.F.called_set.notType;have h2:=PySem.F.called_set.canCreate;have hct:=PySem.F.typeCall_set_1 (.ref l);refine wpAny_call (codeAny_of_tree (show wpAny _ _ (callAny (.type "set") _) _ _ _ from Vv ⟨Code.quiet_builtin _ (by decide +kernel),codeAny_builtin PySem.F.entry_type_call ?_⟩));rw [Around.under_plain (weight_type_call_type "set" [.ref l] []) rfl]
 repeat any_goals (first | assumption | wp_step)
 refine codeAny_mono (Hy (P:=P) (w:=w) (.ref l) (E:=E) (Q₁:=λobj s₁=>obj = .ref s.heap.objs.size/\s₁={ s with heap:=s.heap.push (Cp w) }) ⟨rfl,rfl⟩) λr s₁ hr=>?_;cases r with
 | error e=>exact hr
 | ok fl=>
  cases fl with
  | ret obj=>
   obtain ⟨rfl,rfl⟩:=hr;have hS:(s.heap.push (Cp w)).get? s.heap.objs.size=some (Cp w):=Heap.get?_push_size _ rfl;have hT:Shared.TypeIs { s with heap:=s.heap.push (Cp w) } (.ref s.heap.objs.size) "set" :=⟨_,hS,rfl⟩;have hli:=PySem.F.called_set.init.lookup;have hbi:=PySem.F.called_set.init.bind (.ref s.heap.objs.size)
   repeat any_goals (first | assumption | wp_step)
   refine codeAny_mono (codeAny_call_builtin (R:=wants (λr s₂=>r = .none/\Q (.ref s.heap.objs.size) s₂) E) PySem.F.called_set.init.plain PySem.F.entry_set_init (check_set_init_1 hT ?_)) λr₂ s₂ hr₂=>?_
   ·have hla:l<s.heap.objs.size:=by obtain ⟨_,e,_⟩:=hl;exact Heap.lt_size e
    refine DG (A:=A.in1.in1) hh (hl.push _) hi hb hS (Qj hla) λh' tk hx hk=>?_;exact ⟨rfl,h h' tk hx λb o e=>hk b o (Qj (Heap.lt_size e)) (Vu _ e)⟩
   ·cases r₂ with
    | error e=>exact hr₂
    | ok fl₂=>
     cases fl₂ with
     | ret r=>
      obtain ⟨rfl,hq⟩:=hr₂
      repeat any_goals (first | assumption | wp_step)
     | _=>exact hr₂.elim
  | _=>exact hr.elim
end
end L2
namespace L2
open PySem PySem.Spec PyProof.Rows PySem.W
namespace SF
theorem slot_next:Slot "set_iterator" "__next__" "set_iterator.__next__" :=
 .of (owner:= "set_iterator") (n:= "__next__") (by rw [typeLookup_type,builtinLookup_eq_fast];kernel_rfl) (by decide +kernel) (by decide +kernel) (by decide +kernel) (by first | exact .inl (by decide +kernel) | exact .inr (by decide +kernel)) (by rw [isSubtype_type];kernel_rfl)
theorem uN:Slot "set_iterator" "__iter__" "set_iterator.__iter__" :=
 .of (owner:= "set_iterator") (n:= "__iter__") (by rw [typeLookup_type,builtinLookup_eq_fast];kernel_rfl) (by decide +kernel) (by decide +kernel) (by decide +kernel) (by first | exact .inl (by decide +kernel) | exact .inr (by decide +kernel)) (by rw [isSubtype_type];kernel_rfl)
theorem entry_next:entryFor table "set_iterator.__next__" = some Builtin.«set_iterator.__next__»:=entryFor_of_tree (by kernel_rfl)
theorem args_next (a:Vy):argsOk "set_iterator.__next__" ⟨[a],[]⟩:=by unfold argsOk;kernel_rfl
theorem Cz (a:Vy):argsOk "set_iterator.__iter__" ⟨[a],[]⟩:=by unfold argsOk;kernel_rfl
theorem r6:entryFor table "set.__iter__" = some Builtin.«frozenset.__iter__»:=entryFor_alias (id':= "frozenset.__iter__") (by kernel_rfl) rfl (by decide +kernel) (by kernel_rfl)
theorem zX:entryFor table "set_iterator.__iter__" = some Builtin.«dict_keyiterator.__iter__»:=entryFor_alias (id':= "dict_keyiterator.__iter__") (by kernel_rfl) rfl (by decide +kernel) (by kernel_rfl)
end SF
section
variable {P:Program}{w:World}{A:Around}{E:Vy->Vx->Prop}{s:Vx}
theorem wC {M:Model}{src:Source}{n:Nat}{Q:Nat->Vx->Prop} (hn:n≠0) (h:∀ i d,i<n->Q i { s with drawn:=d }):wpAny M A (choose src n) Q E s:=λΓ p hΓ=>by
 unfold choose;rw [Sem.wp_choose];exact ⟨hn,h _ _ (Nat.mod_lt _ (Nat.pos_of_ne_zero hn))⟩
theorem nr {α:Type}:∀ (l:List α) (i:Nat) (h:i<l.length),(l[i]::l.eraseIdx i).Perm l
 | [],_,h=>by cases h
 | x::r,0,_=>List.Perm.refl _
 | x::r,i+1,h=>by
  have ih:=nr r i (by simpa using h);exact (List.Perm.swap _ _ _).trans (List.Perm.cons _ ih)
theorem ka {M:Model}{α:Type}:∀ (n:Nat) (xs:List α) (s:Vx) {Q:List α->Vx->Prop},xs.length=n->(∀ ys d,ys.Perm xs->Q ys { s with drawn:=d })->wpAny M A (drawOrder n xs) Q E s
 | 0,xs,s,Q,hn,h=>by
  have:xs=[]:=Rb.mp hn;subst this;exact Vv (h [] s.drawn (List.Perm.refl _))
 | n+1,[],s,Q,hn,h=>by cases hn
 | n+1,x::xs,s,Q,hn,h=>by
  unfold drawOrder;refine Vw (wC (by simp) λi d hi=>?_);rw [PV hi];dsimp only;refine Vw (ka n _ _ (by rw [RT hi];simpa using hn) λys d' hp=>Vv (h _ d' ?_));exact (List.Perm.cons _ hp).trans (nr _ i hi)
def lc (first:Vy) (i:Nat) (a:Addr) (n ep:Nat):Obj:={ cls:=.type "set_iterator",data:=.fields #[first,.int i 0,.ref a,.int n 0,.int ep 0] }
structure SAt (h:Heap) (a:Addr) (es:Array (Int×Vy)) (ep:Nat) (t:SetTable):Prop where
 ob:∃ o,h.get? a=some o/\o.ExactSet/\o.data = .set es ep t
 ft:t.fits es.size=true
theorem ef {a:Addr}{es:Array (Int×Vy)}{ep:Nat}{tb:SetTable}{Q:Array (Int×Vy)->Vx->Prop} (hs:SAt s.heap a es ep tb) (h:Q es s):wpAny (model P w) A (setEntries a) Q E s:=by
 obtain ⟨o,ho,_,hd⟩:=hs.ob;exact Vw (wpAny_setState_of ho hd hs.ft (Vv h))
theorem l5 (n:Nat):¬ (((n:Int) != (n:Int))=true):=by simp
theorem yM {M:Model}{α:Type}{R:α->Vx->Prop} (hh:A.handled=none) (h:∀ h' e o,(∀ b o,s.heap.get? b=some o->h'.get? b=some o)->h'.get? e=some o->o.cls = .type "StopIteration" -> E (.ref e) { s with heap:=h' }):wpAny M A (newExc (.type "StopIteration") [] >>= λe=>(raiseNew e:Sem α)) R E s:=by
 refine Vw ?_;unfold newExc newTuple;refine Vw (wpAny_newObj_type ?_ (by size_fits));have fa:(firstArgMember (.type "StopIteration") []:Sem Vy)=pure Value.none:=by first | rfl | (unfold firstArgMember;rfl)
 rw [fa];refine Vw (Vv (wpAny_newObj_type ?_ (by size_fits)));unfold raiseNew;refine Vw (wpAny_handled ?_);rw [hh];exact Vw (Vv (wpAny_throw (h _ _ _ (λb o e=>Vu _ (Vu _ e)) (Heap.get?_push_size _ rfl) rfl)))
theorem pj {it a:Addr}{first:Vy}{i n ep:Nat}{Q:Option Vy->Vx->Prop} (hit:s.heap.get? it=some (lc first i a n ep))
  (h:wpAny (model P w) A.in1 (Builtin.«set_iterator.__next__» ⟨[.ref it],[]⟩) (λf s'=>∃ v,f = .done (.ret v)/\Q (some v) s') (λe s'=>∃ b o,e = .ref b/\s'.heap.get? b=some o/\o.cls = .type "StopIteration" /\ Q none s') s) :
  wpAny (model P w) A (pyNext (.ref it)) Q E s:=by
 have hty:s.TypeIs (.ref it) "set_iterator" :=⟨_,hit,rfl⟩;unfold pyNext;refine Vw (wpAny_attempt (wpAny_callSpecial?_slot (name:=Str.ofString "__next__") hty SF.slot_next (wpAny_call_entry SF.slot_next hty SF.entry_next ?_ (SF.args_next _))));refine Vt h (λf s' ⟨v,e,q⟩=>?_) λe s' ⟨b,o,eb,ho,hc,q⟩=>?_
 ·exact ⟨v,e,Vv q⟩
 ·subst eb;exact Vw (wpAny_isInstance (T:= "StopIteration") (b:=true) ⟨o,ho,hc⟩ isSubtype_stop (Vv q))
theorem mf {it a:Addr}{first x:Vy}{i n ep k:Nat}{vs:Array Vy}{Q:Unit->Vx->Prop} (hit:s.heap.get? it=some { cls:=.type "set_iterator",data:=.fields vs }) (hk:k<vs.size)
  (h:∀ h',Heap.SameBut it s.heap h'->h'.get? it=some { cls:=.type "set_iterator",data:=.fields (vs.setIfInBounds k x) }->Q () { s with heap:=h' }):wpAny (model P w) A (setField (.ref it) k x) Q E s:=
 wpAny_setField_rec hit hk λh' e sb=>h h' sb e
theorem zo {it a:Addr}{slot i ep nx:Nat}{x:Vy}{es:Array (Int×Vy)}{tb:SetTable}{Q:Option Vy->Vx->Prop} (hit:s.heap.get? it=some (lc (.int slot 0) i a es.size ep)) (hs:SAt s.heap a es ep tb)
  (hn:∀ (A:Around) (E:Vy->Vx->Prop) (R:Option (Vy×Nat)->Vx->Prop),R (some (x,nx)) s->wpAny (model P w) A (setNext a slot i ep) R E s)
  (h:∀ h',Heap.SameBut it s.heap h'->h'.get? it=some (lc (.int nx 0) (i+1:Nat) a es.size ep)->Q (some x) { s with heap:=h' }):wpAny (model P w) A (pyNext (.ref it)) Q E s:=by
 refine pj hit ?_;unfold Builtin.«set_iterator.__next__»;refine Vw (Vv ?_);refine Vw (wpAny_fieldsOf hit rfl ?_);show wpAny _ _ (setEntries a >>= _) _ _ _;refine Vw (ef hs ?_);rw [if_neg (l5 es.size)];show wpAny _ _ (setNext a slot i ep >>= _) _ _ _;refine Vw (hn _ _ _ ?_);dsimp only;refine Vw (mf (a:=a) (first:=x) (i:=i) (n:=0) (ep:=ep) hit (by simp) λh1 sb1 Cy=>?_);refine Vw (mf (a:=a) (first:=x) (i:=i) (n:=0) (ep:=ep) Cy (by simp) λh2 sb2 HY=>?_);exact Vv ⟨x,rfl,h h2 (sb1.trans sb2) HY⟩
theorem xV {it a:Addr}{slot i ep:Nat}{es:Array (Int×Vy)}{tb:SetTable}{Q:Option Vy->Vx->Prop} (hh:A.handled=none) (hit:s.heap.get? it=some (lc (.int slot 0) i a es.size ep)) (hs:SAt s.heap a es ep tb)
  (hn:∀ (A:Around) (E:Vy->Vx->Prop) (R:Option (Vy×Nat)->Vx->Prop),R none s->wpAny (model P w) A (setNext a slot i ep) R E s)
  (h:∀ h',(∀ b o,b≠it->s.heap.get? b=some o->h'.get? b=some o)->Q none { s with heap:=h' }):wpAny (model P w) A (pyNext (.ref it)) Q E s:=by
 refine pj hit ?_;unfold Builtin.«set_iterator.__next__»;refine Vw (Vv ?_);refine Vw (wpAny_fieldsOf hit rfl ?_);show wpAny _ _ (setEntries a >>= _) _ _ _;refine Vw (ef hs ?_);rw [if_neg (l5 es.size)];show wpAny _ _ (setNext a slot i ep >>= _) _ _ _;refine Vw (hn _ _ _ ?_);dsimp only;refine Vw (mf (a:=a) (first:=.none) (i:=i) (n:=0) (ep:=ep) hit (by simp) λh1 sb1 Cy=>?_);refine yM (s:={ s with heap:=h1 }) (show A.in1.handled=none from hh) λh' e o hk ho hc=>⟨e,o,rfl,ho,hc,h h' λb ob hb he=>hk b ob ((sb1.2 b hb).trans he)⟩
theorem Cs {it a T:Addr}{i ep k:Nat}{hx:Int}{x:Vy}{ps:List Nat}{es:Array (Int×Vy)}{tb:SetTable}{oT:Obj}{nT:Nat}{Q:Option Vy->Vx->Prop} (hit:s.heap.get? it=some (lc (.ref T) i a es.size ep)) (hs:SAt s.heap a es ep tb)
  (hT:s.heap.get? T=some oT) (dT:oT.data = .seq (ps.map λ(j:Nat)=>rawInt j).toArray nT) (hp:ps[i]? = some k) (he:es[k]? = some (hx,x)) (h:∀ h',Heap.SameBut it s.heap h'->h'.get? it=some (lc (.ref T) (i+1:Nat) a es.size ep)->Q (some x) { s with heap:=h' }) :
  wpAny (model P w) A (pyNext (.ref it)) Q E s:=by
 refine pj hit ?_;unfold Builtin.«set_iterator.__next__»;refine Vw (Vv ?_);refine Vw (wpAny_fieldsOf hit rfl ?_);show wpAny _ _ (setEntries a >>= _) _ _ _;refine Vw (ef hs ?_);rw [if_neg (l5 es.size)];show wpAny _ _ (seqItems? (.ref T) >>= _) _ _ _;refine Vw (wpAny_seqItems hT dT ?_);have e1:(ps.map λ(j:Nat)=>rawInt j).toArray[(i:Int).toNat]? = some (.int k 0):=by
  rw [QJ,List.getElem?_toArray,P7,hp];rfl
 dsimp only;rw [e1];dsimp only;refine Vw ?_;unfold setNextDrawn;obtain ⟨o,ho,_,hd⟩:=hs.ob;refine Vw (wpAny_setState_of ho hd hs.ft ?_);dsimp only;rw [if_neg (by simp)];refine Vw (Vv ?_);rw [QJ,he];refine Vv ?_;refine Vw (mf (a:=a) (first:=x) (i:=i) (n:=0) (ep:=ep) hit (by simp) λh1 sb1 Cy=>?_);exact Vv ⟨x,rfl,h h1 sb1 Cy⟩
theorem Cw {it a T:Addr}{i ep:Nat}{ps:List Nat}{es:Array (Int×Vy)}{tb:SetTable}{oT:Obj}{nT:Nat}{Q:Option Vy->Vx->Prop} (hh:A.handled=none) (hit:s.heap.get? it=some (lc (.ref T) i a es.size ep)) (hs:SAt s.heap a es ep tb)
  (hT:s.heap.get? T=some oT) (dT:oT.data = .seq (ps.map λ(j:Nat)=>rawInt j).toArray nT) (hp:ps[i]? = none) (h:∀ h',(∀ b o,b≠it->s.heap.get? b=some o->h'.get? b=some o)->Q none { s with heap:=h' }) :
  wpAny (model P w) A (pyNext (.ref it)) Q E s:=by
 refine pj hit ?_;unfold Builtin.«set_iterator.__next__»;refine Vw (Vv ?_);refine Vw (wpAny_fieldsOf hit rfl ?_);show wpAny _ _ (setEntries a >>= _) _ _ _;refine Vw (ef hs ?_);rw [if_neg (l5 es.size)];show wpAny _ _ (seqItems? (.ref T) >>= _) _ _ _;refine Vw (wpAny_seqItems hT dT ?_);have e1:(ps.map λ(j:Nat)=>rawInt j).toArray[(i:Int).toNat]? = none:=by
  rw [QJ,List.getElem?_toArray,P7,hp];rfl
 dsimp only;rw [e1];dsimp only;refine Vw (mf (a:=a) (first:=.none) (i:=i) (n:=0) (ep:=ep) hit (by simp) λh1 sb1 Cy=>?_);refine Vw (mf (a:=a) (first:=.none) (i:=i) (n:=0) (ep:=ep) Cy (by simp) λh2 sb2 HY=>?_);refine yM (s:={ s with heap:=h2 }) (show A.in1.handled=none from hh) λh' e o hk ho hc=>⟨e,o,rfl,ho,hc,h h' λb ob hb he=>hk b ob (((sb1.trans sb2).2 b hb).trans he)⟩
theorem mw {α:Type} (next:Nat->Nat):∀ (n k:Nat) (l:List α) (out:Array α),l.length=n->((pickOrder.go next n k l out).toList).Perm (out.toList++l)
 | 0,k,l,out,hn=>by
  have:l=[]:=Rb.mp hn;subst this;unfold pickOrder.go;simp
 | n+1,k,l,out,hn=>by
  unfold pickOrder.go;have hl:next k % l.length<l.length:=Nat.mod_lt _ (by lia);rw [PV hl];dsimp only;refine (mw next n (k+1) _ _ (by rw [RT hl];lia)).trans ?_;rw [Array.toList_push,Q7];exact List.Perm.append_left _ (nr l _ hl)
theorem o6 {a:Addr}{slot i ep:Nat}{es:Array (Int×Vy)}{tb:SetTable}{R:Option (Vy×Nat)->Vx->Prop} (hb:iW w=true) (hs:SAt s.heap a es ep tb)
  (h:R (((pickOrder (w.params.setOrder a ep) es)[i]?).map λe=>(e.2,slot)) s):wpAny (model P w) A (setNext a slot i ep) R E s:=by
 obtain ⟨o,ho,_,hd⟩:=hs.ob;unfold setNext setsByText;refine Vw (wpAny_setState_of ho hd hs.ft ?_);dsimp only;refine Vw (Vw (wpAny_askSetting (Vv ?_)));show wpAny _ _ (if iW w=true then _ else _) _ _ _;rw [if_pos hb,if_neg (by simp)];refine Vw ?_;unfold setWalk setsByText;refine Vw (wpAny_setState_of ho hd hs.ft ?_);dsimp only;refine Vw (Vw (wpAny_askSetting (Vv ?_)));show wpAny _ _ (if iW w=true then _ else _) _ _ _;rw [if_pos hb];exact Vw (wpAny_askSetting (Vv (Vv h)))
theorem qg {a:Addr}{slot i ep:Nat}{es:Array (Int×Vy)}{tb:SetTable}{R:Option (Vy×Nat)->Vx->Prop} (hb:iW w=false) (hl:tb.led=true) (h1:es.size<=1) (hs:SAt s.heap a es ep tb)
  (h:R (match es[SetTable.below tb.place slot]?,tb.place[SetTable.below tb.place slot]? with | some (_,x),some j=>some (x,j+1) | _,_=>none) s):wpAny (model P w) A (setNext a slot i ep) R E s:=by
 obtain ⟨o,ho,_,hd⟩:=hs.ob;unfold setNext setsByText;refine Vw (wpAny_setState_of ho hd hs.ft ?_);dsimp only;refine Vw (Vw (wpAny_askSetting (Vv ?_)));show wpAny _ _ (if iW w=true then _ else _) _ _ _;rw [if_neg (by rw [hb];decide)];refine Vw (Vv ?_);show wpAny _ _ (if (!tb.plain && decide (es.size > 1))=true then _ else _) _ _ _;rw [if_neg (by simp;lia)];refine Vw ?_;show wpAny _ _ (if (!tb.led && !es.isEmpty)=true then _ else _) _ _ _;rw [if_neg (by simp [hl])];exact Vv (Vv h)
theorem rN (xs:Array Nat) (h:xs.size<=1):SetTable.below xs 0=0:=by
 unfold SetTable.below;have:xs.size=0\/xs.size=1:=by lia
 rcases this with e | e
 ·rw [e];rfl
 ·rw [e];show SetTable.below.go xs 0 1 0 1=0;unfold SetTable.below.go;simp [SetTable.below.go]
theorem A0 (j:Nat):SetTable.below #[j] (j+1)=1:=by
 unfold SetTable.below;show SetTable.below.go #[j] (j+1) 1 0 1=1;unfold SetTable.below.go;simp [SetTable.below.go]
structure Handed (es:Array (Int×Vy)) (vs:List Vy):Prop where
 perm:vs.Perm (es.toList.map (·.2))
theorem d7 {h h':Heap}{a:Addr}{es:Array (Int×Vy)}{ep:Nat}{t:SetTable} (x:SAt h a es ep t) (k:∀ o,h.get? a=some o->h'.get? a=some o):SAt h' a es ep t:=by
 obtain ⟨o,e,r⟩:=x.ob;exact ⟨⟨o,k o e,r⟩,x.ft⟩
theorem sV {it a:Addr}{first:Vy}{i n ep:Nat}{Q:Vy->Vx->Prop} (hit:s.heap.get? it=some (lc first i a n ep)) (h:Q (.ref it) s):wpAny (model P w) A (pyIter (.ref it)) Q E s:=by
 have hty:s.TypeIs (.ref it) "set_iterator" :=⟨_,hit,rfl⟩;refine wpAny_pyIter_slot hty SF.uN (wpAny_call_entry SF.uN hty SF.zX ?_ (SF.Cz _));exact Vv ⟨_,rfl,"set_iterator",_,hty,SF.slot_next.lookup,h⟩
theorem CB {it a:Addr}{ep:Nat}{es:Array (Int×Vy)}{tb:SetTable} (hh:A.handled=none) (hne:a≠it) (hb:iW w=true) :
  Walks P w A it [it,a] [it] es.size (λi v=>((pickOrder (w.params.setOrder a ep) es).toList.map (·.2))[i]? = some v) (λi h=>h.get? it=some (lc (.int 0 0) i a es.size ep)/\SAt h a es ep tb) where
 sub:=λb hb=>by rw [PZ.mp hb];exact .head _
 frame:=λi h h' st k=>⟨k it (by simp) _ st.1,d7 st.2 λo e=>k a (by simp) o e⟩
 item:=λi s Q E hi st hQ=>by
  have hl:(pickOrder (w.params.setOrder a ep) es).size=es.size:=by
   have:=(mw (w.params.setOrder a ep) es.size 0 es.toList #[] (by simp)).length_eq;unfold pickOrder;simpa using this
  have hi':i<(pickOrder (w.params.setOrder a ep) es).size:=by lia
  refine zo (slot:=0) (nx:=0) (x:=(pickOrder (w.params.setOrder a ep) es)[i].2) st.1 st.2 (λA E R hR=>o6 hb st.2 (by rw [Qq hi'];exact hR)) λh' sb hit=>?_;refine hQ _ h' s.toks ?_ ⟨hit,d7 st.2 λo e=>(sb.2 a hne).trans e⟩ λb o hb e=>(sb.2 b (by simpa using hb)).trans e;rw [P7,Qy,Qq hi'];rfl
 done:=λs Q E st hQ=>by
  have hl:(pickOrder (w.params.setOrder a ep) es).size=es.size:=by
   have:=(mw (w.params.setOrder a ep) es.size 0 es.toList #[] (by simp)).length_eq;unfold pickOrder;simpa using this
  refine xV (slot:=0) hh st.1 st.2 (λA E R hR=>o6 hb st.2 (by rw [QR (by lia)];exact hR)) λh' k=>hQ h' s.toks λb o hb e=>k b o (by simpa using hb) e
 self:=λi s Q E st h=>sV st.1 h
theorem AY {it a T:Addr}{ep nT:Nat}{oT:Obj}{ps:List Nat}{es:Array (Int×Vy)}{tb:SetTable} (hh:A.handled=none) (hne:a≠it) (hnT:T≠it) (hp:ps.Perm (List.range es.size)) (dT:oT.data = .seq (ps.map λ(j:Nat)=>rawInt j).toArray nT) :
  Walks P w A it [it,a,T] [it] es.size (λi v=>(ps.map λk=>(es.getD k (0,.none)).2)[i]? = some v) (λi h=>h.get? it=some (lc (.ref T) i a es.size ep)/\SAt h a es ep tb/\h.get? T=some oT) where
 sub:=λb hb=>by rw [PZ.mp hb];exact .head _
 frame:=λi h h' st k=>⟨k it (by simp) _ st.1,d7 st.2.1 λo e=>k a (by simp) o e,k T (by simp) _ st.2.2⟩
 item:=λi s Q E hi st hQ=>by
  have hl:ps.length=es.size:=by rw [hp.length_eq];simp
  have hi':i<ps.length:=by lia
  have hk:ps[i]<es.size:=by have:=hp.mem_iff.mp (QE hi');simpa using this
  refine Cs (hx:=es[ps[i]].1) (x:=es[ps[i]].2) st.1 st.2.1 st.2.2 dT (PV hi') (Qq hk) λh' sb hit=>?_;refine hQ _ h' s.toks ?_ ⟨hit,d7 st.2.1 λo e=>(sb.2 a hne).trans e,(sb.2 T hnT).trans st.2.2⟩ λb o hb e=>(sb.2 b (by simpa using hb)).trans e;rw [P7,PV hi',Option.map_some];simp [Array.getD,hk]
 done:=λs Q E st hQ=>by
  have hl:ps.length=es.size:=by rw [hp.length_eq];simp
  refine Cw hh st.1 st.2.1 st.2.2 dT (Qx (by lia)) λh' k=>hQ h' s.toks λb o hb e=>k b o (by simpa using hb) e
 self:=λi s Q E st h=>sV st.1 h
theorem FR {it a:Addr}{ep:Nat}{es:Array (Int×Vy)}{tb:SetTable} (hh:A.handled=none) (hne:a≠it) (hb:iW w=false) (hl:tb.led=true) (h1:es.size<=1) (hf:tb.fits es.size=true) :
  Walks P w A it [it,a] [it] es.size (λi v=>(es.toList.map (·.2))[i]? = some v) (λi h=>h.get? it=some (lc (.int (if i=0 then 0 else tb.place.getD 0 0+1:Nat) 0) i a es.size ep)/\SAt h a es ep tb) where
 sub:=λb hb=>by rw [PZ.mp hb];exact .head _
 frame:=λi h h' st k=>⟨k it (by simp) _ st.1,d7 st.2 λo e=>k a (by simp) o e⟩
 item:=λi s Q E hi st hQ=>by
  obtain rfl:i=0:=by lia
  have hpl:tb.place.size=es.size:=by simp only [SetTable.fits,Qt,beq_iff_eq] at hf;exact hf.1
  have e0:=rN tb.place (by lia);have hp0:0<tb.place.size:=by lia
  refine zo (slot:=0) (nx:=tb.place[0]+1) (x:=es[0].2) st.1 st.2 (λA E R hR=>qg hb hl h1 st.2 (by rw [e0,Qq hi,Qq hp0];exact hR)) λh' sb hit=>?_;refine hQ _ h' s.toks ?_ ⟨?_,d7 st.2 λo e=>(sb.2 a hne).trans e⟩ λb o hb e=>(sb.2 b (by simpa using hb)).trans e
  ·rw [P7,Qy,Qq hi];rfl
  ·rw [hit];simp [Array.getD,hp0]
 done:=λs Q E st hQ=>by
  have hpl:tb.place.size=es.size:=by simp only [SetTable.fits,Qt,beq_iff_eq] at hf;exact hf.1
  refine xV hh st.1 st.2 (λA E R hR=>qg hb hl h1 st.2 ?_) λh' k=>hQ h' s.toks λb o hb e=>k b o (by simpa using hb) e;rcases Qz 0 es.size with z | z
  ·have z1:es.size=1:=by lia
   obtain ⟨j,ej⟩:∃ j,tb.place = #[j]:=by
    match hq:tb.place,(show tb.place.size=1 by lia) with
    | ⟨[j]⟩,_=>exact ⟨j,rfl⟩
   rw [if_neg (by lia),ej];have:(#[j]:Array Nat).getD 0 0=j:=rfl;rw [this,A0,QR (by lia)];exact hR
  ·rw [if_pos (by lia),rN tb.place (by lia),QR z];exact hR
 self:=λi s Q E st h=>sV st.1 h
theorem yJ {a:Addr}{es:Array (Int×Vy)}{ep:Nat}{tb:SetTable}{Q:Bool->Vx->Prop} (hs:SAt s.heap a es ep tb) (h:Q (!iW w && (!tb.plain && decide (es.size > 1))) s):wpAny (model P w) A (setDrawn a) Q E s:=by
 obtain ⟨o,ho,_,hd⟩:=hs.ob;unfold setDrawn setsByText;refine Vw (wpAny_setState_of ho hd hs.ft ?_);dsimp only;exact Vw (Vw (wpAny_askSetting (Vv (Vv h))))
theorem zY {es:Array (Int×Vy)}{ps:List Nat} (hp:ps.Perm (List.range es.size)):(ps.map λk=>(es.getD k (0,.none)).2).Perm (es.toList.map (·.2)):=by
 refine (hp.map _).trans ?_;have e:(List.range es.size).map (λk=>(es.getD k (0,.none)).2)=es.toList.map (·.2):=by
  apply R6;intro i;rw [P7,P7];by_cases hi:i<es.size
  ·rw [List.getElem?_range hi];simp [Array.getD,hi]
  ·rw [Qx (by simp;lia),Qx (by simp;lia)];rfl
 rw [e]
theorem EB {a:Addr}{us:List Str}{Q:Vy->Vx->Prop} (hh:A.handled=none) (hS:kg P w (iW w) s.heap a us)
  (h:∀ (I:Addr) (vs:List Vy) (h':Heap) (d:Drawn) (fp:List Addr) (St:Nat->Heap->Prop),(∀ b o,s.heap.get? b=some o->h'.get? b=some o)->(∀ b∈fp,b=a\/s.heap.objs.size<=b)->s.heap.objs.size<=I->vs.length=us.length->(∃ us':List Str,us'.Perm us/\aS (us'.map V.str) vs) ->
   Walks P w A I fp [I] vs.length (λi v=>vs[i]? = some v) St->St 0 h'->Q (.ref I) { s with heap:=h',drawn:=d }) :
  wpAny (model P w) A (pyIter (.ref a)) Q E s:=by
 obtain ⟨o,es,ep,t,ho,hex,hd,hel,hb,hf,hl,hp,hs,hm⟩:=id hS;have sat:SAt s.heap a es ep t:=⟨⟨o,ho,hex,hd⟩,hf⟩;have hT:s.TypeIs (.ref a) "set" :=⟨o,ho,hex.1⟩;have hn:es.size=us.length:=by
  have:=hm.length_eq;rw [PQ,Qd] at this;exact this
 have vals:∀ vs:List Vy,vs.Perm (es.toList.map (·.2))->vs.length=us.length/\∃ us':List Str,us'.Perm us/\aS (us'.map V.str) vs:=λvs hv=>by
  refine ⟨by rw [hv.length_eq,PQ,Qd,hn],vs.map vL,((hv.map vL).trans (by rw [Q5];exact hm)),?_⟩;have gW:∀ v∈vs,∃ x tk,v = .str x tk:=λv hv'=>by
   obtain ⟨e,he,rfl⟩:=P9.mp (hv.mem_iff.mp hv');exact hs e he
  clear hv
  induction vs with
  | nil=>exact .nil
  | cons v r ih=>
   obtain ⟨x,tk,rfl⟩:=gW v (.head _);exact .cons ⟨tk,rfl⟩ (ih λv hv=>gW v (.tail _ hv))
 refine wpAny_pyIter_slot hT PySem.F.slot_set_iter (wpAny_call_entry PySem.F.slot_set_iter hT SF.r6 ?_ (PySem.F.args_set_iter_1 _));unfold Builtin.«frozenset.__iter__»;refine Vw (Vv ?_);refine Vw (m:=Builtin.Frozenset.sizeOf a) (Vw (ef sat (Vv ?_)));refine Vw (yJ sat ?_);dsimp only;have hla:a<s.heap.objs.size:=Heap.lt_size ho;by_cases hdr:(!iW w && (!t.plain && decide (es.size > 1)))=true
 ·rw [if_pos hdr];refine Vw (ka es.size _ s (by simp) λps d hps=>?_);refine Vw (wpAny_newTuple ?_ (by rw [PQ,hps.length_eq,QQ,sizeLine_eq];unfold scanBound at hb;lia));have hoT:(s.heap.push { cls:=.type "tuple",data:=.seq (ps.map λ(i:Nat)=>rawInt i).toArray }).get? s.heap.objs.size=some { cls:=.type "tuple",data:=.seq (ps.map λ(i:Nat)=>rawInt i).toArray }:=Heap.get?_push_size _ rfl;generalize hh1:s.heap.push { cls:=.type "tuple",data:=.seq (ps.map λ(i:Nat)=>rawInt i).toArray }=h1 at hoT ⊢;have k1:∀ b o,s.heap.get? b=some o->h1.get? b=some o:=λb o e=>by rw [<-hh1];exact Vu _ e
  have OD:SAt h1 a es ep t:=d7 sat (k1 a);have z1:h1.objs.size=s.heap.objs.size+1:=by rw [<-hh1,Heap.size_push]
  refine Vw (wpAny_setEpoch_of (s:={ s with heap:=h1,drawn:=d }) (k1 a o ho) hd hf ?_);refine Vw (wpAny_newObj_type ?_ (by size_fits));have hoI:(h1.push (lc (.ref s.heap.objs.size) (0:Nat) a es.size ep)).get? h1.objs.size=some (lc (.ref s.heap.objs.size) (0:Nat) a es.size ep):=Heap.get?_push_size _ rfl;have k2:∀ b o,h1.get? b=some o->(h1.push (lc (.ref s.heap.objs.size) (0:Nat) a es.size ep)).get? b=some o:=λb o e=>Vu _ e;obtain ⟨v1,v2⟩:=vals _ (zY hps);have hvl:(ps.map λk=>(es.getD k (0,Value.none)).2).length=es.size:=by rw [PQ,hps.length_eq,QQ]
  have W:=AY (P:=P) (w:=w) (A:=A) (it:=h1.objs.size) (a:=a) (T:=s.heap.objs.size) (ep:=ep) (tb:=t) hh (Qj (by rw [z1];exact R4 hla)) (Qj (by rw [z1];exact Rp _)) hps (oT:={ cls:=.type "tuple",data:=.seq (ps.map λ(i:Nat)=>rawInt i).toArray }) rfl;rw [<-hvl] at W;refine Vv ⟨_,rfl,"set_iterator",_,⟨_,hoI,rfl⟩,SF.slot_next.lookup,?_⟩;refine h h1.objs.size _ _ d [h1.objs.size,a,s.heap.objs.size] _ (λb o e=>k2 b o (k1 b o e)) (λb hb=>?_) (by rw [z1];exact QO _) v1 v2 W ⟨?_,d7 OD (k2 a),k2 _ _ hoT⟩
  ·simp only [Qi,Ra,or_false] at hb;rcases hb with e | e | e
   ·exact .inr (by rw [e,z1];exact QO _)
   ·exact .inl e
   ·exact .inr (by rw [e];exact PR _)
  ·rw [hvl];exact hoI
 ·rw [if_neg hdr];refine Vw (Vv ?_);refine Vw (wpAny_setEpoch_of ho hd hf ?_);refine Vw (wpAny_newObj_type ?_ (by size_fits));have hoI:(s.heap.push (lc (.int (0:Nat) 0) (0:Nat) a es.size ep)).get? s.heap.objs.size=some (lc (.int (0:Nat) 0) (0:Nat) a es.size ep):=Heap.get?_push_size _ rfl;have k2:∀ b o,s.heap.get? b=some o->(s.heap.push (lc (.int (0:Nat) 0) (0:Nat) a es.size ep)).get? b=some o:=λb o e=>Vu _ e;refine Vv ⟨_,rfl,"set_iterator",_,⟨_,hoI,rfl⟩,SF.slot_next.lookup,?_⟩;have fpx:∀ b∈[s.heap.objs.size,a],b=a\/s.heap.objs.size<=b:=λb hb=>by
   simp only [Qi,Ra,or_false] at hb;rcases hb with e | e
   ·exact .inr (by rw [e];exact PR _)
   ·exact .inl e
  cases hbt:iW w with
  | true=>
   have hpp:(pickOrder (w.params.setOrder a ep) es).toList.Perm es.toList:=by
    have:=mw (w.params.setOrder a ep) es.size 0 es.toList #[] (by simp);unfold pickOrder;simpa using this
   obtain ⟨v1,v2⟩:=vals _ (hpp.map (·.2))
   have hvl:((pickOrder (w.params.setOrder a ep) es).toList.map (·.2)).length=es.size:=by rw [PQ,hpp.length_eq,Qd]
   have W:=CB (P:=P) (w:=w) (A:=A) (it:=s.heap.objs.size) (a:=a) (ep:=ep) (es:=es) (tb:=t) hh (Qj hla) hbt;rw [<-hvl] at W;refine h s.heap.objs.size _ _ s.drawn [s.heap.objs.size,a] _ k2 fpx (PR _) v1 v2 W ⟨?_,d7 sat (k2 a)⟩;rw [hvl];exact hoI
  | false=>
   have h1:es.size<=1:=by
    rcases Qz 1 es.size with z | z
    ·have hne:us≠[]:=λe=>by rw [e] at hn;rw [hn] at z;exact absurd z (by decide)
     rw [hbt,hp hne] at hdr;simp at hdr;lia
    ·exact z
   obtain ⟨v1,v2⟩:=vals _ (List.Perm.refl _);have hvl:(es.toList.map (·.2)).length=es.size:=by rw [PQ,Qd]
   have W:=FR (P:=P) (w:=w) (A:=A) (it:=s.heap.objs.size) (a:=a) (ep:=ep) (es:=es) (tb:=t) hh (Qj hla) hbt (by rw [hl,hbt];rfl) h1 hf;rw [<-hvl] at W;refine h s.heap.objs.size _ _ s.drawn [s.heap.objs.size,a] _ k2 fpx (PR _) v1 v2 W ⟨?_,d7 sat (k2 a)⟩;rw [hvl];exact hoI
theorem Ex {r:Addr}{Q:Bool->Vx->Prop} (hT:s.TypeIs (.ref r) "set") (h:Q false s):wpAny (model P w) A (Builtin.List.listLengthHint (.ref r)) Q E s:=by
 unfold Builtin.List.listLengthHint;refine Vw (wpAny_specialOf hT PySem.F.slot_set_len.lookup ?_);generalize hid:("set.__len__" : String)=id0
 wp_delta
 have sp:splitId id0=some ("set","__len__"):=by subst hid;decide +kernel
 rw [sp];subst hid;refine Vw (wpAny_isInstance (T:= "set") (b:=true) hT (by rw [isSubtype_type];kernel_rfl) ?_);refine wpAny_ite_split (λz=>absurd z (by decide)) λ_=>?_;refine wpAny_ite_split (λ_=>?_) λz=>absurd (by decide +kernel) z;exact Vw (wpAny_typeOf hT (Vv h))
theorem yp {a:Addr}{us:List Str}{R:List Vy->Vx->Prop} (hh:A.handled=none) (hS:kg P w (iW w) s.heap a us) (hn:us.length<=sizeLine)
  (h:∀ (h':Heap) (tk:Nat) (d:Drawn) (vs:List Vy) (us':List Str),(∀ b o,s.heap.get? b=some o->h'.get? b=some o)->us'.Perm us->aS (us'.map V.str) vs->R vs { s with heap:=h',toks:=tk,drawn:=d }) :
  wpAny (model P w) A (collect (.ref a)) R E s:=by
 obtain ⟨o,_,_,_,ho,hex,_⟩:=id hS;have hla:a<s.heap.objs.size:=Heap.lt_size ho;unfold collect;refine Vw (wpAny_runValue (codeAny_builtin entry_proto_collect' ?_));rw [Around.under_plainId PySem.F.plain_proto_collect _];refine Vw (m:=newList []) (wpAny_newList ?_ (Qb _));have oS:(s.heap.push (seqObj "list" #[] 0)).get? s.heap.objs.size=some (seqObj "list" #[] 0):=Heap.get?_push_size _ rfl;have k1:∀ b o,s.heap.get? b=some o->(s.heap.push (seqObj "list" #[] 0)).get? b=some o:=λb o e=>Vu _ e;have z1:(s.heap.push (seqObj "list" #[] 0)).objs.size=s.heap.objs.size+1:=Heap.size_push _ _;refine Vv ⟨plainId_quiet PySem.F.plain_list_iadd _,codeAny_builtin entry_list_iadd' ?_⟩;rw [Around.under_plainId PySem.F.plain_list_iadd _];show wpAny _ _ (Builtin.List.listExtendWith (.ref s.heap.objs.size) (.ref a) (.ref s.heap.objs.size)) _ _ { s with heap:=s.heap.push (seqObj "list" #[] 0) };generalize s.heap.push (seqObj "list" #[] 0)=h1 at oS k1 z1 ⊢;have hS1:kg P w (iW w) h1 a us:=hS.keep (k1 a);have hT1:Shared.TypeIs { s with heap:=h1 } (.ref a) "set" :=⟨o,k1 a o ho,hex.1⟩;generalize hd1:s.heap.objs.size=S at oS z1 hla ⊢;have hSa:S≠a:=RQ hla;unfold Builtin.List.listExtendWith;refine Vw (wpAny_typeOf hT1 ?_);have e1:Builtin.List.listSameRef (.ref S) (.ref a)=false:=by simp [Builtin.List.listSameRef,hSa]
 have e2:(Value.type "set" == Value.type "list")=false:=by decide
 have e3:(Value.type "set" == Value.type "tuple")=false:=by decide
 simp only [e1,e2,e3,Bool.or_false,Qu,if_false];refine Vw (EB (s:={ s with heap:=h1 }) (show A.in1.handled=none from hh) hS1 λI vs h2 d fp St k2 hfp hI hvl hvs W st=>?_);obtain ⟨us',hp',hv'⟩:=hvs;have hSI:S<I:=by rw [z1] at hI;exact hI
 have hSf:S∉fp:=λz=>(hfp S z).elim hSa λz=>absurd z (by rw [z1];exact Nat.not_succ_le_self _);have oS2:=k2 S _ oS;have key:∀ (h3:Heap) (c tk:Nat),St 0 h3->(∀ b o,b≠S->h2.get? b=some o->h3.get? b=some o)->h3.get? S=some (seqObj "list" #[] c) ->
   codeAny (model P w) A (.builtin "list.extend.loop" ⟨[.ref S,.ref I,.ref S],[]⟩) (λq s'=>∃ (h':Heap) (tk:Nat) (acc:Array Vy) (c':Nat),q = .ok (.ret (.ref S))/\s' = { s with heap:=h',toks:=tk,drawn:=d }/\(∀ b o,s.heap.get? b=some o->h'.get? b=some o)/\h'.get? S=some (seqObj "list" acc c')/\acc.toList=vs) { s with heap:=h3,toks:=tk,drawn:=d }:=λh3 c tk st3 k3 o3=>by
  refine codeAny_extend_loopS W.toS (by rw [hvl];exact hn) S hSf (.ref S) vs.length 0 _ #[] c rfl (Qb _) st3 o3 (ItemsOf.nil _) λs' acc c' hm oS' d9=>?_;rw [Moved.eq_with hm];refine ⟨s'.heap,s'.toks,acc,c',rfl,rfl,λb o e=>?_,oS',?_⟩
  ·have hbl:b<S:=by rw [<-hd1];exact Heap.lt_size e
   refine hm.heap b o (λz=>?_) (k3 b o (Qj hbl) (k2 b o (k1 b o e)));rcases Qi.mp z with z | z
   ·exact absurd z (Qj hbl)
   ·exact absurd (PZ.mp z) (Qj (Ro hbl hSI))
  ·apply R6;intro i;rw [Qy];cases q:acc[i]? with
   | none=>
    have:=Array.getElem?_eq_none_iff.mp q;rw [d9.1] at this;exact (Qx this).symm
   | some v=>exact (d9.2 i v q).symm
 refine Vw (Vs (Ex ⟨o,k2 a o (k1 a o ho),hex.1⟩ ?_));rw [if_pos (by decide)];refine Vw (wpAny_rule ?_);have u1:=get?_update_seq oS2 λ(xs:Array Vy)=>xs.push Value.none;have u2:=get?_update_seq u1 λ(xs:Array Vy)=>xs.pop;refine Vw (m:=Builtin.List.listTouch _) ?_;unfold Builtin.List.listTouch;refine Vw (listUpdate_at oS2 rfl ?_ (Qb _) (by show 1<=_;rw [sizeLine_eq];lia));refine listUpdate_at u1 rfl ?_ (by show 1<=_;rw [sizeLine_eq];lia) (Qb _);have k3:∀ b o,b≠S->h2.get? b=some o->((h2.update S (Obj.mapSeq λxs=>xs.push Value.none)).update S (Obj.mapSeq λxs=>xs.pop)).get? b=some o:=λb o hb e=>(Heap.get?_update_other _ _ (Ne.symm hb)).trans ((Heap.get?_update_other _ _ (Ne.symm hb)).trans e);refine Vv ⟨plainId_quiet PySem.F.plain_extend_loop _,codeAny_mono (key _ _ s.toks (W.frame 0 _ _ st λb hb o e=>k3 b o (λz=>hSf (z ▸ hb)) e) k3 u2) λq s' hq=>?_⟩;obtain ⟨h',tk,acc,c',rfl,rfl,hk,hoS,hv⟩:=hq;refine Vw (wpAny_load hoS (Vv ?_));subst hv;exact h h' tk d acc.toList us' hk hp' hv'
end
def UpS (ms:List Str):Prop:=ms.Pairwise λx y=>ltv (.str y) (.str x)=false
def FE (X:Cx) (f:Vy) (r:List Str->Hp->VK->Prop):Prop:=
 ∀ (pins:List (Addr×Obj)) (s:Vx) (σ:St) (H:Hp) (D:Addr) (us:List Str) (Q:VK),Inv X pins σ H s->kg X.prog X.w (iW X.w) s.heap D us->r us H Q->wpAny (model X.prog X.w) X.A (call f [.ref D]) (EP X pins σ Q) X.xe s
def tFS (r:List Str->Hp->VK->Prop) (t:TA):TE:=λσ H Q=>t σ H λvs H1=>∃ a zs,vs=[.ref a]/\Rd H1 a (.lst (zs.map V.str))/\zs.length<4000/\r (jZ [] zs) H1 Q
section
variable {X:Cx}{x y:Str}{p q pos FD:Pos}{e:Expr}{t:TA}{id:String}{r:List Str->Hp->VK->Prop}
theorem Inv.KI {pins:List (Addr×Obj)}{σ:St}{H:Hp}{s:Vx}{h':Heap}{tk:Nat}{d:Drawn} (I:Inv X pins σ H s) (k:∀ b o,s.heap.get? b=some o->h'.get? b=some o):Inv X pins σ H { s with heap:=h',toks:=tk,drawn:=d }:=by
 have J:=I.kept (t':=tk) k;exact ⟨J.ok,J.os,J.bare,J.base,J.loc,J.cell,J.free,J.j9,J.pin,J.hok,J.len⟩
theorem wU (hc:FE X (.builtin id) r) (hh:X.calm=true) (hg:Gl X x) (hm:X.mg x=none) (hv:bootBuiltins x=some (.builtin id)) (hg2:Gl X y) (hm2:X.mg y=none) (hv2:bootBuiltins y=some (.type "set")) (ha:PA X [e] t)
  (hn:x ≠ "__name__" :=by decide) (hdb:(x == ("__debug__" : Str))=false:=by decide) (hn2:y ≠ "__name__" :=by decide) (Ng:(y == ("__debug__" : Str))=false:=by decide)
  (he:starEach [Expr.Call (.Name y q) [e] [] FD] X.env=(false,eval (Expr.Call (.Name y q) [e] [] FD) X.env)::starEach [] X.env:=by rfl) (he2:starEach [e] X.env=(false,eval e X.env)::starEach [] X.env:=by rfl) :
  PE X (.Call (.Name x p) [.Call (.Name y q) [e] [] FD] [] pos) (tFS r t):=by
 intro pins s σ H Q I h;refine wpAny_Call_Name_kw (gM I hg hm hv ?_ hn hdb);refine PyProof.Rows.callWith_builtin1 ?_ he rfl;rw [he];refine Calls.spliced_cons (thn (Q:=λv s'=>∃ D us H1,v = .ref D/\Inv X pins σ H1 s'/\kg X.prog X.w (iW X.w) s'.heap D us/\r us H1 Q) ?_ λv s' ⟨D,us,H1,ev,I1,hS,q1⟩=>?_)
 ·refine wpAny_Call_Name_kw (gM I hg2 hm2 hv2 ?_ hn2 Ng);refine PyProof.Rows.callWith_type1 (thn (ha FD pins s σ H _ I h) λus s1 ⟨vs,H1,I1,r1,q1⟩=>?_) he2 rfl;obtain ⟨a,zs,rfl,hr,hl,q1⟩:=q1;obtain ⟨u,rfl,ru⟩:=r1.one;cases ru;obtain ⟨_,its,n,vv,ho⟩:=hr.ok I1.hok;have vl:=vv.length;rw [PQ] at vl;refine uG (I1.ok.hd hh) ⟨_,ho,rfl,n,rfl⟩ vv (by rw [P1];unfold scanBound;lia) λh' tk hS k=>?_;exact ⟨_,_,H1,rfl,I1.KI k,hS,q1⟩
 ·subst ev;exact Calls.spliced_nil (hc pins s' σ H1 D us Q I1 hS q1)
end
theorem tT:∀ {ns:List Str}{us:List Vy},aS (ns.map V.str) us->∀ v∈us,∃ i t,v=Value.str i t
 | [],_,r,v,hv=>by rw [Rr] at r;cases r;cases hv
 | n::ns,_,r,v,hv=>by
  rw [Ql] at r;cases r with
  | cons h t=>
   obtain ⟨tk,rfl⟩:=h;rcases Qi.mp hv with e | e
   ·exact ⟨n,tk,e⟩
   ·exact tT t v e
theorem zU {P:Program}{w:World}{A:Around}{ns:List Str}{us:List Vy} (hv:aS (ns.map V.str) us) (s':Vx) (G:Array Nat->Vx->Prop) (h2:2<=us.length)
  (h:∀ p:Array Nat,p.toList.Perm (List.range us.length)->(∀ i j,i<=j->j<us.length->ltv ((ns.map PyData.str).getD (p.getD j 0) .none) ((ns.map PyData.str).getD (p.getD i 0) .none)=false)->G p s') :
  wpAny (model P w) A (keyKind' us.toArray) (λκ s''=>(kas_sort us.length).kasWp (kas_ask P w A κ us) G s'') (λ_ _=>False) s':=by
 refine kas_kind (T:=.type "str") h2 (λv hm=>?_) (by decide) (by decide) ?_
 ·obtain ⟨i,t,rfl⟩:=tT hv v hm;exact .of_pure rfl
 have l1:us.length=ns.length:=by rw [<-hv.length,PQ]
 have o:=Sh.ok .str;have nJ:∀ i,i<us.length->(ns.map PyData.str).getD i .none = .str (ns.getD i Str.empty):=λi hi=>by
  have hi':i<ns.length:=by lia
  simp [Qf,hi']
 have hgs:∀ i,i<us.length->Sh.str.has ((ns.map PyData.str).getD i .none):=λi hi=>⟨_,nJ i hi⟩;refine BR (n:=us.length) (lt:=λi j=>ltv ((ns.map PyData.str).getD i .none) ((ns.map PyData.str).getD j .none)) (P:=λs''=>s'' = s') ⟨λi hi=>o.irr _ (hgs i hi),λi j k hi hj hk q=>o.neg (hgs i hi) (hgs j hj) (hgs k hk) q,λi j hi hj q=>o.asymm (hgs i hi) (hgs j hj) q⟩
  (λi j C s'' hi hj e q=>?_) (by lia) rfl λp s'' e hp up=>by subst e;exact h p hp up
 subst e;show wpAny (model P w) A (keyLt' oneType' (us.getD i .none) (us.getD j .none)) C (λ_ _=>False) s'';have ri:=jn hv i;have rj:=jn hv j;have qq:=q s'' rfl;rw [nJ i hi,nJ j hj] at qq;have gi:∀ i,i<us.length->(ns.map V.str).getD i .non = .str (ns.getD i Str.empty):=λi hi=>by
  have hi':i<ns.length:=by lia
  simp [Qf,hi']
 rw [gi i hi] at ri;rw [gi j hj] at rj;obtain ⟨ti,ei⟩:=ri;obtain ⟨tj,ej⟩:=rj;rw [ei,ej,keyLt'_oneType];exact oneLt_str qq
theorem EG {ns:List Str}{p:List Nat} (h:p.Perm (List.range ns.length)):(p.map λi=>ns.getD i Str.empty).Perm ns:=by
 have e:=gr ns Str.empty;exact (h.map λi=>ns.getD i Str.empty).trans (by rw [e])
def MF:List Str->Hp->VK->Prop:=λus H Q=>us.length<64/\∀ (D:Addr) (ms:List Str),H D=none->ms.Perm us->UpS ms->Q (.ref D) (upd H D (.lst (ms.map V.str)))
section
variable {X:Cx}
theorem o8 {k:Nat} (hc:X.calm=true) (hr:bX k X.A):FE X (.builtin "sorted") MF:=by
 intro pins s σ H S us Q I hS h;obtain ⟨h64,q⟩:=h
 (refine Calls.call_function_entry kind_sorted plain_sorted entry_sorted (args_sorted1 _) ?_)
 unfold Builtin.«sorted»
 (refine Vw (m:=checkCount "sorted" 1 1 _) (Vv ?_))
 refine Vw (yp (A:=X.A.in1) (show X.A.in1.handled=none from I.ok.hd hc) hS (by rw [sizeLine_eq];lia) λh1 tk d acc us' hk hp hv=>?_);have hul:us'.length=us.length:=hp.length_eq;have hal:acc.length=us'.length:=by rw [<-hv.length,PQ]
 (refine Vw (wpAny_newList ?_ (by rw [hal,hul,sizeLine_eq];lia)))
 have I1:Inv X pins σ H { s with heap:=h1,toks:=tk,drawn:=d }:=I.KI hk;have hoL:(h1.push (seqObj "list" acc.toArray 0)).get? h1.objs.size=some (seqObj "list" acc.toArray 0):=Heap.get?_push_size _ rfl;have keep:∀ b o,s.heap.get? b=some o->(h1.push (seqObj "list" acc.toArray 0)).get? b=some o:=λb o e=>Vu _ (hk b o e);show wpAny _ _ (_ >>= λ_=>_) _ _ { s with heap:=h1.push (seqObj "list" acc.toArray 0),toks:=tk,drawn:=d };generalize h1.push (seqObj "list" acc.toArray 0)=h2 at hoL keep ⊢;have I2:Inv X pins σ H { s with heap:=h2,toks:=tk,drawn:=d }:=I.KI keep;have hDn:H h1.objs.size=none:=I1.hok.fresh (PR _);have fD:cE X pins H h1.objs.size:=I1.xi (PR _) hDn;generalize h1.objs.size=D at hoL hDn fD ⊢
 (refine Vw (Vs (wpAny_call_entry slot_list_sort ⟨_,hoL,rfl⟩ entry_list_sort ?body (args_list_sort _))))
 case body=>
  refine F4 (s:={ s with heap:=h2,toks:=tk,drawn:=d }) (ds:=us'.map PyData.str) I2 hoL fD hv (λs' G _ h2 hG=>zU hv s' G h2 hG) (by lia) λp h' hp2 kC I'=>?_;refine ⟨_,rfl,Vv ⟨_,rfl,?_⟩⟩;rw [PQ] at hp2;have hlt:∀ i∈p,i<us'.length:=λi hi=>by have:=hp2.mem_iff.mp hi;simpa using this
  have e1:picked (us'.map V.str) p=(p.map λi=>us'.getD i Str.empty).map V.str:=by
   unfold picked;rw [Q5];refine QI λi hi=>?_;simp [Qf,hlt i hi]
  have e2:(p.map λi=>(us'.map PyData.str).getD i .none)=(p.map λi=>us'.getD i Str.empty).map PyData.str:=by
   rw [Q5];refine QI λi hi=>?_;simp [Qf,hlt i hi]
  have so:UpS (p.map λi=>us'.getD i Str.empty):=by
   unfold gc at kC;rw [e2,Q1] at kC;exact kC
  rw [e1] at I';exact ⟨.ref _,_,I',rfl,q _ _ hDn ((EG hp2).trans hp) so⟩
def K6:List Str->Hp->VK->Prop:=λus H Q=>Q (.int us.length) H
theorem Du:FE X (.builtin "len") K6:=by
 intro pins s σ H S us Q I hS h;obtain ⟨o,es,ep,t,ho,hex,hd,_,hb,hf,_,_,_,hm⟩:=id hS;have e:=hm.length_eq;rw [PQ,Qd] at e;exact call_len_set ho hex hd hf (by unfold scanBound at hb;lia) ⟨.int us.length,H,I.tok _,⟨_,by rw [e]⟩,h⟩
end
end L2
namespace L2
open PySem PySem.Spec PyProof.Rows
section
variable {P:Program}{w:World}{A:Around}{E:Vy->Vx->Prop}{s:Vx}{kf:Addr->Int×Str}
end
end L2
namespace L2
open PySem PySem.Spec PyProof.Rows PySem.W
section
variable {P:Program}{w:World}{A:Around}{E:Vy->Vx->Prop}{s:Vx}
end
end L2
namespace L2
open PySem PySem.Spec PyProof.Rows
section
variable {X:Cx}{x y:Str}{p q pos FD:Pos}{e:Expr}{t:TA}
end
end L2
namespace LG
open PySem L2 PySem.Builtin PySem.Builtin.Str
structure Mx (P N:List (List Pt)):Prop where
 nd:N.Nodup
 ko:mD N
 mem:∀ p,p∈N↔p∈P/\∀ q∈P,vM p q=true->q=p
def ID (pss:List (List Pt)):PyData:=.list (pss.map bj)
def kyD (n:Nat) (one other:List (List Pt)):PyData:=.list [.int n,ID one,ID other]
structure O4 (P Q:List (List Pt)) (l:List Str):Prop where
 wd:∀ x∈l,cS x=true/\Bd x
 up:l.Pairwise λa b=>wlt b a=false
 all:∀ y,cS y=true->∃ x∈l,wlt y x=false/\md P x=md P y/\md Q x=md Q y
def dr (n:Nat) (P:List (List Pt)):List (List Pt):=P.map (List.drop n)
def at_ (n:Nat) (w:Str) (P:List (List Pt)):List (List Pt):=P.filter λps=>(ps.getD n (.hole 2)).takes w
def ng (c:Nat):Str:=⟨#[45,c]⟩
def ky (n:Nat) (P Q:List (List Pt)):Key:=.inr (Od (kyD n P Q))
structure Base (m:Nat) (P0 Q0:List (List Pt)):Prop where
 m12:m<=12
 p:∀ ps∈P0,PW ps/\ps.length=m
 q:∀ ps∈Q0,PW ps/\ps.length=m
 lp:P0.length<=7
 lq:Q0.length<=8
structure KnK (P0 Q0:List (List Pt)) (kvs:List (Key×V)):Prop where
 nd:(kvs.map (·.1)).Nodup
 of:∀ k∈kvs.map (·.1),∃ n P Q,n<13/\P.Sublist P0/\Q.Sublist Q0/\k=ky n P Q
end LG
namespace LG
open PySem L2
section
variable {K:Vz}
def ptV:Pt->List V
 | .word w=>[.str "word",.str w]
 | .hole k=>[.str "hole",.str (cB k)]
def Kg (H:Hp) (v:V) (p:Pt):Prop:=∃ t,v = .ref t/\H t=some (.tup (ptV p))
def NL (o:HO):Prop:=∀ xs,o ≠ .lst xs
def tO (H:Hp):Hp:=λa=>match H a with
 | some (.lst _)=>none
 | o=>o
theorem Bs {H:Hp}{a:Addr}{o:HO} (h:tO H a=some o):NL o/\H a=some o:=by
 unfold tO at h
 split at h
 ·cases h
 ·rename_i n;exact ⟨λxs e=>n xs (by rw [h,e]),h⟩
theorem Gq {H:Hp}{a:Addr}{o:HO} (h:H a=some o) (n:NL o):tO H a=some o:=by
 unfold tO
 split
 ·rename_i xs e;rw [h] at e;cases e;exact (n xs rfl).elim
 ·exact h
theorem BW {H H':Hp} (k:∀ a o,NL o->H a=some o->H' a=some o):af (tO H) (tO H'):=λa o h=>by
 obtain ⟨n,e⟩:=Bs h;exact Gq (k a o n e) n
theorem DR {xs:List V}:NL (.tup xs):=λys e=>by cases e
inductive PL (K:Vz) (H:Hp):List Addr->List (List Pt)->Prop
 | nil:PL K H [] []
 | cons {a:Addr}{ys:List V}{as:List Addr}{ps:List Pt}{pss:List (List Pt)} (h1:H a=some (.lst ys)) (h2:aA K (tO H) ys (ps.map Pt.dat)) (h3:a∉as) (t:PL K H as pss):PL K H (a::as) (ps::pss)
theorem Kg.den {H:Hp}{v:V}{p:Pt} (h:Kg H v p) (ok:PtW p):Den K (tO H) v p.dat:=by
 obtain ⟨t,rfl,h⟩:=h;cases p with
 | word w=>exact .tup (.of (Gq h DR)) (.cons (.str (by decide +kernel)) (.cons (.str ok.2.2) .nil))
 | hole k=>exact .tup (.of (Gq h DR)) (.cons (.str (by decide +kernel)) (.cons (.str sR) .nil))
theorem Ln {H H':Hp} (s:af H H'):af (tO H) (tO H'):=BW λa o _ h=>s a _ h
theorem JZ {H:Hp}{a:Addr}{xs ys:List V} (h:H a=some (.lst xs)):af (tO H) (tO (upd H a (.lst ys))):=BW λc o n hc=>by
 have:c≠a:=λz=>by rw [z,h] at hc;cases hc;exact n _ rfl
 rw [au this];exact hc
theorem Eo {ws:List Str}{ps:List Pt} (hw:∀ w∈ws,WOk w) (h:ya ws ps):PW ps:=λp hp=>by
 obtain ⟨i,hi⟩:=RJ hp;have hl:=aW hi;obtain ⟨w,e⟩:=at_of (l:=ws) (i:=i) (by rw [<-h.1];exact hl);have hwo:=hw w (PU e);rcases h.2 i w p e hi with rfl | ⟨rfl,hk⟩ | rfl
 ·exact ⟨hwo.word,P2 hwo.len (by decide),hwo.ok⟩
 ·show d6 w.cps.toList<3;lia
 ·exact (by decide:2<3)
end
end LG
namespace L2
open PySem PySem.Spec PyProof.Rows PySem.W
abbrev Jm (X:Cx) (qual:Str) (scope:Scope) (q:Addr) (cd:Vy) (L:Addr):Env:=envX qual scope L q cd (fQ X.env.cells scope.names [])
def BQ (X:Cx) (N':List Str) (qual:Str) (scope:Scope) (q:Addr) (cd:Vy) (s:Vx) (H:Hp):Cx where
 prog:=X.prog
 w:=X.w
 K:=X.K
 mg:=X.mg
 base:=X.base
 A:=X.A.in1.deeper (Jm X qual scope q cd s.heap.objs.size)
 N:=N'
 s₀:=s
 H₀:=H
 env:=Jm X qual scope q cd s.heap.objs.size
 outer:=X.stack
 stack:=Jm X qual scope q cd s.heap.objs.size::X.stack
 ex:=[]
 calm:=true
 fn:=λ_=>false
 pn:=[]
 xe:=λ_ _=>False
structure xA (X:Cx) (scope:Scope) (N':List Str) (y:Str) (fi:List Nat):Prop where
 kind:scope.kind = .function
 co:scope.isCoroutine=false
 gen:scope.isGenerator=false
 FT:∀ x∈scope.names,x.2 ≠ .cell
 par:scope.names.lookup y=some .local
 free:∀ z∈scope.names,z.2 = .free->X.env.kindOf z.1=some .cell\/X.env.kindOf z.1=some .free
 hd:N'[0]? = some y
 len:N'.length=fi.length+1
 at':∀ (j:Nat) (k:Nat),fi[j]? = some k->∃ x,N'[j+1]? = some x/\X.N[k]? = some x/\scope.names.lookup x=some .free
def GH (v:V) (fi:List Nat) (σ:St):St:=some v::fi.map λk=>(σ[k]?).join
theorem lL {x:Str}:∀ {l:List (Str×NameKind)},l.lookup x=some .free->(x,NameKind.free)∈l
 | [],e=>by cases e
 | (n',q)::r,e=>by
  rw [QG] at e;cases hb:x == n' with
  | true=>rw [hb] at e;cases e;rw [beq_iff_eq.mp hb];exact P5
  | false=>rw [hb] at e;exact PY _ (lL e)
section
variable {X:Cx}{pins:List (Addr×Obj)}{σ:St}{H:Hp}{s:Vx}{scope:Scope}{N':List Str}{y:Str}{fi:List Nat}{h':Heap}{qual:Str}{q:Addr}{cd:Vy}{v:V}{u:Vy}{tk:Tok}
theorem Hr (I:Inv X pins σ H s) (hc:X.calm=true) (S:xA X scope N' y fi) (rv:RelV v u) (hns:h'.Ns s.heap.objs.size (λx=>[(y,u)].reverse.lookup x)) (hk:∀ b o,s.heap.get? b=some o->h'.get? b=some o) :
  Inv (BQ X N' qual scope q cd s H) [] (GH v fi σ) H { s with heap:=h',toks:=tk }:=by
 have e0:=I.xF.in1;have sub:∀ {x:Str}{c:Addr},(fQ X.env.cells scope.names []).lookup x=some c->X.env.cells.lookup x=some c:=λ{x c} h=>nS _ _ (λ_ _ z=>by cases z) h;have has:∀ {x:Str},(x,NameKind.free)∈scope.names->∃ d,(fQ X.env.cells scope.names []).lookup x=some d:=λ{x} hm=>oY _ _ (.inr ⟨hm,I.ok.has _ (S.free _ hm rfl)⟩);have noA:∀ b:Addr,b∉(BQ X N' qual scope q cd s H).ex:=λb z=>absurd (show b∈([]:List Addr) from z) (by simp);refine ⟨⟨e0.mod,S.kind,rfl,rfl,PR _,λx z c h1 h2=>?_,λx hx=>?_,λx c hx _=>?_,λ_=>I.ok.hd hc,Around.frames_deeper e0.frames,.inr ⟨rfl,rfl⟩,λb z=>absurd z (noA b),e0.bs,e0.bsz,λb _ _=>noA b,λb z=>absurd z (noA b),e0.nU,e0.frf⟩,
  rfl,e0.bare,Un.kept hk,⟨_,hns,λi x w h1 h2 h3=>?_⟩,λx c h=>?_,e0.hok.fresh (PR _),λx c h=>?_,λp hp=>absurd (show p∈([]:List (Addr×Obj)) from hp) (by simp),e0.hok.kept hk,?_⟩
 ·exact I.ok.inj x z c (sub h1) (sub h2)
 ·have hx:scope.names.lookup x=some .cell\/scope.names.lookup x=some .free:=hx;rcases hx with hx | hx
  ·exact absurd rfl (S.FT _ (PySem.mem_of_lookup hx))
  ·exact has (lL hx)
 ·have hx:false=true:=hx;cases hx
 ·cases i with
  | zero=>
   have h1':N'[0]? = some x:=h1;rw [S.hd] at h1';cases h1';have h2':some (some v)=some (some w):=h2;cases h2';exact ⟨u,rv,.inl ⟨S.par,by simp⟩⟩
  | succ j=>
   have h2':(fi.map λk=>(σ[k]?).join)[j]? = some (some w):=h2;rw [P7] at h2';cases ek:fi[j]? with
   | none=>rw [ek] at h2';cases h2'
   | some k=>
    rw [ek] at h2';have wF:(σ[k]?).join=some w:=Option.some.inj h2';have hσ:σ[k]? = some (some w):=by
     cases z:σ[k]? with
     | none=>rw [z] at wF;cases wF
     | some w'=>rw [z] at wF;exact congrArg some wF
    obtain ⟨x',e1,e2,e3⟩:=S.at' j k ek;have h1':N'[j+1]? = some x:=h1;rw [e1] at h1';cases h1';have hm:=lL e3;have kx:=S.free _ hm rfl;have vis:Vis X.env.scope x:=kx.elim (λz=>.inr (.inl z)) λz=>.inr (.inr z);obtain ⟨m0,hn0,hl0⟩:=I.loc;obtain ⟨u',ru,lk⟩:=hl0 k x w e2 hσ vis;refine ⟨u',ru,.inr ⟨.inr e3,?_⟩⟩;rcases lk with ⟨kl,_⟩ | ⟨_,c,ec,va⟩
    ·rcases kx with z | z <;> (rw [show X.env.kindOf x=_ from kl] at z;cases z)
    ·obtain ⟨d,hd⟩:=has hm;have:=sub hd;rw [ec] at this;cases this;exact ⟨c,hd,va.keeps hk⟩
 ·obtain ⟨z,hz⟩:=I.cell x c (sub h);exact ⟨z,hz.keeps hk⟩
 ·exact I.j9 x c (sub h)
 ·show (GH v fi σ).length=N'.length;rw [S.len];simp [GH]
def qJ (c:Addr) (qual:Str):HO:=.ext λh=>h.CodeRec (.ref c) qual
def FX (te:TE) (fi:List Nat) (σ:St) (c:Addr) (qual:Str):Sp:=λvs H Q _=>∃ v,vs=[v]/\H c=some (qJ c qual)/\te (GH v fi σ) H Q
theorem Cm {k:Nat}{name:Str}{params:Arguments}{body:Expr}{pm ctv:Vy}{c':Addr}{te:TE} (hc:X.calm=true) (hr:bX (k+1) X.A) (S:xA X scope N' y fi)
  (hq:(q,kla_obj name qual params body scope (fQ X.env.cells scope.names []) pm c' ctv)∈pins)
  (hb:∀ w,bindArgs (kla_fn name qual params body scope (fQ X.env.cells scope.names []) pm (.ref c') ctv) ⟨[w],[]⟩=pure [(y,w)])
  (jd:∀ s H,PE (BQ X N' qual scope q (.ref c') s H) body te):uQ X pins σ q (FX te fi σ c' qual):=by
 intro more H s x u Q I rx h;obtain ⟨v,e,hcx,h⟩:=h;cases e;have pin:=λp hp=>(I.pin p (Qo _ (Rn _ hp))).1;refine kla_callFunE hr.in1.depth (pin _ hq) rfl S.co S.gen rfl (I.hok _ _ hcx).1 ?_;show wpAny _ _ (bindArgs (kla_fn name qual params body scope (fQ X.env.cells scope.names []) pm (.ref c') ctv) ⟨[u],[]⟩) _ _ _;rw [hb];refine Vv (wpAny_newFunctionEnv S.FT (λz hz=>by rw [PZ.mp hz];exact S.par) (λh₁ hns hsb=>?_) S.kind);have hk₁:∀ b o,s.heap.get? b=some o->h₁.get? b=some o:=λb o e=>hsb.extBut b o (Qj (Heap.lt_size e)) (Vu _ e);refine ⟨I.nolimit.keeps hk₁,?_⟩;refine kla_codeExpr (Vt (jd s H [] _ _ H Q (Hr (pins:=pins++more) (σ:=σ) I hc S rx hns hk₁) h) (λv' s' z=>?_) λ_ _ z=>z.elim);obtain ⟨w,H',J,rw',qw⟩:=z;exact ⟨w,H',J.os,J.bare,J.base,J.hok,rw',qw⟩
theorem FI {P:Program}{w:World}{H:Hp}{h:Heap}{c:Addr} (x:h.CodeRec (.ref c) qual):bU P w H h c (qJ c qual):=by
 refine ⟨x,?_,λh1 h2 a k=>?_⟩
 ·obtain ⟨c0,o,vs,t,e,g,r⟩:=x;cases e;exact ⟨o,g⟩
 ·obtain ⟨c0,o,vs,t,e,g,r⟩:=a;cases e;exact ⟨c,o,vs,t,rfl,k _ g,r⟩
theorem Inv.grown {P c':Addr}{ps more:Array Vy}{t':Tok} (I:Inv X pins σ H s) (hP:H P=some (.tbl ps)) (hk:Heap.ExtBut P s.heap h') (hc:s.heap.objs.size<=c') (ht:h'.get? P=some (tabObj (ps++more))) (hr:h'.CodeRec (.ref c') qual) :
  Inv X pins σ (upd (upd H P (.tbl (ps++more))) c' (qJ c' qual)) { s with heap:=h',toks:=t' }:=by
 have hn:H c' = none:=I.hok.fresh hc;have hPc:P≠c':=aw hP hn;have hPl:P≠X.env.locals:=aw hP I.free;have at_:∀ b,b≠P->b≠c'->upd (upd H P (.tbl (ps++more))) c' (qJ c' qual) b=H b:=λb h1 h2=>by rw [au h2,au h1]
 have lt:∀ {b:Addr}{o:Obj},s.heap.get? b=some o->b≠c':=λ{b o} e z=>by
  have:=Heap.lt_size e;rw [z] at this;exact absurd (Qm this hc) (QF _)
 have nP:∀ {b:Addr},H b=none->b≠P:=λ{b} e z=>by rw [z,hP] at e;cases e
 refine I.step (g':=s.gens) (d':=s.drawn) (ch:=[]) (λb z=>absurd z (by simp)) (λb o _ _ _ e n=>hk b o (nP n) e) (λb o _ _ _ e n=>⟨o.slots,hk b o (nP n) e⟩) (λb o _ e n=>?_) (λb o _ e=>?_) (λb xs e=>?_) (λb o u e=>?_) (λb qs e=>?_) (λm hm=>?_) ?_ I.bare
 ·rw [at_ b (nP n) (lt e)];exact n
 ·by_cases hb:b=P
  ·exact ⟨_,by rw [hb];exact ht⟩
  ·exact ⟨o,hk b o hb e⟩
 ·have h1:b≠P:=λz=>by rw [z,hP] at e;cases e
  rw [at_ b h1 (aw e hn)];exact e
 ·have h1:b≠P:=λz=>by rw [z,hP] at e;cases e
  rw [at_ b h1 (aw e hn)];exact e
 ·by_cases hb:b=P
  ·subst hb;rw [hP] at e;cases e;exact ⟨more,by rw [au hPc,ab]⟩
  ·exact ⟨#[],by rw [at_ b hb (aw e hn),e];simp⟩
 ·obtain ⟨o,es,ep,e,r⟩:=hm;exact ⟨o,es,ep,hk _ _ (Ne.symm hPl) e,r⟩
 ·intro b u e;by_cases hb:b=c'
  ·subst hb;rw [ab] at e;cases e;exact FI hr
  ·rw [au hb] at e;by_cases hp:b=P
   ·subst hp;rw [ab] at e;cases e;exact ht
   ·rw [au hp] at e;refine (I.hok b u e).xo (λc o hc' q=>hk c o ?_ q) (λc q=>?_) λc xs q=>?_
    ·rintro rfl;rcases hc' with z | z
     ·exact hp z.symm
     ·rw [hP] at z;cases z
    ·have h1:c≠P:=λz=>by rw [z,hP] at q;cases q
     rw [at_ c h1 (aw q hn)];exact q
    ·have h1:c≠P:=λz=>by rw [z,hP] at q;cases q
     rw [at_ c h1 (aw q hn)];exact q
end
def fO (P:Addr) (pos:Pos) (qual:Str) (H:Hp):Prop:=∃ ps,H P=some (.tbl ps)/\TriplesOk ps.toList/\(codeAmong pos ps.toList=none\/∃ c,codeAmong pos ps.toList=some (.ref c)/\H c=some (qJ c qual))
def Lo (K:Vz) (P:Addr) (uF:Pos) (qual:Str) (te:TE) (fi:List Nat) (ta:TA):TE:=λσ H Q=>ta σ H λvs H1=>∃ x,vs=[x]/\fO P uF qual H1 /\
 ∀ c H2,(H2=H1\/∃ ps,H1 P=some (.tbl ps)/\H1 c=none/\H2=upd (upd H1 P (.tbl (ps ++ #[rawInt uF.line,rawInt uF.col,.ref c]))) c (qJ c qual))->fO P uF qual H2->H2 c=some (qJ c qual)->vn K (FX te fi σ c qual) x H2 Q
section
variable {X:Cx}
def M4 (X:Cx):Prop:=∃ bm o,X.mg "__builtins__" = some (.ref bm)/\bm≠builtinsNs/\bm≠mainGlobals/\X.K.lookup bm=some o/\o.cls = .type "module" /\ o.dict=some builtinsNs/\o.data = .plain
theorem o7 {a b:Int}{c:Vy}:∀ {l:List Vy},TriplesOk l->TriplesOk (l++[.int a 0,.int b 0,c])
 | [],_=>trivial
 | .int _ _ :: .int _ _::_::r,h=>o7 (l:=r) h
 | .int _ _ :: .int _ _::[],h=>h.elim
 | .int _ _::[],h=>h.elim
theorem Iz {k:Nat}{c P:Addr}{y:Str}{e:Expr}{ta:TA}{te:TE}{kn:Nat}{p uF pos kp pd kp2:Pos}{params:Arguments}{body:Expr}{scope:Scope}{N':List Str}{fi:List Nat} (hc:X.calm=true) (hr:bX (k+1) X.A) (S:xA X scope N' y fi)
  (Jd:X.env.code = .ref c) (hC:∀ h:Heap,X.K.In h->CodeHd h c P) (hB:M4 X)
  (jd:∀ q c' s H,PE (BQ X N' (X.env.qual ++ "<lambda>") scope q (.ref c') s H) body te)
  (hg:Gl X "min") (hm:X.mg "min" = none) (ha:PA X [e] ta)
  (hb:∀ cl pm c' ctv w,bindArgs (kla_fn "<lambda>" (X.env.qual ++ "<lambda>") params body scope cl pm (.ref c') ctv) ⟨[w],[]⟩=pure [(y,w)]:=by intros;rfl) (NW:defaultsOf params X.env=([],[]):=by rfl)
  (he:backTo pos (starEach [e] X.env)=(false,eval e X.env)::backTo pos (starEach [] X.env):=by rfl) (jy:(backTo pos (starEach [e] X.env)).any (·.1)=false:=by rfl)
  (gW:(backToKw pos (keywordEach [⟨some "key",.Lambda params body scope uF,kp⟩,⟨some "default",.Constant .none kn pd,kp2⟩] X.env)).all (·.1.isSome)=true:=by rfl) (hkw:(backToKw pos (keywordEach [⟨some "key",.Lambda params body scope uF,kp⟩,⟨some "default",.Constant .none kn pd,kp2⟩] X.env)).any (·.1.isNone)=false:=by rfl) :
  PE X (.Call (.Name "min" p) [e] [⟨some "key",.Lambda params body scope uF,kp⟩,⟨some "default",.Constant .none kn pd,kp2⟩] pos) (Lo X.K P uF (X.env.qual ++ "<lambda>") te fi ta):=by
 intro pins s σ H Q I h;refine wpAny_Call_Name_kw (gM I hg hm E1 ?_);refine callWith_kw (thn (ha pos pins s σ H _ I h) λus s1 ⟨vs,H1,I1,r1,q1⟩=>?_) he jy gW hkw;obtain ⟨x,rfl,la,q⟩:=q1;obtain ⟨u,rfl,ru⟩:=r1.one;obtain ⟨ps,hP,ht,hcs⟩:=id la;have hPg:s1.heap.get? P=some (tabObj ps):=I1.hok P _ hP;have hcl:closureFor scope X.env=pure (fQ X.env.cells scope.names []):=tE λz hz hk=>I1.ok.has _ (S.free z hz hk);have hgl:s1.heap.Ns mainGlobals X.mg:=I1.mod.glob.keeps I1.bk;have gN:H1 mainGlobals=none:=by
  obtain ⟨o,es,ep,e',_⟩:=I1.mod.glob;exact (I1.bs _ _ e').2
 have hgP:mainGlobals≠P:=λz=>by rw [z,hP] at gN;cases gN
 have hbu:s1.heap.BuiltinsAt X.mg P:=by
  obtain ⟨bm,o,b1,b2,b3,b4,b5⟩:=hB;have hb4:=I1.mod.kin bm o b4;have:=(I1.bs _ _ hb4).2;exact ⟨bm,o,b1,b2,b3,(λz=>by rw [z,hP] at this;cases this),(I1.bs _ _ hb4).1,b5⟩
 have fin:∀ (c':Addr) (ctv:Vy) (h':Heap) (tk:Tok) (H2:Hp),Inv X pins σ H2 { s1 with heap:=h',toks:=tk }->vn X.K (FX te fi σ c' (X.env.qual ++ "<lambda>")) x H2 Q ->
   wpAny (model X.prog X.w) X.A (evalAll ((backToKw pos (keywordEach [⟨some "default",.Constant .none kn pd,kp2⟩] X.env)).map (·.2))) (λkvs s₂=>wpAny (model X.prog X.w) X.A (call (.builtin "min") [u] (((backToKw pos (keywordEach [⟨some "key",.Lambda params body scope uF,kp⟩,⟨some "default",.Constant .none kn pd,kp2⟩] X.env)).filterMap (·.1)).zip (.ref h'.objs.size::kvs))) (EP X pins σ Q) X.xe s₂) X.xe
    { s1 with heap:=h'.push (kla_obj "<lambda>" (X.env.qual ++ "<lambda>") params body scope (fQ X.env.cells scope.names []) ((X.mg "__name__").getD .none) c' ctv),toks:=tk }:=λc' ctv h' tk H2 I2 q2=>by
  refine kws_cons (Constant_none (kws_nil ?_));have hn:H2 h'.objs.size=none:=I2.hok.fresh (PR _);have I3:Inv X pins σ H2 { s1 with heap:=h'.push (kla_obj "<lambda>" (X.env.qual ++ "<lambda>") params body scope (fQ X.env.cells scope.names []) ((X.mg "__name__").getD .none) c' ctv),toks:=tk }:=I2.kept (s:={ s1 with heap:=h',toks:=tk }) (t':=tk) λb o e=>Vu _ e;have I4:Inv X (pins++[(h'.objs.size,kla_obj "<lambda>" (X.env.qual ++ "<lambda>") params body scope (fQ X.env.cells scope.names []) ((X.mg "__name__").getD .none) c' ctv)]) σ H2 { s1 with heap:=h'.push (kla_obj "<lambda>" (X.env.qual ++ "<lambda>") params body scope (fQ X.env.cells scope.names []) ((X.mg "__name__").getD .none) c' ctv),toks:=tk }:=I3.nN λz hz=>by
   rcases Qc.mp hz with w | w
   ·exact I3.pin z (Qo _ w)
   ·rw [PZ.mp w];exact ⟨Heap.get?_push_size _ rfl,hn,RQ I2.lt,I2.Mo (PR _),λv z=>by cases z⟩
  exact thn (sM (Cm (k:=k) hc hr S (Qo _ (PZ.mpr rfl)) (hb _ _ _ _) (jd _ _)) hr hc I4 ru q2) λv s' ⟨w,H',J,rw',qw⟩=>⟨w,H',J.gO,rw',qw⟩
 refine kws_cons (kla_eval NW ?_);rcases hcs with hnf | ⟨c',hf,hcx⟩
 ·refine kla_makeFunction hcl I1.ok.glob hgl Jd (hC _ I1.kIn) hPg ht hnf hgP hbu λc' ctv h' tk hk h1 h2 h3 h4=>?_;have hn:H1 c' = none:=I1.hok.fresh h1;have hPc:P≠c':=aw hP hn;have I2:=I1.grown (t':=tk) hP hk h1 h4 h3;refine fin c' ctv h' tk _ I2 (q c' _ (.inr ⟨ps,hP,hn,rfl⟩) ⟨_,by rw [au hPc,ab],?_,.inr ⟨c',?_,ab⟩⟩ ab)
  ·rw [Q9];exact o7 ht
  ·rw [Q9];exact codeAmong_snoc _ ht hnf
 ·refine kla_makeFunctionHit hcl I1.ok.glob hgl Jd (hC _ I1.kIn) hPg ht hf hbu λctv h' tk hk h1=>?_;have I2:Inv X pins σ H1 { s1 with heap:=h',toks:=tk }:=I1.kept (t':=tk) hk;exact fin c' ctv h' tk _ I2 (q c' _ (.inl rfl) la hcx)
end
def LD (sc osc:Scope) (N N':List Str) (y:Str) (fi:List Nat):Bool:=
 decide (sc.kind = .function) && decide (sc.isCoroutine=false) && decide (sc.isGenerator=false) && decide (∀ x∈sc.names,x.2 ≠ .cell) && decide (sc.names.lookup y=some .local)
 && decide (∀ z∈sc.names,z.2 = .free->osc.names.lookup z.1=some .cell\/osc.names.lookup z.1=some .free)
 && decide (N'[0]? = some y) && decide (N'.length=fi.length+1)
 && (List.range fi.length).all λj=>match fi[j]? with
  | some k=>match N'[j+1]? with
   | some x=>decide (N[k]? = some x) && decide (sc.names.lookup x=some .free)
   | none=>false
  | none=>false
theorem Jw {X:Cx}{sc:Scope}{N':List Str}{y:Str}{fi:List Nat} (osc:Scope) (N:List Str) (h:LD sc osc N N' y fi=true) (e1:X.env.scope=osc:=by rfl) (e2:X.N=N:=by rfl):xA X sc N' y fi:=by
 subst e1 e2;simp only [LD,Qt,decide_eq_true_eq] at h;obtain ⟨⟨⟨⟨⟨⟨⟨⟨h1,h2⟩,h3⟩,h4⟩,h5⟩,h6⟩,h7⟩,h8⟩,h9⟩:=h;refine ⟨h1,h2,h3,h4,h5,h6,h7,h8,λj k hj=>?_⟩;have hlt:j<fi.length:=by
  rcases Qz j fi.length with q | q
  ·exact q
  ·rw [Qx q] at hj;cases hj
 have g:=Qs.mp h9 j (QA.mpr hlt);rw [hj] at g;dsimp only at g;cases e:N'[j+1]? with
 | none=>rw [e] at g;cases g
 | some x=>
  rw [e] at g;simp only [Qt,decide_eq_true_eq] at g;exact ⟨x,rfl,g.1,g.2⟩
structure Kp (K:Vz) (mg:Str->Option Vy) (fd:FuncData) (c P:Addr):Prop where
 code:fd.code = .ref c
 hd:∀ h:Heap,K.In h->CodeHd h c P
 bm:∃ bm o,mg "__builtins__" = some (.ref bm)/\bm≠builtinsNs/\bm≠mainGlobals/\K.lookup bm=some o/\o.cls = .type "module" /\ o.dict=some builtinsNs/\o.data = .plain
structure Hq (K:Vz) (x qual:Str) (st:Stmt) (f:Addr) (fd:FuncData):Prop where
 ex:∃ (oc:Vy) (od:Option Addr) (dV kV doc pm:Vy) (an:Option Addr) (cdv ct:Vy) (osl:Array (Option Vy)),
  fd=PySem.W.fnOf x qual (cD st) (b7 st) (ak st) dV kV doc pm an cdv ct/\K.lookup f=some ⟨oc,od,.func fd,osl⟩/\PySem.W.codeIn K cdv qual=true
 kp:PySem.W.keepIn K (.ref f)=true
structure Gf (K:Vz) (mg:Str->Option Vy) (x:Str) (st:Stmt) (ps:List Str) (f:Addr) (fd:FuncData):Prop where
 fn:Hq K x x st f fd
 bd:Binds K fd ps []
 mg:mg x=some (.ref f)
section
variable {P:Program}{w:World}{K:Vz}{mg:Str->Option Vy}{base:Heap}
theorem Fun.okC {x qual:Str}{st:Stmt}{f c:Addr}{fd:FuncData}{N ps:List Str}{k:Nat}{sp:Sp} (F:Fun K x qual st f fd) (hcc:fd.code = .ref c) (S:aE N ps (ak st)) (len:∀ vs H Q E,sp vs H Q E->vs.length=ps.length)
  (jd:∀ (A:Around) (outer:List Env) (s:Vx) (H:Hp) (vs:List V) (Q:VK) (E:XK),bX k (A.deeper (envOfC qual (ak st) s.heap.objs.size f (.ref c)))->sp vs H Q E ->
   ∃ t,PSs (zi CX0 P w K mg base N qual (ak st) f (.ref c) A outer s H E).nox (b7 st) t/\t { nx:=λ_ H'=>Q .non H',rt:=Q } (start N vs) H):ax P w K mg base CX0 (k+1) f fd ps sp:=by
 obtain ⟨oc,od,kV,doc,pm,an,cdv,ct,osl,rfl,lk,hcd⟩:=F.ex;obtain rfl:cdv = .ref c:=hcc;refine FC lk hcd S len λA outer s H vs Q E hr hsp=>?_;obtain ⟨t,h,q⟩:=jd A outer s H vs Q E hr hsp;exact ⟨t,h.nox,q⟩
theorem Hq.ok {x qual:Str}{st:Stmt}{f:Addr}{fd:FuncData}{N ps:List Str}{k:Nat}{sp:Sp} (F:Hq K x qual st f fd) (S:aE N ps (ak st)) (len:∀ vs H Q E,sp vs H Q E->vs.length=ps.length)
  (jd:∀ (cdv:Vy) (A:Around) (outer:List Env) (s:Vx) (H:Hp) (vs:List V) (Q:VK) (E:XK),bX k (A.deeper (envOfC qual (ak st) s.heap.objs.size f cdv))->sp vs H Q E ->
   ∃ t,PSs (zi CX0 P w K mg base N qual (ak st) f cdv A outer s H E).nox (b7 st) t/\t { nx:=λ_ H'=>Q .non H',rt:=Q } (start N vs) H):ax P w K mg base CX0 (k+1) f fd ps sp:=by
 obtain ⟨oc,od,dV,kV,doc,pm,an,cdv,ct,osl,rfl,lk,hcd⟩:=F.ex;refine FC lk hcd S len λA outer s H vs Q E hr hsp=>?_;obtain ⟨t,h,q⟩:=jd cdv A outer s H vs Q E hr hsp;exact ⟨t,h.nox,q⟩
end
end L2
namespace LG
open PySem L2
def bZ {α:Type} (st:List (Key×List α)) (k:Key) (x:α):List (Key×List α):=
 if (st.any λp=>decide (p.1=k))=true then st.map (λp=>if p.1=k then (p.1,p.2++[x]) else p) else st++[(k,[x])]
def cZ {α:Type} (l:List (Key×α)):List (Key×List α):=l.foldl (λst p=>bZ st p.1 p.2) []
def grp {α:Type} (ks:List Key) (xs:List α):List (List α):=(cZ (ks.zip xs)).map (·.2)
theorem yy {α:Type}{l:List (Key×α)}{i:Nat}{p:Key×α} (h:l[i]? = some p):cZ (l.take (i+1))=bZ (cZ (l.take i)) p.1 p.2:=by
 unfold cZ;rw [Qn,h,R5];rfl
inductive fR {α β:Type} (R:α->β->Prop):List α->List β->Prop
 | nil:fR R [] []
 | cons {a:α}{b:β}{l:List α}{m:List β} (h:R a b) (t:fR R l m):fR R (a::l) (b::m)
theorem fR.len {α β:Type}{R:α->β->Prop}{l:List α}{m:List β} (h:fR R l m):l.length=m.length:=by
 induction h with
 | nil=>rfl
 | cons _ _ ih=>rw [Qh,Qh,ih]
theorem fR.mono {α β:Type}{R S:α->β->Prop} (f:∀ a b,R a b->S a b) {l:List α}{m:List β} (h:fR R l m):fR S l m:=by
 induction h with
 | nil=>exact .nil
 | cons h _ ih=>exact .cons (f _ _ h) ih
theorem fR.snoc {α β:Type}{R:α->β->Prop}{l:List α}{m:List β}{a:α}{b:β} (h:fR R l m) (r:R a b):fR R (l++[a]) (m++[b]):=by
 induction h with
 | nil=>exact .cons r .nil
 | cons h _ ih=>exact .cons h ih
theorem fR.at {α β:Type}{R:α->β->Prop}{l:List α}{m:List β} (h:fR R l m):∀ {i:Nat}{a:α},l[i]? = some a->∃ b,m[i]? = some b/\R a b:=by
 induction h with
 | nil=>intro i a e;cases e
 | cons h _ ih=>
  intro i a e;cases i with
  | zero=>cases e;exact ⟨_,rfl,h⟩
  | succ i=>exact ih e
def E8 {α β:Type} (R:α->β->Prop) (p:Key×List α) (q:Key×List β):Prop:=p.1=q.1/\fR R p.2 q.2
theorem Ie {α β:Type}{R:α->β->Prop}{st:List (Key×List α)}{tt:List (Key×List β)}{k:Key}{x:α}{y:β} (h:fR (E8 R) st tt) (r:R x y):fR (E8 R) (bZ st k x) (bZ tt k y):=by
 have ea:(st.any λp=>decide (p.1=k))=(tt.any λp=>decide (p.1=k)):=by
  induction h with
  | nil=>rfl
  | cons h _ ih=>rw [QM,QM,ih,h.1]
 unfold bZ;rw [ea]
 split
 ·rename_i hh;clear ea hh
  induction h with
  | nil=>exact .nil
  | @cons a b l m h _ ih=>
   refine .cons ?_ ih;show E8 R (if a.1=k then (a.1,a.2++[x]) else a) (if b.1=k then (b.1,b.2++[y]) else b);rw [h.1]
   split
   ·exact ⟨rfl,h.2.snoc r⟩
   ·exact h
 ·exact h.snoc ⟨rfl,.cons r .nil⟩
theorem BE {α β:Type}{R:α->β->Prop}{xs:List α}{ys:List β} (h:fR R xs ys) (ks:List Key):fR (fR R) (grp ks xs) (grp ks ys):=by
 have go:∀ (ks:List Key) {xs:List α}{ys:List β}{st:List (Key×List α)}{tt:List (Key×List β)},fR R xs ys->fR (E8 R) st tt->fR (E8 R) ((ks.zip xs).foldl (λst p=>bZ st p.1 p.2) st) ((ks.zip ys).foldl (λst p=>bZ st p.1 p.2) tt):=λks=>by
  induction ks with
  | nil=>intro xs ys st tt _ h;simpa using h
  | cons k ks ih=>
   intro xs ys st tt h1 h2;cases h1 with
   | nil=>simpa using h2
   | cons r t=>exact ih t (Ie h2 r)
 have z:=go ks h (st:=[]) (tt:=[]) .nil;unfold grp cZ;generalize (ks.zip xs).foldl (λst p=>bZ st p.1 p.2) []=a at z;generalize (ks.zip ys).foldl (λst p=>bZ st p.1 p.2) []=b at z
 induction z with
 | nil=>exact .nil
 | cons h _ ih=>exact .cons h.2 ih
inductive GL (H0 H:Hp) (D:Addr):List Addr->List (Key×V)->List (Key×List V)->Prop
 | nil:GL H0 H D [] [] []
 | cons {a:Addr}{k:Key}{g:List V}{as:List Addr}{kvs:List (Key×V)}{st:List (Key×List V)} (h:H a=some (.lst g)) (hn:H0 a=none) (hD:a≠D) (ha:a∉as) (hk:k∉kvs.map (·.1)) (hs:st.map (·.1)=kvs.map (·.1)) (t:GL H0 H D as kvs st):GL H0 H D (a::as) ((k,.ref a)::kvs) ((k,g)::st)
theorem GL.keys {H0 H:Hp}{D:Addr}{as:List Addr}{kvs:List (Key×V)}{st:List (Key×List V)} (h:GL H0 H D as kvs st):st.map (·.1)=kvs.map (·.1):=by
 cases h with
 | nil=>rfl
 | cons _ _ _ _ _ hs _=>simp [hs]
theorem GL.vals {H0 H:Hp}{D:Addr}{as:List Addr}{kvs:List (Key×V)}{st:List (Key×List V)} (h:GL H0 H D as kvs st):kvs.map (·.2)=as.map V.ref:=by
 induction h with
 | nil=>rfl
 | cons _ _ _ _ _ _ _ ih=>simp [ih]
theorem GL.lists {H0 H:Hp}{D:Addr}{as:List Addr}{kvs:List (Key×V)}{st:List (Key×List V)} (h:GL H0 H D as kvs st):fR (λa g=>H a=some (.lst g)) as (st.map (·.2)):=by
 induction h with
 | nil=>exact .nil
 | cons h _ _ _ _ _ _ ih=>exact .cons h ih
theorem GL.mem {H0 H:Hp}{D:Addr}{as:List Addr}{kvs:List (Key×V)}{st:List (Key×List V)} (h:GL H0 H D as kvs st):∀ a∈as,(∃ g,H a=some (.lst g))/\H0 a=none/\a≠D:=by
 induction h with
 | nil=>intro a ha;cases ha
 | cons h hn hD _ _ _ _ ih=>
  intro a ha;rcases Qi.mp ha with e | ha
  ·rw [e];exact ⟨⟨_,h⟩,hn,hD⟩
  ·exact ih a ha
theorem GL.keep {H0 H H':Hp}{D:Addr}{as:List Addr}{kvs:List (Key×V)}{st:List (Key×List V)} (h:GL H0 H D as kvs st) (k:∀ a∈as,H' a=H a):GL H0 H' D as kvs st:=by
 induction h with
 | nil=>exact .nil
 | cons h hn hD ha hk hs t ih=>exact .cons ((k _ (.head _)).trans h) hn hD ha hk hs (ih λa z=>k a (.tail _ z))
theorem GL.snoc {H0 H:Hp}{D L:Addr}{k:Key}{g:List V}{as:List Addr}{kvs:List (Key×V)}{st:List (Key×List V)} (h:GL H0 H D as kvs st) (hL:H L=some (.lst g)) (hn:H0 L=none) (hD:L≠D) (ha:L∉as) (hk:k∉kvs.map (·.1)) :
  GL H0 H D (as++[L]) (kvs++[(k,.ref L)]) (st++[(k,g)]):=by
 induction h with
 | nil=>exact .cons hL hn hD (by simp) (by simp) rfl .nil
 | @cons a k' g' as kvs st h hn' hD' ha' hk' hs t ih=>
  rw [Qi,not_or] at ha;simp only [Ql,Qi,not_or] at hk;refine .cons h hn' hD' ?_ ?_ (by simp [hs]) (ih ha.2 hk.2)
  ·show a∉as++[L];rw [Qc,not_or];exact ⟨ha',λz=>ha.1 (PZ.mp z).symm⟩
  ·show k'∉(kvs++[(k,V.ref L)]).map (·.1)
   rw [Qa,Qc,not_or];exact ⟨hk',λz=>hk.1 (PZ.mp z).symm⟩
theorem F2 {kvs:List (Key×V)}{k:Key} (h:i7 kvs k=none):k∉kvs.map (·.1)/\(kvs.any λkv=>decide (kv.1=k))=false:=by
 induction kvs with
 | nil=>exact ⟨by simp,rfl⟩
 | cons p r ih=>
  by_cases e:p.1=k
  ·rw [sJ e] at h;cases h
  ·have h':i7 r k=none:=by
    unfold i7 at h ⊢;rw [Rj,decide_eq_false e] at h;exact h
   obtain ⟨h1,h2⟩:=ih h';refine ⟨λz=>?_,by rw [QM,decide_eq_false e,h2];rfl⟩;rcases Qi.mp z with w | w
   ·exact e w.symm
   ·exact h1 w
theorem any_keys {α β:Type}{st:List (Key×α)}{kvs:List (Key×β)} (h:st.map (·.1)=kvs.map (·.1)) (k:Key):(st.any λp=>decide (p.1=k))=(kvs.any λp=>decide (p.1=k)):=by
 have a:∀ {γ:Type} (l:List (Key×γ)),(l.any λp=>decide (p.1=k))=(l.map (·.1)).any λx=>decide (x=k):=λl=>by
  rw [List.any_map];rfl
 rw [a,a,h]
theorem GL.grow {H0 H:Hp}{D:Addr}{as:List Addr}{kvs:List (Key×V)}{st:List (Key×List V)}{k:Key}{v x:V} (h:GL H0 H D as kvs st):i7 kvs k=some v->∃ a g,v = .ref a/\a∈as/\H a=some (.lst g)/\g∈st.map (·.2)/\GL H0 (upd H a (.lst (g++[x]))) D as kvs (bZ st k x):=by
 have key:∀ {as kvs st},GL H0 H D as kvs st->i7 kvs k=some v->∃ a g,v = .ref a/\a∈as/\H a=some (.lst g)/\g∈st.map (·.2)/\(st.any λp=>decide (p.1=k))=true/\GL H0 (upd H a (.lst (g++[x]))) D as kvs (st.map λp=>if p.1=k then (p.1,p.2++[x]) else p):=λ{as kvs st} h=>by
  induction h with
  | nil=>intro e;cases e
  | @cons a k' g as kvs st h hn hD ha hk hs t ih=>
   intro e;by_cases ek:k' = k
   ·rw [sJ ek] at e;cases e;refine ⟨a,g,rfl,.head _,h,by simp,by rw [QM,decide_eq_true ek];rfl,?_⟩;have em:(st.map λp=>if p.1=k then (p.1,p.2++[x]) else p)=st:=by
     have e1:∀ p∈st,(if p.1=k then (p.1,p.2++[x]) else p)=p:=λp hp=>if_neg λz=>hk (by rw [<-hs,ek,<-z];exact Q8 hp);exact (QI e1).trans (List.map_id' st)
    rw [Ql,if_pos ek,em];exact .cons ab hn hD ha hk hs (t.keep λb hb=>au λ(z:b=a)=>ha (z ▸ hb))
   ·have e':i7 kvs k=some v:=by
     unfold i7 at e ⊢;rw [Rj,decide_eq_false ek] at e;exact e
    obtain ⟨b,g',e1,e2,e3,e4,e5,e6⟩:=ih e';refine ⟨b,g',e1,.tail _ e2,e3,PY _ e4,by rw [QM,e5,Bool.or_true],?_⟩;rw [Ql,if_neg ek];have hba:a≠b:=λz=>ha (z ▸ e2);refine .cons (by rw [au hba];exact h) hn hD ha hk ?_ e6;rw [Q5,<-hs];exact QI λp _=>by show (if p.1=k then (p.1,p.2++[x]) else p).1=p.1;split <;> rfl
 intro e;obtain ⟨a,g,e1,e2,e3,e4,e5,e6⟩:=key h e;refine ⟨a,g,e1,e2,e3,e4,?_⟩;unfold bZ;rw [if_pos e5];exact e6
theorem GL.more {H0 H:Hp}{D L:Addr}{as:List Addr}{kvs:List (Key×V)}{st:List (Key×List V)}{k:Key}{x:V} (h:GL H0 H D as kvs st) (e:i7 kvs k=none) (hL:H L=some (.lst [x])) (hn:H0 L=none) (hD:L≠D) (ha:L∉as) :
  putK kvs k (.ref L)=kvs++[(k,.ref L)]/\GL H0 H D (as++[L]) (kvs++[(k,.ref L)]) (bZ st k x):=by
 obtain ⟨h1,h2⟩:=F2 e;refine ⟨by unfold putK;rw [h2];rfl,?_⟩;unfold bZ;rw [any_keys h.keys k,h2];exact h.snoc hL hn hD ha h1
end LG
namespace L2
open PySem PySem.Spec PyProof.Rows
section
variable {fs:List Addr}{g h h1 h2 h':Heap}{e T:Addr}{cls tb fl:Vy}
end
section
variable {M:Model}{A:Around}{E:Vy->Vx->Prop}{s:Vx}{base g:Heap}{env:Env}{outer:List Env}{L e:Addr}{cls tb:Vy}{Q:Unit->Vx->Prop}
end
section
variable {P:Program}{w:World}{H H':Hp}{g h:Heap}{e C a:Addr}{o:HO}{tb:Vy}{fs:List Addr}
end
section
variable {X:Cx}{E:XK}{C:Addr}{x:Str}{np dv pos:Pos}{a:Expr}{ta:TA}{bmB:List Vy}
end
section
variable {X:Cx}{pins:List (Addr×Obj)}{σ:St}{H H':Hp}{s s':Vx}
end
section
variable {X:Cx}{CX:CXT}{k:Nat}{f:Addr}{fd:FuncData}{ps:List Str}{sp:Sp}{E:St->XK}{x:Str}{p pos:Pos}{e:Expr}{es:List Expr}{t:TA}
end
def mroIn (K:Vz) (C D:Addr):Bool:=match K.lookup C with
 | some ⟨_,_,.cls cd,_⟩=>cd.mro.contains (.ref D)
 | _=>false
section
variable {X:Cx}{D:Addr}{i:Nat}{n x:Str}{ts:Addr->Addr->TS}
end
def Il (A:Around) (h:Heap) (ea:Addr):Prop:=A.handled=some (.ref ea)/\∃ oe vs,h.get? ea=some oe/\oe.data = .fields vs/\vs[2]? = some Value.none
section
variable {prog:Program}{w:World}{A:Around}{E:Vy->Vx->Prop}{s:Vx}{ea:Addr}
end
def Hd (X:Cx) (ea:Addr):Prop:=∀ pins σ H s,Inv X pins σ H s->Il X.A s.heap ea/\H ea=none
structure O7 (ea:Addr) (P:Program) (w:World) (K:Vz) (tg:Expr) (J:It) (fp:List Addr) (it:Addr) (tn:Nat->Heap->Prop):Prop where
 mem:it∈fp
 obj:∀ i h,tn i h->∀ b∈fp,∃ o,h.get? b=some o/\∀ v,o.data ≠ .cell v
 keep:∀ i h h',tn i h->(∀ b∈fp,∀ o,h.get? b=some o->h'.get? b=some o)->tn i h'
 item:∀ (X:Cx),X.prog=P->X.w=w->X.K=K->Hd X ea->∀ (i:Nat) (pins:List (Addr×Obj)) (s:Vx) (σ:St) (H:Hp) (E:Vy->Vx->Prop),Inv X pins σ H s->(∀ b∈fp,cE X pins H b)->tn i s.heap->J.go i H ->
  wpAny (model P w) X.A (pyNext (.ref it)) (λr s1=>∃ u,r=some u /\
   wpAny (model P w) X.A (letOwnedTupleGo tg (.ref it) u) (λ_ s2=>∃ x H',Inv X pins σ H' s2/\RelV x u/\J.yld i H x H'/\tn (i+1) s2.heap/\∀ b∈fp,H' b=none) E s1) E s
 done:∀ (X:Cx),X.prog=P->X.w=w->X.K=K->Hd X ea->∀ (i:Nat) (pins:List (Addr×Obj)) (s:Vx) (σ:St) (H:Hp) (E:Vy->Vx->Prop),Inv X pins σ H s->(∀ b∈fp,cE X pins H b)->tn i s.heap->J.stop i H ->
  wpAny (model P w) X.A (pyNext (.ref it)) (λr s1=>r=none/\Inv X pins σ H s1) E s
 self:∀ (A:Around) (i:Nat) (s:Vx) (Q:Vy->Vx->Prop) (E:Vy->Vx->Prop),tn i s.heap->Q (.ref it) s->wpAny (model P w) A (pyIter (.ref it)) Q E s
section
variable {X:Cx}
end
section
variable {X:Cx}{elt tg iter:Expr}{ifs:List Expr}{scope:Scope}{pos:Pos}
end
section
variable {X:Cx}{pos:Pos}
end
structure Pq (K:Vz) (C:Addr):Prop where
 ga:PySem.W.findIn K (.ref C) "__getattribute__" = some (some (.builtin "BaseException.__getattribute__"))
 nh:PySem.W.findIn K (.ref C) "__getattr__" = some none
 fo:PySem.W.findObj K C none "__class__" = some (.bind (.builtin "getset_descriptor.__get__") (.builtin "object.__class__"))
 mo:PySem.W.mroIn K C (.type "object")=some true
 mb:PySem.W.mroIn K C (.type "BaseException")=some true
 is:(PySem.W.clsIn K C).isSome=true
section
variable {prog:Program}{w:World}{A:Around}{E:Vy->Vx->Prop}{s:Vx}{K:Vz}{x C:Addr}{ox:Obj}
end
section
variable {X:Cx}{ea C:Addr}{oe:Obj}{vs:Array Vy}
def N8 (a:Addr):TE:=λ_ H Q=>Q (.ref a) H
theorem Fy {x:Str}{p:Pos}{a:Addr} (hg:Gl X x) (hm:X.mg x=some (.ref a)) (hdb:(x == ("__debug__" : Str))=false:=by decide):PE X (.Name x p) (N8 a):=λpins s σ H Q I h=>jE I hg hm ⟨.ref a,H,I,rfl,h⟩ hdb
end
section
variable {P:Program}{w:World}{K:Vz}{mg:Str->Option Vy}{base:Heap}
end
structure K4 (k:Nat) (A:Around):Prop where
 dp:A.depth+3 * k+5<recursionLimit
 un:A.units+16 * k+200<cLine
 gd:A.guards=some []
structure O6 (P:Program) (w:World) (K:Vz) (mg:Str->Option Vy) (base:Heap) (CX:CXT) (k:Nat) (f:Addr) (fd:FuncData) (ps:List Str) (sp:Addr->Addr->Sp):Prop where
 len:∀ ea C vs H Q E,sp ea C vs H Q E->vs.length=ps.length
 run:∀ (ea C:Addr) (oe:Obj) (vv:Array Vy) (A:Around) (outer:List Env) (s:Vx) (H:Hp) (args:Args) (us:List Vy) (vs:List V) (Q:VK) (E:XK),K4 k A->A.handled=some (.ref ea)->s.heap.get? ea=some oe->H ea=none->ea∉frs outer ->
  oe.cls = .ref C->oe.dict=none->oe.data = .fields vv->vv[2]? = some .none->si P w K mg base A outer s H->BindsTo s fd args (ps.zip us)->aS vs us->sp ea C vs H Q E ->
  codeAny (model P w) A (.call (.ref f) args) (CR CX outer P w H s Q E) s
section
variable {P:Program}{w:World}{K:Vz}{mg:Str->Option Vy}{base:Heap}
end
section
variable {X:Cx}{k:Nat}{f ea C:Addr}{oe:Obj}{vv:Array Vy}{fd:FuncData}{ps:List Str}{sp:Addr->Addr->Sp}{x:Str}{p pos:Pos}{e:Expr}{es:List Expr}{t:TA}
end
section
variable {K:Vz}{g:TG}{tt:TT}{te:TE}{D:Addr}{Q:VK}{σ:St}{H:Hp}
end
end L2
namespace L2
open PySem
structure fT (K:Vz) (x q:Str) (st:Stmt) (ps:List Str) (f:Addr) (fd:FuncData):Prop where
 fn:Fun K x q st f fd
 bd:Binds K fd ps []
structure Fg (K:Vz) (x q:Str) (st:Stmt) (ps:List Str) (f:Addr) (fd:FuncData):Prop where
 fn:Hq K x q st f fd
 bd:Binds K fd ps []
def tAt (C:Addr) (ta:TE) (f:Str):TE:=λσ H Q=>ta σ H λx H1=>∃ a dx fs v,x = .ref a/\H1 a=some (.ins C dx fs)/\fs.lookup f=some v/\Q v H1
def sAt (C:Addr) (ta tv:TE) (f:Str):TS:=λD σ H=>tv σ H λy H1=>ta σ H1 λx H2=>∃ a dx fs,x = .ref a/\H2 a=some (.ins C dx fs)/\fs.length<1000/\D.nx σ (upd H2 a (.ins C dx (mz f y fs)))
def E4 (C:Addr) (sp:Sp):List V->Hp->VK->Prop:=λvs H Q=>∃ a dx fs,vs=[.ref a]/\H a=some (.ins C dx fs)/\sp [.ref a] H (λv H'=>∃ n:Nat,v = .int n/\n<=1000000/\Q (.int n) H') E0
def yZ (C:Addr) (sp:Sp):R2:=λx y H Q=>∃ a b dx fs dy gs,x = .ref a/\y = .ref b/\H a=some (.ins C dx fs)/\H b=some (.ins C dy gs)/\sp [.ref a,.ref b] H (λv H'=>∃ t,v = .bl t/\Q (.bl t) H') E0
section
variable {X:Cx}{C f:Addr}{fd:FuncData}{k:Nat}{sp:Sp}{e o value:Expr}{n:Str}{pos pos':Pos}{ta tv:TE}
theorem bg (c:Cls X.K C) (na:bQ X.K C n) (he:PE X e ta) (hb:attributeBase e n X.env (eval e X.env)=eval e X.env:=by rfl):PE X (.Attribute e n pos) (tAt C ta n):=by
 intro pins s σ H Q I h;refine HG hb (thn (he pins s σ H _ I h) λu s1 ⟨x,H1,I1,rx,a,dx,fs,v,ex,ea,l,q⟩=>?_);subst ex;obtain rfl:u=Value.ref a:=rx;exact A9 I1 ea c na l λu' s2 I2 ru=>⟨v,H1,I2,ru,q⟩
theorem jl (c:Cls X.K C) (na:bQ X.K C n) (ha:PE X o ta) (hv:PE X value tv) (hs:swapsWith value (some (.Attribute o n pos')) pos.line X.env=pure false:=by rfl):PS X (.Assign [.Attribute o n pos'] value pos) (sAt C ta tv n):=by
 intro pins s σ H D I h;refine plainObj_wpAny_Assign_Attribute (thn (hv pins s σ H _ I h) λu s1 ⟨y,H1,I1,ry,q⟩=>thn (ha pins s1 σ H1 _ I1 q) λov s2 ⟨x,H2,I2,rx,a,dx,fs,ex,ea,l,q2⟩=>?_) hs;subst ex;obtain rfl:ov=Value.ref a:=rx;exact Ax I2 ea c na l ry λs3 I3=>⟨σ,_,I3,q2⟩
theorem uR (hm:i3 X.K C "__len__" f) (F:ax X.prog X.w X.K X.mg X.base CX0 k f fd ["self"] sp) (hr:bX (k+1) X.A) (hb:Binds X.K fd ["self"] []):iC X (.builtin "len") (E4 C sp):=by
 rintro pins s σ H xs us Q I r ⟨a,dx,fs,rfl,ea,h⟩;obtain ⟨u,rfl,rx⟩:=vals1 r;obtain rfl:u=Value.ref a:=rx;obtain ⟨m,Fr⟩:=I.fr;obtain ⟨mA,O,_⟩:=gq I.hok ea;obtain ⟨od,J,_⟩:=O.look;refine PySem.W.len_K Fr I.ok.mod.kin J hm.at_ hm.fn ?_;refine wpAny_call (codeAny_mono (F.run X.A.in1 X.stack s H ⟨[.ref a],[]⟩ [.ref a] [.ref a] _ E0 hr.in1 I.xF.in1 (by have:=hb s [.ref a] I.kIn rfl;simpa using this) (.cons rfl .nil) h) λr s' hq=>?_);cases r with
 | error e=>exact False.elim hq
 | ok fl=>
  cases fl with
  | ret u=>
   obtain ⟨v,H',I3,rv,n,ev,hn,q3⟩:=I.after hq;subst ev;obtain ⟨t,rfl⟩:=rv;refine ⟨⟨by lia,by lia⟩,⟨.int n,H',I3.tok _,⟨_,rfl⟩,q3⟩⟩
  | next=>exact False.elim hq
  | brk=>exact False.elim hq
  | cont=>exact False.elim hq
theorem mW (hm:i3 X.K C "__eq__" f) (F:ax X.prog X.w X.K X.mg X.base CX0 k f fd ["self","other"] sp) (hr:bX k X.A) (hb:Binds X.K fd ["self","other"] []):OpR X (compareOp .Eq) (yZ C sp):=by
 rintro pins s σ H x y v u Q I rx ry ⟨a,b,dx,fs,dy,gs,rfl,rfl,ea,eb,h⟩;obtain rfl:v=Value.ref a:=rx;obtain rfl:u=Value.ref b:=ry;obtain ⟨m,Fr⟩:=I.fr;obtain ⟨mA,O,_⟩:=gq I.hok ea;obtain ⟨od,J,_⟩:=O.look;obtain ⟨mB,O',_⟩:=gq I.hok eb;obtain ⟨od',J',_⟩:=O'.look;refine PySem.W.cmp_ofEq (PySem.W.cmp_K (by have:=hr.un;lia) Fr I.ok.mod.kin J J'.type (by unfold PySem.W.notFirst;rw [beq_self_eq_true];rfl) hm.at_ hm.fn ?_);refine wpAny_call (codeAny_mono (F.run X.A X.stack s H ⟨[.ref a,.ref b],[]⟩ [.ref a,.ref b] [.ref a,.ref b] _ E0 hr I.xF (by have:=hb s [.ref a,.ref b] I.kIn rfl;simpa using this) (.cons rfl (.cons rfl .nil)) h) λr s' hq=>?_);cases r with
 | error e=>exact False.elim hq
 | ok fl=>
  cases fl with
  | ret u=>
   obtain ⟨v,H',I3,rv,t,ev,q3⟩:=I.after hq;subst ev;obtain rfl:u=Value.bool t:=rv;exact ⟨.bl t,H',I3,rfl,q3⟩
  | next=>exact False.elim hq
  | brk=>exact False.elim hq
  | cont=>exact False.elim hq
def Gb (K:Vz):List V->Hp->VK->Prop:=λvs H Q=>∃ x c t b,vs=[x,.ref c]/\ke K H x t/\PySem.W.kitOne K t (.ref c)=some b/\Q (.bl b) H
theorem uK:iC X (.builtin "isinstance") (Gb X.K):=by
 intro pins s σ H xs us Q I rv h;obtain ⟨x,c,t,b,rfl,ty,e,q⟩:=h;obtain ⟨u,w',rfl,r1,r2⟩:=vals2 rv;obtain rfl:w' = Value.ref c:=r2;exact vG I r1 ty e λtk=>⟨.bl b,H,I.tok _,rfl,q⟩
end
structure Fp (K:Vz) (C:Addr):Prop where
 ha:PySem.W.findIn K (.ref C) "__class__" = some (some (.builtin "object.__class__"))
 hn:PySem.W.specialIn K (.builtin "object.__class__") "__get__" = some (some (.builtin "getset_descriptor.__get__"))
 htk:PySem.W.takesIn K (.builtin "object.__class__")=some true
 hm:PySem.W.mroIn K C (.type "object")=some true
 self:PySem.W.kitOne K (.ref C) (.ref C)=some true
theorem Fp.ty {K:Vz}{C a dx:Addr}{fs:List (Str×V)}{H:Hp} (c:Fp K C) (cl:Cls K C) (e:H a=some (.ins C dx fs)):ke K H (.ref a) (.ref C):=.ins e cl c.ha c.hn c.htk c.hm
theorem aS.erase:∀ {xs:List V}{us:List Vy} (i:Nat),aS xs us->aS (xs.eraseIdx i) (us.eraseIdx i)
 | _,_,_,.nil=>by simpa using Paired.nil
 | _,_,0,.cons _ t=>by simpa using t
 | _,_,i+1,.cons r t=>by simpa using Paired.cons r (aS.erase i t)
section
variable {X:Cx}
def MG:V->List V->Hp->VK->Prop:=λx vs H Q=>∃ (l:Addr) (i:Nat) (y:V) (r:List V),x = .ref l/\vs=[.int i]/\H l=some (.lst r)/\r[i]? = some y/\Q y (upd H l (.lst (r.eraseIdx i)))
theorem BN:MtR X "list.pop" MG:=by
 intro pins s σ H x vs v us Q I rx rv h;obtain ⟨l,i,y,r,rfl,rfl,hH,hy,q⟩:=h;cases rx;generalize hj:(i:Int)=j at rv;obtain ⟨u,rfl,t',rfl⟩:=rv.one;obtain ⟨z,its,n,rr,hl,e⟩:=I.Fd hH;obtain ⟨w,hw,ry⟩:=rr.get hy;have hi:i<its.length:=by
  rcases Qz i its.length with h | h
  ·exact h
  ·rw [Qx h] at hw;cases hw
 have hz:=sizeLine_eq;have h1:Builtin.List.listFitsIndex (i:Int)=true:=by
  unfold Builtin.List.listFitsIndex;have:i<10000000000000:=by lia
  simp;lia
 have h2:seqIndex? (i:Int) its.toArray.size=some i:=by
  unfold seqIndex?;rw [P1]
  split
  ·lia
  ·simpa using hi
 have h3:its.toArray[i]? = some w:=by simpa using hw
 have h4:its.toArray.size<=sizeLine:=by rw [P1];lia
 rw [hj] at h1 h2;have M:=PySem.MeetsSeq.list_pop_at l its.toArray n j t' i w h1 h2 h3 h4;refine call_meets F.slot_list_pop ⟨_,e,rfl⟩ F.entry_list_pop (F.args_list_pop_2 _ _) M ⟨e,?_⟩;refine ⟨y,_,I.Ig (pq:=its.eraseIdx i) hH e ?_ (rr.erase i) ?_,ry,q⟩
 ·apply QU.mp;simp
 ·exact P2 (R9 ..) z
def KU:V->List V->Hp->VK->Prop:=λx vs H Q=>∃ (l:Addr) (y:V) (r:List V),x = .ref l/\vs=[]/\H l=some (.lst (r++[y]))/\Q y (upd H l (.lst r))
theorem Be:MtR X "list.pop" KU:=by
 intro pins s σ H x vs v us Q I rx rv h;obtain ⟨l,y,r,rfl,rfl,hH,q⟩:=h;cases rx;cases rv;obtain ⟨z,its,n,rr,hl,e⟩:=I.Fd hH;obtain ⟨w,hw,ry⟩:=rr.get (i:=r.length) (x:=y) (by simp);have hl':its.length=r.length+1:=by rw [<-hl];simp
 refine call_meets F.slot_list_pop ⟨_,e,rfl⟩ F.entry_list_pop (F.args_list_pop_1 _) (PySem.MeetsSeq.list_pop_last l its.toArray n w ?_ (by rw [P1];lia)) ⟨e,?_⟩
 ·rw [P1,hl'];simpa using hw
 ·have he:=rr.erase r.length;rw [show (r++[y]).eraseIdx r.length=r by simp [List.eraseIdx_append_of_length_le]] at he;refine ⟨y,_,I.Ig (pq:=its.eraseIdx r.length) hH e ?_ he ?_,ry,q⟩
  ·apply QU.mp;rw [P1,hl'];simp
  ·have:(r++[y]).length<=sizeLine:=z;simp at this;lia
end
theorem Eh {X:Cx}{pins:List (Addr×Obj)}{s:Vx}{σ:St}{H:Hp}{x:V}{u t:Vy} (I:Inv X pins σ H s) (rx:RelV x u) (ty:ke X.K H x t):PySem.W.Looks (model X.prog X.w) s.heap (typeOf u) t:=by
 cases ty with
 | non=>cases (show u=Value.none from rx);exact .now
 | bl y=>cases (show u=Value.bool y from rx);exact .now
 | int i=>obtain ⟨t,q⟩:=(show ∃ t,u=Value.int i t from rx);cases q;exact .now
 | str y=>obtain ⟨t,q⟩:=(show ∃ t,u=Value.str y t from rx);cases q;exact .now
 | flt y=>obtain ⟨t,q⟩:=(show ∃ t,u=Value.float y t from rx);cases q;exact .now
 | @lst a xs ea=>
  cases (show u=Value.ref a from rx);obtain ⟨_,_,n,_,h1⟩:=(show bU X.prog X.w H s.heap a (.lst xs) from I.hok a _ ea);exact (PySem.W.Looks.ld h1).andThen .now
 | @frz a ob xs ea=>
  cases (show u=Value.ref a from rx);obtain ⟨_,_,_,n,_,h1⟩:=(show bU X.prog X.w H s.heap a (.frz ob (.lst xs)) from I.hok a _ ea);exact (PySem.W.Looks.ld h1).andThen .now
 | @tup a xs ea=>
  cases (show u=Value.ref a from rx);obtain ⟨_,_,_,p⟩:=(show bU X.prog X.w H s.heap a (.tup xs) from I.hok a _ ea);obtain ⟨o,h1,h2,_⟩:=p;exact h2 ▸ (PySem.W.Looks.ld h1).andThen .now
 | @dK a kvs ea=>
  cases (show u=Value.ref a from rx);obtain ⟨_,_,vs,_,p⟩:=(show bU X.prog X.w H s.heap a (.dK kvs) from I.hok a _ ea);obtain ⟨o,es,ep,h1,h2,_⟩:=p;exact h2.1 ▸ (PySem.W.Looks.ld h1).andThen .now
 | @dT a kvs ea=>
  cases (show u=Value.ref a from rx);obtain ⟨_,_,xs,_,o,es,ep,h1,h2,_⟩:=(show bU X.prog X.w H s.heap a (.dT kvs) from I.hok a _ ea);exact h2.1 ▸ (PySem.W.Looks.ld h1).andThen .now
 | @ins a C dx fs ea cl ha hn htk hm=>
  cases (show u=Value.ref a from rx);obtain ⟨mA,O,_⟩:=gq I.hok ea;obtain ⟨od,J,_⟩:=O.look;exact J.type
structure NeT (K:Vz) (C:Addr):Prop where
 ne:PySem.W.findIn K (.ref C) "__ne__" = some (some (.builtin "object.__ne__"))
 hm:PySem.W.mroIn K C (.type "object")=some true
def xj (K:Vz) (C:Addr) (sp:Sp):R2:=λx y H Q=>∃ a dx fs t,x = .ref a/\H a=some (.ins C dx fs)/\ke K H y t/\PySem.W.notFirst K C t=true/\sp [.ref a,y] H (λv H'=>∃ b,v = .bl b/\Q (.bl !b) H') E0
section
variable {X:Cx}{C f:Addr}{fd:FuncData}{k:Nat}{sp:Sp}
theorem zQ {K:Vz}{M:Model}{A:Around}{E:Vy->Vx->Prop}{s:Vx}{x C:Addr}{ox:Obj}{od:Option Obj}{args:List Vy}{Q:Option Vy->Vx->Prop} (Z:K.In s.heap) (I:PySem.W.InstAt s.heap x ox C od) (hs:PySem.W.findIn K (.ref C) "__ne__" = some (some (.builtin "object.__ne__")))
  (h:wpAny M A (call (.builtin "object.__ne__") (.ref x::args)) (λv=>Q (some v)) E s):wpAny M A (callSpecialIfBound? (.ref x) "__ne__" args) Q E s:=by
 simp only [callSpecialIfBound?,bindSpecialIfBound?];refine Vs (Vw (Vw (Vw (I.type.here ((PySem.W.looks_findIn Z hs).here ?_)))));refine Vw (wpAny_askSetting (wpAny_ite ?_));have fin:wpAny M A (call (.builtin "object.__ne__") ([.ref x]++args) >>= λv=>pure (some v)) Q E s:=Vw (Vt h (λv s' h'=>Vv h') λ_ _ h'=>h');rw [F.cmp_object.ne.bind]
 split
 ·exact Vw (Vv (Vv fin))
 ·exact wpAny_tryCatch (Vw (Vv (Vv fin)))
theorem lP (hm:i3 X.K C "__eq__" f) (hN:NeT X.K C) (F':ax X.prog X.w X.K X.mg X.base CX0 k f fd ["self","other"] sp) (hr:bX (k+2) X.A) (hb:Binds X.K fd ["self","other"] []):OpR X (compareOp .NotEq) (xj X.K C sp):=by
 rintro pins s σ H x y v u Q I rx ry ⟨a,dx,fs,t,rfl,ea,ty,nf,h⟩;obtain rfl:v=Value.ref a:=rx;have L:=Eh I ry ty;obtain ⟨m,Fr⟩:=I.fr;have Z:=I.kIn;obtain ⟨mA,O,_⟩:=gq I.hok ea;obtain ⟨od,J,_⟩:=O.look;refine PySem.W.cmp_ofNotEq ?_;have hu:X.A.units+1<cLine:=by have:=hr.un;lia
 have one:wpAny (model X.prog X.w) X.A (tryCompare (.ref a) "__ne__" u) (λr s'=>∃ b,r=some (Value.bool b)/\EP X pins σ Q (.bool b) s') X.xe s:=by
  unfold tryCompare;refine Vw (zQ Z J hN.ne ?_);refine wpAny_call (codeAny_call_builtin F.cmp_object.ne.plain F.cmpEntry_ne (PySem.W.check_slot F.cmpKind_ne F.cmpSplit_ne (J.type.andThen (PySem.W.looks_mroIn Z hN.hm)) (F.cmpArgs_ne _ _) ?_));unfold Builtin.«object.__ne__»
  repeat (first | with_reducible refine wpAny_cRoomFor hu ?_ | with_reducible refine PySem.W.ifBound_K Z J hm.at_ hm.fn ?_ | wp_step)
  refine codeAny_mono (F'.run X.A.in1 X.stack s H ⟨[.ref a,u],[]⟩ [.ref a,u] [.ref a,y] _ E0 (hr.mono (QO _)).in1 I.xF.in1 (by have:=hb s [.ref a,u] I.kIn rfl;simpa using this) (.cons rfl (.cons ry .nil)) h) λr s' hq=>?_;cases r with
  | error e=>exact False.elim hq
  | ok fl=>
   cases fl with
   | ret u=>
    obtain ⟨v,H',I3,rv,t,ev,q3⟩:=I.after hq;subst ev;obtain rfl:u=Value.bool t:=rv
    repeat wp_step
    exact ⟨!t,rfl,.bl !t,H',I3,rfl,q3⟩
   | next=>exact False.elim hq
   | brk=>exact False.elim hq
   | cont=>exact False.elim hq
 unfold richCompare;simp only [oneThing_ref];refine Vs (Vw (wpAny_cRoomFor (by lia) ?_));refine Vw (J.type.here (Vw (L.here ?_)))
 split
 ·rename_i q;have e:PySem.W.subIn X.K t (.ref C)=some false:=by
   rcases Bool.or_eq_true_iff.mp nf with e | e
   ·rw [beq_iff_eq.mp e] at q;simp at q
   ·exact beq_iff_eq.mp e
  refine Vw ((PySem.W.looks_subIn Z e).here ?_);simp only [Qu,if_false];refine Vw (Vt one (λr s' z=>?_) λ_ _ e=>e);obtain ⟨v,rfl,hq⟩:=z;exact Vv hq
 ·refine Vw (Vv ?_);simp only [Qu,if_false];refine Vw (Vt one (λr s' z=>?_) λ_ _ e=>e);obtain ⟨v,rfl,hq⟩:=z;exact Vv hq
end
end L2
namespace L2
open PySem PySem.Spec PyProof.Rows PySem.W
structure PAi (X:Cx) (es:List Expr) (t:TA):Prop where
 go:PA X es t
structure PSi (X:Cx) (st:Stmt) (t:TS):Prop where
 go:PS X st t
structure Pd (X:Cx) (st:List Stmt) (t:TS):Prop where
 go:PSs X st t
section
variable {X:Cx}
theorem zF:bootBuiltins "set" = some (.type "set"):=by decide +kernel
end
end L2
namespace LG
open PySem L2
def wsD (ws:List Str):PyData:=.list (ws.map PyData.str)
def gD (wss:List (List Str)):PyData:=.list (wss.map wsD)
structure GOk (n:Nat) (wss:List (List Str)):Prop where
 ne:wss≠[]
 le:wss.length<64
 Ga:n<=12
 pos:0<n
 row:∀ ws∈wss,ws.length=n/\∀ w∈ws,PtW (.word w)
def wAt (wss:List (List Str)) (p:Nat):List Str:=wss.map λws=>ws.getD p Str.empty
def uAt (wss:List (List Str)) (p:Nat):List Str:=jZ [] (wAt wss p)
def gb (wss:List (List Str)) (p:Nat) (s l:Int):Bool:=decide (2<=((uAt wss p).length:Int)) && (decide (((uAt wss p).length:Int)<=s) && (uAt wss p).all λw=>decide (l<=((wAt wss p).countP λz=>decide (z=w):Nat)))
section
variable {K:Vz}{H:Hp}
theorem o9:∀ {ws:List Str}{ys:List V},aA K H ys (ws.map PyData.str)->ys=ws.map V.str
 | [],_,h=>by cases h;rfl
 | w::ws,_,h=>by
  cases h with
  | cons a t=>
   cases a;rw [o9 t];rfl
theorem JK {x:V}{ws:List Str} (h:Den K H x (wsD ws)):∃ r,x = .ref r/\SqL K H r (ws.map V.str):=by
 cases h with
 | lst hq t=>
  rw [o9 t] at hq;exact ⟨_,rfl,hq⟩
theorem Bq {x:V}{wss:List (List Str)} (h:Den K H x (gD wss)):∃ a xs,x = .ref a/\SqL K H a xs/\aA K H xs (wss.map wsD):=by
 cases h with
 | lst hq t=>exact ⟨_,_,rfl,hq,t⟩
theorem rg {xs:List V}{wss:List (List Str)}{i:Nat}{x:V} (h:aA K H xs (wss.map wsD)) (hx:xs[i]? = some x):∃ ws r,wss[i]? = some ws/\x = .ref r/\SqL K H r (ws.map V.str):=by
 obtain ⟨d,hd,hn⟩:=h.get hx;rw [P7] at hd;cases e:wss[i]? with
 | none=>rw [e] at hd;cases hd
 | some ws=>
  rw [e] at hd;cases hd;obtain ⟨r,rfl,hq⟩:=JK hn;exact ⟨ws,r,rfl,rfl,hq⟩
end
theorem Ec {wss:List (List Str)}{ws:List Str}{i p:Nat} (h:wss[i]? = some ws):wAt (wss.take (i+1)) p=wAt (wss.take i) p++[ws.getD p Str.empty]:=by
 unfold wAt;rw [Qn,h];simp
theorem yH (zs:List Str):(jZ [] zs).length<=zs.length:=by
 have:=Bw zs [];simpa using this
theorem GOk.Ke {n:Nat}{wss:List (List Str)} (h:GOk n wss) (p:Nat):(wAt wss p).length<64:=by unfold wAt;rw [PQ];exact h.le
theorem GOk.Ls {n:Nat}{wss:List (List Str)} (h:GOk n wss) (p:Nat):(uAt wss p).length<64:=RR (yH _) (h.Ke p)
section
variable {K:Vz}{H H':Hp}{P:Addr}
theorem As {ps:Array Vy}{a:Addr}{o:HO} (h:H P=some (.tbl ps)) (e:H a=some o) (n:∀ qs,o ≠ .tbl qs):a≠P:=λz=>by
 rw [z,h] at e;cases e;exact n _ rfl
theorem DP {ps:Array Vy}{a:Addr}{o:HO} (h:H P=some (.tbl ps)) (r:Rd H a o) (n:∀ qs,o ≠ .tbl qs):Rd (wo P H) a o:=by
 rcases r with r | ⟨ob,r⟩
 ·exact .inl (by rw [aj (As h r n)];exact r)
 ·exact .inr ⟨ob,by rw [aj (As h r λqs e=>by cases e)];exact r⟩
theorem lV {ps:Array Vy}{a:Addr}{xs:List V} (h:H P=some (.tbl ps)) (r:SqL K H a xs):SqL K (wo P H) a xs:=by
 rcases r with r | r
 ·exact .inl (DP h r λqs e=>by cases e)
 ·exact .inr r
theorem lW {ps:Array Vy}{a:Addr}{xs:List V} (h:H P=some (.tbl ps)) (r:SqT K H a xs):SqT K (wo P H) a xs:=by
 rcases r with r | r
 ·exact .inl (DP h r λqs e=>by cases e)
 ·exact .inr r
theorem Br {ps:Array Vy}{v:V}{d:PyData} (h:H P=some (.tbl ps)) (r:Den K H v d):Den K (wo P H) v d:=r.keep (λ_ _ q=>lV h q) λ_ _ q=>lW h q
theorem jk {ps:Array Vy}{v:List V}{d:List PyData} (h:H P=some (.tbl ps)) (r:aA K H v d):aA K (wo P H) v d:=r.keep (λ_ _ q=>lV h q) λ_ _ q=>lW h q
theorem aP {pos:Pos}{qual:Str} (h:fO P pos qual H):∃ ps,H P=some (.tbl ps):=let ⟨ps,e,_⟩:=h;⟨ps,e⟩
theorem aN {pos:Pos}{qual:Str} (h:fO P pos qual H) (s:af H H'):fO P pos qual H':=by
 obtain ⟨ps,h1,h2,h3⟩:=h;refine ⟨ps,s _ _ h1,h2,h3.imp id λ⟨c,a,b⟩=>⟨c,a,s _ _ b⟩⟩
theorem EA {c:Addr}{qual:Str}{H1 H2:Hp}{u v:Vy} (h:H2=H1\/∃ ps,H1 P=some (.tbl ps)/\H1 c=none/\H2=upd (upd H1 P (.tbl (ps ++ #[u,v,.ref c]))) c (qJ c qual)):af (wo P H1) H2:=by
 rcases h with rfl | ⟨ps,h1,h2,rfl⟩
 ·exact aZ
 ·refine aF ?_ (aF a7 aZ);by_cases e:c=P
  ·rw [e,a7]
  ·rw [aj e];exact h2
theorem wQ {a:Addr}{o:HO}{ps:Array Vy} (s:af (wo P H) H') (h:H P=some (.tbl ps)) (e:H a=some o) (n:∀ qs,o ≠ .tbl qs):H' a=some o:=s _ _ (by rw [aj (As h e n)];exact e)
end
def jo (wss:List (List Str)) (n:Nat) (s l:Int):List Nat:=(List.range n).filter λp=>gb wss p s l
def plc (wss:List (List Str)) (n:Nat) (s l:Int):Option Nat:=if jo wss n s l=[] then none else some ((jo wss n s l).getD (cw ((jo wss n s l).map λp=>.int (uAt wss p).length)) 0)
def M5:Option Nat->V
 | none=>.non
 | some p=>.int p
theorem Dv {wss:List (List Str)}{i:Nat}{s l:Int}:jo wss (i+1) s l=jo wss i s l++[i].filter λp=>gb wss p s l:=by
 unfold jo;rw [RO,QV]
theorem Fq {wss:List (List Str)}{i:Nat}{s l:Int}:(jo wss i s l).length<=i:=by
 unfold jo;exact P2 (QX _ _) (by rw [QQ];exact PR _)
theorem xZ {wss:List (List Str)}{n p:Nat}{s l:Int} (h:p∈jo wss n s l):p<n/\gb wss p s l=true:=by
 unfold jo at h;obtain ⟨h1,h2⟩:=QY.mp h;exact ⟨QA.mp h1,h2⟩
theorem xR (wss:List (List Str)) (ps:List Nat) (h:ps≠[]):cw (ps.map λp=>PyData.int (uAt wss p).length)<ps.length:=by
 obtain ⟨d,h1,_⟩:=sm (all:=ps.map λp=>PyData.int (uAt wss p).length) (Sh.ok .int) (λd hd=>by
  obtain ⟨p,_,rfl⟩:=P9.mp hd;exact ⟨_,rfl⟩) (λe=>h (QN.mp e))
 have:=aW h1
 rwa [PQ] at this
theorem Jt {wss:List (List Str)}{n p:Nat}{s l:Int} (h:plc wss n s l=some p):p<n/\gb wss p s l=true:=by
 unfold plc at h
 split at h
 ·cases h
 ·rename_i hne;have hl:=xR wss _ hne;rw [Qf,PV hl] at h;cases h;exact xZ (QE hl)
theorem HE (i:Int):(PyData.int i).depth<=100:=Qb _
structure DA {α:Type} (l:List (Key×α)) (p:Key×List α):Prop where
 ne:p.2≠[]
 of:∀ x∈p.2,(p.1,x)∈l
 le:p.2.length<=l.length
theorem Kj {α:Type}{l:List (Key×α)}{st:List (Key×List α)}{k:Key}{x:α} (h:∀ p∈st,DA l p):∀ p∈bZ st k x,DA (l++[(k,x)]) p:=λp hp=>by
 have up:∀ q∈st,DA (l++[(k,x)]) q:=λq hq=>⟨(h q hq).ne,λy hy=>Rn _ ((h q hq).of y hy),by rw [PX];exact P2 (h q hq).le (Nat.le_add_right _ _)⟩;unfold bZ at hp
 split at hp
 ·obtain ⟨q,hq,rfl⟩:=P9.mp hp;by_cases e:q.1=k
  ·rw [if_pos e];refine ⟨by simp,λy hy=>?_,?_⟩
   ·rcases Qc.mp hy with z | z
    ·exact (up q hq).of y z
    ·rw [PZ.mp z];show (q.1,x)∈_;rw [e];simp
   ·show (q.2++[x]).length<=_;rw [PX,PX,P8,P8];exact Nat.succ_le_succ (h q hq).le
  ·rw [if_neg e];exact up q hq
 ·rcases Qc.mp hp with z | z
  ·exact up p z
  ·rw [PZ.mp z];refine ⟨by simp,λy hy=>?_,by simp⟩;rw [PZ.mp hy];simp
theorem vD {α:Type} (l:List (Key×α)):∀ p∈cZ l,DA l p:=by
 have go:∀ (r pre:List (Key×α)) (st:List (Key×List α)),(∀ p∈st,DA pre p)->∀ p∈r.foldl (λst p=>bZ st p.1 p.2) st,DA (pre++r) p:=λr=>by
  induction r with
  | nil=>intro pre st h p hp;rw [QD];exact h p hp
  | cons q r ih=>
   intro pre st h p hp;have:=ih (pre++[q]) (bZ st q.1 q.2) (Kj h) p hp
   rwa [Q7,List.singleton_append] at this
 exact go l [] [] (λp hp=>by cases hp)
def byW (wss:List (List Str)) (p:Nat):List (List (List Str)):=grp ((wAt wss p).map Sum.inr) wss
theorem zip_map {α β:Type} (f:α->β):∀ l:List α,(l.map f).zip l=l.map λx=>(f x,x)
 | []=>rfl
 | a::l=>by rw [Ql,RE,zip_map f l];rfl
theorem pV {wss g:List (List Str)}{p:Nat} (h:g∈byW wss p):g≠[]/\g.length<=wss.length/\(∀ ws∈g,ws∈wss)/\∃ w:Str,∀ ws∈g,ws.getD p Str.empty=w:=by
 unfold byW grp at h;obtain ⟨q,hq,rfl⟩:=P9.mp h;have ez:((wAt wss p).map (Sum.inr:Str->Key)).zip wss=wss.map λws=>(Sum.inr (ws.getD p Str.empty),ws):=by
  unfold wAt;rw [Q5];exact zip_map _ wss
 rw [ez] at hq;have ok:=vD _ q hq;have key:∀ ws∈q.2,ws∈wss/\(Sum.inr (ws.getD p Str.empty):Key)=q.1:=λws hws=>by
  obtain ⟨v,hv,e⟩:=P9.mp (ok.of ws hws);injection e with e1 e2;rw [<-e2];exact ⟨hv,e1⟩
 refine ⟨ok.ne,?_,λws hws=>(key ws hws).1,?_⟩
 ·have:=ok.le
  rwa [PQ] at this
 ·cases e:q.1 with
  | inl i=>
   obtain ⟨ws,hws⟩:=R3 _ ok.ne;have:=(key ws hws).2;rw [e] at this;cases this
  | inr w=>
   refine ⟨w,λws hws=>?_⟩;have:=(key ws hws).2;rw [e] at this;exact Sum.inr.inj this
theorem GOk.sub {n p:Nat}{wss g:List (List Str)} (h:GOk n wss) (hg:g∈byW wss p):GOk n g:=by
 obtain ⟨h1,h2,h3,_⟩:=pV hg;exact ⟨h1,RR h2 h.le,h.Ga,h.pos,λws hws=>h.row ws (h3 ws hws)⟩
theorem nR {x:Str}:∀ {zs us:List Str},x∈jZ us zs↔x∈us\/x∈zs
 | [],us=>by simp [jZ]
 | z::zs,us=>by
  unfold jZ;rw [nR];by_cases h:z∈us
  ·rw [if_pos h,Qi];constructor
   ·rintro (a | a)
    ·exact .inl a
    ·exact .inr (.inr a)
   ·rintro (a | a | a)
    ·exact .inl a
    ·rw [a];exact .inl h
    ·exact .inr a
  ·rw [if_neg h,Qc,PZ,Qi];constructor
   ·rintro ((a | a) | a)
    ·exact .inl a
    ·exact .inr (.inl a)
    ·exact .inr (.inr a)
   ·rintro (a | a | a)
    ·exact .inl (.inl a)
    ·exact .inl (.inr a)
    ·exact .inr a
theorem lY:∀ {zs us:List Str},us.Nodup->(jZ us zs).Nodup
 | [],us,h=>h
 | z::zs,us,h=>by
  unfold jZ;refine lY ?_;by_cases e:z∈us
  ·rw [if_pos e];exact h
  ·rw [if_neg e,Q3];refine ⟨h,by simp,λa ha b hb=>?_⟩;rw [PZ.mp hb];exact λz'=>e (z' ▸ ha)
def two (wss:List (List Str)) (p:Nat):Bool:=decide (2<=(uAt wss p).length)
theorem Ey {wss:List (List Str)}{p:Nat} (h:two wss p=true):∃ x y,x≠y/\x∈wAt wss p/\y∈wAt wss p:=by
 have h2:2<=(uAt wss p).length:=of_decide_eq_true h;have nd:(uAt wss p).Nodup:=lY (by simp);have hm:∀ z∈uAt wss p,z∈wAt wss p:=λz hz=>(nR.mp hz).resolve_left (by simp)
 match e:uAt wss p,h2,nd,hm with
 | x::y::r,_,nd,hm=>exact ⟨x,y,λz=>(Ri.mp nd).1 (by rw [z];simp),hm x (by simp),hm y (by simp)⟩
theorem J3 {wss:List (List Str)}{p:Nat}{x y:Str} (hne:x≠y) (hx:x∈wAt wss p) (hy:y∈wAt wss p):two wss p=true:=by
 have hx':x∈uAt wss p:=nR.mpr (.inr hx);have hy':y∈uAt wss p:=nR.mpr (.inr hy);refine decide_eq_true ?_
 match e:uAt wss p,hx',hy' with
 | [z],hx',hy'=>exact (hne ((PZ.mp hx').trans (PZ.mp hy').symm)).elim
 | _::_::r,_,_=>simp
def mu (n:Nat) (wss:List (List Str)):Nat:=(List.range n).countP (two wss)
theorem KY (n:Nat) (wss:List (List Str)):mu n wss<=n:=by
 unfold mu;exact P2 List.countP_le_length (by rw [QQ];exact PR _)
theorem C8 {l:List Nat}{f g:Nat->Bool}{p:Nat} (h:∀ q,f q=true->g q=true) (hp:p∈l) (h1:f p=false) (h2:g p=true):l.countP f<l.countP g:=by
 induction l with
 | nil=>cases hp
 | cons a l ih=>
  have mono:l.countP f<=l.countP g:=List.countP_mono_left λq _=>h q;rw [Rc,Rc];rcases Qi.mp hp with e | e
  ·rw [<-e,h1,h2];simp;lia
  ·have:=ih e;have hs:(if f a=true then 1 else 0)<=(if g a=true then 1 else 0):=by
    cases hf:f a with
    | false=>simp
    | true=>rw [h a hf];simp
   lia
theorem MI {n p:Nat}{wss g:List (List Str)} (hp:p<n) (ht:two wss p=true) (hg:g∈byW wss p):mu n g<mu n wss:=by
 obtain ⟨_,_,h3,w,h4⟩:=pV hg;refine C8 (p:=p) (λq hq=>?_) (QA.mpr hp) ?_ ht
 ·obtain ⟨x,y,hne,hx,hy⟩:=Ey hq;have up:∀ z∈wAt g q,z∈wAt wss q:=λz hz=>by
   obtain ⟨ws,hws,rfl⟩:=P9.mp hz;exact Q8 (h3 ws hws)
  exact J3 hne (up x hx) (up y hy)
 ·rw [Qe];intro z;obtain ⟨x,y,hne,hx,hy⟩:=Ey z;obtain ⟨a,ha,rfl⟩:=P9.mp hx;obtain ⟨b,hb,rfl⟩:=P9.mp hy;exact hne ((h4 a ha).trans (h4 b hb).symm)
theorem GQ {wss:List (List Str)}{p:Nat}{s l:Int} (h:gb wss p s l=true):two wss p=true:=by
 unfold gb at h;have:=of_decide_eq_true (RM.mp h).1;exact decide_eq_true (by lia)
def prt (n:Nat) (s l:Int):Nat->List (List Str)->List (List (List Str))
 | 0,g=>[g]
 | N+1,g=>match plc g n s l with
  | none=>[g]
  | some p=>(byW g p).flatMap (prt n s l N)
theorem zG {n:Nat}{s l:Int}:∀ {N:Nat}{wss:List (List Str)},GOk n wss->∀ g∈prt n s l N wss,GOk n g
 | 0,wss,h,g,hg=>by rw [PZ.mp hg];exact h
 | N+1,wss,h,g,hg=>by
  unfold prt at hg
  split at hg
  ·rw [PZ.mp hg];exact h
  ·rename_i p _;obtain ⟨g',h1,h2⟩:=List.mem_flatMap.mp hg;exact zG (h.sub h1) g h2
theorem uW {K:Vz}{H:Hp}{xs:List V}{wss:List (List Str)}:aA K H xs (wss.map wsD)->fR (λx ws=>Den K H x (wsD ws)) xs wss:=by
 induction wss generalizing xs with
 | nil=>intro h;cases h;exact .nil
 | cons ws wss ih=>
  intro h;cases h with
  | cons a t=>exact .cons a (ih t)
theorem ve {K:Vz}{H:Hp}{xs:List V}{wss:List (List Str)} (h:fR (λx ws=>Den K H x (wsD ws)) xs wss):aA K H xs (wss.map wsD):=by
 induction h with
 | nil=>exact .nil
 | cons h _ ih=>exact .cons h ih
def tot {α:Type} (st:List (Key×List α)):Nat:=(st.map λp=>p.2.length).sum
theorem Df {α:Type}{st:List (Key×List α)}{k:Key}{x:α} (h:(st.map (·.1)).Nodup):((bZ st k x).map (·.1)).Nodup/\tot (bZ st k x)=tot st+1:=by
 unfold bZ
 split
 ·rename_i ha;have e:(st.map λp=>if p.1=k then (p.1,p.2++[x]) else p).map (·.1)=st.map (·.1):=by
   rw [Q5];exact QI λp _=>by show (if p.1=k then (p.1,p.2++[x]) else p).1=p.1;split <;> rfl
  refine ⟨by rw [e];exact h,?_⟩;have key:∀ l:List (Key×List α),(l.map (·.1)).Nodup->(l.any λp=>decide (p.1=k))=true->tot (l.map λp=>if p.1=k then (p.1,p.2++[x]) else p)=tot l+1:=λl=>by
   induction l with
   | nil=>intro _ h;cases h
   | cons a l ih=>
    intro hn ha;have hn':=Ri.mp hn;by_cases e:a.1=k
    ·have em:(l.map λp=>if p.1=k then (p.1,p.2++[x]) else p)=l:=by
      have:∀ p∈l,(if p.1=k then (p.1,p.2++[x]) else p)=p:=λp hp=>if_neg λz=>hn'.1 (by show a.1∈_;rw [e,<-z];exact Q8 hp);exact (QI this).trans (List.map_id' l)
     rw [Ql,if_pos e,em];simp [tot];lia
    ·have ha':(l.any λp=>decide (p.1=k))=true:=by
      rw [QM,decide_eq_false e] at ha;simpa using ha
     have:=ih hn'.2 ha';rw [Ql,if_neg e];simp only [tot,Ql,QT] at this ⊢;lia
  exact key st h ha
 ·rename_i ha;refine ⟨?_,by simp [tot]⟩;rw [Qa,Q3];refine ⟨h,by simp,λa hm b hb e=>?_⟩;apply ha;rw [Ql,Rr,PZ] at hb;obtain ⟨p,hp,rfl⟩:=P9.mp hm;rw [RG];exact ⟨p,hp,decide_eq_true (e.trans hb)⟩
theorem rL {α:Type} (l:List (Key×α)):tot (cZ l)=l.length:=by
 have go:∀ (r:List (Key×α)) (st:List (Key×List α)),(st.map (·.1)).Nodup->tot (r.foldl (λst p=>bZ st p.1 p.2) st)=tot st+r.length:=λr=>by
  induction r with
  | nil=>intro st _;rfl
  | cons q r ih=>
   intro st h;have:=Df (k:=q.1) (x:=q.2) h;rw [List.foldl_cons,ih _ this.1,this.2,Qh];lia
 have:=go l [] (by simp);simpa [cZ,tot] using this
def ip {α:Type} (gs:List (List α)):Nat:=(gs.map List.length).sum
theorem yY (wss:List (List Str)) (p:Nat):ip (byW wss p)=wss.length:=by
 have h:=rL (((wAt wss p).map (Sum.inr:Str->Key)).zip wss);have e:ip (byW wss p)=tot (cZ (((wAt wss p).map (Sum.inr:Str->Key)).zip wss)):=by
  unfold ip byW grp tot;rw [Q5];rfl
 rw [e,h,List.length_zip,PQ];unfold wAt;rw [PQ,Sf]
theorem ow {n:Nat}{s l:Int}:∀ {N:Nat}{wss:List (List Str)},wss≠[]->(prt n s l N wss).length<=wss.length
 | 0,wss,h=>by
  show 1<=_;exact Ry.mpr h
 | N+1,wss,h=>by
  unfold prt
  split
  ·show 1<=_;exact Ry.mpr h
  ·rename_i p _;have key:∀ gs:List (List (List Str)),(∀ g∈gs,g≠[])->(gs.flatMap (prt n s l N)).length<=ip gs:=λgs=>by
    induction gs with
    | nil=>intro _;exact PR _
    | cons g gs ih=>
     intro hg;rw [Rl,PX];have h1:=ow (n:=n) (s:=s) (l:=l) (N:=N) (hg g (by simp));have h2:=ih λg' hg'=>hg g' (by simp [hg']);simp only [ip,Ql,QT] at h2 ⊢;lia
   have:=key (byW wss p) λg hg=>(pV hg).1;rw [yY] at this;exact this
theorem HU {n:Nat}{s l:Int}{N:Nat}{wss:List (List Str)}{p:Nat} (i:Nat):(((byW wss p).take i).flatMap (prt n s l N)).length<=wss.length:=by
 have key:∀ gs:List (List (List Str)),(∀ g∈gs,g≠[])->(gs.flatMap (prt n s l N)).length<=ip gs:=λgs=>by
  induction gs with
  | nil=>intro _;exact PR _
  | cons g gs ih=>
   intro hg;rw [Rl,PX];have h1:=ow (n:=n) (s:=s) (l:=l) (N:=N) (hg g (by simp));have h2:=ih λg' hg'=>hg g' (by simp [hg']);simp only [ip,Ql,QT] at h2 ⊢;lia
 have mono:∀ (gs:List (List (List Str))) (i:Nat),ip (gs.take i)<=ip gs:=λgs=>by
  induction gs with
  | nil=>intro i;simp [ip]
  | cons g gs ih=>
   intro i;cases i with
   | zero=>simp [ip]
   | succ i=>
    have:=ih i;simp only [ip,List.take_succ_cons,Ql,QT] at this ⊢;lia
 have h1:=key ((byW wss p).take i) λg hg=>(pV (Q4 hg)).1;have h2:=mono (byW wss p) i;rw [yY] at h2;lia
def hU (A B:Hp):Hp:=λb=>match A b with
 | some o=>some o
 | none=>B b
section
variable {A B H:Hp}
theorem Mz:af A (hU A B):=λb o e=>by unfold hU;rw [e]
theorem N2 (a:af A H) (b:af B H):af B (hU A B):=λc o e=>by
 unfold hU;cases q:A c with
 | none=>exact e
 | some o'=>
  have h1:=a c o' q;have h2:=b c o e;rw [h1] at h2;exact h2
theorem Lf (a:af A H) (b:af B H):af (hU A B) H:=λc o e=>by
 unfold hU at e
 split at e
 ·rename_i o' q;cases e;exact a c _ q
 ·exact b c o e
theorem vZ {c:Addr} (a:A c=none) (b:B c=none):hU A B c=none:=by unfold hU;rw [a];exact b
theorem Mg {c:Addr} (h:hU A B c≠none):A c≠none\/B c≠none:=by
 unfold hU at h
 split at h
 ·rename_i o q;exact .inl (by rw [q];simp)
 ·exact .inr h
end
theorem fC {P G:Addr}{pos:Pos}{qual:Str}{H:Hp}{xs ys:List V} (h:fO P pos qual H) (hG:H G=some (.lst xs)):fO P pos qual (upd H G (.lst ys)):=by
 obtain ⟨ps,h1,h2,h3⟩:=h;have a:P≠G:=λe=>by rw [e,hG] at h1;cases h1
 refine ⟨ps,by rw [au a];exact h1,h2,h3.imp id λ⟨c,x,y⟩=>⟨c,x,?_⟩⟩;have b:c≠G:=λe=>by rw [e,hG] at y;cases y
 rw [au b];exact y
def qW (ws:List Str):List Pt:=ws.map Pt.word
def byL (rss:List (List Str)):List (List (List Str)):=grp (rss.map λws=>(Sum.inl (ws.length:Int):Key)) rss
theorem A3 {rss g:List (List Str)} (h:g∈byL rss):g≠[]/\g.length<=rss.length/\(∀ ws∈g,ws∈rss)/\∃ n:Nat,∀ ws∈g,ws.length=n:=by
 unfold byL grp at h;obtain ⟨q,hq,rfl⟩:=P9.mp h;rw [zip_map] at hq;have ok:=vD _ q hq;have key:∀ ws∈q.2,ws∈rss/\(Sum.inl (ws.length:Int):Key)=q.1:=λws hws=>by
  obtain ⟨v,hv,e⟩:=P9.mp (ok.of ws hws);injection e with e1 e2;rw [<-e2];exact ⟨hv,e1⟩
 refine ⟨ok.ne,?_,λws hws=>(key ws hws).1,?_⟩
 ·have:=ok.le
  rwa [PQ] at this
 ·obtain ⟨w0,hw0⟩:=R3 _ ok.ne;refine ⟨w0.length,λws hws=>?_⟩;have:=(key ws hws).2.trans (key w0 hw0).2.symm;have:=Sum.inl.inj this;lia
theorem FL (rss:List (List Str)):ip (byL rss)=rss.length:=by
 have h:=rL ((rss.map λws=>(Sum.inl (ws.length:Int):Key)).zip rss);have e:ip (byL rss)=tot (cZ ((rss.map λws=>(Sum.inl (ws.length:Int):Key)).zip rss)):=by
  unfold ip byL grp tot;rw [Q5];rfl
 rw [e,h,List.length_zip,PQ,Sf]
def AA (rss:List (List Str)):Prop:=rss.length<64/\∀ ws∈rss,0<ws.length/\ws.length<=12/\∀ w∈ws,PtW (.word w)
def gn (g:List (List Str)):Nat:=(g.headD []).length
theorem IS {rss g:List (List Str)} (h:AA rss) (hg:g∈byL rss):GOk (gn g) g:=by
 obtain ⟨h1,h2,h3,n,h4⟩:=A3 hg;obtain ⟨w0,r,rfl⟩:∃ w r,g=w::r:=by
  cases g with
  | nil=>exact (h1 rfl).elim
  | cons w r=>exact ⟨w,r,rfl⟩
 have e:gn (w0::r)=n:=h4 w0 (by simp);have:=h.2 w0 (h3 w0 (by simp));have e0:=h4 w0 (by simp);refine ⟨h1,RR h2 h.1,by lia,by lia,λws hws=>⟨by rw [e];exact h4 ws hws,(h.2 ws (h3 ws hws)).2.2⟩⟩
def zj (s l:Int) (g:List (List Str)):List (List Pt):=(prt (gn g) s l 13 g).map λg'=>cN (g'.map qW) (gn g)
def gth (s l:Int) (rss:List (List Str)):List (List Pt):=(byL rss).flatMap (zj s l)
theorem zA (s l:Int) (rss:List (List Str)) (i:Nat):(((byL rss).take i).flatMap (zj s l)).length<=rss.length:=by
 have key:∀ gs:List (List (List Str)),(∀ g∈gs,g≠[])->(gs.flatMap (zj s l)).length<=ip gs:=λgs=>by
  induction gs with
  | nil=>intro _;exact PR _
  | cons g gs ih=>
   intro hg;rw [Rl,PX];have h1:(zj s l g).length<=g.length:=by unfold zj;rw [PQ];exact ow (hg g (by simp))
   have h2:=ih λg' hg'=>hg g' (by simp [hg']);simp only [ip,Ql,QT] at h2 ⊢;lia
 have mono:∀ (gs:List (List (List Str))) (i:Nat),ip (gs.take i)<=ip gs:=λgs=>by
  induction gs with
  | nil=>intro i;simp [ip]
  | cons g gs ih=>
   intro i;cases i with
   | zero=>simp [ip]
   | succ i=>
    have:=ih i;simp only [ip,List.take_succ_cons,Ql,QT] at this ⊢;lia
 have h1:=key ((byL rss).take i) λg hg=>(A3 (Q4 hg)).1;have h2:=mono (byL rss) i;rw [FL] at h2;lia
theorem GX {ps:List Pt} (hne:ps≠[]) (h:∀ p∈ps,PtW p):PtW (zu ps):=by
 cases ps with
 | nil=>exact (hne rfl).elim
 | cons p r=>
  have hp:=h p (by simp);show PtW (if r.all (λq=>decide (q=p))=true then p else if r.all (λq=>decide (q.around=p.around))=true then .hole p.around else .hole 2)
  split
  ·exact hp
  ·split
   ·exact pP hp.ok
   ·exact (by decide:2<3)
theorem AJ {n:Nat}{g:List (List Str)} (h:GOk n g):PW (cN (g.map qW) n)/\cN (g.map qW) n≠[]/\(cN (g.map qW) n).length<=12:=by
 have hl:(cN (g.map qW) n).length=n:=by unfold cN;rw [PQ,QQ]
 refine ⟨λp hp=>?_,λe=>?_,by rw [hl];exact h.Ga⟩
 ·unfold cN at hp;obtain ⟨i,hi,rfl⟩:=P9.mp hp;have hin:=QA.mp hi;refine GX (λe=>h.ne (QN.mp (QN.mp e))) λq hq=>?_;obtain ⟨ps,hps,rfl⟩:=P9.mp hq;obtain ⟨ws,hws,rfl⟩:=P9.mp hps;have zK:=h.row ws hws;have hiw:i<ws.length:=by lia
  unfold qW;rw [Qf,P7,PV hiw];exact zK.2 _ (QE hiw)
 ·have:=congrArg List.length e;rw [hl] at this;have h0:=h.pos;simp at this;lia
theorem Ir {s l:Int}{g:List (List Str)} (h:GOk (gn g) g):ou (zj s l g):=λps hps=>by
 unfold zj at hps;obtain ⟨g',hg',rfl⟩:=P9.mp hps;exact AJ (zG h g' hg')
theorem JP {s l:Int}{rss:List (List Str)} (h:AA rss):ou (gth s l rss):=λps hps=>by
 obtain ⟨g,hg,hp⟩:=List.mem_flatMap.mp hps;exact Ir (IS h hg) ps hp
end LG
namespace L2
open PySem
end L2
namespace LG
open PySem L2
section
variable {s l:Int}{zs ms:List Str}{g:List (List Str)}
end
end LG
namespace L2
open PySem PySem.Spec PyProof.Rows PySem.W
section
variable {X:Cx}{pins:List (Addr×Obj)}{σ:St}{H:Hp}{s:Vx}
end
end L2
namespace LG
open PySem L2
section
variable {wss:List (List Str)}{s l:Int}{n:Nat}
end
theorem AK (us:List Str):∃ ms:List Str,ms.Perm us/\UpS ms:=by
 have o:=Sh.ok .str;have hs:∀ x:Str,Sh.str.has (.str x):=λx=>⟨x,rfl⟩;refine ⟨us.mergeSort λx y=>!ltv (.str y) (.str x),List.mergeSort_perm _ _,?_⟩;refine (List.pairwise_mergeSort (λa b c h1 h2=>?_) (λa b=>?_) us).imp λ{a b} h=>by simpa using h
 ·cases q:ltv (.str c) (.str a) with
  | false=>rfl
  | true=>
   rcases o.neg (hs c) (hs b) (hs a) q with e | e
   ·rw [e] at h2;cases h2
   ·rw [e] at h1;cases h1
 ·cases q:ltv (.str b) (.str a) with
  | false=>rfl
  | true=>rw [o.asymm (hs b) (hs a) q];rfl
noncomputable def OB (zs:List Str):List Str:=(AK (jZ [] zs)).choose
noncomputable def N3 (s l:Int) (zs:List Str):List (List Pt):=gth s l ((OB zs).map λz=>Txt.split z " ")
noncomputable def MS (s l:Int) (zs:List Str) (z:Str):Bool:=!((N3 s l zs).any λp=>cn p (Txt.split z " "))
noncomputable def OT (s l:Int) (zs:List Str) (n:Nat):List Nat:=(List.range n).filter λi=>MS s l (zs.take i) (zs.getD i Str.empty)
def oP:Option (List Pt)->PyData
 | none=>.none
 | some ps=>bj ps
def eL (r:Int×Str):PyData:=.tuple [.int r.1,.str r.2]
def Cg (bs:List (List Pt)) (z:Str) (o:Option (List Pt)):Prop:=(bs.filter (eY z)=[]/\o=none)\/∃ p,o=some p/\yW (bs.filter (eY z)) p
def Bk (bs fs:List (List Pt)) (z:Str) (o:Option (List Pt)):Prop:=(∃ p,o=some p/\yW (bs.filter (eY z)) p)\/(bs.filter (eY z)=[]/\Cg fs z o)
def wm (bs fs:List (List Pt)) (zs:List Str) (os:List (Option (List Pt))):Prop:=os.length=zs.length/\∀ (i:Nat) z o,zs[i]? = some z->os[i]? = some o->Bk bs fs z o
structure yX (s l:Int) (zs:List Str) (ps:List (List Pt)):Prop where
 ex:∃ ms:List Str,ms.Perm (jZ [] zs)/\UpS ms/\ps.Perm (gth s l (ms.map λz=>Txt.split z " "))
 ord:mD ps
 ok:ou ps
 lt:ps.length<64
def tW (bs:List (List Pt)) (zs:List Str):List Str:=zs.filter λz=>(bs.filter (eY z)).isEmpty
section
variable {K:Vz}{H H':Hp}{g C dx:Addr}{fs:List (Str×V)}
theorem FY {a:Addr}{o:HO} (h:H g=some (.ins C dx fs)) (r:Rd H a o) (n:∀ C dx fs,o ≠ .ins C dx fs):Rd (wo g H) a o:=by
 rcases r with r | ⟨ob,r⟩
 ·exact .inl (by rw [aj λe=>by rw [e,h] at r;cases r;exact n _ _ _ rfl];exact r)
 ·exact .inr ⟨ob,by rw [aj λe=>by rw [e,h] at r;cases r];exact r⟩
theorem GK {a:Addr}{xs:List V} (h:H g=some (.ins C dx fs)) (r:SqL K H a xs):SqL K (wo g H) a xs:=by
 rcases r with r | r
 ·exact .inl (FY h r λ_ _ _ e=>by cases e)
 ·exact .inr r
theorem qY {a:Addr}{xs:List V} (h:H g=some (.ins C dx fs)) (r:SqT K H a xs):SqT K (wo g H) a xs:=by
 rcases r with r | r
 ·exact .inl (FY h r λ_ _ _ e=>by cases e)
 ·exact .inr r
theorem rO {v:List V}{d:List PyData} (h:H g=some (.ins C dx fs)) (r:aA K H v d):aA K (wo g H) v d:=r.keep (λ_ _ q=>GK h q) λ_ _ q=>qY h q
theorem BH {P:Addr}{pos:Pos}{qual:Str}{C' dx':Addr}{fs':List (Str×V)} (h:fO P pos qual H) (hG:H g=some (.ins C dx fs)):fO P pos qual (upd H g (.ins C' dx' fs')):=by
 obtain ⟨ps,h1,h2,h3⟩:=h;have a:P≠g:=λe=>by rw [e,hG] at h1;cases h1
 refine ⟨ps,by rw [au a];exact h1,h2,h3.imp id λ⟨c,x,y⟩=>⟨c,x,?_⟩⟩;have b:c≠g:=λe=>by rw [e,hG] at y;cases y
 rw [au b];exact y
theorem eC {P:Addr}{pos:Pos}{qual:Str}{C' dx':Addr}{fs':List (Str×V)}{p:Hp->Prop} (la:fO P pos qual H) (hG:H g=some (.ins C dx fs)) (k:∀ H',H' g=some (.ins C' dx' fs')->(∀ c,c≠g->H' c=H c)->fO P pos qual H'->p H'):p (upd H g (.ins C' dx' fs')):=k _ ab (λc h=>au h) (BH la hG)
theorem dz {a:Addr} (o:HO) (h:H a=none):∃ H',upd H a o=H'/\af H H'/\H' a=some o:=⟨_,rfl,af.new h,ab⟩
theorem rF {a e:Addr} (B:Addr) (h:H a=none) (h':H e=none) (n:e≠a):∃ H',upd (upd H e (.own a)) a (.ins B e [])=H'/\af H H'/\H' a=some (.ins B e []):=⟨_,rfl,(af.new h').trans (af.new (by rw [au n.symm];exact h)),ab⟩
theorem gY {xs:List V}{rs:List (Int×Str)}{i:Nat}{x:V} (h:aA K H xs (rs.map eL)) (hx:xs[i]? = some x):∃ r t,rs[i]? = some r/\x = .ref t/\SqT K H t [.int r.1,.str r.2]/\PyData.strOk r.2=true:=by
 obtain ⟨d,hd,dX⟩:=h.get hx;rw [P7] at hd;cases e:rs[i]? with
 | none=>rw [e] at hd;cases hd
 | some r=>
  rw [e] at hd;cases hd;cases dX with
  | tup hq hd=>
   cases hd with
   | cons a t=>
    cases t with
    | cons b t=>
     cases t;cases a;cases b with
     | str ok=>exact ⟨r,_,rfl,rfl,hq,ok⟩
theorem BV {xs:List V}{os:List (Option (List Pt))}{i:Nat}{x:V} (h:aA K H xs (os.map oP)) (hx:xs[i]? = some x):∃ o,os[i]? = some o/\Den K H x (oP o):=by
 obtain ⟨d,hd,dX⟩:=h.get hx;rw [P7] at hd;cases e:os[i]? with
 | none=>rw [e] at hd;cases hd
 | some o=>rw [e] at hd;cases hd;exact ⟨o,rfl,dX⟩
theorem z9 {x:V}{o:Option (List Pt)} (h:Den K H x (oP o)):decide (x = .non)=o.isNone:=by
 cases o with
 | none=>cases h;rfl
 | some ps=>cases h;exact decide_eq_false (by intro e;cases e)
theorem yN {bs:List (List Pt)}{z:Str}{r:V} (h:IJ K H H' (bs.filter (eY z)) r):∃ o,Cg bs z o/\Den K (lim H H') r (oP o):=by
 rcases h with ⟨e,rfl⟩ | ⟨t,ys,ps,rfl,_,_,hl,hd⟩
 ·exact ⟨none,.inl ⟨e,rfl⟩,.non⟩
 ·exact ⟨some ps,.inr ⟨ps,rfl,hl⟩,hd⟩
end
theorem n5 {K:Vz}{Ha Hb T:Hp}{x P:Addr}{v:List V}{ds:List PyData} (d:aA K (lim Ha Hb) v ds) (hx:∃ C dx fs,lim Ha Hb x=some (.ins C dx fs)) (hP:∃ ps,lim Ha Hb P=some (.tbl ps))
  (h:∀ b o,b≠x->b≠P->(∀ zs,Ha b≠some (.lst zs))->Hb b=some o->T b=some o):aA K T v ds:=by
 obtain ⟨C,dx,fs,hx⟩:=hx;obtain ⟨ps,hP⟩:=hP;have hPx:P≠x:=λe=>by rw [e,hx] at hP;cases hP
 have d2:=jk (P:=P) (ps:=ps) (by rw [aj hPx];exact hP) (rO hx d);refine d2.same λb o e=>?_;obtain ⟨h1,e⟩:=aD e;obtain ⟨h2,e⟩:=aD e;have hn:=iA e;rw [bV hn] at e;exact h b o h2 h1 hn e
theorem Bz {K:Vz}{Ha Hb T:Hp}{x P:Addr}{v:V}{ds:PyData} (d:Den K (lim Ha Hb) v ds) (hx:∃ C dx fs,lim Ha Hb x=some (.ins C dx fs)) (hP:∃ ps,lim Ha Hb P=some (.tbl ps))
  (h:∀ b o,b≠x->b≠P->(∀ zs,Ha b≠some (.lst zs))->Hb b=some o->T b=some o):Den K T v ds:=by
 cases n5 (.cons d .nil) hx hP h with
 | cons a _=>exact a
theorem KG {H H2 H3:Hp}{F:Addr}{ys:List V} (s:af H H2) (hF:H2 F=some (.lst ys)):af (lim H2 H3) (wo F (lim H H3)):=λb o e=>by
 have hn:=iA e;rw [bV hn] at e;rw [aj λz=>hn ys (by rw [z];exact hF),bV λzs z=>hn zs (s _ _ z)];exact e
theorem wx {H H3:Hp}{F:Addr}{o:HO}:wo F (lim H (upd H3 F o))=wo F (lim H H3):=by
 funext b
 by_cases e:b=F
 ·rw [e,a7,a7]
 ·rw [aj e,aj e];unfold lim
  split
  ·rfl
  ·exact au e
theorem Cg.none {bs:List (List Pt)}{z:Str}{o:Option (List Pt)} (h:Cg bs z o):o.isNone=(bs.filter (eY z)).isEmpty:=by
 rcases h with ⟨e,rfl⟩ | ⟨p,rfl,hl⟩
 ·rw [e];rfl
 ·cases hf:bs.filter (eY z) with
  | nil=>rw [hf] at hl;cases hl.1
  | cons a r=>rfl
def core (H:Hp):Hp:=λc=>match H c with | some (.ins _ _ _)=>none | some (.tbl _)=>none | o=>o
theorem Fx {H:Hp}{c:Addr}{o:HO} (h:core H c=some o):H c=some o/\(∀ C dx fs,o ≠ .ins C dx fs)/\∀ ps,o ≠ .tbl ps:=by
 unfold core at h
 split at h
 ·cases h
 ·cases h
 ·rename_i h1 h2;refine ⟨h,λC dx fs e=>?_,λps e=>?_⟩
  ·subst e;exact h1 _ _ _ h
  ·subst e;exact h2 _ h
theorem BO {H:Hp}{c:Addr}{o:HO} (h:H c=some o) (h1:∀ C dx fs,o ≠ .ins C dx fs) (h2:∀ ps,o ≠ .tbl ps):core H c=some o:=by
 unfold core
 split
 ·rename_i e;rw [h] at e;cases e;exact (h1 _ _ _ rfl).elim
 ·rename_i e;rw [h] at e;cases e;exact (h2 _ rfl).elim
 ·exact h
theorem BD {H:Hp}{a:Addr}{o:HO} (r:Rd H a o) (h1:∀ C dx fs,o ≠ .ins C dx fs) (h2:∀ ps,o ≠ .tbl ps):Rd (core H) a o:=by
 rcases r with r | ⟨ob,r⟩
 ·exact .inl (BO r h1 h2)
 ·exact .inr ⟨ob,BO r (λ_ _ _ e=>by cases e) λ_ e=>by cases e⟩
theorem CJ {K:Vz}{H:Hp}{v:List V}{d:List PyData} (r:aA K H v d):aA K (core H) v d:=by
 refine r.keep (λa xs q=>?_) λa xs q=>?_
 ·rcases q with q | q
  ·exact .inl (BD q (λ_ _ _ e=>by cases e) λ_ e=>by cases e)
  ·exact .inr q
 ·rcases q with q | q
  ·exact .inl (BD q (λ_ _ _ e=>by cases e) λ_ e=>by cases e)
  ·exact .inr q
structure StV where
 rs:List (Int×Str)
 bs:List (List Pt)
 fs:List (List Pt)
 os:List (Option (List Pt))
def StV.zs (v:StV):List Str:=v.rs.map (·.2)
structure StV.Ok (v:StV) (s l:Int):Prop where
 gth:yX s l (tW v.bs v.zs) v.fs
 fls:wm v.bs v.fs v.zs v.os
 lns:∀ q∈v.rs,∃ ws,fX 12 q.2 ws
 hnd:ou v.bs
 rl:v.rs.length<64
 bl:v.bs.length<64
structure eE where
 s:Int
 l:Int
 cur:StV
 ah:StV
 past:List (List (Int×Str)×List (List Pt))
 tbk:List (List (Int×Str)×List (List Pt))
def AI (K:Vz) (C:Addr) (B:Hp) (st:Addr) (v:StV):Prop:=∃ (dx r b f fl:Addr) (rv bv fv lv:List V),B st=some (.ins C dx [("rows",.ref r),("by_hand",.ref b),("found",.ref f),("falls",.ref fl)]) /\
 B r=some (.lst rv)/\aA K B rv (v.rs.map eL)/\B b=some (.lst bv)/\aA K B bv (v.bs.map bj)/\B f=some (.lst fv)/\aA K B fv (v.fs.map bj)/\B fl=some (.lst lv)/\aA K B lv (v.os.map oP)
theorem AI.same {K:Vz}{C:Addr}{B B':Hp}{st:Addr}{v:StV} (h:AI K C B st v) (s:af B B'):AI K C B' st v:=by
 obtain ⟨dx,r,b,f,fl,rv,bv,fv,lv,h1,h2,h3,h4,h5,h6,h7,h8,h9⟩:=h;exact ⟨dx,r,b,f,fl,rv,bv,fv,lv,s _ _ h1,s _ _ h2,h3.same s,s _ _ h4,h5.same s,s _ _ h6,h7.same s,s _ _ h8,h9.same s⟩
def HeldAt (K:Vz) (B:Hp) (x:V) (h:List (Int×Str)×List (List Pt)):Prop:=∃ (t r b:Addr) (rv bv:List V),x = .ref t/\SqT K B t [.ref r,.ref b]/\B r=some (.lst rv)/\aA K B rv (h.1.map eL)/\B b=some (.lst bv)/\aA K B bv (h.2.map bj)
theorem HeldAt.same {K:Vz}{B B':Hp}{x:V}{h:List (Int×Str)×List (List Pt)} (a:HeldAt K B x h) (s:af B B'):HeldAt K B' x h:=by
 obtain ⟨t,r,b,rv,bv,e,h1,h2,h3,h4,h5⟩:=a;exact ⟨t,r,b,rv,bv,e,s.b8 h1,s _ _ h2,h3.same s,s _ _ h4,h5.same s⟩
def cK (K:Vz) (B:Hp) (xs:List V) (l:List (List (Int×Str)×List (List Pt))):Prop:=xs.length=l.length/\∀ (i:Nat) x h,xs[i]? = some x->l[i]? = some h->HeldAt K B x h
section
variable {K:Vz}{B B':Hp}{xs:List V}{x:V}{l:List (List (Int×Str)×List (List Pt))}{h:List (Int×Str)×List (List Pt)}
theorem cK.same (a:cK K B xs l) (s:af B B'):cK K B' xs l:=⟨a.1,λi x h h1 h2=>(a.2 i x h h1 h2).same s⟩
theorem cK.nil:cK K B [] []:=⟨rfl,λi x h e=>by cases e⟩
theorem cK.snoc (a:cK K B xs l) (b:HeldAt K B x h):cK K B (xs++[x]) (l++[h]):=by
 refine ⟨by rw [PX,PX,a.1];rfl,λi y k h1 h2=>?_⟩;by_cases hi:i<xs.length
 ·rw [Qv hi] at h1;rw [Qv (a.1 ▸ hi)] at h2;exact a.2 i y k h1 h2
 ·have e:i=xs.length:=by
   have:=aW h1;rw [PX,P8] at this;lia
  rw [e,QB (PR _),Nat.sub_self] at h1;rw [e,a.1,QB (PR _),Nat.sub_self] at h2;cases h1;cases h2;exact b
theorem cK.pop (a:cK K B xs (l++[h])):∃ ys y,xs=ys++[y]/\cK K B ys l/\HeldAt K B y h:=by
 have e:=a.1;rw [PX,P8] at e;have hne:xs≠[]:=λz=>by rw [z] at e;simp at e
 have hx:=(QL hne).symm;generalize xs.dropLast=ys at hx;generalize xs.getLast hne=y at hx;subst hx;rw [PX,P8] at e;have e':ys.length=l.length:=by lia
 refine ⟨ys,y,rfl,⟨e',λi x k h1 h2=>?_⟩,?_⟩
 ·exact a.2 i x k (by rw [Qv (aW h1)];exact h1) (by rw [Qv (aW h2)];exact h2)
 ·exact a.2 ys.length y h (by simp) (by rw [e'];simp)
end
def bG (K:Vz) (CL CS:Addr) (B H:Hp) (g pa tb:Addr) (v:eE):Prop:=∃ (dx t st ah:Addr) (pv tv:List V),H g=some (.ins CL dx [("sieve",.ref t),("state",.ref st),("ahead",.ref ah),("past",.ref pa),("taken_back",.ref tb)]) /\
 H pa=some (.lst pv)/\H tb=some (.lst tv)/\af B H/\B g=none/\B pa=none/\B tb=none/\pa≠tb/\SqT K B t [.int v.s,.int v.l]/\AI K CS B st v.cur/\AI K CS B ah v.ah/\cK K B pv v.past/\cK K B tv v.tbk/\v.cur.Ok v.s v.l/\v.ah.Ok v.s v.l
section
variable {K:Vz}{CL CS:Addr}{B B' H H':Hp}{g pa tb d:Addr}{v:eE}
theorem bG.grow (h:bG K CL CS B H g pa tb v) (s:af B B') (s':af B' H') (hg:B' g=none) (hp:B' pa=none) (ht:B' tb=none) (eg:H' g=H g) (ep:H' pa=H pa) (et:H' tb=H tb):bG K CL CS B' H' g pa tb v:=by
 obtain ⟨dx,t,st,ah,pv,tv,h1,h2,h3,h4,h5,h6,h7,h8,h9,h10,h11,h12,h13,h14⟩:=h;exact ⟨dx,t,st,ah,pv,tv,eg.trans h1,ep.trans h2,et.trans h3,s',hg,hp,ht,h8,s.b8 h9,h10.same s,h11.same s,h12.same s,h13.same s,h14⟩
theorem bG.to (h:bG K CL CS B H g pa tb v) (s':af B H') (eg:H' g=H g) (ep:H' pa=H pa) (et:H' tb=H tb):bG K CL CS B H' g pa tb v:=by
 have h':=h;obtain ⟨dx,t,st,ah,pv,tv,h1,h2,h3,h4,h5,h6,h7,_⟩:=h';exact h.grow (af.refl B) s' h5 h6 h7 eg ep et
theorem bG.same (h:bG K CL CS B H g pa tb v) (s:af H H'):bG K CL CS B H' g pa tb v:=by
 have h':=h;obtain ⟨dx,t,st,ah,pv,tv,h1,h2,h3,h4,_⟩:=h';exact h.to (h4.trans s) ((s _ _ h1).trans h1.symm) ((s _ _ h2).trans h2.symm) ((s _ _ h3).trans h3.symm)
theorem bG.wo (h:bG K CL CS B H g pa tb v) (hB:B d=none) (n1:d≠g) (n2:d≠pa) (n3:d≠tb) (s:af (wo d H) H'):bG K CL CS B H' g pa tb v:=by
 have h':=h;obtain ⟨dx,t,st,ah,pv,tv,h1,h2,h3,h4,_⟩:=h';exact h.to ((bN hB h4).trans s) ((s _ _ (by rw [aj n1.symm];exact h1)).trans h1.symm) ((s _ _ (by rw [aj n2.symm];exact h2)).trans h2.symm) ((s _ _ (by rw [aj n3.symm];exact h3)).trans h3.symm)
end
def nxt (B H H':Hp) (g pa tb:Addr):Hp:=λc=>if c=g\/c=pa\/c=tb then none else match H c with | some (.lst _)=>B c | some (.ins _ _ _)=>B c | some (.tbl _)=>B c | _=>H' c
section
variable {B H H':Hp}{g pa tb c:Addr}{o:HO}
theorem Ib (n1:c≠g) (n2:c≠pa) (n3:c≠tb) (h:(∃ ys,H c=some (.lst ys))\/(∃ C dx fs,H c=some (.ins C dx fs))\/∃ ps,H c=some (.tbl ps)):nxt B H H' g pa tb c=B c:=by
 unfold nxt;rw [if_neg (λe=>e.elim n1 λe=>e.elim n2 n3)];rcases h with ⟨_,e⟩ | ⟨_,_,_,e⟩ | ⟨_,e⟩ <;> rw [e]
theorem fc (n1:c≠g) (n2:c≠pa) (n3:c≠tb) (h1:∀ ys,H c≠some (.lst ys)) (h2:∀ C dx fs,H c≠some (.ins C dx fs)) (h3:∀ ps,H c≠some (.tbl ps)):nxt B H H' g pa tb c=H' c:=by
 unfold nxt;rw [if_neg (λe=>e.elim n1 λe=>e.elim n2 n3)]
 split
 ·rename_i e;exact (h1 _ e).elim
 ·rename_i e;exact (h2 _ _ _ e).elim
 ·rename_i e;exact (h3 _ e).elim
 ·rfl
theorem oN:nxt B H H' g pa tb g=none/\nxt B H H' g pa tb pa=none/\nxt B H H' g pa tb tb=none:=by
 unfold nxt;exact ⟨if_pos (.inl rfl),if_pos (.inr (.inl rfl)),if_pos (.inr (.inr rfl))⟩
theorem rV (sB:af B H) (hg:B g=none) (hp:B pa=none) (ht:B tb=none) (s:∀ c o,B c=some o->H' c=some o):af B (nxt B H H' g pa tb):=λc o e=>by
 have n1:c≠g:=λz=>by rw [z,hg] at e;cases e
 have n2:c≠pa:=λz=>by rw [z,hp] at e;cases e
 have n3:c≠tb:=λz=>by rw [z,ht] at e;cases e
 unfold nxt;rw [if_neg (λz=>z.elim n1 λz=>z.elim n2 n3)]
 split
 ·exact e
 ·exact e
 ·exact e
 ·exact s c o e
theorem xB (s:∀ c o,B c=some o->H' c=some o):af (nxt B H H' g pa tb) H':=λc o e=>by
 unfold nxt at e
 split at e
 ·cases e
 ·split at e
  ·exact s c o e
  ·exact s c o e
  ·exact s c o e
  ·exact e
end
def nC (o:HO):Prop:=(∃ ys,o = .lst ys)\/(∃ C dx fs,o = .ins C dx fs)\/∃ ps,o = .tbl ps
theorem oM {B H H':Hp}{g pa tb c:Addr}{o:HO} (hB:B c=none) (h:H c=some o) (m:nC o):nxt B H H' g pa tb c=none:=by
 have hO:=oN (B:=B) (H:=H) (H':=H') (g:=g) (pa:=pa) (tb:=tb);by_cases n1:c=g
 ·rw [n1];exact hO.1
 by_cases n2:c=pa
 ·rw [n2];exact hO.2.1
 by_cases n3:c=tb
 ·rw [n3];exact hO.2.2
 rw [Ib n1 n2 n3 ?_]
 ·exact hB
 ·rcases m with ⟨_,e⟩ | ⟨_,_,_,e⟩ | ⟨_,e⟩
  ·exact .inl ⟨_,by rw [h,e]⟩
  ·exact .inr (.inl ⟨_,_,_,by rw [h,e]⟩)
  ·exact .inr (.inr ⟨_,by rw [h,e]⟩)
theorem ph {K:Vz}{Ha Hb T:Hp}{v:List V}{ds:List PyData} (d:aA K (lim Ha Hb) v ds) (h:∀ c o,(∀ ys,Ha c≠some (.lst ys))->Hb c=some o -> ¬ nC o\/(∃ ys,o = .lst ys)->(∀ C dx fs,o ≠ .ins C dx fs)->(∀ ps,o ≠ .tbl ps)->T c=some o):aA K T v ds:=by
 refine (CJ d).same λc o e=>?_;obtain ⟨e,h1,h2⟩:=Fx e;have hn:=iA e;rw [bV hn] at e;refine h c o hn e ?_ h1 h2;by_cases q:∃ ys,o = .lst ys
 ·exact .inr q
 ·exact .inl λm=>m.elim q λm=>m.elim (λ⟨_,_,_,z⟩=>h1 _ _ _ z) λ⟨_,z⟩=>h2 _ z
theorem Ce {xs:List V}{x:V}:atI (xs++[x]) (-1)=some x:=by
 unfold atI ixN;rw [if_neg (by lia),if_pos (by rw [PX];simp;lia)];show (xs++[x])[(-1+((xs++[x]).length:Int)).toNat]? = some x;rw [PX,show (-1+((xs.length + [x].length:Nat):Int)).toNat=xs.length by simp;lia];simp
theorem uP (a b c d:Int):PyData.eqv (.tuple [.int a,.int b]) (.tuple [.int c,.int d])=decide (a=c/\b=d):=by
 have h:∀ x y:Int,(Sh.cu .int (.cu .int .oB)).has (.tuple [.int x,.int y]):=λx y=>⟨_,_,rfl,⟨_,rfl⟩,_,_,rfl,⟨_,rfl⟩,rfl⟩;have e:=(Sh.ok (.cu .int (.cu .int .oB))).eqv _ _ (h a b) (h c d);by_cases q:a=c/\b=d
 ·rw [decide_eq_true q];exact e.mpr (by rw [q.1,q.2])
 ·rw [decide_eq_false q];refine Qe.mpr λz=>q ?_;have:=e.mp z;cases this;exact ⟨rfl,rfl⟩
theorem bG.gg {K:Vz}{CL CS:Addr}{B H:Hp}{g pa tb:Addr}{v:eE} (h:bG K CL CS B H g pa tb v):∃ dx t st ah,H g=some (.ins CL dx [("sieve",.ref t),("state",.ref st),("ahead",.ref ah),("past",.ref pa),("taken_back",.ref tb)]):=by
 obtain ⟨dx,t,st,ah,pw,tv,hg,_⟩:=h;exact ⟨dx,t,st,ah,hg⟩
theorem bG.okc {K:Vz}{CL CS:Addr}{B H:Hp}{g pa tb:Addr}{v:eE} (h:bG K CL CS B H g pa tb v):v.cur.Ok v.s v.l:=by
 obtain ⟨_,_,_,_,_,_,_,_,_,_,_,_,_,_,_,_,_,_,_,okc,_⟩:=h;exact okc
theorem bG.neT {K:Vz}{CL CS:Addr}{B H:Hp}{g pa tb P:Addr}{v:eE}{q:Array Vy} (h:bG K CL CS B H g pa tb v) (hq:H P=some (.tbl q)):P≠g/\P≠pa/\P≠tb:=by
 obtain ⟨dx,t,st,ah,pw,tv,hg,hpa,htb,_⟩:=h;exact ⟨(λe=>by rw [e,hg] at hq;cases hq),(λe=>by rw [e,hpa] at hq;cases hq),λe=>by rw [e,htb] at hq;cases hq⟩
def mQ (K:Vz):Sp:=λvs H Q _=>∃ (c:Int) (m:Nat),vs=[.int c,.int m]/\m<10000/\∀ d H',H d=none->af H H'->Dk H' d m->Q (.ref d) H'
end LG
namespace K35
open PySem L2 LG
set_option genSizeOf false in
set_option genInjectivity false in
structure Ad where
 Ht:Addr
 HX:FuncData
 jR:Addr
 jT:FuncData
 i5:Addr
 ji:FuncData
 l9:Addr
 mn:FuncData
 gE:Addr
 g9:FuncData
 pZ:Addr
 pU:FuncData
 ny:Addr
 m5:FuncData
 pW:Addr
 pM:FuncData
 jB:Addr
 jx:FuncData
 gA:Addr
 gB:FuncData
 j7:Addr
 jS:FuncData
 kI:Addr
 lu:FuncData
 Aa:Addr
 zP:FuncData
 dc:Addr
 dg:FuncData
 iT:Addr
 iR:FuncData
 sY:Addr
 rG:FuncData
 m7:Addr
 mV:FuncData
 iZ:Addr
 iS:FuncData
 ja:Addr
 jc:FuncData
 mx:Addr
 l8:FuncData
 gF:Addr
 gX:FuncData
 ff:Addr
 fq:FuncData
 dU:Addr
 d4:FuncData
 eG:Addr
 cO:FuncData
 i8:Addr
 jb:FuncData
 eH:Addr
 eF:FuncData
 nk:Addr
 mU:FuncData
 dY:Addr
 dW:FuncData
 k9:Addr
 lR:FuncData
 iY:Addr
 iU:FuncData
 yS:Addr
 xO:FuncData
 pO:Addr
 p7:FuncData
 kD:Addr
 kj:FuncData
 cg:Addr
 cf:FuncData
 kU:Addr
 lI:FuncData
 iD:Addr
 iF:FuncData
 iL:Addr
 iI:FuncData
 jP:Addr
 jX:FuncData
 gZ:Addr
 g8:FuncData
 j6:Addr
 jC:FuncData
 lm:Addr
 ku:FuncData
 k5:Addr
 lE:FuncData
 IZ:Addr
 Jj:FuncData
 e9:Addr
 gz:FuncData
 gL:Addr
 ib:FuncData
 l7:Addr
 qa:FuncData
 lB:Addr
 o4:FuncData
 fA:Addr
 gP:FuncData
 fe:Addr
 ki:FuncData
 cT:Addr
 ee:FuncData
 eh:Addr
 fB:FuncData
 ik:Addr
 jH:FuncData
 mj:Addr
 pF:FuncData
 ia:Addr
 jM:FuncData
 iz:Addr
 lU:FuncData
 kB:Addr
 rC:FuncData
 qf:Addr
 zd:FuncData
 oz:Addr
 w9:FuncData
 qu:Addr
 yD:FuncData
 iH:Addr
 lz:FuncData
 b6:Addr
 cU:Addr
 aR:Addr
 aH:Addr
 ie:Addr
 LC:Addr
 aq:Addr
structure Tx (K:Vz) (mg:Str->Option Vy) (A:Ad):Prop where
 HF:mg "ValueError" = none
 yu:mg "all" = none
 K3:mg "any" = none
 IF:mg "enumerate" = none
 dO:mg "isinstance" = none
 cq:mg "len" = none
 pC:mg "list" = none
 Jg:mg "min" = none
 gm:mg "range" = none
 Ej:mg "set" = none
 su:mg "sorted" = none
 IU:mg "str" = none
 BC:mg "tuple" = none
 Bo:mg "zip" = none
 wX:∃ t,mg "MOST_WORDS" = some (.int 12 t)
 Dd:∃ t,mg "FIGURES" = some (.str CT t)
 qO:∃ t,mg "SMALL_LETTERS" = some (.str CY t)
 xn:∃ t,mg "WORD_SIGNS" = some (.str uJ t)
 v7:∃ t,mg "MOST_PARTS" = some (.int 12 t)
 j4:mg "HOLE_KINDS" = some (.ref A.b6)
 jK:∀ H,SqT K H A.b6 [.str "number",.str "name",.str "any"]
 wz:∃ o,K.lookup A.b6=some o/\o.cls = .type "tuple" /\ o.dict=none
 Gu:mg "PLAIN_SIEVE" = some (.ref A.cU)
 uw:∀ H,SqT K H A.cU [.int 3,.int 2]
 Gs:∃ o,K.lookup A.cU=some o/\o.cls = .type "tuple" /\ o.dict=none
 xy:∃ t,mg "MOST_LINES" = some (.int 120 t)
 tQ:∃ t,mg "MOST_BY_HAND" = some (.int 12 t)
 OX:bx K mg "_wall" (top 0) ["k"] A.Ht A.HX
 d8:bx K mg "has_only" (top 14) ["text","signs"] A.jR A.jT
 fH:bx K mg "is_word" (top 15) ["thing"] A.i5 A.ji
 jw:bx K mg "kind_of" (top 16) ["word"] A.l9 A.mn
 words_of:bx K mg "words_of" (top 17) ["line"] A.gE A.g9
 rd:bx K mg "is_line" (top 18) ["thing"] A.pZ A.pU
 oo:bx K mg "word_key" (top 19) ["word"] A.ny A.m5
 rc:bx K mg "is_part" (top 23) ["thing"] A.pW A.pM
 jv:bx K mg "is_pattern" (top 24) ["thing"] A.jB A.jx
 dG:bx K mg "is_hole" (top 25) ["part"] A.gA A.gB
 jY:bx K mg "part_takes" (top 26) ["part","word"] A.j7 A.jS
 lX:bx K mg "all_taken" (top 27) ["parts","words"] A.kI A.lu
 fits:bx K mg "fits" (top 28) ["pattern","line"] A.Aa A.zP
 cC:bx K mg "kind_of_hole_around" (top 29) ["part"] A.dc A.dg
 ix:bx K mg "joined_part" (top 30) ["parts"] A.iT A.iR
 joined:bx K mg "joined" (top 31) ["patterns"] A.sY A.rG
 oW:bx K mg "part_key" (top 32) ["part"] A.m7 A.mV
 lh:bx K mg "pattern_key" (top 33) ["pattern"] A.iZ A.iS
 ordered:bx K mg "ordered" (top 34) ["patterns"] A.ja A.jc
 jJ:bx K mg "grouped" (top 37) ["rows","keys"] A.mx A.l8
 eu:bx K mg "words_at" (top 38) ["group","place"] A.gF A.gX
 eZ:bx K mg "many_unlike_at" (top 39) ["group","place"] A.ff A.fq
 du:bx K mg "is_fit_to_part_at" (top 40) ["group","place","sieve"] A.dU A.d4
 dP:bx K mg "place_to_part_at" (top 41) ["group","sieve"] A.eG A.cO
 parted:bx K mg "parted" (top 42) ["group","sieve"] A.i8 A.jb
 dQ:bx K mg "pattern_of_group" (top 43) ["group"] A.eH A.eF
 gathered:Gf K mg "gathered" (top 44) ["lines","sieve"] A.nk A.mU
 dq:bx K mg "looseness_of_part" (top 46) ["part"] A.dY A.dW
 p8:bx K mg "looseness" (top 47) ["pattern"] A.k9 A.lR
 dA:bx K mg "falls_under" (top 48) ["line","patterns"] A.iY A.iU
 KR:bx K mg "how_often" (top 52) ["things"] A.yS A.xO
 Fu:bx K mg "words_in_order" (top 53) ["words"] A.pO A.p7
 fj:bx K mg "_law_deck" (top 59) ["cell","turn"] A.kD A.kj
 ap:bx K mg "_law_pick" (top 60) ["deck","many"] A.cg A.cf
 mq:bx K mg "_law_kind" (top 61) ["word"] A.kU A.lI
 fh:bx K mg "_law_word" (top 62) ["deck"] A.iD A.iF
 fm:bx K mg "_law_line" (top 63) ["deck","most"] A.iL A.iI
 jQ:bx K mg "_law_lines" (top 64) ["deck","most"] A.jP A.jX
 gp:bx K mg "_law_pattern" (top 65) ["deck","line"] A.gZ A.g8
 ju:bx K mg "_law_sieve" (top 66) ["deck"] A.j6 A.jC
 cW:bx K mg "_law_made" (top 67) ["deck","sieve","lines","hand"] A.lm A.ku
 l4:bx K mg "_law_near" (top 68) ["deck","sieve","lines","hand"] A.k5 A.lE
 m6:fT K "__init__" "State.__init__" (mIn 54 0) ["self","sieve","rows","by_hand"] A.e9 A.gz
 yv:Fg K "__init__" "Log.__init__" (mIn 55 0) ["self","sieve"] A.gL A.ib
 wN:fT K "__len__" "Log.__len__" (mIn 55 1) ["self"] A.l7 A.qa
 d5:fT K "__eq__" "Log.__eq__" (mIn 55 2) ["self","other"] A.lB A.o4
 nZ:fT K "held" "Log.held" (mIn 55 3) ["self"] A.fA A.gP
 zB:fT K "rows_with_falls" "Log.rows_with_falls" (mIn 55 4) ["self"] A.fe A.ki
 iG:fT K "turn_to" "Log.turn_to" (mIn 55 5) ["self","held"] A.cT A.ee
 kN:fT K "do_deed" "Log.do_deed" (mIn 55 6) ["self","rows","by_hand"] A.eh A.fB
 nL:fT K "come" "Log.come" (mIn 55 7) ["self","moment","line"] A.ik A.jH
 xu:fT K "put" "Log.put" (mIn 55 8) ["self","pattern"] A.mj A.pF
 rH:fT K "back" "Log.back" (mIn 55 10) ["self"] A.ia A.jM
 vQ:fT K "again" "Log.again" (mIn 55 11) ["self"] A.iz A.lU
 HV:fT K "patterns" "Log.patterns" (mIn 55 13) ["self"] A.kB A.rC
 KS:fT K "under" "Log.under" (mIn 55 14) ["self","number"] A.qf A.zd
 Jr:fT K "counts" "Log.counts" (mIn 55 16) ["self","low","high"] A.oz A.w9
 KQ:fT K "holes" "Log.holes" (mIn 55 17) ["self","pattern"] A.qu A.yD
 vq:fT K "__init__" "Desk.__init__" (mIn 57 0) ["self"] A.iH A.lz
 BZ:mg "State" = some (.ref A.aR)
 bB:Cls K A.aR
 Lb:Fp K A.aR
 xJ:Mk K A.aR A.e9
 bM:bQ K A.aR "rows"
 bC:bQ K A.aR "by_hand"
 k6:bQ K A.aR "found"
 tm:bQ K A.aR "falls"
 Bv:mg "Log" = some (.ref A.aH)
 aM:Cls K A.aH
 t9:Fp K A.aH
 kX:NeT K A.aH
 Ay:PySem.W.kitOne K (.type "str") (.ref A.aH)=some false
 AB:PySem.W.notFirst K A.aH (.type "str")=true
 zS:PySem.W.kitOne K (.type "int") (.ref A.aH)=some false
 AE:PySem.W.notFirst K A.aH (.type "int")=true
 xP:PySem.W.kitOne K (.type "list") (.ref A.aH)=some false
 x9:PySem.W.notFirst K A.aH (.type "list")=true
 wB:PySem.W.kitOne K (.type "tuple") (.ref A.aH)=some false
 wa:PySem.W.notFirst K A.aH (.type "tuple")=true
 zm:PySem.W.kitOne K (.ref A.ie) (.ref A.aH)=some false
 yB:PySem.W.notFirst K A.aH (.ref A.ie)=true
 ED:Mk K A.aH A.gL
 rY:i3 K A.aH "__len__" A.l7
 bL:i3 K A.aH "__eq__" A.lB
 kY:i3 K A.aH "held" A.fA
 wu:i3 K A.aH "rows_with_falls" A.fe
 g7:i3 K A.aH "turn_to" A.cT
 kO:i3 K A.aH "do_deed" A.eh
 kK:i3 K A.aH "come" A.ik
 tu:i3 K A.aH "put" A.mj
 qG:i3 K A.aH "back" A.ia
 wk:i3 K A.aH "again" A.iz
 DE:i3 K A.aH "patterns" A.kB
 Hh:i3 K A.aH "under" A.qf
 Gv:i3 K A.aH "counts" A.oz
 Hk:i3 K A.aH "holes" A.qu
 cM:bQ K A.aH "sieve"
 aQ:bQ K A.aH "state"
 oR:bQ K A.aH "ahead"
 fP:bQ K A.aH "past"
 cy:bQ K A.aH "taken_back"
 J7:mg "Desk" = some (.ref A.ie)
 wc:Cls K A.ie
 B8:Fp K A.ie
 Ii:Mk K A.ie A.iH
 yo:bQ K A.ie "log"
 zV:Binds K A.ib ["self","sieve"] [.ref A.cU]
 lam:Kp K mg A.cO A.LC A.aq
section
variable {P:Program}{w:World}{K:Vz}{mg:Str->Option Vy}{base:Heap}{A:Ad}
theorem ym:aE ["text","signs"] ["text","signs"] (ak (top 14)):=⟨rfl,rfl,rfl,by decide +kernel,rfl,by decide +kernel,by decide +kernel⟩
theorem qx (T:Tx K mg A):ax P w K mg base CX0 1 A.jR A.jT ["text","signs"] (kG K):=by
 refine T.d8.fn.ok ym (λvs H Q E h=>?_) (λcdv Ar outer s H vs Q E hr h=>?_)
 ·obtain ⟨z,y,rfl,_⟩:=h;rfl
 ·obtain ⟨z,y,rfl,hz,k⟩:=h;refine ⟨_,ao (aC (fg (bJ (qC) (pv 0) (aL) (aG _)) (iP (bJ (eO) (cQ PySem.F.plainAttrs_str PySem.F.slot_str_strip PySem.F.type_str_strip Dc (pv 0) (aa (pv 1) (ae))) (aL) (aG _))))),?_⟩;refine ⟨_,rfl,rfl,_,rfl,?_⟩;have e:=GG z y;by_cases hn:z.cps.toList.isEmpty=true
  ·have e1:(!decide (V.str z=V.str ""))=false:=by rw [oH,hn];rfl
   rw [e1,RW] at e;rw [e1,if_neg P6,e];exact k
  ·have e1:(!decide (V.str z=V.str ""))=true:=by rw [oH,Qe.mpr hn];rfl
   rw [e1,RB] at e;rw [e1,if_pos rfl];refine ⟨_,rfl,rfl,_,rfl,z,y,rfl,rfl,hz.s,rfl,?_⟩;rw [e];exact k
theorem Bb:aE ["thing"] ["thing"] (ak (top 15)):=⟨rfl,rfl,rfl,by decide +kernel,rfl,by decide +kernel,by decide +kernel⟩
theorem mX (T:Tx K mg A):ax P w K mg base CX0 2 A.i5 A.ji ["thing"] (jI K):=by
 have jz:ax P w K mg base CX0 1 A.jR A.jT ["text","signs"] (kG K):=(qx T).mono (by decide);refine T.fH.fn.ok Bb (λvs H Q E h=>?_) (λcdv Ar outer s H vs Q E hr h=>?_)
 ·obtain ⟨z,rfl,_⟩:=h;rfl
 ·obtain ⟨z,rfl,hz,k⟩:=h;refine ⟨_,ao (aC (fg (aK (r:=Kn K) xM (by rfl) T.dO cV (aa (pv 0) (aa (rh (v:=.ty "str") (by rfl) T.IU EU rfl) (ae)))) (iP (av jz hr (by rfl) T.d8.mg T.d8.fn.kp T.d8.bd .nil ay (aa (pv 0) (aa (fE (v:=.str uJ) (by rfl) (Exists.choose_spec T.xn) ⟨_,rfl⟩) (ae))))))),?_⟩;refine ⟨_,rfl,_,"str",_,true,rfl,.str z,by rfl,_,rfl,ck ?_⟩;refine ⟨_,rfl,z,uJ,rfl,hz,?_⟩;rw [Ck];exact k
theorem zC:aE ["word"] ["word"] (ak (top 16)):=⟨rfl,rfl,rfl,by decide +kernel,rfl,by decide +kernel,by decide +kernel⟩
theorem tz (T:Tx K mg A):ax P w K mg base CX0 2 A.l9 A.mn ["word"] (nG K):=by
 have jz:ax P w K mg base CX0 1 A.jR A.jT ["text","signs"] (kG K):=(qx T).mono (by decide);refine T.jw.fn.ok zC (λvs H Q E h=>?_) (λcdv Ar outer s H vs Q E hr h=>?_)
 ·obtain ⟨z,rfl,_⟩:=h;rfl
 ·obtain ⟨z,rfl,hz,k⟩:=h;refine ⟨_,ag (a8 (cJ (av jz hr (by rfl) T.d8.mg T.d8.fn.kp T.d8.bd .nil ay (aa (cQ PySem.F.plainAttrs_str PySem.F.slot_str_removeprefix PySem.F.type_str_removeprefix ET (pv 0) (aa (aL) (ae))) (aa (fE (v:=.str CT) (by rfl) (Exists.choose_spec T.Dd) ⟨_,rfl⟩) (ae))))) (ao (aC (aL))) (aO))
   (ag (a8 (cJ (av jz hr (by rfl) T.d8.mg T.d8.fn.kp T.d8.bd .nil ay (aa (pv 0) (aa (fE (v:=.str CY) (by rfl) (Exists.choose_spec T.qO) ⟨_,rfl⟩) (ae))))) (ao (aC (aL))) (aO))
   (ao (aC (aL)))),?_⟩
  refine ⟨_,rfl,rfl,z,"-",rfl,rfl,hz.s,_,CT,rfl,P2 (CV z) hz,_,rfl,?_⟩;rw [En,zl];have e:eQ z=if dh dig (bE z.cps.toList)=true then 0 else if dh low z.cps.toList=true then 1 else 2:=rfl;rw [e] at k;by_cases h1:dh dig (bE z.cps.toList)=true
  ·rw [h1,if_pos rfl] at k;rw [h1];exact ck k
  ·rw [if_neg h1] at k;rw [Qe.mpr h1];refine bf ?_;refine ⟨_,rfl,z,CY,rfl,hz,_,rfl,?_⟩;rw [Fi];by_cases h2:dh low z.cps.toList=true
   ·rw [if_pos h2] at k;rw [h2];exact ck k
   ·rw [if_neg h2] at k;rw [Qe.mpr h2];exact bf k
theorem xS:aE ["line"] ["line"] (ak (top 17)):=⟨rfl,rfl,rfl,by decide +kernel,rfl,by decide +kernel,by decide +kernel⟩
theorem kF (T:Tx K mg A):ax P w K mg base CX0 1 A.gE A.g9 ["line"] (iE K):=by
 refine T.words_of.fn.ok xS (λvs H Q E h=>?_) (λcdv Ar outer s H vs Q E hr h=>?_)
 ·obtain ⟨z,rfl,_⟩:=h;rfl
 ·obtain ⟨z,rfl,hz,k⟩:=h;refine ⟨_,ao (aC (cQ PySem.F.plainAttrs_str PySem.F.slot_str_split PySem.F.type_str_split tq (pv 0) (aa (aL) (ae)))),?_⟩;exact ⟨_,rfl,rfl,z," ",rfl,rfl,by decide +kernel,P2 (QZ hz 2) (by decide),λl hl=>k l hl⟩
theorem Aw:aE ["part"] ["part"] (ak (top 25)):=⟨rfl,rfl,rfl,by decide +kernel,rfl,by decide +kernel,by decide +kernel⟩
theorem jt (T:Tx K mg A):ax P w K mg base CX0 1 A.gA A.gB ["part"] (gH K):=by
 refine T.dG.fn.ok Aw (λvs H Q E h=>?_) (λcdv Ar outer s H vs Q E hr h=>?_)
 ·obtain ⟨v,pt,rfl,_⟩:=h;rfl
 ·obtain ⟨v,pt,rfl,hd,k⟩:=h;obtain ⟨a,x,y,rfl,hq,_,_,hx⟩:=pL hd;refine ⟨_,ao (aC (bJ (eO) (aU (r:=eP K) bF (pv 0) (ar) (λ_ _=>rfl)) (aL) (aG _))),?_⟩;refine ⟨_,rfl,a,_,0,_,rfl,rfl,hq,rfl,rfl,?_⟩;cases pt with
  | word w=>
   obtain ⟨rfl,_⟩:=hx;rw [decide_eq_false (by decide)];exact k
  | hole m=>
   obtain ⟨rfl,_⟩:=hx;rw [decide_eq_true rfl];exact k
theorem uH:aE ["part","word"] ["part","word"] (ak (top 26)):=⟨rfl,rfl,rfl,by decide +kernel,rfl,by decide +kernel,by decide +kernel⟩
theorem uo (T:Tx K mg A):ax P w K mg base CX0 3 A.j7 A.jS ["part","word"] (mR K):=by
 have fk:ax P w K mg base CX0 2 A.gA A.gB ["part"] (gH K):=(jt T).mono (by decide);have i9:ax P w K mg base CX0 2 A.i5 A.ji ["thing"] (jI K):=(mX T).mono (by decide);have pG:ax P w K mg base CX0 2 A.l9 A.mn ["word"] (nG K):=(tz T).mono (by decide);refine T.jY.fn.ok uH (λvs H Q E h=>?_) (λcdv Ar outer s H vs Q E hr h=>?_)
 ·obtain ⟨v,x,p,rfl,_⟩:=h;rfl
 ·obtain ⟨v,x,p,rfl,hd,hok,hw,k⟩:=h;obtain ⟨a,x1,y1,ev,hq,_,_,hx⟩:=pL hd;refine ⟨_,ag (a8 (dD (cJ (av fk hr (by rfl) T.dG.mg T.dG.fn.kp T.dG.bd .nil ay (aa (pv 0) (ae))))) (ao (aC (bJ (eO) (pv 1) (aU (r:=eP K) bF (pv 0) (ar) (λ_ _=>rfl)) (aG _)))) (aO))
   (ag (a8 (aJ (eO) (aU (r:=eP K) bF (pv 0) (ar) (λ_ _=>rfl)) (aL) (aG _)) (ao (aC (av i9 hr (by rfl) T.fH.mg T.fH.fn.kp T.fH.bd .nil ay (aa (pv 1) (ae))))) (aO))
   (ao (aC (bJ (eO) (av pG hr (by rfl) T.jw.mg T.jw.fn.kp T.jw.bd .nil ay (aa (pv 1) (ae))) (aU (r:=eP K) bF (pv 0) (ar) (λ_ _=>rfl)) (aG _))))),?_⟩
  refine ⟨_,rfl,v,p,rfl,hd,_,rfl,?_⟩;subst ev;cases p with
  | word y=>
   obtain ⟨rfl,rfl⟩:=hx;refine ck ⟨_,rfl,_,rfl,a,_,1,_,rfl,rfl,hq,rfl,rfl,?_⟩;have e:decide (V.str x=V.str y1)=(Pt.word y1).takes x:=by
    rw [Qp];simp [Pt.takes]
   rw [e];exact k
  | hole m=>
   obtain ⟨rfl,rfl⟩:=hx;have hm:m<3:=hok;refine bf ?_;refine ⟨_,rfl,a,_,1,_,rfl,rfl,hq,rfl,rfl,_,rfl,?_⟩;rw [yA hm];by_cases h2:m=2
   ·rw [decide_eq_true h2];refine ck ?_;subst h2;exact ⟨_,rfl,x,rfl,hw,k⟩
   ·rw [decide_eq_false h2];refine bf ?_;refine ⟨_,rfl,x,rfl,hw,_,rfl,a,_,1,_,rfl,rfl,hq,rfl,rfl,?_⟩;have e:(Pt.hole m).takes x=decide (eQ x=m):=by
     have:m=0\/m=1:=by lia
     rcases this with rfl | rfl <;> rfl
    rw [CM (k:=m) (by lia),<-e];exact k
end
end K35
namespace L2
open PySem PySem.Spec PyProof.Rows PySem.W
def Mj (T:Addr) (H:Hp):Prop:=∀ b,H b=none\/(∃ o xs,H b=some (.frz o (.lst xs)))\/(b=T/\H b=some (.tbl #[]))
theorem Cu {P:Program}{w:World}{K:Vz}{mg mb:Str->Option Vy}{k:Nat}{fa a c T:Addr}{fd:FuncData}{x:Str}{sp:Sp}{s₁:Vx}{vs:List Vy}{ns:List Int}
  (KX:K.In s₁.heap) (hT:s₁.heap.get? T=some (tabObj #[])) (hc:CodeHd s₁.heap c T) (hKT:K.lookup T=none)
  (hns:s₁.heap.Ns mainGlobals mg) (hb:s₁.heap.Ns builtinsNs mb) (hbb:∀ x:Str,x ≠ "__name__" -> mb x=bootBuiltins x) (M8:s₁.heap.NoLimit) (hg:s₁.gens = #[])
  (ha:s₁.heap.get? a=some { cls:=.type "list",data:=.seq vs.toArray }) (hi:IntsAre vs ns) (hl:ns.length<=sizeLine) (hr:bX k callerA)
  (F:∀ base:Heap,ax P w K mg base CX0 k fa fd [x] sp) (Mh:∀ (s:Vx) (u:Vy),BindsTo s fd ⟨[u],[]⟩ [(x,u)])
  (hsp:∀ H:Hp,H T=some (.tbl #[])->SqL K H a (ns.map V.int)->sp [.ref a] H (λv _=>v = .bl true) λ_ _ _=>False) :
  codeAny (model P w) callerA (.call (.ref fa) ⟨[.ref a],[]⟩) (λr s'=>r = .ok (.ret (.bool true))/\OldK s₁.heap s'.heap/\s'.os=s₁.os/\AllBare s'.gens) s₁:=by
 have rv:=uY hi;have M0:=hi.length;have haT:a≠T:=λe=>by rw [e,hT] at ha;cases ha
 have core:∀ H:Hp,Mj T H->H T=some (.tbl #[])->SqL K H a (ns.map V.int)->HOk P w H s₁.heap->(∀ b,H b≠none->b=a\/b=T)->(H a≠none->K.lookup a=none) ->
   codeAny (model P w) callerA (.call (.ref fa) ⟨[.ref a],[]⟩) (λr s'=>r = .ok (.ret (.bool true))/\OldK s₁.heap s'.heap/\s'.os=s₁.os/\AllBare s'.gens) s₁:=by
  intro H hO hHT hS hok hA hK;have nsK:∀ {b:Addr}{m:Str->Option Vy},s₁.heap.Ns b m->(zr s₁.heap H).Ns b m:=λ{b m} ⟨o,es,ep,e,d,r⟩=>⟨o,es,ep,y4 e (by
   cases q:H b with
   | none=>rfl
   | some u=>
    rcases hA b (by rw [q];simp) with rfl | rfl
    ·rw [ha] at e;cases e;have d':Data.seq vs.toArray _=Data.dict es ep:=d;cases d'
    ·rw [hT] at e;cases e;have d':Data.fields #[]=Data.dict es ep:=d;cases d'),d,r⟩
  have hKb:K.In (zr s₁.heap H):=λb o e=>y4 (KX b o e) (by
   cases q:H b with
   | none=>rfl
   | some u=>
    rcases hA b (by rw [q];simp) with rfl | rfl
    ·rw [hK (by rw [q];simp)] at e;cases e
    ·rw [hKT] at e;cases e)
  have hM:Mod K mg (zr s₁.heap H):=⟨hKb,nsK hns,⟨mb,nsK hb,hbb⟩,let ⟨mc,h1,h2⟩:=M8;⟨mc,nsK h1,h2⟩⟩;have e0:si P w K mg (zr s₁.heap H) callerA [] s₁ H:=⟨rfl,hM,λb o e=>Iw e,Sg (Dq _ _),trivial,λb hb=>absurd (show b∈([]:List Addr) from hb) (by simp),hok,.of_eq hg⟩;refine codeAny_mono ((F _).run callerA [] s₁ H ⟨[.ref a],[]⟩ [.ref a] [.ref a] _ _ hr e0 (Mh s₁ (.ref a)) (.cons rfl .nil) (hsp H hHT hS)) λr s' h=>?_;cases r with
  | error e=>exact False.elim h
  | ok fl=>
   cases fl with
   | next=>exact False.elim h
   | brk=>exact False.elim h
   | cont=>exact False.elim h
   | ret u=>
    obtain ⟨v,H',os,bare,un,G3,r',q⟩:=h;have q':v = .bl true:=q;subst q';obtain rfl:u=Value.bool true:=r';refine ⟨rfl,⟨λb o e=>?_,λb o e=>un.there b o e (by simp)⟩,os,bare⟩;rcases hO b with z | ⟨ob,xs,z⟩ | ⟨rfl,z⟩
    ·exact .inl (un.keep b o e z (by intro z;exact absurd (show b∈([]:List Addr) from z) (by simp)) (by simp))
    ·have z2:=un.qQ b ob _ z;obtain ⟨e1,_⟩:=hok b _ z;obtain ⟨e2,_⟩:=G3 b _ z2;rw [e] at e1;cases e1;exact .inl e2
    ·obtain ⟨more,z2⟩:=un.qR b _ z;have e2:=G3 b _ z2;rw [hT] at e;cases e;obtain ⟨oc,fs,file,tf,flags,tg,inF,text,tt,c1,c2,c3,c4,_⟩:=hc;have ht:s₁.heap.TableAt c b #[]:=⟨⟨oc,fs,c1,c2,c3,c4⟩,hT⟩;exact .inr (.inl ⟨ht.isCodeTable,rfl,#[],more,rfl,e2⟩)
 cases hk:K.lookup a with
 | some o=>
  have e:=KX a o hk;rw [ha] at e;cases e;refine core (λb=>if b=T then some (.tbl #[]) else none) (λb=>?_) (if_pos rfl) (.inr ⟨_,vs.toArray,_,hk,rfl,rfl,rfl,by rw [P1,M0];exact hl,by simpa using rv⟩) (λb u z=>?_) (λb z=>?_) λz=>absurd (if_neg haT) z
  ·by_cases hb:b=T
   ·exact .inr (.inr ⟨hb,if_pos hb⟩)
   ·exact .inl (if_neg hb)
  ·by_cases hb:b=T
   ·have z':=(if_pos hb).symm.trans z;cases z';subst hb;exact hT
   ·have z':=(if_neg hb).symm.trans z;cases z'
  ·by_cases hb:b=T
   ·exact .inr hb
   ·exact absurd (if_neg hb) z
 | none=>
  refine core (λb=>if b=T then some (.tbl #[]) else if b=a then some (.frz { cls:=.type "list",data:=.seq vs.toArray } (.lst (ns.map V.int))) else none) (λb=>?_) (if_pos rfl)
   (.inl (.inr ⟨{ cls:=.type "list",data:=.seq vs.toArray },(if_neg haT).trans (if_pos rfl)⟩)) (λb u z=>?_) (λb z=>?_) λ_=>hk
  ·by_cases hb:b=T
   ·exact .inr (.inr ⟨hb,if_pos hb⟩)
   ·by_cases hb2:b=a
    ·exact .inr (.inl ⟨_,_,(if_neg hb).trans (if_pos hb2)⟩)
    ·exact .inl ((if_neg hb).trans (if_neg hb2))
  ·by_cases hb:b=T
   ·have z':=(if_pos hb).symm.trans z;cases z';subst hb;exact hT
   ·by_cases hb2:b=a
    ·have z':=((if_neg hb).trans (if_pos hb2)).symm.trans z;cases z';subst hb2;exact ⟨ha,by rw [PQ];exact hl,vs,_,rv,ha⟩
    ·have z':=((if_neg hb).trans (if_neg hb2)).symm.trans z;cases z'
  ·by_cases hb:b=T
   ·exact .inr hb
   ·by_cases hb2:b=a
    ·exact .inl hb2
    ·exact absurd ((if_neg hb).trans (if_neg hb2)) z
theorem FG {l:PySem.W.OpenLaw}{n k:Nat}{q:Program}{loose:List Str}{XP:(Str->Option Vy)->Heap->Prop}{YP:World->Heap->Prop}{d:DefRec}{K:Params->Vz}{sp:World->Sp}{x:Str}{c T:Addr}
  (hn:l.most=some n) (hn2:n<=sizeLine) (hdf:d.params.defaults=[]) (hr:bX k callerA)
  (hY:∀ (w:World) (h:Heap),YP w h->(K w.params).In h/\h.get? T=some (tabObj #[])) (hc:∀ (w:World) (h:Heap),(K w.params).In h->CodeHd h c T) (hKT:∀ w:World,(K w.params).lookup T=none)
  (F:∀ (w:World) (mg:Str->Option Vy) (fa:Addr) (h:Heap),(K w.params).In h->h.Ns mainGlobals mg->mg d.name=some (.ref fa) ->
   ∃ fd:FuncData,(∀ (s:Vx) (u:Vy),BindsTo s fd ⟨[u],[]⟩ [(x,u)])/\∀ base:Heap,ax l.prog w (K w.params) mg base CX0 k fa fd [x] (sp w))
  (hsp:∀ (w:World) (H:Hp) (a:Addr) (ns:List Int),ns.length<=n->H T=some (.tbl #[])->SqL (K w.params) H a (ns.map V.int)->sp w [.ref a] H (λv _=>v = .bl true) λ_ _ _=>False) :
  PySem.W.WalkO q loose XP YP l.row.toRowW d [] (λf vs=>PySem.call f vs):=by
 refine Att.xW hn hdf λw s₀ s₁ mg mb fa o pm cd doc a vs ns G Y ho hd hcd hmg Kb Gc hlen hg=>?_;obtain ⟨KX,hT⟩:=hY w _ Y;obtain ⟨fd,hb,hF⟩:=F w mg fa _ KX G.T.g hmg;exact Cu KX hT (hc w _ KX) (hKT w) G.T.g G.T.b G.T.builtins G.T.nolimit hg Kb Gc (P2 hlen hn2) hr hF hb (λH hO hS=>hsp w H a ns hlen hO hS)
end L2
namespace K35
open PySem L2 LG
section
variable {P:Program}{w:World}{K:Vz}{mg:Str->Option Vy}{base:Heap}{A:Ad}
theorem j5:aE ["parts","words","part","word"] ["parts","words"] (ak (top 27)):=⟨rfl,rfl,rfl,by decide +kernel,rfl,by decide +kernel,by decide +kernel⟩
theorem wL (T:Tx K mg A):ax P w K mg base CX0 4 A.kI A.lu ["parts","words"] (pf K):=by
 have wb:ax P w K mg base CX0 3 A.j7 A.jS ["part","word"] (mR K):=(uo T).mono (by decide);refine T.lX.fn.ok j5 (λvs H Q E h=>?_) (λcdv Ar outer s H vs Q E hr h=>?_)
 ·obtain ⟨a,b,xs,ps,ws,rfl,_⟩:=h;rfl
 ·obtain ⟨a,b,xs,ps,ws,rfl,hq,hds,hok,hqb,hws,k⟩:=h;have hxl:xs.length=ps.length:=by rw [hds.length,PQ]
  refine ⟨_,ag (a8 (aJ (qC) (aK (r:=cH K) aV (by rfl) T.cq PySem.boot_len (aa (pv 0) (ae))) (aK (r:=cH K) aV (by rfl) T.cq PySem.boot_len (aa (pv 1) (ae))) (aG _)) (ao (aC (jg))) (aO))
   (ag (fZ PassesOwn.never rfl (w5 (by rfl) T.Bo (aa (pv 0) (aa (pv 1) (ae)))) (jL rfl (bK (aI (i:=2) j5.nd rfl (Or.inl rfl)) (bK (aI (i:=3) j5.nd rfl (Or.inl rfl)) (gy)))) (ao (a8 (dD (cJ (av wb hr (by rfl) T.jY.mg T.jY.fn.kp T.jY.bd .nil ay (aa (pv 2) (aa (pv 3) (ae)))))) (ao (aC (jg))) (aO))))
   (ao (aC (jg)))),?_⟩
  refine ⟨_,rfl,a,xs,rfl,.inl hq,_,rfl,b,_,rfl,.inl hqb,rfl,_,rfl,?_⟩;rw [PQ];by_cases hl:ps.length=ws.length
  ·have e:decide (V.int (xs.length:Int)=V.int (ws.length:Int))=true:=decide_eq_true (by rw [hxl,hl]);rw [e];refine bf ?_;refine ⟨_,rfl,_,rfl,a,b,rfl,⟨_,hq⟩,⟨_,hqb⟩,?_⟩;refine Bp (K:=K) (xs:=xs) (ys:=ws.map V.str) (λi σ H2=>(∃ u v,σ=[some (.ref a),some (.ref b),u,v])/\af H H2/\∀ (j:Nat) p x,j<i->ps[j]? = some p->ws[j]? = some x->p.takes x=true) ⟨⟨_,_,rfl⟩,af.refl _,λj p x hj=>absurd hj (Nat.not_lt_zero _)⟩ (λi σ H2 q=>⟨q.2.1.seq hq,q.2.1.seq hqb⟩) (λi x y σ H2 t hx hy q ht=>?_) (λσ H2 q=>?_)
   ·obtain ⟨q0,s2,gW⟩:=q;apply n6 q0;clear q0;intro u v;obtain ⟨p,hp,dX⟩:=ml hds hx;obtain ⟨x',hw',rfl⟩:=fG hy;have st:af H2 (upd H2 t (.tup [x,.str x'])):=af.new ht;refine ⟨t,_,rfl,.of ab,rfl,_,_,rfl,_,_,rfl,rfl,?_⟩;refine ⟨_,rfl,_,rfl,x,x',p,rfl,dX.same (s2.trans st),hok p (PU hp),hws x' (PU hw'),_,rfl,?_⟩;by_cases ht':p.takes x' = true
    ·rw [ht'];refine bf ⟨⟨_,_,rfl⟩,s2.trans st,λj p2 x2 hj hp2 hx2=>?_⟩;rcases Qz j i with q | q
     ·exact gW j p2 x2 q hp2 hx2
     ·have:j=i:=by lia
      subst this;rw [hp] at hp2;cases hp2;rw [hw'] at hx2;cases hx2;exact ht'
    ·rw [Qe.mpr ht'];refine ck ?_;have e2:cn ps ws=false:=by
      unfold cn;rw [Fz hp hw' (Qe.mpr ht'),QW]
     have:=k _ (s2.trans st);rw [e2] at this;exact this
   ·obtain ⟨q0,s2,gW⟩:=q;apply n6 q0;clear q0;intro u v;have e2:cn ps ws=true:=by
     unfold cn;rw [decide_eq_true hl,RB];refine Hn λi p x hi hp hx=>gW i p x ?_ hp hx;rw [PQ,hxl];exact hi
    have:=k _ s2;rw [e2] at this;exact this
  ·have e:decide (V.int (xs.length:Int)=V.int (ws.length:Int))=false:=decide_eq_false (λq=>hl (by rw [hxl] at q;injection q with q;lia));rw [e];refine ck ?_;have:=k H (af.refl _);rw [Dl hl] at this;exact this
theorem Hi:aE ["pattern","line"] ["pattern","line"] (ak (top 28)):=⟨rfl,rfl,rfl,by decide +kernel,rfl,by decide +kernel,by decide +kernel⟩
theorem Gw (T:Tx K mg A):ax P w K mg base CX0 5 A.Aa A.zP ["pattern","line"] (Cb K):=by
 have y9:ax P w K mg base CX0 4 A.kI A.lu ["parts","words"] (pf K):=(wL T).mono (by decide);have gG:ax P w K mg base CX0 4 A.gE A.g9 ["line"] (iE K):=(kF T).mono (by decide);refine T.fits.fn.ok Hi (λvs H Q E h=>?_) (λcdv Ar outer s H vs Q E hr h=>?_)
 ·obtain ⟨v,z,ps,rfl,_⟩:=h;rfl
 ·obtain ⟨v,z,ps,rfl,hd,hok,hz,hzs,k⟩:=h;obtain ⟨a,xs,ev,hq,hds⟩:=iB hd;refine ⟨_,ao (aC (av y9 hr (by rfl) T.lX.mg T.lX.fn.kp T.lX.bd .nil ay (aa (pv 0) (aa (av gG hr (by rfl) T.words_of.mg T.words_of.fn.kp T.words_of.bd .nil ay (aa (pv 1) (ae))) (ae))))),?_⟩;subst ev;have hz':LOk z:=hz;refine ⟨_,rfl,_,rfl,z,rfl,hz,λl hl=>?_⟩;have sl:af H (upd H l (.lst ((Txt.split z " ").map V.str))):=af.new hl;exact ⟨a,l,xs,ps,Txt.split z " ",rfl,sl.seq hq,hds.same sl,hok,.of ab,λx hx=>P2 (tF hzs x hx).2 hz',λH' s'=>k H' (sl.trans s')⟩
theorem eS:aE ["part","kind"] ["part"] (ak (top 29)):=⟨rfl,rfl,rfl,by decide +kernel,rfl,by decide +kernel,by decide +kernel⟩
theorem jU (T:Tx K mg A):ax P w K mg base CX0 3 A.dc A.dg ["part"] (eV K):=by
 have fk:ax P w K mg base CX0 2 A.gA A.gB ["part"] (gH K):=(jt T).mono (by decide);have pG:ax P w K mg base CX0 2 A.l9 A.mn ["word"] (nG K):=(tz T).mono (by decide);refine T.cC.fn.ok eS (λvs H Q E h=>?_) (λcdv Ar outer s H vs Q E hr h=>?_)
 ·obtain ⟨v,p,rfl,_⟩:=h;rfl
 ·obtain ⟨v,p,rfl,hd,hok,k⟩:=h;obtain ⟨a,x1,y1,ev,hq,_,_,hx⟩:=pL hd;refine ⟨_,ag (a8 (cJ (av fk hr (by rfl) T.dG.mg T.dG.fn.kp T.dG.bd .nil ay (aa (pv 0) (ae)))) (ao (aC (aU (r:=eP K) bF (pv 0) (ar) (λ_ _=>rfl)))) (aO))
   (ag (aY (i:=1) eS.nd rfl (Or.inl rfl) (av pG hr (by rfl) T.jw.mg T.jw.fn.kp T.jw.bd .nil ay (aa (aU (r:=eP K) bF (pv 0) (ar) (λ_ _=>rfl)) (ae))))
   (ao (aC (k4 (aJ (r:=rIn K false) (uS) (pv 1) (fE (v:=.ref A.b6) (by rfl) T.j4 rfl) (by rfl)) (pv 1) (aL))))),?_⟩
  refine ⟨_,rfl,v,p,rfl,hd,_,rfl,?_⟩;cases p with
  | hole m=>
   obtain ⟨rfl,rfl⟩:=hx;subst ev;exact ck ⟨_,rfl,a,_,1,_,rfl,rfl,hq,rfl,k⟩
  | word y=>
   obtain ⟨rfl,rfl⟩:=hx;subst ev;refine bf ?_;have hy:TOk y1:=hok;refine ⟨_,rfl,a,_,1,_,rfl,rfl,hq,rfl,y1,rfl,hy.1,?_⟩;refine ⟨_,rfl,A.b6,_,rfl,.inr (T.jK _),rfl,rfl,_,rfl,?_⟩;have hk:∀ i<3,(inV (.str (kA i)) [.str "number",.str "name",.str "any"])=decide (i<2):=by decide +kernel
   rw [if_neg P6,hk _ (xI _)];dsimp only;by_cases h2:eQ y1<2
   ·rw [decide_eq_true h2];refine ck ⟨_,rfl,?_⟩;have e:kA (eQ y1)=cB (Pt.word y1).around:=by
     show kA (eQ y1)=cB (eQ y1);have:eQ y1=0\/eQ y1=1:=by lia
     rcases this with e | e <;> rw [e] <;> rfl
    rw [e];exact k
   ·rw [decide_eq_false h2];refine bf ?_;have e:cB (Pt.word y1).around = "any" :=by
     show cB (eQ y1) = "any";have h3:=xI y1;have:eQ y1=2:=by lia
     rw [this];rfl
    rw [e] at k;exact k
theorem kq:aE ["part"] ["part"] (ak (top 46)):=⟨rfl,rfl,rfl,by decide +kernel,rfl,by decide +kernel,by decide +kernel⟩
theorem kZ (T:Tx K mg A):ax P w K mg base CX0 2 A.dY A.dW ["part"] (fL K):=by
 have fk:ax P w K mg base CX0 1 A.gA A.gB ["part"] (gH K):=(jt T).mono (by decide);refine T.dq.fn.ok kq (λvs H Q E h=>?_) (λcdv Ar outer s H vs Q E hr h=>?_)
 ·obtain ⟨v,p,rfl,_⟩:=h;rfl
 ·obtain ⟨v,p,rfl,hd,hok,k⟩:=h;obtain ⟨a,x1,y1,ev,hq,_,_,hx⟩:=pL hd;refine ⟨_,ag (a8 (dD (cJ (av fk hr (by rfl) T.dG.mg T.dG.fn.kp T.dG.bd .nil ay (aa (pv 0) (ae))))) (ao (aC (ar))) (aO))
   (ao (aC (k4 (aJ (eO) (aU (r:=eP K) bF (pv 0) (ar) (λ_ _=>rfl)) (aL) (aG _)) (ar) (ar)))),?_⟩
  refine ⟨_,rfl,v,p,rfl,hd,_,rfl,?_⟩;cases p with
  | word y=>exact ck k
  | hole m=>
   obtain ⟨rfl,rfl⟩:=hx;subst ev;refine bf ?_;have hm:m<3:=hok;refine ⟨_,rfl,a,_,1,_,rfl,rfl,hq,rfl,rfl,_,rfl,?_⟩;rw [yA hm];by_cases h2:m=2
   ·rw [decide_eq_true h2];subst h2;exact ck k
   ·rw [decide_eq_false h2];refine bf ?_;have e:(Pt.hole m).loose=1:=by
     have:m=0\/m=1:=by lia
     rcases this with rfl | rfl <;> rfl
    rw [e] at k;exact k
theorem wR:aE ["pattern"] ["pattern"] (ak (top 47)):=⟨rfl,rfl,rfl,by decide +kernel,rfl,by decide +kernel,by decide +kernel⟩
theorem v5 (T:Tx K mg A):ax P w K mg base CX0 3 A.k9 A.lR ["pattern"] (oq K):=by
 have mG:ax P w K mg base CX0 2 A.dY A.dW ["part"] (fL K):=(kZ T).mono (by decide);refine T.p8.fn.ok wR (λvs H Q E h=>?_) (λcdv Ar outer s H vs Q E hr h=>?_)
 ·obtain ⟨v,ps,rfl,_⟩:=h;rfl
 ·obtain ⟨v,ps,rfl,hd,hok,k⟩:=h;obtain ⟨a,xs,ev,hq,hds⟩:=iB hd;have hxl:xs.length=ps.length:=by rw [hds.length,PQ]
  have hpl:=hok.1;refine ⟨_,ao (aC (bw (N':=["part"]) (n:=1) (fi:=[]) (g:=br 0) rfl (bH (ak (top 47)) ["pattern"] (by decide +kernel)) (bh (pv 0)) (λs H fp=>aI (i:=0) (show (["part"]:List Str).Nodup by decide +kernel) rfl (Or.inl rfl) (.inr rfl)) (λs H fp=>a9) (λs H fp=>av mG hr (by rfl) T.dq.mg T.dq.fn.kp T.dq.bd .nil ay (aa (pv 0) (ae))))),?_⟩;subst ev;refine ⟨_,rfl,a,rfl,⟨_,hq⟩,λD hD=>?_⟩;refine bc (K:=K) (xs:=xs) (λi acc σ H2=>(∃ u,σ=[u])/\af H H2/\acc=(ps.take i).map λp=>V.int p.loose) ab ⟨⟨_,rfl⟩,af.new hD,rfl⟩ (λi acc σ H2 _ _ q=>q.2.1.seq hq) (λi x acc σ H2 hx hDx q=>?_) (λacc σ H2 hDx q=>?_)
  ·obtain ⟨q0,s2,rfl⟩:=q;apply fU q0;clear q0;intro u;obtain ⟨p,hpi,hdp⟩:=ml hds hx;have hi:=aW hpi;refine dS ⟨_,rfl,x,p,rfl,hdp.same s2,hok.2 p (PU hpi),?_⟩;refine ⟨_,hDx,small (by simp only [PQ,Qg];lia),_,ab,⟨_,rfl⟩,aF hD s2,?_⟩;rw [eN hpi]
  ·obtain ⟨_,s2,rfl⟩:=q;rw [P4 (by lia)] at hDx;exact k D H2 hD s2 hDx
theorem kL:aE ["parts","kinds"] ["parts"] (ak (top 30)):=⟨rfl,rfl,rfl,by decide +kernel,rfl,by decide +kernel,by decide +kernel⟩
theorem rW (T:Tx K mg A):ax P w K mg base CX0 4 A.iT A.iR ["parts"] (li K):=by
 have kh:ax P w K mg base CX0 3 A.dc A.dg ["part"] (eV K):=(jU T).mono (by decide);refine T.ix.fn.ok kL (λvs H Q E h=>?_) (λcdv Ar outer s H vs Q E hr h=>?_)
 ·obtain ⟨a,xs,ps,rfl,_⟩:=h;rfl
 ·obtain ⟨a,xs,ps,rfl,hq,hds,hne,hok,k⟩:=h;have hxl:xs.length=ps.length:=by rw [hds.length,PQ]
  have hpl:=hok.1;obtain ⟨p0,pr,rfl⟩:∃ p0 pr,ps=p0::pr:=by
   cases ps with
   | nil=>exact (hne rfl).elim
   | cons p r=>exact ⟨p,r,rfl⟩
  obtain ⟨x0,xr,rfl⟩:∃ x0 xr,xs=x0::xr:=by
   cases xs with
   | nil=>simp at hxl
   | cons x r=>exact ⟨x,r,rfl⟩
  have hd0:Den K H x0 p0.dat:=by cases hds with | cons h1 _=>exact h1
  have LM:p0.ok:=hok.2 p0 (P5 ..);refine ⟨_,ag (a8 (cJ (aK (r:=Dr K) (lG rfl) (by rfl) T.yu rP (aa (bw (N':=["part","parts"]) (n:=1) (fi:=[0]) (g:=br 0) rfl (bH (ak (top 30)) ["parts","kinds"] (by decide +kernel)) (bh (pv 0)) (λs H fp=>aI (i:=0) (show (["part","parts"]:List Str).Nodup by decide +kernel) rfl (Or.inl rfl) (.inr rfl)) (λs H fp=>a9) (λs H fp=>bJ (r:=uh K) (nv hr) (pv 0) (aU (r:=dE K) aX (pv 1) (ar) (λ_ _=>rfl)) (aG _))) (ae)))) (ao (aC (aU (r:=dE K) aX (pv 0) (ar) (λ_ _=>rfl)))) (aO))
   (ag (aY (i:=1) kL.nd rfl (Or.inr rfl) (bw (N':=["part"]) (n:=1) (fi:=[]) (g:=br 0) rfl (bH (ak (top 30)) ["parts","kinds"] (by decide +kernel)) (bh (pv 0)) (λs H fp=>aI (i:=0) (show (["part"]:List Str).Nodup by decide +kernel) rfl (Or.inl rfl) (.inr rfl)) (λs H fp=>a9) (λs H fp=>av kh hr (by rfl) T.cC.mg T.cC.fn.kp T.cC.bd .nil ay (aa (pv 0) (ae)))))
   (ag (a8 (cJ (aK (r:=Dr K) (lG rfl) (by rfl) T.yu rP (aa (bw (N':=["kind","kinds"]) (n:=1) (fi:=[1]) (g:=br 0) rfl (bH (ak (top 30)) ["parts","kinds"] (by decide +kernel)) (bh (pv 1)) (λs H fp=>aI (i:=0) (show (["kind","kinds"]:List Str).Nodup by decide +kernel) rfl (Or.inl rfl) (.inr rfl)) (λs H fp=>a9) (λs H fp=>bJ (eO) (pv 0) (aU (r:=dE K) aX (pv 1) (ar) (λ_ _=>rfl)) (aG _))) (ae)))) (ao (aC (bT (aa (aL) (aa (aU (r:=dE K) aX (pv 1) (ar) (λ_ _=>rfl)) (ae)))))) (aO))
   (ao (aC (bT (aa (aL) (aa (aL) (ae)))))))),?_⟩
  refine ⟨_,rfl,a,rfl,⟨_,hq⟩,λD hD=>?_⟩;refine bc (K:=K) (xs:=x0::xr) (λi acc σ H2=>(∃ u,σ=[u,some (.ref a)])/\af H H2/\acc=(((p0::pr).take i).map λp=>decide (p=p0)).map V.bl) ab ⟨⟨_,rfl⟩,af.new hD,rfl⟩ (λi acc σ H2 _ _ q=>q.2.1.seq hq) (λi x acc σ H2 hx hDx q=>?_) (λacc σ H2 hDx q=>?_)
  ·obtain ⟨q0,s2,rfl⟩:=q;apply fU q0;clear q0;intro u;obtain ⟨p,hpi,hdp⟩:=ml hds hx;have hi:=aW hpi;refine dS ⟨_,rfl,_,rfl,a,_,0,x0,rfl,rfl,s2.seq hq,cL (j:=0) rfl,_,_,hdp.same s2,hd0.same s2,P2 (Bt _) (by decide),?_⟩;rw [JG (hok.2 p (PU hpi)) LM];refine ⟨_,hDx,small (by simp only [PQ,Qg];lia),_,ab,⟨_,rfl⟩,aF hD s2,?_⟩;rw [eN hpi,Qa];rfl
  ·obtain ⟨_,s2,rfl⟩:=q;rw [P4 (by lia)] at hDx;refine ⟨D,_,rfl,.of hDx,_,rfl,?_⟩;have e1:(((p0::pr).map λp=>decide (p=p0)).all id)=pr.all λq=>decide (q=p0):=by
    rw [List.all_map,RA];simp
   rw [e1];have ej:zu (p0::pr)=if pr.all (λq=>decide (q=p0))=true then p0 else if pr.all (λq=>decide (q.around=p0.around))=true then .hole p0.around else .hole 2:=rfl;by_cases ha:pr.all (λq=>decide (q=p0))=true
   ·rw [ha];refine ck ⟨_,rfl,a,_,0,x0,rfl,rfl,s2.seq hq,cL (j:=0) rfl,k x0 H2 s2 ?_⟩;rw [ej,if_pos ha];exact hd0.same s2
   ·rw [Qe.mpr ha];refine bf ?_;refine ⟨_,rfl,a,rfl,⟨_,s2.seq hq⟩,λD2 hD2=>?_⟩;refine bc (K:=K) (xs:=x0::xr) (λi acc σ H3=>(∃ u,σ=[u])/\af H2 H3/\acc=((p0::pr).take i).map λp=>V.str (cB p.around)) ab ⟨⟨_,rfl⟩,af.new hD2,rfl⟩ (λi acc σ H3 _ _ q=>(s2.trans q.2.1).seq hq) (λi x acc σ H3 hx Au q=>?_) (λacc σ H3 Au q=>?_)
    ·obtain ⟨q0,s3,rfl⟩:=q;apply fU q0;clear q0;intro u;obtain ⟨p,hpi,hdp⟩:=ml hds hx;have hi:=aW hpi;refine dS ⟨_,rfl,x,p,rfl,hdp.same (s2.trans s3),hok.2 p (PU hpi),?_⟩;refine ⟨_,Au,small (by simp only [PQ,Qg];lia),_,ab,⟨_,rfl⟩,aF hD2 s3,?_⟩;rw [eN hpi]
    ·obtain ⟨_,s3,rfl⟩:=q;rw [P4 (by lia)] at Au;have s23:=s2.trans s3;refine ⟨_,rfl,D2,rfl,⟨_,.of Au⟩,λD4 hD4=>?_⟩;refine bc (K:=K) (xs:=(p0::pr).map λp=>V.str (cB p.around)) (λi acc σ H4=>(∃ u,σ=[u,some (.ref D2)])/\af H3 H4/\acc=(((p0::pr).take i).map λp=>decide (p.around=p0.around)).map V.bl) ab ⟨⟨_,rfl⟩,af.new hD4,rfl⟩ (λi acc σ H4 _ _ q=>.of (q.2.1 _ _ Au)) (λi x acc σ H4 hx Ic q=>?_) (λacc σ H4 Ic q=>?_)
     ·obtain ⟨q0,s4,rfl⟩:=q;apply fU q0;clear q0;intro u;rw [P7] at hx;cases hpi:(p0::pr)[i]? with
      | none=>rw [hpi] at hx;cases hx
      | some p=>
       rw [hpi] at hx;cases hx;have hi:=aW hpi;refine dS ⟨_,rfl,_,rfl,D2,_,0,V.str (cB p0.around),rfl,rfl,.of (s4 _ _ Au),cL (j:=0) rfl,rfl,?_⟩;have e2:decide (V.str (cB p.around)=V.str (cB p0.around))=decide (p.around=p0.around):=by
        rw [Qp,decide_eq_true_eq,decide_eq_true_eq];exact ⟨λh=>vf (pP (hok.2 p (PU hpi))) (pP LM) (by injection h),λh=>by rw [h]⟩
       rw [e2];refine ⟨_,Ic,small (by simp only [PQ,Qg];lia),_,ab,⟨_,rfl⟩,aF hD4 s4,?_⟩;rw [eN hpi,Qa];rfl
     ·obtain ⟨_,s4,rfl⟩:=q;have hl5:((p0::pr).map λp=>V.str (cB p.around)).length=(p0::pr).length:=by rw [PQ]
      rw [hl5,P4 (PR _)] at Ic;refine ⟨D4,_,rfl,.of Ic,_,rfl,?_⟩;have e3:(((p0::pr).map λp=>decide (p.around=p0.around)).all id)=pr.all λq=>decide (q.around=p0.around):=by
       rw [List.all_map,RA];simp
      rw [e3];have s24:=s23.trans s4;by_cases hb:pr.all (λq=>decide (q.around=p0.around))=true
      ·rw [hb];refine ck ⟨_,rfl,D2,_,0,V.str (cB p0.around),rfl,rfl,.of (s4 _ _ Au),cL (j:=0) rfl,(by show 2<=sizeLine;decide),λt ht=>?_⟩;refine k _ _ (s24.trans (af.new ht)) ?_;rw [ej,if_neg ha,if_pos hb];exact .tup (.of ab) (.cons (.str (by decide +kernel)) (.cons (.str sR) .nil))
      ·rw [Qe.mpr hb];refine bf ⟨(by show 2<=sizeLine;decide),λt ht=>?_⟩;refine k _ _ (s24.trans (af.new ht)) ?_;rw [ej,if_neg ha,if_neg hb];exact .tup (.of ab) (.cons (.str (by decide +kernel)) (.cons (.str (by decide +kernel)) .nil))
theorem vU:aE ["patterns","width"] ["patterns"] (ak (top 31)):=⟨rfl,rfl,rfl,by decide +kernel,rfl,by decide +kernel,by decide +kernel⟩
theorem CU (T:Tx K mg A):ax P w K mg base CX0 5 A.sY A.rG ["patterns"] (vV K):=by
 have uB:ax P w K mg base CX0 4 A.iT A.iR ["parts"] (li K):=(rW T).mono (by decide);refine T.joined.fn.ok vU (λvs H Q E h=>?_) (λcdv Ar outer s H vs Q E hr h=>?_)
 ·obtain ⟨a,xs,pss,n,rfl,_⟩:=h;rfl
 ·obtain ⟨a,xs,pss,n,rfl,hq,hds,hne,hpl,hok,k⟩:=h;have hxl:xs.length=pss.length:=by rw [hds.length,PQ]
  have JJ:0<pss.length:=Ry.mpr hne;obtain ⟨x0,hx0⟩:∃ x0,xs[0]? = some x0:=⟨_,PV (by lia)⟩;obtain ⟨ps0,Jn,hd0⟩:=eR hds hx0;obtain ⟨a0,ys0,rfl,hq0,OG⟩:=iB hd0;have hn0:ys0.length=n:=by rw [OG.length,PQ];exact (hok ps0 (PU Jn)).2
  have hn1:n<=10000:=by rw [<-(hok ps0 (PU Jn)).2];exact (hok ps0 (PU Jn)).1.1
  refine ⟨_,ag (a8 (aJ (eO) (aK (r:=cH K) aV (by rfl) T.cq PySem.boot_len (aa (pv 0) (ae))) (ar) (aG _)) (ao (eB)) (aO))
   (ag (aY (i:=1) vU.nd rfl (Or.inr rfl) (aK (r:=cH K) aV (by rfl) T.cq PySem.boot_len (aa (aU (r:=dE K) aX (pv 0) (ar) (λ_ _=>rfl)) (ae))))
   (ag (a8 (cJ (aK (r:=ML K) (F0 rfl) (by rfl) T.K3 JI (aa (bw (N':=["pattern","width"]) (n:=1) (fi:=[1]) (g:=br 0) rfl (bH (ak (top 31)) ["patterns","width"] (by decide +kernel)) (bh (pv 0)) (λs H fp=>aI (i:=0) (show (["pattern","width"]:List Str).Nodup by decide +kernel) rfl (Or.inl rfl) (.inr rfl)) (λs H fp=>a9) (λs H fp=>bJ (qC) (aK (r:=cH K) aV (by rfl) T.cq PySem.boot_len (aa (pv 0) (ae))) (pv 1) (aG _))) (ae)))) (ao (eB)) (aO))
   (ao (aC (bw (N':=["at","patterns"]) (n:=1) (fi:=[0]) (g:=br 0) rfl (bH (ak (top 31)) ["patterns","width"] (by decide +kernel)) (dR (by rfl) T.gm (aa (pv 1) (ae))) (λs H fp=>aI (i:=0) (show (["at","patterns"]:List Str).Nodup by decide +kernel) rfl (Or.inr rfl) (.inl rfl)) (λs H fp=>a9) (λs H fp=>av uB hr (by rfl) T.ix.mg T.ix.fn.kp T.ix.bd .nil ay (aa (bw (wi:=FA K (tY 1)) (N':=["pattern","at"]) (n:=1) (fi:=[0]) (g:=br 0) rfl (Bm (ak (top 31)) (by decide +kernel)) (bh (pv 1)) (λs H fp=>aI (i:=0) (show (["pattern","at"]:List Str).Nodup by decide +kernel) rfl (Or.inl rfl) (.inr rfl)) (λs H fp=>a9) (λs H fp=>aU (r:=dE K) aX (pv 0) (pv 1) (λ_ _=>rfl))) (ae)))))))),?_⟩
  refine ⟨_,rfl,a,xs,rfl,.inl hq,rfl,_,rfl,?_⟩;have e0:decide (V.int (xs.length:Int)=V.int 0)=false:=decide_eq_false (λq=>by injection q with q;lia);rw [e0];refine bf ?_;refine ⟨_,rfl,a,xs,0,_,rfl,rfl,hq,cL (j:=0) hx0,a0,ys0,rfl,.inl hq0,?_⟩;rw [hn0];refine ⟨_,rfl,a,rfl,⟨_,hq⟩,λD hD=>?_⟩;refine bc (K:=K) (xs:=xs) (λi acc σ H2=>(∃ u,σ=[u,some (.int n)])/\af H H2/\acc=((pss.take i).map λ_=>false).map V.bl) ab ⟨⟨_,rfl⟩,af.new hD,rfl⟩ (λi acc σ H2 _ _ q=>q.2.1.seq hq) (λi x acc σ H2 hx hDx q=>?_) (λacc σ H2 hDx q=>?_)
  ·obtain ⟨q0,s2,rfl⟩:=q;apply fU q0;clear q0;intro u;obtain ⟨ps,hpi,hdp⟩:=eR hds hx;obtain ⟨ai,yi,rfl,hqi,hdi⟩:=iB hdp;have hi:=aW hpi;have hyl:yi.length=n:=by rw [hdi.length,PQ];exact (hok ps (PU hpi)).2
   refine dS ⟨_,rfl,ai,yi,rfl,.inl (s2.seq hqi),_,rfl,rfl,?_⟩;rw [hyl,decide_eq_true rfl];refine ⟨_,hDx,small (by simp only [PQ,Qg];lia),_,ab,⟨_,rfl⟩,aF hD s2,?_⟩;rw [eN hpi,Qa];rfl
  ·obtain ⟨_,s2,rfl⟩:=q;refine ⟨D,_,rfl,.of hDx,_,rfl,?_⟩;have e1:(((pss.take xs.length).map λ_=>false).any id)=false:=by
    rw [Qe];intro q;obtain ⟨b,hb,hb2⟩:=RG.mp q;obtain ⟨_,_,rfl⟩:=P9.mp hb;cases hb2
   rw [e1];refine bf ?_;refine ⟨_,rfl,n,rfl,by lia,by lia,λD3 hD3=>?_⟩;have hs3:af H2 (upd H2 D3 (.lst [])):=af.new hD3;refine gQ (λi acc σ H4=>(∃ u,σ=[u,some (.ref a)])/\af H2 H4/\aA K (lim (upd H2 D3 (.lst [])) H4) acc ((cN pss i).map Pt.dat)) ab ⟨⟨_,rfl⟩,hs3,.nil⟩ (λi acc σ H4 hi hD4 q=>?_) (λacc σ H4 hD4 q=>?_)
   ·obtain ⟨q0,s4,dn⟩:=q;apply fU q0;clear q0;intro u;have hin:i<n:=by simpa using hi
    have hal:acc.length=i:=by rw [dn.length,PQ];simp [cN]
    have s24:=s2.trans s4;refine dS ?_;refine ⟨_,rfl,a,rfl,⟨_,s24.seq hq⟩,λD5 hD5=>?_⟩;refine bc (K:=K) (xs:=xs) (λm AR σ H5=>(∃ u,σ=[u,some (.int (0+(i:Int)))])/\af H4 H5/\aA K H AR (((pss.take m).map λps=>ps.getD i (.hole 2)).map Pt.dat)) ab ⟨⟨_,rfl⟩,af.new hD5,.nil⟩ (λm AR σ H5 _ _ q=>(s24.trans q.2.1).seq hq) (λm x AR σ H5 hx Kz q=>?_) (λAR σ H5 Kz q=>?_)
    ·obtain ⟨q0,s5,dn5⟩:=q;apply fU q0;clear q0;intro u;obtain ⟨ps,hpi,hdp⟩:=eR hds hx;obtain ⟨ai,yi,rfl,hqi,hdi⟩:=iB hdp;have hm:=aW hpi;have hpn:=(hok ps (PU hpi)).2;have hpe:ps[i]? = some (ps.getD i (.hole 2)):=by
      rw [PV (by lia)];simp [List.getD,PV (show i<ps.length by lia)]
     obtain ⟨y,hy,hyd⟩:=hdi.getD (i:=i) (d:=(ps.getD i (.hole 2)).dat) (by rw [P7,hpe];rfl);have PH:AR.length=m:=by rw [dn5.length,PQ,PQ,Qg];lia
     refine dS ⟨_,rfl,_,rfl,ai,yi,_,y,rfl,rfl,(s24.trans s5).seq hqi,?_,AR,Kz,small (by lia),_,ab,⟨_,rfl⟩,aF hD5 s5,?_⟩
     ·rw [Int.zero_add];exact cL hy
     ·rw [eN hpi,Qa];exact dn5.append (.cons hyd .nil)
    ·obtain ⟨_,s5,dn5⟩:=q;rw [P4 (by lia)] at dn5;have s25:=s24.trans s5;refine ⟨D5,AR,pss.map (λps=>ps.getD i (.hole 2)),rfl,.of Kz,dn5.same s25,by intro z;exact hne (QN.mp z),⟨by rw [PQ];exact hpl,λp hp=>?_⟩,λr H6 s6 dr=>?_⟩
     ·obtain ⟨ps,hps,rfl⟩:=P9.mp hp;have hpn:=hok ps hps;have hlt:i<ps.length:=by lia
      have:ps.getD i (.hole 2)∈ps:=by simp [List.getD,PV hlt]
      exact hpn.1.2 _ this
     ·have s56:=s5.trans s6;have hD6:H6 D3=some (.lst acc):=s56 _ _ hD4;refine ⟨acc,hD6,small (by lia),_,ab,⟨_,rfl⟩,aF hD3 (s4.trans s56),?_⟩;rw [nV (ys:=[]) ab,xD,Qa];exact (dn.same (dw s56)).append (.cons (G1 (Ek (s4.trans s56) hD6) (af.refl _) dr) .nil)
   ·obtain ⟨_,s4,dn⟩:=q;refine k D3 acc H4 (s2.free hD3) (s2.trans s4) hD4 ?_;have e3:(n:Int).toNat=n:=QJ n;rw [e3] at dn;exact dn.same (e7 (s2.trans hs3).ll)
theorem xU:aE ["word"] ["word"] (ak (top 19)):=⟨rfl,rfl,rfl,by decide +kernel,rfl,by decide +kernel,by decide +kernel⟩
theorem yI (T:Tx K mg A):ax P w K mg base CX0 1 A.ny A.m5 ["word"] (qr K):=by
 refine T.oo.fn.ok xU (λvs H Q E h=>?_) (λcdv Ar outer s H vs Q E hr h=>?_)
 ·obtain ⟨x,rfl,_⟩:=h;rfl
 ·obtain ⟨x,rfl,hw,k⟩:=h;refine ⟨_,ao (aC (bT (aa (aK nK (by rfl) T.cq PySem.boot_len (aa (pv 0) (ae))) (aa (pv 0) (ae))))),?_⟩;exact ⟨_,rfl,x,rfl,hw.s,_,rfl,(by show 2<=sizeLine;decide),λp hp=>k p hp⟩
theorem kW:aE ["part","length","text"] ["part"] (ak (top 32)):=⟨rfl,rfl,rfl,by decide +kernel,rfl,by decide +kernel,by decide +kernel⟩
theorem yk (T:Tx K mg A):ax P w K mg base CX0 2 A.m7 A.mV ["part"] (qz K):=by
 have fk:ax P w K mg base CX0 1 A.gA A.gB ["part"] (gH K):=(jt T).mono (by decide);have AH:ax P w K mg base CX0 1 A.ny A.m5 ["word"] (qr K):=(yI T).mono (by decide);refine T.oW.fn.ok kW (λvs H Q E h=>?_) (λcdv Ar outer s H vs Q E hr h=>?_)
 ·obtain ⟨v,pt,rfl,_⟩:=h;rfl
 ·obtain ⟨v,pt,rfl,hd,hok,k⟩:=h;obtain ⟨a,x,y,ev,hq,_,_,hx⟩:=pL hd;refine ⟨_,ag (a8 (cJ (av fk hr (by rfl) T.dG.mg T.dG.fn.kp T.dG.bd .nil ay (aa (pv 0) (ae)))) (ao (aC (bT (aa (ar) (aa (cQ (r:=ES K) PySem.F.plainAttrs_tuple PySem.F.slot_tuple_index PySem.F.type_tuple_index F3 (fE (v:=.ref A.b6) (by rfl) T.j4 rfl) (aa (aU (r:=eP K) bF (pv 0) (ar) (λ_ _=>rfl)) (ae))) (aa (aL) (ae))))))) (aO))
   (ag (lC (av AH hr (by rfl) T.oo.mg T.oo.fn.kp T.oo.bd .nil ay (aa (aU (r:=eP K) bF (pv 0) (ar) (λ_ _=>rfl)) (ae))) (jL rfl (bK (aI (i:=1) kW.nd rfl (Or.inl rfl)) (bK (aI (i:=2) kW.nd rfl (Or.inl rfl)) (gy)))))
   (ao (aC (bT (aa (ar) (aa (pv 1) (aa (pv 2) (ae)))))))),?_⟩
  refine ⟨_,rfl,v,pt,rfl,hd,_,rfl,?_⟩;cases pt with
  | hole m=>
   obtain ⟨rfl,rfl⟩:=hx;refine ck ?_;subst ev;have hm:m<3:=hok;refine ⟨.inr (.inl ⟨rfl,T.wz⟩),_,rfl,a,_,1,_,rfl,rfl,hq,rfl,A.b6,_,_,m,rfl,rfl,T.jK _,rfl,G2,hm,Kw hm,MJ hm,(by show 3<=sizeLine;decide),λp hp=>?_⟩;exact k _ _ (af.new hp) (.tup (.of ((iu hp).trans ab)) (.cons (.int 1) (.cons (.int _) (.cons (.str (by decide +kernel)) .nil))))
  | word z=>
   obtain ⟨rfl,rfl⟩:=hx;refine bf ?_;subst ev;have hw:TOk y:=hok;refine ⟨_,rfl,a,_,1,_,rfl,rfl,hq,rfl,y,rfl,hw.1,λp hp=>?_⟩;refine ⟨p,_,rfl,.of ab,rfl,_,_,rfl,_,_,rfl,rfl,?_⟩;refine ⟨_,rfl,_,rfl,(by show 3<=sizeLine;decide),λp2 hp2=>?_⟩;exact k _ _ ((af.new hp).trans (af.new hp2)) (.tup (.of ((iu ((af.new hp).free hp2)).trans ab)) (.cons (.int 0) (.cons (.int _) (.cons (.str hw.2) .nil))))
theorem ue:aE ["pattern"] ["pattern"] (ak (top 33)):=⟨rfl,rfl,rfl,by decide +kernel,rfl,by decide +kernel,by decide +kernel⟩
theorem ud (T:Tx K mg A):ax P w K mg base CX0 3 A.iZ A.iS ["pattern"] (lK K):=by
 have AU:ax P w K mg base CX0 2 A.m7 A.mV ["part"] (qz K):=(yk T).mono (by decide);refine T.lh.fn.ok ue (λvs H Q E h=>?_) (λcdv Ar outer s H vs Q E hr h=>?_)
 ·obtain ⟨v,ps,rfl,_⟩:=h;rfl
 ·obtain ⟨v,ps,rfl,hd,hok,k⟩:=h;obtain ⟨a,xs,ev,hq,hds⟩:=iB hd;refine ⟨_,ao (aC (bT (aa (aK (r:=cH K) aV (by rfl) T.cq PySem.boot_len (aa (pv 0) (ae))) (aa (bw (N':=["part"]) (n:=1) (fi:=[]) (g:=br 0) rfl (bH (ak (top 33)) ["pattern"] (by decide +kernel)) (bh (pv 0)) (λs H fp=>aI (i:=0) (show (["part"]:List Str).Nodup by decide +kernel) rfl (Or.inl rfl) (.inr rfl)) (λs H fp=>a9) (λs H fp=>av AU hr (by rfl) T.oW.mg T.oW.fn.kp T.oW.bd .nil ay (aa (pv 0) (ae)))) (ae))))),?_⟩;subst ev;have hlen:xs.length=ps.length:=by rw [hds.length,PQ]
  have hpl:=hok.1;refine ⟨_,rfl,a,xs,rfl,.inl hq,?_⟩;refine ⟨_,rfl,a,rfl,⟨_,hq⟩,λD hD=>?_⟩;refine bc (K:=K) (xs:=xs) (λi acc σ H2=>(∃ u,σ=[u])/\af H H2/\aA K (lim (upd H D (.lst [])) H2) acc ((ps.take i).map Pt.key)) ab ⟨⟨_,rfl⟩,af.new hD,.nil⟩ (λi acc σ H2 _ _ p=>p.2.1.seq hq) (λi x acc σ H2 hx hDx p=>?_) (λacc σ H2 hDx p=>?_)
  ·obtain ⟨⟨u,rfl⟩,p⟩:=p;obtain ⟨pt,e,dX⟩:=ml hds hx;have hi:i<ps.length:=aW e;have hal:acc.length=i:=by rw [p.2.length,PQ,Qg];lia
   refine dS ⟨_,rfl,x,pt,rfl,dX.same p.1,hok.2 pt (PU e),λr H4 s4 dr=>⟨acc,s4 _ _ hDx,small (by lia),_,ab,⟨_,rfl⟩,aF hD (p.1.trans s4),?_⟩⟩;rw [nV (ys:=[]) ab,eN e];exact (p.2.same (dw s4)).append (.cons (dr.same (e7 (Ek p.1 hDx))) .nil)
  ·obtain ⟨_,p⟩:=p;refine ⟨(by show 2<=sizeLine;decide),λt ht=>?_⟩;have hs:af H (upd H2 t (.tup [.int xs.length,.ref D])):=p.1.trans (af.new ht);rw [P4 (by lia)] at p;refine k _ _ hs ?_;have e:iM ps = .tuple [.int xs.length,.list (ps.map Pt.key)]:=by rw [hlen];rfl
   rw [e];have hDt:(upd H2 t (.tup [.int xs.length,.ref D])) D=some (.lst acc):=by rw [au (aw hDx ht)];exact hDx
   refine .tup (.of ((iu (p.1.free ht)).trans ab)) (.cons (.int _) (.cons (.lst (.of ((iu hD).trans hDt)) ?_) .nil));exact (p.2.same (dw (af.new ht))).same (e7 (af.new hD).ll)
theorem Af:aE ["patterns"] ["patterns"] (ak (top 34)):=⟨rfl,rfl,rfl,by decide +kernel,rfl,by decide +kernel,by decide +kernel⟩
theorem mS (T:Tx K mg A):ax P w K mg base CX0 6 A.ja A.jc ["patterns"] (jV K):=by
 have tG:ax P w K mg base CX0 3 A.iZ A.iS ["pattern"] (lK K):=(ud T).mono (by decide);refine T.ordered.fn.ok Af (λvs H Q E h=>?_) (λcdv Ar outer s H vs Q E hr h=>?_)
 ·obtain ⟨a,xs,pss,rfl,_⟩:=h;rfl
 ·obtain ⟨a,xs,pss,rfl,hq,hlen,hds,hok,k⟩:=h;refine ⟨_,ao (aC (bw (N':=["pattern"]) (n:=1) (fi:=[]) (g:=br 0) rfl (bH (ak (top 34)) ["patterns"] (by decide +kernel)) (bh (FV (a:=.int) (r:=Bc) .int tG hr T.lh.bd (by rfl) T.su (by rfl) T.lh.mg (aa (pv 0) (ae)))) (λs H fp=>aI (i:=0) (show (["pattern"]:List Str).Nodup by decide +kernel) rfl (Or.inl rfl) (.inr rfl)) (λs H fp=>a9) (λs H fp=>i6 (r:=oZ K) jD (by rfl) T.pC lZ (aa (pv 0) (ae))))),?_⟩;have hxl:xs.length=pss.length:=by rw [hds.length,PQ]
  refine ⟨_,rfl,_,rfl,a,xs,rfl,hq,hlen,?_⟩;refine uZ (K:=K) (H0:=H) xs (pss.map iM) [] [] H (by rw [PQ];exact hxl) (af.refl H) .nil (λi x d H2 Q2 hx hd s2 kk=>?_) (λks H1 s1 d1=>?_)
  ·obtain ⟨ps,e,dX⟩:=eR hds hx;rw [P7,e] at hd;cases hd;exact ⟨x,ps,rfl,dX.same s2,hok ps (PU e),λr H' sr dr=>kk r H' sr (dr.same jm)⟩
  ·have d1':aA K H1 ks (pss.map iM):=by simpa using d1
   refine ⟨pss.map iM,d1',λd hd=>?_,λd hd=>?_,λD0 p hD0 hp ho=>?_⟩
   ·obtain ⟨ps,_,rfl⟩:=P9.mp hd;exact AM ps
   ·obtain ⟨ps,_,rfl⟩:=P9.mp hd;exact F9 ps
   ·refine ⟨D0,rfl,⟨_,.of ab⟩,λD hD=>?_⟩;have hpl:p.length=xs.length:=by rw [hp.length_eq,QQ]
    have hp2:p.Perm (List.range pss.length):=by rw [<-hxl];exact hp
    have hsl:(sel pss p).length=xs.length:=by unfold sel;rw [PQ,hpl]
    have sb:af H (upd H1 D0 (.lst (picked xs p))):=s1.trans (af.new hD0);generalize hHb:upd H1 D0 (HO.lst (picked xs p))=Hb at sb hD;have MX:Hb D0=some (.lst (picked xs p)):=by rw [<-hHb];exact ab
    have hsD:af Hb (upd Hb D (.lst [])):=af.new hD;refine bc (K:=K) (xs:=picked xs p) (λi acc σ H2=>(∃ u,σ=[u])/\af Hb H2/\DK (upd Hb D (.lst [])) H2 acc/\aA K (lim (upd Hb D (.lst [])) H2) acc (((sel pss p).take i).map bj)) ab ⟨⟨_,rfl⟩,hsD,(λx hx=>by cases hx),.nil⟩ (λi acc σ H2 _ _ q=>.of (q.2.1 _ _ MX)) (λi x acc σ H2 hx hDx q=>?_) (λacc σ H2 hDx q=>?_)
    ·obtain ⟨q0,s2,fr,dn⟩:=q;apply fU q0;clear q0;intro u;obtain ⟨ps,hps,EM,dX⟩:=HZ hds hp2 hx;obtain ⟨a',ys',rfl,hq',hd'⟩:=iB dX;have hal:acc.length=i:=by rw [dn.length,PQ,Qg];have:=aW hps;lia
     have hil:i<xs.length:=by rw [<-hsl];exact aW hps
     refine dS ⟨_,rfl,a',ys',rfl,.inl ((sb.trans s2).seq hq'),λl hl=>?_⟩;have hlD:l≠D:=(aw hDx hl).symm;have hlb:(upd Hb D (.lst [])) l=none:=by rw [au hlD];exact s2.free hl
     have sl:af H2 (upd H2 l (.lst ys')):=af.new hl;refine ⟨acc,sl _ _ hDx,small (by lia),_,ab,⟨_,rfl⟩,aF hD (s2.trans sl),?_,?_⟩
     ·intro x hx;rcases Qc.mp hx with hx | hx
      ·obtain ⟨t,ys,rfl,h1,h2,h3⟩:=fr x hx;have htD:t≠D:=λe=>by subst e;rw [ab] at h1;cases h1
       exact ⟨t,ys,rfl,h1,by rw [au htD];exact sl _ _ h2,h3⟩
      ·simp only [PZ] at hx;subst hx;exact ⟨l,ys',rfl,hlb,by rw [au hlD];exact ab,by rw [hd'.length,PQ];exact (hok ps EM).1⟩
     ·rw [nV (ys:=[]) ab,eN hps];exact (dn.same (dw sl)).append (.cons (.lst (.of ((iu hlb).trans ab)) (Cc (sb.trans hsD) ((sb.trans s2).trans sl) hd')) .nil)
    ·obtain ⟨_,s2,fr,dn⟩:=q;have hpk:(picked xs p).length=xs.length:=by rw [nH,hpl]
     rw [P4 (by lia)] at dn;refine k D acc H2 (sel pss p) (sb.free hD) (sb.trans s2) hDx (D1 hp2) (A2 hp2 ho) (λx hx=>?_) (λx hx=>?_) (dn.same (e7 (sb.trans hsD).ll))
     ·obtain ⟨t,ys,rfl,h1,h2,h3⟩:=fr x hx;exact ⟨t,ys,rfl,(sb.trans hsD).free h1,h2,h3⟩
     ·obtain ⟨t,ys,rfl,h1,h2,h3⟩:=fr x hx;intro e;cases e;rw [ab] at h1;cases h1
theorem lT:aE ["line","patterns","fitting"] ["line","patterns"] (ak (top 48)):=⟨rfl,rfl,rfl,by decide +kernel,rfl,by decide +kernel,by decide +kernel⟩
theorem tM (T:Tx K mg A):ax P w K mg base CX0 7 A.iY A.iU ["line","patterns"] (km K):=by
 have i4:ax P w K mg base CX0 6 A.ja A.jc ["patterns"] (jV K):=(mS T).mono (by decide);have wI:ax P w K mg base CX0 5 A.k9 A.lR ["pattern"] (oq K):=(v5 T).mono (by decide);have JD:ax P w K mg base CX0 6 A.Aa A.zP ["pattern","line"] (Cb K):=(Gw T).mono (by decide);refine T.dA.fn.ok lT (λvs H Q E h=>?_) (λcdv Ar outer s H vs Q E hr h=>?_)
 ·obtain ⟨z,a,xs,pss,rfl,_⟩:=h;rfl
 ·obtain ⟨z,a,xs,pss,rfl,hq,h64,hds,hok,hz,hzs,k⟩:=h;have hxl:xs.length=pss.length:=by rw [hds.length,PQ]
  refine ⟨_,ag (aY (i:=2) lT.nd rfl (Or.inl rfl) (av i4 hr (by rfl) T.ordered.mg T.ordered.fn.kp T.ordered.bd .nil ay (aa (bw (N':=["pattern","line"]) (n:=1) (fi:=[0]) (g:=br 0) rfl (bH (ak (top 48)) ["line","patterns","fitting"] (by decide +kernel)) (bh (pv 1)) (λs H fp=>aI (i:=0) (show (["pattern","line"]:List Str).Nodup by decide +kernel) rfl (Or.inl rfl) (.inr rfl)) (λs H fp=>k7 (cJ (av JD hr (by rfl) T.fits.mg T.fits.fn.kp T.fits.bd .nil ay (aa (pv 0) (aa (pv 1) (ae)))))) (λs H fp=>pv 0)) (ae))))
   (ao (aC (HK wI hr T.p8.bd rfl (by rfl) T.Jg (by rfl) T.p8.mg (aa (pv 2) (ae))))),?_⟩
  refine ⟨_,rfl,a,rfl,⟨_,hq⟩,λD hD=>?_⟩;refine bc (K:=K) (xs:=xs) (λi acc σ H2=>(∃ u,σ=[u,some (.str z)])/\af H H2/\aA K H acc (((pss.take i).filter (eY z)).map bj)) ab ⟨⟨_,rfl⟩,af.new hD,.nil⟩ (λi acc σ H2 _ _ q=>q.2.1.seq hq) (λi x acc σ H2 hx hDx q=>?_) (λacc σ H2 hDx q=>?_)
  ·obtain ⟨q0,s2,dn⟩:=q;apply fU q0;clear q0;intro u;obtain ⟨ps,hpi,hdp⟩:=eR hds hx;have hi:=aW hpi;have hal:acc.length<=i:=by
    rw [dn.length,PQ];exact P2 (QX _ _) (by rw [Qg];lia)
   have et:pss.take (i+1)=pss.take i++[ps]:=by rw [Qn,hpi];rfl
   refine ⟨_,rfl,_,rfl,x,z,ps,rfl,hdp.same s2,(hok ps (PU hpi)).2,hz,hzs,λH4 s4=>⟨_,rfl,?_⟩⟩;by_cases hf:eY z ps=true
   ·have hf':cn ps (Txt.split z " ")=true:=hf;rw [hf'];refine ck ?_;refine ⟨_,rfl,acc,s4 _ _ hDx,small (by lia),_,ab,⟨_,rfl⟩,aF hD (s2.trans s4),?_⟩;rw [et,QV,Qa];have e2:[ps].filter (eY z)=[ps]:=by simp [hf]
    rw [e2];exact dn.append (.cons hdp .nil)
   ·have hf':cn ps (Txt.split z " ")=false:=Qe.mpr hf;rw [hf'];refine bf ⟨acc,s4 _ _ hDx,⟨_,rfl⟩,s2.trans s4,?_⟩;have e2:[ps].filter (eY z)=[]:=by simp [hf]
    rw [et,QV,e2,QD];exact dn
  ·obtain ⟨_,s2,dn⟩:=q;rw [P4 (by lia)] at dn;have hfl:(pss.filter (eY z)).length<=pss.length:=QX _ _;have hal:acc.length=(pss.filter (eY z)).length:=by rw [dn.length,PQ]
   refine ⟨D,acc,pss.filter (eY z),rfl,.of hDx,by lia,dn.same s2,λps hps=>hok ps ((QY.mp hps).1),λD2 eT H5 l hD2 s5 Ou bi kC fr hne dn2=>?_⟩;have hl2:eT.length=l.length:=by rw [dn2.length,PQ]
   have MY:∀ ps∈l,POk ps:=λps hps=>hok ps ((QY.mp (bi.mem_iff.mp hps)).1);refine ⟨_,rfl,_,rfl,?_⟩;refine vK (kds:=l.map looseD) (Sh.ok (.list .int)) (.of Ou) (by rw [PQ];exact hl2) (λd hd=>?_) (λm x d H6 Q6 hx hd s6 kk=>?_) (λKm=>?_) (λhnn H6 s6=>?_)
   ·obtain ⟨ps,_,rfl⟩:=P9.mp hd;exact ⟨tJ ps,CH ps⟩
   ·obtain ⟨ps,hpm,dX⟩:=eR dn2 hx;rw [P7,hpm] at hd;cases hd;exact ⟨x,ps,rfl,(dX.same jm).same s6,MY ps (PU hpm),λD7 H7 hD7 s7 NQ=>kk (.ref D7) H7 s7 (.lst (.of NQ) vk)⟩
   ·subst Km;have hln:l=[]:=QC (by rw [<-hl2];rfl);subst hln;exact k .non H5 (s2.trans s5) (.inl ⟨bi.symm.eq_nil,rfl⟩)
   ·have hln:l≠[]:=λe=>hnn (QC (by rw [hl2,e];rfl));obtain ⟨ps,hps,Er⟩:=DQ hln kC;have hlt:cw (l.map looseD)<eT.length:=by rw [hl2];exact aW hps
    have hx:eT[cw (l.map looseD)]? = some eT[cw (l.map looseD)]:=PV hlt;have nJ:eT.getD (cw (l.map looseD)) .non=eT[cw (l.map looseD)]:=by simp [List.getD,hx]
    rw [nJ];obtain ⟨t,ys,ht,h1,h2,h3⟩:=fr _ (PU hx);obtain ⟨ps',GZ,dX⟩:=eR dn2 hx;rw [hps] at GZ;cases GZ;refine k _ H6 ((s2.trans s5).trans s6) (.inr ⟨t,ys,ps,ht,s2.free h1,s6 _ _ h2,⟨bi.mem_iff.mp Er.1,λq hq=>Er.2 q (bi.mem_iff.mpr hq)⟩,?_⟩);exact (dX.same (dw s6)).same (e7 s2.ll)
def nu (K:Vz):Sp:=λvs H Q _=>∃ (a b:Addr) (xs:List V) (ks:List Key),vs=[.ref a,.ref b]/\SqL K H a xs/\SqL K H b (ks.map kV)/\ks.length=xs.length/\xs.length<=1000 /\
 ∀ (D:Addr) (as:List Addr) H',H D=none->af H H'->H' D=some (.lst (as.map V.ref))->(∀ a∈as,H a=none)->fR (λa g=>H' a=some (.lst g)) as (grp ks xs)->Q (.ref D) H'
theorem jF:aE ["rows","keys","groups","row","key"] ["rows","keys"] (ak (top 37)):=⟨rfl,rfl,rfl,by decide +kernel,rfl,by decide +kernel,by decide +kernel⟩
theorem sj (T:Tx K mg A):ax P w K mg base CX0 1 A.mx A.l8 ["rows","keys"] (nu K):=by
 refine T.jJ.fn.ok jF (λvs H Q E h=>?_) (λcdv Ar outer s H vs Q E hr h=>?_)
 ·obtain ⟨a,b,xs,ks,rfl,_⟩:=h;rfl
 ·obtain ⟨a,b,xs,ks,rfl,hqa,hqb,hl,hle,k⟩:=h;refine ⟨_,ag (aY (i:=2) jF.nd rfl (Or.inl rfl) (FN))
   (ag (fZ PassesOwn.never rfl (w5 (by rfl) T.Bo (aa (pv 0) (aa (pv 1) (ae)))) (jL rfl (bK (aI (i:=3) jF.nd rfl (Or.inl rfl)) (bK (aI (i:=4) jF.nd rfl (Or.inl rfl)) (gy)))) (ao (be (cQ PySem.F.plainAttrs_list PySem.F.slot_list_append PySem.F.type_list_append cm (Gz (pv 2) (pv 4) (bu (ae)) ⟨rfl,rfl,rfl,rfl⟩) (aa (pv 3) (ae))))))
   (ao (aC (DL rfl (by rfl) T.pC lZ (pv 2))))),?_⟩
  intro G hG;have sG:af H (upd H G (.dK [])):=af.new hG;have hGG:(upd H G (.dK [])) G=some (.dK []):=ab;refine ⟨_,rfl,_,rfl,a,b,rfl,⟨_,sG.seq hqa⟩,⟨_,sG.seq hqb⟩,?_⟩;generalize upd H G (.dK [])=H1 at sG hGG ⊢;refine Bp (K:=K) (xs:=xs) (ys:=ks.map kV) (λi σ H2=>(∃ u v,σ=[some (.ref a),some (.ref b),some (.ref G),u,v])/\af H H2/\∃ (as:List Addr) (kvs:List (Key×V)),H2 G=some (.dK kvs)/\GL H H2 G as kvs (cZ ((ks.zip xs).take i))/\kvs.length<=i/\∀ g∈(cZ ((ks.zip xs).take i)).map (·.2),g.length<=i)
   ⟨⟨_,_,rfl⟩,sG,[],[],hGG,.nil,PR _,λg hg=>by cases hg⟩ (λi σ H2 q=>⟨q.2.1.seq hqa,q.2.1.seq hqb⟩) (λi x y σ H2 p hx hy q hp=>?_) (λσ H2 q=>?_)
  ·obtain ⟨q0,s2,as,kvs,hG2,gl,hkl,hgl⟩:=q;apply n6 q0;clear q0;intro u v;have hi:=aW hx;rw [P7] at hy;obtain ⟨ky,hky,rfl⟩:∃ ky,ks[i]? = some ky/\y=kV ky:=by
    cases e:ks[i]? with
    | none=>rw [e] at hy;cases hy
    | some ky=>rw [e] at hy;cases hy;exact ⟨ky,rfl,rfl⟩
   have hz:(ks.zip xs)[i]? = some (ky,x):=by rw [Rw];exact ⟨hky,hx⟩
   have sp:af H2 (upd H2 p (.tup [x,kV ky])):=af.new hp;have hpp:(upd H2 p (.tup [x,kV ky])) p=some (.tup [x,kV ky]):=ab;have hGp:G≠p:=aw hG2 hp;have s3:=s2.trans sp;have hG3:=sp _ _ hG2;have gl3:GL H (upd H2 p (.tup [x,kV ky])) G as kvs (cZ ((ks.zip xs).take i)):=gl.keep λc hc=>by
    obtain ⟨⟨g,e⟩,_⟩:=gl.mem c hc;exact au (aw e hp)
   generalize upd H2 p (.tup [x,kV ky])=H3 at sp hpp s3 hG3 gl3 ⊢;refine ⟨p,_,rfl,.of hpp,rfl,_,_,rfl,_,_,rfl,rfl,?_⟩;refine ⟨_,rfl,G,rfl,.inl ⟨kvs,.of hG3⟩,_,rfl,Qb _,λL hL=>?_⟩;have sL:af H3 (upd H3 L (.lst [])):=af.new hL;have hLL:(upd H3 L (.lst [])) L=some (.lst []):=ab;have hGL:L≠G:=(aw hG3 hL).symm;have Ll:L∉as:=λz=>by
    obtain ⟨⟨g,e⟩,_⟩:=gl3.mem L z;rw [hL] at e;cases e
   have hL0:H L=none:=s3.free hL;have s4:=s3.trans sL;have hG4:=sL _ _ hG3;have gl4:GL H (upd H3 L (.lst [])) G as kvs (cZ ((ks.zip xs).take i)):=gl3.keep λc hc=>by
    obtain ⟨⟨g,e⟩,_⟩:=gl3.mem c hc;exact au (aw e hL)
   generalize upd H3 L (.lst [])=H4 at sL hLL s4 hG4 gl4 ⊢;have hex:cZ ((ks.zip xs).take (i+1))=bZ (cZ ((ks.zip xs).take i)) ky x:=yy hz;have hlen:∀ g∈(bZ (cZ ((ks.zip xs).take i)) ky x).map (·.2),g.length<=i+1:=λg hg=>by
    obtain ⟨q,hq,rfl⟩:=P9.mp hg;unfold bZ at hq
    split at hq
    ·obtain ⟨q',hq',rfl⟩:=P9.mp hq;have:=hgl q'.2 (Q8 hq')
     split
     ·show (q'.2++[x]).length<=_;rw [PX,P8];lia
     ·lia
    ·rcases Qc.mp hq with z | z
     ·have:=hgl q.2 (Q8 z);lia
     ·rw [PZ.mp z];show 1<=_;lia
   refine ⟨kvs,ky,hG4,rfl,small (by lia),λv' hv'=>?_,λhn=>?_⟩
   ·obtain ⟨c,g,rfl,hc,hcg,hgm,glN⟩:=gl4.grow (x:=x) hv';have hcm:=gl4.mem c hc;refine ⟨.inl ⟨rfl,_,.of hcg⟩,_,rfl,c,g,_,rfl,rfl,hcg,small (by have:=hgl g hgm;lia),?_⟩;refine ⟨⟨_,_,rfl⟩,aF hcm.2.1 s4,as,kvs,by rw [au hcm.2.2.symm];exact hG4,by rw [hex];exact glN,by lia,by rw [hex];exact hlen⟩
   ·have hGn:H G=none:=hG;have hLu:(upd H4 G (.dK (putK kvs ky (.ref L)))) L=some (.lst []):=by rw [au hGL];exact hLL
    refine ⟨.inl ⟨rfl,_,.of hLu⟩,_,rfl,L,[],_,rfl,rfl,hLu,small (by decide),?_⟩;have hL6:(upd (upd H4 G (.dK (putK kvs ky (.ref L)))) L (.lst ([]++[x]))) L=some (.lst [x]):=ab;have gl6:GL H (upd (upd H4 G (.dK (putK kvs ky (.ref L)))) L (.lst ([]++[x]))) G as kvs (cZ ((ks.zip xs).take i)):=gl4.keep λc hc=>by
     have:=gl4.mem c hc;rw [au (λ(z:c=L)=>Ll (z ▸ hc)),au this.2.2]
    obtain ⟨e1,glN⟩:=gl6.more hn hL6 hL0 hGL Ll;refine ⟨⟨_,_,rfl⟩,aF hL0 (aF hGn s4),as++[L],kvs++[(ky,.ref L)],by rw [au hGL.symm,ab,e1],by rw [hex];exact glN,by rw [PX,P8];lia,by rw [hex];exact hlen⟩
  ·obtain ⟨q0,s2,as,kvs,hG2,gl,hkl,hgl⟩:=q;apply n6 q0;clear q0;intro u v;have hm:min xs.length (ks.map kV).length=(ks.zip xs).length:=by rw [PQ,List.length_zip,Nat.min_comm]
   rw [hm,P4 (PR _)] at gl;refine ⟨_,rfl,G,kvs,rfl,.of hG2,λD hD=>?_⟩;rw [gl.vals];have sD:af H2 (upd H2 D (.lst (as.map V.ref))):=af.new hD;exact k D as _ (s2.free hD) (s2.trans sD) ab (λc hc=>(gl.mem c hc).2.1) (gl.lists.mono λc g e=>sD _ _ e)
def ir (K:Vz):Sp:=λvs H Q _=>∃ (u:V) (p n:Nat) (wss:List (List Str)),vs=[u,.int p]/\Den K H u (gD wss)/\GOk n wss/\p<n /\
 ∀ (D:Addr) H',H D=none->af H H'->H' D=some (.lst ((wAt wss p).map V.str))->Q (.ref D) H'
def iw (K:Vz):Sp:=λvs H Q _=>∃ (u:V) (p n:Nat) (wss:List (List Str)),vs=[u,.int p]/\Den K H u (gD wss)/\GOk n wss/\p<n /\
 ∀ H',af H H'->Q (.int (uAt wss p).length) H'
def fN (K:Vz):Sp:=λvs H Q _=>∃ (u:V) (p n:Nat) (wss:List (List Str)) (t:Addr) (s l:Int),vs=[u,.int p,.ref t]/\Den K H u (gD wss)/\GOk n wss/\p<n/\SqT K H t [.int s,.int l] /\
 ∀ H',af H H'->Q (.bl (gb wss p s l)) H'
theorem zt:aE ["group","place"] ["group","place"] (ak (top 38)):=⟨rfl,rfl,rfl,by decide +kernel,rfl,by decide +kernel,by decide +kernel⟩
theorem kH (T:Tx K mg A):ax P w K mg base CX0 1 A.gF A.gX ["group","place"] (ir K):=by
 refine T.eu.fn.ok zt (λvs H Q E h=>?_) (λcdv Ar outer s H vs Q E hr h=>?_)
 ·obtain ⟨u,p,n,wss,rfl,_⟩:=h;rfl
 ·obtain ⟨u,p,n,wss,rfl,hd,ok,hp,k⟩:=h;obtain ⟨a,xs,rfl,hq,hds⟩:=Bq hd;have hxl:xs.length=wss.length:=by rw [hds.length,PQ]
  refine ⟨_,ao (aC (bw (N':=["words","place"]) (n:=1) (fi:=[1]) (g:=br 0) rfl (bH (ak (top 38)) ["group","place"] (by decide +kernel)) (bh (pv 0)) (λs H fp=>aI (i:=0) (show (["words","place"]:List Str).Nodup by decide +kernel) rfl (Or.inl rfl) (.inr rfl)) (λs H fp=>a9) (λs H fp=>aU (r:=dE K) aX (pv 0) (pv 1) (λ_ _=>rfl)))),?_⟩;refine ⟨_,rfl,a,rfl,⟨_,hq⟩,λD hD=>?_⟩;refine bc (K:=K) (xs:=xs) (λi acc σ H4=>(∃ u,σ=[u,some (.int p)])/\af H H4/\acc=(wAt (wss.take i) p).map V.str) ab ⟨⟨_,rfl⟩,af.new hD,rfl⟩ (λi acc σ H4 _ _ q=>q.2.1.seq hq) (λi x acc σ H4 hx hDx q=>?_) (λacc σ H4 hD4 q=>?_)
  ·obtain ⟨q0,s4,rfl⟩:=q;apply fU q0;clear q0;intro u;have hi:=aW hx;obtain ⟨ws,r,hw,rfl,hqr⟩:=rg hds hx;have zK:=ok.row ws (PU hw);have hpw:p<ws.length:=by lia
   have hat:(ws.map V.str)[p]? = some (.str (ws.getD p Str.empty)):=by rw [P7,Qf,PV hpw];rfl
   have hle:=ok.le;refine dS ⟨_,rfl,_,rfl,r,_,_,_,rfl,rfl,s4.seq hqr,cL hat,_,hDx,small (by unfold wAt;rw [PQ,PQ,Qg];lia),_,ab,⟨_,rfl⟩,aF hD s4,?_⟩;rw [Ec hw,Qa];rfl
  ·obtain ⟨_,s4,rfl⟩:=q;rw [hxl,P4 (PR _)] at hD4;exact k D H4 hD s4 hD4
theorem nM:aE ["group","place"] ["group","place"] (ak (top 39)):=⟨rfl,rfl,rfl,by decide +kernel,rfl,by decide +kernel,by decide +kernel⟩
theorem om (T:Tx K mg A):ax P w K mg base CX0 2 A.ff A.fq ["group","place"] (iw K):=by
 have gU:ax P w K mg base CX0 1 A.gF A.gX ["group","place"] (ir K):=(kH T).mono (by decide);refine T.eZ.fn.ok nM (λvs H Q E h=>?_) (λcdv Ar outer s H vs Q E hr h=>?_)
 ·obtain ⟨u,p,n,wss,rfl,_⟩:=h;rfl
 ·obtain ⟨u,p,n,wss,rfl,hd,ok,hp,k⟩:=h;refine ⟨_,ao (aC (wU Du rfl (by rfl) T.cq PySem.boot_len (by rfl) T.Ej zF (aa (av gU hr (by rfl) T.eu.mg T.eu.fn.kp T.eu.bd .nil ay (aa (pv 0) (aa (pv 1) (ae)))) (ae)))),?_⟩;refine ⟨_,rfl,_,rfl,u,p,n,wss,rfl,hd,ok,hp,λD H1 hD s1 hDD=>⟨D,_,rfl,.of hDD,Ro (ok.Ke p) (by decide),k H1 s1⟩⟩
theorem Gj {α:Type}{l m:List α}{f:α->Bool} (h:l.Perm m):l.all f=m.all f:=by
 rw [Qp,Qs,Qs];exact ⟨λq x hx=>q x (h.mem_iff.mpr hx),λq x hx=>q x (h.mem_iff.mp hx)⟩
theorem C7 (ws:List Str):(ws.map V.str).all hJ=true:=by
 rw [Qs];intro x hx;obtain ⟨w,_,rfl⟩:=P9.mp hx;rfl
theorem zT (ws:List Str) (w:Str):(ws.map V.str).countP (λz=>eqV z (.str w))=ws.countP λz=>decide (z=w):=by
 rw [List.countP_map];rfl
theorem bP:aE ["group","place","sieve","spread","least","words","unlike"] ["group","place","sieve"] (ak (top 40)):=⟨rfl,rfl,rfl,by decide +kernel,rfl,by decide +kernel,by decide +kernel⟩
theorem lN (T:Tx K mg A):ax P w K mg base CX0 2 A.dU A.d4 ["group","place","sieve"] (fN K):=by
 have gU:ax P w K mg base CX0 1 A.gF A.gX ["group","place"] (ir K):=(kH T).mono (by decide);refine T.du.fn.ok bP (λvs H Q E h=>?_) (λcdv Ar outer s H vs Q E hr h=>?_)
 ·obtain ⟨u,p,n,wss,t,s,l,rfl,_⟩:=h;rfl
 ·obtain ⟨u,p,n,wss,t,s,l,rfl,hd,ok,hp,hqt,k⟩:=h;refine ⟨_,ag (lC (pv 2) (jL rfl (bK (aI (i:=3) bP.nd rfl (Or.inl rfl)) (bK (aI (i:=4) bP.nd rfl (Or.inr rfl)) (gy)))))
   (ag (aY (i:=5) bP.nd rfl (Or.inr rfl) (av gU hr (by rfl) T.eu.mg T.eu.fn.kp T.eu.bd .nil ay (aa (pv 0) (aa (pv 1) (ae)))))
   (ag (aY (i:=6) bP.nd rfl (Or.inl rfl) (wU (o8 rfl hr) rfl (by rfl) T.su vO (by rfl) T.Ej zF (aa (pv 5) (ae))))
   (ao (aC (fg (xT zv zv (ar) (aK (r:=cH K) aV (by rfl) T.cq PySem.boot_len (aa (pv 6) (ae))) (pv 3)) (iP (aK (r:=Dr K) (lG rfl) (by rfl) T.yu rP (aa (bw (N':=["word","least","words"]) (n:=1) (fi:=[4,5]) (g:=br 0) rfl (bH (ak (top 40)) ["group","place","sieve","spread","least","words","unlike"] (by decide +kernel)) (bh (pv 6)) (λs H fp=>aI (i:=0) (show (["word","least","words"]:List Str).Nodup by decide +kernel) rfl (Or.inl rfl) (.inr rfl)) (λs H fp=>a9) (λs H fp=>bJ (Ca) (Ee (K:=K) rfl (r:=EJ K) PySem.F.plainAttrs_list PySem.F.slot_list_count PySem.F.type_list_count DN (pv 2) (aa (pv 0) (ae))) (pv 1) (aG _))) (ae))))))))),?_⟩
  refine ⟨_,rfl,t,_,rfl,hqt,rfl,_,_,rfl,_,_,rfl,rfl,?_⟩;refine ⟨_,rfl,_,rfl,u,p,n,wss,rfl,hd,ok,hp,λW H1 hW s1 hWW=>?_⟩;refine ⟨_,rfl,W,_,rfl,.of hWW,Ro (ok.Ke p) (by decide),ok.Ls p,λU ms hU bi hup=>?_⟩;have sU:af H1 (upd H1 U (.lst (ms.map V.str))):=af.new hU;have hUU:(upd H1 U (.lst (ms.map V.str))) U=some (.lst (ms.map V.str)):=ab;have hW2:=sU _ _ hWW;have s2:=s1.trans sU;generalize upd H1 U (.lst (ms.map V.str))=H2 at sU hUU hW2 s2 ⊢;have hml:ms.length=(uAt wss p).length:=bi.length_eq;have hlen:((ms.map V.str).length:Int)=((uAt wss p).length:Int):=by rw [PQ,hml]
  refine ⟨_,rfl,U,_,rfl,.inl (.of hUU),_,_,rfl,rfl,_,rfl,?_⟩;rw [hlen];cases c1:decide ((2:Int)<=((uAt wss p).length:Int)) with
  | false=>
   refine bf ⟨_,rfl,bf ?_⟩;have e:gb wss p s l=false:=by unfold gb;rw [c1];rfl
   rw [<-e];exact k H2 s2
  | true=>
   refine ck ⟨_,rfl,_,_,rfl,rfl,_,rfl,?_⟩;cases c2:decide (((uAt wss p).length:Int)<=s) with
   | false=>
    refine bf ?_;have e:gb wss p s l=false:=by unfold gb;rw [c1,c2];rfl
    show Q (.bl false) H2;rw [<-e];exact k H2 s2
   | true=>
    refine ck ⟨_,rfl,U,rfl,⟨_,.of hUU⟩,λB hB=>?_⟩;refine bc (K:=K) (xs:=ms.map V.str) (λi acc σ H4=>(∃ u,σ=[u,some (.int l),some (.ref W)])/\af H2 H4/\acc=((ms.take i).map λw=>decide (l<=((wAt wss p).countP λz=>decide (z=w):Nat))).map V.bl) ab ⟨⟨_,rfl⟩,af.new hB,rfl⟩ (λi acc σ H4 _ _ q=>.of (q.2.1 _ _ hUU)) (λi x acc σ H4 hx hBx q=>?_) (λacc σ H4 hB4 q=>?_)
    ·obtain ⟨q0,s4,rfl⟩:=q;apply fU q0;clear q0;intro u';obtain ⟨w',hw,rfl⟩:=fG hx;have hi:=aW hw;have hu:=ok.Ls p;have hW4:=s4 _ _ hW2;refine dS ⟨_,rfl,.inl ⟨rfl,_,.of hW4⟩,_,rfl,W,_,_,rfl,rfl,.of hW4,rfl,C7 _,_,rfl,_,_,rfl,rfl,?_⟩;refine ⟨_,hBx,small (by rw [PQ,PQ,Qg];lia),_,ab,⟨_,rfl⟩,aF hB s4,?_⟩;rw [zT,Qn,hw];simp
    ·obtain ⟨_,s4,rfl⟩:=q;rw [PQ,P4 (PR _)] at hB4;refine ⟨B,_,rfl,.of hB4,?_⟩;have e:gb wss p s l=((ms.map λw=>decide (l<=((wAt wss p).countP λz=>decide (z=w):Nat))).all id):=by
      unfold gb;rw [c1,c2,List.all_map,RB,RB];exact (Gj bi).symm
     rw [<-e];exact k H4 (s2.trans s4)
def MK:Str:=("place_to_part_at" : Str) ++ ".<locals>." ++ "<lambda>"
def bz (P:Addr) (H:Hp):Prop:=fO P ⟨122,27,122,69⟩ MK H
def gf (K:Vz) (P:Addr):Sp:=λvs H Q _=>∃ (u:V) (n:Nat) (wss:List (List Str)) (t:Addr) (s l:Int),vs=[u,.ref t]/\Den K H u (gD wss)/\GOk n wss/\SqT K H t [.int s,.int l]/\bz P H /\
 ∀ H',af (wo P H) H'->bz P H'->Q (M5 (plc wss n s l)) H'
theorem gh:aE ["group","sieve","places"] ["group","sieve"] (ak (top 41)):=⟨rfl,rfl,rfl,by decide +kernel,rfl,by decide +kernel,by decide +kernel⟩
theorem mF (T:Tx K mg A):ax P w K mg base CX0 5 A.eG A.cO ["group","sieve"] (gf K A.aq):=by
 have mE:ax P w K mg base CX0 4 A.dU A.d4 ["group","place","sieve"] (fN K):=(lN T).mono (by decide);have oh:ax P w K mg base CX0 2 A.ff A.fq ["group","place"] (iw K):=(om T).mono (by decide);refine T.dP.fn.okC T.lam.code gh (λvs H Q E h=>?_) (λAr outer s H vs Q E hr h=>?_)
 ·obtain ⟨u,n,wss,t,s,l,rfl,_⟩:=h;rfl
 ·obtain ⟨u,n,wss,t,s',l,rfl,hd,ok,hqt,hla,k⟩:=h;obtain ⟨a,xs,rfl,hq,hds⟩:=Bq hd;have hxl:xs.length=wss.length:=by rw [hds.length,PQ]
  have hlen:0<wss.length:=Ry.mpr ok.ne;have hx0:xs[0]? = some xs[0]:=PV (by lia);obtain ⟨ws0,r0,hw0,er0,Nk⟩:=rg hds hx0;have MN:=ok.row ws0 (PU hw0);have h12:=ok.Ga;refine ⟨_,ag (oV (i:=2) (N':=["place","group","sieve"]) (n:=1) (fi:=[0,1]) (g:=br 0) gh.nd rfl (Or.inl rfl) rfl (bH (ak (top 41)) ["group","sieve","places"] (by decide +kernel)) (dR (by rfl) T.gm (aa (aK (r:=cH K) aV (by rfl) T.cq PySem.boot_len (aa (aU (r:=dE K) aX (pv 0) (ar) (λ_ _=>rfl)) (ae))) (ae))) (λs H fp=>aI (i:=0) (show (["place","group","sieve"]:List Str).Nodup by decide +kernel) rfl (Or.inl rfl) (.inr rfl)) (λs H fp=>k7 (cJ (av mE hr (by rfl) T.du.mg T.du.fn.kp T.du.bd .nil ay (aa (pv 1) (aa (pv 0) (aa (pv 2) (ae))))))) (λs H fp=>pv 0))
   (ao (aC (Iz (P:=A.aq) (y:= "place") (N':=["place","group"]) (fi:=[0]) rfl hr (Jw (ak (top 41)) ["group","sieve","places"] (by decide +kernel)) rfl T.lam.hd T.lam.bm (λq c' s H=>av oh (hr.in1.deeper _) (by rfl) T.eZ.mg T.eZ.fn.kp T.eZ.bd .nil ay (aa (pv 1) (aa (pv 0) (ae)))) (by rfl) T.Jg (aa (pv 2) (ae))))),?_⟩
  rw [er0] at hx0;refine ⟨_,rfl,a,xs,0,_,rfl,rfl,hq,cL (j:=0) hx0,r0,_,rfl,.inl Nk,(n:Int),?_,by lia,by lia,λD hD=>?_⟩
  ·rw [PQ,MN.1]
  refine gQ (λi acc σ H4=>(∃ u,σ=[u,some (.ref a),some (.ref t)])/\af H H4/\acc=(jo wss i s' l).map λp=>V.int (p:Nat)) ab ⟨⟨_,rfl⟩,af.new hD,rfl⟩ (λi acc σ H4 hi hDx q=>?_) (λacc σ H4 hD4 q=>?_)
  ·obtain ⟨q0,s4,rfl⟩:=q;apply fU q0;clear q0;intro u';have hi':i<n:=by lia
   have hpl:=Fq (wss:=wss) (i:=i) (s:=s') (l:=l);have e0:((0:Int)+(i:Int))=((i:Nat):Int):=by lia
   refine ⟨_,rfl,_,rfl,_,rfl,.ref a,i,n,wss,t,s',l,?_,hd.same s4,ok,hi',s4.b8 hqt,λH5 s5=>⟨_,rfl,?_⟩⟩
   ·rw [e0];rfl
   rw [Dv];cases hf:gb wss i s' l with
   | true=>
    refine ck ⟨_,rfl,_,s5 _ _ hDx,small (by rw [PQ];lia),_,ab,⟨_,rfl⟩,aF hD (s4.trans s5),?_⟩;have e2:[i].filter (λp=>gb wss p s' l)=[i]:=by simp [hf]
    rw [e2,Qa,e0];rfl
   | false=>
    refine bf ⟨_,s5 _ _ hDx,⟨_,rfl⟩,s4.trans s5,?_⟩;have e2:[i].filter (λp=>gb wss p s' l)=[]:=by simp [hf]
    rw [e2,QD]
  ·obtain ⟨_,s4,rfl⟩:=q;have la4:bz A.aq H4:=aN hla s4;refine ⟨_,rfl,.ref D,rfl,la4,λc H5 hn la5 hcx=>?_⟩;have sw:af (wo A.aq H4) H5:=EA hn;obtain ⟨ps,htb⟩:=aP la4;have hd5:Den K H5 (.ref a) (gD wss):=(Br htb (hd.same s4)).same sw;have hD5:H5 D=_:=wQ sw htb hD4 λqs e=>by cases e
   have s05:af (wo A.aq H) H5:=(mh s4).trans sw;have en:(n:Int).toNat=n:=by lia
   refine vK (kds:=(jo wss n s' l).map λp=>.int (uAt wss p).length) (Sh.ok .int) (.of hD5) (by rw [PQ,PQ,en]) (λd hd=>?_) (λm x d H6 Q6 hx hd s6 kk=>?_) (λKm=>?_) (λhnn H6 s6=>?_)
   ·obtain ⟨p,_,rfl⟩:=P9.mp hd;exact ⟨⟨_,rfl⟩,HE _⟩
   ·rw [en,P7] at hx;rw [P7] at hd;cases e:(jo wss n s' l)[m]? with
    | none=>rw [e] at hx;cases hx
    | some p=>
     rw [e] at hx hd;cases hx;cases hd;have hp:=(xZ (PU e)).1;exact ⟨_,rfl,s6 _ _ hcx,_,rfl,_,rfl,.ref a,p,n,wss,rfl,hd5.same s6,ok,hp,λH7 s7=>kk _ H7 s7 (.int _)⟩
   ·have e:plc wss n s' l=none:=by
     unfold plc;rw [if_pos];have:=QN.mp Km
     rwa [en] at this
    have:=k H5 s05 la5;rw [e] at this;exact this
   ·rw [en] at hnn ⊢;have hne:jo wss n s' l≠[]:=λe=>hnn (by rw [e];rfl);have hl:=xR wss _ hne;have e:plc wss n s' l=some ((jo wss n s' l).getD (cw ((jo wss n s' l).map λp=>.int (uAt wss p).length)) 0):=by unfold plc;rw [if_neg hne]
    have:=k H6 (s05.trans s6) (aN la5 s6);rw [e] at this;have e2:((jo wss n s' l).map λp=>V.int (p:Nat)).getD (cw ((jo wss n s' l).map λp=>.int (uAt wss p).length)) .non=V.int ((jo wss n s' l).getD (cw ((jo wss n s' l).map λp=>.int (uAt wss p).length)) 0:Nat):=by
     rw [Qf,P7,Qf,PV hl];rfl
    rw [e2];exact this
def qZ (N:Nat) (K:Vz) (P:Addr):Sp:=λvs H Q _=>∃ (B:Hp) (u:V) (n:Nat) (wss:List (List Str)) (t:Addr) (s l:Int),vs=[u,.ref t]/\af B H/\B P=none/\Den K B u (gD wss)/\GOk n wss/\SqT K H t [.int s,.int l]/\bz P H/\mu n wss<N /\
 ∀ (D:Addr) (ys:List V) (C H':Hp),H D=none->af (wo P H) H'->bz P H'->H' D=some (.lst ys)->af B C->af C H'->(∀ b,C b≠none->B b≠none\/H b=none)->C P=none->aA K C ys ((prt n s l N wss).map gD)->Q (.ref D) H'
def vR (K:Vz) (P:Addr):Sp:=qZ 13 K P
theorem l6:aE ["group","sieve","place","groups","smaller"] ["group","sieve"] (ak (top 42)):=⟨rfl,rfl,rfl,by decide +kernel,rfl,by decide +kernel,by decide +kernel⟩
theorem Bf (T:Tx K mg A):∀ N,ax P w K mg base CX0 (6+N) A.i8 A.jb ["group","sieve"] (qZ N K A.aq)
 | 0=>⟨λvs H Q E h=>by obtain ⟨B,u,n,wss,t,s,l,rfl,_⟩:=h;rfl,λ_ _ _ _ _ _ _ _ _ _ _ _ _ h=>by obtain ⟨B,u,n,wss,t,s,l,_,_,_,_,_,_,_,h1,_⟩:=h;lia⟩
 | N+1=>by
  have mY:ax P w K mg base CX0 (6+N) A.eG A.cO ["group","sieve"] (gf K A.aq):=(mF T).mono (by lia);have pN:ax P w K mg base CX0 (6+N) A.mx A.l8 ["rows","keys"] (nu K):=(sj T).mono (by lia);have gU:ax P w K mg base CX0 (6+N) A.gF A.gX ["group","place"] (ir K):=(kH T).mono (by lia);have sX:ax P w K mg base CX0 (6+N) A.i8 A.jb ["group","sieve"] (qZ N K A.aq):=Bf T N;show ax P w K mg base CX0 ((6+N)+1) A.i8 A.jb ["group","sieve"] (qZ (N+1) K A.aq);refine T.parted.fn.ok l6 (λvs H Q E h=>?_) (λcdv Ar outer s H vs R E hr h=>?_)
  ·obtain ⟨B,u,n,wss,t,s,l,rfl,_⟩:=h;rfl
  ·obtain ⟨B,u,n,wss,t,s',l,rfl,hBH,hBP,hdB,ok,hqt,hla,hmu,k⟩:=h;refine ⟨_,ag (aY (i:=2) l6.nd rfl (Or.inl rfl) (av mY hr (by rfl) T.dP.mg T.dP.fn.kp T.dP.bd .nil ay (aa (pv 0) (aa (pv 1) (ae)))))
   (ag (a8 (aJ (AO) (pv 2) (AN) (aG _)) (ao (aC (bu (aa (pv 0) (ae))))) (aO))
   (ag (aY (i:=3) l6.nd rfl (Or.inl rfl) (bu (ae)))
   (ag (fZ PassesOwn.never rfl (bh (av pN hr (by rfl) T.jJ.mg T.jJ.fn.kp T.jJ.bd .nil ay (aa (pv 0) (aa (av gU hr (by rfl) T.eu.mg T.eu.fn.kp T.eu.bd .nil ay (aa (pv 0) (aa (pv 2) (ae)))) (ae))))) (aI (i:=4) l6.nd rfl (Or.inl rfl)) (ao (be (cQ PySem.F.plainAttrs_list PySem.F.slot_list_extend PySem.F.type_list_extend vz (pv 3) (aa (av sX hr (by rfl) T.parted.mg T.parted.fn.kp T.parted.bd .nil ay (aa (pv 4) (aa (pv 1) (ae)))) (ae))))))
   (ao (aC (pv 3)))))),?_⟩
   obtain ⟨a,xs,rfl,hqB,K2⟩:=Bq hdB;have hxl:xs.length=wss.length:=by rw [K2.length,PQ]
   obtain ⟨tb,htb⟩:=aP hla;have hBw:af B (wo A.aq H):=bN hBP hBH;refine ⟨_,rfl,_,rfl,.ref a,n,wss,t,s',l,rfl,hdB.same hBH,ok,hqt,hla,λH1 s1 la1=>?_⟩;have hB1:af B H1:=hBw.trans s1;have N1:SqT K H1 t [.int s',.int l]:=s1.b8 (lW htb hqt);obtain ⟨tb1,Lg⟩:=aP la1;have old:∀ {b:Addr}{H':Hp},af (wo A.aq H) H'->H' b=none->b≠A.aq->H b=none:=λ{b H'} s' e ne=>by
    have:=s'.free e
    rwa [aj ne] at this
   refine ⟨_,rfl,rfl,_,rfl,?_⟩;cases hpl:plc wss n s' l with
   | none=>
    refine ck ⟨_,rfl,(by show 1<=sizeLine;decide),λD hD=>?_⟩;have sD:af H1 (upd H1 D (.lst [.ref a])):=af.new hD;have e:prt n s' l (N+1) wss=[wss]:=by unfold prt;rw [hpl]
    exact k D _ B _ (old s1 hD (aw Lg hD).symm) (s1.trans sD) (aN la1 sD) ab (af.refl B) (hB1.trans sD) (λb h=>.inl h) hBP (by rw [e];exact .cons hdB .nil)
   | some p=>
    obtain ⟨hp,ND⟩:=Jt hpl;have epr:prt n s' l (N+1) wss=(byW wss p).flatMap (prt n s' l N):=by
     conv=>lhs;unfold prt
     rw [hpl]
    refine bf ?_;refine ⟨Qb _,λG hG=>?_⟩;have sG:af H1 (upd H1 G (.lst [])):=af.new hG;have hGG:(upd H1 G (.lst [])) G=some (.lst []):=ab;have hGP:G≠A.aq:=(aw Lg hG).symm;have la2:=aN la1 sG;have s2:af (wo A.aq H) (upd H1 G (.lst [])):=s1.trans sG;generalize upd H1 G (.lst [])=H2 at sG hGG la2 s2 ⊢;refine ⟨_,rfl,_,rfl,_,rfl,.ref a,p,n,wss,rfl,hdB.same (hB1.trans sG),ok,hp,λW H3 hW s3 hWW=>?_⟩;have s13:=sG.trans s3;have ek:((wAt wss p).map V.str)=((wAt wss p).map (Sum.inr:Str->Key)).map kV:=by rw [Q5];rfl
    rw [ek] at hWW;have hwl:=ok.le;refine ⟨a,W,xs,(wAt wss p).map Sum.inr,rfl,(hB1.trans s13).seq hqB,.of hWW,by rw [PQ];unfold wAt;rw [PQ,hxl],by lia,λD as H4 hD s4 hDD has gW=>⟨D,rfl,⟨_,.of hDD⟩,?_⟩⟩;have s14:=s13.trans s4;have hG3:=s3 _ _ hGG;have hG4:=s4 _ _ hG3;have la4:bz A.aq H4:=aN la2 (s3.trans s4);have s04:af (wo A.aq H) H4:=s2.trans (s3.trans s4);obtain ⟨tb4,ux⟩:=aP la4;have hB4:af B H4:=hB1.trans s14;have Ma:=s14.b8 N1;have hGH:H G=none:=old s1 hG hGP;have hBG:B G=none:=by
     cases e:B G with
     | none=>rfl
     | some o=>rw [hBH _ _ e] at hGH;cases hGH
    have hC:∃ C4:Hp,af B C4/\af C4 H4/\C4 G=none/\C4 A.aq=none/\(∀ b,C4 b≠none->B b≠none\/H b=none)/\∀ c∈as,(∀ g,H4 c=some (.lst g)->g≠[]->C4 c=H4 c):=by
     refine ⟨λb=>if b=G\/b=A.aq then none else if B b≠none\/b∈as then H4 b else none,λb o e=>?_,λb o e=>?_,by simp,by simp,λb hb=>?_,λc hc g hg hne=>?_⟩
     ·have h1:b≠G:=λz=>by rw [z,hBG] at e;cases e
      have h2:b≠A.aq:=λz=>by rw [z,hBP] at e;cases e
      show (if b=G\/b=A.aq then none else _)=_;rw [if_neg (by rintro (z | z) <;> contradiction),if_pos (.inl (by rw [e];simp))];exact hB4 _ _ e
     ·dsimp only at e
      split at e
      ·cases e
      ·split at e
       ·exact e
       ·cases e
     ·dsimp only at hb
      split at hb
      ·exact absurd rfl hb
      ·rename_i hn
       split at hb
       ·rename_i hor;rcases hor with z | z
        ·exact .inl z
        ·refine .inr (old (s2.trans s3) (has b z) λw=>hn (.inr w))
       ·exact absurd rfl hb
     ·have h1:c≠G:=λz=>by rw [z,hG4] at hg;cases hg;exact hne rfl
      have h2:c≠A.aq:=λz=>by rw [z,ux] at hg;cases hg
      show (if c=G\/c=A.aq then none else _)=_;rw [if_neg (by rintro (z | z) <;> contradiction),if_pos (.inr hc)]
    obtain ⟨C4,hBC,hC4,hCG,hCP,hCb,hCa⟩:=hC;have FK:=BE (uW (K2.same hBC)) ((wAt wss p).map Sum.inr);refine jr (K:=K) (xs:=as.map V.ref) (λi σ H5=>(∃ v,σ=[some (.ref a),some (.ref t),some (.int p),some (.ref G),v])/\af (wo A.aq (wo G H4)) H5/\bz A.aq H5/\∃ (acc:List V) (C:Hp),H5 G=some (.lst acc)/\af C4 C/\af C H5/\C G=none/\C A.aq=none/\(∀ b,C b≠none->B b≠none\/H b=none)/\aA K C acc ((((byW wss p).take i).flatMap (prt n s' l N)).map gD))
     ⟨⟨_,rfl⟩,aZ.trans aZ,la4,[],C4,hG4,af.refl _,hC4,hCG,hCP,hCb,.nil⟩ (λi σ H5 _ q=>.of (q.2.1 _ _ (by
      have h1:D≠G:=λz=>by rw [z,hG3] at hD;cases hD
      have h2:D≠A.aq:=λz=>by rw [z,ux] at hDD;cases hDD
      rw [aj h2,aj h1];exact hDD))) (λi x σ H5 hx q=>?_) (λσ H5 q=>?_)
    ·obtain ⟨q0,s5,la5,acc,C,hG5,sC,sC5,cG,cP,cb,dn⟩:=q;apply fU q0;clear q0;intro v;rw [P7] at hx;obtain ⟨c,hci,rfl⟩:∃ c,as[i]? = some c/\x = .ref c:=by
      cases e:as[i]? with
      | none=>rw [e] at hx;cases hx
      | some c=>rw [e] at hx;cases hx;exact ⟨c,rfl,rfl⟩
     obtain ⟨g,hgi,hcg⟩:=gW.at hci;obtain ⟨wg,hwi,hgw⟩:=FK.at hgi;have hwm:wg∈byW wss p:=PU hwi;have DS:=(pV hwm).1;have JE:g≠[]:=λe=>by
      have:=hgw.len;rw [e] at this;exact DS (Rb.mp this.symm)
     have hcC:C4 c=some (.lst g):=(hCa c (PU hci) g hcg JE).trans hcg;have hdc:Den K C4 (.ref c) (gD wg):=.lst (.of hcC) (ve hgw);have hC5:af C4 H5:=sC.trans sC5;have s05:af (wo A.aq H) H5:=λb o e=>by
      by_cases h1:b=G
      ·rw [h1,aj hGP,hGH] at e;cases e
      ·have h2:=(aD e).1;exact s5 b o (by rw [aj h2,aj h1];exact s04 b o e)
     have M6:SqT K H5 t [.int s',.int l]:=s05.b8 (lW htb hqt);refine ⟨_,rfl,.inl ⟨rfl,_,.of hG5⟩,_,rfl,_,rfl,C4,.ref c,n,wg,t,s',l,rfl,hC5,hCP,hdc,ok.sub hwm,M6,la5,by have:=MI hp (GQ ND) hwm;lia,λD2 ys C' H6 hD2 s6 la6 HQ sC' Ml cb' cP' dn'=>?_⟩;obtain ⟨tb5,Ei⟩:=aP la5;have hG6:H6 G=some (.lst acc):=wQ s6 Ei hG5 λqs e=>by cases e
     have sC6:af C H6:=(bN cP sC5).trans s6;have cG':C' G=none:=by
      cases e:C' G with
      | none=>rfl
      | some o=>
       rcases cb' G (by rw [e];simp) with z | z
       ·exact absurd hCG z
       ·rw [hG5] at z;cases z
     have hal:acc.length<=wss.length:=by rw [dn.length,PQ];exact HU i
     have hyl:ys.length<=wg.length:=by rw [dn'.length,PQ];exact ow DS
     have hgl:=(pV hwm).2.1;refine ⟨G,D2,acc,ys,rfl,rfl,hG6,HQ,P2 (show _<=1000 by lia) (by decide),?_⟩;refine ⟨⟨_,rfl⟩,aF (by rw [aj hGP,a7]) (bI s5 s6),fC la6 hG6,acc++ys,hU C C',ab,sC.trans Mz,aF (vZ cG cG') (Lf sC6 Ml),vZ cG cG',vZ cP cP',λb hb=>?_,?_⟩
     ·rcases Mg hb with z | z
      ·exact cb b z
      ·rcases cb' b z with w | w
       ·exact hCb b w
       ·refine .inr (old s05 w λe=>z (by rw [e];exact cP'))
     ·rw [Qn,show (byW wss p)[i]? = some wg from hwi];simp only [Option.toList,List.flatMap_append,Qa,Rl,List.flatMap_nil,QD];exact (dn.same Mz).append (dn'.same (N2 sC6 Ml))
    ·obtain ⟨q0,s5,la5,acc,C,hG5,sC,sC5,cG,cP,cb,dn⟩:=q;apply fU q0;clear q0;intro v;have hbl:as.length=(byW wss p).length:=by rw [gW.len,FK.len];rfl
     rw [PQ,hbl,P4 (PR _)] at dn;have s05:af (wo A.aq H) H5:=λb o e=>by
      by_cases h1:b=G
      ·rw [h1,aj hGP,hGH] at e;cases e
      ·have h2:=(aD e).1;exact s5 b o (by rw [aj h2,aj h1];exact s04 b o e)
     refine ⟨_,rfl,k G acc C H5 hGH s05 la5 hG5 (hBC.trans sC) sC5 cb cP ?_⟩;rw [epr];exact dn
theorem Dh (T:Tx K mg A):ax P w K mg base CX0 19 A.i8 A.jb ["group","sieve"] (vR K A.aq):=Bf T 13
def gj (K:Vz):Sp:=λvs H Q _=>∃ (u:V) (n:Nat) (wss:List (List Str)),vs=[u]/\Den K H u (gD wss)/\GOk n wss /\
 ∀ D acc H',H D=none->af H H'->H' D=some (.lst acc)->aA K (lim H H') acc ((cN (wss.map qW) n).map Pt.dat)->Q (.ref D) H'
theorem Lz {H:Hp}{M:Addr}{xs:List V} (h:H M=some (.lst xs)):af (tO H) (wo M H):=λb o e=>by
 obtain ⟨n,e⟩:=Bs e;have:b≠M:=λz=>by rw [z,h] at e;cases e;exact n _ rfl
 rw [aj this];exact e
theorem mK:aE ["group"] ["group"] (ak (top 43)):=⟨rfl,rfl,rfl,by decide +kernel,rfl,by decide +kernel,by decide +kernel⟩
theorem mH (T:Tx K mg A):ax P w K mg base CX0 6 A.eH A.eF ["group"] (gj K):=by
 have EY:ax P w K mg base CX0 5 A.sY A.rG ["patterns"] (vV K):=(CU T).mono (by decide);refine T.dQ.fn.ok mK (λvs H Q E h=>?_) (λcdv Ar outer s H vs Q E hr h=>?_)
 ·obtain ⟨u,n,wss,rfl,_⟩:=h;rfl
 ·obtain ⟨u,n,wss,rfl,hd,ok,k⟩:=h;obtain ⟨a,xs,rfl,hq,hds⟩:=Bq hd;have hxl:xs.length=wss.length:=by rw [hds.length,PQ]
  have hle:=ok.le;have h12:=ok.Ga;refine ⟨_,ao (aC (av EY hr (by rfl) T.joined.mg T.joined.fn.kp T.joined.bd .nil ay (aa (bw (N':=["words"]) (n:=1) (fi:=[]) (g:=br 0) rfl (bH (ak (top 43)) ["group"] (by decide +kernel)) (bh (pv 0)) (λs H fp=>aI (i:=0) (show (["words"]:List Str).Nodup by decide +kernel) rfl (Or.inl rfl) (.inr rfl)) (λs H fp=>a9) (λs H fp=>bw (wi:=FA K (tY 0)) (N':=["word"]) (n:=1) (fi:=[]) (g:=br 0) rfl (Bm (ak (top 43)) (by decide +kernel)) (bh (pv 0)) (λs H fp=>aI (i:=0) (show (["word"]:List Str).Nodup by decide +kernel) rfl (Or.inl rfl) (.inr rfl)) (λs H fp=>a9) (λs H fp=>bT (aa (aL) (aa (pv 0) (ae)))))) (ae)))),?_⟩;refine ⟨_,rfl,a,rfl,⟨_,hq⟩,λM hM=>?_⟩;refine bc (K:=K) (xs:=xs) (λi acc σ H2=>(∃ u,σ=[u])/\af H H2/\aA K (wo M H2) acc (((wss.take i).map qW).map bj)) ab ⟨⟨_,rfl⟩,af.new hM,.nil⟩ (λi acc σ H2 _ _ q=>q.2.1.seq hq) (λi x acc σ H2 hx hMx q=>?_) (λacc σ H2 hM2 q=>?_)
  ·obtain ⟨q0,s2,dn2⟩:=q;apply fU q0;clear q0;intro u;obtain ⟨ws,r,hw,rfl,hqr⟩:=rg hds hx;have hi:=aW hw;have zK:=ok.row ws (PU hw);have hal:acc.length<=64:=by rw [dn2.length,PQ,PQ,Qg];lia
   refine dS ⟨_,rfl,r,rfl,⟨_,s2.seq hqr⟩,λI hI=>?_⟩;have hIM:I≠M:=(aw hMx hI).symm;refine bc (K:=K) (xs:=ws.map V.str) (λj eT σ2 H3=>(∃ u,σ2=[u])/\af H2 H3/\aA K (tO H3) eT (((ws.take j).map Pt.word).map Pt.dat)) ab ⟨⟨_,rfl⟩,af.new hI,.nil⟩ (λj eT σ2 H3 _ _ q=>(s2.trans q.2.1).seq hqr) (λj y eT σ2 H3 hy hIx q=>?_) (λeT σ2 H3 hI3 q=>?_)
   ·obtain ⟨q0,s3,dn3⟩:=q;apply fU q0;clear q0;intro u;obtain ⟨w',hw',rfl⟩:=fG hy;have hj:=aW hw';have hwk:=zK.2 w' (PU hw');have PP:eT.length+1<=20:=by rw [dn3.length,PQ,PQ,Qg];lia
    refine dS ⟨_,rfl,(by show 2<=sizeLine;decide),λt ht=>?_⟩;have st:af H3 (upd H3 t (.tup [.str "word",.str w'])):=af.new ht;have pt:Kg (upd H3 t (.tup [.str "word",.str w'])) (.ref t) (.word w'):=⟨t,rfl,ab⟩;have hI4:=st _ _ hIx;refine ⟨_,hI4,small (by lia),_,ab,⟨_,rfl⟩,aF hI (s3.trans st),?_⟩;have et:(ws.take (j+1)).map Pt.word=(ws.take j).map Pt.word++[.word w']:=by rw [Qn,hw'];simp
    rw [et,Qa];have tt:=JZ (ys:=eT++[.ref t]) hI4;exact (dn3.same ((Ln st).trans tt)).append (.cons ((pt.den hwk).same tt) .nil)
   ·obtain ⟨_,s3,dn3⟩:=q;rw [PQ,P4 (PR _)] at dn3;have hM3:=s3 _ _ hMx;refine ⟨_,hM3,small (by lia),_,ab,⟨_,rfl⟩,aF hM (s2.trans s3),?_⟩;rw [zE,Qn,hw];simp only [Option.toList,Qa,Ql,Rr];refine (dn2.same (mh s3)).append (.cons (.lst (xs:=eT) (.of (by rw [aj hIM];exact hI3)) (dn3.same (Lz hM3))) .nil)
  ·obtain ⟨_,s2,dn2⟩:=q;rw [hxl,P4 (PR _)] at dn2;refine ⟨M,acc,wss.map qW,n,rfl,.of hM2,dn2.same aZ,λe=>ok.ne (QN.mp e),by rw [PQ];lia,λps hps=>?_,λD Ox H3 hD s3 hDD dn3=>?_⟩
   ·obtain ⟨ws,hws,rfl⟩:=P9.mp hps;have zK:=ok.row ws hws;refine ⟨⟨by unfold qW;rw [PQ];lia,λp hp=>?_⟩,by unfold qW;rw [PQ];exact zK.1⟩;obtain ⟨w',hw',rfl⟩:=P9.mp hp;exact (zK.2 w' hw').ok
   ·exact k D Ox H3 (s2.free hD) (s2.trans s3) hDD (dn3.same (e7 s2.ll))
def nO (K:Vz) (P:Addr):Sp:=λvs H Q _=>∃ (a t:Addr) (zs:List Str) (s l:Int),vs=[.ref a,.ref t]/\Rd H a (.lst (zs.map V.str))/\zs.length<64/\(∀ z∈zs,∃ ws,fX 12 z ws)/\SqT K H t [.int s,.int l]/\bz P H /\
 ∀ (D:Addr) (ms:List Str) (acc:List V) (H':Hp) (ps:List (List Pt)),ms.Perm (jZ [] zs)->UpS ms->H D=none->af (wo P H) H'->bz P H'->H' D=some (.lst acc)->ps.Perm (gth s l (ms.map λz=>Txt.split z " "))->mD ps->ou ps->ps.length<64->DK H H' acc->(∀ x∈acc,x ≠ .ref D)->aA K (lim H H') acc (ps.map bj)->Q (.ref D) H'
theorem A7 {ms:List Str}{z:Str}{i:Nat} (h:ms[i]? = some z):(ms.take (i+1)).map (λz=>Txt.split z " ")=(ms.take i).map (λz=>Txt.split z " ")++[Txt.split z " "]:=by
 rw [Qn,h];simp
theorem iJ:aE ["lines","sieve","rows","patterns","group"] ["lines","sieve"] (ak (top 44)):=⟨rfl,rfl,rfl,by decide +kernel,rfl,by decide +kernel,by decide +kernel⟩
theorem xG (T:Tx K mg A):ax P w K mg base CX0 20 A.nk A.mU ["lines","sieve"] (nO K A.aq):=by
 have pN:ax P w K mg base CX0 19 A.mx A.l8 ["rows","keys"] (nu K):=(sj T).mono (by decide);have i4:ax P w K mg base CX0 19 A.ja A.jc ["patterns"] (jV K):=(mS T).mono (by decide);have gG:ax P w K mg base CX0 19 A.gE A.g9 ["line"] (iE K):=(kF T).mono (by decide);have m4:ax P w K mg base CX0 19 A.eH A.eF ["group"] (gj K):=(mH T).mono (by decide);have sX:ax P w K mg base CX0 19 A.i8 A.jb ["group","sieve"] (vR K A.aq):=(Dh T).mono (by decide);refine T.gathered.fn.ok iJ (λvs H Q E h=>?_) (λcdv Ar outer s H vs Q E hr h=>?_)
 ·obtain ⟨a,t,zs,s,l,rfl,_⟩:=h;rfl
 ·obtain ⟨a,t,zs,s',l,rfl,hqa,h64,hzs,hqt,hla,k⟩:=h;refine ⟨_,ag (oV (i:=2) (N':=["line"]) (n:=1) (fi:=[]) (g:=br 0) iJ.nd rfl (Or.inl rfl) rfl (bH (ak (top 44)) ["lines","sieve","rows","patterns","group"] (by decide +kernel)) (bh (wU (o8 rfl hr) rfl (by rfl) T.su vO (by rfl) T.Ej zF (aa (pv 0) (ae)))) (λs H fp=>aI (i:=0) (show (["line"]:List Str).Nodup by decide +kernel) rfl (Or.inl rfl) (.inr rfl)) (λs H fp=>a9) (λs H fp=>av gG hr (by rfl) T.words_of.mg T.words_of.fn.kp T.words_of.bd .nil ay (aa (pv 0) (ae))))
   (ag (aY (i:=3) iJ.nd rfl (Or.inl rfl) (bu (ae)))
   (ag (fZ PassesOwn.never rfl (bh (av pN hr (by rfl) T.jJ.mg T.jJ.fn.kp T.jJ.bd .nil ay (aa (pv 2) (aa (bw (N':=["words"]) (n:=1) (fi:=[]) (g:=br 0) rfl (bH (ak (top 44)) ["lines","sieve","rows","patterns","group"] (by decide +kernel)) (bh (pv 2)) (λs H fp=>aI (i:=0) (show (["words"]:List Str).Nodup by decide +kernel) rfl (Or.inl rfl) (.inr rfl)) (λs H fp=>a9) (λs H fp=>aK (r:=cH K) aV (by rfl) T.cq PySem.boot_len (aa (pv 0) (ae)))) (ae))))) (aI (i:=4) iJ.nd rfl (Or.inl rfl)) (ao (be (cQ PySem.F.plainAttrs_list PySem.F.slot_list_extend PySem.F.type_list_extend vz (pv 3) (aa (bw (N':=["smaller"]) (n:=1) (fi:=[]) (g:=br 0) rfl (bH (ak (top 44)) ["lines","sieve","rows","patterns","group"] (by decide +kernel)) (bh (av sX hr (by rfl) T.parted.mg T.parted.fn.kp T.parted.bd .nil ay (aa (pv 4) (aa (pv 1) (ae))))) (λs H fp=>aI (i:=0) (show (["smaller"]:List Str).Nodup by decide +kernel) rfl (Or.inl rfl) (.inr rfl)) (λs H fp=>a9) (λs H fp=>av m4 hr (by rfl) T.dQ.mg T.dQ.fn.kp T.dQ.bd .nil ay (aa (pv 0) (ae)))) (ae))))))
   (ao (aC (av i4 hr (by rfl) T.ordered.mg T.ordered.fn.kp T.ordered.bd .nil ay (aa (pv 3) (ae))))))),?_⟩
  have hdl:=yH zs;refine ⟨_,rfl,a,zs,rfl,hqa,by lia,by lia,λS ms hS bi hup=>⟨S,rfl,⟨_,.of ab⟩,λR hR=>?_⟩⟩;have hml:=bi.length_eq;have hmz:∀ z∈ms,∃ ws,fX 12 z ws:=λz hz=>hzs z ((nR.mp (bi.mem_iff.mp hz)).resolve_left (by simp));obtain ⟨tb,htb⟩:=aP hla;have sS:af H (upd H S (.lst (ms.map V.str))):=af.new hS;have hSS:(upd H S (.lst (ms.map V.str))) S=some (.lst (ms.map V.str)):=ab;generalize upd H S (.lst (ms.map V.str))=H1 at sS hSS hR ⊢;refine bc (K:=K) (xs:=ms.map V.str) (λi acc σ H2=>(∃ u,σ=[u])/\af H1 H2/\aA K (wo R H2) acc (((ms.take i).map λz=>Txt.split z " ").map wsD)) ab ⟨⟨_,rfl⟩,af.new hR,.nil⟩ (λi acc σ H2 _ _ q=>.of (q.2.1 _ _ hSS)) (λi x acc σ H2 hx hRx q=>?_) (λacc σ H2 hR2 q=>?_)
  ·obtain ⟨q0,s2,dn2⟩:=q;apply fU q0;clear q0;intro u;obtain ⟨z,hz,rfl⟩:=fG hx;have hi:=aW hz;obtain ⟨ws,hln⟩:=hmz z (PU hz);have hlo:=hln.ok (by decide);have hal:acc.length<=64:=by rw [dn2.length,PQ,PQ,Qg];lia
   refine dS ⟨_,rfl,z,rfl,P2 hlo.2 (by decide),λL hL=>?_⟩;have sL:af H2 (upd H2 L (.lst ((Txt.split z " ").map V.str))):=af.new hL;have hLR:L≠R:=(aw hRx hL).symm;refine ⟨_,sL _ _ hRx,small (by lia),_,ab,⟨_,rfl⟩,aF hR (s2.trans sL),?_⟩;rw [zE,A7 hz,Qa];refine (dn2.same (mh sL)).append (.cons (.lst (xs:=(Txt.split z " ").map V.str) (.of (by rw [aj hLR];exact ab)) ?_) .nil);rw [hln.split];exact pX λw hw=>(hln.wd w hw).ok
  ·obtain ⟨_,s2,dn2⟩:=q;rw [PQ,P4 (PR _)] at dn2;have dnR:aA K H2 acc ((ms.map λz=>Txt.split z " ").map wsD):=dn2.same aZ;have rok:AA (ms.map λz=>Txt.split z " "):=⟨by rw [PQ];lia,λws hws=>by
    obtain ⟨z,hz,rfl⟩:=P9.mp hws;obtain ⟨ws,hln⟩:=hmz z hz;rw [hln.split];exact ⟨hln.pos,hln.le,λw hw=>⟨(hln.wd w hw).word,P2 (hln.wd w hw).len (by decide),(hln.wd w hw).ok⟩⟩⟩
   have hrl:(ms.map λz=>Txt.split z " ").length=ms.length:=PQ _;have kk:=k;generalize hrs:(ms.map λz=>Txt.split z " ")=rss at dnR rok hrl;have OC:acc.length=rss.length:=by rw [dnR.length,PQ]
   have s02:=sS.trans s2;refine ⟨Qb _,λG hG=>?_⟩;have sG:af H2 (upd H2 G (.lst [])):=af.new hG;have hGG:(upd H2 G (.lst [])) G=some (.lst []):=ab;have s03:=s02.trans sG;have hR3:=sG _ _ hR2;generalize upd H2 G (.lst [])=H3 at sG hGG s03 hR3 ⊢;refine ⟨_,rfl,_,rfl,R,rfl,⟨_,.of hR3⟩,λKL hKL=>?_⟩;refine bc (K:=K) (xs:=acc) (λi eT σ H4=>(∃ u,σ=[u])/\af H3 H4/\eT=((rss.take i).map λws=>(Sum.inl (ws.length:Int):Key)).map kV) ab ⟨⟨_,rfl⟩,af.new hKL,rfl⟩ (λi eT σ H4 _ _ q=>.of (q.2.1 _ _ hR3)) (λi x eT σ H4 hx hKx q=>?_) (λeT σ H4 hK4 q=>?_)
   ·obtain ⟨q0,s4,rfl⟩:=q;apply fU q0;clear q0;intro u;have hi:=aW hx;obtain ⟨ws,r,hw,rfl,hqr⟩:=rg dnR hx;refine dS ⟨_,rfl,r,_,rfl,.inl ((sG.trans s4).seq hqr),_,hKx,small (by rw [PQ,PQ,Qg];lia),_,ab,⟨_,rfl⟩,aF hKL s4,?_⟩;rw [Qn,hw];simp [kV]
   ·obtain ⟨_,s4,rfl⟩:=q;rw [OC,P4 (PR _)] at hK4;refine ⟨R,KL,acc,_,rfl,.of (s4 _ _ hR3),.of hK4,by rw [PQ];lia,by lia,λD as H5 hD s5 hDD has gW=>⟨D,rfl,⟨_,.of hDD⟩,?_⟩⟩;have s25:af H2 H5:=sG.trans (s4.trans s5);have s05:af H H5:=s02.trans s25;have hG5:=(s4.trans s5) _ _ hGG;have la5:bz A.aq H5:=aN hla s05;have Ei:=s05 _ _ htb;have hGP:G≠A.aq:=λe=>by rw [e,Ei] at hG5;cases hG5
    have hGH:H G=none:=s02.free hG;have hDG:D≠G:=λe=>by rw [e,s4 _ _ hGG] at hD;cases hD
    have hDP:D≠A.aq:=λe=>by rw [e,Ei] at hDD;cases hDD
    have dn5:aA K (wo G H5) acc (rss.map wsD):=dnR.same (bN hG s25);have FK:=BE (uW dn5) (rss.map λws=>(Sum.inl (ws.length:Int):Key));have htG:(wo G H5) A.aq=some (.tbl tb):=by rw [aj hGP.symm];exact Ei
    refine jr (K:=K) (xs:=as.map V.ref) (λi σ H6=>(∃ v,σ=[some (.ref a),some (.ref t),some (.ref R),some (.ref G),v])/\af (wo A.aq (wo G H5)) H6/\bz A.aq H6/\∃ rM:List V,H6 G=some (.lst rM)/\aA K (wo G H6) rM ((((byL rss).take i).flatMap (zj s' l)).map bj))
     ⟨⟨_,rfl⟩,aZ.trans aZ,la5,[],hG5,.nil⟩ (λi σ H6 _ q=>.of (q.2.1 _ _ (by rw [aj hDP,aj hDG];exact hDD))) (λi x σ H6 hx q=>?_) (λσ H6 q=>?_)
    ·obtain ⟨q0,s6,la6,rM,hG6,dnp⟩:=q;apply fU q0;clear q0;intro v;rw [P7] at hx;obtain ⟨c,hci,rfl⟩:∃ c,as[i]? = some c/\x = .ref c:=by
      cases e:as[i]? with
      | none=>rw [e] at hx;cases hx
      | some c=>rw [e] at hx;cases hx;exact ⟨c,rfl,rfl⟩
     obtain ⟨g,hgi,hcg⟩:=gW.at hci;obtain ⟨wg,hwi,hgw⟩:=FK.at hgi;have hwm:wg∈byL rss:=PU hwi;have DS:=(A3 hwm).1;have JE:g≠[]:=λe=>by
      have:=hgw.len;rw [e] at this;exact DS (Rb.mp this.symm)
     have hcG:c≠G:=λz=>by rw [z,hG5] at hcg;cases hcg;exact JE rfl
     have hdc:Den K (wo A.aq (wo G H5)) (.ref c) (gD wg):=Br htG (.lst (.of (by rw [aj hcG];exact hcg)) (ve hgw));have gok:=IS rok hwm;have Om:SqT K H6 t [.int s',.int l]:=s6.b8 (lW htG ((bN hGH s05).b8 hqt));refine ⟨_,rfl,.inl ⟨rfl,_,.of hG6⟩,_,rfl,_,rfl,wo A.aq (wo G H5),.ref c,gn wg,wg,t,s',l,rfl,s6,a7,hdc,gok,Om,la6,by have:=KY (gn wg) wg;have:=gok.Ga;lia,λD2 ys C H7 hD2 s7 la7 HQ sBC sC7 cb cP dn7=>⟨D2,rfl,⟨_,.of HQ⟩,λM hM=>?_⟩⟩;obtain ⟨tb6,CC⟩:=aP la6;obtain ⟨tb7,FZ⟩:=aP la7;have hG7:H7 G=some (.lst rM):=wQ s7 CC hG6 λqs e=>by cases e
     have hMG:M≠G:=(aw hG7 hM).symm;have hyl:ys.length=(prt (gn wg) s' l 13 wg).length:=by rw [dn7.length,PQ]
     have hpl:=ow (n:=gn wg) (s:=s') (l:=l) (N:=13) DS;have hgl:=gok.le;have hHM:(upd H7 M (.lst [])) M=some (.lst []):=ab;refine bc (K:=K) (xs:=ys) (λj eT σ H8=>(∃ u,σ=[u])/\af H7 H8/\aA K (lim (upd H7 M (.lst [])) H8) eT ((((prt (gn wg) s' l 13 wg).take j).map λg'=>cN (g'.map qW) (gn wg)).map bj)) ab ⟨⟨_,rfl⟩,af.new hM,.nil⟩ (λj eT σ H8 _ _ q=>.of (q.2.1 _ _ HQ)) (λj y eT σ H8 hy hMx q=>?_) (λeT σ H8 hM8 q=>?_)
     ·obtain ⟨q0,s8,dn8⟩:=q;apply fU q0;clear q0;intro u;have hj:=aW hy;obtain ⟨d,hdj,hdy⟩:=dn7.get hy;rw [P7] at hdj;obtain ⟨g',hg',rfl⟩:∃ g',(prt (gn wg) s' l 13 wg)[j]? = some g'/\d=gD g':=by
       cases e:(prt (gn wg) s' l 13 wg)[j]? with
       | none=>rw [e] at hdj;cases hdj
       | some g'=>rw [e] at hdj;cases hdj;exact ⟨g',rfl,rfl⟩
      have hal:eT.length<=64:=by rw [dn8.length,PQ,PQ,Qg];lia
      refine dS ⟨_,rfl,y,gn wg,g',rfl,hdy.same (sC7.trans s8),zG gok g' (PU hg'),λDp OE H9 hDp s9 OR dnq=>?_⟩;have hM9:=s9 _ _ hMx;have OI:Dp≠M:=(aw hMx hDp).symm;refine ⟨_,hM9,small (by lia),_,ab,⟨_,rfl⟩,aF hM (s8.trans s9),?_⟩;rw [nV hHM,Qn,hg'];simp only [Option.toList,Qa,Ql,Rr];have hll:LL (upd H7 M (.lst [])) H8:=λb zs e=>by
       by_cases hb:b=M
       ·exact ⟨eT,by rw [hb];exact hMx⟩
       ·rw [au hb] at e;exact ⟨zs,s8 _ _ e⟩
      have hnD:(upd H7 M (.lst [])) Dp=none:=by rw [au OI];exact s8.free hDp
      exact (dn8.same (dw s9)).append (.cons (.lst (xs:=OE) (.of ((iu hnD).trans OR)) (dnq.same (e7 hll))) .nil)
     ·obtain ⟨_,s8,dn8⟩:=q;rw [hyl,P4 (PR _)] at dn8;have hG8:=s8 _ _ hG7;have Py:rM.length<=rss.length:=by rw [dnp.length,PQ];exact zA s' l rss i
      have hal:eT.length<=64:=by rw [dn8.length,PQ,PQ];lia
      have Oy:=rok.1;refine ⟨G,M,rM,eT,rfl,rfl,hG8,hM8,P2 (show _<=1000 by lia) (by decide),?_⟩;have hBG:(wo A.aq (wo G H5)) G=none:=by rw [aj hGP,a7]
      refine ⟨⟨_,rfl⟩,aF hBG ((bI s6 s7).trans s8),fC (aN la7 s8) hG8,rM++eT,ab,?_⟩;rw [zE,Qn,show (byL rss)[i]? = some wg from hwi];simp only [Option.toList,List.flatMap_append,Qa,Rl,List.flatMap_nil,QD];have ht6:(wo G H6) A.aq=some (.tbl tb6):=by rw [aj hGP.symm];exact CC
      have sa:af (wo A.aq (wo G H6)) (wo G H8):=λb o e=>by
       obtain ⟨h1,e⟩:=aD e;obtain ⟨h2,e⟩:=aD e;rw [aj h2];exact s8 _ _ (s7 _ _ (by rw [aj h1];exact e))
      have hMl:(upd H7 M (.lst [])) G=some (.lst rM):=by rw [au hMG.symm];exact hG7
      exact ((jk ht6 dnp).same sa).append (dn8.same (JL hMl))
    ·obtain ⟨q0,s6,la6,rM,hG6,dnp⟩:=q;apply fU q0;clear q0;intro v;have hbl:as.length=(byL rss).length:=by rw [gW.len,FK.len];rfl
     rw [PQ,hbl,P4 (PR _)] at dnp;have hgl:(gth s' l rss).length<=rss.length:=by
      have:=zA s' l rss (byL rss).length
      rwa [P4 (PR _)] at this
     have hpl:rM.length=(gth s' l rss).length:=by rw [dnp.length,PQ];rfl
     have Oy:=rok.1;have gok:ou (gth s' l rss):=JP rok;have s06:af (wo A.aq H) H6:=λb o e=>by
      obtain ⟨h1,e⟩:=aD e;have h2:b≠G:=λz=>by rw [z,hGH] at e;cases e
      exact s6 b o (by rw [aj h1,aj h2];exact s05 b o e)
     refine ⟨_,rfl,G,rM,gth s' l rss,rfl,.of hG6,by lia,dnp.same aZ,λps hps=>⟨P2 (gok ps hps).2.2 (by decide),λp hp=>((gok ps hps).1 p hp).ok⟩,λD9 NV H9 ps hD9 s9 K9 zZ kC fr hne dn9=>?_⟩;obtain ⟨tb6,CC⟩:=aP la6;have ht9:=s9 _ _ CC;have old:∀ {b:Addr}{zs:List V},H6 b=none->H9 b=some (.lst zs)->H b=none:=λ{b zs} e1 e2=>by
      have h1:b≠A.aq:=λz=>by rw [z,ht9] at e2;cases e2
      have:=s06.free e1
      rwa [aj h1] at this
     refine k D9 ms NV H9 ps bi hup (old hD9 K9) (s06.trans s9) (aN la6 s9) K9 (by rw [hrs];exact zZ) kC (λq hq=>gok q (zZ.mem_iff.mp hq)) (by rw [zZ.length_eq];lia) (λx hx=>?_) hne (dn9.same (e7 λb zs e=>?_))
     ·obtain ⟨t',ys,e1,e2,e3,e4⟩:=fr x hx;exact ⟨t',ys,e1,old e2 e3,e3,e4⟩
     ·have h1:b≠A.aq:=λz=>by rw [z,htb] at e;cases e
      exact ⟨zs,s06 _ _ (by rw [aj h1];exact e)⟩
def tD (K:Vz):Sp:=λvs H Q _=>∃ z:Str,vs=[.str z]/\LOk z/\PyData.strOk z=true/\(Txt.split z " ").length<=12/\(∀ w∈Txt.split z " ",cS w=true)/\∀ H',af H H'->Q (.bl true) H'
theorem BM (n:Nat):(List.replicate n true).all id=true:=by
 rw [Qs];intro x hx;exact (List.mem_replicate.mp hx).2
theorem rB:aE ["thing","words"] ["thing"] (ak (top 18)):=⟨rfl,rfl,rfl,by decide +kernel,rfl,by decide +kernel,by decide +kernel⟩
theorem AQ (T:Tx K mg A):ax P w K mg base CX0 3 A.pZ A.pU ["thing"] (tD K):=by
 have gG:ax P w K mg base CX0 2 A.gE A.g9 ["line"] (iE K):=(kF T).mono (by decide);have i9:ax P w K mg base CX0 2 A.i5 A.ji ["thing"] (jI K):=(mX T).mono (by decide);refine T.rd.fn.ok rB (λvs H Q E h=>?_) (λcdv Ar outer s H vs Q E hr h=>?_)
 ·obtain ⟨z,rfl,_⟩:=h;rfl
 ·obtain ⟨z,rfl,hz,hzs,hl,hw,k⟩:=h;refine ⟨_,ag (a8 (dD (cJ (aK (r:=Kn K) xM (by rfl) T.dO cV (aa (pv 0) (aa (rh (v:=.ty "str") (by rfl) T.IU EU rfl) (ae)))))) (ao (aC (jg))) (aO))
   (ag (aY (i:=1) rB.nd rfl (Or.inl rfl) (av gG hr (by rfl) T.words_of.mg T.words_of.fn.kp T.words_of.bd .nil ay (aa (pv 0) (ae))))
   (ao (aC (fg (bJ (zv) (aK (r:=cH K) aV (by rfl) T.cq PySem.boot_len (aa (pv 1) (ae))) (fE (v:=.int 12) (by rfl) (Exists.choose_spec T.wX) ⟨_,rfl⟩) (aG _)) (iP (aK (r:=Dr K) (lG rfl) (by rfl) T.yu rP (aa (bw (N':=["word"]) (n:=1) (fi:=[]) (g:=br 0) rfl (bH (ak (top 18)) ["thing","words"] (by decide +kernel)) (bh (pv 1)) (λs H fp=>aI (i:=0) (show (["word"]:List Str).Nodup by decide +kernel) rfl (Or.inl rfl) (.inr rfl)) (λs H fp=>a9) (λs H fp=>av i9 hr (by rfl) T.fH.mg T.fH.fn.kp T.fH.bd .nil ay (aa (pv 0) (ae)))) (ae)))))))),?_⟩
  refine ⟨_,rfl,_,"str",_,true,rfl,.str z,by rfl,_,rfl,bf ?_⟩;refine ⟨_,rfl,z,rfl,hz,λl hl'=>?_⟩;have sl:af H (upd H l (.lst ((Txt.split z " ").map V.str))):=af.new hl';have hws:=tF (y:= " ") hzs;generalize Txt.split z " " = ws at sl hl hw hws;have hq:SqL K (upd H l (.lst (ws.map V.str))) l (ws.map V.str):=.of ab;refine ⟨_,rfl,l,_,rfl,.inl hq,_,_,rfl,rfl,_,rfl,?_⟩;rw [PQ,decide_eq_true (show (ws.length:Int)<=12 by lia)];refine ck ?_;refine ⟨_,rfl,l,rfl,⟨_,hq⟩,λD hD=>?_⟩;generalize upd H l (.lst (ws.map V.str))=H1 at sl hq hD;refine bc (K:=K) (xs:=ws.map V.str) (λi acc σ H2=>(∃ u,σ=[u])/\af H1 H2/\acc=(List.replicate i true).map V.bl) ab ⟨⟨_,rfl⟩,af.new hD,rfl⟩ (λi acc σ H2 _ _ p=>p.2.1.seq hq) (λi x acc σ H2 hx hDx p=>?_) (λacc σ H2 hDx p=>?_)
  ·obtain ⟨⟨u,rfl⟩,s2,rfl⟩:=p;obtain ⟨w,hw',rfl⟩:=fG hx;have hi:=aW hw';have hm:=PU hw';refine dS ⟨_,rfl,w,rfl,P2 (hws w hm).2 hz,_,hDx,small (by rw [PQ,RF];lia),_,ab,⟨_,rfl⟩,aF hD s2,?_⟩;rw [hw w hm,List.replicate_succ',Qa];rfl
  ·obtain ⟨_,s2,rfl⟩:=p;refine ⟨D,_,rfl,.of hDx,?_⟩;rw [BM];exact k H2 (sl.trans s2)
def iV (K:Vz) (A:Ad):Sp:=λvs H Q _=>∃ (x t r b dx:Addr) (rv bv:List V) (rs:List (Int×Str)) (bs:List (List Pt)) (s l:Int),vs=[.ref x,.ref t,.ref r,.ref b]/\H x=some (.ins A.aR dx [])/\SqT K H t [.int s,.int l]/\H r=some (.lst rv)/\aA K H rv (rs.map eL)/\H b=some (.lst bv)/\aA K H bv (bs.map bj)/\rs.length<64/\(∀ q∈rs,∃ ws,fX 12 q.2 ws)/\bs.length<64/\ou bs/\bz A.aq H /\
 ∀ (H':Hp) (f fl:Addr) (fv lv:List V) (fnd:List (List Pt)) (fls:List (Option (List Pt))),H f=none->H fl=none->af (wo x (wo A.aq H)) H'->bz A.aq H'->H' x=some (.ins A.aR dx [("rows",.ref r),("by_hand",.ref b),("found",.ref f),("falls",.ref fl)]) ->
  H' f=some (.lst fv)->aA K (lim H H') fv (fnd.map bj)->H' fl=some (.lst lv)->aA K (lim H H') lv (fls.map oP)->yX s l (tW bs (rs.map (·.2))) fnd->wm bs fnd (rs.map (·.2)) fls->Q .non H'
theorem Gk {bs:List (List Pt)}{zs:List Str}{i:Nat}{z:Str} (h:zs[i]? = some z):tW bs (zs.take (i+1))=tW bs (zs.take i)++if (bs.filter (eY z)).isEmpty then [z] else []:=by
 unfold tW;rw [Qn,h,QV]
 congr 1
 show List.filter _ [z]=_;rw [List.filter_cons,List.filter_nil]
theorem BG {bs:List (List Pt)}{zs:List Str}:(tW bs zs).length<=zs.length:=QX _ _
theorem iX:aE ["self","sieve","rows","by_hand","lines","first"] ["self","sieve","rows","by_hand"] (ak (mIn 54 0)):=⟨rfl,rfl,rfl,by decide +kernel,rfl,by decide +kernel,by decide +kernel⟩
theorem mN (T:Tx K mg A):ax P w K mg base CX0 21 A.e9 A.gz ["self","sieve","rows","by_hand"] (iV K A):=by
 have Ai:ax P w K mg base CX0 20 A.nk A.mU ["lines","sieve"] (nO K A.aq):=(xG T).mono (by decide);have mO:ax P w K mg base CX0 20 A.iY A.iU ["line","patterns"] (km K):=(tM T).mono (by decide);refine T.m6.fn.ok iX (λvs H Q E h=>?_) (λcdv Ar outer s H vs Q E hr h=>?_)
 ·obtain ⟨x,t,r,b,dx,rv,bv,rs,bs,s0,l0,rfl,_⟩:=h;rfl
 ·obtain ⟨x,t,r,b,dx,rv,bv,rs,bs,s0,l0,rfl,hx,hqt,hrr,hdr,hb,hdb,hrl,hlo,hbl,hbo,hla,k⟩:=h;have Nb:rv.length=rs.length:=by rw [hdr.length,PQ]
  have PK:bv.length=bs.length:=by rw [hdb.length,PQ]
  have hbp:∀ p∈bs,POk p:=λp hp=>⟨P2 (hbo p hp).2.2 (by decide),λq hq=>((hbo p hp).1 q hq).ok⟩;obtain ⟨tb,htb⟩:=aP hla;have hxP:x≠A.aq:=λe=>by rw [<-e,hx] at htb;cases htb
  refine ⟨_,ag (oV (i:=4) (N':=["moment","line"]) (n:=2) (fi:=[]) (g:=C3 K 2 (kQ (br 0) (kQ (br 1) (CD)))) iX.nd rfl (Or.inl rfl) rfl (bH (ak (mIn 54 0)) ["self","sieve","rows","by_hand","lines","first"] (by decide +kernel)) (bh (pv 2)) (λs H fp=>jL rfl (bK (aI (i:=0) (show (["moment","line"]:List Str).Nodup by decide +kernel) rfl (Or.inl rfl) (.inr rfl)) (bK (aI (i:=1) (show (["moment","line"]:List Str).Nodup by decide +kernel) rfl (Or.inl rfl) (.inr rfl)) (gy)))) (λs H fp=>a9) (λs H fp=>pv 1))
   (ag (oV (i:=5) (N':=["line","by_hand"]) (n:=1) (fi:=[3]) (g:=br 0) iX.nd rfl (Or.inl rfl) rfl (bH (ak (mIn 54 0)) ["self","sieve","rows","by_hand","lines","first"] (by decide +kernel)) (bh (pv 4)) (λs H fp=>aI (i:=0) (show (["line","by_hand"]:List Str).Nodup by decide +kernel) rfl (Or.inl rfl) (.inr rfl)) (λs H fp=>a9) (λs H fp=>av mO hr (by rfl) T.dA.mg T.dA.fn.kp T.dA.bd .nil ay (aa (pv 0) (aa (pv 1) (ae)))))
   (ag (jl T.bB T.bM (pv 0) (pv 2))
   (ag (jl T.bB T.bC (pv 0) (pv 3))
   (ag (jl T.bB T.k6 (pv 0) (av Ai hr (by rfl) T.gathered.mg T.gathered.fn.kp T.gathered.bd .nil ay (aa (bw (N':=["line","fall"]) (n:=2) (fi:=[]) (g:=C3 K 2 (kQ (br 0) (kQ (br 1) (CD)))) rfl (bH (ak (mIn 54 0)) ["self","sieve","rows","by_hand","lines","first"] (by decide +kernel)) (w5 (by rfl) T.Bo (aa (pv 4) (aa (pv 5) (ae)))) (λs H fp=>jL rfl (bK (aI (i:=0) (show (["line","fall"]:List Str).Nodup by decide +kernel) rfl (Or.inl rfl) (.inr rfl)) (bK (aI (i:=1) (show (["line","fall"]:List Str).Nodup by decide +kernel) rfl (Or.inl rfl) (.inr rfl)) (gy)))) (λs H fp=>k7 (aJ (AO) (pv 1) (AN) (aG _))) (λs H fp=>pv 0)) (aa (pv 1) (ae)))))
   (ao (jl T.bB T.tm (pv 0) (bw (N':=["line","fall","self"]) (n:=2) (fi:=[0]) (g:=C3 K 2 (kQ (br 0) (kQ (br 1) (CD)))) rfl (bH (ak (mIn 54 0)) ["self","sieve","rows","by_hand","lines","first"] (by decide +kernel)) (w5 (by rfl) T.Bo (aa (pv 4) (aa (pv 5) (ae)))) (λs H fp=>jL rfl (bK (aI (i:=0) (show (["line","fall","self"]:List Str).Nodup by decide +kernel) rfl (Or.inl rfl) (.inr rfl)) (bK (aI (i:=1) (show (["line","fall","self"]:List Str).Nodup by decide +kernel) rfl (Or.inl rfl) (.inr rfl)) (gy)))) (λs H fp=>a9) (λs H fp=>k4 (aJ (AO) (pv 1) (AN) (aG _)) (av mO hr (by rfl) T.dA.mg T.dA.fn.kp T.dA.bd .nil ay (aa (pv 0) (aa (bg T.bB T.k6 (pv 2)) (ae)))) (pv 1))))))))),?_⟩
  refine ⟨_,rfl,r,rfl,⟨_,.of hrr⟩,λL hL=>?_⟩;refine bc (K:=K) (xs:=rv) (λi acc σ H1=>(∃ u v,σ=[u,v])/\af H H1/\acc=((rs.take i).map (·.2)).map V.str) ab ⟨⟨_,_,rfl⟩,af.new hL,rfl⟩ (λi acc σ H1 _ _ q=>.of (q.2.1 _ _ hrr)) (λi y acc σ H1 hy hLy q=>?_) (λacc σ H1 hL1 q=>?_)
  ·obtain ⟨q0,s1,rfl⟩:=q;apply n6 q0;clear q0;intro u v;obtain ⟨p,ty,hp,rfl,hqp,hok⟩:=gY hdr hy;have hi:=aW hp;refine AG (s1.b8 hqp) ⟨_,rfl,_,hLy,small (by simp only [PQ,Qg];lia),_,ab,⟨_,_,rfl⟩,aF hL s1,?_⟩;rw [Qn,hp];simp
  obtain ⟨_,s1,rfl⟩:=q;rw [Nb,P4 (PR _)] at hL1;have hzs:∀ z∈rs.map (·.2),∃ ws,fX 12 z ws:=λz hz=>by
   obtain ⟨q,hq,rfl⟩:=P9.mp hz;exact hlo q hq
  have hzl:(rs.map (·.2)).length<64:=by rw [PQ];exact hrl
  generalize rs.map (·.2)=zs at hL1 hzs hzl k
  have hzk:∀ z∈zs,LOk z/\PyData.strOk z=true:=λz hz=>by
   obtain ⟨ws,hw⟩:=hzs z hz;have:=hw.ok (by decide);exact ⟨P2 this.2 (by decide),this.1⟩
  refine ⟨_,rfl,L,rfl,⟨_,.of hL1⟩,λF hF=>?_⟩;refine bc (K:=K) (xs:=zs.map V.str) (λi acc σ H2=>(∃ u,σ=[u,some (.ref b)])/\af H1 H2/\∃ os:List (Option (List Pt)),aA K (wo F (lim H H2)) acc (os.map oP)/\os.length=i/\∀ (j:Nat) z o,zs[j]? = some z->os[j]? = some o->Cg bs z o) ab ⟨⟨_,rfl⟩,af.new hF,[],.nil,rfl,λj z o _ e=>by cases e⟩ (λi acc σ H2 _ _ q=>.of (q.2.1 _ _ hL1)) (λi y acc σ H2 hy hFy q=>?_) (λfo σ H2 hF2 q=>?_)
  ·obtain ⟨q0,s2,os,dn,hol,hos⟩:=q;apply fU q0;clear q0;intro u;obtain ⟨z,hz,rfl⟩:=fG hy;have hzi:=hzk z (PU hz);have hi:=aW hz;have s02:=s1.trans s2;refine dS ⟨_,rfl,_,rfl,z,b,bv,bs,rfl,.of (s02 _ _ hb),by lia,hdb.same s02,hbp,hzi.1,hzi.2,λrr H3 s3 hf=>?_⟩;obtain ⟨o,ho,dX⟩:=yN hf;have hal:acc.length=i:=by rw [dn.length,PQ];exact hol
   refine ⟨_,s3 _ _ hFy,small (by lia),_,ab,⟨_,rfl⟩,aF hF (s2.trans s3),os++[o],?_,by rw [PX,hol];rfl,λj z' o' hz' ho'=>?_⟩
   ·rw [wx,Qa];exact (dn.same (mh (dw s3))).append (.cons (dX.same (KG s02 hFy)) .nil)
   ·by_cases hj:j<os.length
    ·rw [Qv hj] at ho';exact hos j z' o' hz' ho'
    ·have hjl:=aW ho';rw [PX,P8] at hjl;have hji:j=i:=by lia
     rw [QB (by lia),show j - os.length=0 by lia] at ho';cases ho';rw [hji,hz] at hz';cases hz';exact ho
  obtain ⟨_,s2,os,dnF,hol,hos⟩:=q;rw [PQ] at hol;have dF:aA K (lim H H2) fo (os.map oP):=dnF.same aZ;have hfl:fo.length=zs.length:=by rw [dF.length,PQ];exact hol
  have s02:=s1.trans s2;have hx2:=s02 _ _ hx;have hL2:=s2 _ _ hL1;have la2:=aN hla s02;clear dnF s1 s2 hL1;refine ⟨_,rfl,_,rfl,x,dx,_,rfl,hx2,by decide,?_⟩;refine eC la2 hx2 λH3 hx3 f3 la3=>?_;replace hx3:H3 x=some (.ins A.aR dx [("rows",.ref r)]):=hx3;refine ⟨_,rfl,_,rfl,x,dx,_,rfl,hx3,by simp,?_⟩;refine eC la3 hx3 λH4 hx4 f0 la4=>?_;replace hx4:H4 x=some (.ins A.aR dx [("rows",.ref r),("by_hand",.ref b)]):=hx4;have f4:∀ c,c≠x->H4 c=H2 c:=λc h=>(f0 c h).trans (f3 c h);clear la3 hx3 f3;have hxL:L≠x:=λe=>by rw [e,hx] at hL;cases hL
  have hxF:F≠x:=λe=>by rw [e,hx2] at hF2;cases hF2
  have hL4:H4 L=some (.lst (zs.map V.str)):=by rw [f4 _ hxL];exact hL2
  have hF4:H4 F=some (.lst fo):=by rw [f4 _ hxF];exact hF2
  have Ma:SqT K H4 t [.int s0,.int l0]:=by
   have h1:=qY hx hqt;exact (show af (wo x H) H4 from λc o e=>by
    obtain ⟨h2,e⟩:=aD e;rw [f4 c h2];exact s02 _ _ e).b8 h1
  have hyF:∀ (i:Nat) z y,zs[i]? = some z->fo[i]? = some y->∃ o,Cg bs z o/\os[i]? = some o/\decide (y=V.non)=o.isNone:=λi z y hz hy=>by
   obtain ⟨o,ho,hd⟩:=BV dF hy;exact ⟨o,hos i z o hz ho,ho,z9 hd⟩
  refine ⟨_,rfl,_,rfl,L,F,rfl,⟨_,.of hL4⟩,⟨_,.of hF4⟩,λGL hGL=>?_⟩;refine ze (K:=K) (xs:=zs.map V.str) (ys:=fo) (λi acc σ H5=>(∃ u v,σ=[u,v])/\af H4 H5/\acc=(tW bs (zs.take i)).map V.str) ab ⟨⟨_,_,rfl⟩,af.new hGL,rfl⟩ (λi acc σ H5 _ q=>⟨.of (q.2.1 _ _ hL4),.of (q.2.1 _ _ hF4)⟩) (λi xx y acc σ H5 tt hxx hy hGx q htt=>?_) (λacc σ H5 hG5 q=>?_)
  ·obtain ⟨q0,s5,rfl⟩:=q;apply n6 q0;clear q0;intro u v;obtain ⟨z,hz,rfl⟩:=fG hxx;obtain ⟨o,ho,hoi,Jp⟩:=hyF i z y hz hy;have st:af H5 (upd H5 tt (.tup [.str z,y])):=af.new htt;have hi:=aW hz;have hal:=BG (bs:=bs) (zs:=zs.take i);rw [Qg] at hal;refine ⟨tt,_,rfl,.of ab,rfl,_,_,rfl,_,_,rfl,rfl,_,rfl,rfl,_,rfl,?_⟩;rw [Jp,ho.none];have hne:=Gk (bs:=bs) hz;cases he:(bs.filter (eY z)).isEmpty with
   | true=>
    rw [he] at hne;refine ck ⟨_,rfl,_,st _ _ hGx,small (by rw [PQ];lia),_,ab,⟨_,_,rfl⟩,aF hGL (s5.trans st),?_⟩;rw [hne,Qa];rfl
   | false=>
    rw [he] at hne;refine bf ⟨_,st _ _ hGx,⟨_,_,rfl⟩,s5.trans st,?_⟩;rw [hne];simp
  obtain ⟨_,s5,rfl⟩:=q;rw [PQ,hfl,Sf,P4 (PR _)] at hG5;have PM:=BG (bs:=bs) (zs:=zs);refine ⟨_,rfl,GL,t,tW bs zs,s0,l0,rfl,.inl hG5,by lia,λz hz=>hzs z (QY.mp hz).1,s5.b8 Ma,aN la4 s5,λD ms Gn H6 ps hpm hu hD s6 la6 hDD hps hko hpo MZ hfr hnd dnD=>?_⟩;have pQ:yX s0 l0 (tW bs zs) ps:=⟨⟨ms,hpm,hu,hps⟩,hko,hpo,MZ⟩;have hx5:=s5 _ _ hx4;have hx6:H6 x=some (.ins A.aR dx [("rows",.ref r),("by_hand",.ref b)]):=s6 _ _ (by rw [aj hxP];exact hx5);have hDx:D≠x:=λe=>by rw [e,hx5] at hD;cases hD
  have Pf:Gn.length=ps.length:=by rw [dnD.length,PQ]
  refine ⟨_,rfl,x,dx,_,rfl,hx6,by simp,?_⟩;refine eC la6 hx6 λH7 hx7 f7 la7=>?_;replace hx7:H7 x=some (.ins A.aR dx [("rows",.ref r),("by_hand",.ref b),("found",.ref D)]):=hx7;obtain ⟨tb7,FZ⟩:=aP la7;have g27:∀ c o,c≠x->c≠A.aq->H2 c=some o->H7 c=some o:=λc o h1 h2 e=>by
   rw [f7 c h1];refine s6 _ _ ?_;rw [aj h2];refine s5 _ _ ?_;rw [f4 c h1];exact e
  have g57:∀ c o,c≠x->c≠A.aq->H5 c=some o->H7 c=some o:=λc o h1 h2 e=>by
   rw [f7 c h1];exact s6 _ _ (by rw [aj h2];exact e)
  have g67:∀ c o,c≠x->H6 c=some o->H7 c=some o:=λc o h1 e=>by rw [f7 c h1];exact e
  have hnP:∀ {c:Addr}{ys:List V},H2 c=some (.lst ys)->c≠A.aq:=λ{c ys} h e=>by
   obtain ⟨q,hq⟩:=aP la2;rw [e,hq] at h;cases h
  have hL7:H7 L=some (.lst (zs.map V.str)):=g27 _ _ hxL (hnP hL2) hL2;have hF7:H7 F=some (.lst fo):=g27 _ _ hxF (hnP hF2) hF2;have hD7:H7 D=some (.lst Gn):=g67 _ _ hDx hDD;have hxn:∀ zs',H x≠some (.lst zs'):=λzs' e=>by rw [hx] at e;cases e
  have hPn:∀ zs',H A.aq≠some (.lst zs'):=λzs' e=>by rw [htb] at e;cases e
  have h2x:∃ C dx fs,lim H H2 x=some (.ins C dx fs):=⟨_,_,_,by rw [bV hxn];exact hx2⟩;have h2P:∃ ps,lim H H2 A.aq=some (.tbl ps):=⟨_,by rw [bV hPn];exact s02 _ _ htb⟩;have h6x:∃ C dx fs,lim H5 H6 x=some (.ins C dx fs):=⟨_,_,_,by rw [bV λzs' e=>by rw [hx5] at e;cases e];exact hx6⟩;have h6P:∃ ps,lim H5 H6 A.aq=some (.tbl ps):=by
   obtain ⟨q5,hq5⟩:=aP (aN la4 s5);obtain ⟨q6,hq6⟩:=aP la6;exact ⟨q6,by rw [bV λzs' e=>by rw [hq5] at e;cases e];exact hq6⟩
  have hl5:∀ c zs',(∀ ys,H5 c≠some (.lst ys))->c≠x->H c≠some (.lst zs'):=λc zs' h1 h2 e=>h1 zs' (s5 _ _ (by rw [f4 c h2];exact s02 _ _ e));have dD7:aA K H7 Gn (ps.map bj):=n5 dnD h6x h6P λc o h1 _ _ e=>g67 c o h1 e;have hpp:∀ p∈ps,POk p:=λp hp=>⟨P2 (hpo p hp).2.2 (by decide),λq hq=>((hpo p hp).1 q hq).ok⟩;refine ⟨_,rfl,_,rfl,L,F,rfl,⟨_,.of hL7⟩,⟨_,.of hF7⟩,λG hG=>?_⟩;have hG2:∀ c o,c≠x->c≠A.aq->H2 c=some o->c≠G:=λc o h1 h2 e z=>by rw [<-z,g27 c o h1 h2 e] at hG;cases hG
  refine ze (K:=K) (xs:=zs.map V.str) (ys:=fo) (λi acc σ H8=>(∃ u v,σ=[u,v,some (.ref x)])/\af H7 H8/\∃ ls:List (Option (List Pt)),aA K (wo G (lim H H8)) acc (ls.map oP)/\ls.length=i/\∀ (j:Nat) z o,zs[j]? = some z->ls[j]? = some o->Bk bs ps z o) ab ⟨⟨_,_,rfl⟩,af.new hG,[],.nil,rfl,λj z o _ e=>by cases e⟩ (λi acc σ H8 _ q=>⟨.of (q.2.1 _ _ hL7),.of (q.2.1 _ _ hF7)⟩) (λi xx y acc σ H8 tt hxx hy hGx q htt=>?_) (λlv σ H8 hG8 q=>?_)
  ·obtain ⟨q0,s8,ls,dn,hll,hls⟩:=q;apply n6 q0;clear q0;intro u v;obtain ⟨z,hz,rfl⟩:=fG hxx;obtain ⟨o,ho,hoi,Jp⟩:=hyF i z y hz hy;have st:af H8 (upd H8 tt (.tup [.str z,y])):=af.new htt;have hq9:SqT K (upd H8 tt (.tup [.str z,y])) tt [.str z,y]:=.of ab;have s9:=s8.trans st;generalize upd H8 tt (.tup [.str z,y])=H9 at st hq9 s9 ⊢;have hi:=aW hz;have hal:acc.length=i:=by rw [dn.length,PQ];exact hll
   have hzi:=hzk z (PU hz);have hG9:=st _ _ hGx;have add:∀ {o':Option (List Pt)},Bk bs ps z o'->∀ (j:Nat) z' o2,zs[j]? = some z'->(ls++[o'])[j]? = some o2->Bk bs ps z' o2:=λ{o'} h' j z' o2 hz' ho'=>by
    by_cases hj:j<ls.length
    ·rw [Qv hj] at ho';exact hls j z' o2 hz' ho'
    ·have hjl:=aW ho';rw [PX,P8] at hjl;have hji:j=i:=by lia
     rw [QB (by lia),show j - ls.length=0 by lia] at ho';cases ho';rw [hji,hz] at hz';cases hz';exact h'
   refine AG hq9 ⟨_,rfl,rfl,_,rfl,?_⟩;rw [Jp];cases o with
   | none=>
    have hbe:bs.filter (eY z)=[]:=by
     rcases ho with ⟨e,_⟩ | ⟨p,e,_⟩
     ·exact e
     ·cases e
    refine ck ⟨_,rfl,_,rfl,x,dx,_,.ref D,rfl,s9 _ _ hx7,rfl,z,D,Gn,ps,rfl,.of (s9 _ _ hD7),by lia,dD7.same s9,hpp,hzi.1,hzi.2,λrr H10 s10 hf=>?_⟩;obtain ⟨o',ho',dX⟩:=yN hf;refine ⟨_,s10 _ _ hG9,small (by lia),_,ab,⟨_,_,rfl⟩,aF hG (s9.trans s10),ls++[o'],?_,by rw [PX,hll];rfl,add (.inr ⟨hbe,ho'⟩)⟩;rw [wx,Qa];refine (dn.same (mh (dw (st.trans s10)))).append (.cons ?_ .nil);have h9x:∃ C dx fs,lim H9 H10 x=some (.ins C dx fs):=⟨_,_,_,by rw [bV λzs' e=>by rw [s9 _ _ hx7] at e;cases e];exact s10 _ _ (s9 _ _ hx7)⟩;have h9P:∃ ps,lim H9 H10 A.aq=some (.tbl ps):=⟨tb7,by rw [bV λzs' e=>by rw [s9 _ _ FZ] at e;cases e];exact s10 _ _ (s9 _ _ FZ)⟩;refine Bz dX h9x h9P λc o2 h1 h2 h3 e=>?_;rw [aj λe2=>h3 _ (by rw [e2];exact hG9),bV λzs' e2=>h3 zs' (s9 _ _ (g27 _ _ h1 h2 (s02 _ _ e2)))];exact e
   | some p=>
    have hde:Den K (lim H H2) y (oP (some p)):=by
     obtain ⟨o2,ho2,hd⟩:=BV dF hy;rw [hoi] at ho2;cases ho2;exact hd
    refine bf ⟨_,rfl,_,hG9,small (by lia),_,ab,⟨_,_,rfl⟩,aF hG s9,ls++[some p],?_,by rw [PX,hll];rfl,add (.inl ?_)⟩
    ·rw [wx,Qa];refine (dn.same (mh (dw st))).append (.cons ?_ .nil);refine Bz hde h2x h2P λc o2 h1 h2 h3 e=>?_;rw [aj (hG2 c o2 h1 h2 e),bV h3];exact s9 _ _ (g27 c o2 h1 h2 e)
    ·rcases ho with ⟨_,e⟩ | ⟨p',e,hl⟩
     ·cases e
     ·cases e;exact ⟨p,rfl,hl⟩
  obtain ⟨_,s8,ls,dnG,hll,hls⟩:=q;rw [PQ,hfl,Sf] at hll;have hx8:=s8 _ _ hx7;have hGx:G≠x:=λe=>by rw [e,hx7] at hG;cases hG
  refine ⟨_,rfl,x,dx,_,rfl,hx8,by simp,?_⟩;refine eC (aN la7 s8) hx8 λH9 hx9 f9 la9=>?_;replace hx9:H9 x=some (.ins A.aR dx [("rows",.ref r),("by_hand",.ref b),("found",.ref D),("falls",.ref G)]):=hx9;have g79:∀ c o,c≠x->H7 c=some o->H9 c=some o:=λc o h1 e=>by rw [f9 c h1];exact s8 _ _ e
  refine k H9 D G Gn lv ps ls ?_ ?_ ?_ la9 hx9 (g79 _ _ hDx hD7) ?_ (by rw [f9 _ hGx];exact hG8) ?_ pQ ⟨hll,hls⟩
  ·cases e:H D with
   | none=>rfl
   | some o=>
    have:=s5 _ _ (show H4 D=some o by rw [f4 _ hDx];exact s02 _ _ e);rw [hD] at this;cases this
  ·cases e:H G with
   | none=>rfl
   | some o=>
    by_cases h2:G=A.aq
    ·rw [h2,FZ] at hG;cases hG
    ·have:=g27 _ _ hGx h2 (s02 _ _ e);rw [hG] at this;cases this
  ·intro c o e;obtain ⟨h1,e⟩:=aD e;obtain ⟨h2,e⟩:=aD e;exact g79 _ _ h1 (g27 _ _ h1 h2 (s02 _ _ e))
  ·exact n5 dnD h6x h6P λc o h1 h2 h3 e=>by
    rw [bV λzs'=>hl5 c zs' h3 h1];exact g79 _ _ h1 (g67 _ _ h1 e)
  ·have h8x:∃ C dx fs,lim H H8 x=some (.ins C dx fs):=⟨_,_,_,by rw [bV hxn];exact hx8⟩;have h8P:∃ ps,lim H H8 A.aq=some (.tbl ps):=⟨tb7,by rw [bV hPn];exact s8 _ _ FZ⟩;exact n5 (dnG.same aZ) h8x h8P λc o h1 h2 h3 e=>by
    rw [bV h3,f9 c h1];exact e
def iy (K:Vz) (A:Ad):Sp:=λvs H Q _=>∃ (g dx st dx2:Addr) (fs gs:List (Str×V)) (rr bb:V),vs=[.ref g]/\H g=some (.ins A.aH dx fs)/\List.lookup ("state" : Str) fs=some (.ref st)/\H st=some (.ins A.aR dx2 gs)/\List.lookup ("rows" : Str) gs=some rr/\List.lookup ("by_hand" : Str) gs=some bb/\∀ p,H p=none->Q (.ref p) (upd H p (.tup [rr,bb]))
def eU (K:Vz) (A:Ad):Sp:=λvs H Q _=>∃ (g h dx t st ah pa tb r b:Addr) (rv bv:List V) (rs:List (Int×Str)) (bs:List (List Pt)) (s l:Int),vs=[.ref g,.ref h]/\H g=some (.ins A.aH dx [("sieve",.ref t),("state",.ref st),("ahead",.ref ah),("past",.ref pa),("taken_back",.ref tb)])/\SqT K H h [.ref r,.ref b]/\SqT K H t [.int s,.int l] /\
 H r=some (.lst rv)/\aA K H rv (rs.map eL)/\H b=some (.lst bv)/\aA K H bv (bs.map bj)/\rs.length<64/\(∀ q∈rs,∃ ws,fX 12 q.2 ws)/\bs.length<64/\ou bs/\bz A.aq H /\
 ∀ (H':Hp) (x dx' f fl:Addr) (fv lv:List V) (fnd:List (List Pt)) (fls:List (Option (List Pt))),H x=none->H f=none->H fl=none->af (wo g (wo A.aq H)) H'->bz A.aq H'->H' g=some (.ins A.aH dx [("sieve",.ref t),("state",.ref x),("ahead",.ref st),("past",.ref pa),("taken_back",.ref tb)]) ->
  H' x=some (.ins A.aR dx' [("rows",.ref r),("by_hand",.ref b),("found",.ref f),("falls",.ref fl)])->H' f=some (.lst fv)->aA K (lim H H') fv (fnd.map bj)->H' fl=some (.lst lv)->aA K (lim H H') lv (fls.map oP)->yX s l (tW bs (rs.map (·.2))) fnd->wm bs fnd (rs.map (·.2)) fls->Q .non H'
def ij (K:Vz) (A:Ad):Sp:=λvs H Q _=>∃ (B:Hp) (g pa tb r b:Addr) (v:eE) (rv bv:List V) (rs:List (Int×Str)) (bs:List (List Pt)),vs=[.ref g,.ref r,.ref b]/\bG K A.aH A.aR B H g pa tb v/\B A.aq=none/\B r=some (.lst rv)/\aA K B rv (rs.map eL)/\B b=some (.lst bv)/\aA K B bv (bs.map bj)/\rs.length<64/\(∀ q∈rs,∃ ws,fX 12 q.2 ws)/\bs.length<64/\ou bs/\v.past.length<=100000/\bz A.aq H /\
 ∀ (H' B':Hp) (tb':Addr) (cur:StV),af (wo g (wo pa (wo A.aq H))) H'->bz A.aq H'->H tb' = none->af B B'->(∀ c o,B c=none->H c=some o->nC o->B' c=none)->cur.rs=rs->cur.bs=bs->bG K A.aH A.aR B' H' g pa tb' ⟨v.s,v.l,cur,v.cur,v.past++[(v.cur.rs,v.cur.bs)],[]⟩->Q .non H'
def kR (K:Vz) (A:Ad):Sp:=λvs H Q _=>∃ (B:Hp) (g pa tb:Addr) (v:eE) (m:Int) (z:Str),vs=[.ref g,.int m,.str z]/\bG K A.aH A.aR B H g pa tb v/\B A.aq=none/\(∃ ws,fX 12 z ws)/\v.cur.rs.length<63/\(∀ q,v.cur.rs.getLast? = some q->q.1<=m)/\v.past.length<=100000/\bz A.aq H /\
 ∀ (H' B':Hp) (tb':Addr) (cur:StV),af (wo g (wo pa (wo A.aq H))) H'->bz A.aq H'->H tb' = none->af B B'->(∀ c o,B c=none->H c=some o->nC o->B' c=none)->cur.rs=v.cur.rs++[(m,z)]->cur.bs=v.cur.bs->bG K A.aH A.aR B' H' g pa tb' ⟨v.s,v.l,cur,v.cur,v.past++[(v.cur.rs,v.cur.bs)],[]⟩->Q (.int (v.cur.rs.length:Int)) H'
def lj (K:Vz) (A:Ad):Sp:=λvs H Q _=>∃ (g t dx:Addr) (s l:Int),vs=[.ref g,.ref t]/\H g=some (.ins A.aH dx [])/\SqT K H t [.int s,.int l]/\bz A.aq H /\
 ∀ (H' B':Hp) (pa tb:Addr) (cur:StV),af (wo g (wo A.aq H)) H'->bz A.aq H'->H pa=none->H tb=none->(∀ c o,H c=some o->nC o->B' c=none)->cur.rs=[]->cur.bs=[]->bG K A.aH A.aR B' H' g pa tb ⟨s,l,cur,cur,[],[]⟩->Q .non H'
def j3 (K:Vz) (A:Ad):Sp:=λvs H Q _=>∃ (B:Hp) (g pa tb:Addr) (v:eE),vs=[.ref g]/\bG K A.aH A.aR B H g pa tb v/\Q (.int (v.cur.rs.length:Int)) H
def bq (K:Vz) (A:Ad):Sp:=λvs H Q _=>(∃ (B B2:Hp) (g pa tb g2 pa2 tb2:Addr) (v v2:eE),vs=[.ref g,.ref g2]/\bG K A.aH A.aR B H g pa tb v/\bG K A.aH A.aR B2 H g2 pa2 tb2 v2 /\
 Q (.bl (PyData.eqv (.tuple [.int v.s,.int v.l]) (.tuple [.int v2.s,.int v2.l]) && (PyData.eqv (.list (v.cur.rs.map eL)) (.list (v2.cur.rs.map eL)) && PyData.eqv (.list (v.cur.bs.map bj)) (.list (v2.cur.bs.map bj))))) H)\/∃ (x y:V) (t:Vy),vs=[x,y]/\ke K H y t/\PySem.W.kitOne K t (.ref A.aH)=some false/\Q (.bl false) H
theorem zk:aE ["self"] ["self"] (ak (mIn 55 3)):=⟨rfl,rfl,rfl,by decide +kernel,rfl,by decide +kernel,by decide +kernel⟩
theorem lS (T:Tx K mg A):ax P w K mg base CX0 1 A.fA A.gP ["self"] (iy K A):=by
 refine T.nZ.fn.ok zk (λvs H Q E h=>?_) (λcdv Ar outer s H vs Q E hr h=>?_)
 ·obtain ⟨g,dx,st,dx2,fs,gs,rr,bb,rfl,_⟩:=h;rfl
 ·obtain ⟨g,dx,st,dx2,fs,gs,rr,bb,rfl,hg,hst,hs,h1,h2,k⟩:=h;refine ⟨_,ao (aC (bT (aa (bg T.bB T.bM (bg T.aM T.aQ (pv 0))) (aa (bg T.bB T.bC (bg T.aM T.aQ (pv 0))) (ae))))),?_⟩;exact ⟨_,rfl,g,dx,fs,.ref st,rfl,hg,hst,st,dx2,gs,rr,rfl,hs,h1,_,rfl,g,dx,fs,.ref st,rfl,hg,hst,st,dx2,gs,bb,rfl,hs,h2,(by show 2<=sizeLine;decide),λp hp=>k p hp⟩
theorem ig:aE ["self","held","rows","by_hand"] ["self","held"] (ak (mIn 55 5)):=⟨rfl,rfl,rfl,by decide +kernel,rfl,by decide +kernel,by decide +kernel⟩
theorem gJ (T:Tx K mg A):ax P w K mg base CX0 23 A.cT A.ee ["self","held"] (eU K A):=by
 have iN:ax P w K mg base CX0 21 A.e9 A.gz ["self","sieve","rows","by_hand"] (iV K A):=(mN T).mono (by decide);refine T.iG.fn.ok ig (λvs H Q E h=>?_) (λcdv Ar outer s H vs Q E hr h=>?_)
 ·obtain ⟨g,h,dx,t,st,ah,pa,tb,r,b,rv,bv,rs,bs,s0,l0,rfl,_⟩:=h;rfl
 ·obtain ⟨g,h,dx,t,st,ah,pa,tb,r,b,rv,bv,rs,bs,s0,l0,rfl,hg,hqh,hqt,hrr,hdr,hb,hdb,hrl,hlo,hbl,hbo,hla,k⟩:=h;obtain ⟨tab,dJ⟩:=aP hla;have hgP:g≠A.aq:=λe=>by rw [<-e,hg] at dJ;cases dJ
  refine ⟨_,ag (lC (pv 1) (jL rfl (bK (aI (i:=2) ig.nd rfl (Or.inl rfl)) (bK (aI (i:=3) ig.nd rfl (Or.inl rfl)) (gy)))))
   (ag (jl T.aM T.oR (pv 0) (bg T.aM T.aQ (pv 0)))
   (ao (jl T.aM T.aQ (pv 0) (xa T.xJ iN hr (by rfl) T.BZ T.m6.bd .nil ay (aa (bg T.aM T.cM (pv 0)) (aa (pv 2) (aa (pv 3) (ae)))))))),?_⟩
  refine ⟨_,rfl,h,_,rfl,hqh,rfl,_,_,rfl,_,_,rfl,rfl,?_⟩;refine ⟨_,rfl,g,dx,_,.ref st,rfl,hg,rfl,_,rfl,g,dx,_,rfl,hg,by simp,?_⟩;refine eC hla hg λH2 hg2 f2 la2=>?_;replace hg2:H2 g=some (.ins A.aH dx [("sieve",.ref t),("state",.ref st),("ahead",.ref st),("past",.ref pa),("taken_back",.ref tb)]):=hg2;have s2:af (wo g H) H2:=λc o e=>by
   obtain ⟨h1,e⟩:=aD e;rw [f2 c h1];exact e
  refine ⟨_,rfl,g,dx,_,.ref t,rfl,hg2,rfl,_,rfl,_,rfl,λx dx' hx hdx hne=>?_⟩;obtain ⟨Hx,eq,sx,hxx⟩:=rF A.aR hx hdx hne;rw [eq];have sH:af (wo g H) Hx:=s2.trans sx;have hng:∀ {c:Addr}{ys:List V},H c=some (.lst ys)->c≠g:=λ{c ys} h e=>by rw [e,hg] at h;cases h
  have hxg:x≠g:=λe=>by rw [e,hg2] at hx;cases hx
  have hHx:H x=none:=by rw [<-f2 x hxg];exact hx
  refine ⟨x,t,r,b,dx',rv,bv,rs,bs,s0,l0,rfl,hxx,sH.b8 (qY hg hqt),sH _ _ (by rw [aj (hng hrr)];exact hrr),(rO hg hdr).same sH,sH _ _ (by rw [aj (hng hb)];exact hb),(rO hg hdb).same sH,hrl,hlo,hbl,hbo,aN la2 sx,λH3 f fl fv lv fnd fls hf hfl s3 la3 hx3 hf3 df M3 dl pQ gR=>⟨rfl,?_⟩⟩;have hg3:H3 g=some (.ins A.aH dx [("sieve",.ref t),("state",.ref st),("ahead",.ref st),("past",.ref pa),("taken_back",.ref tb)]):=s3 _ _ (by rw [aj hxg.symm,aj hgP];exact sx _ _ hg2);refine ⟨_,rfl,g,dx,_,rfl,hg3,by simp,?_⟩;refine eC la3 hg3 λH4 hg4 f4 la4=>?_;replace hg4:H4 g=some (.ins A.aH dx [("sieve",.ref t),("state",.ref x),("ahead",.ref st),("past",.ref pa),("taken_back",.ref tb)]):=hg4;have hnx:∀ {c:Addr},Hx c=none->H c=none:=λ{c} e=>by
   cases e2:H c with
   | none=>rfl
   | some o=>
    by_cases h1:c=g
    ·rw [h1,sx _ _ hg2] at e;cases e
    ·rw [sH c o (by rw [aj h1];exact e2)] at e;cases e
  have hfg:f≠g:=λe=>by rw [e,sx _ _ hg2] at hf;cases hf
  have NE:fl≠g:=λe=>by rw [e,sx _ _ hg2] at hfl;cases hfl
  have go:∀ {v:List V}{ds:List PyData},aA K (lim Hx H3) v ds->aA K (lim H H4) v ds:=λ{v ds} d=>ph d λc o h1 h2 _ h3 _=>by
   have hcg:c≠g:=λe=>by rw [e,hg3] at h2;cases h2;exact h3 _ _ _ rfl
   rw [bV λys e=>h1 ys (sH _ _ (by rw [aj hcg];exact e)),f4 c hcg];exact h2
  refine k H4 x dx' f fl fv lv fnd fls hHx (hnx hf) (hnx hfl) (λc o e=>?_) la4 hg4 (by rw [f4 x hxg];exact hx3) (by rw [f4 f hfg];exact hf3) (go df) (by rw [f4 fl NE];exact M3) (go dl) pQ gR;obtain ⟨h1,e⟩:=aD e;obtain ⟨h2,e⟩:=aD e;rw [f4 c h1];exact s3 _ _ (by rw [aj (λz=>by rw [z,hHx] at e;cases e),aj h2];exact sH _ _ (by rw [aj h1];exact e))
theorem rK:aE ["self","rows","by_hand"] ["self","rows","by_hand"] (ak (mIn 55 6)):=⟨rfl,rfl,rfl,by decide +kernel,rfl,by decide +kernel,by decide +kernel⟩
theorem k8 (T:Tx K mg A):ax P w K mg base CX0 24 A.eh A.fB ["self","rows","by_hand"] (ij K A):=by
 have ed:ax P w K mg base CX0 23 A.cT A.ee ["self","held"] (eU K A):=(gJ T).mono (by decide);have ic:ax P w K mg base CX0 23 A.fA A.gP ["self"] (iy K A):=(lS T).mono (by decide);refine T.kN.fn.ok rK (λvs H Q E h=>?_) (λcdv Ar outer s H vs Q E hr h=>?_)
 ·obtain ⟨B,g,pa,tb,r,b,v,rv,bv,rs,bs,rfl,_⟩:=h;rfl
 ·obtain ⟨B,g,pa,tb,r,b,v,rv,bv,rs,bs,rfl,gv,hBP,hBr,hdr,hBb,hdb,hrl,hlo,hbl,hbo,hpl,hla,k⟩:=h;obtain ⟨dx,t,st,ah,pw,tv,hg,hpa,htb,sB,hBg,kE,m9,hpt,hqt,hst,hah,hdp,hdt,okc,oka⟩:=gv;have nc:=hst;obtain ⟨dx2,r0,b0,f0,fl0,rv0,bv0,fv0,lv0,q1,q2,q3,q4,q5,q6,q7,q8,q9⟩:=nc;obtain ⟨tab,dJ⟩:=aP hla;have hgP:g≠A.aq:=λe=>by rw [<-e,hg] at dJ;cases dJ
  have hpP:pa≠A.aq:=λe=>by rw [<-e,hpa] at dJ;cases dJ
  have hgp:pa≠g:=λe=>by rw [e,hg] at hpa;cases hpa
  have Oq:pw.length<=100000:=by rw [hdp.1];exact hpl
  refine ⟨_,ag (be (cQ PySem.F.plainAttrs_list PySem.F.slot_list_append PySem.F.type_list_append cm (bg T.aM T.fP (pv 0)) (aa (je (pv 0) T.aM T.kY ic hr T.nZ.bd .nil ay) (ae))))
   (ag (jl T.aM T.cy (pv 0) (bu (ae)))
   (ao (be (fF (pv 0) T.aM T.g7 ed hr T.iG.bd .nil ay (aa (bT (aa (pv 1) (aa (pv 2) (ae)))) (ae)))))),?_⟩
  refine ⟨_,rfl,g,dx,_,.ref pa,rfl,hg,rfl,.inl ⟨rfl,_,.of hpa⟩,_,rfl,g,dx,_,rfl,hg,rfl,g,dx,st,dx2,_,_,.ref r0,.ref b0,rfl,hg,rfl,sB _ _ q1,rfl,rfl,λp hp=>?_⟩;have hpp:p≠pa:=λe=>by rw [e,hpa] at hp;cases hp
  have hpg:p≠g:=λe=>by rw [e,hg] at hp;cases hp
  refine ⟨pa,pw,_,rfl,rfl,by rw [au hpp.symm];exact hpa,small (by lia),?_⟩;have f2:∀ c,c≠pa->c≠p->(upd (upd H p (.tup [.ref r0,.ref b0])) pa (.lst (pw++[.ref p]))) c=H c:=λc h1 h2=>by rw [au h1,au h2]
  have xE:(upd (upd H p (.tup [.ref r0,.ref b0])) pa (.lst (pw++[.ref p]))) pa=some (.lst (pw++[.ref p])):=ab;have hp2:(upd (upd H p (.tup [.ref r0,.ref b0])) pa (.lst (pw++[.ref p]))) p=some (.tup [.ref r0,.ref b0]):=by rw [au hpp];exact ab
  have la2:bz A.aq (upd (upd H p (.tup [.ref r0,.ref b0])) pa (.lst (pw++[.ref p]))):=fC (aN hla (af.new hp)) (xs:=pw) (by rw [au hpp.symm];exact hpa);generalize upd (upd H p (.tup [.ref r0,.ref b0])) pa (.lst (pw++[.ref p]))=H2 at f2 xE hp2 la2 ⊢;have hg2:H2 g=_:=(f2 g hgp.symm hpg.symm).trans hg;refine ⟨Qb _,λtb' qV=>?_⟩;have htg:tb'≠g:=λe=>by rw [e,hg2] at qV;cases qV
  have htp:tb'≠pa:=λe=>by rw [e,xE] at qV;cases qV
  have L6:tb'≠p:=λe=>by rw [e,hp2] at qV;cases qV
  have xY:H tb' = none:=by rw [<-f2 tb' htp L6];exact qV
  have s3:af H2 (upd H2 tb' (.lst [])):=af.new qV;have LS:(upd H2 tb' (.lst [])) tb' = some (.lst []):=ab;generalize upd H2 tb' (.lst [])=H3 at s3 LS ⊢;have hg3:=s3 _ _ hg2;refine ⟨_,rfl,g,dx,_,rfl,hg3,by simp,?_⟩;refine eC (aN la2 s3) hg3 λH4 hg4 f4 la4=>?_;replace hg4:H4 g=some (.ins A.aH dx [("sieve",.ref t),("state",.ref st),("ahead",.ref ah),("past",.ref pa),("taken_back",.ref tb')]):=hg4;have g04:∀ c o,c≠g->c≠pa->H c=some o->H4 c=some o:=λc o h1 h2 e=>by
   rw [f4 c h1];refine s3 _ _ ?_;rw [f2 c h2 λz=>by rw [z,hp] at e;cases e];exact e
  refine ⟨_,rfl,g,dx,_,rfl,hg4,rfl,_,rfl,_,rfl,(by show 2<=sizeLine;decide),λh hh=>?_⟩;obtain ⟨H5,eq,s5,hh5⟩:=dz (.tup [.ref r,.ref b]) hh;rw [eq];have hBn:∀ {c:Addr}{o:HO},B c=some o->c≠g/\c≠pa/\c≠A.aq:=λ{c o} e=>⟨(λz=>by rw [z,hBg] at e;cases e),(λz=>by rw [z,kE] at e;cases e),λz=>by rw [z,hBP] at e;cases e⟩;have sB5:af B H5:=λc o e=>s5 _ _ (g04 c o (hBn e).1 (hBn e).2.1 (sB _ _ e));refine ⟨g,h,dx,t,st,ah,pa,tb',r,b,rv,bv,rs,bs,v.s,v.l,rfl,s5 _ _ hg4,.of hh5,sB5.b8 hqt,sB5 _ _ hBr,hdr.same sB5,sB5 _ _ hBb,hdb.same sB5,hrl,hlo,hbl,hbo,aN la4 s5,λH6 x dx' f fl fv lv fnd fls hx hf hfl s6 la6 hg6 hx6 hf6 df AV dl pQ gR=>?_⟩;have g06:∀ c o,c≠g->c≠pa->c≠A.aq->H c=some o->H6 c=some o:=λc o h1 h2 h3 e=>s6 _ _ (by rw [aj h1,aj h3];exact s5 _ _ (g04 c o h1 h2 e));have g46:∀ c o,c≠g->c≠A.aq->H4 c=some o->H6 c=some o:=λc o h1 h3 e=>s6 _ _ (by rw [aj h1,aj h3];exact s5 _ _ e);have Md:B tb' = none:=sB.free xY;have DY:∀ c o,B c=some o->H6 c=some o:=λc o e=>g06 c o (hBn e).1 (hBn e).2.1 (hBn e).2.2 (sB _ _ e);have sBB:=rV (H':=H6) sB hBg kE Md DY;have il:=oN (B:=B) (H:=H) (H':=H6) (g:=g) (pa:=pa) (tb:=tb');have CZ:H4 pa=some (.lst (pw++[.ref p])):=by rw [f4 pa hgp];exact s3 _ _ xE
  have ux:H4 tb' = some (.lst []):=by rw [f4 tb' htg];exact LS
  have htP:tb'≠A.aq:=λe=>by
   obtain ⟨q,hq⟩:=aP la4;rw [<-e,ux] at hq;cases hq
  have OL:=g46 _ _ hgp hpP CZ;have CC:=g46 _ _ htg htP ux;have h0:∀ {c:Addr},H5 c=none->H c=none/\c≠g/\c≠pa/\c≠tb':=λ{c} e=>by
   have n1:c≠g:=λz=>by rw [z,s5 _ _ hg4] at e;cases e
   have n2:c≠pa:=λz=>by rw [z,s5 _ _ CZ] at e;cases e
   have n3:c≠tb':=λz=>by rw [z,s5 _ _ ux] at e;cases e
   refine ⟨?_,n1,n2,n3⟩;cases e2:H c with
   | none=>rfl
   | some o=>rw [s5 _ _ (g04 c o n1 n2 e2)] at e;cases e
  have new:∀ {c:Addr},H5 c=none->nxt B H H6 g pa tb' c=H6 c:=λ{c} e=>by
   obtain ⟨h1,h2,h3,h4⟩:=h0 e;exact fc h2 h3 h4 (λ_ z=>by rw [h1] at z;cases z) (λ_ _ _ z=>by rw [h1] at z;cases z) λ_ z=>by rw [h1] at z;cases z
  have go:∀ {v:List V}{ds:List PyData},aA K (lim H5 H6) v ds->aA K (nxt B H H6 g pa tb') v ds:=λ{v ds} d=>ph d λc o h1 h2 _ h3 h4=>by
   have n1:c≠g:=λe=>by rw [e,hg6] at h2;cases h2;exact h3 _ _ _ rfl
   have n2:c≠pa:=λe=>h1 _ (by rw [e];exact s5 _ _ CZ);have n3:c≠tb':=λe=>h1 _ (by rw [e];exact s5 _ _ ux);have n4:c≠A.aq:=λe=>by
    obtain ⟨q,hq⟩:=aP la6;rw [e,hq] at h2;cases h2;exact h4 _ rfl
   rw [fc n1 n2 n3 (λys e=>h1 ys (s5 _ _ (g04 _ _ n1 n2 e))) (λC d' fs e=>?_) (λps e=>?_)]
   ·exact h2
   ·have:=g06 _ _ n1 n2 n4 e;rw [h2] at this;cases this;exact h3 _ _ _ rfl
   ·have:=g06 _ _ n1 n2 n4 e;rw [h2] at this;cases this;exact h4 _ rfl
  have NB:p≠A.aq:=λe=>by rw [e,dJ] at hp;cases hp
  have hp6:H6 p=some (.tup [.ref r0,.ref b0]):=g46 _ _ hpg NB (by rw [f4 p hpg];exact s3 _ _ hp2);have hBp:nxt B H H6 g pa tb' p=some (.tup [.ref r0,.ref b0]):=by
   rw [fc hpg hpp L6.symm (λ_ z=>by rw [hp] at z;cases z) (λ_ _ _ z=>by rw [hp] at z;cases z) λ_ z=>by rw [hp] at z;cases z];exact hp6
  refine k H6 (nxt B H H6 g pa tb') tb' ⟨rs,bs,fnd,fls⟩ (λc o e=>?_) la6 xY sBB (λc o h1 h2 h3=>oM h1 h2 h3) rfl rfl
   ⟨dx,t,x,st,pw++[.ref p],[],hg6,OL,CC,xB DY,il.1,il.2.1,il.2.2,htp.symm,sBB.b8 hqt,
    ⟨dx',r,b,f,fl,rv,bv,fv,lv,by rw [new hx];exact hx6,sBB _ _ hBr,hdr.same sBB,sBB _ _ hBb,hdb.same sBB,by rw [new hf];exact hf6,go df,by rw [new hfl];exact AV,go dl⟩,
    hst.same sBB,?_,.nil,⟨pQ,gR,hlo,hbo,hrl,hbl⟩,okc⟩
  ·obtain ⟨h1,e⟩:=aD e;obtain ⟨h2,e⟩:=aD e;obtain ⟨h3,e⟩:=aD e;exact g06 c o h1 h2 h3 e
  ·exact (hdp.same sBB).snoc ⟨p,r0,b0,rv0,bv0,rfl,.of hBp,sBB _ _ q2,q3.same sBB,sBB _ _ q4,q5.same sBB⟩
theorem pE {N:Hp->Prop}{G:Prop} (Pre:Hp->Prop) (rest:∀ H,Pre H->N H) (f:(∀ H,Pre H->N H)->G):G:=f rest
theorem E9 (rs:List (Int×Str)):(PyData.list (rs.map eL)).depth<=100:=by
 have h:PyData.depthAll (rs.map eL)<=5:=dC _ λd hd=>by
  obtain ⟨q,_,rfl⟩:=P9.mp hd;show (PyData.tuple [.int q.1,.str q.2]).depth<=5;simp only [PyData.depth,PyData.depthAll];decide
 simp only [PyData.depth];lia
theorem qy:aE ["self","moment","line","rows"] ["self","moment","line"] (ak (mIn 55 7)):=⟨rfl,rfl,rfl,by decide +kernel,rfl,by decide +kernel,by decide +kernel⟩
theorem qo (T:Tx K mg A):ax P w K mg base CX0 25 A.ik A.jH ["self","moment","line"] (kR K A):=by
 have i0:ax P w K mg base CX0 24 A.eh A.fB ["self","rows","by_hand"] (ij K A):=(k8 T).mono (by decide);have CA:ax P w K mg base CX0 24 A.pZ A.pU ["thing"] (tD K):=(AQ T).mono (by decide);refine T.nL.fn.ok qy (λvs H Q E h=>?_) (λcdv Ar outer s H vs Q E hr h=>?_)
 ·obtain ⟨B,g,pa,tb,v,m,z,rfl,_⟩:=h;rfl
 ·obtain ⟨B,g,pa,tb,v,m,z,rfl,gv,hBP,hz,hrl,uX,hpl,hla,k⟩:=h;have EZ:=gv;obtain ⟨dx,t,st,ah,pw,tv,hg,hpa,htb,sB,hBg,kE,m9,hpt,hqt,hst,hah,hdp,hdt,okc,oka⟩:=EZ;have nc:=hst;obtain ⟨dx2,r0,b0,f0,fl0,rv0,bv0,fv0,lv0,q1,q2,q3,q4,q5,q6,q7,q8,q9⟩:=nc;obtain ⟨ws,hw⟩:=hz;have hzk:=hw.ok (by decide);have hrv:rv0.length=v.cur.rs.length:=by rw [q3.length,PQ]
  refine ⟨_,ag (aY (i:=3) qy.nd rfl (Or.inl rfl) (bg T.bB T.bM (bg T.aM T.aQ (pv 0))))
   (ag (a8 (dD (cJ (av CA hr (by rfl) T.rd.mg T.rd.fn.kp T.rd.bd .nil ay (aa (pv 2) (ae))))) (ao (eB)) (aO))
   (ag (a8 ((pw_and (sf (pv 3) (λ_=>rfl)) (pw_and1 (aJ (tH) (pv 1) (aU (r:=eP K) bF (aU (r:=dE K) aX (pv 3) (yh rE (ar)) (λ_ _=>rfl)) (ar) (λ_ _=>rfl)) (aG _)))).pt) (ao (eB)) (aO))
   (ag (a8 (aJ (Ca) (aK (r:=cH K) aV (by rfl) T.cq PySem.boot_len (aa (pv 3) (ae))) (fE (v:=.int 120) (by rfl) (Exists.choose_spec T.xy) ⟨_,rfl⟩) (aG _)) (ao (eB)) (aO))
   (ag (be (fF (pv 0) T.aM T.kO i0 hr T.kN.bd .nil ay (aa (bS (r:=uL K) oF (pv 3) (bu (aa (bT (aa (pv 1) (aa (pv 2) (ae)))) (ae)))) (aa (bg T.bB T.bC (bg T.aM T.aQ (pv 0))) (ae)))))
   (ao (aC (aK (r:=cH K) aV (by rfl) T.cq PySem.boot_len (aa (pv 3) (ae))))))))),?_⟩
  refine ⟨_,rfl,g,dx,_,.ref st,rfl,hg,rfl,st,dx2,_,.ref r0,rfl,sB _ _ q1,rfl,?_⟩;refine ⟨_,rfl,z,rfl,P2 hzk.2 (by decide),hzk.1,by rw [hw.split];exact hw.le,by rw [hw.split];exact λw h=>(hw.wd w h).word,λH1 s1=>⟨_,rfl,bf ?_⟩⟩;have sB1:=sB.trans s1;have hr1:H1 r0=some (.lst rv0):=sB1 _ _ q2;apply pE (λH2:Hp=>H2=H1)
  case f=>
   intro rest;refine ⟨_,rfl,_,.inl ⟨rv0,.of hr1,rfl⟩,?_⟩;cases hq:rv0 with
   | nil=>exact bf (bf (rest _ rfl))
   | cons y ys=>
    have hne:rv0≠[]:=λe=>by rw [e] at hq;cases hq
    obtain ⟨xs',x',e'⟩:∃ xs' x',rv0=xs'++[x']:=⟨rv0.dropLast,rv0.getLast hne,(QL hne).symm⟩;have hxl:rv0[xs'.length]? = some x':=by rw [e'];simp
    obtain ⟨p,ty,hp,rfl,hqp,_⟩:=gY q3 hxl;have hpm:p.1<=m:=uX p (by
     rw [R1,<-hrv,e',PX,P8,Nat.add_sub_cancel];exact hp)
    refine ck ⟨_,rfl,_,rfl,(1:Int),rfl,r0,_,(-1:Int),.ref ty,rfl,rfl,.of hr1,?_,ty,_,0,_,rfl,rfl,sB1.b8 hqp,rfl,_,_,rfl,rfl,_,rfl,?_⟩
    ·rw [e'];exact Ce
    ·rw [decide_eq_false (by lia)];exact bf (rest _ rfl)
  intro H2 e2;subst e2;refine ⟨_,rfl,r0,_,rfl,.inl (.of hr1),_,_,rfl,rfl,_,rfl,?_⟩;rw [decide_eq_false (by rw [hrv];lia)];refine bf ?_;have la1:=aN hla s1;have OV:=gv.same s1;have hg1:=s1 _ _ hg;refine ⟨_,rfl,g,dx,_,rfl,hg1,rfl,_,rfl,_,rfl,_,rfl,(by show 2<=sizeLine;decide),λtt htt=>?_⟩;obtain ⟨H3,eq,s2,ht2⟩:=dz (.tup [.int m,.str z]) htt;rw [eq];refine ⟨(by show 1<=sizeLine;decide),λll hll=>?_⟩;obtain ⟨H4,eq,s3,hl3⟩:=dz (.lst [.ref tt]) hll;rw [eq];refine ⟨r0,ll,_,_,rfl,rfl,.of ((s2.trans s3) _ _ hr1),.of hl3,P2 (show rv0.length+1<=100 by lia) (by decide),λR hR=>?_⟩;obtain ⟨H5,eq,s4,hR4⟩:=dz (.lst (rv0++[.ref tt])) hR;rw [eq];have s25:=(s2.trans s3).trans s4;have sB5:=sB1.trans s25;have ON:B tt=none:=sB1.free htt;have hBR:B R=none:=(sB1.trans (s2.trans s3)).free hR;have hRt:R≠tt:=λe=>by rw [e,(s3 _ _ ht2)] at hR;cases hR
  have hg5:=s25 _ _ hg1;refine ⟨_,rfl,g,dx,_,.ref st,rfl,hg5,rfl,st,dx2,_,.ref b0,rfl,sB5 _ _ q1,rfl,?_⟩;have sb:af B (upd (upd B tt (.tup [.int m,.str z])) R (.lst (rv0++[.ref tt]))):=(af.new ON).trans (af.new (by rw [au hRt];exact hBR));have bR:(upd (upd B tt (.tup [.int m,.str z])) R (.lst (rv0++[.ref tt]))) R=some (.lst (rv0++[.ref tt])):=ab;have bt:(upd (upd B tt (.tup [.int m,.str z])) R (.lst (rv0++[.ref tt]))) tt=some (.tup [.int m,.str z]):=by rw [au hRt.symm];exact ab
  have bo:∀ c,c≠R->c≠tt->(upd (upd B tt (.tup [.int m,.str z])) R (.lst (rv0++[.ref tt]))) c=B c:=λc h1 h2=>by rw [au h1,au h2]
  generalize upd (upd B tt (.tup [.int m,.str z])) R (.lst (rv0++[.ref tt]))=B1 at sb bR bt bo;have Nw:af B1 H5:=λc o e=>by
   by_cases h1:c=R
   ·rw [h1,bR] at e;cases e;rw [h1];exact hR4
   by_cases h2:c=tt
   ·rw [h2,bt] at e;cases e;rw [h2];exact (s3.trans s4) _ _ ht2
   rw [bo c h1 h2] at e;exact sB5 _ _ e
  have old:∀ {c:Addr}{o:HO},H c=some o->c≠R/\c≠tt:=λ{c o} e=>⟨(λh=>by rw [<-h,(s1.trans (s2.trans s3)) _ _ e] at hR;cases hR),λh=>by rw [<-h,s1 _ _ e] at htt;cases htt⟩;have ob:∀ {c:Addr}{o:HO},H c=some o->B c=none->B1 c=none:=λ{c o} e eb=>by rw [bo c (old e).1 (old e).2];exact eb
  obtain ⟨tab,dJ⟩:=aP hla;have s05:=s1.trans s25;have Ef:bG K A.aH A.aR B1 H5 g pa tb v:=gv.grow sb Nw (ob hg hBg) (ob hpa kE) (ob htb m9) ((s05 _ _ hg).trans hg.symm) ((s05 _ _ hpa).trans hpa.symm) ((s05 _ _ htb).trans htb.symm);refine ⟨B1,g,pa,tb,R,b0,v,rv0++[.ref tt],bv0,v.cur.rs++[(m,z)],v.cur.bs,rfl,Ef,ob dJ hBP,bR,?_,sb _ _ q4,q5.same sb,by rw [PX,P8];lia,λq hq=>?_,okc.bl,okc.hnd,hpl,aN la1 s25,λH6 B' tb' cur s6 la6 qV sBB mI e1 e2 Ja=>?_⟩
  ·rw [Qa];exact (q3.same sb).append (.cons (.tup (.of bt) (.cons (.int _) (.cons (.str hzk.1) .nil))) .nil)
  ·rcases Qc.mp hq with hq | hq
   ·exact okc.lns q hq
   ·rw [PZ.mp hq];exact ⟨ws,hw⟩
  ·have JH:=Ja;obtain ⟨_,_,_,_,_,_,_,_,_,sB6,_⟩:=JH;have Hm:=sb.trans sBB;refine ⟨_,rfl,r0,_,rfl,.inl (.of (sB6 _ _ (Hm _ _ q2))),?_⟩;rw [hrv];refine k H6 B' tb' cur (λc o e=>?_) la6 ?_ Hm (λc o h1 h2 h3=>mI c o (ob h2 h1) (s05 _ _ h2) h3) e1 e2 Ja
   ·obtain ⟨h1,e⟩:=aD e;obtain ⟨h2,e⟩:=aD e;obtain ⟨h3,e⟩:=aD e;exact s6 _ _ (by rw [aj h1,aj h2,aj h3];exact s05 _ _ e)
   ·exact s05.free qV
theorem zI:aE ["self"] ["self"] (ak (mIn 55 1)):=⟨rfl,rfl,rfl,by decide +kernel,rfl,by decide +kernel,by decide +kernel⟩
theorem Ap (T:Tx K mg A):ax P w K mg base CX0 1 A.l7 A.qa ["self"] (j3 K A):=by
 refine T.wN.fn.ok zI (λvs H Q E h=>?_) (λcdv Ar outer s H vs Q E hr h=>?_)
 ·obtain ⟨B,g,pa,tb,v,rfl,_⟩:=h;rfl
 ·obtain ⟨B,g,pa,tb,v,rfl,gv,k⟩:=h;obtain ⟨dx,t,st,ah,pw,tv,hg,hpa,htb,sB,hBg,kE,m9,hpt,hqt,hst,_⟩:=gv;obtain ⟨dx2,r0,b0,f0,fl0,rv0,bv0,fv0,lv0,q1,q2,q3,q4,q5,q6,q7,q8,q9⟩:=hst;have hrv:rv0.length=v.cur.rs.length:=by rw [q3.length,PQ]
  refine ⟨_,ao (aC (aK (r:=cH K) aV (by rfl) T.cq PySem.boot_len (aa (bg T.bB T.bM (bg T.aM T.aQ (pv 0))) (ae)))),?_⟩;refine ⟨_,rfl,g,dx,_,.ref st,rfl,hg,rfl,st,dx2,_,.ref r0,rfl,sB _ _ q1,rfl,r0,_,rfl,.inl (.of (sB _ _ q2)),?_⟩;rw [hrv];exact k
theorem Ds:aE ["self","other"] ["self","other"] (ak (mIn 55 2)):=⟨rfl,rfl,rfl,by decide +kernel,rfl,by decide +kernel,by decide +kernel⟩
theorem uO (T:Tx K mg A):ax P w K mg base CX0 1 A.lB A.o4 ["self","other"] (bq K A):=by
 refine T.d5.fn.ok Ds (λvs H Q E h=>?_) (λcdv Ar outer s H vs Q E hr h=>?_)
 ·rcases h with ⟨B,B2,g,pa,tb,g2,pa2,tb2,v,v2,rfl,_⟩ | ⟨x,y,t,rfl,_⟩ <;> rfl
 ·rcases h with ⟨B,B2,g,pa,tb,g2,pa2,tb2,v,v2,rfl,gv,IX,k⟩ | ⟨x,y,t,rfl,ty,hk,k⟩
  case inr=>
   refine ⟨_,ag (a8 ((pw_or (dD (cJ (aK (r:=Gb K) uK (by rfl) T.dO cV (aa (pv 1) (aa (Fy (by rfl) T.Bv) (ae)))))) (pw_or1 (aJ (r:=EF K) (wW hr) (bg T.aM T.cM (pv 0)) (bg T.aM T.cM (pv 1)) (aG _)))).pt) (ao (aC (jg))) (aO))
   (ao (aC (fg (bJ (r:=uh K) (nv hr) (bg T.bB T.bM (bg T.aM T.aQ (pv 0))) (bg T.bB T.bM (bg T.aM T.aQ (pv 1))) (aG _)) (iP (bJ (r:=uh K) (nv hr) (bg T.bB T.bC (bg T.aM T.aQ (pv 0))) (bg T.bB T.bC (bg T.aM T.aQ (pv 1))) (aG _)))))),?_⟩
   exact ⟨_,rfl,y,A.aH,t,false,rfl,ty,hk,_,rfl,ck k⟩
  obtain ⟨dx,t,st,ah,pw,tv,hg,hpa,htb,sB,hBg,kE,m9,hpt,hqt,hst,_⟩:=gv;obtain ⟨dx2,r0,b0,f0,fl0,rv0,bv0,fv0,lv0,q1,q2,q3,q4,q5,_⟩:=hst;obtain ⟨ex,t',st',ah',pw',tv',hg',_,_,sB',_,_,_,_,OJ,nc,_⟩:=IX;obtain ⟨ex2,r1,b1,f1,fl1,rv1,bv1,fv1,lv1,p1,p2,p3,p4,p5,_⟩:=nc;refine ⟨_,ag (a8 ((pw_or (dD (cJ (aK (r:=Gb K) uK (by rfl) T.dO cV (aa (pv 1) (aa (Fy (by rfl) T.Bv) (ae)))))) (pw_or1 (aJ (r:=EF K) (wW hr) (bg T.aM T.cM (pv 0)) (bg T.aM T.cM (pv 1)) (aG _)))).pt) (ao (aC (jg))) (aO))
   (ao (aC (fg (bJ (r:=uh K) (nv hr) (bg T.bB T.bM (bg T.aM T.aQ (pv 0))) (bg T.bB T.bM (bg T.aM T.aQ (pv 1))) (aG _)) (iP (bJ (r:=uh K) (nv hr) (bg T.bB T.bC (bg T.aM T.aQ (pv 0))) (bg T.bB T.bC (bg T.aM T.aQ (pv 1))) (aG _)))))),?_⟩
  refine ⟨_,rfl,_,A.aH,_,true,rfl,T.t9.ty T.aM hg',T.t9.self,_,rfl,bf ?_⟩;refine ⟨_,rfl,g,dx,_,.ref t,rfl,hg,rfl,_,rfl,g2,ex,_,.ref t',rfl,hg',rfl,_,_,.tup (sB.b8 hqt) (.cons (.int _) (.cons (.int _) .nil)),.tup (sB'.b8 OJ) (.cons (.int _) (.cons (.int _) .nil)),by simp only [PyData.depth,PyData.depthAll];decide,_,rfl,?_⟩;cases he:PyData.eqv (.tuple [.int v.s,.int v.l]) (.tuple [.int v2.s,.int v2.l]) with
  | false=>
   rw [he] at k;exact ck k
  | true=>
   rw [he] at k;refine bf ⟨_,rfl,g,dx,_,.ref st,rfl,hg,rfl,st,dx2,_,.ref r0,rfl,sB _ _ q1,rfl,_,rfl,g2,ex,_,.ref st',rfl,hg',rfl,st',ex2,_,.ref r1,rfl,sB' _ _ p1,rfl,_,_,.lst (.of (sB _ _ q2)) (q3.same sB),.lst (.of (sB' _ _ p2)) (p3.same sB'),?_,?_⟩
   ·exact E9 _
   refine ⟨_,rfl,?_⟩;cases he2:PyData.eqv (.list (v.cur.rs.map eL)) (.list (v2.cur.rs.map eL)) with
   | false=>
    rw [he2] at k;exact bf k
   | true=>
    rw [he2] at k;exact ck ⟨_,rfl,g,dx,_,.ref st,rfl,hg,rfl,st,dx2,_,.ref b0,rfl,sB _ _ q1,rfl,_,rfl,g2,ex,_,.ref st',rfl,hg',rfl,st',ex2,_,.ref b1,rfl,sB' _ _ p1,rfl,_,_,.lst (.of (sB _ _ q4)) (q5.same sB),.lst (.of (sB' _ _ p4)) (p5.same sB'),rn _,k⟩
theorem yT:aE ["self","sieve"] ["self","sieve"] (ak (mIn 55 0)):=⟨rfl,rfl,rfl,by decide +kernel,rfl,by decide +kernel,by decide +kernel⟩
theorem qh (T:Tx K mg A):ax P w K mg base CX0 23 A.gL A.ib ["self","sieve"] (lj K A):=by
 have iN:ax P w K mg base CX0 21 A.e9 A.gz ["self","sieve","rows","by_hand"] (iV K A):=(mN T).mono (by decide);refine T.yv.fn.ok yT (λvs H Q E h=>?_) (λcdv Ar outer s H vs Q E hr h=>?_)
 ·obtain ⟨g,t,dx,s0,l0,rfl,_⟩:=h;rfl
 ·obtain ⟨g,t,dx,s0,l0,rfl,hg,hqt,hla,k⟩:=h;obtain ⟨tab,dJ⟩:=aP hla;have hgP:g≠A.aq:=λe=>by rw [<-e,hg] at dJ;cases dJ
  refine ⟨_,ag (jl T.aM T.cM (pv 0) (i6 uy (by rfl) T.BC y3 (aa (pv 1) (ae))))
   (ag (jl T.aM T.aQ (pv 0) (xa T.xJ iN hr (by rfl) T.BZ T.m6.bd .nil ay (aa (bg T.aM T.cM (pv 0)) (aa (bu (ae)) (aa (bu (ae)) (ae))))))
   (ag (jl T.aM T.oR (pv 0) (bg T.aM T.aQ (pv 0)))
   (ag (jl T.aM T.fP (pv 0) (bu (ae)))
   (ao (jl T.aM T.cy (pv 0) (bu (ae))))))),?_⟩
  refine ⟨_,rfl,t,_,rfl,.inr ⟨hqt,_,rfl,g,dx,_,rfl,hg,by decide,?_⟩⟩;refine eC hla hg λH1 hg1 f1 la1=>?_;replace hg1:H1 g=some (.ins A.aH dx [("sieve",.ref t)]):=hg1;have sH1:af (wo g H) H1:=λc o e=>by
   obtain ⟨h1,e⟩:=aD e;rw [f1 c h1];exact e
  refine ⟨_,rfl,g,dx,_,.ref t,rfl,hg1,rfl,Qb _,λr hr1=>?_⟩;obtain ⟨H2,eq,s2,hr2⟩:=dz (.lst []) hr1;rw [eq];refine ⟨Qb _,λb hb1=>?_⟩;obtain ⟨H3,eq,s3,hb3⟩:=dz (.lst []) hb1;rw [eq];have s13:=s2.trans s3;have hg3:=s13 _ _ hg1;intro x dx' hx hdx hne;obtain ⟨Hx,eq,sx,hxx⟩:=rF A.aR hx hdx hne;rw [eq];have sH:af (wo g H) Hx:=(sH1.trans s13).trans sx;have hxg:x≠g:=λe=>by rw [e,hg3] at hx;cases hx
  have n0:∀ {c:Addr},H3 c=none->H c=none:=λ{c} e=>by
   cases e2:H c with
   | none=>rfl
   | some o=>
    by_cases h1:c=g
    ·rw [h1,hg3] at e;cases e
    ·rw [(sH1.trans s13) c o (by rw [aj h1];exact e2)] at e;cases e
  have hHx:H x=none:=n0 hx;have hHr:H r=none:=by
   have hrg:r≠g:=λe=>by rw [e,hg1] at hr1;cases hr1
   rw [<-f1 r hrg];exact hr1
  have hHb:H b=none:=by
   have hbg:b≠g:=λe=>by rw [e,s2 _ _ hg1] at hb1;cases hb1
   cases e2:H b with
   | none=>rfl
   | some o=>rw [s2 _ _ (show H1 b=some o by rw [f1 b hbg];exact e2)] at hb1;cases hb1
  refine ⟨x,t,r,b,dx',[],[],[],[],s0,l0,rfl,hxx,sH.b8 (qY hg hqt),(s3.trans sx) _ _ hr2,.nil,sx _ _ hb3,.nil,by decide,(λq hq=>by cases hq),by decide,(λq hq=>by cases hq),aN (aN la1 s13) sx,λH4 f fl fv lv fnd fls hf hfl s4 la4 hx4 hf4 df NM dl pQ gR=>⟨rfl,?_⟩⟩;have hg4:H4 g=some (.ins A.aH dx [("sieve",.ref t)]):=s4 _ _ (by rw [aj hxg.symm,aj hgP];exact sx _ _ hg3);refine ⟨_,rfl,g,dx,_,rfl,hg4,by simp,?_⟩;refine eC la4 hg4 λH5 hg5 f5 la5=>?_;replace hg5:H5 g=some (.ins A.aH dx [("sieve",.ref t),("state",.ref x)]):=hg5;refine ⟨_,rfl,g,dx,_,.ref x,rfl,hg5,rfl,_,rfl,g,dx,_,rfl,hg5,by simp,?_⟩;refine eC la5 hg5 λH6 hg6 f0 la6=>?_;replace hg6:H6 g=some (.ins A.aH dx [("sieve",.ref t),("state",.ref x),("ahead",.ref x)]):=hg6;have f6:∀ c,c≠g->H6 c=H4 c:=λc h=>(f0 c h).trans (f5 c h);refine ⟨Qb _,λpa hpa=>?_⟩;obtain ⟨H7,eq,s7,hp7⟩:=dz (.lst []) hpa;rw [eq];have hg7:=s7 _ _ hg6;have hpg:pa≠g:=λe=>by rw [e,hg6] at hpa;cases hpa
  refine ⟨_,rfl,g,dx,_,rfl,hg7,by simp,?_⟩;refine eC (aN la6 s7) hg7 λH8 hg8 f8 la8=>?_;replace hg8:H8 g=some (.ins A.aH dx [("sieve",.ref t),("state",.ref x),("ahead",.ref x),("past",.ref pa)]):=hg8;refine ⟨Qb _,λtb htb=>?_⟩;obtain ⟨H9,eq,s9,ht9⟩:=dz (.lst []) htb;rw [eq];have hg9:=s9 _ _ hg8;have htg:tb≠g:=λe=>by rw [e,hg8] at htb;cases htb
  have hp8:H8 pa=some (.lst []):=by rw [f8 pa hpg];exact hp7
  have htp:tb≠pa:=λe=>by rw [e,hp8] at htb;cases htb
  refine ⟨_,rfl,g,dx,_,rfl,hg9,by simp,?_⟩;refine eC (aN la8 s9) hg9 λH10 JR f10 Ge=>?_;replace JR:H10 g=some (.ins A.aH dx [("sieve",.ref t),("state",.ref x),("ahead",.ref x),("past",.ref pa),("taken_back",.ref tb)]):=JR;have g4:∀ c o,c≠g->H4 c=some o->H10 c=some o:=λc o h1 e=>by
   rw [f10 c h1];refine s9 _ _ ?_;rw [f8 c h1];refine s7 _ _ ?_;rw [f6 c h1];exact e
  have gx:∀ c o,c≠g->c≠x->c≠A.aq->Hx c=some o->H10 c=some o:=λc o h1 h2 h3 e=>g4 c o h1 (s4 _ _ (by rw [aj h2,aj h3];exact e));have g0:∀ c o,c≠g->c≠A.aq->H c=some o->H10 c=some o:=λc o h1 h3 e=>gx c o h1 (λz=>by rw [z,hHx] at e;cases e) h3 (sH _ _ (by rw [aj h1];exact e));have z4:∀ {c:Addr},c≠g->H4 c=none->H c=none:=λ{c} h1 e=>by
   cases e2:H c with
   | none=>rfl
   | some o=>
    by_cases h3:c=A.aq
    ·obtain ⟨q,hq⟩:=aP la4;rw [h3,hq] at e;cases e
    ·rw [s4 c o (by rw [aj (λz=>by rw [z,hHx] at e2;cases e2),aj h3];exact sH _ _ (by rw [aj h1];exact e2))] at e;cases e
  have HJ:H pa=none:=z4 hpg (by rw [<-f6 pa hpg];exact hpa);have xY:H tb=none:=z4 htg (by
   cases e2:H4 tb with
   | none=>rfl
   | some o=>
    rw [f8 tb htg] at htb;rw [s7 _ _ (show H6 tb=some o by rw [f6 tb htg];exact e2)] at htb;cases htb)
  have Pk:H10 x=some (.ins A.aR dx' [("rows",.ref r),("by_hand",.ref b),("found",.ref f),("falls",.ref fl)]):=g4 _ _ hxg hx4;have hnl:∀ {c:Addr}{ys:List V},Hx c=some (.lst ys)->c≠g/\c≠x/\c≠A.aq:=λ{c ys} e=>⟨(λz=>by rw [z,sx _ _ hg3] at e;cases e),(λz=>by rw [z,hxx] at e;cases e),λz=>by
   obtain ⟨q,hq⟩:=aP (aN (aN la1 s13) sx);rw [z,hq] at e;cases e⟩
  have hrx:=(s3.trans sx) _ _ hr2;have hbx:=sx _ _ hb3;have PF:=gx _ _ (hnl hrx).1 (hnl hrx).2.1 (hnl hrx).2.2 hrx;have Pm:=gx _ _ (hnl hbx).1 (hnl hbx).2.1 (hnl hbx).2.2 hbx;have CZ:H4 pa=none:=by rw [<-f6 pa hpg];exact hpa
  have ux:H4 tb=none:=by
   cases e2:H4 tb with
   | none=>rfl
   | some o=>
    rw [f8 tb htg] at htb;rw [s7 _ _ (show H6 tb=some o by rw [f6 tb htg];exact e2)] at htb;cases htb
  have out:∀ {c:Addr}{o:HO},H4 c=some o->c≠pa/\c≠tb:=λ{c o} e=>⟨(λz=>by rw [z,CZ] at e;cases e),λz=>by rw [z,ux] at e;cases e⟩;have new:∀ {c:Addr}{o:HO},H c=none->c≠g->H4 c=some o->nxt (λ_=>none) H H10 g pa tb c=some o:=λ{c o} h1 h2 h3=>by
   rw [fc h2 (out h3).1 (out h3).2 (λ_ z=>by rw [h1] at z;cases z) (λ_ _ _ z=>by rw [h1] at z;cases z) λ_ z=>by rw [h1] at z;cases z];exact g4 _ _ h2 h3
  have hr4:H4 r=some (.lst []):=s4 _ _ (by rw [aj (hnl hrx).2.1,aj (hnl hrx).2.2];exact hrx);have hb4:H4 b=some (.lst []):=s4 _ _ (by rw [aj (hnl hbx).2.1,aj (hnl hbx).2.2];exact hbx);have hx0:∀ {c:Addr},Hx c=none->H c=none/\c≠g:=λ{c} e=>by
   have h1:c≠g:=λz=>by rw [z,sx _ _ hg3] at e;cases e
   refine ⟨?_,h1⟩;cases e2:H c with
   | none=>rfl
   | some o=>rw [sH c o (by rw [aj h1];exact e2)] at e;cases e
  have go:∀ {v:List V}{ds:List PyData},aA K (lim Hx H4) v ds->aA K (nxt (λ_=>none) H H10 g pa tb) v ds:=λ{v ds} d=>ph d λc o h1 h2 _ h3 h4=>by
   have n1:c≠g:=λe=>by rw [e,hg4] at h2;cases h2;exact h3 _ _ _ rfl
   have n4:c≠A.aq:=λe=>by
    obtain ⟨q,hq⟩:=aP la4;rw [e,hq] at h2;cases h2;exact h4 _ rfl
   have h10:=g4 c o n1 h2;rw [fc n1 (out h2).1 (out h2).2 (λys e=>h1 ys (sH _ _ (by rw [aj n1];exact e))) (λC d' fs e=>?_) (λps e=>?_)]
   ·exact h10
   ·have:=g0 _ _ n1 n4 e;rw [h10] at this;cases this;exact h3 _ _ _ rfl
   ·have:=g0 _ _ n1 n4 e;rw [h10] at this;cases this;exact h4 _ rfl
  have hqB:SqT K (nxt (λ_=>none) H H10 g pa tb) t [.int s0,.int l0]:=by
   have one:∀ o:HO,(∀ ys,o ≠ .lst ys)->(∀ C d' fs,o ≠ .ins C d' fs)->(∀ ps,o ≠ .tbl ps)->H t=some o->nxt (λ_=>none) H H10 g pa tb t=some o:=λo h1 h2 h3 e=>by
    have n1:t≠g:=λz=>by rw [z,hg] at e;cases e;exact h2 _ _ _ rfl
    have n4:t≠A.aq:=λz=>by rw [z,dJ] at e;cases e;exact h3 _ rfl
    rw [fc n1 (λz=>by rw [z,HJ] at e;cases e) (λz=>by rw [z,xY] at e;cases e) (λys z=>by rw [e] at z;cases z;exact h1 _ rfl) (λ_ _ _ z=>by rw [e] at z;cases z;exact h2 _ _ _ rfl) λ_ z=>by rw [e] at z;cases z;exact h3 _ rfl];exact g0 _ _ n1 n4 e
   rcases hqt with (q | ⟨ob,q⟩) | q
   ·exact .inl (.inl (one _ (λ_ z=>by cases z) (λ_ _ _ z=>by cases z) (λ_ z=>by cases z) q))
   ·exact .inl (.inr ⟨ob,one _ (λ_ z=>by cases z) (λ_ _ _ z=>by cases z) (λ_ z=>by cases z) q⟩)
   ·exact .inr q
  have il:=oN (B:=λ_=>none) (H:=H) (H':=H10) (g:=g) (pa:=pa) (tb:=tb);have Mb:AI K A.aR (nxt (λ_=>none) H H10 g pa tb) x ⟨[],[],fnd,fls⟩:=⟨dx',r,b,f,fl,[],[],fv,lv,new hHx hxg hx4,new hHr (hnl hrx).1 hr4,.nil,new hHb (hnl hbx).1 hb4,.nil,new (hx0 hf).1 (hx0 hf).2 hf4,go df,new (hx0 hfl).1 (hx0 hfl).2 NM,go dl⟩;have hOk:StV.Ok ⟨[],[],fnd,fls⟩ s0 l0:=⟨pQ,gR,(λq hq=>by cases hq),(λq hq=>by cases hq),by show 0<64;decide,by show 0<64;decide⟩;refine k H10 (nxt (λ_=>none) H H10 g pa tb) pa tb ⟨[],[],fnd,fls⟩ (λc o e=>?_) Ge HJ xY (λc o h1 h2=>oM rfl h1 h2) rfl rfl ⟨dx,t,x,x,[],[],JR,by rw [f10 pa hpg];exact s9 _ _ hp8,by rw [f10 tb htg];exact ht9,xB (λc o e=>by cases e),il.1,il.2.1,il.2.2,htp.symm,hqB,Mb,Mb,.nil,.nil,hOk,hOk⟩;obtain ⟨h1,e⟩:=aD e;obtain ⟨h2,e⟩:=aD e;exact g0 c o h1 h2 e
end
end K35
namespace L2
open PySem
def EN (K:Vz):List V->Hp->VK->Prop:=λvs H Q=>∃ a xs,((vs=[.ref a,.ty "tuple"]/\SqT K H a xs)\/(vs=[.ref a,.ty "list"]/\SqL K H a xs))/\Q (.bl true) H
theorem vS {X:Cx}:iC X (.builtin "isinstance") (EN X.K):=by
 intro pins s σ H xs us Q I rv h;obtain ⟨a,ys,h,q⟩:=h;rcases h with ⟨rfl,hq⟩ | ⟨rfl,hq⟩
 ·obtain ⟨u,w',rfl,r1,r2⟩:=vals2 rv;obtain rfl:w' = Value.type "tuple" :=r2;obtain rfl:u=Value.ref a:=r1;obtain ⟨its,r',pl,hz⟩:=I.tuple hq;obtain ⟨o,h1,h2,_⟩:=pl;exact PySem.W.kia_one PySem.W.kitx_tuple I.kIn ⟨o,h1,h2⟩ (by rfl) (λz=>nomatch z) λtk=>⟨.bl true,H,I.tok _,rfl,q⟩
 ·obtain ⟨u,w',rfl,r1,r2⟩:=vals2 rv;obtain rfl:w' = Value.type "list" :=r2;obtain rfl:u=Value.ref a:=r1;obtain ⟨its,r',pl,hz⟩:=I.list hq;obtain ⟨o,n,h1,h2,_⟩:=pl;exact PySem.W.kia_one PySem.W.kitx_list I.kIn ⟨o,h1,h2⟩ (by rfl) (λz=>nomatch z) λtk=>⟨.bl true,H,I.tok _,rfl,q⟩
def OA (K:Vz) (ta tb:TE):TE:=λσ H Q=>ta σ H λx H1=>∃ k,G9 K x H1 k/\if k=true then Q x H1 else tb σ H1 Q
theorem J2 {X:Cx}{a b:Expr}{rest:List Expr}{pos:Pos}{ta tb:TE} (ha:PE X a ta) (hb:PE X (.BoolOp .Or (b::rest) pos) tb):PE X (.BoolOp .Or (a::b::rest) pos) (OA X.K ta tb):=by
 intro pins s σ H Q I h;refine PyProof.Rows.BoolOp_or (thn (ha pins s σ H _ I h) λv s1 ⟨x,H1,I1,r1,k,tr,q1⟩=>?_);refine thn (F1 pins s1 σ H1 x v (λc H2=>c=k/\H2=H1) I1 r1 ⟨k,tr,rfl,rfl⟩) λc s2 ⟨H2,I2,e1,e2⟩=>?_;subst e1;subst e2;cases c with
 | false=>exact hb pins s2 σ _ Q I2 q1
 | true=>exact ⟨x,_,I2,r1,q1⟩
def OM (K:Vz) (ta tb:TE):TE:=λσ H Q=>∃ Pre:V->Hp->Prop,(∀ x H1,Pre x H1->Q x H1)/\ta σ H λx H1=>∃ k,G9 K x H1 k/\if k=true then Pre x H1 else tb σ H1 Pre
theorem JC {X:Cx}{a b:Expr}{rest:List Expr}{pos:Pos}{ta tb:TE} (ha:PE X a ta) (hb:PE X (.BoolOp .Or (b::rest) pos) tb):PE X (.BoolOp .Or (a::b::rest) pos) (OM X.K ta tb):=by
 intro pins s σ H Q I ⟨Pre,hP,h⟩;exact thn (J2 ha hb pins s σ H Pre I h) λv s1 ⟨x,H1,I1,r1,q1⟩=>⟨x,H1,I1,r1,hP _ _ q1⟩
end L2
namespace LG
open PySem L2
def FH:Pt->Bool
 | .word w=>cS w
 | .hole _=>true
def tS (K:Vz):Sp:=λvs H Q _=>∃ (v:V) (p:Pt),vs=[v]/\Den K H v p.dat/\p.ok/\Q (.bl (FH p)) H
def mP (K:Vz):Sp:=λvs H Q _=>∃ (v:V) (ps:List Pt),vs=[v]/\Den K H v (bj ps)/\(∀ p∈ps,p.ok)/\1<=ps.length/\ps.length<=12/\(∀ p∈ps,FH p=true)/\∀ H',af H H'->Q (.bl true) H'
theorem Bj {pss:List (List Pt)}{ps:List Pt} (h:∀ q∈pss,∀ p∈q,p.ok) (hp:∀ p∈ps,p.ok):((pss.map bj).any λe=>PyData.eqv e (bj ps))=decide (ps∈pss):=by
 rw [List.any_map]
 induction pss with
 | nil=>rfl
 | cons a r ih=>
  rw [QM,ih λq hq=>h q (PY _ hq)];show (PyData.eqv (bj a) (bj ps) || _)=_;rw [IB (h a (P5 ..)) hp,Qp,Bool.or_eq_true,decide_eq_true_eq,decide_eq_true_eq,decide_eq_true_eq,Qi];exact ⟨λz=>z.imp Eq.symm id,λz=>z.imp Eq.symm id⟩
theorem PtW.okP {p:Pt} (h:PtW p):p.ok/\FH p=true:=by
 cases p with
 | word w=>exact ⟨⟨P2 h.2.1 (by decide),h.2.2⟩,h.1⟩
 | hole k=>exact ⟨h,rfl⟩
structure Hz (h:List (Int×Str)×List (List Pt)):Prop where
 rl:h.1.length<64
 lns:∀ q∈h.1,∃ ws,fX 12 q.2 ws
 bl:h.2.length<64
 hnd:ou h.2
theorem StV.Ok.held {v:StV}{s l:Int} (h:v.Ok s l):Hz (v.rs,v.bs):=⟨h.rl,h.lns,h.bl,h.hnd⟩
section
variable {K:Vz}{CL CS P:Addr}{B H Ha Hb H5 H6:Hp}{g pa tb:Addr}{v:eE}
theorem Dt {C dx:Addr}{fs:List (Str×V)}{pv tv:List V}{l:List V}{ds:List PyData} (sa:af H Ha) (s:af Ha Hb) (hg:H g=some (.ins C dx fs)) (hpa:H pa=some (.lst pv)) (htb:H tb=some (.lst tv)) (d:aA K (lim Ha Hb) l ds):aA K (nxt B H Hb g pa tb) l ds:=
 ph d λc o h1 h2 _ h3 h4=>by
  have n1:c≠g:=λe=>by rw [e,s _ _ (sa _ _ hg)] at h2;cases h2;exact h3 _ _ _ rfl
  have n2:c≠pa:=λe=>h1 _ (by rw [e];exact sa _ _ hpa);have n3:c≠tb:=λe=>h1 _ (by rw [e];exact sa _ _ htb);rw [fc n1 n2 n3 (λys e=>h1 ys (sa _ _ e)) (λC d' fs e=>?_) (λps e=>?_)]
  ·exact h2
  ·have:=s _ _ (sa _ _ e);rw [h2] at this;cases this;exact h3 _ _ _ rfl
  ·have:=s _ _ (sa _ _ e);rw [h2] at this;cases this;exact h4 _ rfl
theorem tU {dx t st x dx' r b f fl:Addr}{fs:List (Str×V)}{pv tv rv bv fv lv pv' tv':List V}{tab:Array Vy}{rs:List (Int×Str)}{bs fnd:List (List Pt)}{fls:List (Option (List Pt))}{past tbk:List (List (Int×Str)×List (List Pt))}
  (hg:H g=some (.ins CL dx fs)) (hpa:H pa=some (.lst pv)) (htb:H tb=some (.lst tv)) (sB:af B H) (hBg:B g=none) (kE:B pa=none) (m9:B tb=none) (hpt:pa≠tb) (hqt:SqT K B t [.int v.s,.int v.l]) (hst:AI K CS B st v.cur) (okc:v.cur.Ok v.s v.l) (hBP:B P=none) (dJ:H P=some (.tbl tab))
  (g5:∀ c o,c≠pa->c≠tb->H c=some o->H5 c=some o) (hp5:H5 pa=some (.lst pv')) (ht5:H5 tb=some (.lst tv'))
  (hx:H5 x=none) (hf:H5 f=none) (hfl:H5 fl=none) (s6:af (wo g (wo P H5)) H6) (Ol:∃ q,H6 P=some (.tbl q)) (hg6:H6 g=some (.ins CL dx [("sieve",.ref t),("state",.ref x),("ahead",.ref st),("past",.ref pa),("taken_back",.ref tb)]))
  (hx6:H6 x=some (.ins CS dx' [("rows",.ref r),("by_hand",.ref b),("found",.ref f),("falls",.ref fl)])) (hf6:H6 f=some (.lst fv)) (df:aA K (lim H5 H6) fv (fnd.map bj)) (AV:H6 fl=some (.lst lv)) (dl:aA K (lim H5 H6) lv (fls.map oP))
  (hBr:B r=some (.lst rv)) (hdr:aA K B rv (rs.map eL)) (hBb:B b=some (.lst bv)) (hdb:aA K B bv (bs.map bj)) (hok:Hz (rs,bs)) (pQ:yX v.s v.l (tW bs (rs.map (·.2))) fnd) (gR:wm bs fnd (rs.map (·.2)) fls)
  (dp:∀ B',af B B'->(∀ c o,H c=none->H5 c=some o->B' c=some o)->cK K B' pv' past/\cK K B' tv' tbk) :
  af (wo g (wo pa (wo tb (wo P H)))) H6/\af B (nxt B H H6 g pa tb)/\bG K CL CS (nxt B H H6 g pa tb) H6 g pa tb ⟨v.s,v.l,⟨rs,bs,fnd,fls⟩,v.cur,past,tbk⟩:=by
 have hgp:pa≠g:=λe=>by rw [e,hg] at hpa;cases hpa
 have hgt:tb≠g:=λe=>by rw [e,hg] at htb;cases htb
 have hpP:pa≠P:=λe=>by rw [<-e,hpa] at dJ;cases dJ
 have htP:tb≠P:=λe=>by rw [<-e,htb] at dJ;cases dJ
 have g06:∀ c o,c≠g->c≠pa->c≠tb->c≠P->H c=some o->H6 c=some o:=λc o h1 h2 h3 h4 e=>s6 _ _ (by rw [aj h1,aj h4];exact g5 c o h2 h3 e);have hBn:∀ {c:Addr}{o:HO},B c=some o->c≠g/\c≠pa/\c≠tb/\c≠P:=λ{c o} e=>⟨(λz=>by rw [z,hBg] at e;cases e),(λz=>by rw [z,kE] at e;cases e),(λz=>by rw [z,m9] at e;cases e),λz=>by rw [z,hBP] at e;cases e⟩;have DY:∀ c o,B c=some o->H6 c=some o:=λc o e=>g06 c o (hBn e).1 (hBn e).2.1 (hBn e).2.2.1 (hBn e).2.2.2 (sB _ _ e);have sBB:=rV (H':=H6) sB hBg kE m9 DY;have il:=oN (B:=B) (H:=H) (H':=H6) (g:=g) (pa:=pa) (tb:=tb);have hg5:H5 g=_:=g5 _ _ hgp.symm hgt.symm hg;have h0:∀ {c:Addr},H5 c=none->H c=none/\c≠g/\c≠pa/\c≠tb:=λ{c} e=>by
  have n1:c≠g:=λz=>by rw [z,hg5] at e;cases e
  have n2:c≠pa:=λz=>by rw [z,hp5] at e;cases e
  have n3:c≠tb:=λz=>by rw [z,ht5] at e;cases e
  refine ⟨?_,n1,n2,n3⟩;cases e2:H c with
  | none=>rfl
  | some o=>rw [g5 c o n2 n3 e2] at e;cases e
 have new:∀ {c:Addr},H5 c=none->nxt B H H6 g pa tb c=H6 c:=λ{c} e=>by
  obtain ⟨h1,h2,h3,h4⟩:=h0 e;exact fc h2 h3 h4 (λ_ z=>by rw [h1] at z;cases z) (λ_ _ _ z=>by rw [h1] at z;cases z) λ_ z=>by rw [h1] at z;cases z
 have go:∀ {v:List V}{ds:List PyData},aA K (lim H5 H6) v ds->aA K (nxt B H H6 g pa tb) v ds:=λ{v ds} d=>ph d λc o h1 h2 _ h3 h4=>by
  have n1:c≠g:=λe=>by rw [e,hg6] at h2;cases h2;exact h3 _ _ _ rfl
  have n2:c≠pa:=λe=>h1 _ (by rw [e];exact hp5);have n3:c≠tb:=λe=>h1 _ (by rw [e];exact ht5);have n4:c≠P:=λe=>by
   obtain ⟨q,hq⟩:=Ol;rw [e,hq] at h2;cases h2;exact h4 _ rfl
  rw [fc n1 n2 n3 (λys e=>h1 ys (g5 _ _ n2 n3 e)) (λC d' fs e=>?_) (λps e=>?_)]
  ·exact h2
  ·have:=g06 _ _ n1 n2 n3 n4 e;rw [h2] at this;cases this;exact h3 _ _ _ rfl
  ·have:=g06 _ _ n1 n2 n3 n4 e;rw [h2] at this;cases this;exact h4 _ rfl
 have hd:=dp (nxt B H H6 g pa tb) sBB λc o h1 h2=>by
  have n1:c≠g:=λz=>by rw [z,hg] at h1;cases h1
  have n2:c≠pa:=λz=>by rw [z,hpa] at h1;cases h1
  have n3:c≠tb:=λz=>by rw [z,htb] at h1;cases h1
  have n4:c≠P:=λz=>by rw [z,dJ] at h1;cases h1
  rw [fc n1 n2 n3 (λ_ z=>by rw [h1] at z;cases z) (λ_ _ _ z=>by rw [h1] at z;cases z) λ_ z=>by rw [h1] at z;cases z];exact s6 _ _ (by rw [aj n1,aj n4];exact h2)
 refine ⟨λc o e=>?_,sBB,dx,t,x,st,pv',tv',hg6,s6 _ _ (by rw [aj hgp,aj hpP];exact hp5),s6 _ _ (by rw [aj hgt,aj htP];exact ht5),xB DY,il.1,il.2.1,il.2.2,hpt,sBB.b8 hqt,
  ⟨dx',r,b,f,fl,rv,bv,fv,lv,by rw [new hx];exact hx6,sBB _ _ hBr,hdr.same sBB,sBB _ _ hBb,hdb.same sBB,by rw [new hf];exact hf6,go df,by rw [new hfl];exact AV,go dl⟩,
  hst.same sBB,hd.1,hd.2,⟨pQ,gR,hok.lns,hok.hnd,hok.rl,hok.bl⟩,okc⟩
 obtain ⟨h1,e⟩:=aD e;obtain ⟨h2,e⟩:=aD e;obtain ⟨h3,e⟩:=aD e;obtain ⟨h4,e⟩:=aD e;exact g06 c o h1 h2 h3 h4 e
end
end LG
namespace K35
open PySem L2 LG
section
variable {P:Program}{w:World}{K:Vz}{mg:Str->Option Vy}{base:Heap}{A:Ad}
def tX (K:Vz) (A:Ad):Sp:=λvs H Q _=>∃ (B:Hp) (g pa tb:Addr) (v:eE) (x:V) (ps:List Pt),vs=[.ref g,x]/\bG K A.aH A.aR B H g pa tb v/\B A.aq=none/\Den K H x (bj ps)/\PW ps/\ps≠[]/\ps.length<=12/\ps∉v.cur.bs/\v.cur.bs.length<12/\v.past.length<=100000/\bz A.aq H /\
 ∀ (H' B':Hp) (tb':Addr) (cur:StV),af (wo g (wo pa (wo A.aq H))) H'->bz A.aq H'->H tb' = none->af B B'->(∀ c o,B c=none->H c=some o->nC o->B' c=none)->cur.rs=v.cur.rs->cur.bs.Perm (v.cur.bs++[ps])->mD cur.bs->bG K A.aH A.aR B' H' g pa tb' ⟨v.s,v.l,cur,v.cur,v.past++[(v.cur.rs,v.cur.bs)],[]⟩->Q .non H'
def lQ (K:Vz) (A:Ad):Sp:=λvs H Q _=>∃ (B:Hp) (g pa tb:Addr) (v:eE) (l:List (List (Int×Str)×List (List Pt))) (rs:List (Int×Str)) (bs:List (List Pt)),vs=[.ref g]/\bG K A.aH A.aR B H g pa tb v/\B A.aq=none/\v.past=l++[(rs,bs)]/\Hz (rs,bs)/\v.tbk.length<=100000/\bz A.aq H /\
 ∀ (H' B':Hp) (cur:StV),af (wo g (wo pa (wo tb (wo A.aq H)))) H'->bz A.aq H'->af B B'->(∀ c o,B c=none->H c=some o->nC o->B' c=none)->cur.rs=rs->cur.bs=bs->bG K A.aH A.aR B' H' g pa tb ⟨v.s,v.l,cur,v.cur,l,v.tbk++[(v.cur.rs,v.cur.bs)]⟩->Q .non H'
def oK (K:Vz) (A:Ad):Sp:=λvs H Q _=>∃ (B:Hp) (g pa tb:Addr) (v:eE) (l:List (List (Int×Str)×List (List Pt))) (rs:List (Int×Str)) (bs:List (List Pt)),vs=[.ref g]/\bG K A.aH A.aR B H g pa tb v/\B A.aq=none/\v.tbk=l++[(rs,bs)]/\Hz (rs,bs)/\v.past.length<=100000/\bz A.aq H /\
 ∀ (H' B':Hp) (cur:StV),af (wo g (wo pa (wo tb (wo A.aq H)))) H'->bz A.aq H'->af B B'->(∀ c o,B c=none->H c=some o->nC o->B' c=none)->cur.rs=rs->cur.bs=bs->bG K A.aH A.aR B' H' g pa tb ⟨v.s,v.l,cur,v.cur,v.past++[(v.cur.rs,v.cur.bs)],l⟩->Q .non H'
theorem zR:aE ["thing"] ["thing"] (ak (top 23)):=⟨rfl,rfl,rfl,by decide +kernel,rfl,by decide +kernel,by decide +kernel⟩
theorem A5 (T:Tx K mg A):ax P w K mg base CX0 3 A.pW A.pM ["thing"] (tS K):=by
 have i9:ax P w K mg base CX0 2 A.i5 A.ji ["thing"] (jI K):=(mX T).mono (by decide);refine T.rc.fn.ok zR (λvs H Q E h=>?_) (λcdv Ar outer s H vs Q E hr h=>?_)
 ·obtain ⟨v,p,rfl,_⟩:=h;rfl
 ·obtain ⟨v,p,rfl,hd,hok,k⟩:=h;obtain ⟨t,x,y,rfl,ht,_,_,hxy⟩:=pL hd;refine ⟨_,ag (a8 ((pw_or (dD (cJ (aK (r:=EN K) vS (by rfl) T.dO cV (aa (pv 0) (aa (rh (v:=.ty "tuple") (by rfl) T.BC y3 rfl) (ae)))))) (pw_or1 (aJ (qC) (aK (r:=cH K) aV (by rfl) T.cq PySem.boot_len (aa (pv 0) (ae))) (ar) (aG _)))).pt) (ao (aC (jg))) (aO))
   (ag (a8 (aJ (eO) (aU (r:=eP K) bF (pv 0) (ar) (λ_ _=>rfl)) (aL) (aG _)) (ao (aC (av i9 hr (by rfl) T.fH.mg T.fH.fn.kp T.fH.bd .nil ay (aa (aU (r:=eP K) bF (pv 0) (ar) (λ_ _=>rfl)) (ae))))) (aO))
   (ao (aC (fg (bJ (eO) (aU (r:=eP K) bF (pv 0) (ar) (λ_ _=>rfl)) (aL) (aG _)) (iP (bJ (r:=rIn K false) (uS) (aU (r:=eP K) bF (pv 0) (ar) (λ_ _=>rfl)) (fE (v:=.ref A.b6) (by rfl) T.j4 rfl) (by rfl))))))),?_⟩
  refine ⟨_,rfl,t,_,.inl ⟨rfl,ht⟩,_,rfl,bf ?_⟩;refine ⟨_,rfl,t,_,rfl,.inr ht,rfl,_,rfl,bf ?_⟩;refine ⟨_,rfl,t,_,0,_,rfl,rfl,ht,rfl,rfl,_,rfl,?_⟩;cases p with
  | word wd=>
   obtain ⟨rfl,rfl⟩:=hxy;rw [decide_eq_true rfl];exact ck ⟨_,rfl,t,_,1,_,rfl,rfl,ht,rfl,_,rfl,(show TOk _ from hok).1,k⟩
  | hole m=>
   obtain ⟨rfl,rfl⟩:=hxy;refine bf ⟨_,rfl,t,_,0,_,rfl,rfl,ht,rfl,rfl,_,rfl,?_⟩;rw [decide_eq_true rfl];refine ck ⟨_,rfl,t,_,1,_,rfl,rfl,ht,rfl,A.b6,_,rfl,.inr (T.jK _),rfl,rfl,?_⟩;have hk:∀ i<3,(inV (.str (cB i)) [.str "number",.str "name",.str "any"])=true:=by decide +kernel
   rw [if_neg P6,hk m hok];exact k
theorem uA:aE ["thing"] ["thing"] (ak (top 24)):=⟨rfl,rfl,rfl,by decide +kernel,rfl,by decide +kernel,by decide +kernel⟩
theorem ur (T:Tx K mg A):ax P w K mg base CX0 4 A.jB A.jx ["thing"] (mP K):=by
 have CK:ax P w K mg base CX0 3 A.pW A.pM ["thing"] (tS K):=(A5 T).mono (by decide);refine T.jv.fn.ok uA (λvs H Q E h=>?_) (λcdv Ar outer s H vs Q E hr h=>?_)
 ·obtain ⟨v,ps,rfl,_⟩:=h;rfl
 ·obtain ⟨v,ps,rfl,hd,hok,h1,h12,hb,k⟩:=h;obtain ⟨a,xs,rfl,ha,hda⟩:=iB hd;have hxl:xs.length=ps.length:=by rw [hda.length,PQ]
  refine ⟨_,ag (a8 (dD (cJ (aK (r:=EN K) vS (by rfl) T.dO cV (aa (pv 0) (aa (rh (v:=.ty "list") (by rfl) T.pC lZ rfl) (ae)))))) (ao (aC (jg))) (aO))
   (ao (aC (fg (xT zv zv (ar) (aK (r:=cH K) aV (by rfl) T.cq PySem.boot_len (aa (pv 0) (ae))) (fE (v:=.int 12) (by rfl) (Exists.choose_spec T.v7) ⟨_,rfl⟩)) (iP (aK (r:=Dr K) (lG rfl) (by rfl) T.yu rP (aa (bw (N':=["part"]) (n:=1) (fi:=[]) (g:=br 0) rfl (bH (ak (top 24)) ["thing"] (by decide +kernel)) (bh (pv 0)) (λs H fp=>aI (i:=0) (show (["part"]:List Str).Nodup by decide +kernel) rfl (Or.inl rfl) (.inr rfl)) (λs H fp=>a9) (λs H fp=>av CK hr (by rfl) T.rc.mg T.rc.fn.kp T.rc.bd .nil ay (aa (pv 0) (ae)))) (ae))))))),?_⟩
  refine ⟨_,rfl,a,xs,.inr ⟨rfl,ha⟩,_,rfl,bf ?_⟩;refine ⟨_,rfl,a,xs,rfl,.inl ha,_,_,rfl,rfl,_,rfl,?_⟩;rw [decide_eq_true (show (1:Int)<=(xs.length:Int) by lia)];refine ck ⟨_,_,rfl,rfl,_,rfl,?_⟩;rw [decide_eq_true (show (xs.length:Int)<=12 by lia)];refine ck ⟨_,rfl,a,rfl,⟨_,ha⟩,λD hD=>?_⟩;refine bc (K:=K) (xs:=xs) (λi acc σ H2=>(∃ u,σ=[u])/\af H H2/\acc=(List.replicate i true).map V.bl) ab ⟨⟨_,rfl⟩,af.new hD,rfl⟩ (λi acc σ H2 _ _ p=>p.2.1.seq ha) (λi x acc σ H2 hx hDx p=>?_) (λacc σ H2 hDx p=>?_)
  ·obtain ⟨⟨u,rfl⟩,s2,rfl⟩:=p;have hi:=aW hx;obtain ⟨p,hp,hdp⟩:=ml hda hx;have hm:=PU hp;refine dS ⟨_,rfl,x,p,rfl,hdp.same s2,hok p hm,_,hDx,small (by rw [PQ,RF];lia),_,ab,⟨_,rfl⟩,aF hD s2,?_⟩;rw [hb p hm,List.replicate_succ',Qa];rfl
  ·obtain ⟨_,s2,rfl⟩:=p;refine ⟨D,_,rfl,.of hDx,?_⟩;rw [BM];exact k H2 s2
theorem rZ:aE ["self","pattern","by_hand"] ["self","pattern"] (ak (mIn 55 8)):=⟨rfl,rfl,rfl,by decide +kernel,rfl,by decide +kernel,by decide +kernel⟩
theorem A6 (T:Tx K mg A):ax P w K mg base CX0 25 A.mj A.pF ["self","pattern"] (tX K A):=by
 have i0:ax P w K mg base CX0 24 A.eh A.fB ["self","rows","by_hand"] (ij K A):=(k8 T).mono (by decide);have i4:ax P w K mg base CX0 24 A.ja A.jc ["patterns"] (jV K):=(mS T).mono (by decide);have xw:ax P w K mg base CX0 24 A.jB A.jx ["thing"] (mP K):=(ur T).mono (by decide);refine T.xu.fn.ok rZ (λvs H Q E h=>?_) (λcdv Ar outer s H vs Q E hr h=>?_)
 ·obtain ⟨B,g,pa,tb,v,x,ps,rfl,_⟩:=h;rfl
 ·obtain ⟨B,g,pa,tb,v,x,ps,rfl,gv,hBP,dX,hpw,hpn,Lk,Ot,hbl,hpl,hla,k⟩:=h;have EZ:=gv;obtain ⟨dx,t,st,ah,pw,tv,hg,hpa,htb,sB,hBg,kE,m9,hpt,hqt,hst,hah,hdp,hdt,okc,oka⟩:=EZ;obtain ⟨dx2,r0,b0,f0,fl0,rv0,bv0,fv0,lv0,q1,q2,q3,q4,q5,q6,q7,q8,q9⟩:=hst;have hbv:bv0.length=v.cur.bs.length:=by rw [q5.length,PQ]
  have hok:∀ p∈ps,p.ok:=λp hp=>(hpw p hp).okP.1;have Nr:∀ q∈v.cur.bs,∀ p∈q,p.ok:=λq hq p hp=>((okc.hnd q hq).1 p hp).okP.1;have JJ:1<=ps.length:=by
   cases ps with
   | nil=>exact (hpn rfl).elim
   | cons _ _=>simp
  refine ⟨_,ag (aY (i:=2) rZ.nd rfl (Or.inl rfl) (bg T.bB T.bC (bg T.aM T.aQ (pv 0))))
   (ag (a8 ((pw_or (dD (cJ (av xw hr (by rfl) T.jv.mg T.jv.fn.kp T.jv.bd .nil ay (aa (pv 1) (ae))))) (pw_or1 (aJ (r:=Gx K false) (Jy hr) (pv 1) (pv 2) (by rfl)))).pt) (ao (eB)) (aO))
   (ag (a8 (aJ (Ca) (aK (r:=cH K) aV (by rfl) T.cq PySem.boot_len (aa (pv 2) (ae))) (fE (v:=.int 12) (by rfl) (Exists.choose_spec T.tQ) ⟨_,rfl⟩) (aG _)) (ao (eB)) (aO))
   (ao (be (fF (pv 0) T.aM T.kO i0 hr T.kN.bd .nil ay (aa (bg T.bB T.bM (bg T.aM T.aQ (pv 0))) (aa (av i4 hr (by rfl) T.ordered.mg T.ordered.fn.kp T.ordered.bd .nil ay (aa (bS (r:=uL K) oF (pv 2) (bu (aa (pv 1) (ae)))) (ae))) (ae)))))))),?_⟩
  refine ⟨_,rfl,g,dx,_,.ref st,rfl,hg,rfl,st,dx2,_,.ref b0,rfl,sB _ _ q1,rfl,?_⟩;refine ⟨_,rfl,x,ps,rfl,dX,hok,JJ,Lk,λp hp=>(hpw p hp).okP.2,λH1 s1=>⟨_,rfl,bf ?_⟩⟩;have sB1:=sB.trans s1;refine ⟨_,rfl,_,rfl,_,_,.lst (.of (sB1 _ _ q4)) (q5.same sB1),dX.same s1,?_,_,rfl,?_⟩
  ·exact P2 (tL _) (by decide)
  rw [if_neg P6,Bj Nr hok,decide_eq_false Ot];refine bf ?_;refine ⟨_,rfl,b0,_,rfl,.inl (.of (sB1 _ _ q4)),_,_,rfl,rfl,_,rfl,?_⟩;rw [decide_eq_false (by rw [hbv];lia)];refine bf ?_;have hg1:=s1 _ _ hg;refine ⟨_,rfl,g,dx,_,rfl,hg1,rfl,_,rfl,g,dx,_,.ref st,rfl,hg1,rfl,st,dx2,_,.ref r0,rfl,sB1 _ _ q1,rfl,?_⟩;refine ⟨_,rfl,_,rfl,(by show 1<=sizeLine;decide),λll hll=>?_⟩;obtain ⟨H2,eq,s2,hl2⟩:=dz (.lst [x]) hll;rw [eq];refine ⟨b0,ll,_,_,rfl,rfl,.of ((sB1.trans s2) _ _ q4),.of hl2,P2 (show bv0.length+1<=100 by lia) (by decide),λR hR=>?_⟩;obtain ⟨H3,eq,s3,hR3⟩:=dz (.lst (bv0++[x])) hR;rw [eq];have s03:=s1.trans (s2.trans s3);have hps:ou (v.cur.bs++[ps]):=λq hq=>by
   rcases Qc.mp hq with hq | hq
   ·exact okc.hnd q hq
   ·rw [PZ.mp hq];exact ⟨hpw,hpn,Lk⟩
  have d3:aA K H3 (bv0++[x]) ((v.cur.bs++[ps]).map bj):=by
   rw [Qa];exact (q5.same (sB.trans s03)).append (.cons (dX.same s03) .nil)
  refine ⟨R,_,_,rfl,.of hR3,by rw [PX,P8];lia,d3,λq hq=>⟨P2 (hps q hq).2.2 (by decide),λp hp=>((hps q hq).1 p hp).okP.1⟩,λD acc H4 l hD s4 hD4 bi hko hfr hnd dn=>?_⟩;have s04:=s03.trans s4;obtain ⟨tab,dJ⟩:=aP hla;have sBH:∀ c o,B c=some o->H4 c=some o:=λc o e=>s04 _ _ (sB _ _ e);have sBB:=rV (H':=H4) sB hBg kE m9 sBH;have il:=oN (B:=B) (H:=H) (H':=H4) (g:=g) (pa:=pa) (tb:=tb);have hin:af (nxt B H H4 g pa tb) H4:=xB sBH;have hHD:H D=none:=s03.free hD;have dB:=Dt (B:=B) s03 s4 hg hpa htb dn;have bD:nxt B H H4 g pa tb D=some (.lst acc):=by
   rw [fc (λz=>by rw [z,hg] at hHD;cases hHD) (λz=>by rw [z,hpa] at hHD;cases hHD) (λz=>by rw [z,htb] at hHD;cases hHD) (λ_ z=>by rw [hHD] at z;cases z) (λ_ _ _ z=>by rw [hHD] at z;cases z) λ_ z=>by rw [hHD] at z;cases z];exact hD4
  have hmu:∀ c o,B c=none->H c=some o->nC o->nxt B H H4 g pa tb c=none:=λc o h1 h2 h3=>oM h1 h2 h3;generalize nxt B H H4 g pa tb=B1 at sBB il hin dB bD hmu;have hll:=bi.length_eq;rw [PX,P8] at hll;have GZ:ou l:=λq hq=>hps q (bi.mem_iff.mp hq);refine ⟨B1,g,pa,tb,r0,D,v,rv0,acc,v.cur.rs,l,rfl,gv.grow sBB hin il.1 il.2.1 il.2.2 ((s04 _ _ hg).trans hg.symm) ((s04 _ _ hpa).trans hpa.symm) ((s04 _ _ htb).trans htb.symm),hmu _ _ hBP dJ (.inr (.inr ⟨_,rfl⟩)),sBB _ _ q2,q3.same sBB,bD,dB,okc.rl,okc.lns,by lia,GZ,hpl,aN hla s04,λH5 B' tb' cur s5 la5 qV Hm mI e1 e2 Ef=>?_⟩;refine k H5 B' tb' cur (λc o e=>?_) la5 (s04.free qV) (sBB.trans Hm) (λc o h1 h2 h3=>mI c o (hmu c o h1 h2 h3) (s04 _ _ h2) h3) e1 (by rw [e2];exact bi) (by rw [e2];exact hko) Ef;obtain ⟨h1,e⟩:=aD e;obtain ⟨h2,e⟩:=aD e;obtain ⟨h3,e⟩:=aD e;exact s5 _ _ (by rw [aj h1,aj h2,aj h3];exact s04 _ _ e)
theorem yK:aE ["self"] ["self"] (ak (mIn 55 10)):=⟨rfl,rfl,rfl,by decide +kernel,rfl,by decide +kernel,by decide +kernel⟩
theorem qv (T:Tx K mg A):ax P w K mg base CX0 24 A.ia A.jM ["self"] (lQ K A):=by
 have ed:ax P w K mg base CX0 23 A.cT A.ee ["self","held"] (eU K A):=(gJ T).mono (by decide);have ic:ax P w K mg base CX0 23 A.fA A.gP ["self"] (iy K A):=(lS T).mono (by decide);refine T.rH.fn.ok yK (λvs H Q E h=>?_) (λcdv Ar outer s H vs Q E hr h=>?_)
 ·obtain ⟨B,g,pa,tb,v,l,rs,bs,rfl,_⟩:=h;rfl
 ·obtain ⟨B,g,pa,tb,v,l,rs,bs,rfl,gv,hBP,kc,hok,htl,hla,k⟩:=h;obtain ⟨dx,t,st,ah,pw,tv,hg,hpa,htb,sB,hBg,kE,m9,hpt,hqt,hst,hah,hdp,hdt,okc,oka⟩:=gv;have nc:=hst;obtain ⟨dx2,r0,b0,f0,fl0,rv0,bv0,fv0,lv0,q1,q2,q3,q4,q5,q6,q7,q8,q9⟩:=nc;obtain ⟨tab,dJ⟩:=aP hla;rw [kc] at hdp;obtain ⟨ys,y,rfl,hdl,hy⟩:=hdp.pop;obtain ⟨h,r,b,rv,bv,rfl,hqh,hBr,hdr,hBb,hdb⟩:=hy;have hgp:pa≠g:=λe=>by rw [e,hg] at hpa;cases hpa
  have hgt:tb≠g:=λe=>by rw [e,hg] at htb;cases htb
  have Pw:tv.length<=100000:=by rw [hdt.1];exact htl
  refine ⟨_,ag (a8 (dD (sf (bg T.aM T.fP (pv 0)) (λ_=>rfl))) (ao (eB)) (aO))
   (ag (be (cQ PySem.F.plainAttrs_list PySem.F.slot_list_append PySem.F.type_list_append cm (bg T.aM T.cy (pv 0)) (aa (je (pv 0) T.aM T.kY ic hr T.nZ.bd .nil ay) (ae))))
   (ao (be (fF (pv 0) T.aM T.g7 ed hr T.iG.bd .nil ay (aa (Em PySem.F.plainAttrs_list PySem.F.slot_list_pop PySem.F.type_list_pop Be (bg T.aM T.fP (pv 0))) (ae)))))),?_⟩
  have hne:(ys++[V.ref h]).isEmpty=false:=by simp
  refine ⟨_,rfl,g,dx,_,.ref pa,rfl,hg,rfl,true,.inl ⟨_,.of hpa,by rw [hne];rfl⟩,bf ?_⟩;refine ⟨_,rfl,g,dx,_,.ref tb,rfl,hg,rfl,.inl ⟨rfl,_,.of htb⟩,_,rfl,g,dx,_,rfl,hg,rfl,g,dx,st,dx2,_,_,.ref r0,.ref b0,rfl,hg,rfl,sB _ _ q1,rfl,rfl,λp hp=>?_⟩;have DC:p≠pa:=λe=>by rw [e,hpa] at hp;cases hp
  have hpb:p≠tb:=λe=>by rw [e,htb] at hp;cases hp
  have hpg:p≠g:=λe=>by rw [e,hg] at hp;cases hp
  refine ⟨tb,tv,_,rfl,rfl,by rw [au hpb.symm];exact htb,small (by lia),?_⟩;have la2:bz A.aq (upd (upd H p (.tup [.ref r0,.ref b0])) tb (.lst (tv++[.ref p]))):=fC (aN hla (af.new hp)) (xs:=tv) (by rw [au hpb.symm];exact htb);have f2:∀ c,c≠tb->c≠p->(upd (upd H p (.tup [.ref r0,.ref b0])) tb (.lst (tv++[.ref p]))) c=H c:=λc h1 h2=>by rw [au h1,au h2]
  have ha2:(upd (upd H p (.tup [.ref r0,.ref b0])) tb (.lst (tv++[.ref p]))) tb=some (.lst (tv++[.ref p])):=ab;have hp2:(upd (upd H p (.tup [.ref r0,.ref b0])) tb (.lst (tv++[.ref p]))) p=some (.tup [.ref r0,.ref b0]):=by rw [au hpb];exact ab
  generalize upd (upd H p (.tup [.ref r0,.ref b0])) tb (.lst (tv++[.ref p]))=H2 at f2 ha2 hp2 la2 ⊢;have hg2:H2 g=_:=(f2 g hgt.symm hpg.symm).trans hg;have hb2:H2 pa=_:=(f2 pa hpt DC.symm).trans hpa;refine ⟨_,rfl,g,dx,_,rfl,hg2,rfl,_,rfl,g,dx,_,.ref pa,rfl,hg2,rfl,.inl ⟨rfl,_,.of hb2⟩,pa,.ref h,ys,rfl,rfl,hb2,?_⟩;have la5:=fC (ys:=ys) la2 hb2;have f5:∀ c,c≠pa->(upd H2 pa (.lst ys)) c=H2 c:=λc h1=>au h1;have hb5:(upd H2 pa (.lst ys)) pa=some (.lst ys):=ab;generalize upd H2 pa (.lst ys)=H5 at f5 hb5 la5 ⊢;have g5:∀ c o,c≠pa->c≠tb->H c=some o->H5 c=some o:=λc o h1 h2 e=>by
   rw [f5 c h1,f2 c h2 λz=>by rw [z,hp] at e;cases e];exact e
  have sB5:af B H5:=λc o e=>g5 c o (λz=>by rw [z,kE] at e;cases e) (λz=>by rw [z,m9] at e;cases e) (sB _ _ e);have ha5:H5 tb=_:=(f5 tb hpt.symm).trans ha2;have hp5:H5 p=_:=(f5 p DC).trans hp2;refine ⟨g,h,dx,t,st,ah,pa,tb,r,b,rv,bv,rs,bs,v.s,v.l,rfl,g5 _ _ hgp.symm hgt.symm hg,sB5.b8 hqh,sB5.b8 hqt,sB5 _ _ hBr,hdr.same sB5,sB5 _ _ hBb,hdb.same sB5,hok.rl,hok.lns,hok.bl,hok.hnd,la5,λH6 x dx' f fl fv lv fnd fls hx hf hfl s6 la6 hg6 hx6 hf6 df AV dl pQ gR=>?_⟩;obtain ⟨a1,a2,a3⟩:=tU (P:=A.aq) (past:=l) (tbk:=v.tbk++[(v.cur.rs,v.cur.bs)]) hg hpa htb sB hBg kE m9 hpt hqt hst okc hBP dJ g5 hb5 ha5 hx hf hfl s6 (aP la6) hg6 hx6 hf6 df AV dl hBr hdr hBb hdb hok pQ gR λB' sBB JT=>⟨hdl.same sBB,(hdt.same sBB).snoc ⟨p,r0,b0,rv0,bv0,rfl,.of (JT p _ hp hp5),sBB _ _ q2,q3.same sBB,sBB _ _ q4,q5.same sBB⟩⟩;exact k H6 _ ⟨rs,bs,fnd,fls⟩ a1 la6 a2 (λc o h1 h2 h3=>oM h1 h2 h3) rfl rfl a3
theorem xl:aE ["self"] ["self"] (ak (mIn 55 11)):=⟨rfl,rfl,rfl,by decide +kernel,rfl,by decide +kernel,by decide +kernel⟩
theorem xk (T:Tx K mg A):ax P w K mg base CX0 24 A.iz A.lU ["self"] (oK K A):=by
 have ed:ax P w K mg base CX0 23 A.cT A.ee ["self","held"] (eU K A):=(gJ T).mono (by decide);have ic:ax P w K mg base CX0 23 A.fA A.gP ["self"] (iy K A):=(lS T).mono (by decide);refine T.vQ.fn.ok xl (λvs H Q E h=>?_) (λcdv Ar outer s H vs Q E hr h=>?_)
 ·obtain ⟨B,g,pa,tb,v,l,rs,bs,rfl,_⟩:=h;rfl
 ·obtain ⟨B,g,pa,tb,v,l,rs,bs,rfl,gv,hBP,kc,hok,hpl,hla,k⟩:=h;obtain ⟨dx,t,st,ah,pw,tv,hg,hpa,htb,sB,hBg,kE,m9,hpt,hqt,hst,hah,hdp,hdt,okc,oka⟩:=gv;have nc:=hst;obtain ⟨dx2,r0,b0,f0,fl0,rv0,bv0,fv0,lv0,q1,q2,q3,q4,q5,q6,q7,q8,q9⟩:=nc;obtain ⟨tab,dJ⟩:=aP hla;rw [kc] at hdt;obtain ⟨ys,y,rfl,hdl,hy⟩:=hdt.pop;obtain ⟨h,r,b,rv,bv,rfl,hqh,hBr,hdr,hBb,hdb⟩:=hy;have hgp:pa≠g:=λe=>by rw [e,hg] at hpa;cases hpa
  have hgt:tb≠g:=λe=>by rw [e,hg] at htb;cases htb
  have Oq:pw.length<=100000:=by rw [hdp.1];exact hpl
  refine ⟨_,ag (a8 (dD (sf (bg T.aM T.cy (pv 0)) (λ_=>rfl))) (ao (eB)) (aO))
   (ag (be (cQ PySem.F.plainAttrs_list PySem.F.slot_list_append PySem.F.type_list_append cm (bg T.aM T.fP (pv 0)) (aa (je (pv 0) T.aM T.kY ic hr T.nZ.bd .nil ay) (ae))))
   (ao (be (fF (pv 0) T.aM T.g7 ed hr T.iG.bd .nil ay (aa (Em PySem.F.plainAttrs_list PySem.F.slot_list_pop PySem.F.type_list_pop Be (bg T.aM T.cy (pv 0))) (ae)))))),?_⟩
  have hne:(ys++[V.ref h]).isEmpty=false:=by simp
  refine ⟨_,rfl,g,dx,_,.ref tb,rfl,hg,rfl,true,.inl ⟨_,.of htb,by rw [hne];rfl⟩,bf ?_⟩;refine ⟨_,rfl,g,dx,_,.ref pa,rfl,hg,rfl,.inl ⟨rfl,_,.of hpa⟩,_,rfl,g,dx,_,rfl,hg,rfl,g,dx,st,dx2,_,_,.ref r0,.ref b0,rfl,hg,rfl,sB _ _ q1,rfl,rfl,λp hp=>?_⟩;have DC:p≠pa:=λe=>by rw [e,hpa] at hp;cases hp
  have hpb:p≠tb:=λe=>by rw [e,htb] at hp;cases hp
  have hpg:p≠g:=λe=>by rw [e,hg] at hp;cases hp
  refine ⟨pa,pw,_,rfl,rfl,by rw [au DC.symm];exact hpa,small (by lia),?_⟩;have la2:bz A.aq (upd (upd H p (.tup [.ref r0,.ref b0])) pa (.lst (pw++[.ref p]))):=fC (aN hla (af.new hp)) (xs:=pw) (by rw [au DC.symm];exact hpa);have f2:∀ c,c≠pa->c≠p->(upd (upd H p (.tup [.ref r0,.ref b0])) pa (.lst (pw++[.ref p]))) c=H c:=λc h1 h2=>by rw [au h1,au h2]
  have ha2:(upd (upd H p (.tup [.ref r0,.ref b0])) pa (.lst (pw++[.ref p]))) pa=some (.lst (pw++[.ref p])):=ab;have hp2:(upd (upd H p (.tup [.ref r0,.ref b0])) pa (.lst (pw++[.ref p]))) p=some (.tup [.ref r0,.ref b0]):=by rw [au DC];exact ab
  generalize upd (upd H p (.tup [.ref r0,.ref b0])) pa (.lst (pw++[.ref p]))=H2 at f2 ha2 hp2 la2 ⊢;have hg2:H2 g=_:=(f2 g hgp.symm hpg.symm).trans hg;have hb2:H2 tb=_:=(f2 tb hpt.symm hpb.symm).trans htb;refine ⟨_,rfl,g,dx,_,rfl,hg2,rfl,_,rfl,g,dx,_,.ref tb,rfl,hg2,rfl,.inl ⟨rfl,_,.of hb2⟩,tb,.ref h,ys,rfl,rfl,hb2,?_⟩;have la5:=fC (ys:=ys) la2 hb2;have f5:∀ c,c≠tb->(upd H2 tb (.lst ys)) c=H2 c:=λc h1=>au h1;have hb5:(upd H2 tb (.lst ys)) tb=some (.lst ys):=ab;generalize upd H2 tb (.lst ys)=H5 at f5 hb5 la5 ⊢;have g5:∀ c o,c≠pa->c≠tb->H c=some o->H5 c=some o:=λc o h1 h2 e=>by
   rw [f5 c h2,f2 c h1 λz=>by rw [z,hp] at e;cases e];exact e
  have sB5:af B H5:=λc o e=>g5 c o (λz=>by rw [z,kE] at e;cases e) (λz=>by rw [z,m9] at e;cases e) (sB _ _ e);have ha5:H5 pa=_:=(f5 pa hpt).trans ha2;have hp5:H5 p=_:=(f5 p hpb).trans hp2;refine ⟨g,h,dx,t,st,ah,pa,tb,r,b,rv,bv,rs,bs,v.s,v.l,rfl,g5 _ _ hgp.symm hgt.symm hg,sB5.b8 hqh,sB5.b8 hqt,sB5 _ _ hBr,hdr.same sB5,sB5 _ _ hBb,hdb.same sB5,hok.rl,hok.lns,hok.bl,hok.hnd,la5,λH6 x dx' f fl fv lv fnd fls hx hf hfl s6 la6 hg6 hx6 hf6 df AV dl pQ gR=>?_⟩;obtain ⟨a1,a2,a3⟩:=tU (P:=A.aq) (past:=v.past++[(v.cur.rs,v.cur.bs)]) (tbk:=l) hg hpa htb sB hBg kE m9 hpt hqt hst okc hBP dJ g5 ha5 hb5 hx hf hfl s6 (aP la6) hg6 hx6 hf6 df AV dl hBr hdr hBb hdb hok pQ gR λB' sBB JT=>⟨(hdp.same sBB).snoc ⟨p,r0,b0,rv0,bv0,rfl,.of (JT p _ hp hp5),sBB _ _ q2,q3.same sBB,sBB _ _ q4,q5.same sBB⟩,hdl.same sBB⟩;exact k H6 _ ⟨rs,bs,fnd,fls⟩ a1 la6 a2 (λc o h1 h2 h3=>oM h1 h2 h3) rfl rfl a3
end
end K35
namespace LG
open PySem L2
structure WOd (w:Str):Prop where
 word:cS w=true
 len:w.length<=5
 ok:PyData.strOk w=true
theorem WOd.blank {w:Str} (h:WOd w):32∉w.cps.toList:=λq=>by
 have h1:=h.word;unfold cS dh at h1;rw [Qt,Qs] at h1;have:=h1.2 32 q;rw [yO] at this;cases this
theorem d1:∀ x∈xq,cS x=true/\x.length<=5/\PyData.strOk x=true:=by decide +kernel
theorem d2:∀ x∈xg,cS x=true/\x.length<=5/\PyData.strOk x=true:=by decide +kernel
theorem d3:∀ x∈wM,cS x=true/\x.length<=5/\PyData.strOk x=true:=by decide +kernel
theorem Az {l:List Str} (hn:1<=l.length) (hl:l.length<=4) (h:∀ y∈l,PyData.strOk y=true/\y.length<=1/\∃ c,y=⟨#[c]⟩/\sgn c=true):WOd (Txt.join "" l):=by
 have hj:=wH (y:= "") (m:=1) (by decide +kernel) (λy hy=>⟨(h y hy).1,(h y hy).2.1⟩);have h0:(("" : Str)).length=0:=rfl;rw [h0] at hj;refine ⟨?_,by lia,hj.1⟩;cases l with
 | nil=>simp at hn
 | cons x r=>
  have hx:=h x (P5 ..);obtain ⟨c,hxc,hsc⟩:=hx.2.2;have hp:=Fl (p:=λc=>sgn c=true) (y:= "") (λc hc=>by rw [show (Str.ofString "").cps = #[] from rfl] at hc;simp at hc) r x.cps (λy hy c hc=>by
   obtain ⟨c',rfl,h'⟩:=(h y (PY _ hy)).2.2;simp at hc;subst hc;exact h') (λc hc=>by
   subst hxc;simp at hc;subst hc;exact hsc)
  have e:(Txt.join "" (x::r)).cps=r.foldl (λacc q=>acc++(("" : Str)).cps++q.cps) x.cps:=rfl;unfold cS dh;rw [e,Qt];constructor
  ·have hs:1<=(r.foldl (λacc q=>acc++(("" : Str)).cps++q.cps) x.cps).size:=P2 (by subst hxc;simp) hp.2;cases q:(r.foldl (λacc q=>acc++(("" : Str)).cps++q.cps) x.cps).toList with
   | nil=>rw [<-Qd,q] at hs;simp at hs
   | cons a b=>rfl
  ·rw [Qs];intro c hc;exact hp.1 c (by simpa using hc)
def iO (K:Vz):Sp:=λvs H Q _=>∃ (d:Addr) (n:Nat),vs=[.ref d]/\Dk H d n/\n<900000/\∀ (x:Str) H',af (wo d H) H'->Dk H' d (n+6)->WOd x->Q (.str x) H'
structure nE (m:Nat) (x:Str) (ws:List Str):Prop where
 eq:x=Txt.join " " ws
 pos:1<=ws.length
 le:ws.length<=m
 wd:∀ w∈ws,WOd w
theorem nE.split {m:Nat}{x:Str}{ws:List Str} (h:nE m x ws):Txt.split x " " = ws:=by
 rw [h.eq];exact rT (by intro e;have:=h.pos;rw [e] at this;simp at this) λw hw=>(h.wd w hw).blank
theorem nE.ok {m:Nat}{x:Str}{ws:List Str} (h:nE m x ws) (hm:m<=12):PyData.strOk x=true/\x.length<=72:=by
 have hj:=wH (y:= " ") (m:=5) (by decide +kernel) (λy hy=>⟨(h.wd y hy).ok,(h.wd y hy).len⟩);have h1:((" " : Str)).length=1:=rfl;rw [h1,<-h.eq] at hj;have:=h.le;exact ⟨hj.1,by lia⟩
def iQ (K:Vz):Sp:=λvs H Q _=>∃ (d:Addr) (m:Int) (n:Nat),vs=[.ref d,.int m]/\Dk H d n/\n<800000/\0<m/\m<13/\∀ (x:Str) (ws:List Str) H',af (wo d H) H'->Dk H' d (n+80)->nE m.toNat x ws->Q (.str x) H'
structure zq (ws:List Str):Prop where
 pos:1<=ws.length
 le:ws.length<=12
 wd:∀ w∈ws,WOd w
theorem zq.line {ws:List Str} (h:zq ws):nE 12 (Txt.join " " ws) ws:=⟨rfl,h.pos,h.le,h.wd⟩
def lr (K:Vz):Sp:=λvs H Q _=>∃ (d:Addr) (m:Int) (n:Nat),vs=[.ref d,.int m]/\Dk H d n/\n<700000/\0<=m/\m<=60 /\
 ∀ D (ls:List Str) H',H D=none->af (wo d H) H'->Dk H' d (n+2000)->H' D=some (.lst (ls.map V.str))->(∀ x∈ls,∃ ws,nE 12 x ws)->ls.length<=m.toNat->Q (.ref D) H'
def GR (Hs:Hp) (acc:List V):Prop:=∀ x∈acc,∃ (s:Addr) (ws:List Str),x = .ref s/\Hs s=some (.lst (ws.map V.str))/\zq ws
theorem zq.set {ws:List Str} (h:zq ws) {i:Nat}{x:Str} (hx:WOd x):zq (ws.set i x):=by
 refine ⟨by rw [RC];exact h.pos,by rw [RC];exact h.le,λw hw=>?_⟩;rcases Rv hw with q | q
 ·exact h.wd w q
 ·rw [q];exact hx
theorem WOd.to {w:Str} (h:WOd w):WOk w:=⟨h.word,Nat.le_succ_of_le h.len,h.ok⟩
theorem nE.to {m:Nat}{x:Str}{ws:List Str} (h:nE m x ws):fX m x ws:=⟨h.eq,h.pos,h.le,λw hw=>(h.wd w hw).to⟩
end LG
namespace K35
open PySem L2 LG
section
variable {P:Program}{w:World}{K:Vz}{mg:Str->Option Vy}{base:Heap}{A:Ad}
theorem wY:aE ["cell","turn"] ["cell","turn"] (ak (top 59)):=⟨rfl,rfl,rfl,by decide +kernel,rfl,by decide +kernel,by decide +kernel⟩
theorem xm (T:Tx K mg A):ax P w K mg base CX0 1 A.kD A.kj ["cell","turn"] (mQ K):=by
 refine T.fj.fn.ok wY (λvs H Q E h=>?_) (λcdv Ar outer s H vs Q E hr h=>?_)
 ·obtain ⟨c,m,rfl,_⟩:=h;rfl
 ·obtain ⟨c,m,rfl,hm,k⟩:=h;refine ⟨_,ag (a8 (aJ (Ca) (pv 0) (bS wV (ar) (ar)) (aG _)) (ao (aC (bu (aa (bS zL (pv 0) (bS wV (ar) (ar))) (aa (bS pA (pv 0) (ar)) (aa (pv 1) (ae))))))) (aO))
   (ao (aC (bu (aa (ar) (aa (bS pA (pv 0) (ar)) (aa (pv 1) (ae))))))),?_⟩
  refine ⟨_,rfl,_,_,rfl,rfl,⟨by decide,by decide,by decide⟩,_,_,rfl,rfl,_,rfl,?_⟩;refine mL (λhc=>?_) (λhc=>?_)
  ·refine ⟨_,rfl,_,_,rfl,rfl,⟨by decide,by decide,by decide⟩,_,_,rfl,rfl,_,rfl,_,_,rfl,rfl,(by show (0:Int)<2147483579;decide),_,rfl,(by show 3<=sizeLine;decide),λd hd=>?_⟩;have hc':(10:Int) ^ (18:Int).toNat<=c:=of_decide_eq_true hc;exact k d _ hd (af.new hd) ⟨_,_,_,ab,by lia,RD _ (by decide),Rh _ (by decide),Int.natCast_nonneg _,RL _⟩
  ·refine ⟨_,rfl,_,_,rfl,rfl,(by show (0:Int)<2147483579;decide),_,rfl,(by show 3<=sizeLine;decide),λd hd=>?_⟩;exact k d _ hd (af.new hd) ⟨_,_,_,ab,by decide,RD _ (by decide),Rh _ (by decide),Int.natCast_nonneg _,RL _⟩
theorem gu:aE ["deck","many","found","number"] ["deck","many"] (ak (top 60)):=⟨rfl,rfl,rfl,by decide +kernel,rfl,by decide +kernel,by decide +kernel⟩
theorem cA (T:Tx K mg A):ax P w K mg base CX0 1 A.cg A.cf ["deck","many"] (bY K):=by
 refine T.ap.fn.ok gu (λvs H Q E h=>?_) (λcdv Ar outer s H vs Q E hr h=>?_)
 ·obtain ⟨d,m,n,rfl,_⟩:=h;rfl
 ·obtain ⟨d,m,n,rfl,hdk,hn,hm0,hm1,k⟩:=h;refine ⟨_,ag (a8 (aJ (IR) (aU (r:=dE K) aX (pv 0) (ar) (λ_ _=>rfl)) (ar) (aG _)) (ag (aY (i:=2) gu.nd rfl (Or.inl rfl) (bS pA (aU (r:=dE K) aX (pv 0) (ar) (λ_ _=>rfl)) (pv 1)))
   (ag (lC (bS BX (aU (r:=dE K) aX (pv 0) (ar) (λ_ _=>rfl)) (pv 1)) (sO (pv 0) (ar) set_list))
   (ao (aC (pv 2))))) (aO))
   (ag (lC (bS fV (aU (r:=dE K) aX (pv 0) (ar) (λ_ _=>rfl)) (ar)) (sO (pv 0) (ar) set_list))
   (ag (aY (i:=3) gu.nd rfl (Or.inl rfl) (bS pA (bS wV (bS fV (aU (r:=dE K) aX (pv 0) (ar) (λ_ _=>rfl)) (bS DX (ar) (aU (r:=dE K) aX (pv 0) (ar) (λ_ _=>rfl)))) (ar)) (ar)))
   (ag (aY (i:=2) gu.nd rfl (Or.inl rfl) (bS BX (bS pA (bS wV (bS fV (pv 3) (bS DX (ar) (aU (r:=dE K) aX (pv 0) (ar) (λ_ _=>rfl)))) (ar)) (ar)) (ar)))
   (ag (a8 (aJ (IR) (pv 1) (ar) (aG _)) (ao eB) (aO))
   (ao (aC (bS pA (pv 2) (pv 1)))))))),?_⟩
  obtain ⟨a,b,c,hd,ha,hb,hb2,hc,hc2⟩:=hdk;have hq:SqL K H d [.int a,.int b,.int c]:=.of hd;refine ⟨_,rfl,d,_,0,_,rfl,rfl,hq,rfl,_,_,rfl,rfl,_,rfl,?_⟩;refine mL (λh1=>?_) (λh1=>?_)
  ·refine ⟨_,rfl,d,_,0,_,rfl,rfl,hq,rfl,_,rfl,_,_,rfl,rfl,hm0,?_⟩;refine ⟨_,rfl,d,_,0,_,rfl,rfl,hq,rfl,_,rfl,_,_,rfl,rfl,⟨hm0,by lia⟩,?_⟩;refine ⟨_,rfl,d,_,0,0,rfl,rfl,hd,rfl,?_⟩;refine ⟨_,rfl,?_⟩;exact k _ _ yU ⟨_,_,_,ab,Int.ediv_nonneg ha (by lia),hb,hb2,hc,by lia⟩ (RD _ (by lia)) (Rh _ hm0)
  ·refine ⟨_,rfl,d,_,2,_,rfl,rfl,hq,rfl,_,_,rfl,rfl,?_⟩;refine ⟨_,rfl,d,_,2,2,rfl,rfl,hd,rfl,?_⟩;have hq2:SqL K (upd H d (.lst [.int a,.int b,.int (c+1)])) d [.int a,.int b,.int (c+1)]:=.of ab;refine ⟨_,rfl,d,_,1,_,rfl,rfl,hq2,rfl,_,rfl,d,_,2,_,rfl,rfl,hq2,rfl,_,_,rfl,rfl,.inl ⟨by decide,by decide⟩,_,_,rfl,rfl,_,_,rfl,rfl,⟨by decide,by decide,by lia⟩,_,_,rfl,rfl,(by show (0:Int)<2147483647;decide),?_⟩;refine ⟨_,rfl,_,rfl,d,_,2,_,rfl,rfl,hq2,rfl,_,_,rfl,rfl,.inl ⟨by decide,by decide⟩,_,_,rfl,rfl,_,_,rfl,rfl,⟨by decide,by decide,?_⟩,_,_,rfl,rfl,(by show (0:Int)<2147483629;decide),_,_,rfl,rfl,⟨by decide,by decide⟩,?_⟩
   ·have h2:=RD ((b+15485867 * (c+1)) ^ (5:Int).toNat) (show (2147483647:Int)≠0 by decide);have h3:=Rh ((b+15485867 * (c+1)) ^ (5:Int).toNat) (show (0:Int)<2147483647 by decide);lia
   ·refine ⟨_,rfl,_,_,rfl,rfl,_,rfl,?_⟩;rw [decide_eq_false (show ¬ (1000000:Int)<m by lia)];refine bf ?_;refine ⟨_,rfl,_,rfl,_,_,rfl,rfl,hm0,?_⟩;exact k _ _ yU ⟨_,_,_,ab,ha,hb,hb2,by lia,by lia⟩ (RD _ (by lia)) (Rh _ hm0)
theorem oU:aE ["word","figures"] ["word"] (ak (top 61)):=⟨rfl,rfl,rfl,by decide +kernel,rfl,by decide +kernel,by decide +kernel⟩
theorem wj (T:Tx K mg A):ax P w K mg base CX0 1 A.kU A.lI ["word"] (o5 K):=by
 refine T.mq.fn.ok oU (λvs H Q E h=>?_) (λcdv Ar outer s H vs Q E hr h=>?_)
 ·obtain ⟨z,rfl,_⟩:=h;rfl
 ·obtain ⟨z,rfl,hz,k⟩:=h;refine ⟨_,ag (aY (i:=1) oU.nd rfl (Or.inl rfl) (k4 (aJ (eO) (lM Fv (pv 0) (qX) (l3 (ar))) (aL) (aG _)) (lM Fv (pv 0) (l3 (ar)) (qX)) (pv 0)))
   (ag (a8 ((pw_and (aJ (qC) (pv 1) (aL) (aG _)) (pw_and1 (aJ (r:=uh K) (nv hr) (bw (N':=["sign"]) (n:=1) (fi:=[]) (g:=br 0) rfl (bH (ak (top 61)) ["word","figures"] (by decide +kernel)) (Et (pv 1)) (λs H fp=>aI (i:=0) (show (["sign"]:List Str).Nodup by decide +kernel) rfl (Or.inl rfl) (.inr rfl)) (λs H fp=>k7 (dD (yE mr mr (aL) (pv 0) (aL)))) (λs H fp=>pv 0)) (bu (ae)) (aG _)))).pt) (ao (aC (aL))) (aO))
   (ao (aC (k4 (aJ (r:=uh K) (nv hr) (bw (N':=["sign"]) (n:=1) (fi:=[]) (g:=br 0) rfl (bH (ak (top 61)) ["word","figures"] (by decide +kernel)) (Et (pv 0)) (λs H fp=>aI (i:=0) (show (["sign"]:List Str).Nodup by decide +kernel) rfl (Or.inl rfl) (.inr rfl)) (λs H fp=>k7 (dD (yE mr mr (aL) (pv 0) (aL)))) (λs H fp=>pv 0)) (bu (ae)) (aG _)) (aL) (aL))))),?_⟩
  have hl:z.length<=sizeLine:=P2 hz.1 (by decide);have hf:=EX (z:=z) (l:=some 1) (u:=none) hz.2;have c0:("0" : Str)=⟨#[48]⟩:=by decide +kernel
  have c9:("9" : Str)=⟨#[57]⟩:=by decide +kernel
  have ca:("a" : Str)=⟨#[97]⟩:=by decide +kernel
  have cz:("z" : Str)=⟨#[122]⟩:=by decide +kernel
  have ek:d6 z.cps.toList=if dh dig (bE z.cps.toList)=true then 0 else if z.cps.toList.all low=true then 1 else 2:=rfl;rw [ek] at k;refine ⟨_,rfl,_,rfl,z,rfl,hl,rfl,_,rfl,?_⟩;rw [CO];have N7:∃ f:Str,f.cps.toList=bE z.cps.toList/\PyData.strOk f=true/\f.length<=10000/\(f=if z.cps.toList.head? = some 45 then Txt.slice z (some 1) none else z):=by
   by_cases hd:z.cps.toList.head? = some 45
   ·exact ⟨_,by rw [if_pos hd,AL];exact yF hd,by rw [if_pos hd];exact hf.1,by rw [if_pos hd];exact P2 hf.2 hz.1,rfl⟩
   ·exact ⟨_,by rw [if_neg hd];exact AW hd,by rw [if_neg hd];exact hz.2,by rw [if_neg hd];exact hz.1,rfl⟩
  obtain ⟨f,f1,f2,f3,f4⟩:=N7;have tail:∀ H2,af H H2->dh dig (bE z.cps.toList)=false->K7 (tIf (vF (tOp (uh K) (zx (Kl (tY 0)) (br 0) (KJ (vF (w6 (λx y H Q=>∃ i j,x = .str i/\y = .str j/\Q (.bl (!decide (j.cps.toList<i.cps.toList))) H) (λx y H Q=>∃ i j,x = .str i/\y = .str j/\Q (.bl (!decide (j.cps.toList<i.cps.toList))) H) (tC (.str "a")) (tY 0) (tC (.str "z"))))) (tY 0) 1 []) (Ka Eg))) (tC (.str "name")) (tC (.str "other"))) { nx:=λ_ H'=>Q .non H',rt:=Q } [some (.str z),some (.str f)] H2:=λH2 s2 hno=>by
   refine pJ (λc=>!(decide (97<=c) && decide (c<=122))) rfl hz.2 (P2 hz.1 (by decide)) (λc H2 R h=>jW ca cz h) λH3 s3=>?_;have e:(z.cps.toList.all λc=>!(!(decide (97<=c) && decide (c<=122))))=z.cps.toList.all low:=by
    congr 1
    funext c
    simp [low]
   rw [e];have kk:=k H3 (s2.trans s3);rw [hno,if_neg P6] at kk;by_cases hb:z.cps.toList.all low=true
   ·rw [if_pos hb] at kk;rw [hb];exact ck kk
   ·rw [if_neg hb] at kk;rw [Qe.mpr hb];exact bf kk
  by_cases hd:z.cps.toList.head? = some 45
  ·rw [decide_eq_true hd];rw [if_pos hd] at f4;subst f4;refine ck ⟨_,rfl,_,rfl,z,rfl,hl,?_⟩;refine ⟨_,rfl,rfl,_,rfl,?_⟩;rw [oH,f1];by_cases he:(bE z.cps.toList).isEmpty=true
   ·rw [he];refine bf ?_;refine bf ?_;exact tail H (af.refl _) (by unfold dh;rw [he];rfl)
   ·rw [Qe.mpr he];refine ck ?_;refine pJ (λc=>!(decide (48<=c) && decide (c<=57))) rfl f2 (P2 f3 (by decide)) (λc H2 R h=>jW c0 c9 h) λH2 s2=>?_;have e:((Txt.slice z (some 1) none).cps.toList.all λc=>!(!(decide (48<=c) && decide (c<=57))))=(bE z.cps.toList).all dig:=by
     rw [f1]
     congr 1
     funext c
     simp [dig]
    rw [e];by_cases hb:(bE z.cps.toList).all dig=true
    ·rw [hb];refine ck ?_;have ho:dh dig (bE z.cps.toList)=true:=by unfold dh;rw [Qe.mpr he,hb];rfl
     have kk:=k H2 s2;rw [ho,if_pos rfl] at kk;exact kk
    ·rw [Qe.mpr hb];refine bf ?_;exact tail H2 s2 (by unfold dh;rw [Qe.mpr hb,QW])
  ·rw [decide_eq_false hd];rw [if_neg hd] at f4;subst f4;refine bf ⟨_,rfl,?_⟩;refine ⟨_,rfl,rfl,_,rfl,?_⟩;rw [oH,f1];by_cases he:(bE f.cps.toList).isEmpty=true
   ·rw [he];refine bf ?_;refine bf ?_;exact tail H (af.refl _) (by unfold dh;rw [he];rfl)
   ·rw [Qe.mpr he];refine ck ?_;refine pJ (λc=>!(decide (48<=c) && decide (c<=57))) rfl f2 (P2 f3 (by decide)) (λc H2 R h=>jW c0 c9 h) λH2 s2=>?_;have e:(f.cps.toList.all λc=>!(!(decide (48<=c) && decide (c<=57))))=(bE f.cps.toList).all dig:=by
     rw [<-f1]
     congr 1
     funext c
     simp [dig]
    rw [e];by_cases hb:(bE f.cps.toList).all dig=true
    ·rw [hb];refine ck ?_;have ho:dh dig (bE f.cps.toList)=true:=by unfold dh;rw [Qe.mpr he,hb];rfl
     have kk:=k H2 s2;rw [ho,if_pos rfl] at kk;exact kk
    ·rw [Qe.mpr hb];refine bf ?_;exact tail H2 s2 (by unfold dh;rw [Qe.mpr hb,QW])
theorem jG:aE ["deck","way","some"] ["deck"] (ak (top 62)):=⟨rfl,rfl,rfl,by decide +kernel,rfl,by decide +kernel,by decide +kernel⟩
theorem oQ (T:Tx K mg A):ax P w K mg base CX0 2 A.iD A.iF ["deck"] (iO K):=by
 have aB:ax P w K mg base CX0 1 A.cg A.cf ["deck","many"] (bY K):=(cA T).mono (by decide);refine T.fh.fn.ok jG (λvs H Q E h=>?_) (λcdv Ar outer s H vs Q E hr h=>?_)
 ·obtain ⟨d,n,rfl,_⟩:=h;rfl
 ·obtain ⟨d,n,rfl,hdk,hn,k⟩:=h;refine ⟨_,ag (aY (i:=1) jG.nd rfl (Or.inl rfl) (av aB hr (by rfl) T.ap.mg T.ap.fn.kp T.ap.bd .nil ay (aa (pv 0) (aa (ar) (ae)))))
   (ag (a8 (aJ (tH) (pv 1) (ar) (aG _)) (ao (aC (aU (r:=dE K) aX (bu (aa (aL) (aa (aL) (aa (aL) (ae))))) (av aB hr (by rfl) T.ap.mg T.ap.fn.kp T.ap.bd .nil ay (aa (pv 0) (aa (ar) (ae)))) (λ_ _=>rfl)))) (aO))
   (ag (a8 (aJ (tH) (pv 1) (ar) (aG _)) (ao (aC (aU (r:=dE K) aX (bu (aa (aL) (aa (aL) (aa (aL) (aa (aL) (aa (aL) (ae))))))) (av aB hr (by rfl) T.ap.mg T.ap.fn.kp T.ap.bd .nil ay (aa (pv 0) (aa (ar) (ae)))) (λ_ _=>rfl)))) (aO))
   (ag (a8 (aJ (tH) (pv 1) (ar) (aG _)) (ao (aC (aU (r:=dE K) aX (bu (aa (aL) (aa (aL) (aa (aL) (aa (aL) (aa (aL) (aa (aL) (aa (aL) (aa (aL) (ae)))))))))) (av aB hr (by rfl) T.ap.mg T.ap.fn.kp T.ap.bd .nil ay (aa (pv 0) (aa (ar) (ae)))) (λ_ _=>rfl)))) (aO))
   (ag (aY (i:=2) jG.nd rfl (Or.inr rfl) (aU (r:=dE K) aX (bu (aa (aL) (aa (aL) (aa (aL) (aa (aL) (ae)))))) (bS zL (pv 1) (ar)) (λ_ _=>rfl)))
   (ao (aC (cQ (r:=rJoin K) PySem.F.plainAttrs_str PySem.F.slot_str_join PySem.F.type_str_join wG (aL) (aa (bw (N':=["k","some","deck"]) (n:=1) (fi:=[2,0]) (g:=br 0) rfl (bH (ak (top 62)) ["deck","way","some"] (by decide +kernel)) (dR (by rfl) T.gm (aa (bS fV (ar) (av aB hr (by rfl) T.ap.mg T.ap.fn.kp T.ap.bd .nil ay (aa (pv 0) (aa (ar) (ae))))) (ae))) (λs H fp=>aI (i:=0) (show (["k","some","deck"]:List Str).Nodup by decide +kernel) rfl (Or.inl rfl) (.inr rfl)) (λs H fp=>a9) (λs H fp=>aU JA (pv 1) (av aB hr (by rfl) T.ap.mg T.ap.fn.kp T.ap.bd .nil ay (aa (pv 2) (aa (aK nK (by rfl) T.cq PySem.boot_len (aa (pv 1) (ae))) (ae)))) (λ_ _=>rfl))) (ae))))))))),?_⟩
  refine ⟨_,rfl,d,12,n,rfl,hdk,by lia,by decide,by decide,λway H1 s1 dk1 w0 w12=>?_⟩;refine ⟨_,rfl,_,_,rfl,rfl,_,rfl,?_⟩;refine mL (λ_=>?_) (λ_=>?_)
  ·refine ⟨(by show 3<=sizeLine;decide),λp hp=>⟨_,rfl,d,3,n+1,rfl,dk1.same (af.new hp),by lia,by decide,by decide,λr H2 s2 dk2 r0 r1=>?_⟩⟩;obtain ⟨x,hx,ha⟩:=nX (l:=xq) r0 r1;have hp2:H2 p=some (.lst (xq.map V.str)):=cs s2 ab (dk1.ne hp);have hw:=d1 x hx;exact ⟨p,_,r,_,rfl,rfl,.of hp2,ha,k x H2 (bI (s1.trans (af.new hp)) s2) (dk2.mono (by lia)) ⟨hw.1,hw.2.1,hw.2.2⟩⟩
  ·refine ⟨_,rfl,_,_,rfl,rfl,_,rfl,?_⟩;refine mL (λ_=>?_) (λ_=>?_)
   ·refine ⟨(by show 5<=sizeLine;decide),λp hp=>⟨_,rfl,d,5,n+1,rfl,dk1.same (af.new hp),by lia,by decide,by decide,λr H2 s2 dk2 r0 r1=>?_⟩⟩;obtain ⟨x,hx,ha⟩:=nX (l:=xg) r0 r1;have hp2:H2 p=some (.lst (xg.map V.str)):=cs s2 ab (dk1.ne hp);have hw:=d2 x hx;exact ⟨p,_,r,_,rfl,rfl,.of hp2,ha,k x H2 (bI (s1.trans (af.new hp)) s2) (dk2.mono (by lia)) ⟨hw.1,hw.2.1,hw.2.2⟩⟩
   ·refine ⟨_,rfl,_,_,rfl,rfl,_,rfl,?_⟩;refine mL (λ_=>?_) (λh8=>?_)
    ·refine ⟨(by show 8<=sizeLine;decide),λp hp=>⟨_,rfl,d,8,n+1,rfl,dk1.same (af.new hp),by lia,by decide,by decide,λr H2 s2 dk2 r0 r1=>?_⟩⟩;obtain ⟨x,hx,ha⟩:=nX (l:=wM) r0 r1;have hp2:H2 p=some (.lst (wM.map V.str)):=cs s2 ab (dk1.ne hp);have hw:=d3 x hx;exact ⟨p,_,r,_,rfl,rfl,.of hp2,ha,k x H2 (bI (s1.trans (af.new hp)) s2) (dk2.mono (by lia)) ⟨hw.1,hw.2.1,hw.2.2⟩⟩
    ·have h8':¬ way<8:=λh=>h8 (decide_eq_true h);obtain ⟨x,hx,ha⟩:=nX (l:=AD) (r:=way - 8) (by lia) (by show way - 8<4;lia);have hxx:=w4 x hx;refine ⟨(by show 4<=sizeLine;decide),λp hp=>⟨_,rfl,_,_,rfl,rfl,p,_,way - 8,_,rfl,rfl,.of ab,ha,?_⟩⟩;have dkp:Dk (upd H1 p (.lst (AD.map V.str))) d (n+1):=dk1.same (af.new hp);refine ⟨rfl,_,rfl,d,4,n+1,rfl,dkp,by lia,by decide,by decide,λr4 H2 s2 dk2 r0 r1=>?_⟩;refine ⟨_,_,rfl,rfl,1+r4,rfl,by lia,by lia,λD hD=>?_⟩;have hdD:d≠D:=dk2.ne hD;refine gQ (λi acc σ H3=>(∃ u,σ=[u,some (.str x),some (.ref d)])/\af (wo d H2) H3/\Dk H3 d (n+2+i)/\∃ l:List Str,acc=l.map V.str/\l.length=i/\∀ y∈l,PyData.strOk y=true/\y.length<=1/\∃ c,y=⟨#[c]⟩/\sgn c=true) ab ⟨⟨_,rfl⟩,aZ.trans (af.new hD),dk2.same (af.new hD),[],rfl,rfl,λy hy=>by cases hy⟩ (λi acc σ H3 hi hD3 q=>?_) (λacc σ H3 hD3 q=>?_)
     ·obtain ⟨q0,s3,dk3,l,rfl,hl,hok⟩:=q;apply fU q0;clear q0;intro u;refine dS ⟨_,rfl,_,rfl,_,rfl,x,rfl,P2 hxx.2.1 (by decide),d,x.length,n+2+i,rfl,dk3,by lia,by lia,by lia,λr H4 s4 dk4 q0 q1=>?_⟩;obtain ⟨c,j,hc,hj⟩:=HW q0 q1;have hsc:sgn c=true:=Qs.mp hxx.2.2.2 c (by simpa using Array.mem_of_getElem? hj);refine ⟨x,r,c,rfl,rfl,P2 hxx.2.1 (by decide),hc,_,cs s4 hD3 hdD,small (by simp only [PQ];lia),_,ab,⟨_,rfl⟩,aF (by rw [aj hdD.symm];exact hD) (bI s3 s4),dk4.upd hdD,l++[⟨#[c]⟩],by simp,by simp [hl],λy hy=>?_⟩;rcases Qc.mp hy with hy | hy
      ·exact hok y hy
      ·simp only [PZ] at hy;subst hy;exact ⟨Io hxx.1 hj,PR _,c,rfl,hsc⟩
     ·obtain ⟨_,s3,dk3,l,rfl,hl,hok⟩:=q;have hl4:l.length<=4:=by lia
      refine ⟨"",D,l,rfl,rfl,.of hD3,pR (λy hy=>(hok y hy).2.1) ?_,?_⟩
      ·have:(("" : Str)).length=0:=rfl;rw [this];lia
      ·exact k _ H3 (bI (bI (s1.trans (af.new hp)) s2) s3) (dk3.mono (by lia)) (Az (by lia) hl4 hok)
theorem xC:aE ["deck","most"] ["deck","most"] (ak (top 63)):=⟨rfl,rfl,rfl,by decide +kernel,rfl,by decide +kernel,by decide +kernel⟩
theorem oC (T:Tx K mg A):ax P w K mg base CX0 3 A.iL A.iI ["deck","most"] (iQ K):=by
 have kz:ax P w K mg base CX0 2 A.iD A.iF ["deck"] (iO K):=(oQ T).mono (by decide);have aB:ax P w K mg base CX0 2 A.cg A.cf ["deck","many"] (bY K):=(cA T).mono (by decide);refine T.fm.fn.ok xC (λvs H Q E h=>?_) (λcdv Ar outer s H vs Q E hr h=>?_)
 ·obtain ⟨d,m,n,rfl,_⟩:=h;rfl
 ·obtain ⟨d,m,n,rfl,hdk,hn,hm0,hm1,k⟩:=h;refine ⟨_,ao (aC (cQ (r:=rJoin K) PySem.F.plainAttrs_str PySem.F.slot_str_join PySem.F.type_str_join wG (aL) (aa (bw (N':=["k","deck"]) (n:=1) (fi:=[0]) (g:=br 0) rfl (bH (ak (top 63)) ["deck","most"] (by decide +kernel)) (dR (by rfl) T.gm (aa (bS fV (ar) (av aB hr (by rfl) T.ap.mg T.ap.fn.kp T.ap.bd .nil ay (aa (pv 0) (aa (pv 1) (ae))))) (ae))) (λs H fp=>aI (i:=0) (show (["k","deck"]:List Str).Nodup by decide +kernel) rfl (Or.inl rfl) (.inr rfl)) (λs H fp=>a9) (λs H fp=>av kz hr (by rfl) T.fh.mg T.fh.fn.kp T.fh.bd .nil ay (aa (pv 1) (ae)))) (ae)))),?_⟩;refine ⟨rfl,_,rfl,_,rfl,d,m,n,rfl,hdk,by lia,hm0,by lia,λr4 H2 s2 dk2 r0 r1=>?_⟩;refine ⟨_,_,rfl,rfl,1+r4,rfl,by lia,by lia,λD hD=>?_⟩;have hdD:d≠D:=dk2.ne hD;refine gQ (λi acc σ H3=>(∃ u,σ=[u,some (.ref d)])/\af (wo d H2) H3/\Dk H3 d (n+1+6 * i)/\∃ l:List Str,acc=l.map V.str/\l.length=i/\∀ y∈l,WOd y) ab ⟨⟨_,rfl⟩,aZ.trans (af.new hD),dk2.same (af.new hD),[],rfl,rfl,λy hy=>by cases hy⟩ (λi acc σ H3 hi hD3 q=>?_) (λacc σ H3 hD3 q=>?_)
  ·obtain ⟨q0,s3,dk3,l,rfl,hl,hok⟩:=q;apply fU q0;clear q0;intro u;refine dS ⟨_,rfl,d,n+1+6 * i,rfl,dk3,by lia,λx H4 s4 dk4 hx=>?_⟩;refine ⟨_,cs s4 hD3 hdD,small (by simp only [PQ];lia),_,ab,⟨_,rfl⟩,aF (by rw [aj hdD.symm];exact hD) (bI s3 s4),(dk4.upd hdD).mono (by lia),l++[x],by simp,by simp [hl],λy hy=>?_⟩;rcases Qc.mp hy with hy | hy
   ·exact hok y hy
   ·simp only [PZ] at hy;subst hy;exact hx
  ·obtain ⟨_,s3,dk3,l,rfl,hl,hok⟩:=q;have h1:((" " : Str)).length=1:=rfl;refine ⟨" ",D,l,rfl,rfl,.of hD3,pR (λy hy=>(hok y hy).len) ?_,?_⟩
   ·rw [h1];lia
   ·exact k _ l H3 (bI s2 s3) (dk3.mono (by lia)) ⟨rfl,by lia,by lia,hok⟩
def mM (K:Vz):Sp:=λvs H Q _=>∃ (d:Addr) (n:Nat),vs=[.ref d]/\Dk H d n/\n<900000/\∀ (t:Addr) (s l:Int) H',H t=none->af (wo d H) H'->Dk H' d (n+3)->H' t=some (.tup [.int s,.int l])->Q (.ref t) H'
theorem J0 {r:Int} (h0:0<=r) (h1:r<3):∃ v:Int,atI [V.int 3,V.int 3,V.int 9] r=some (.int v)/\0<v/\v<10:=by
 have:r=0\/r=1\/r=2:=by lia
 rcases this with rfl | rfl | rfl
 ·exact ⟨3,rfl,by decide,by decide⟩
 ·exact ⟨3,rfl,by decide,by decide⟩
 ·exact ⟨9,rfl,by decide,by decide⟩
theorem ul:aE ["deck"] ["deck"] (ak (top 66)):=⟨rfl,rfl,rfl,by decide +kernel,rfl,by decide +kernel,by decide +kernel⟩
theorem uI (T:Tx K mg A):ax P w K mg base CX0 2 A.j6 A.jC ["deck"] (mM K):=by
 have aB:ax P w K mg base CX0 1 A.cg A.cf ["deck","many"] (bY K):=(cA T).mono (by decide);refine T.ju.fn.ok ul (λvs H Q E h=>?_) (λcdv Ar outer s H vs Q E hr h=>?_)
 ·obtain ⟨d,n,rfl,_⟩:=h;rfl
 ·obtain ⟨d,n,rfl,hdk,hn,k⟩:=h;refine ⟨_,ao (aC (bT (aa (bS fV (ar) (av aB hr (by rfl) T.ap.mg T.ap.fn.kp T.ap.bd .nil ay (aa (pv 0) (aa (ar) (ae))))) (aa (bS fV (ar) (av aB hr (by rfl) T.ap.mg T.ap.fn.kp T.ap.bd .nil ay (aa (pv 0) (aa (aU (r:=dE K) aX (bu (aa (ar) (aa (ar) (aa (ar) (ae))))) (av aB hr (by rfl) T.ap.mg T.ap.fn.kp T.ap.bd .nil ay (aa (pv 0) (aa (ar) (ae)))) (λ_ _=>rfl)) (ae))))) (ae))))),?_⟩;refine ⟨_,rfl,d,8,n,rfl,hdk,by lia,by decide,by decide,λr1 H1 s1 dk1 _ _=>⟨_,_,rfl,rfl,?_⟩⟩;refine ⟨_,rfl,(by show 3<=sizeLine;decide),λp hp=>⟨_,rfl,d,3,_,rfl,dk1.same (af.new hp),by lia,by decide,by decide,λr2 H2 s2 dk2 q0 q1=>?_⟩⟩;obtain ⟨v,hv,hv0,hv1⟩:=J0 q0 q1;have hp2:H2 p=some (.lst [.int 3,.int 3,.int 9]):=cs s2 ab (dk1.ne hp);refine ⟨p,_,r2,_,rfl,rfl,.of hp2,hv,d,v,_,rfl,dk2,by lia,hv0,by lia,λr3 H3 s3 dk3 _ _=>⟨_,_,rfl,rfl,(by show 2<=sizeLine;decide),λt ht=>?_⟩⟩;have s03:af (wo d H) H3:=bI (bI s1 (aZ.trans (af.new hp))) (by exact bI (by exact s2) s3);have st:=af.new (o:=.tup [.int (2+r1),.int (1+r3)]) ht;have hdt:=dk3.ne ht;refine k t _ _ _ ?_ (s03.trans st) ((dk3.same st).mono (by lia)) ab;have:=s03.free ht
  rwa [aj hdt.symm] at this
theorem cY:aE ["deck","most","shapes","found","k","words","turn"] ["deck","most"] (ak (top 64)):=⟨rfl,rfl,rfl,by decide +kernel,rfl,by decide +kernel,by decide +kernel⟩
theorem uD (T:Tx K mg A):ax P w K mg base CX0 4 A.jP A.jX ["deck","most"] (lr K):=by
 have aB:ax P w K mg base CX0 3 A.cg A.cf ["deck","many"] (bY K):=(cA T).mono (by decide);have kz:ax P w K mg base CX0 3 A.iD A.iF ["deck"] (iO K):=(oQ T).mono (by decide);have lF:ax P w K mg base CX0 3 A.iL A.iI ["deck","most"] (iQ K):=(oC T).mono (by decide);refine T.jQ.fn.ok cY (λvs H Q E h=>?_) (λcdv Ar outer s H vs Q E hr h=>?_)
 ·obtain ⟨d,m,n,rfl,_⟩:=h;rfl
 ·obtain ⟨d,m,n,rfl,hdk,hn,hm0,hm1,k⟩:=h;refine ⟨_,ag (oV (i:=2) (N':=["k","deck"]) (n:=1) (fi:=[0]) (g:=br 0) cY.nd rfl (Or.inl rfl) rfl (bH (ak (top 64)) ["deck","most","shapes","found","k","words","turn"] (by decide +kernel)) (dR (by rfl) T.gm (aa (bS fV (ar) (av aB hr (by rfl) T.ap.mg T.ap.fn.kp T.ap.bd .nil ay (aa (pv 0) (aa (ar) (ae))))) (ae))) (λs H fp=>aI (i:=0) (show (["k","deck"]:List Str).Nodup by decide +kernel) rfl (Or.inl rfl) (.inr rfl)) (λs H fp=>a9) (λs H fp=>Ee (K:=K) rfl PySem.F.plainAttrs_str PySem.F.slot_str_split PySem.F.type_str_split tq (av lF hr (by rfl) T.fm.mg T.fm.fn.kp T.fm.bd .nil ay (aa (pv 1) (aa (aU (r:=dE K) aX (bu (aa (ar) (aa (ar) (aa (ar) (ae))))) (av aB hr (by rfl) T.ap.mg T.ap.fn.kp T.ap.bd .nil ay (aa (pv 1) (aa (ar) (ae)))) (λ_ _=>rfl)) (ae)))) (aa (aL) (ae))))
   (ag (aY (i:=3) cY.nd rfl (Or.inl rfl) (bu (ae)))
   (ag (fZ PassesOwn.never rfl (dR (by rfl) T.gm (aa (av aB hr (by rfl) T.ap.mg T.ap.fn.kp T.ap.bd .nil ay (aa (pv 0) (aa (bS fV (pv 1) (ar)) (ae)))) (ae))) (aI (i:=4) cY.nd rfl (Or.inl rfl)) (ag (aY (i:=5) cY.nd rfl (Or.inl rfl) (i6 (r:=oZ K) jD (by rfl) T.pC lZ (aa (aU (r:=dE K) aX (pv 2) (av aB hr (by rfl) T.ap.mg T.ap.fn.kp T.ap.bd .nil ay (aa (pv 0) (aa (aK (r:=cH K) aV (by rfl) T.cq PySem.boot_len (aa (pv 2) (ae))) (ae)))) (λ_ _=>rfl)) (ae))))
   (ag (fZ PassesOwn.never rfl (dR (by rfl) T.gm (aa (av aB hr (by rfl) T.ap.mg T.ap.fn.kp T.ap.bd .nil ay (aa (pv 0) (aa (ar) (ae)))) (ae))) (aI (i:=6) cY.nd rfl (Or.inl rfl)) (ao (lC (av kz hr (by rfl) T.fh.mg T.fh.fn.kp T.fh.bd .nil ay (aa (pv 0) (ae))) (sO (pv 5) (av aB hr (by rfl) T.ap.mg T.ap.fn.kp T.ap.bd .nil ay (aa (pv 0) (aa (aK (r:=cH K) aV (by rfl) T.cq PySem.boot_len (aa (pv 5) (ae))) (ae)))) set_list))))
   (ag (be (cQ PySem.F.plainAttrs_list PySem.F.slot_list_append PySem.F.type_list_append cm (pv 3) (aa (cQ (r:=rJoin K) PySem.F.plainAttrs_str PySem.F.slot_str_join PySem.F.type_str_join wG (aL) (aa (pv 5) (ae))) (ae))))
   (ao (a8 (aJ (eO) (av aB hr (by rfl) T.ap.mg T.ap.fn.kp T.ap.bd .nil ay (aa (pv 0) (aa (ar) (ae)))) (ar) (aG _)) (ao (be (cQ PySem.F.plainAttrs_list PySem.F.slot_list_append PySem.F.type_list_append cm (pv 3) (aa (aU (r:=dE K) aX (pv 3) (av aB hr (by rfl) T.ap.mg T.ap.fn.kp T.ap.bd .nil ay (aa (pv 0) (aa (aK (r:=cH K) aV (by rfl) T.cq PySem.boot_len (aa (pv 3) (ae))) (ae)))) (λ_ _=>rfl)) (ae))))) (aO)))))))
   (ao (aC (lM (r:=HI K) vX (pv 3) (qX) (l3 (pv 1))))))),?_⟩
  have h1:((" " : Str)).length=1:=rfl;refine ⟨_,rfl,d,3,n,rfl,hdk,by lia,by decide,by decide,λr H1 s1 dk1 r0 r1=>⟨_,_,rfl,rfl,1+r,rfl,by lia,by lia,λSH hSH=>?_⟩⟩;have HH:d≠SH:=dk1.ne hSH;refine gQ (λi acc σ H3=>(∃ u,σ=[u,some (.ref d)])/\af (wo d H1) H3/\Dk H3 d (n+1+81 * i)/\acc.length=i/\∀ x∈acc,∃ (s:Addr) (ws:List Str),x = .ref s/\s≠d/\s≠SH/\H3 s=some (.lst (ws.map V.str))/\zq ws) ab ⟨⟨_,rfl⟩,aZ.trans (af.new hSH),dk1.same (af.new hSH),rfl,λx hx=>by cases hx⟩ (λi acc σ H3 hi hD3 q=>?_) (λacc σ H3 hD3 q=>?_)
  ·obtain ⟨q0,s3,dk3,hal,hsh⟩:=q;apply fU q0;clear q0;intro u;refine dS ?_;refine ⟨_,rfl,(by show 3<=sizeLine;decide),λp hp=>⟨_,rfl,d,3,_,rfl,dk3.same (af.new hp),by lia,by decide,by decide,λr3 H4 s4 dk4 q0 q1=>?_⟩⟩;have hp4:H4 p=some (.lst [.int 3,.int 6,.int 12]):=cs s4 ab (dk3.ne hp);obtain ⟨v,hv,hv0,hv1⟩:=GW q0 q1;refine ⟨p,_,r3,_,rfl,rfl,.of hp4,hv,d,v,_,rfl,dk4,by lia,hv0,hv1,λx ws H5 s5 dk5 hln=>?_⟩;have hlo:=hln.ok (by lia);have JM:af (wo d H3) H5:=bI (bI (aZ.trans (af.new hp)) s4) s5;have L0:H5 SH=some (.lst acc):=cs JM hD3 HH;refine ⟨rfl,x," ",rfl,rfl,by rw [h1];decide,P2 (QZ hlo.2 2) (by decide),λl hl=>?_⟩;have sl:af H5 (upd H5 l (.lst ((Txt.split x " ").map V.str))):=af.new hl;have MR:l≠SH:=(aw L0 hl).symm;have hld:l≠d:=(dk5.ne hl).symm;refine ⟨acc,sl _ _ L0,small (by lia),_,ab,⟨_,rfl⟩,aF (by rw [aj HH.symm];exact hSH) (bI s3 (JM.trans sl)),((dk5.same sl).upd HH).mono (by lia),by rw [PX,hal];rfl,λy hy=>?_⟩;rcases Qc.mp hy with hy | hy
   ·obtain ⟨s,ws',rfl,g1,g2,g3,g4⟩:=hsh y hy;exact ⟨s,ws',rfl,g1,g2,by rw [au g2];exact sl _ _ (cs JM g3 g1.symm),g4⟩
   ·simp only [PZ] at hy;subst hy;refine ⟨l,ws,rfl,hld,MR,by rw [au MR,ab,hln.split],hln.pos,P2 hln.le (by lia),hln.wd⟩
  ·obtain ⟨_,s3,dk3,hal,hsh⟩:=q;have Hf:af (wo d H) (wo d H3):=bN a7 (bI s1 s3);have Ks:(wo d H3) SH=some (.lst acc):=by rw [aj HH.symm];exact hD3
   have LA:GR (wo d H3) acc:=λx hx=>by
    obtain ⟨s,ws,rfl,g1,g2,g3,g4⟩:=hsh x hx;exact ⟨s,ws,rfl,by rw [aj g1];exact g3,g4⟩
   have hds:(wo d H3) d=none:=a7;have J1:af (wo d H3) H3:=aZ;refine ⟨Qb _,λF hF=>?_⟩;have hdF:d≠F:=dk3.ne hF;have hFs:(wo d H3) F=none:=J1.free hF;have hFH:H F=none:=by
    have:=Hf.free hFs
    rwa [aj hdF.symm] at this
   generalize wo d H3=Hs at Hf Ks LA hds J1 hFs;have sF:af H3 (upd H3 F (.lst [])):=af.new hF;refine ⟨_,rfl,_,rfl,_,_,rfl,rfl,d,_,_,rfl,dk3.same sF,by lia,by lia,by lia,λr2 H4 s4 dk4 q0 q1=>⟨r2,rfl,by lia,by lia,?_⟩⟩;have OY:1<=acc.length:=by lia
   refine me (λi σ H5=>(∃ u4 u5 u6,σ=[some (.ref d),some (.int m),some (.ref SH),some (.ref F),u4,u5,u6])/\af Hs H5/\Dk H5 d (n+400+20 * i)/\∃ ls:List Str,H5 F=some (.lst (ls.map V.str))/\ls.length<=2 * i/\∀ x∈ls,∃ ws,nE 12 x ws)
    ⟨⟨_,_,_,rfl⟩,λb o e=>s4 b o (by rw [aj (aw e hds)];exact sF b o (J1 b o e)),dk4.mono (by lia),[],cs s4 ab hdF,PR _,λx hx=>by cases hx⟩ (λi σ H5 hi q=>?_) (λσ H5 q=>?_)
   ·obtain ⟨q0,s5,dk5,ls,hF5,hll,Jq⟩:=q;apply GD q0;clear q0;intro u4 u5 u6;have vA:∀ {Ha Hb:Hp},af Hs Ha->af (wo d Ha) Hb->af Hs Hb:=λsa sb b o e=>sb b o (by rw [aj (aw e hds)];exact sa b o e);refine ⟨_,rfl,_,rfl,_,rfl,SH,_,rfl,.inl (.of (s5 _ _ Ks)),d,_,_,rfl,dk5,by lia,by lia,by lia,λrk H6 s6 dk6 k0 k1=>?_⟩;have s6':=vA s5 s6;have hF6:=cs s6 hF5 hdF;obtain ⟨jj,rfl⟩:=Rf (k0:(0:Int)<=rk);have hjj:jj<acc.length:=by lia
    have hxj:acc[jj]? = some acc[jj]:=PV hjj;obtain ⟨sA,ws,ex,hsA,hws⟩:=LA acc[jj] (PU hxj);refine ⟨SH,acc,_,_,rfl,rfl,.of (s6' _ _ Ks),cL hxj,sA,_,by rw [ex],.inl (.of (s6' _ _ hsA)),λW hW=>?_⟩;have sW:af H6 (upd H6 W (.lst (ws.map V.str))):=af.new hW;have hdW:d≠W:=dk6.ne hW;have hFW:F≠W:=aw hF6 hW;have hWs:Hs W=none:=s6'.free hW;refine ⟨_,rfl,d,3,_,rfl,dk6.same sW,by lia,by decide,by decide,λr3 H8 s8 dk8 g0 g1=>⟨r3,rfl,by lia,by lia,?_⟩⟩;refine me (λj σ H9=>(∃ u4 u6,σ=[some (.ref d),some (.int m),some (.ref SH),some (.ref F),u4,some (.ref W),u6])/\af Hs H9/\Dk H9 d (n+400+20 * i+2+7 * j)/\H9 F=some (.lst (ls.map V.str))/\∃ l:List Str,H9 W=some (.lst (l.map V.str))/\zq l)
     ⟨⟨_,_,rfl⟩,vA (s6'.trans sW) s8,dk8.mono (by lia),cs s8 (sW _ _ hF6) hdF,ws,cs s8 ab hdW,hws⟩ (λj σ H9 hj q=>?_) (λσ H9 q=>?_)
    ·obtain ⟨q0,s9,dk9,hF9,l,hW9,hl9⟩:=q;apply n6 q0;clear q0;intro u4 u6;have hlp:=hl9.pos;have hlq:=hl9.le;refine ⟨_,rfl,d,_,rfl,dk9,by lia,λx H10 s10 yV hx=>?_⟩;have Lr:=cs s10 hW9 hdW;refine ⟨_,rfl,_,rfl,_,rfl,W,_,rfl,.inl (.of Lr),d,_,_,rfl,yV,by lia,by rw [PQ];lia,by rw [PQ];lia,λrj H11 s11 G6 j0 j1=>?_⟩;have Nh:=cs s11 Lr hdW;exact ⟨W,_,rj,_,rfl,rfl,Nh,KN j0 j1,⟨_,_,rfl⟩,aF hWs (vA (vA s9 s10) s11),(G6.upd hdW).mono (by lia),by rw [au hFW];exact cs s11 (cs s10 hF9 hdF) hdF,l.set rj.toNat x,by rw [ab,Si],hl9.set hx⟩
    ·obtain ⟨q0,s9,dk9,hF9,l,hW9,hl9⟩:=q;apply n6 q0;clear q0;intro u4 u6;have hlp:=hl9.pos;have hlq:=hl9.le;refine ⟨_,rfl,.inl ⟨rfl,_,.of hF9⟩,rfl,_,rfl," ",W,l,rfl,rfl,.of hW9,pR (λy hy=>(hl9.wd y hy).len) (by rw [h1];lia),F,_,_,rfl,rfl,hF9,small (by rw [PQ];lia),?_⟩;have Oe:(upd H9 F (.lst (ls.map V.str++[.str (Txt.join " " l)]))) F=some (.lst ((ls++[Txt.join " " l]).map V.str)):=by rw [ab];simp
     have D6:∀ x∈ls++[Txt.join " " l],∃ ws,nE 12 x ws:=λx hx=>by
      rcases Qc.mp hx with hx | hx
      ·exact Jq x hx
      ·simp only [PZ] at hx;subst hx;exact ⟨l,hl9.line⟩
     refine ⟨_,rfl,d,6,_,rfl,dk9.upd hdF,by lia,by decide,by decide,λr5 H13 s13 AX t0 t1=>⟨rfl,_,rfl,?_⟩⟩;have HC:=cs s13 Oe hdF;have CP:=vA (aF (D:=F) (o:=.lst (ls.map V.str++[.str (Txt.join " " l)])) hFs s9) s13;have Kd:(ls++[Txt.join " " l]).length=ls.length+1:=by simp
     refine mL (λ_=>?_) (λ_=>?_)
     ·refine ⟨_,rfl,.inl ⟨rfl,_,.of HC⟩,_,rfl,_,rfl,_,rfl,F,_,rfl,.inl (.of HC),d,_,_,rfl,AX,by lia,by rw [PQ];lia,by rw [PQ];lia,λrq H14 s14 JQ z0 z1=>?_⟩;rw [PQ] at z1;obtain ⟨x,hx,hat⟩:=nX z0 z1;have LZ:=cs s14 HC hdF;refine ⟨F,_,_,_,rfl,rfl,.of LZ,hat,F,_,_,rfl,rfl,LZ,small (by rw [PQ];lia),⟨_,_,_,rfl⟩,aF hFs (vA CP s14),(JQ.upd hdF).mono (by lia),(ls++[Txt.join " " l])++[x],by rw [ab];simp,by rw [PX,Kd];simp;lia,λy hy=>?_⟩;rcases Qc.mp hy with hy | hy
      ·exact D6 y hy
      ·simp only [PZ] at hy;subst hy;exact D6 y hx
     ·exact ⟨⟨_,_,_,rfl⟩,CP,AX.mono (by lia),ls++[Txt.join " " l],HC,by lia,D6⟩
   ·obtain ⟨q0,s5,dk5,ls,hF5,hll,Jq⟩:=q;apply GD q0;clear q0;intro u4 u5 u6;refine ⟨_,rfl,_,rfl,m,rfl,F,_,rfl,.of hF5,λD hD=>?_⟩;rw [Eu hm0,<-List.map_take];have hdD:d≠D:=dk5.ne hD;have hDH:H D=none:=by
     have:=(Hf.trans s5).free hD
     rwa [aj hdD.symm] at this
    exact k D (ls.take m.toNat) _ hDH ((Hf.trans s5).trans (af.new hD)) ((dk5.same (af.new hD)).mono (by lia)) ab (λx hx=>Jq x (Q4 hx)) (by rw [Qg];lia)
theorem cR:aE ["deck","line","found","word","kind","way"] ["deck","line"] (ak (top 65)):=⟨rfl,rfl,rfl,by decide +kernel,rfl,by decide +kernel,by decide +kernel⟩
theorem qM (T:Tx K mg A):ax P w K mg base CX0 2 A.gZ A.g8 ["deck","line"] (j8 K):=by
 have yf:ax P w K mg base CX0 1 A.kU A.lI ["word"] (o5 K):=(wj T).mono (by decide);have aB:ax P w K mg base CX0 1 A.cg A.cf ["deck","many"] (bY K):=(cA T).mono (by decide);refine T.gp.fn.ok cR (λvs H Q E h=>?_) (λcdv Ar outer s H vs Q E hr h=>?_)
 ·obtain ⟨d,z,n,rfl,_⟩:=h;rfl
 ·obtain ⟨d,z,n,rfl,hdk,hn,hzl,hzs,k⟩:=h;refine ⟨_,ag (aY (i:=2) cR.nd rfl (Or.inl rfl) (bu (ae)))
   (ag (fZ PassesOwn.never rfl (bh (cQ PySem.F.plainAttrs_str PySem.F.slot_str_split PySem.F.type_str_split tq (pv 1) (aa (aL) (ae)))) (aI (i:=3) cR.nd rfl (Or.inl rfl)) (ag (aY (i:=4) cR.nd rfl (Or.inl rfl) (av yf hr (by rfl) T.mq.mg T.mq.fn.kp T.mq.bd .nil ay (aa (pv 3) (ae))))
   (ag (aY (i:=5) cR.nd rfl (Or.inl rfl) (av aB hr (by rfl) T.ap.mg T.ap.fn.kp T.ap.bd .nil ay (aa (pv 0) (aa (ar) (ae)))))
   (ao (a8 (aJ (tH) (pv 5) (ar) (aG _)) (ao (be (cQ PySem.F.plainAttrs_list PySem.F.slot_list_append PySem.F.type_list_append cm (pv 2) (aa (bT (aa (aL) (aa (pv 3) (ae)))) (ae))))) (ao (a8 ((pw_and (aJ (tH) (pv 5) (ar) (aG _)) (pw_and1 (aJ (qC) (pv 4) (aL) (aG _)))).pt) (ao (be (cQ PySem.F.plainAttrs_list PySem.F.slot_list_append PySem.F.type_list_append cm (pv 2) (aa (bT (aa (aL) (aa (pv 4) (ae)))) (ae))))) (ao (be (cQ PySem.F.plainAttrs_list PySem.F.slot_list_append PySem.F.type_list_append cm (pv 2) (aa (bT (aa (aL) (aa (aL) (ae)))) (ae))))))))))))
   (ao (aC (pv 2)))),?_⟩
  have h1:((" " : Str)).length≠0:=by decide +kernel
  obtain ⟨ys0,hd0⟩:=hdk.lst;refine ⟨Qb _,λF hF=>?_⟩;have hdF:d≠F:=hdk.ne hF;refine ⟨_,rfl,rfl,z," ",rfl,rfl,h1,P2 (QZ hzl 2) (by decide),λL hL=>⟨L,rfl,⟨_,.of ab⟩,?_⟩⟩;have hLF:F≠L:=aw (ab (H:=H)) hL;have sF:af H (upd H F (.lst [])):=af.new hF;have sL:af (upd H F (.lst [])) (upd (upd H F (.lst [])) L (.lst ((Txt.split z " ").map V.str))):=af.new hL;have hdL:d≠L:=(hdk.same sF).ne hL;have hsp:=tF (z:=z) (y:= " ") hzs;have hsl:=(rS (z:=z) (y:= " ")).2;refine jr (K:=K) (xs:=(Txt.split z " ").map V.str) (m3 K H d z F L n) ⟨⟨_,_,_,rfl⟩,aZ.trans (sF.trans sL),hdk.same (sF.trans sL),ab,[],[],sL _ _ ab,rfl,(λp hp=>by cases hp),(λj w p _ hp=>by simp at hp),.nil⟩ (λi σ H3 _ q=>.of q.2.2.2.1) (λi x σ H3 hx q=>?_) (λσ H3 q=>?_)
  ·obtain ⟨q0,s3,dk3,hL3,acc,ps,hF3,hps,hok,hdr,dn⟩:=q;apply GD q0;clear q0;intro u1 u2 u3;obtain ⟨wd,e,rfl⟩:=fG hx;have hil:i<(Txt.split z " ").length:=aW e;have hw:=hsp wd (PU e);have hwt:TOk wd:=⟨P2 hw.2 (P2 hzl (by decide)),hw.1⟩;refine ⟨_,rfl,wd,rfl,hwt,λH4 s4=>?_⟩;refine ⟨_,rfl,d,6,n+i,rfl,dk3.same s4,by lia,by decide,by decide,λway H5 s5 dk5 _ _=>?_⟩;have hL5:H5 L=some (.lst ((Txt.split z " ").map V.str)):=cs s5 (s4 _ _ hL3) hdL;have hF5:H5 F=some (.lst acc):=cs s5 (s4 _ _ hF3) hdF;have dn5:aA K (lim (upd H F (.lst [])) H5) acc (ps.map Pt.dat):=(dn.same (dw s4)).same (yx (sF _ _ hd0) s5);have hs5:af (wo d H) H5:=bI (s3.trans s4) s5;have hal:acc.length=i:=by rw [dn.length,PQ,hps]
   have hk3:=A8 wd.cps.toList;refine ⟨_,rfl,_,_,rfl,rfl,_,rfl,?_⟩;refine mL (λ_=>?_) (λ_=>?_)
   ·refine ⟨_,rfl,.inl ⟨rfl,_,.of hF5⟩,_,rfl,(by show 2<=sizeLine;decide),λt ht=>⟨F,acc,_,rfl,rfl,af.new ht _ _ hF5,small (by lia),?_⟩⟩;exact m3.step (pt:=.word wd) hdF hLF hF ⟨_,_,_,rfl⟩ hs5 dk5 hL5 hF5 hps hok hdr dn5 e (.inl rfl) rfl hwt (by decide +kernel) hw.1 ht
   ·have La:∀ (t:Addr) (ht:H5 t=none) (σ:St),(∃ u1 u2 u3,σ=[some (.ref d),some (.str z),some (.ref F),u1,u2,u3])->m3 K H d z F L n (i+1) σ (upd (upd H5 t (.tup [.str "hole",.str "any"])) F (.lst (acc++[.ref t]))):=λt ht σ hσ=>
     m3.step (pt:=.hole 2) hdF hLF hF hσ hs5 dk5 hL5 hF5 hps hok hdr dn5 e (.inr (.inr rfl)) rfl (by decide:2<3) (by decide +kernel) (by decide +kernel) ht
    refine ⟨_,rfl,_,_,rfl,rfl,_,rfl,?_⟩;refine mL (λ_=>?_) (λ_=>?_)
    ·refine ⟨_,rfl,rfl,_,rfl,?_⟩;rw [DB hk3];by_cases h2:d6 wd.cps.toList=2
     ·rw [decide_eq_true h2];refine bf ?_;exact ⟨_,rfl,.inl ⟨rfl,_,.of hF5⟩,(by show 2<=sizeLine;decide),λt ht=>⟨F,acc,_,rfl,rfl,af.new ht _ _ hF5,small (by lia),La t ht _ ⟨_,_,_,rfl⟩⟩⟩
     ·rw [decide_eq_false h2];refine ck ?_;refine ⟨_,rfl,.inl ⟨rfl,_,.of hF5⟩,_,rfl,(by show 2<=sizeLine;decide),λt ht=>⟨F,acc,_,rfl,rfl,af.new ht _ _ hF5,small (by lia),?_⟩⟩;have hk2:d6 wd.cps.toList<2:=by lia
      rw [G8 hk2];exact m3.step (pt:=.hole (d6 wd.cps.toList)) hdF hLF hF ⟨_,_,_,rfl⟩ hs5 dk5 hL5 hF5 hps hok hdr dn5 e (.inr (.inl ⟨rfl,hk2⟩)) rfl hk3 (by decide +kernel) sR ht
    ·refine bf ?_;exact ⟨_,rfl,.inl ⟨rfl,_,.of hF5⟩,(by show 2<=sizeLine;decide),λt ht=>⟨F,acc,_,rfl,rfl,af.new ht _ _ hF5,small (by lia),La t ht _ ⟨_,_,_,rfl⟩⟩⟩
  ·obtain ⟨q0,s3,dk3,hL3,acc,ps,hF3,hps,hok,hdr,dn⟩:=q;apply GD q0;clear q0;intro u1 u2 u3;rw [PQ] at hps dk3;refine ⟨_,rfl,k F H3 ps hF s3 (dk3.mono (by lia)) ⟨by lia,hok⟩ ⟨hps,hdr⟩ ⟨acc,hF3⟩ ?_⟩;exact .lst (.of ((iu hF).trans hF3)) (dn.same (e7 sF.ll))
end
end K35
namespace LG
open PySem L2
theorem dN {P d:Addr}{pos:Pos}{qual:Str}{H H':Hp}{ys:List V} (h:fO P pos qual H) (hd:H d=some (.lst ys)) (s:af (wo d H) H'):fO P pos qual H':=by
 obtain ⟨ps,h1,h2,h3⟩:=h;have a:P≠d:=λe=>by rw [e,hd] at h1;cases h1
 refine ⟨ps,s _ _ (by rw [aj a];exact h1),h2,h3.imp id λ⟨c,x,y⟩=>⟨c,x,?_⟩⟩;have b:c≠d:=λe=>by rw [e,hd] at y;cases y
 exact s _ _ (by rw [aj b];exact y)
structure MdI (K:Vz) (pos:Pos) (qual:Str) (CL CS P:Addr) (H0:Hp) (d g pa LF:Addr) (n:Nat) (lv:List V) (Bi:Hp) (tb:Addr) (v:eE) (H:Hp):Prop where
 sB:af (wo d (wo P H0)) H
 la:fO P pos qual H
 dk:Dk H d n
 lg:bG K CL CS Bi H g pa tb v
 mu:∀ c o,H0 c=some o->nC o->Bi c=none
 bl:Bi LF=none
 nt:LF≠tb
 t0:H0 tb=none
 lf:H LF=some (.lst lv)
 d0:∃ ys,H0 d=some (.lst ys)
 P0:∃ q,H0 P=some (.tbl q)
 g0:H0 g=none
 p0:H0 pa=none
 l0:H0 LF=none
 ng:LF≠g
 np:LF≠pa
section
variable {K:Vz}{pos:Pos}{qual:Str}{CL CS P:Addr}{H0 Bi B' H H':Hp}{d g pa LF tb tb':Addr}{n m:Nat}{lv lv':List V}{v v':eE}
theorem MdI.dd (h:MdI K pos qual CL CS P H0 d g pa LF n lv Bi tb v H):d≠g/\d≠pa/\d≠tb/\d≠LF/\d≠P/\Bi d=none/\Bi P=none:=by
 obtain ⟨ys,hd⟩:=h.d0;obtain ⟨q,hP⟩:=h.P0;exact ⟨(λe=>by rw [e,h.g0] at hd;cases hd),(λe=>by rw [e,h.p0] at hd;cases hd),(λe=>by rw [e,h.t0] at hd;cases hd),(λe=>by rw [e,h.l0] at hd;cases hd),(λe=>by rw [e,hP] at hd;cases hd),h.mu _ _ hd (.inl ⟨_,rfl⟩),h.mu _ _ hP (.inr (.inr ⟨_,rfl⟩))⟩
theorem MdI.nP (h:MdI K pos qual CL CS P H0 d g pa LF n lv Bi tb v H):g≠P/\pa≠P/\tb≠P/\LF≠P:=by
 obtain ⟨q,hP⟩:=h.P0;exact ⟨(λe=>by rw [<-e,h.g0] at hP;cases hP),(λe=>by rw [<-e,h.p0] at hP;cases hP),(λe=>by rw [<-e,h.t0] at hP;cases hP),λe=>by rw [<-e,h.l0] at hP;cases hP⟩
theorem MdI.old (h:MdI K pos qual CL CS P H0 d g pa LF n lv Bi tb v H) {c:Addr}{o:HO} (e:H0 c=some o):∃ o',H c=some o'/\(nC o->nC o'):=by
 by_cases h1:c=d
 ·obtain ⟨ys,hy⟩:=h.dk.lst;exact ⟨_,by rw [h1];exact hy,λ_=>.inl ⟨_,rfl⟩⟩
 by_cases h2:c=P
 ·obtain ⟨q,hq⟩:=aP h.la;exact ⟨_,by rw [h2];exact hq,λ_=>.inr (.inr ⟨_,rfl⟩)⟩
 exact ⟨o,h.sB _ _ (by rw [aj h1,aj h2];exact e),id⟩
theorem MdI.free (h:MdI K pos qual CL CS P H0 d g pa LF n lv Bi tb v H) {c:Addr} (e:H c=none):H0 c=none:=by
 cases e2:H0 c with
 | none=>rfl
 | some o=>
  obtain ⟨o',h1,_⟩:=h.old e2;rw [e] at h1;cases h1
theorem MdI.same (h:MdI K pos qual CL CS P H0 d g pa LF n lv Bi tb v H) (s:af H H'):MdI K pos qual CL CS P H0 d g pa LF n lv Bi tb v H':=
 { h with sB:=h.sB.trans s,la:=aN h.la s,dk:=h.dk.same s,lg:=h.lg.same s,lf:=s _ _ h.lf }
theorem MdI.pick (h:MdI K pos qual CL CS P H0 d g pa LF n lv Bi tb v H) (s:af (wo d H) H') (dk:Dk H' d m):MdI K pos qual CL CS P H0 d g pa LF m lv Bi tb v H':=by
 obtain ⟨h1,h2,h3,h4,h5,h6,h7⟩:=h.dd;obtain ⟨ys,hy⟩:=h.dk.lst;refine { h with sB:=λc o e=>?_,la:=dN h.la hy s,dk:=dk,lg:=h.lg.wo h6 h1 h2 h3 s,lf:=s _ _ (by rw [aj h4.symm];exact h.lf) };have:=aD e;exact s _ _ (by rw [aj this.1];exact h.sB _ _ e)
theorem MdI.pop (h:MdI K pos qual CL CS P H0 d g pa LF n lv Bi tb v H):MdI K pos qual CL CS P H0 d g pa LF n lv' Bi tb v (upd H LF (.lst lv')):=by
 obtain ⟨h1,h2,h3,h4,h5,h6,h7⟩:=h.dd;obtain ⟨_,_,_,_,_,_,hg,hpa,htb,sBi,_⟩:=id h.lg;refine { h with sB:=λc o e=>?_,la:=fC h.la h.lf,dk:=?_,lg:=h.lg.to (aF h.bl sBi) (au h.ng.symm) (au h.np.symm) (au h.nt.symm),lf:=ab }
 ·rw [au (λz=>by
   obtain ⟨_,e⟩:=aD e;obtain ⟨_,e⟩:=aD e;rw [z,h.l0] at e;cases e)]
  exact h.sB _ _ e
 ·obtain ⟨a,b,c,e,r⟩:=h.dk;exact ⟨a,b,c,by rw [au h4];exact e,r⟩
theorem MdI.Dm (h:MdI K pos qual CL CS P H0 d g pa LF n lv Bi tb v H) (s:af (wo g (wo pa (wo P H))) H') (la:fO P pos qual H') (ht:H tb' = none) (hm:∀ c o,Bi c=none->H c=some o->nC o->B' c=none) (lg:bG K CL CS B' H' g pa tb' v'):MdI K pos qual CL CS P H0 d g pa LF n lv B' tb' v' H':=by
 obtain ⟨h1,h2,h3,h4,h5,h6,h7⟩:=h.dd;obtain ⟨n1,n2,n3,n4⟩:=h.nP;refine { h with sB:=λc o e=>?_,la:=la,dk:=?_,lg:=lg,mu:=λc o e m=>?_,bl:=hm _ _ h.bl h.lf (.inl ⟨_,rfl⟩),nt:=(λe=>by rw [<-e,h.lf] at ht;cases ht),t0:=h.free ht,lf:=s _ _ (by rw [aj h.ng,aj h.np,aj n4];exact h.lf) }
 ·have e1:=h.sB _ _ e;obtain ⟨a1,e⟩:=aD e;obtain ⟨a2,e⟩:=aD e;exact s _ _ (by rw [aj (λz=>by rw [z,h.g0] at e;cases e),aj (λz=>by rw [z,h.p0] at e;cases e),aj a2];exact e1)
 ·obtain ⟨a,b,c,e,r⟩:=h.dk;exact ⟨a,b,c,s _ _ (by rw [aj h1,aj h2,aj h5];exact e),r⟩
 ·obtain ⟨o',e1,m'⟩:=h.old e;exact hm c o' (h.mu c o e m) e1 (m' m)
theorem MdI.back (h:MdI K pos qual CL CS P H0 d g pa LF n lv Bi tb v H) (s:af (wo g (wo pa (wo tb (wo P H)))) H') (la:fO P pos qual H') (hm:∀ c o,Bi c=none->H c=some o->nC o->B' c=none) (lg:bG K CL CS B' H' g pa tb v'):MdI K pos qual CL CS P H0 d g pa LF n lv B' tb v' H':=by
 obtain ⟨h1,h2,h3,h4,h5,h6,h7⟩:=h.dd;obtain ⟨n1,n2,n3,n4⟩:=h.nP;refine { h with sB:=λc o e=>?_,la:=la,dk:=?_,lg:=lg,mu:=λc o e m=>?_,bl:=hm _ _ h.bl h.lf (.inl ⟨_,rfl⟩),lf:=s _ _ (by rw [aj h.ng,aj h.np,aj h.nt,aj n4];exact h.lf) }
 ·have e1:=h.sB _ _ e;obtain ⟨a1,e⟩:=aD e;obtain ⟨a2,e⟩:=aD e;exact s _ _ (by rw [aj (λz=>by rw [z,h.g0] at e;cases e),aj (λz=>by rw [z,h.p0] at e;cases e),aj (λz=>by rw [z,h.t0] at e;cases e),aj a2];exact e1)
 ·obtain ⟨a,b,c,e,r⟩:=h.dk;exact ⟨a,b,c,s _ _ (by rw [aj h1,aj h2,aj h3,aj h5];exact e),r⟩
 ·obtain ⟨o',e1,m'⟩:=h.old e;exact hm c o' (h.mu c o e m) e1 (m' m)
end
end LG
namespace K35
open PySem L2 LG
section
variable {P:Program}{w:World}{K:Vz}{mg:Str->Option Vy}{base:Heap}{A:Ad}
theorem Fc {c:TT}{tb:TS}{D:Ends}{σ:St}{H:Hp} (Pre:St->Hp->Prop) (W:Nat->St->Hp->Prop) (m:Nat) (h0:W m σ H) (f:(∀ σ H,Pre σ H->D.nx σ H)->∀ m σ H,W m σ H->c σ H λb H1=>if b=true then ∃ N:St->Hp->Prop,(∀ σ' H',N σ' H'->∃ m',m' < m/\W m' σ' H')/\tb { D with nx:=N,ct:=N,bk:=D.nx } σ H1 else D.nx σ H1) (rest:∀ σ H,Pre σ H->D.nx σ H):DF c tb D σ H:=⟨W,⟨m,h0⟩,f rest⟩
abbrev Mi (K:Vz) (A:Ad):=MdI K ⟨122,27,122,69⟩ MK A.aH A.aR A.aq
structure Mp (K:Vz) (B0:Hp) (lv:List V) (lf pt bs:List (List Pt)) (s l:Int) (v:eE) (rs:List (Int×Str)) (i:Nat):Prop where
 dn:aA K B0 lv (lf.map bj)
 pm:(pt++lf).Perm bs
 vs:v.s=s
 vl:v.l=l
 rs:v.cur.rs=rs.take i
 bs:v.cur.bs.Perm pt
 ko:mD v.cur.bs
 pl:v.past.length<=i+pt.length
def nW (K:Vz) (A:Ad):Sp:=λvs H Q _=>∃ (d SV L HD:Addr) (n:Nat) (s l:Int) (lv hv:List V) (rs:List (Int×Str)) (bs:List (List Pt)),vs=[.ref d,.ref SV,.ref L,.ref HD]/\Dk H d n/\n<500000/\SqT K (wo d H) SV [.int s,.int l]/\SqL K (wo d H) L lv/\aA K (wo d H) lv (rs.map eL)/\SqL K (wo d H) HD hv/\aA K (wo d H) hv (bs.map bj)/\rs.length<=20/\(∀ q∈rs,∃ ws,fX 12 q.2 ws)/\rs.Pairwise (λa b=>a.1<=b.1)/\bs.Nodup/\bs.length<=4/\ou bs/\bz A.aq H /\
 ∀ (H' B':Hp) (g pa tb:Addr) (v:eE),H g=none->H pa=none->H tb=none->af (wo d (wo A.aq H)) H'->bz A.aq H'->Dk H' d (n+100)->(∀ c o,H c=some o->nC o->B' c=none)->v.s=s->v.l=l->v.cur.rs=rs->v.cur.bs.Perm bs->mD v.cur.bs->v.past.length<=100->bG K A.aH A.aR B' H' g pa tb v->Q (.ref g) H'
theorem Gi:fX 12 "never there" ["never","there"]:=by
 refine ⟨by decide +kernel,by decide,by decide,λw hw=>?_⟩;have:∀ w∈(["never","there"]:List Str),cS w=true/\w.length<=6/\PyData.strOk w=true:=by decide +kernel
 exact ⟨(this w hw).1,(this w hw).2.1,(this w hw).2.2⟩
theorem yR (ds:List PyData):PyData.eqv (.list ds) (.list [])=ds.isEmpty:=by
 cases ds <;> rfl
theorem nq {H:Hp}:∀ {xs:List V}{ds:List PyData} (j:Nat),aA K H xs ds->aA K H (xs.eraseIdx j) (ds.eraseIdx j)
 | _,_,_,.nil=>by simpa using aA.nil
 | _,_,0,.cons _ t=>by simpa using t
 | _,_,j+1,.cons r t=>by simpa using aA.cons r (nq j t)
theorem pY {α β:Type} (f:α->β):∀ (l:List α) (j:Nat),(l.eraseIdx j).map f=(l.map f).eraseIdx j
 | [],_=>by simp
 | _::_,0=>by simp
 | _::l,j+1=>by simp [pY f l j]
theorem zp {α:Type}{x:α}:∀ {l:List α}{j:Nat},l[j]? = some x->(x::l.eraseIdx j).Perm l
 | [],_,h=>by cases h
 | a::l,0,h=>by cases h;simp
 | a::l,j+1,h=>by
  have:=zp (l:=l) (j:=j) (by simpa using h);simpa using (List.Perm.swap a x _).trans (this.cons a)
theorem GN {rs:List (Int×Str)}{i:Nat}{r q:Int×Str} (h:rs.Pairwise (λa b=>a.1<=b.1)) (hr:rs[i]? = some r) (hq:q∈rs.take i):q.1<=r.1:=by
 rw [<-Rk i rs,Rm] at h;refine h.2.2 q hq r (PU (i:=0) ?_);rw [RU,Nat.add_zero];exact hr
theorem eX:aE ["deck","sieve","lines","hand","log","left","number","pattern"] ["deck","sieve","lines","hand"] (ak (top 67)):=⟨rfl,rfl,rfl,by decide +kernel,rfl,by decide +kernel,by decide +kernel⟩
theorem xv (T:Tx K mg A):ax P w K mg base CX0 26 A.lm A.ku ["deck","sieve","lines","hand"] (nW K A):=by
 have lO:ax P w K mg base CX0 24 A.gL A.ib ["self","sieve"] (lj K A):=(qh T).mono (by decide);have vE:ax P w K mg base CX0 25 A.mj A.pF ["self","pattern"] (tX K A):=(A6 T).mono (by decide);have js:ax P w K mg base CX0 25 A.ik A.jH ["self","moment","line"] (kR K A):=(qo T).mono (by decide);have aB:ax P w K mg base CX0 25 A.cg A.cf ["deck","many"] (bY K):=(cA T).mono (by decide);have mT:ax P w K mg base CX0 25 A.ia A.jM ["self"] (lQ K A):=(qv T).mono (by decide);refine T.cW.fn.ok eX (λvs H Q E h=>?_) (λcdv Ar outer s H vs Q E hr h=>?_)
 ·obtain ⟨d,SV,L,HD,n,s0,l0,lv,hv,rs,bs,rfl,_⟩:=h;rfl
 ·obtain ⟨d,SV,L,HD,n,s0,l0,lv,hv,rs,bs,rfl,hdk,hn,hqs,hql,hdl,hqh,hdh,hrl,hlo,hmo,hnd,hbl,hbo,hla,k⟩:=h;obtain ⟨tab,dJ⟩:=aP hla;obtain ⟨yd,hdd⟩:=hdk.lst;have hPd:A.aq≠d:=λe=>by rw [e,hdd] at dJ;cases dJ
  have El:lv.length=rs.length:=by rw [hdl.length,PQ]
  have OK:hv.length=bs.length:=by rw [hdh.length,PQ]
  have sW:af (wo d (wo A.aq H)) (wo d H):=λc o e=>by
   obtain ⟨h1,e⟩:=aD e;obtain ⟨h2,e⟩:=aD e;rw [aj h1];exact e
  have BP:(wo d H) A.aq=some (.tbl tab):=by rw [aj hPd];exact dJ
  have eW:wo A.aq (wo d H)=wo d (wo A.aq H):=by
   funext c
   by_cases h1:c=d
   ·by_cases h2:c=A.aq
    ·exact (hPd (h2.symm.trans h1)).elim
    ·rw [aj h2,h1,a7,a7]
   ·by_cases h2:c=A.aq
    ·rw [h2,a7,aj hPd,a7]
    ·rw [aj h2,aj h1,aj h1,aj h2]
  refine ⟨_,ag (aY (i:=4) eX.nd rfl (Or.inl rfl) (xa T.ED lO hr (by rfl) T.Bv T.yv.bd .nil ay (aa (pv 1) (ae))))
   (ag (aY (i:=5) eX.nd rfl (Or.inl rfl) (i6 (r:=oZ K) jD (by rfl) T.pC lZ (aa (pv 3) (ae))))
   (ag (fZ PassesOwn.never rfl (dR (by rfl) T.gm (aa (bS fV (aK (r:=cH K) aV (by rfl) T.cq PySem.boot_len (aa (pv 2) (ae))) (ar)) (ae))) (aI (i:=6) eX.nd rfl (Or.inl rfl)) (ag (FU PassesOwn.never ((pw_and (aJ (r:=EF K) (wW hr) (pv 5) (bu (ae)) (aG _)) (pw_and1 (aJ (eO) (av aB hr (by rfl) T.ap.mg T.ap.fn.kp T.ap.bd .nil ay (aa (pv 0) (aa (ar) (ae)))) (ar) (aG _)))).pt) (ao (be (fF (pv 4) T.aM T.tu vE hr T.xu.bd .nil ay (aa (cQ PySem.F.plainAttrs_list PySem.F.slot_list_pop PySem.F.type_list_pop BN (pv 5) (aa (av aB hr (by rfl) T.ap.mg T.ap.fn.kp T.ap.bd .nil ay (aa (pv 0) (aa (aK (r:=cH K) aV (by rfl) T.cq PySem.boot_len (aa (pv 5) (ae))) (ae)))) (ae))) (ae))))))
   (ao (a8 (aJ (tH) (pv 6) (aK (r:=cH K) aV (by rfl) T.cq PySem.boot_len (aa (pv 2) (ae))) (aG _)) (ag (a8 (aJ (eO) (av aB hr (by rfl) T.ap.mg T.ap.fn.kp T.ap.bd .nil ay (aa (pv 0) (aa (ar) (ae)))) (ar) (aG _)) (ag (be (fF (pv 4) T.aM T.kK js hr T.nL.bd .nil ay (aa (aU (r:=eP K) bF (aU (r:=dE K) aX (pv 2) (pv 6) (λ_ _=>rfl)) (ar) (λ_ _=>rfl)) (aa (aL) (ae)))))
   (ao (be (je (pv 4) T.aM T.qG mT hr T.rH.bd .nil ay)))) (aO))
   (ao (be (fF (pv 4) T.aM T.kK js hr T.nL.bd .nil ay (aa (aU (r:=eP K) bF (aU (r:=dE K) aX (pv 2) (pv 6) (λ_ _=>rfl)) (ar) (λ_ _=>rfl)) (aa (aU (r:=eP K) bF (aU (r:=dE K) aX (pv 2) (pv 6) (λ_ _=>rfl)) (ar) (λ_ _=>rfl)) (ae))))))) (aO)))))
   (ag (fZ PassesOwn.never rfl (bh (pv 5)) (aI (i:=7) eX.nd rfl (Or.inl rfl)) (ao (be (fF (pv 4) T.aM T.tu vE hr T.xu.bd .nil ay (aa (pv 7) (ae))))))
   (ao (aC (pv 4)))))),?_⟩
  refine ⟨_,rfl,λg dx hg hdx hne=>?_⟩;obtain ⟨Hg,eq,sg,hgg⟩:=rF A.aH hg hdx hne;rw [eq];refine ⟨g,SV,dx,s0,l0,rfl,hgg,(sg.b8 (aZ.b8 hqs)),aN hla sg,λH1 B1 pa tb cur s1 la1 hpa htb mI e1 e2 gv=>⟨rfl,?_⟩⟩;have HJ:H pa=none:=sg.free hpa;have xY:H tb=none:=sg.free htb;have sB1:af (wo d (wo A.aq H)) H1:=λc o e=>by
   obtain ⟨h1,e⟩:=aD e;obtain ⟨h2,e⟩:=aD e;exact s1 _ _ (by rw [aj (λz=>by rw [z,hg] at e;cases e),aj h2];exact sg _ _ e)
  have dk1:Dk H1 d n:=by
   obtain ⟨a,b,c,e,r⟩:=hdk;exact ⟨a,b,c,s1 _ _ (by rw [aj (λz=>by rw [z,hg] at e;cases e),aj hPd.symm];exact sg _ _ e),r⟩
  have NS:SqL K (wo d (wo A.aq H)) HD hv:=by rw [<-eW];exact lV BP hqh
  have OH:SqL K (wo d (wo A.aq H)) L lv:=by rw [<-eW];exact lV BP hql
  have Oo:aA K (wo d (wo A.aq H)) hv (bs.map bj):=by rw [<-eW];exact jk BP hdh
  have NY:aA K (wo d (wo A.aq H)) lv (rs.map eL):=by rw [<-eW];exact jk BP hdl
  refine ⟨_,rfl,HD,hv,rfl,.inl (sB1.seq NS),λLF hLF=>?_⟩;obtain ⟨H2,eq,s2,hL2⟩:=dz (.lst hv) hLF;rw [eq];have hM0:Mi K A H d g pa LF n hv B1 tb ⟨s0,l0,cur,cur,[],[]⟩ H2:=by
   obtain ⟨_,_,_,_,_,_,hgx,N6,NA,sBx,_⟩:=id gv;have hl0:H LF=none:=by
    cases e:H LF with
    | none=>rfl
    | some o=>
     by_cases h1:LF=d
     ·obtain ⟨ys,hy⟩:=dk1.lst;rw [h1,hy] at hLF;cases hLF
     by_cases h2:LF=A.aq
     ·obtain ⟨q,hq⟩:=aP la1;rw [h2,hq] at hLF;cases hLF
     rw [sB1 LF o (by rw [aj h1,aj h2];exact e)] at hLF;cases hLF
   exact ⟨sB1.trans s2,aN la1 s2,dk1.same s2,gv.same s2,(λc o e m=>mI c o (sg _ _ e) m),sBx.free hLF,(λz=>by rw [z,NA] at hLF;cases hLF),xY,hL2,⟨_,hdd⟩,⟨_,dJ⟩,hg,HJ,hl0,(λz=>by rw [z,hgx] at hLF;cases hLF),(λz=>by rw [z,N6] at hLF;cases hLF)⟩
  have hP0:Mp K (wo d (wo A.aq H)) hv bs [] bs s0 l0 ⟨s0,l0,cur,cur,[],[]⟩ rs 0:=⟨Oo,List.Perm.refl _,rfl,rfl,by rw [List.take_zero];exact e1,by show cur.bs.Perm [];rw [e2],by show mD cur.bs;rw [e2];exact List.Pairwise.nil,Qb _⟩;have hB0:∀ {lv':List V}{Bi:Hp}{tb:Addr}{v:eE}{m:Nat}{H5:Hp},Mi K A H d g pa LF m lv' Bi tb v H5->SqL K H5 L lv:=λh=>h.sB.seq OH;clear hL2 s2 dk1 sB1 xY s1 la1 gv mI htb hpa sg hgg hdx hne hqh hql hdl hdh hqs hla;refine ⟨_,rfl,L,_,rfl,.inl (hB0 hM0),_,_,rfl,rfl,((lv.length:Int)+1),rfl,by lia,by lia,?_⟩;refine me (λi σ H5=>(∃ u6 u7,σ=[some (.ref d),some (.ref SV),some (.ref L),some (.ref HD),some (.ref g),some (.ref LF),u6,u7])/\∃ (pt lf:List (List Pt)) (lv':List V) (Bi:Hp) (tb:Addr) (v:eE),Mi K A H d g pa LF (n+2 * i+2 * pt.length) lv' Bi tb v H5/\Mp K (wo d (wo A.aq H)) lv' lf pt bs s0 l0 v rs i) ⟨⟨_,_,rfl⟩,[],bs,hv,B1,tb,_,hM0,hP0⟩ (λi σ H5 hi q=>?_) (λσ H5 q=>?_)
  ·obtain ⟨q0,pt,lf,lv',Bi,tb,v,hM,hP⟩:=q;apply n6 q0;clear q0;intro u6 u7;clear hM0 hP0;refine Fc (λσ H6=>(∃ u7,σ=[some (.ref d),some (.ref SV),some (.ref L),some (.ref HD),some (.ref g),some (.ref LF),some (.int (0+(i:Int))),u7])/\∃ (pt lf:List (List Pt)) (lv':List V) (Bi:Hp) (tb:Addr) (v:eE),Mi K A H d g pa LF (n+2 * i+2 * pt.length+1) lv' Bi tb v H6/\Mp K (wo d (wo A.aq H)) lv' lf pt bs s0 l0 v rs i)
    (λm σ H6=>(∃ u7,σ=[some (.ref d),some (.ref SV),some (.ref L),some (.ref HD),some (.ref g),some (.ref LF),some (.int (0+(i:Int))),u7])/\∃ (pt lf:List (List Pt)) (lv':List V) (Bi:Hp) (tb:Addr) (v:eE),lf.length=m/\Mi K A H d g pa LF (n+2 * i+2 * pt.length) lv' Bi tb v H6/\Mp K (wo d (wo A.aq H)) lv' lf pt bs s0 l0 v rs i)
    lf.length ⟨⟨_,rfl⟩,pt,lf,lv',Bi,tb,v,rfl,hM,hP⟩ (λrest m σ H6 w=>?_) (λσ H6 p=>?_)
   ·clear hM hP;obtain ⟨⟨u,rfl⟩,pt,lf,lv',Bi,tb,v,rfl,hM,hP⟩:=w;have hpl:=hP.pm.length_eq;rw [PX] at hpl;have hl':lv'.length=lf.length:=by rw [hP.dn.length,PQ]
    refine ⟨_,rfl,Qb _,λE hE=>?_⟩;have sE:af H6 (upd H6 E (.lst [])):=af.new hE;refine ⟨_,_,.lst (.of (sE _ _ hM.lf)) (hP.dn.same (hM.sB.trans sE)),.lst (.of ab) .nil,rn _,_,rfl,?_⟩;have hM:=hM.same sE;rw [yR,List.isEmpty_map];generalize upd H6 E (.lst [])=H7 at hM ⊢;clear sE hE;cases hlf:lf with
    | nil=>
     rw [hlf] at hP;exact bf (bf (rest _ _ ⟨⟨_,rfl⟩,pt,[],lv',Bi,tb,v,{ hM with dk:=hM.dk.mono (QO _) },hP⟩))
    | cons p0 lf0=>
     have JJ:0<lf.length:=by rw [hlf];simp
     have hem:lf.isEmpty=false:=by rw [hlf];rfl
     rw [<-hlf,hem];refine ck ⟨_,rfl,d,3,_,rfl,hM.dk,by lia,by decide,by decide,λr H8 s8 dk8 r0 r1=>⟨rfl,_,rfl,?_⟩⟩;have hM:=hM.pick s8 dk8;clear s8 dk8;refine mL (λ_=>?_) (λ_=>?_)
     ·refine ⟨λσ H6=>(∃ u7,σ=[some (.ref d),some (.ref SV),some (.ref L),some (.ref HD),some (.ref g),some (.ref LF),some (.int (0+(i:Int))),u7])/\∃ (pt lf':List (List Pt)) (lv':List V) (Bi:Hp) (tb:Addr) (v:eE),lf'.length=lf.length - 1/\Mi K A H d g pa LF (n+2 * i+2 * pt.length) lv' Bi tb v H6/\Mp K (wo d (wo A.aq H)) lv' lf' pt bs s0 l0 v rs i,λσ' H' h=>⟨lf.length - 1,by lia,h⟩,?_⟩;obtain ⟨dx1,t1,st1,ah1,hg8⟩:=hM.lg.gg;refine ⟨_,rfl,g,dx1,_,rfl,hg8,rfl,_,rfl,.inl ⟨rfl,_,.of hM.lf⟩,_,rfl,_,rfl,LF,_,rfl,.inl (.of hM.lf),d,(lv'.length:Int),_,rfl,hM.dk,by lia,by lia,by lia,λr H9 s9 dk9 r0 r1=>?_⟩;have hM:=hM.pick s9 dk9;clear s9 dk9 hg8;have hrl:r.toNat<lv'.length:=by lia
      have hy:lv'[r.toNat]? = some lv'[r.toNat]:=PV hrl;obtain ⟨ps,hps,dX⟩:=eR hP.dn hy;refine ⟨LF,r.toNat,_,lv',rfl,by rw [RP r0],hM.lf,hy,?_⟩;have hM:=hM.pop (lv':=lv'.eraseIdx r.toNat);generalize upd H9 LF (.lst (lv'.eraseIdx r.toNat))=H10 at hM ⊢;have hpm:ps∈lf:=PU hps;have hpb:ps∈bs:=hP.pm.mem_iff.mp (Qc.mpr (.inr hpm));have JU:=(hP.pm.nodup_iff).mpr hnd;have Hu:=hP.bs.length_eq;have kc:=hP.pl;refine ⟨Bi,g,pa,tb,v,_,ps,rfl,hM.lg,hM.dd.2.2.2.2.2.2,dX.same hM.sB,(hbo ps hpb).1,(hbo ps hpb).2.1,(hbo ps hpb).2.2,(λz=>(Q3.mp JU).2.2 ps (hP.bs.mem_iff.mp z) ps hpm rfl),by lia,by lia,hM.la,λH11 B11 Kc cur s11 Dy JY sBB mI e1 hp hk gv=>?_⟩;have hM:=hM.Dm s11 Dy JY mI gv;refine ⟨⟨_,rfl⟩,pt++[ps],lf.eraseIdx r.toNat,_,B11,Kc,_,?_,{ hM with dk:=hM.dk.mono (by rw [PX,P8];lia) },?_,?_,hP.vs,hP.vl,?_,?_,hk,?_⟩
      ·rw [List.length_eraseIdx];rw [if_pos (by lia)]
      ·rw [pY];exact nq _ hP.dn
      ·rw [Q7];exact ((zp hps).append_left pt).trans hP.pm
      ·exact e1.trans hP.rs
      ·exact hp.trans (hP.bs.append_right _)
      ·show (v.past++[_]).length<=_;rw [PX,PX,P8,P8];lia
     ·exact rest _ _ ⟨⟨_,rfl⟩,pt,lf,lv',Bi,tb,v,hM,hP⟩
   ·clear hM hP;obtain ⟨⟨u,rfl⟩,pt,lf,lv',Bi,tb,v,hM,hP⟩:=p;have hpl:=hP.pm.length_eq;rw [PX] at hpl;have kc:=hP.pl;have Hu:=hP.bs.length_eq;refine ⟨_,rfl,_,rfl,L,_,rfl,.inl (hB0 hM),_,_,rfl,rfl,_,rfl,?_⟩;by_cases hir:i<rs.length
    ·rw [decide_eq_true (show (0+(i:Int))<(lv.length:Int) by lia)];have hx:lv[i]? = some lv[i]:=PV (by lia);obtain ⟨q,ty,hq,ex,hqp,hok⟩:=gY NY hx;have hat:atI lv (0+(i:Int))=some (.ref ty):=by rw [Int.zero_add,cL hx,ex]
     have hqm:=PU hq;have uX:∀ v:eE,v.cur.rs=rs.take i->∀ p,v.cur.rs.getLast? = some p->p.1<=q.1:=λv e p hp=>GN hmo hq (by rw [<-e];exact List.mem_of_getLast? hp);refine ck ⟨_,rfl,d,3,_,rfl,hM.dk,by lia,by decide,by decide,λr H8 s8 dk8 r0 r1=>⟨rfl,_,rfl,?_⟩⟩;have hM:=hM.pick s8 dk8;clear s8 dk8;apply pE (λH9=>∃ (Bi:Hp) (tb:Addr) (v:eE),Mi K A H d g pa LF (n+2 * i+2 * pt.length+1+1) lv' Bi tb v H9/\Mp K (wo d (wo A.aq H)) lv' lf pt bs s0 l0 v rs i)
     case f=>
      intro rest;refine mL (λ_=>?_) (λ_=>?_)
      ·obtain ⟨dx1,t1,st1,ah1,hg8⟩:=hM.lg.gg;have Ob:v.cur.rs.length<=20:=by rw [hP.rs,Qg];lia
       refine ⟨_,rfl,g,dx1,_,rfl,hg8,rfl,_,rfl,_,rfl,L,_,_,_,rfl,rfl,hB0 hM,hat,ty,_,0,_,rfl,rfl,hM.sB.b8 hqp,rfl,Bi,g,pa,tb,v,q.1,_,rfl,hM.lg,hM.dd.2.2.2.2.2.2,⟨_,Gi⟩,by lia,uX v hP.rs,by lia,hM.la,λH9 B9 tb9 Po s9 la9 ht9 sBB mI e1 e2 K0=>?_⟩;have G3:=hM.lg.okc.held;have hM:=hM.Dm s9 la9 ht9 mI K0;obtain ⟨dx2,t2,st2,ah2,hg9⟩:=hM.lg.gg;refine ⟨_,rfl,g,dx2,_,rfl,hg9,rfl,B9,g,pa,tb9,_,v.past,v.cur.rs,v.cur.bs,rfl,hM.lg,hM.dd.2.2.2.2.2.2,rfl,G3,Qb _,hM.la,λH10 B10 vT s10 Ge sBB mI e1 e2 z5=>?_⟩;have hM:=hM.back s10 Ge mI z5;exact rest _ ⟨B10,tb9,_,hM,hP.dn,hP.pm,hP.vs,hP.vl,e1.trans hP.rs,by show vT.bs.Perm pt;rw [e2];exact hP.bs,by show mD vT.bs;rw [e2];exact hP.ko,hP.pl⟩
      ·exact rest _ ⟨Bi,tb,v,hM,hP⟩
     clear hM hP kc Hu;intro H9 ⟨Bi,tb,v,hM,hP⟩;have kc:=hP.pl;obtain ⟨dx1,t1,st1,ah1,hg8⟩:=hM.lg.gg;have Ob:v.cur.rs.length<=20:=by rw [hP.rs,Qg];lia
     refine ⟨_,rfl,g,dx1,_,rfl,hg8,rfl,_,rfl,_,rfl,L,_,_,_,rfl,rfl,hB0 hM,hat,ty,_,0,_,rfl,rfl,hM.sB.b8 hqp,rfl,_,rfl,_,rfl,L,_,_,_,rfl,rfl,hB0 hM,hat,ty,_,1,_,rfl,rfl,hM.sB.b8 hqp,rfl,Bi,g,pa,tb,v,q.1,q.2,rfl,hM.lg,hM.dd.2.2.2.2.2.2,hlo q hqm,by lia,uX v hP.rs,by lia,hM.la,λH10 B10 Na vT s10 Ge Nz sBB mI e1 e2 z5=>?_⟩;have hM:=hM.Dm s10 Ge Nz mI z5;refine ⟨⟨_,_,rfl⟩,pt,lf,lv',B10,Na,_,{ hM with dk:=hM.dk.mono (by lia) },hP.dn,hP.pm,hP.vs,hP.vl,?_,by show vT.bs.Perm pt;rw [e2];exact hP.bs,by show mD vT.bs;rw [e2];exact hP.ko,?_⟩
     ·show vT.rs=_;rw [e1,hP.rs,Qn,hq];rfl
     ·show (v.past++[_]).length<=_;rw [PX,P8];lia
    ·rw [decide_eq_false (show ¬ (0+(i:Int))<(lv.length:Int) by lia)];refine bf ⟨⟨_,_,rfl⟩,pt,lf,lv',Bi,tb,v,{ hM with dk:=hM.dk.mono (by lia) },hP.dn,hP.pm,hP.vs,hP.vl,?_,hP.bs,hP.ko,by lia⟩;rw [hP.rs,P4 (by lia),P4 (by lia)]
  ·obtain ⟨q0,pt,lf,lv',Bi,tb,v,hM,hP⟩:=q;apply n6 q0;clear q0;intro u6 u7;clear hM0 hP0;have hpl:=hP.pm.length_eq;rw [PX] at hpl;have hl':lv'.length=lf.length:=by rw [hP.dn.length,PQ]
   have JU:=(hP.pm.nodup_iff).mpr hnd;have hnn:((lv.length:Int)+1).toNat=rs.length+1:=by lia
   rw [hnn] at hM hP;have kc:=hP.pl;have hrs:=hP.rs;rw [P4 (QO _)] at hrs;refine ⟨_,rfl,LF,rfl,⟨_,.of hM.lf⟩,?_⟩;refine jr (K:=K) (xs:=lv') (λj σ H5=>(∃ u6 u7,σ=[some (.ref d),some (.ref SV),some (.ref L),some (.ref HD),some (.ref g),some (.ref LF),u6,u7])/\∃ (Bi:Hp) (tb:Addr) (v:eE),Mi K A H d g pa LF (n+2 * (rs.length+1)+2 * pt.length) lv' Bi tb v H5/\v.s=s0/\v.l=l0/\v.cur.rs=rs/\v.cur.bs.Perm (pt++lf.take j)/\mD v.cur.bs/\v.past.length<=rs.length+1+pt.length+j) ⟨⟨_,_,rfl⟩,Bi,tb,v,hM,hP.vs,hP.vl,hrs,by rw [List.take_zero,QD];exact hP.bs,hP.ko,hP.pl⟩ (λj σ H5 _ q=>.of (let ⟨_,_,_,_,h,_⟩:=q;h.lf)) (λj x σ H5 hx q=>?_) (λσ H5 q=>?_)
   ·clear hM hrs kc;obtain ⟨q0,Bi,tb,v,hM,es,el,hrs,hbs,hko,kc⟩:=q;apply n6 q0;clear q0;intro u6 u7;obtain ⟨ps,hps,dX⟩:=eR hP.dn hx;have hj:=aW hx;have hpm:ps∈lf:=PU hps;have hpb:ps∈bs:=hP.pm.mem_iff.mp (Qc.mpr (.inr hpm));have Hu:=hbs.length_eq;rw [PX,Qg] at Hu;obtain ⟨dx1,t1,st1,ah1,hg8⟩:=hM.lg.gg;refine ⟨_,rfl,g,dx1,_,rfl,hg8,rfl,_,rfl,Bi,g,pa,tb,v,_,ps,rfl,hM.lg,hM.dd.2.2.2.2.2.2,dX.same hM.sB,(hbo ps hpb).1,(hbo ps hpb).2.1,(hbo ps hpb).2.2,(λz=>?_),by lia,by lia,hM.la,λH11 B11 Kc cur s11 Dy JY sBB mI e1 hp hk gv=>?_⟩
    ·have hz:=hbs.mem_iff.mp z;have e2:(pt++lf.take j++lf.drop j).Nodup:=by rw [Q7,Rk];exact JU
     refine (Q3.mp e2).2.2 ps hz ps (PU (i:=0) ?_) rfl;rw [RU,Nat.add_zero];exact hps
    ·refine ⟨⟨_,_,rfl⟩,B11,Kc,_,hM.Dm s11 Dy JY mI gv,es,el,e1.trans hrs,?_,hk,?_⟩
     ·rw [Qn,hps,<-Q7];exact hp.trans (hbs.append_right _)
     ·show (v.past++[_]).length<=_;rw [PX,P8];lia
   ·clear hM hrs kc;obtain ⟨q0,Bi,tb,v,hM,es,el,hrs,hbs,hko,kc⟩:=q;apply n6 q0;clear q0;intro u6 u7;rw [hl',P4 (PR _)] at hbs;exact ⟨_,rfl,k H5 Bi g pa tb v hM.g0 hM.p0 hM.t0 hM.sB hM.la (hM.dk.mono (by lia)) hM.mu es el hrs (hbs.trans hP.pm) hko (by lia) hM.lg⟩
end
end K35
namespace LG
open PySem L2
theorem vW (a b:Str):(a++b).cps=a.cps++b.cps:=rfl
theorem BF {a b:Str} (ha:PyData.strOk a=true) (hb:PyData.strOk b=true):PyData.strOk (a++b)=true:=by
 unfold PyData.strOk at *;rw [vW,Array.all_append,ha,hb];rfl
theorem len_app (a b:Str):(a++b).length=a.length+b.length:=by
 show (a.cps++b.cps).size=a.cps.size+b.cps.size;exact R7
theorem MH {w:Str} (h:WOd w):WOk (w ++ "x"):=by
 refine ⟨?_,?_,BF h.ok (by decide +kernel)⟩
 ·have h1:=h.word;unfold cS dh at h1 ⊢;rw [Qt] at h1;rw [vW,Q9,List.all_append,h1.2];have:(("x" : Str)).cps.toList.all sgn=true:=by decide +kernel
  rw [this];cases q:w.cps.toList with
  | nil=>rw [q] at h1;cases h1.1
  | cons _ _=>rfl
 ·rw [len_app];exact Nat.succ_le_succ h.len
theorem Jz {y:Str}:∀ (l:List Str) (w:Str),Txt.join " " (l++[w])++y=Txt.join " " (l++[w++y])
 | [],w=>rfl
 | a::l,w=>by
  have e:∀ (q:Str) (r:List Str),(Txt.join " " (q::r)).cps=r.foldl (λacc q=>acc++((" " : Str)).cps++q.cps) q.cps:=λq r=>rfl;have ex:∀ {a b:Str},a.cps=b.cps->a=b:=λ{a b} h=>by cases a;cases b;cases h;rfl
  refine ex ?_;rw [vW,Ru,Ru,e,e,R5,R5];show (_++_++w.cps)++y.cps=_++_++(w.cps++y.cps);rw [RZ]
theorem JN {z:Str}{ws:List Str} (h:nE 12 z ws):∃ ws',fX 12 (z ++ "x") ws':=by
 have hne:ws≠[]:=λe=>by have:=h.pos;rw [e] at this;simp at this
 have hx:=(QL hne).symm;generalize ws.dropLast=l at hx;generalize ws.getLast hne=w at hx;subst hx;refine ⟨l++[w ++ "x"],by rw [h.eq,Jz],by simp,?_,λq hq=>?_⟩
 ·have:=h.le;simpa using this
 ·rcases Qc.mp hq with hq | hq
  ·exact (h.wd q (Qc.mpr (.inl hq))).to
  ·rw [PZ.mp hq];exact MH (h.wd w (by simp))
theorem NP (z:Str):z ++ "x" ≠ z:=λe=>by
 have h:=congrArg Str.length e;rw [len_app] at h;have:(("x" : Str)).length=1:=rfl;lia
theorem pw_fst {rs:List (Int×Str)}:rs.Pairwise (λa b=>a.1<=b.1)↔(rs.map (·.1)).Pairwise (· <= ·):=Q1.symm
theorem pw_set {rs:List (Int×Str)}{i:Nat}{q:Int×Str}{z:Str} (h:rs.Pairwise (λa b=>a.1<=b.1)) (hq:rs[i]? = some q):(rs.set i (q.1,z)).Pairwise (λa b=>a.1<=b.1):=by
 rw [pw_fst] at h ⊢;have e:(rs.set i (q.1,z)).map (·.1)=rs.map (·.1):=by
  rw [Si];refine R6 λj=>?_;rw [List.getElem?_set]
  split
  ·rename_i e;subst e;rw [P7,hq,PQ];rw [if_pos (aW hq)];rfl
  ·rfl
 rw [e];exact h
theorem pw_snoc {rs:List (Int×Str)}{m:Int}{z:Str} (h:rs.Pairwise (λa b=>a.1<=b.1)) (hm:∀ q∈rs,q.1<=m):(rs++[(m,z)]).Pairwise (λa b=>a.1<=b.1):=by
 rw [Rm];exact ⟨h,List.pairwise_singleton _ _,λa ha b hb=>by rw [PZ.mp hb];exact hm a ha⟩
theorem pw_last {rs:List (Int×Str)}{q:Int×Str} (h:(rs++[q]).Pairwise (λa b=>a.1<=b.1)):∀ p∈rs++[q],p.1<=q.1:=λp hp=>by
 rcases Qc.mp hp with hp | hp
 ·exact (Rm.mp h).2.2 p hp q (List.mem_singleton_self _)
 ·rw [PZ.mp hp];exact RL _
theorem sN {K:Vz}{H:Hp}{x:V}{d:PyData}:∀ {xs:List V}{ds:List PyData} (j:Nat),aA K H xs ds->Den K H x d->aA K H (xs.set j x) (ds.set j d)
 | _,_,_,.nil,_=>by simpa using aA.nil
 | _,_,0,.cons _ t,h=>by simpa using aA.cons h t
 | _,_,j+1,.cons r t,h=>by simpa using aA.cons r (sN j t h)
theorem An:(∃ ws,fX 12 "end" ws)/\∃ ws,fX 12 "one more" ws:=by
 have h1:∀ w∈(["end"]:List Str),cS w=true/\w.length<=6/\PyData.strOk w=true:=by decide +kernel
 have h2:∀ w∈(["one","more"]:List Str),cS w=true/\w.length<=6/\PyData.strOk w=true:=by decide +kernel
 exact ⟨⟨["end"],by decide +kernel,by decide,by decide,λw hw=>⟨(h1 w hw).1,(h1 w hw).2.1,(h1 w hw).2.2⟩⟩,["one","more"],by decide +kernel,by decide,by decide,λw hw=>⟨(h2 w hw).1,(h2 w hw).2.1,(h2 w hw).2.2⟩⟩
def eqE (v w:eE):Bool:=PyData.eqv (.tuple [.int v.s,.int v.l]) (.tuple [.int w.s,.int w.l]) && (PyData.eqv (.list (v.cur.rs.map eL)) (.list (w.cur.rs.map eL)) && PyData.eqv (.list (v.cur.bs.map bj)) (.list (w.cur.bs.map bj)))
theorem zz:∀ {l r:List (Int×Str)},l.map eL=r.map eL->l=r
 | [],[],_=>rfl
 | [],_::_,h=>by cases h
 | _::_,[],h=>by cases h
 | a::l,b::r,h=>by
  rw [Ql,Ql] at h;have h1:=(List.cons.inj h).1;have h2:=zz (List.cons.inj h).2;obtain ⟨a1,a2⟩:=a;obtain ⟨b1,b2⟩:=b;cases h1;rw [h2]
theorem yL (l r:List (Int×Str)):PyData.eqv (.list (l.map eL)) (.list (r.map eL))=decide (l=r):=by
 have sh:∀ l:List (Int×Str),(Sh.list (.cu .int (.cu .str .oB))).has (.list (l.map eL)):=λl=>⟨_,rfl,λx hx=>by
  obtain ⟨q,_,rfl⟩:=P9.mp hx;exact ⟨_,_,rfl,⟨_,rfl⟩,_,_,rfl,⟨_,rfl⟩,rfl⟩⟩
 have e:=(Sh.ok (.list (.cu .int (.cu .str .oB)))).eqv _ _ (sh l) (sh r);by_cases q:l=r
 ·rw [decide_eq_true q];exact e.mpr (by rw [q])
 ·rw [decide_eq_false q];refine Qe.mpr λz=>q (zz ?_);have:=e.mp z;exact PyData.list.inj this
def FJ:Sh:=.list (.list (.cu .str (.cu .str .oB)))
theorem nY (pss:List (List Pt)):FJ.has (.list (pss.map bj)):=⟨_,rfl,λx hx=>by
 obtain ⟨ps,_,rfl⟩:=P9.mp hx;exact ⟨_,rfl,λy hy=>by
  obtain ⟨p,_,rfl⟩:=P9.mp hy;cases p <;> exact ⟨_,_,rfl,⟨_,rfl⟩,_,_,rfl,⟨_,rfl⟩,rfl⟩⟩⟩
theorem v3 {v w:eE} (h1:v.s=w.s) (h2:v.l=w.l) (h3:v.cur.rs=w.cur.rs) (h4:v.cur.bs=w.cur.bs):eqE v w=true:=by
 unfold eqE;rw [uP,yL,decide_eq_true ⟨h1,h2⟩,decide_eq_true h3,h4,((Sh.ok FJ).eqv _ _ (nY _) (nY _)).mpr rfl];rfl
theorem Ft {v w:eE} (h:v.s≠w.s\/v.cur.rs≠w.cur.rs\/v.cur.bs.length≠w.cur.bs.length):eqE v w=false:=by
 unfold eqE;rw [uP,yL];rcases h with h | h | h
 ·rw [decide_eq_false λz=>h z.1];rfl
 ·rw [decide_eq_false h,RW,QW]
 ·have e:PyData.eqv (.list (v.cur.bs.map bj)) (.list (w.cur.bs.map bj))=false:=Qe.mpr λz=>h (by
   have:=PyData.list.inj (((Sh.ok FJ).eqv _ _ (nY v.cur.bs) (nY w.cur.bs)).mp z);have:=congrArg List.length this
   rwa [PQ,PQ] at this)
  rw [e,QW,QW]
end LG
namespace K35
open PySem L2 LG
section
variable {P:Program}{w:World}{K:Vz}{mg:Str->Option Vy}{base:Heap}{A:Ad}
def oE (K:Vz):Sp:=λvs H Q _=>∃ (d SV L HD:Addr) (n:Nat) (s l:Int) (lv hv:List V) (rs:List (Int×Str)) (bs:List (List Pt)),vs=[.ref d,.ref SV,.ref L,.ref HD]/\Dk H d n/\n<500000/\SqT K (wo d H) SV [.int s,.int l]/\SqL K (wo d H) L lv/\aA K (wo d H) lv (rs.map eL)/\SqL K (wo d H) HD hv/\aA K (wo d H) hv (bs.map bj)/\1<=rs.length/\rs.length<=12/\(∀ q∈rs,∃ ws,nE 12 q.2 ws)/\rs.Pairwise (λa b=>a.1<=b.1)/\bs.length<=4 /\
 ∀ (H':Hp) (T SV' L' HD':Addr) (s':Int) (lv' hv':List V) (rs':List (Int×Str)) (bs':List (List Pt)),af (wo d H) H'->Dk H' d (n+2)->SqT K (wo d H') T [.ref SV',.ref L',.ref HD']->SqT K (wo d H') SV' [.int s',.int l]->SqL K (wo d H') L' lv'->aA K (wo d H') lv' (rs'.map eL)->SqL K (wo d H') HD' hv'->aA K (wo d H') hv' (bs'.map bj) ->
  rs'.length<=20->(∀ q∈rs',∃ ws,fX 12 q.2 ws)->rs'.Pairwise (λa b=>a.1<=b.1)->bs'.Sublist bs->(s≠s'\/rs≠rs'\/bs.length≠bs'.length)->Q (.ref T) H'
structure vB (K:Vz) (W:Hp) (d FO:Addr) (n:Nat) (rs:List (Int×Str)) (lv':List V) (rs':List (Int×Str)) (H:Hp):Prop where
 sA:af W H
 dk:Dk H d n
 fo:H FO=some (.lst lv')
 dn:aA K (wo d H) lv' (rs'.map eL)
 rl:rs'.length<=20
 lo:∀ q∈rs',∃ ws,fX 12 q.2 ws
 mo:rs'.Pairwise (λa b=>a.1<=b.1)
 ne:rs≠rs'
theorem vB.put {W H:Hp}{d FO t:Addr}{n:Nat}{rs rs':List (Int×Str)}{lv lv':List V}{m:Int}{z:Str} (s:af W H) (hWd:W d=none) (hWF:W FO=none) (dk:Dk H d n) (hdF:d≠FO) (hF:H FO=some (.lst lv)) (ht:H t=none)
  (mk:∀ H',af W H'->H' t=some (.tup [.int m,.str z])->aA K H' lv' (rs'.map eL)) (rl:rs'.length<=20) (lo:∀ q∈rs',∃ ws,fX 12 q.2 ws) (mo:rs'.Pairwise (λa b=>a.1<=b.1)) (ne:rs≠rs'):vB K W d FO n rs lv' rs' (upd (upd H t (.tup [.int m,.str z])) FO (.lst lv')):=by
 have st:af H (upd H t (.tup [.int m,.str z])):=af.new ht;have sA:=aF (o:=.lst lv') hWF (s.trans st);have hdt:d≠t:=dk.ne ht;have htF:t≠FO:=λe=>by rw [e,hF] at ht;cases ht
 refine ⟨sA,(dk.same st).upd hdF,ab,mk _ (bN hWd sA) ?_,rl,lo,mo,ne⟩;rw [aj hdt.symm,au htF];exact ab
theorem gw:aE ["deck","sieve","lines","hand","way","found","at"] ["deck","sieve","lines","hand"] (ak (top 68)):=⟨rfl,rfl,rfl,by decide +kernel,rfl,by decide +kernel,by decide +kernel⟩
theorem wD (T:Tx K mg A):ax P w K mg base CX0 2 A.k5 A.lE ["deck","sieve","lines","hand"] (oE K):=by
 have aB:ax P w K mg base CX0 1 A.cg A.cf ["deck","many"] (bY K):=(cA T).mono (by decide);refine T.l4.fn.ok gw (λvs H Q E h=>?_) (λcdv Ar outer s H vs Q E hr h=>?_)
 ·obtain ⟨d,SV,L,HD,n,s0,l0,lv,hv,rs,bs,rfl,_⟩:=h;rfl
 ·obtain ⟨d,SV,L,HD,n,s0,l0,lv,hv,rs,bs,rfl,hdk,hn,hqs,hql,hdl,hqh,hdh,hr1,hrl,hlo,hmo,hbl,k⟩:=h;obtain ⟨yd,hdd⟩:=hdk.lst;have El:lv.length=rs.length:=by rw [hdl.length,PQ]
  have OK:hv.length=bs.length:=by rw [hdh.length,PQ]
  refine ⟨_,ag (aY (i:=4) gw.nd rfl (Or.inl rfl) (av aB hr (by rfl) T.ap.mg T.ap.fn.kp T.ap.bd .nil ay (aa (pv 0) (aa (ar) (ae)))))
   (ag (aY (i:=5) gw.nd rfl (Or.inl rfl) (i6 (r:=oZ K) jD (by rfl) T.pC lZ (aa (pv 2) (ae))))
   (ag (aY (i:=6) gw.nd rfl (Or.inl rfl) (av aB hr (by rfl) T.ap.mg T.ap.fn.kp T.ap.bd .nil ay (aa (pv 0) (aa (aK (r:=cH K) aV (by rfl) T.cq PySem.boot_len (aa (pv 2) (ae))) (ae)))))
   (ag (a8 (aJ (eO) (pv 4) (ar) (aG _)) (ao (be (cQ PySem.F.plainAttrs_list PySem.F.slot_list_pop PySem.F.type_list_pop BN (pv 5) (aa (pv 6) (ae))))) (ao (a8 (aJ (eO) (pv 4) (ar) (aG _)) (ao (be (cQ PySem.F.plainAttrs_list PySem.F.slot_list_append PySem.F.type_list_append cm (pv 5) (aa (bT (aa (aU (r:=eP K) bF (aU (r:=dE K) aX (pv 2) (yh rE (ar)) (λ_ _=>rfl)) (ar) (λ_ _=>rfl)) (aa (aL) (ae)))) (ae))))) (ao (a8 (aJ (eO) (pv 4) (ar) (aG _)) (ao (lC (bT (aa (aU (r:=eP K) bF (aU (r:=dE K) aX (pv 2) (pv 6) (λ_ _=>rfl)) (ar) (λ_ _=>rfl)) (aa (bS zO (aU (r:=eP K) bF (aU (r:=dE K) aX (pv 2) (pv 6) (λ_ _=>rfl)) (ar) (λ_ _=>rfl)) (aL)) (ae)))) (sO (pv 5) (pv 6) set_list))) (ao (a8 (aJ (eO) (pv 4) (ar) (aG _)) (ao (lC (bT (aa (bS fV (aU (r:=eP K) bF (aU (r:=dE K) aX (pv 2) (yh rE (ar)) (λ_ _=>rfl)) (ar) (λ_ _=>rfl)) (ar)) (aa (aU (r:=eP K) bF (aU (r:=dE K) aX (pv 2) (yh rE (ar)) (λ_ _=>rfl)) (ar) (λ_ _=>rfl)) (ae)))) (sO (pv 5) (yh rE (ar)) set_list))) (ao (a8 (aJ (eO) (pv 4) (ar) (aG _)) (ao (aC (bT (aa (pv 1) (aa (bS (r:=uL K) oF (bw (N':=["moment","line"]) (n:=2) (fi:=[]) (g:=C3 K 2 (kQ (br 0) (kQ (br 1) (CD)))) rfl (bH (ak (top 68)) ["deck","sieve","lines","hand","way","found","at"] (by decide +kernel)) (bh (pv 2)) (λs H fp=>jL rfl (bK (aI (i:=0) (show (["moment","line"]:List Str).Nodup by decide +kernel) rfl (Or.inl rfl) (.inr rfl)) (bK (aI (i:=1) (show (["moment","line"]:List Str).Nodup by decide +kernel) rfl (Or.inl rfl) (.inr rfl)) (gy)))) (λs H fp=>a9) (λs H fp=>bT (aa (ar) (aa (pv 1) (ae))))) (bu (aa (bT (aa (ar) (aa (aL) (ae)))) (ae)))) (aa (pv 3) (ae))))))) (ao (a8 ((pw_and (aJ (eO) (pv 4) (ar) (aG _)) (pw_and1 (aJ (r:=EF K) (wW hr) (pv 3) (bu (ae)) (aG _)))).pt) (ao (aC (bT (aa (pv 1) (aa (pv 2) (aa (lM (r:=HI K) vX (pv 3) (l3 (ar)) (qX)) (ae))))))) (ao (aC (bT (aa (bT (aa (bS zL (ar) (aU (r:=eP K) bF (pv 1) (ar) (λ_ _=>rfl))) (aa (aU (r:=eP K) bF (pv 1) (ar) (λ_ _=>rfl)) (ae)))) (aa (pv 2) (aa (pv 3) (ae))))))))))))))))))
   (ao (aC (bT (aa (pv 1) (aa (pv 5) (aa (pv 3) (ae)))))))))),?_⟩
  refine ⟨_,rfl,d,7,n,rfl,hdk,by lia,by decide,by decide,λway H1 s1 dk1 w0 w7=>?_⟩;have sW:af (wo d H) (wo d H1):=bN a7 s1;refine ⟨_,rfl,L,lv,rfl,.inl (s1.seq hql),λFO hFO=>?_⟩;have s2:af H1 (upd H1 FO (.lst lv)):=af.new hFO;have hF2:(upd H1 FO (.lst lv)) FO=some (.lst lv):=ab;have hdF:d≠FO:=dk1.ne hFO;generalize upd H1 FO (.lst lv)=H2 at s2 hF2 ⊢;have s12:=s1.trans s2;refine ⟨_,rfl,_,rfl,L,_,rfl,.inl (s12.seq hql),d,(lv.length:Int),_,rfl,dk1.same s2,by lia,by lia,by lia,λr H3 s3 dk3 r0 r1=>?_⟩;have s03:af (wo d H) H3:=bI s12 s3;have hF3:H3 FO=some (.lst lv):=cs s3 hF2 hdF;have s0W:af (wo d H) (wo d H3):=bN a7 s03;have hBF:(wo d H) FO=none:=s1.free hFO;have p9:Dk H3 d (n+2):=dk3;obtain ⟨i,rfl⟩:∃ i:Nat,r=(i:Int):=⟨r.toNat,(RP r0).symm⟩;have hi:i<rs.length:=by lia
  have hx:lv[i]? = some lv[i]:=PV (by lia);obtain ⟨q,ty,hq,ex,hqp,hqo⟩:=gY hdl hx;have hat:atI lv (i:Int)=some (.ref ty):=by rw [cL hx,ex]
  obtain ⟨lv0,x0,Ky⟩:∃ lv0 x0,lv=lv0++[x0]:=by
   have hne:lv≠[]:=λz=>by rw [z] at El;simp at El;lia
   exact ⟨lv.dropLast,lv.getLast hne,(QL hne).symm⟩
  have hx0:lv[lv0.length]? = some x0:=by rw [Ky];simp
  obtain ⟨q0,ty0,hq0,ex0,Cq,Nj⟩:=gY hdl hx0;have JO:atI lv (-1)=some (.ref ty0):=by rw [Ky,Ce,ex0]
  have hl0:lv0.length+1=rs.length:=by rw [<-El,Ky];simp
  obtain ⟨rs0,Ho⟩:∃ rs0,rs=rs0++[q0]:=by
   have hne:rs≠[]:=λz=>by rw [z] at hr1;simp at hr1
   refine ⟨rs.dropLast,?_⟩;have e:=(QL hne).symm;have e2:rs.getLast hne=q0:=by
    have:rs.getLast? = some q0:=by rw [R1,show rs.length - 1=lv0.length by lia];exact hq0
    rw [List.getLast?_eq_some_getLast hne] at this;exact Option.some.inj this
   rw [e2] at e;exact e
  have um:∀ q∈rs,∃ ws,fX 12 q.2 ws:=λq hq=>let ⟨ws,h⟩:=hlo q hq;⟨ws,h.to⟩;have hq3:SqL K H3 L lv:=s03.seq hql;have hs3:SqT K H3 SV [.int s0,.int l0]:=s03.b8 hqs;have hd3:aA K (wo d H3) lv (rs.map eL):=hdl.same s0W;have hh3:aA K (wo d H3) hv (bs.map bj):=hdh.same s0W;have Pz:∀ {t:Addr}{o:HO},H3 t=none->af (wo d H3) (wo d (upd H3 t o)):=λ{t o} ht=>bN a7 (aZ.trans (af.new ht));have fin:∀ (H5:Hp) (T SV' L' HD':Addr) (s':Int) (lv' hv':List V) (rs':List (Int×Str)) (bs':List (List Pt)),H5 T=none->af (wo d H) H5->Dk H5 d (n+2)->SqT K (wo d H5) SV' [.int s',.int l0]->SqL K (wo d H5) L' lv'->aA K (wo d H5) lv' (rs'.map eL)->SqL K (wo d H5) HD' hv'->aA K (wo d H5) hv' (bs'.map bj) ->
    rs'.length<=20->(∀ q∈rs',∃ ws,fX 12 q.2 ws)->rs'.Pairwise (λa b=>a.1<=b.1)->bs'.Sublist bs->(s0≠s'\/rs≠rs'\/bs.length≠bs'.length)->Q (.ref T) (upd H5 T (.tup [.ref SV',.ref L',.ref HD'])):=λH5 T SV' L' HD' s' lv' hv' rs' bs' hT sA dkA c1 c2 c3 c4 c5 c6 c7 c8 c9 c10=>by
   have sT:af (wo d H5) (wo d (upd H5 T (.tup [.ref SV',.ref L',.ref HD']))):=bN a7 (aZ.trans (af.new hT));have hdT:d≠T:=dkA.ne hT;exact k _ T SV' L' HD' s' lv' hv' rs' bs' (sA.trans (af.new hT)) (dkA.same (af.new hT)) (.of (by rw [aj hdT.symm];exact ab)) (sT.b8 c1) (sT.seq c2) (c3.same sT) (sT.seq c4) (c5.same sT) c6 c7 c8 c9 c10
  have hW:(wo d H) d=none:=a7;apply pE (λH4=>∃ (lv':List V) (rs':List (Int×Str)),vB K (wo d H) d FO (n+2) rs lv' rs' H4)
  case f=>
   intro rest;refine ⟨_,rfl,rfl,_,rfl,?_⟩;refine mL (λe0=>?_) (λe0=>?_)
   ·-- a line less
    refine ⟨_,rfl,.inl ⟨rfl,_,.of hF3⟩,_,rfl,FO,i,_,lv,rfl,rfl,hF3,hx,?_⟩;have sA:=aF (o:=.lst (lv.eraseIdx i)) hBF s03;refine rest _ ⟨lv.eraseIdx i,rs.eraseIdx i,sA,p9.upd hdF,ab,?_,?_,λp hp=>um p (List.mem_of_mem_eraseIdx hp),hmo.sublist (List.eraseIdx_sublist ..),λe=>?_⟩
    ·rw [pY];exact nq _ (hdl.same (bN hW sA))
    ·exact P2 (R9 ..) (by lia)
    ·have:=congrArg List.length e;rw [List.length_eraseIdx,if_pos hi] at this;lia
   refine ⟨_,rfl,rfl,_,rfl,?_⟩;refine mL (λe1=>?_) (λe1=>?_)
   ·-- a line more
    refine ⟨_,rfl,.inl ⟨rfl,_,.of hF3⟩,_,rfl,(1:Int),rfl,L,_,(-1:Int),_,rfl,rfl,hq3,JO,ty0,_,0,_,rfl,rfl,s03.b8 Cq,rfl,(by show 2<=sizeLine;decide),λt ht=>?_⟩;refine ⟨FO,lv,_,rfl,rfl,af.new ht _ _ hF3,small (by lia),?_⟩;refine rest _ ⟨_,rs++[(q0.1,("one more" : Str))],vB.put s03 hW hBF p9 hdF hF3 ht (λH' s' h'=>?_) (by rw [PX,P8];lia) (λp hp=>?_) (pw_snoc hmo (by rw [Ho] at hmo ⊢;exact pw_last hmo)) λe=>?_⟩
    ·rw [Qa];exact (hdl.same s').append (.cons (.tup (.of h') (.cons (.int _) (.cons (.str (by decide +kernel)) .nil))) .nil)
    ·rcases Qc.mp hp with hp | hp
     ·exact um p hp
     ·rw [PZ.mp hp];exact An.2
    ·have:=congrArg List.length e;rw [PX,P8] at this;lia
   refine ⟨_,rfl,rfl,_,rfl,?_⟩;refine mL (λe2=>?_) (λe2=>?_)
   ·-- a line unlike
    have Nc:q.2.length+(("x" : Str)).length<=sizeLine:=by
     obtain ⟨ws,hw⟩:=hlo q (PU hq);have:=(hw.to.ok (by decide)).2;exact P2 (QZ this _) (by decide)
    refine ⟨_,rfl,_,rfl,L,_,_,_,rfl,rfl,hq3,hat,ty,_,0,_,rfl,rfl,s03.b8 hqp,rfl,_,rfl,_,rfl,L,_,_,_,rfl,rfl,hq3,hat,ty,_,1,_,rfl,rfl,s03.b8 hqp,rfl,_,_,rfl,rfl,Nc,(by show 2<=sizeLine;decide),λt ht=>?_⟩;refine ⟨_,rfl,_,rfl,FO,lv,(i:Int),i,rfl,rfl,af.new ht _ _ hF3,?_,?_⟩
    ·unfold ixN;rw [if_pos (by lia),if_pos (by lia),QJ]
    refine rest _ ⟨_,rs.set i (q.1,q.2 ++ "x"),vB.put s03 hW hBF p9 hdF hF3 ht (λH' s' h'=>?_) (by rw [RC];lia) (λp hp=>?_) (pw_set hmo hq) λe=>?_⟩
    ·rw [Si];exact sN i (hdl.same s') (.tup (.of h') (.cons (.int _) (.cons (.str (BF hqo (by decide +kernel))) .nil)))
    ·rcases Rv hp with hp | hp
     ·exact um p hp
     ·rw [hp];obtain ⟨ws,hw⟩:=hlo q (PU hq);exact JN hw
    ·have h1:(rs.set i (q.1,q.2 ++ "x"))[i]? = some (q.1,q.2 ++ "x"):=by rw [Rg hi]
     rw [<-e,hq] at h1;exact NP q.2 (congrArg Prod.snd (Option.some.inj h1)).symm
   refine ⟨_,rfl,rfl,_,rfl,?_⟩;refine mL (λe3=>?_) (λe3=>?_)
   ·-- a later moment
    refine ⟨_,rfl,(1:Int),rfl,L,_,(-1:Int),_,rfl,rfl,hq3,JO,ty0,_,0,_,rfl,rfl,s03.b8 Cq,rfl,_,_,rfl,rfl,_,rfl,(1:Int),rfl,L,_,(-1:Int),_,rfl,rfl,hq3,JO,ty0,_,1,_,rfl,rfl,s03.b8 Cq,rfl,(by show 2<=sizeLine;decide),λt ht=>?_⟩;refine ⟨_,rfl,(1:Int),rfl,FO,lv,(-1:Int),lv0.length,rfl,rfl,af.new ht _ _ hF3,?_,?_⟩
    ·unfold ixN;rw [if_neg (by lia),if_pos (by lia)]
     congr 1
     lia
    have es:rs.set lv0.length (q0.1+1,q0.2)=rs0++[(q0.1+1,q0.2)]:=by
     have hl1:rs0.length=lv0.length:=by rw [Ho] at hl0;simp at hl0;lia
     rw [Ho,<-hl1];simp
    refine rest _ ⟨_,rs.set lv0.length (q0.1+1,q0.2),vB.put s03 hW hBF p9 hdF hF3 ht (λH' s' h'=>?_) (by rw [RC];lia) (λp hp=>?_) ?_ λe=>?_⟩
    ·rw [Si];exact sN _ (hdl.same s') (.tup (.of h') (.cons (.int _) (.cons (.str Nj) .nil)))
    ·rcases Rv hp with hp | hp
     ·exact um p hp
     ·rw [hp];exact um q0 (PU hq0)
    ·rw [es];rw [Ho] at hmo;refine pw_snoc (Rm.mp hmo).1 λp hp=>?_;have:=pw_last hmo p (Qc.mpr (.inl hp));lia
    ·have h1:(rs.set lv0.length (q0.1+1,q0.2))[lv0.length]? = some (q0.1+1,q0.2):=by rw [Rg (by lia)]
     rw [<-e,hq0] at h1;have:=congrArg Prod.fst (Option.some.inj h1);simp at this;lia
   have sq3:af (wo d H) (wo d H3):=s0W;refine ⟨_,rfl,rfl,_,rfl,?_⟩;refine mL (λe4=>?_) (λe4=>?_)
   ·-- all moments 0
    refine ⟨_,rfl,_,rfl,L,rfl,⟨_,hq3⟩,λC hC=>?_⟩;have hdC:d≠C:=p9.ne hC;refine bc (K:=K) (xs:=lv) (λi acc σ H5=>(∃ u v,σ=[u,v])/\af H3 H5/\aA K (wo C (wo d H5)) acc (((rs.take i).map λq=>((0:Int),q.2)).map eL)) ab ⟨⟨_,_,rfl⟩,af.new hC,.nil⟩ (λi acc σ H5 _ _ q=>q.2.1.seq hq3) (λi y acc σ H5 hy hCy q=>?_) (λacc σ H5 hC5 q=>?_)
    ·obtain ⟨q0,s5,dn⟩:=q;apply n6 q0;clear q0;intro u v;obtain ⟨p,ty,hp,rfl,hqp,hok⟩:=gY hdl hy;have hi:=aW hp;have hal:acc.length<=100:=by rw [dn.length];simp only [PQ,Qg];lia
     refine AG (s5.b8 (s03.b8 hqp)) ⟨_,rfl,(by show 2<=sizeLine;decide),λt ht=>?_⟩;have st:af H5 (upd H5 t (.tup [.int 0,.str p.2])):=af.new ht;have htC:t≠C:=λe=>by rw [e,hCy] at ht;cases ht
     have htd:t≠d:=((p9.same s5).ne ht).symm;refine ⟨_,st _ _ hCy,small (by lia),_,ab,⟨_,_,rfl⟩,aF hC (s5.trans st),?_⟩;have sC:af (wo C (wo d H5)) (wo C (wo d (upd (upd H5 t (.tup [.int 0,.str p.2])) C (.lst (acc++[.ref t]))))):=λc o e=>by
      obtain ⟨h1,e⟩:=aD e;obtain ⟨h2,e⟩:=aD e;rw [aj h1,aj h2,au h1];exact st _ _ e
     rw [Qn,hp,Qa,Qa];refine (dn.same sC).append (.cons (.tup (.of ?_) (.cons (.int _) (.cons (.str hok) .nil))) .nil);rw [aj htC,aj htd,au htC];exact ab
    ·obtain ⟨_,s5,dn⟩:=q;rw [El,P4 (PR _)] at dn;have hal:acc.length<=100:=by rw [dn.length];simp only [PQ];lia
     refine ⟨(by show 2<=sizeLine;decide),λt ht=>?_⟩;obtain ⟨H6,eq,s6,ht6⟩:=dz (.tup [.int 0,.str "end"]) ht;rw [eq];refine ⟨(by show 1<=sizeLine;decide),λll hll=>?_⟩;obtain ⟨H7,eq,s7,hl7⟩:=dz (.lst [.ref t]) hll;rw [eq];refine ⟨C,ll,_,_,rfl,rfl,.of ((s6.trans s7) _ _ hC5),.of hl7,P2 (show acc.length+1<=200 by lia) (by decide),λR hR=>?_⟩;obtain ⟨H8,eq,s8,hR8⟩:=dz (.lst (acc++[.ref t])) hR;rw [eq];have s58:=s6.trans (s7.trans s8);have s38:=s5.trans s58;have dk8:=p9.same s38;have hdR:d≠R:=((p9.same s5).same (s6.trans s7)).ne hR;have hdt:d≠t:=(p9.same s5).ne ht;have sA:=s03.trans s38;have sAW:af (wo d H) (wo d H8):=bN a7 sA;have s5W:af (wo C (wo d H5)) (wo d H8):=aZ.trans (bN a7 (aZ.trans s58));refine ⟨_,rfl,(by show 3<=sizeLine;decide),λT hT=>?_⟩;refine fin H8 T SV R HD s0 _ hv (rs.map (λq=>((0:Int),q.2))++[((0:Int),("end" : Str))]) bs hT sA dk8 (sAW.b8 hqs) (.of (by rw [aj hdR.symm];exact hR8)) ?_ (sAW.seq hqh) (hdh.same sAW) (by rw [PX,PQ,P8];lia) (λp hp=>?_) ?_ (List.Sublist.refl _) (.inr (.inl λe=>?_))
     ·rw [Qa];exact (dn.same s5W).append (.cons (.tup (.of (by rw [aj hdt.symm];exact (s7.trans s8) _ _ ht6)) (.cons (.int _) (.cons (.str (by decide +kernel)) .nil))) .nil)
     ·rcases Qc.mp hp with hp | hp
      ·obtain ⟨q,hq,rfl⟩:=P9.mp hp;exact um q hq
      ·rw [PZ.mp hp];exact An.1
     ·refine pw_snoc ?_ λp hp=>?_
      ·rw [Q1];exact hmo.imp λ_=>RL _
      ·obtain ⟨q,hq,rfl⟩:=P9.mp hp;exact RL _
     ·have:=congrArg List.length e;rw [PX,PQ,P8] at this;lia
   have els:∀ (H5:Hp) (t T:Addr),af H3 H5->H5 t=none->(upd H5 t (.tup [.int (11 - s0),.int l0])) T=none->Q (.ref T) (upd (upd H5 t (.tup [.int (11 - s0),.int l0])) T (.tup [.ref t,.ref L,.ref HD])):=λH5 t T s5 ht hT=>by
    have st:af H5 (upd H5 t (.tup [.int (11 - s0),.int l0])):=af.new ht;have ht6:(upd H5 t (.tup [.int (11 - s0),.int l0])) t=some (.tup [.int (11 - s0),.int l0]):=ab;generalize upd H5 t (.tup [.int (11 - s0),.int l0])=H6 at st ht6 hT ⊢;have s36:=s5.trans st;have hdt:d≠t:=(p9.same s5).ne ht;have sA:=s03.trans s36;have sAW:af (wo d H) (wo d H6):=bN a7 sA;exact fin H6 T t L HD (11 - s0) lv hv rs bs hT sA (p9.same s36) (.of (by rw [aj hdt.symm];exact ht6)) (sAW.seq hql) (hdl.same sAW) (sAW.seq hqh) (hdh.same sAW) (by lia) um hmo (List.Sublist.refl _) (.inl (by lia))
   refine ⟨_,rfl,rfl,_,rfl,?_⟩;refine mL (λe5=>?_) (λe5=>?_)
   ·refine ⟨_,rfl,Qb _,λE hE=>?_⟩;have sE:af H3 (upd H3 E (.lst [])):=af.new hE;refine ⟨_,_,.lst (s03.trans sE |>.seq hqh) (hdh.same (s03.trans sE)),.lst (.of ab) .nil,rn _,_,rfl,?_⟩;rw [yR,List.isEmpty_map];generalize upd H3 E (.lst [])=H5 at sE ⊢;cases hbs:bs with
    | nil=>
     exact bf ⟨_,rfl,SV,_,0,_,rfl,rfl,sE.b8 hs3,rfl,_,_,rfl,rfl,_,rfl,SV,_,1,_,rfl,rfl,sE.b8 hs3,rfl,(by show 2<=sizeLine;decide),λt ht=>⟨_,rfl,_,rfl,(by show 3<=sizeLine;decide),λT hT=>els H5 t T sE ht hT⟩⟩
    | cons b0 bs0=>
     have sA:=s03.trans sE;refine ck ⟨_,rfl,_,rfl,_,rfl,(1:Int),rfl,HD,hv,rfl,sA.seq hqh,λp hp=>?_⟩;rw [show px hv (some (1:Int)) none=hv.drop 1 from FP 1];obtain ⟨H6,eq,sp,hp6⟩:=dz (.lst (hv.drop 1)) hp;rw [eq];have s36:=sE.trans sp;have hdp:d≠p:=(p9.same sE).ne hp;have sA:=s03.trans s36;have sAW:af (wo d H) (wo d H6):=bN a7 sA;refine ⟨(by show 3<=sizeLine;decide),λT hT=>?_⟩;refine fin H6 T SV L p s0 lv (hv.drop 1) rs bs0 hT sA (p9.same s36) (sAW.b8 hqs) (sAW.seq hql) (hdl.same sAW) (.of (by rw [aj hdp.symm];exact hp6)) ?_ (by lia) um hmo (by rw [hbs];exact List.sublist_cons_self ..) (.inr (.inr (by rw [hbs];simp)));rw [hbs] at hdh;cases hdh with
     | cons _ t=>exact t.same sAW
   ·exact bf ⟨_,rfl,SV,_,0,_,rfl,rfl,hs3,rfl,_,_,rfl,rfl,_,rfl,SV,_,1,_,rfl,rfl,hs3,rfl,(by show 2<=sizeLine;decide),λt ht=>⟨_,rfl,_,rfl,(by show 3<=sizeLine;decide),λT hT=>els H3 t T (af.refl H3) ht hT⟩⟩
  intro H4 ⟨lv',rs',hN⟩;refine ⟨_,rfl,_,rfl,_,rfl,(by show 3<=sizeLine;decide),λT hT=>?_⟩;have s4W:af (wo d H) (wo d H4):=bN a7 hN.sA;exact fin H4 T SV FO HD s0 lv' hv rs' bs hT hN.sA hN.dk (s4W.b8 hqs) (.of (by rw [aj hdF.symm];exact hN.fo)) hN.dn (s4W.seq hqh) (hdh.same s4W) hN.rl hN.lo hN.mo (List.Sublist.refl _) (.inr (.inl hN.ne))
def oO (K:Vz) (A:Ad):Sp:=λvs H Q _=>∃ (x dx:Addr),vs=[.ref x]/\H x=some (.ins A.ie dx [])/\bz A.aq H/\∀ (H':Hp) (fs:List (Str×V)),af (wo x (wo A.aq H)) H'->bz A.aq H'->H' x=some (.ins A.ie dx fs)->Q .non H'
theorem xb:aE ["self"] ["self"] (ak (mIn 57 0)):=⟨rfl,rfl,rfl,by decide +kernel,rfl,by decide +kernel,by decide +kernel⟩
theorem we (T:Tx K mg A):ax P w K mg base CX0 25 A.iH A.lz ["self"] (oO K A):=by
 have lO:ax P w K mg base CX0 23 A.gL A.ib ["self","sieve"] (lj K A):=(qh T).mono (by decide);refine T.vq.fn.ok xb (λvs H Q E h=>?_) (λcdv Ar outer s H vs Q E hr h=>?_)
 ·obtain ⟨x,dx,rfl,_⟩:=h;rfl
 ·obtain ⟨x,dx,rfl,hx,hla,k⟩:=h;obtain ⟨tab,dJ⟩:=aP hla;have hxP:x≠A.aq:=λe=>by rw [<-e,hx] at dJ;cases dJ
  refine ⟨_,ao (jl T.wc T.yo (pv 0) (y6 T.ED lO hr (by rfl) T.Bv T.zV (.cons (show RelV (.ref A.cU) _ from rfl) .nil) ay)),?_⟩;intro g2 dx2 hg2 NF Nv;obtain ⟨Hg2,eq,sg2,Oi⟩:=rF A.aH hg2 NF Nv;rw [eq];refine ⟨g2,A.cU,dx2,3,2,rfl,Oi,T.uw _,aN hla sg2,λH16 B16 pa2 tb2 PB s16 OF xE E2 OW e21 e22 IX=>⟨rfl,?_⟩⟩;have hxg:x≠g2:=λe=>by rw [e,hg2] at hx;cases hx
  have K5:H16 x=some (.ins A.ie dx []):=s16 _ _ (by rw [aj hxg,aj hxP];exact sg2 _ _ hx);refine ⟨_,rfl,x,dx,_,rfl,K5,by decide,?_⟩;refine k _ _ (λc o e=>?_) (BH OF K5) ab;obtain ⟨h1,e⟩:=aD e;obtain ⟨h2,e⟩:=aD e;rw [au h1];exact s16 _ _ (by rw [aj (λz=>by rw [z,hg2] at e;cases e),aj h2];exact sg2 _ _ e)
def wJ (K:Vz) (P:Addr):Sp:=λvs H Q _=>∃ (a:Addr) (ns:List Int),vs=[.ref a]/\SqL K H a (ns.map V.int)/\ns.length<=63/\bz P H/\∀ H',Q (.bl true) H'
structure LI (K:Vz) (A:Ad) (BB B:Hp) (g pa tb:Addr) (v:eE) (H:Hp):Prop where
 sB:af BB H
 la:bz A.aq H
 bp:BB A.aq=none
 b1:B A.aq=none
 lg:bG K A.aH A.aR B H g pa tb v
section
variable {BB B H H':Hp}{g pa tb c:Addr}{v:eE}
def Out (BB B:Hp) (g pa tb c:Addr):Prop:=BB c=none/\B c=none/\c≠g/\c≠pa/\c≠tb
theorem LI.fresh (h:LI K A BB B g pa tb v H) (e:H c=none):Out BB B g pa tb c:=by
 obtain ⟨_,_,_,_,_,_,hg,hpa,htb,sB,_⟩:=id h.lg;exact ⟨h.sB.free e,sB.free e,(λz=>by rw [z,hg] at e;cases e),(λz=>by rw [z,hpa] at e;cases e),λz=>by rw [z,htb] at e;cases e⟩
theorem LI.step (h:LI K A BB B g pa tb v H) (X:Addr->Prop) (hX:∀ c,X c->c=A.aq\/Out BB B g pa tb c) (s:∀ c o,¬ X c->H c=some o->H' c=some o) (la:bz A.aq H'):LI K A BB B g pa tb v H':=by
 obtain ⟨q,hq⟩:=aP h.la;obtain ⟨n1,n2,n3⟩:=h.lg.neT hq;obtain ⟨_,_,_,_,_,_,hg,hpa,htb,sB,_⟩:=id h.lg;refine ⟨λc o e=>s c o (λx=>?_) (h.sB _ _ e),la,h.bp,h.b1,h.lg.to (λc o e=>s c o (λx=>?_) (sB _ _ e)) ((s _ _ (λx=>?_) hg).trans hg.symm) ((s _ _ (λx=>?_) hpa).trans hpa.symm) ((s _ _ (λx=>?_) htb).trans htb.symm)⟩
 ·rcases hX c x with z | z
  ·rw [z,h.bp] at e;cases e
  ·rw [z.1] at e;cases e
 ·rcases hX c x with z | z
  ·rw [z,h.b1] at e;cases e
  ·rw [z.2.1] at e;cases e
 ·rcases hX _ x with z | z
  ·exact n1 z.symm
  ·exact z.2.2.1 rfl
 ·rcases hX _ x with z | z
  ·exact n2 z.symm
  ·exact z.2.2.2.1 rfl
 ·rcases hX _ x with z | z
  ·exact n3 z.symm
  ·exact z.2.2.2.2 rfl
theorem LI.same (h:LI K A BB B g pa tb v H) (s:af H H'):LI K A BB B g pa tb v H':=h.step (λ_=>False) (λ_ x=>x.elim) (λc o _ e=>s _ _ e) (aN h.la s)
theorem LI.pick {d:Addr}{n:Nat} (h:LI K A BB B g pa tb v H) (hd:Out BB B g pa tb d) (dk:Dk H d n) (s:af (wo d H) H'):LI K A BB B g pa tb v H':=by
 obtain ⟨ys,hy⟩:=dk.lst;exact h.step (λc=>c=d) (λc x=>.inr (by rw [x];exact hd)) (λc o n e=>s _ _ (by rw [aj n];exact e)) (dN h.la hy s)
theorem LI.made {d:Addr} (h:LI K A BB B g pa tb v H) (hd:Out BB B g pa tb d) (s:af (wo d (wo A.aq H)) H') (la:bz A.aq H'):LI K A BB B g pa tb v H':=
 h.step (λc=>c=d\/c=A.aq) (λc x=>x.elim (λx=>.inr (by rw [x];exact hd)) .inl) (λc o n e=>s _ _ (by rw [aj λz=>n (.inl z),aj λz=>n (.inr z)];exact e)) la
theorem LI.Dm {g2 pa2:Addr} (h:LI K A BB B g pa tb v H) (h1:Out BB B g pa tb g2) (h2:Out BB B g pa tb pa2) (s:af (wo g2 (wo pa2 (wo A.aq H))) H') (la:bz A.aq H'):LI K A BB B g pa tb v H':=
 h.step (λc=>c=g2\/c=pa2\/c=A.aq) (λc x=>x.elim (λx=>.inr (by rw [x];exact h1)) λx=>x.elim (λx=>.inr (by rw [x];exact h2)) .inl) (λc o n e=>s _ _ (by rw [aj λz=>n (.inl z),aj λz=>n (.inr (.inl z)),aj λz=>n (.inr (.inr z))];exact e)) la
theorem LI.back {g2 pa2 tb2:Addr} (h:LI K A BB B g pa tb v H) (h1:Out BB B g pa tb g2) (h2:Out BB B g pa tb pa2) (h3:Out BB B g pa tb tb2) (s:af (wo g2 (wo pa2 (wo tb2 (wo A.aq H)))) H') (la:bz A.aq H'):LI K A BB B g pa tb v H':=
 h.step (λc=>c=g2\/c=pa2\/c=tb2\/c=A.aq) (λc x=>x.elim (λx=>.inr (by rw [x];exact h1)) λx=>x.elim (λx=>.inr (by rw [x];exact h2)) λx=>x.elim (λx=>.inr (by rw [x];exact h3)) .inl) (λc o n e=>s _ _ (by rw [aj λz=>n (.inl z),aj λz=>n (.inr (.inl z)),aj λz=>n (.inr (.inr (.inl z))),aj λz=>n (.inr (.inr (.inr z)))];exact e)) la
end
theorem He {xs:List V}{lo hi:Option Int}{x:V} (h:x∈px xs lo hi):x∈xs:=by
 unfold px at h
 first
  | exact List.mem_of_mem_drop (Q4 h)
  | exact Q4 (List.mem_of_mem_drop h)
theorem dZ:aE ["script","deck","sieve","lines","moment","line","hand","turn","pattern","log","cell","twin","other","near"] ["script"] (ak (top 69)):=⟨rfl,rfl,rfl,by decide +kernel,rfl,by decide +kernel,by decide +kernel⟩
theorem Kx (F:Fun K "law" "law" (top 69) A.IZ A.Jj) (T:Tx K mg A):ax P w K mg base CX0 27 A.IZ A.Jj ["script"] (wJ K A.aq):=by
 have ql:ax P w K mg base CX0 26 A.kD A.kj ["cell","turn"] (mQ K):=(xm T).mono (by decide);have wK:ax P w K mg base CX0 26 A.j6 A.jC ["deck"] (mM K):=(uI T).mono (by decide);have kT:ax P w K mg base CX0 26 A.lm A.ku ["deck","sieve","lines","hand"] (nW K A):=(xv T).mono (by decide);have wt:ax P w K mg base CX0 26 A.jP A.jX ["deck","most"] (lr K):=(uD T).mono (by decide);have aB:ax P w K mg base CX0 26 A.cg A.cf ["deck","many"] (bY K):=(cA T).mono (by decide);have sQ:ax P w K mg base CX0 26 A.gZ A.g8 ["deck","line"] (j8 K):=(qM T).mono (by decide);have xH:ax P w K mg base CX0 26 A.k5 A.lE ["deck","sieve","lines","hand"] (oE K):=(wD T).mono (by decide);have js:ax P w K mg base CX0 26 A.ik A.jH ["self","moment","line"] (kR K A):=(qo T).mono (by decide);have mT:ax P w K mg base CX0 26 A.ia A.jM ["self"] (lQ K A):=(qv T).mono (by decide);have zh:ax P w K mg base CX0 26 A.iz A.lU ["self"] (oK K A):=(xk T).mono (by decide);have lF:ax P w K mg base CX0 26 A.iL A.iI ["deck","most"] (iQ K):=(oC T).mono (by decide);have xf:ax P w K mg base CX0 25 A.iH A.lz ["self"] (oO K A):=(we T).mono (by decide);have tZ:ax P w K mg base CX0 25 A.l7 A.qa ["self"] (j3 K A):=(Ap T).mono (by decide);have gT:ax P w K mg base CX0 26 A.lB A.o4 ["self","other"] (bq K A):=(uO T).mono (by decide);have eM:ax P w K mg base CX0 24 A.lB A.o4 ["self","other"] (bq K A):=(uO T).mono (by decide);refine F.ok dZ (λvs H Q E h=>?_) (λcdv Ar outer s H vs Q E hr h=>?_)
 ·obtain ⟨a,ns,rfl,_⟩:=h;rfl
 ·obtain ⟨a,ns,rfl,JS,hn,hla,k⟩:=h;refine ⟨_,ag (aY (i:=1) dZ.nd rfl (Or.inl rfl) (av ql hr (by rfl) T.fj.mg T.fj.fn.kp T.fj.bd .nil ay (aa (aU (r:=dE K) aX (bS (r:=uL K) oF (pv 0) (bu (aa (ar) (ae)))) (ar) (λ_ _=>rfl)) (aa (ar) (ae)))))
   (ag (aY (i:=2) dZ.nd rfl (Or.inl rfl) (av wK hr (by rfl) T.ju.mg T.ju.fn.kp T.ju.bd .nil ay (aa (pv 1) (ae))))
   (ag (aY (i:=3) dZ.nd rfl (Or.inl rfl) (bu (ae)))
   (ag (aY (i:=4) dZ.nd rfl (Or.inl rfl) (ar))
   (ag (fZ PassesOwn.never rfl (bh (bS (r:=uL K) oF (av wt hr (by rfl) T.jQ.mg T.jQ.fn.kp T.jQ.bd .nil ay (aa (pv 1) (aa (ar) (ae)))) (bu (aa (av lF hr (by rfl) T.fm.mg T.fm.fn.kp T.fm.bd .nil ay (aa (pv 1) (aa (ar) (ae)))) (ae))))) (aI (i:=5) dZ.nd rfl (Or.inl rfl)) (ag (aY (i:=4) dZ.nd rfl (Or.inl rfl) (bS fV (pv 4) (av aB hr (by rfl) T.ap.mg T.ap.fn.kp T.ap.bd .nil ay (aa (pv 1) (aa (ar) (ae))))))
   (ao (be (cQ PySem.F.plainAttrs_list PySem.F.slot_list_append PySem.F.type_list_append cm (pv 3) (aa (bT (aa (pv 4) (aa (pv 5) (ae)))) (ae)))))))
   (ag (aY (i:=6) dZ.nd rfl (Or.inl rfl) (bu (ae)))
   (ag (fZ PassesOwn.never rfl (dR (by rfl) T.gm (aa (av aB hr (by rfl) T.ap.mg T.ap.fn.kp T.ap.bd .nil ay (aa (pv 1) (aa (ar) (ae)))) (ae))) (aI (i:=7) dZ.nd rfl (Or.inl rfl)) (ag (aY (i:=8) dZ.nd rfl (Or.inl rfl) (av sQ hr (by rfl) T.gp.mg T.gp.fn.kp T.gp.bd .nil ay (aa (pv 1) (aa (aU (r:=eP K) bF (aU (r:=dE K) aX (pv 3) (av aB hr (by rfl) T.ap.mg T.ap.fn.kp T.ap.bd .nil ay (aa (pv 1) (aa (aK (r:=cH K) aV (by rfl) T.cq PySem.boot_len (aa (pv 3) (ae))) (ae)))) (λ_ _=>rfl)) (ar) (λ_ _=>rfl)) (ae)))))
   (ao (a8 (aJ (r:=Gx K true) (CF hr) (pv 8) (pv 6) (by rfl)) (ao (be (cQ PySem.F.plainAttrs_list PySem.F.slot_list_append PySem.F.type_list_append cm (pv 6) (aa (pv 8) (ae))))) (aO)))))
   (ag (aY (i:=9) dZ.nd rfl (Or.inl rfl) (av kT hr (by rfl) T.cW.mg T.cW.fn.kp T.cW.bd .nil ay (aa (pv 1) (aa (pv 2) (aa (pv 3) (aa (pv 6) (ae)))))))
   (ag (fZ PassesOwn.never rfl (bh (JC (lM (r:=HI K) vX (pv 0) (l3 (ar)) (l3 (ar))) (iP (bu (aa (ar) (ae)))))) (aI (i:=10) dZ.nd rfl (Or.inl rfl)) (ag (aY (i:=1) dZ.nd rfl (Or.inl rfl) (av ql hr (by rfl) T.fj.mg T.fj.fn.kp T.fj.bd .nil ay (aa (pv 10) (aa (ar) (ae)))))
   (ag (aY (i:=11) dZ.nd rfl (Or.inl rfl) (av kT hr (by rfl) T.cW.mg T.cW.fn.kp T.cW.bd .nil ay (aa (pv 1) (aa (pv 2) (aa (pv 3) (aa (pv 6) (ae)))))))
   (ag (a8 ((pw_or (dD (aJ (r:=yZ A.aH (bq K A)) (mW T.bL gT hr T.d5.bd) (pv 9) (pv 11) (aG _))) (pw_or (dD (aJ (r:=yZ A.aH (bq K A)) (mW T.bL gT hr T.d5.bd) (pv 11) (pv 9) (aG _))) (pw_or (aJ (r:=xj K A.aH (bq K A)) (lP T.bL T.kX eM hr T.d5.bd) (pv 9) (pv 11) (aG _)) (pw_or1 (aJ (qC) (aK (r:=E4 A.aH (j3 K A)) (uR T.rY tZ hr T.wN.bd) (by rfl) T.cq PySem.boot_len (aa (pv 11) (ae))) (aK (r:=cH K) aV (by rfl) T.cq PySem.boot_len (aa (pv 3) (ae))) (aG _)))))).pt) (ao (aC (jg))) (aO))
   (ag (aY (i:=12) dZ.nd rfl (Or.inl rfl) (av xH hr (by rfl) T.l4.mg T.l4.fn.kp T.l4.bd .nil ay (aa (pv 1) (aa (pv 2) (aa (pv 3) (aa (pv 6) (ae)))))))
   (ag (aY (i:=13) dZ.nd rfl (Or.inl rfl) (av kT hr (by rfl) T.cW.mg T.cW.fn.kp T.cW.bd .nil ay (aa (pv 1) (aa (aU (r:=eP K) bF (pv 12) (ar) (λ_ _=>rfl)) (aa (aU (r:=eP K) bF (pv 12) (ar) (λ_ _=>rfl)) (aa (aU (r:=eP K) bF (pv 12) (ar) (λ_ _=>rfl)) (ae)))))))
   (ag (a8 ((pw_or (aJ (r:=yZ A.aH (bq K A)) (mW T.bL gT hr T.d5.bd) (pv 9) (pv 13) (aG _)) (pw_or (aJ (r:=yZ A.aH (bq K A)) (mW T.bL gT hr T.d5.bd) (pv 13) (pv 9) (aG _)) (pw_or (dD (aJ (r:=xj K A.aH (bq K A)) (lP T.bL T.kX eM hr T.d5.bd) (pv 9) (pv 13) (aG _))) (pw_or1 (aJ (qC) (aK (r:=E4 A.aH (j3 K A)) (uR T.rY tZ hr T.wN.bd) (by rfl) T.cq PySem.boot_len (aa (pv 13) (ae))) (aK (r:=cH K) aV (by rfl) T.cq PySem.boot_len (aa (aU (r:=eP K) bF (pv 12) (ar) (λ_ _=>rfl)) (ae))) (aG _)))))).pt) (ao (aC (jg))) (aO))
   (ag (be (fF (pv 11) T.aM T.kK js hr T.nL.bd .nil ay (aa (pv 4) (aa (aL) (ae)))))
   (ag (a8 (aJ (r:=yZ A.aH (bq K A)) (mW T.bL gT hr T.d5.bd) (pv 9) (pv 11) (aG _)) (ao (aC (jg))) (aO))
   (ag (be (je (pv 11) T.aM T.qG mT hr T.rH.bd .nil ay))
   (ag (a8 (aJ (r:=xj K A.aH (bq K A)) (lP T.bL T.kX eM hr T.d5.bd) (pv 9) (pv 11) (aG _)) (ao (aC (jg))) (aO))
   (ag (be (je (pv 11) T.aM T.wk zh hr T.vQ.bd .nil ay))
   (ao (a8 (aJ (r:=yZ A.aH (bq K A)) (mW T.bL gT hr T.d5.bd) (pv 9) (pv 11) (aG _)) (ao (aC (jg))) (aO)))))))))))))))
   (ao (aC (fg (bJ (r:=yZ A.aH (bq K A)) (mW T.bL gT hr T.d5.bd) (pv 9) (pv 9) (aG _)) (fg (bJ (r:=xj K A.aH (bq K A)) (lP T.bL T.kX eM hr T.d5.bd) (pv 9) (aL) (aG _)) (fg (bJ (r:=xj K A.aH (bq K A)) (lP T.bL T.kX eM hr T.d5.bd) (pv 9) (ar) (aG _)) (fg (bJ (r:=xj K A.aH (bq K A)) (lP T.bL T.kX eM hr T.d5.bd) (pv 9) (bu (ae)) (aG _)) (fg (bJ (r:=xj K A.aH (bq K A)) (lP T.bL T.kX eM hr T.d5.bd) (pv 9) (y6 T.Ii xf hr (by rfl) T.J7 T.vq.bd .nil ay) (aG _)) (iP (bJ (r:=xj K A.aH (bq K A)) (lP T.bL T.kX eM hr T.d5.bd) (pv 9) (bT (aa (pv 2) (aa (pv 3) (aa (pv 6) (ae))))) (aG _)))))))))))))))))),?_⟩
  refine ⟨_,rfl,(by show 1<=sizeLine;decide),λp hp=>⟨a,p,_,_,rfl,rfl,(af.new hp).seq JS,.of ab,?_,λq hq=>?_⟩⟩
  ·rw [PQ];exact P2 (QZ hn 1) (by decide)
  have sq:af H (upd (upd H p (.lst [.int 0])) q (.lst (ns.map V.int++[V.int 0]))):=(af.new hp).trans (af.new hq);have hqq:(upd (upd H p (.lst [.int 0])) q (.lst (ns.map V.int++[V.int 0]))) q=some (.lst (ns.map V.int++[V.int 0])):=ab;generalize upd (upd H p (.lst [.int 0])) q (.lst (ns.map V.int++[V.int 0]))=H1 at sq hqq ⊢;obtain ⟨c0,hc0⟩:∃ c0:Int,atI (ns.map V.int++[V.int 0]) 0=some (.int c0):=by
   cases ns with
   | nil=>exact ⟨0,rfl⟩
   | cons c r=>exact ⟨c,cL (j:=0) rfl⟩
  refine ⟨q,_,0,_,rfl,rfl,.of hqq,hc0,c0,0,rfl,by decide,λd H2 hd s2 dk2=>?_⟩;have s02:=sq.trans s2;have la2:=aN hla s02;have IP:SqL K (wo d H2) a (ns.map V.int):=(bN hd s2).seq (sq.seq JS);clear hqq hq hp sq hd hla JS s2 s02;obtain ⟨zs2,hd2⟩:=dk2.lst;refine ⟨_,rfl,d,_,rfl,dk2,by decide,λSV sv lv H3 hSV s3 dk3 hS3=>?_⟩;have la3:=dN la2 hd2 s3;have hdS:d≠SV:=dk2.ne hSV;have s23:=s3;refine ⟨Qb _,λL hL=>?_⟩;have s4:af H3 (upd H3 L (.lst [])):=af.new hL;have hL4:(upd H3 L (.lst [])) L=some (.lst []):=ab;have hdL:d≠L:=dk3.ne hL;have hSL:SV≠L:=λe=>by rw [<-e,hS3] at hL;cases hL
  generalize upd H3 L (.lst [])=H4 at s4 hL4 ⊢;have dk4:=dk3.same s4;obtain ⟨zs4,hd4⟩:=dk4.lst;have la4:=aN la3 s4;have hS4:=s4 _ _ hS3;refine ⟨_,rfl,d,10,_,rfl,dk4,by decide,by decide,by decide,λD zs H5 hD s5 dk5 hD5 hls hll=>?_⟩;have la5:=dN la4 hd4 s5;have hL5:H5 L=_:=cs s5 hL4 hdL;have hS5:H5 SV=_:=cs s5 hS4 hdS;obtain ⟨zs5,hd5⟩:=dk5.lst;have hdD:d≠D:=dk4.ne hD;have hDL:D≠L:=λe=>by rw [e,hL4] at hD;cases hD
  refine ⟨_,rfl,d,3,_,rfl,dk5,by decide,by decide,by decide,λz ws H6 s6 dk6 hln=>?_⟩;have la6:=dN la5 hd5 s6;have hL6:H6 L=_:=cs s6 hL5 hdL;have hS6:H6 SV=_:=cs s6 hS5 hdS;have hD6:H6 D=_:=cs s6 hD5 hdD;refine ⟨(by show 1<=sizeLine;decide),λll LO=>?_⟩;have s7:af H6 (upd H6 ll (.lst [.str z])):=af.new LO;have hl7:(upd H6 ll (.lst [.str z])) ll=some (.lst [.str z]):=ab;generalize upd H6 ll (.lst [.str z])=H7 at s7 hl7 ⊢;have hzl:zs.length<=10:=hll;refine ⟨D,ll,_,_,rfl,rfl,.of (s7 _ _ hD6),.of hl7,P2 (show (zs.map V.str).length+1<=100 by rw [PQ];lia) (by decide),λZ hZ=>⟨Z,rfl,⟨_,.of ab⟩,?_⟩⟩;obtain ⟨H8,eq,s8,hZ8⟩:=dz (.lst (zs.map V.str++[.str z])) hZ;rw [eq];rw [show zs.map V.str++[V.str z]=(zs++[z]).map V.str by rw [Qa];rfl] at hZ8;have Iq:∀ x∈zs++[z],∃ ws,nE 12 x ws:=λx hx=>by
   rcases Qc.mp hx with hx | hx
   ·exact hls x hx
   ·rw [PZ.mp hx];exact ⟨ws,hln.eq,hln.pos,P2 hln.le (by decide),hln.wd⟩
  have MQ:(zs++[z]).length<=11/\1<=(zs++[z]).length:=by rw [PX,P8];lia
  generalize zs++[z]=zs' at hZ8 Iq MQ ⊢;have s68:=s7.trans s8;have dk8:=dk6.same s68;have la8:=aN la6 s68;have hL8:=s68 _ _ hL6;have hS8:=s68 _ _ hS6;have hLZ:Z≠L:=λe=>by rw [e,s7 _ _ hL6] at hZ;cases hZ
  have hdZ:d≠Z:=(dk6.same s7).ne hZ;have mv:∀ {Ha Hb:Hp},af (wo d Ha) Hb->af (wo L (wo d Ha)) (wo L (wo d Hb)):=λ{Ha Hb} s c o e=>by
   obtain ⟨h1,e⟩:=aD e;have:=aD e;rw [aj h1,aj this.1];exact s _ _ e
  have IW:SqL K (wo L (wo d H4)) a (ns.map V.int):=by
   refine af.seq (λc o e=>?_) ((bN a7 s3).seq IP);have:=aD e;rw [aj (λz=>by rw [z,hL] at this;cases this.2),aj this.1];exact s4 _ _ this.2
  have IY:SqL K (wo L (wo d H8)) a (ns.map V.int):=(mv (aZ.trans s68)).seq ((mv s6).seq ((mv s5).seq IW));obtain ⟨Pg,vd⟩:=aP la8;have hdP:d≠A.aq:=λe=>by
   obtain ⟨ys,hy⟩:=dk8.lst;rw [e,vd] at hy;cases hy
  have hLP:L≠A.aq:=λe=>by rw [e,vd] at hL8;cases hL8
  have F8:SqL K (wo L (wo d (wo A.aq H8))) a (ns.map V.int):=by
   have h1:=lV (P:=A.aq) (by rw [aj hLP.symm,aj hdP.symm];exact vd) IY;refine af.seq (λc o e=>?_) h1;obtain ⟨a1,e⟩:=aD e;obtain ⟨a2,e⟩:=aD e;obtain ⟨a3,e⟩:=aD e;rw [aj a2,aj a3,aj a1];exact e
  clear hln hls hll hD6 hD5 hL6 hS6 s7 s8 hl7 LO hZ s6 s5 la6 la5 la4 la3 la2 dk2 dk3 dk4 dk5 dk6 hd2 hd4 hd5 hL4 hL5 hS5 hS4 hS3 hSV hD hL s3 s23 s4 s68 IP mv IY IW;have stB:∀ {c:Addr}{o:HO},H8 c=some o->c≠L->c≠d->c≠A.aq->(wo L (wo d (wo A.aq H8))) c=some o:=λ{c o} e h1 h2 h3=>by rw [aj h1,aj h2,aj h3];exact e
  have hW:(wo L (wo d (wo A.aq H8))) L=none/\(wo L (wo d (wo A.aq H8))) d=none/\(wo L (wo d (wo A.aq H8))) A.aq=none:=⟨a7,by rw [aj hdL,a7],by rw [aj hLP.symm,aj hdP.symm,a7]⟩;have hWZ:=stB hZ8 hLZ hdZ.symm λe=>by rw [e,vd] at hZ8;cases hZ8
  have hWS:=stB hS8 hSL hdS.symm λe=>by rw [e,vd] at hS8;cases hS8
  have sW8:af (wo L (wo d (wo A.aq H8))) H8:=aZ.trans (aZ.trans aZ);generalize wo L (wo d (wo A.aq H8))=W at stB hW hWZ hWS sW8 F8;refine jr (K:=K) (xs:=zs'.map V.str) (λi σ H9=>∃ (m:Int) (u5:Option V) (lv':List V) (rs:List (Int×Str)),σ=[some (.ref a),some (.ref d),some (.ref SV),some (.ref L),some (.int m),u5,none,none,none,none,none,none,none,none]/\af W H9/\bz A.aq H9/\Dk H9 d (2083+i)/\H9 L=some (.lst lv')/\aA K (wo L (wo d H9)) lv' (rs.map eL)/\rs.map (·.2)=zs'.take i/\rs.Pairwise (λa b=>a.1<=b.1)/\∀ q∈rs,q.1<=m) ⟨0,none,[],[],rfl,sW8,la8,dk8,hL8,.nil,rfl,.nil,λq hq=>by cases hq⟩ (λi σ H9 _ q=>.of (by obtain ⟨_,_,_,_,_,h,_⟩:=q;exact h _ _ hWZ)) (λi x σ H9 hx q=>?_) (λσ H9 q=>?_)
  ·obtain ⟨m,u5,lv',rs,rfl,s9,la9,dk9,hL9,dn9,hrs,hpw,hm⟩:=q;obtain ⟨y,hy,rfl⟩:=fG hx;have hi:=aW hy;have hrl:rs.length=i:=by
    have:=congrArg List.length hrs;rw [PQ,Qg] at this;lia
   have hlv:lv'.length=i:=by rw [dn9.length,PQ];exact hrl
   obtain ⟨wy,hwy⟩:=Iq y (PU hy);refine ⟨_,rfl,_,rfl,d,2,_,rfl,dk9,by lia,by decide,by decide,λr H10 s10 yV r0 r1=>⟨_,_,rfl,rfl,?_⟩⟩;obtain ⟨yd,hyd⟩:=dk9.lst;have GU:H10 L=_:=cs s10 hL9 hdL;refine ⟨_,rfl,.inl ⟨rfl,_,.of GU⟩,_,rfl,_,rfl,(by show 2<=sizeLine;decide),λt ht=>?_⟩;have htL:t≠L:=λe=>by rw [e,GU] at ht;cases ht
   have htd:t≠d:=(yV.ne ht).symm;refine ⟨L,lv',_,rfl,rfl,af.new ht _ _ GU,small (by lia),m+r,_,lv'++[.ref t],rs++[(m+r,y)],rfl,?_,fC (aN (dN la9 hyd s10) (af.new ht)) (af.new ht _ _ GU),?_,ab,?_,?_,pw_snoc hpw (λq hq=>by have:=hm q hq;lia),λq hq=>?_⟩
   ·have:af W H10:=λc o e=>s10 _ _ (by rw [aj λz=>by rw [z,hW.2.1] at e;cases e];exact s9 _ _ e);exact aF hW.1 (this.trans (af.new ht))
   ·exact (yV.same (af.new ht)).upd hdL
   ·rw [Qa];have sC:af (wo L (wo d H9)) (wo L (wo d (upd (upd H10 t (.tup [.int (m+r),.str y])) L (.lst (lv'++[.ref t]))))):=λc o e=>by
     obtain ⟨h1,e⟩:=aD e;have e':=e;obtain ⟨h2,e⟩:=aD e;have e10:H10 c=some o:=s10 _ _ e';rw [aj h1,aj h2,au h1,au λz=>by rw [z,ht] at e10;cases e10];exact e10
    refine (dn9.same sC).append (.cons (.tup (.of ?_) (.cons (.int _) (.cons (.str (hwy.to.ok (by decide)).1) .nil))) .nil);rw [aj htL,aj htd,au htL];exact ab
   ·rw [Qa,hrs,Qn,hy];rfl
   ·rcases Qc.mp hq with hq | hq
    ·have:=hm q hq;lia
    ·rw [PZ.mp hq];exact RL _
  obtain ⟨m,u5,lvs,rs,rfl,s9,la9,dk9,hL9,dn9,hrs,hpw,hm⟩:=q;rw [PQ,P4 (PR _)] at hrs;rw [PQ] at dk9;have hrl:rs.length=zs'.length:=by rw [<-hrs,PQ]
  have hlo:∀ q∈rs,∃ ws,nE 12 q.2 ws:=λq hq=>Iq _ (by rw [<-hrs];exact P9.mpr ⟨q,hq,rfl⟩);have hrb:1<=rs.length/\rs.length<=11:=by lia
  have hWL:W L=none:=hW.1;have sW9:af W (wo d (wo A.aq H9)):=λc o e=>by
   rw [aj (λz=>by rw [z,hW.2.1] at e;cases e),aj (λz=>by rw [z,hW.2.2] at e;cases e)];exact s9 _ _ e
  obtain ⟨Pa,Jc⟩:=aP la9;have hV:(wo d (wo A.aq H9)) d=none/\(wo d (wo A.aq H9)) A.aq=none:=⟨a7,by rw [aj hdP.symm,a7]⟩;have hVL:(wo d (wo A.aq H9)) L=some (.lst lvs):=by rw [aj hdL.symm,aj hLP];exact hL9
  have dnV:aA K (wo d (wo A.aq H9)) lvs (rs.map eL):=by
   refine (jk (P:=A.aq) (by rw [aj hLP.symm,aj hdP.symm];exact Jc) dn9).same λc o e=>?_;obtain ⟨a1,e⟩:=aD e;obtain ⟨a2,e⟩:=aD e;obtain ⟨a3,e⟩:=aD e;rw [aj a3,aj a1];exact e
  have sV9:af (wo d (wo A.aq H9)) H9:=aZ.trans aZ;have hVS:=sW9 _ _ hWS;have Ew:=sW9.seq F8;generalize wo d (wo A.aq H9)=V9 at sW9 hV hVL dnV sV9 hVS Ew;clear F8 hWS hWZ hWL hW stB sW8 sW9 s9 hrs Iq hZ8 hL8 hS8 la8 dk8 vd MQ dn9;refine ⟨Qb _,λHD hHD=>?_⟩;have hdH:d≠HD:=dk9.ne hHD;have hVH:V9 HD=none:=sV9.free hHD;obtain ⟨H10,eq,sH,L4⟩:=dz (.lst []) hHD;rw [eq];have yV:=dk9.same sH;obtain ⟨yd,hyd⟩:=yV.lst;refine ⟨_,rfl,d,4,_,rfl,yV,by lia,by decide,by decide,λcnt H11 s11 G6 c0' c4=>?_⟩;have Dy:=dN (aN la9 sH) hyd s11;have MB:H11 HD=_:=cs s11 L4 hdH;have Mn:af V9 H11:=λc o e=>s11 _ _ (by rw [aj λz=>by rw [z,hV.1] at e;cases e];exact sH _ _ (sV9 _ _ e));refine ⟨cnt,rfl,by lia,by lia,?_⟩;refine me (λj σ H12=>∃ (u7 u8:Option V) (hv:List V) (bs:List (List Pt)),σ=[some (.ref a),some (.ref d),some (.ref SV),some (.ref L),some (.int m),u5,some (.ref HD),u7,u8,none,none,none,none,none]/\af V9 H12/\bz A.aq H12/\Dk H12 d (3000+100 * j)/\H12 HD=some (.lst hv)/\aA K (wo HD (wo d H12)) hv (bs.map bj)/\bs.Nodup/\ou bs/\bs.length<=j) ⟨none,none,[],[],rfl,Mn,Dy,G6.mono (by lia),MB,.nil,List.nodup_nil,(λq hq=>by cases hq),PR _⟩ (λj σ H12 hj q=>?_) (λσ H12 q=>?_)
  ·obtain ⟨u7,u8,hv,bs,rfl,s12,EW,EQ,Ct,FF,hnd,hpo,hbl⟩:=q;have hj4:j<4:=by lia
   have hhv:hv.length=bs.length:=by rw [FF.length,PQ]
   have hlv:lvs.length=rs.length:=by rw [dnV.length,PQ]
   have N5:=s12 _ _ hVL;refine ⟨_,rfl,_,rfl,_,rfl,_,rfl,L,_,rfl,.inl (.of N5),d,(lvs.length:Int),_,rfl,EQ,by lia,by lia,by lia,λr H13 s13 AX r0 r1=>?_⟩;obtain ⟨i,rfl⟩:∃ i:Nat,r=(i:Int):=⟨r.toNat,(RP r0).symm⟩;have hx:lvs[i]? = some lvs[i]:=PV (by lia);obtain ⟨q,ty,hq,ex,hqp,hqo⟩:=gY dnV hx;have hat:atI lvs (i:Int)=some (.ref ty):=by rw [cL hx,ex]
   obtain ⟨yd,hyd⟩:=EQ.lst;have HR:=dN EW hyd s13;have CP:af V9 H13:=λc o e=>s13 _ _ (by rw [aj λz=>by rw [z,hV.1] at e;cases e];exact s12 _ _ e);have LR:H13 HD=_:=cs s13 Ct hdH;obtain ⟨wq,hwq⟩:=hlo q (PU hq);have hql:=(hwq.to.ok (by decide)).2;refine ⟨L,lvs,(i:Int),_,rfl,rfl,.of (CP _ _ hVL),hat,ty,_,1,_,rfl,rfl,CP.b8 hqp,rfl,d,q.2,_,rfl,AX,by lia,by lia,hqo,λF H14 ps hF s14 JQ pok hdr hys dX=>?_⟩;obtain ⟨yd3,MV⟩:=AX.lst;have LV:=dN HR MV s14;have Lv:af V9 H14:=λc o e=>s14 _ _ (by rw [aj λz=>by rw [z,hV.1] at e;cases e];exact CP _ _ e);have F6:H14 HD=_:=cs s14 LR hdH;have mvH:∀ {Ha Hb:Hp},af (wo d Ha) Hb->af (wo HD (wo d Ha)) (wo HD (wo d Hb)):=λ{Ha Hb} s c o e=>by
    obtain ⟨h1,e⟩:=aD e;have:=aD e;rw [aj h1,aj this.1];exact s _ _ e
   have JV:=FF.same ((mvH s13).trans (mvH s14));have sP:af (lim H13 H14) (wo HD (wo d H14)):=λc o e=>by
    have hn:=iA e;rw [bV hn] at e;rw [aj (λz=>hn _ (by rw [z];exact LR)),aj (λz=>hn _ (by rw [z];exact MV))];exact e
   have Jh:=dX.same sP;rw [hwq.split] at hdr;have Mw:PW ps:=Eo (λw hw=>(hwq.wd w hw).to) hdr;have hpl:ps.length=wq.length:=hdr.1;have hwp:=hwq.pos;have hwl:=hwq.le;have hpn:ps≠[]:=λe=>by rw [e] at hpl;simp at hpl;lia
   have Nq:∀ p∈ps,p.ok:=λp hp=>(Mw p hp).okP.1;have GY:∀ q∈bs,∀ p∈q,p.ok:=λq hq p hp=>((hpo q hq).1 p hp).okP.1;have sU:af (wo HD (wo d H14)) H14:=aZ.trans aZ;have IK:Dk H14 d (3000+100 * (j+1)):=JQ.mono (by lia);refine ⟨_,rfl,_,rfl,_,_,.lst (.of F6) (JV.same sU),Jh.same sU,P2 (tL _) (by decide),_,rfl,?_⟩;rw [if_pos rfl,Bj GY Nq];by_cases EM:ps∈bs
   ·rw [decide_eq_true EM];exact bf ⟨_,_,hv,bs,rfl,Lv,LV,IK,F6,JV,hnd,hpo,Nat.le_succ_of_le hbl⟩
   ·rw [decide_eq_false EM];refine ck ⟨_,rfl,.inl ⟨rfl,_,.of F6⟩,_,rfl,HD,hv,_,rfl,rfl,F6,small (by lia),_,_,hv++[.ref F],bs++[ps],rfl,aF hVH Lv,fC LV F6,IK.upd hdH,ab,?_,?_,λq hq=>?_,?_⟩
    ·rw [Qa];have sC:af (wo HD (wo d H14)) (wo HD (wo d (upd H14 HD (.lst (hv++[.ref F]))))):=λc o e=>by
      obtain ⟨h1,e⟩:=aD e;obtain ⟨h2,e⟩:=aD e;rw [aj h1,aj h2,au h1];exact e
     exact (JV.same sC).append (.cons (Jh.same sC) .nil)
    ·rw [Q3];exact ⟨hnd,by simp,λx hx y hy e=>EM (by rw [PZ.mp hy] at e;rw [<-e];exact hx)⟩
    ·rcases Qc.mp hq with hq | hq
     ·exact hpo q hq
     ·rw [PZ.mp hq];exact ⟨Mw,hpn,by lia⟩
    ·rw [PX,P8];lia
  obtain ⟨u7,u8,hv,bs,rfl,s12,EW,EQ,Ct,FF,hnd,hpo,hbl⟩:=q;have Kq:bs.length<=4:=by lia
  have Jf:Dk H12 d 4000:=EQ.mono (by lia);obtain ⟨OZ,xc⟩:=aP EW;have hHP:HD≠A.aq:=λe=>by rw [e,xc] at Ct;cases Ct
  have sVU:af V9 (wo d (wo A.aq H12)):=λc o e=>by
   rw [aj (λz=>by rw [z,hV.1] at e;cases e),aj (λz=>by rw [z,hV.2] at e;cases e)];exact s12 _ _ e
  have hUP:(wo d (wo A.aq H12)) A.aq=none:=by rw [aj hdP.symm,a7]
  have hUH:(wo d (wo A.aq H12)) HD=some (.lst hv):=by rw [aj hdH.symm,aj hHP];exact Ct
  have dnU:aA K (wo d (wo A.aq H12)) hv (bs.map bj):=by
   refine (jk (P:=A.aq) (by rw [aj hHP.symm,aj hdP.symm];exact xc) FF).same λc o e=>?_;obtain ⟨a1,e⟩:=aD e;obtain ⟨a2,e⟩:=aD e;obtain ⟨a3,e⟩:=aD e;rw [aj a3,aj a1];exact e
  have hUL:=sVU _ _ hVL;have hUS:=sVU _ _ hVS;have yc:=dnV.same sVU;have Gh:=sVU.seq Ew;have sUd:af (wo d (wo A.aq H12)) (wo d H12):=λc o e=>by
   obtain ⟨a1,e⟩:=aD e;obtain ⟨a2,e⟩:=aD e;rw [aj a1];exact e
  refine ⟨_,rfl,_,rfl,_,rfl,_,rfl,d,SV,L,HD,4000,sv,lv,lvs,hv,rs,bs,rfl,Jf,by decide,.of (sUd _ _ hUS),.of (sUd _ _ hUL),yc.same sUd,.of (sUd _ _ hUH),dnU.same sUd,by lia,(λq hq=>let ⟨ws,h⟩:=hlo q hq;⟨ws,h.to⟩),hpw,hnd,Kq,hpo,EW,λH13 B g pa tb v hg hpa htb s13 HR AX mu es el er eb ko pl lg=>?_⟩;have hLI:LI K A (wo d (wo A.aq H12)) B g pa tb v H13:=⟨s13,HR,hUP,mu _ _ xc (.inr (.inr ⟨_,rfl⟩)),lg⟩;generalize wo d (wo A.aq H12)=U at sVU hUP hUH dnU hUL hUS yc Gh sUd s13 hLI;clear sUd s13 mu lg AX HR hg hpa htb FF Ct EQ Jf EW s12 xc hVH MB Mn Dy G6 s11 hyd yV L4 sH hHD hL9 dk9 la9 Jc Ew hVS dnV hVL hV sV9 sVU;refine ⟨λx H14=>∃ (Z:Addr) (cells:List V),x = .ref Z/\H14 Z=some (.lst cells)/\(∀ x∈cells,∃ c:Int,x = .int c)/\LI K A U B g pa tb v H14/\Out U B g pa tb Z,λx H14 ⟨Z,cells,ex,hZ,hcm,C9,hO⟩=>?_,?_⟩
  case refine_2=>
   refine ⟨_,rfl,(1:Int),rfl,(7:Int),rfl,a,_,rfl,hLI.sB.seq Gh,λZ hZ=>?_⟩;have hcm:∀ x∈px (ns.map V.int) (some 1) (some 7),∃ c:Int,x = .int c:=λx hx=>by
    obtain ⟨c,_,rfl⟩:=P9.mp (He hx);exact ⟨c,rfl⟩
   generalize px (ns.map V.int) (some 1) (some 7)=DU at hcm;have hO:=hLI.fresh hZ;have hLI:=hLI.same (af.new (o:=.lst DU) hZ);refine ⟨_,.inl ⟨_,.of ab,rfl⟩,?_⟩;by_cases hce:DU.isEmpty=true
   ·rw [hce];exact bf ⟨(by show 1<=sizeLine;decide),λZ2 hZ2=>⟨Z2,_,rfl,ab,λx hx=>⟨0,PZ.mp hx⟩,hLI.same (af.new hZ2),hLI.fresh hZ2⟩⟩
   ·rw [Qe.mpr hce];exact ck ⟨Z,_,rfl,ab,hcm,hLI,hO⟩
  clear hLI;refine ⟨Z,ex,⟨_,.of hZ⟩,?_⟩;have sUZ:af U (upd U Z (.lst cells)):=af.new hO.1;have hZP:Z≠A.aq:=λe=>by
   obtain ⟨q,hq⟩:=aP C9.la;rw [e,hq] at hZ;cases hZ
  have hLI:LI K A (upd U Z (.lst cells)) B g pa tb v H14:=by
   refine ⟨λc o e=>?_,C9.la,by rw [au hZP.symm];exact hUP,C9.b1,C9.lg⟩;by_cases h1:c=Z
   ·rw [h1,ab] at e;cases e;rw [h1];exact hZ
   ·rw [au h1] at e;exact C9.sB _ _ e
  have hUZ:(upd U Z (.lst cells)) Z=some (.lst cells):=ab;have hUL:=sUZ _ _ hUL;have hUS:=sUZ _ _ hUS;have hUH:=sUZ _ _ hUH;have dnU:=dnU.same sUZ;have yc:=yc.same sUZ;generalize upd U Z (.lst cells)=U2 at hLI hUZ hUL hUS hUH dnU yc;clear sUZ C9 hZ hUP hO Gh;have um:∀ q∈rs,∃ ws,fX 12 q.2 ws:=λq hq=>let ⟨ws,h⟩:=hlo q hq;⟨ws,h.to⟩;have hnf:PySem.W.notFirst K A.aH (.ref A.aH)=true:=by unfold PySem.W.notFirst;rw [beq_self_eq_true];rfl
  refine jr (K:=K) (xs:=cells) (λi σ H15=>(∃ u1 u5 u7 u8 u10 u11 u12 u13,σ=[some (.ref a),u1,some (.ref SV),some (.ref L),some (.int m),u5,some (.ref HD),u7,u8,some (.ref g),u10,u11,u12,u13])/\LI K A U2 B g pa tb v H15) ⟨⟨_,_,_,_,_,_,_,_,rfl⟩,hLI⟩ (λi σ H15 _ q=>.of (q.2.sB _ _ hUZ)) (λi x σ H15 hx q=>?_) (λσ H15 q=>?_)
  ·obtain ⟨c,rfl⟩:=hcm x (PU hx);clear hLI;obtain ⟨q0,hLI⟩:=q;apply L3 q0;clear q0;intro u1 u5 u7 u8 u10 u11 u12 u13;refine ⟨_,rfl,c,1110,rfl,by decide,λe H1 he s1 dk1=>?_⟩;have oe:=hLI.fresh he;have hLI:=hLI.same s1;clear s1 he;have sW1:af U2 (wo e H1):=bN oe.1 hLI.sB;refine ⟨_,rfl,_,rfl,_,rfl,_,rfl,e,SV,L,HD,1110,sv,lv,lvs,hv,rs,bs,rfl,dk1,by decide,.of (sW1 _ _ hUS),.of (sW1 _ _ hUL),yc.same sW1,.of (sW1 _ _ hUH),dnU.same sW1,by lia,um,hpw,hnd,Kq,hpo,hLI.la,λH2 B2 g2 pa2 tb2 v2 hg2 xE E2 s2 la2 dk2 mu2 es2 el2 er2 eb2 ko2 pl2 lg2=>?_⟩;have og:=hLI.fresh hg2;have op:=hLI.fresh xE;have ot:=hLI.fresh E2;obtain ⟨ye,hye⟩:=dk1.lst;obtain ⟨Pj,IC⟩:=aP hLI.la;have oe2:Out (λ_=>none) B2 g2 pa2 tb2 e:=⟨rfl,mu2 _ _ hye (.inl ⟨_,rfl⟩),(λz=>by rw [<-z,hye] at hg2;cases hg2),(λz=>by rw [<-z,hye] at xE;cases xE),λz=>by rw [<-z,hye] at E2;cases E2⟩;have hTw:LI K A (λ_=>none) B2 g2 pa2 tb2 v2 H2:=⟨(λc o e=>by cases e),la2,rfl,mu2 _ _ IC (.inr (.inr ⟨_,rfl⟩)),lg2⟩;have hLI:=hLI.made oe s2 la2;have ebs:v.cur.bs=v2.cur.bs:=yb (eb.trans eb2.symm) ko ko2;have E12:=v3 (v:=v) (w:=v2) (es.trans es2.symm) (el.trans el2.symm) (er.trans er2.symm) ebs;have E21:=v3 (v:=v2) (w:=v) (es2.trans es.symm) (el2.trans el.symm) (er2.trans er.symm) ebs.symm;unfold eqE at E12 E21;clear s2 mu2 lg2 IC hg2 xE E2 la2 hye dk1 sW1;obtain ⟨dx,t1,st1,ah1,hg1⟩:=hLI.lg.gg;obtain ⟨dx2,t2,st2,ah2,hg2⟩:=hTw.lg.gg;refine ⟨_,rfl,_,rfl,g,g2,dx,_,dx2,_,rfl,rfl,hg1,hg2,.inl ⟨B,B2,g,pa,tb,g2,pa2,tb2,v,v2,rfl,hLI.lg,hTw.lg,_,rfl,_,rfl,?_⟩⟩;rw [E12];refine bf ⟨_,rfl,_,rfl,g2,g,dx2,_,dx,_,rfl,rfl,hg2,hg1,.inl ⟨B2,B,g2,pa2,tb2,g,pa,tb,v2,v,rfl,hTw.lg,hLI.lg,_,rfl,_,rfl,?_⟩⟩;rw [E21];refine bf ⟨_,rfl,_,rfl,g,dx,_,.ref A.aH,rfl,hg1,T.t9.ty T.aM hg2,hnf,.inl ⟨B,B2,g,pa,tb,g2,pa2,tb2,v,v2,rfl,hLI.lg,hTw.lg,_,rfl,_,rfl,?_⟩⟩;rw [E12];refine bf ⟨_,rfl,g2,dx2,_,rfl,hg2,B2,g2,pa2,tb2,v2,rfl,hTw.lg,v2.cur.rs.length,rfl,by rw [er2];lia,_,rfl,L,_,rfl,.inl (.of (hLI.sB _ _ hUL)),rfl,_,rfl,?_⟩;rw [er2,show lvs.length=rs.length by rw [yc.length,PQ],decide_eq_true rfl];refine bf ?_;have sW2:af U2 (wo e H2):=bN oe.1 hLI.sB;refine ⟨_,rfl,_,rfl,_,rfl,_,rfl,e,SV,L,HD,_,sv,lv,lvs,hv,rs,bs,rfl,dk2,by decide,.of (sW2 _ _ hUS),.of (sW2 _ _ hUL),yc.same sW2,.of (sW2 _ _ hUH),dnU.same sW2,hrb.1,by lia,hlo,hpw,Kq,λH3 TN SN LN HN sn lvn hvn rsn bsn s3 dk3 qT qS qL dL qH dH rnl rno rnp bns unl=>?_⟩;have hLI:=hLI.pick oe dk2 s3;have hTw:=hTw.pick oe2 dk2 s3;clear s3 sW2 hg1 hg2;have hbn:=bns.length_le;have sw3:af (wo e H3) H3:=aZ;refine ⟨_,rfl,_,rfl,TN,_,0,_,rfl,rfl,sw3.b8 qT,rfl,_,rfl,TN,_,1,_,rfl,rfl,sw3.b8 qT,rfl,_,rfl,TN,_,2,_,rfl,rfl,sw3.b8 qT,rfl,e,SN,LN,HN,_,sn,lv,lvn,hvn,rsn,bsn,rfl,dk3,by decide,qS,qL,dL,qH,dH,rnl,rno,rnp,bns.nodup hnd,by lia,(λq hq=>hpo q (bns.subset hq)),hLI.la,λH4 B4 g4 pa4 tb4 v4 hg4 CZ ux s4 la4 dk4 mu4 es4 el4 er4 eb4 ko4 pl4 lg4=>?_⟩;have JW:SqT K H4 TN [.ref SN,.ref LN,.ref HN]/\SqL K H4 LN lvn:=by
    obtain ⟨q,hq⟩:=aP hLI.la;have heP:e≠A.aq:=λz=>by
     obtain ⟨ys,hy⟩:=dk3.lst;rw [z,hq] at hy;cases hy
    have hqe:(wo e H3) A.aq=some (.tbl q):=by rw [aj heP.symm];exact hq
    have s34:af (wo A.aq (wo e H3)) H4:=λc o z=>by
     obtain ⟨a1,z⟩:=aD z;obtain ⟨a2,z⟩:=aD z;exact s4 _ _ (by rw [aj a2,aj a1];exact z)
    exact ⟨s34.b8 (lW hqe qT),s34.seq (lV hqe qL)⟩
   have hLI:=hLI.made oe s4 la4;have hTw:=hTw.made oe2 s4 la4;have hNl:eqE v v4=false:=Ft (by
    rw [es,es4,er,er4,eb.length_eq,eb4.length_eq];exact unl)
   have hNr:eqE v4 v=false:=Ft (by
    rw [es,es4,er,er4,eb.length_eq,eb4.length_eq];exact unl.imp Ne.symm λz=>z.imp Ne.symm Ne.symm)
   unfold eqE at hNl hNr;have NG:lvn.length=rsn.length:=by rw [dL.length,PQ]
   clear s4 mu4 qT qS qL dL qH dH dk3;obtain ⟨dx,t1,st1,ah1,hg1⟩:=hLI.lg.gg;obtain ⟨dx4,t4,st4,ah4,hgn⟩:=lg4.gg;refine ⟨_,rfl,_,rfl,g,g4,dx,_,dx4,_,rfl,rfl,hg1,hgn,.inl ⟨B,B4,g,pa,tb,g4,pa4,tb4,v,v4,rfl,hLI.lg,lg4,_,rfl,_,rfl,?_⟩⟩;rw [hNl];refine bf ⟨_,rfl,_,rfl,g4,g,dx4,_,dx,_,rfl,rfl,hgn,hg1,.inl ⟨B4,B,g4,pa4,tb4,g,pa,tb,v4,v,rfl,lg4,hLI.lg,_,rfl,_,rfl,?_⟩⟩;rw [hNr];refine bf ⟨_,rfl,_,rfl,g,dx,_,.ref A.aH,rfl,hg1,T.t9.ty T.aM hgn,hnf,.inl ⟨B,B4,g,pa,tb,g4,pa4,tb4,v,v4,rfl,hLI.lg,lg4,_,rfl,_,rfl,?_⟩⟩;rw [hNl];refine bf ⟨_,rfl,g4,dx4,_,rfl,hgn,B4,g4,pa4,tb4,v4,rfl,lg4,v4.cur.rs.length,rfl,by rw [er4];lia,_,rfl,TN,_,1,_,rfl,rfl,JW.1,rfl,LN,_,rfl,.inl JW.2,rfl,_,rfl,?_⟩;rw [er4,NG,decide_eq_true rfl];refine bf ?_;clear hgn hg1 lg4 JW hNl hNr;obtain ⟨dx2,t2,st2,ah2,hg2⟩:=hTw.lg.gg;have uX:∀ q,v2.cur.rs.getLast? = some q->q.1<=m:=λq hq=>hm q (by rw [<-er2];exact List.mem_of_getLast? hq);refine ⟨_,rfl,g2,dx2,_,rfl,hg2,rfl,_,rfl,B2,g2,pa2,tb2,v2,m,_,rfl,hTw.lg,hTw.b1,An.2,by rw [er2];lia,uX,by lia,hTw.la,λH5 B5 tb5 zJ s5 la5 ht5 sB5 mu5 e51 e52 lg5=>?_⟩;have ot5:=hLI.fresh ht5;obtain ⟨Px,Ji⟩:=aP hTw.la;have GY:=hTw.lg.okc.held;have hB5:B5 A.aq=none:=mu5 _ _ hTw.b1 Ji (.inr (.inr ⟨_,rfl⟩));have hLI:=hLI.Dm og op s5 la5;have h5r:zJ.rs=rs++[(m,("one more" : Str))]:=by rw [e51,er2]
   have OQ:∀ w:StV,w.rs=rs++[(m,("one more" : Str))]->v.cur.rs≠w.rs:=λw hw z=>by
    rw [er,hw] at z;have:=congrArg List.length z;rw [PX,P8] at this;lia
   have hE5:∀ w:eE,w.cur.rs=rs++[(m,("one more" : Str))]->eqE v w=false:=λw hw=>Ft (.inr (.inl (OQ w.cur hw)));have E5:=hE5 ⟨v2.s,v2.l,zJ,v2.cur,v2.past++[(v2.cur.rs,v2.cur.bs)],[]⟩ h5r;unfold eqE at E5;clear hTw s5 ht5 sB5 mu5 hg2 Ji;obtain ⟨dx,t1,st1,ah1,hg1⟩:=hLI.lg.gg;obtain ⟨dx5,t5,st5,ah5,hg5⟩:=lg5.gg;refine ⟨_,rfl,_,rfl,g,g2,dx,_,dx5,_,rfl,rfl,hg1,hg5,.inl ⟨B,B5,g,pa,tb,g2,pa2,tb5,v,_,rfl,hLI.lg,lg5,_,rfl,_,rfl,?_⟩⟩;rw [E5];refine bf ?_;clear E5;have NZ:=lg5.okc.held;refine ⟨_,rfl,g2,dx5,_,rfl,hg5,rfl,B5,g2,pa2,tb5,_,v2.past,v2.cur.rs,v2.cur.bs,rfl,lg5,hB5,rfl,GY,Qb _,la5,λH6 B6 Dw s6 la6 sB6 mu6 e61 e62 lg6=>?_⟩;obtain ⟨Pe,IE⟩:=aP la5;have hB6:B6 A.aq=none:=mu6 _ _ hB5 IE (.inr (.inr ⟨_,rfl⟩));have hLI:=hLI.back og op ot5 s6 la6;have E6:=v3 (v:=v) (w:=⟨v2.s,v2.l,Dw,zJ,v2.past,[]++[(zJ.rs,zJ.bs)]⟩) (es.trans es2.symm) (el.trans el2.symm) (show v.cur.rs=Dw.rs by rw [e61,er,er2]) (show v.cur.bs=Dw.bs by rw [e62];exact ebs);unfold eqE at E6;clear lg5 s6 sB6 mu6 hg5 hg1 IE GY;obtain ⟨dx,t1,st1,ah1,hg1⟩:=hLI.lg.gg;obtain ⟨dx6,t6,st6,ah6,hg6⟩:=lg6.gg;refine ⟨_,rfl,_,rfl,g,dx,_,.ref A.aH,rfl,hg1,T.t9.ty T.aM hg6,hnf,.inl ⟨B,B6,g,pa,tb,g2,pa2,tb5,v,_,rfl,hLI.lg,lg6,_,rfl,_,rfl,?_⟩⟩;rw [E6];refine bf ?_;clear E6;refine ⟨_,rfl,g2,dx6,_,rfl,hg6,rfl,B6,g2,pa2,tb5,_,[],zJ.rs,zJ.bs,rfl,lg6,hB6,rfl,NZ,P2 pl2 (by decide),la6,λH7 B7 KZ s7 la7 sB7 mu7 e71 e72 lg7=>?_⟩;have hLI:=hLI.back og op ot5 s7 la7;have E7:=hE5 ⟨v2.s,v2.l,KZ,Dw,v2.past++[(Dw.rs,Dw.bs)],[]⟩ (show KZ.rs=_ by rw [e71,h5r]);unfold eqE at E7;obtain ⟨dx,t1,st1,ah1,hg1⟩:=hLI.lg.gg;obtain ⟨dx7,t7,st7,ah7,hg7⟩:=lg7.gg;refine ⟨_,rfl,_,rfl,g,g2,dx,_,dx7,_,rfl,rfl,hg1,hg7,.inl ⟨B,B7,g,pa,tb,g2,pa2,tb5,v,_,rfl,hLI.lg,lg7,_,rfl,_,rfl,?_⟩⟩;rw [E7];exact bf ⟨⟨_,_,_,_,_,_,_,_,rfl⟩,hLI⟩
  ·clear hLI;obtain ⟨q0,hLI⟩:=q;apply L3 q0;clear q0;intro u1 u5 u7 u8 u10 u11 u12 u13;have E0':=v3 (v:=v) (w:=v) rfl rfl rfl rfl;unfold eqE at E0';obtain ⟨dx,t1,st1,ah1,hg1⟩:=hLI.lg.gg;refine ⟨_,rfl,_,rfl,g,g,dx,_,dx,_,rfl,rfl,hg1,hg1,.inl ⟨B,B,g,pa,tb,g,pa,tb,v,v,rfl,hLI.lg,hLI.lg,_,rfl,_,rfl,?_⟩⟩;rw [E0'];refine ck ⟨_,rfl,g,dx,_,_,rfl,hg1,.str _,T.AB,.inr ⟨_,_,_,rfl,.str _,T.Ay,_,rfl,_,rfl,ck ?_⟩⟩;refine ⟨_,rfl,g,dx,_,_,rfl,hg1,.int _,T.AE,.inr ⟨_,_,_,rfl,.int _,T.zS,_,rfl,_,rfl,ck ?_⟩⟩;refine ⟨_,rfl,Qb _,λE hE=>?_⟩;have hLI:=hLI.same (af.new (o:=.lst []) hE);have hg1:=(af.new (o:=.lst []) hE) _ _ hg1;have hE1:(upd H15 E (.lst [])) E=some (.lst []):=ab;generalize upd H15 E (.lst [])=H16 at hLI hg1 hE1 ⊢;refine ⟨g,dx,_,_,rfl,hg1,.lst hE1,T.x9,.inr ⟨_,_,_,rfl,.lst hE1,T.xP,_,rfl,_,rfl,ck ?_⟩⟩;refine ⟨_,rfl,?_⟩;intro x dxD hx hdx hne;have oX:=hLI.fresh hx;obtain ⟨H17,eq,sx,hxx⟩:=rF A.ie hx hdx hne;rw [eq];have hLI:=hLI.same sx;refine ⟨x,dxD,rfl,hxx,hLI.la,λH18 fs s18 Nm Mr=>⟨rfl,?_⟩⟩;have hLI:=hLI.made oX s18 Nm;clear hg1;obtain ⟨dx,t1,st1,ah1,hg1⟩:=hLI.lg.gg;refine ⟨g,dx,_,_,rfl,hg1,T.B8.ty T.wc Mr,T.yB,.inr ⟨_,_,_,rfl,T.B8.ty T.wc Mr,T.zm,_,rfl,_,rfl,ck ?_⟩⟩;refine ⟨_,rfl,_,rfl,_,rfl,_,rfl,(by show 3<=sizeLine;decide),λp hp=>?_⟩;have hp1:(upd H18 p (.tup [.ref SV,.ref L,.ref HD])) p=some (.tup [.ref SV,.ref L,.ref HD]):=ab;exact ⟨g,dx,_,_,rfl,(af.new hp) _ _ hg1,.tup hp1,T.wa,.inr ⟨_,_,_,rfl,.tup hp1,T.wB,_,rfl,k _⟩⟩
end
theorem hX1 {s:Vx} (e:hX s=true):PySem.W.xlAt hV [] s=true:=by unfold hX at e;exact (RM.mp e).1
theorem hX2 {s:Vx} (e:hX s=true):PySem.W.recOk (PySem.W.RowW.records (PySem.W.OpenRow.toRowW (PySem.W.OpenLaw.row PySem.Challenge.rw_loggather_k35_whole_equal_logs))) s=true:=by unfold hX at e;exact (RM.mp e).2
theorem hS:PySem.Challenge.rw_loggather_k35_whole_equal_logs.wellSaid=true:=by kernel_rfl
abbrev hFo (i:Nat) (x:Str) (m:Vy) (c:Nat):FuncData:=PySem.W.fnOf x x (cD (top i)) (b7 (top i)) (ak (top i)) .none .none .none m none (.ref c) .none
theorem hDf {P:Params}{h:Heap}{mg:Str->Option Vy}{i f c:Nat}{x:Str}{m:Vy} (X:(hK P).In h) (G:h.Ns mainGlobals mg) (ps:List Str) (l:(hK P).lookup f=some (hFn i x m c)) (d:PySem.W.codeIn (hK P) (.ref c) x=true) (k:PySem.W.keepIn (hK P) (.ref f)=true) (a:PySem.W.nsIn (hK P) mainGlobals x=some (some (.ref f)))
  (b:∀ (kV doc pm:Vy) (an:Option Addr) (cdv ct:Vy) (us:List Vy),us.length=ps.length->bindArgs (PySem.W.fnOf x x (cD (top i)) (b7 (top i)) (ak (top i)) .none kV doc pm an cdv ct) ⟨us,[]⟩=pure (ps.zip us)):bx (hK P) mg x (top i) ps f (hFo i x m c):=
 have F:Fun (hK P) x x (top i) f (hFo i x m c):=F7 l d k
 ⟨F,F.binds b,PySem.W.mg_of X G a⟩
abbrev DO (i:Nat) (x:Str) (m:Vy) (c D:Nat):FuncData:=PySem.W.fnOf x x (cD (top i)) (b7 (top i)) (ak (top i)) (.ref D) .none .none m none (.ref c) .none
theorem Nd {P:Params}{h:Heap}{mg:Str->Option Vy}{i f c D:Nat}{x:Str}{m:Vy} (X:(hK P).In h) (G:h.Ns mainGlobals mg) (ps:List Str) (l:(hK P).lookup f=some (hFd i x m c D)) (d:PySem.W.codeIn (hK P) (.ref c) x=true) (k:PySem.W.keepIn (hK P) (.ref f)=true) (a:PySem.W.nsIn (hK P) mainGlobals x=some (some (.ref f)))
  (b:Binds (hK P) (DO i x m c D) ps []):Gf (hK P) mg x (top i) ps f (DO i x m c D):=
 ⟨⟨⟨_,_,_,_,_,_,_,_,_,_,rfl,l,d⟩,k⟩,b,PySem.W.mg_of X G a⟩
abbrev mFo (i j:Nat) (x q:Str) (m:Vy) (c:Nat):FuncData:=PySem.W.fnOf x q (cD (mIn i j)) (b7 (mIn i j)) (ak (mIn i j)) .none .none .none m none (.ref c) .none
abbrev Ao (i j:Nat) (x q:Str) (m:Vy) (c D:Nat):FuncData:=PySem.W.fnOf x q (cD (mIn i j)) (b7 (mIn i j)) (ak (mIn i j)) (.ref D) .none .none m none (.ref c) .none
theorem mDf {P:Params}{i j f c:Nat}{x q:Str}{m:Vy} (ps:List Str) (l:(hK P).lookup f=some ⟨.type "function",none,.func (mFd i j x q 3 m (.ref c)),#[]⟩) (d:PySem.W.codeIn (hK P) (.ref c) q=true) (k:PySem.W.keepIn (hK P) (.ref f)=true)
  (b:∀ (kV doc pm:Vy) (an:Option Addr) (cdv ct:Vy) (us:List Vy),us.length=ps.length->bindArgs (PySem.W.fnOf x q (cD (mIn i j)) (b7 (mIn i j)) (ak (mIn i j)) .none kV doc pm an cdv ct) ⟨us,[]⟩=pure (ps.zip us)):fT (hK P) x q (mIn i j) ps f (mFo i j x q m c):=
 ⟨⟨⟨_,_,_,_,_,_,_,_,_,rfl,l,d⟩,k⟩,Binds.all λus hl=>b _ _ _ _ _ _ us hl⟩
theorem Oz {P:Params}{i j f c D:Nat}{x q:Str}{m:Vy} (ps:List Str) (l:(hK P).lookup f=some ⟨.type "function",none,.func (Kk i j x q 3 m (.ref c) D),#[]⟩) (d:PySem.W.codeIn (hK P) (.ref c) q=true) (k:PySem.W.keepIn (hK P) (.ref f)=true) (b:Binds (hK P) (Ao i j x q m c D) ps []):Fg (hK P) x q (mIn i j) ps f (Ao i j x q m c D):=
 ⟨⟨⟨_,_,_,_,_,_,_,_,_,_,rfl,l,d⟩,k⟩,b⟩
theorem on1 {C:List Vy->Prop} (h:∀ a0,C [a0]):∀ us:List Vy,us.length=1->C us
 | [a0],_=>h a0
theorem on2 {C:List Vy->Prop} (h:∀ a0 a1,C [a0,a1]):∀ us:List Vy,us.length=2->C us
 | [a0,a1],_=>h a0 a1
theorem on3 {C:List Vy->Prop} (h:∀ a0 a1 a2,C [a0,a1,a2]):∀ us:List Vy,us.length=3->C us
 | [a0,a1,a2],_=>h a0 a1 a2
theorem on4 {C:List Vy->Prop} (h:∀ a0 a1 a2 a3,C [a0,a1,a2,a3]):∀ us:List Vy,us.length=4->C us
 | [a0,a1,a2,a3],_=>h a0 a1 a2 a3
theorem uz {P:Params}{s:Vx} (X:(hK P).In s.heap) (us:List Vy) (hl:us.length=2):BindsTo s (DO 44 "gathered" (.str "loggather.gathering" 466) 275 271) ⟨us,[]⟩ ((["lines","sieve"]:List Str).zip (us++[])):=by
 rw [QD];exact on2 (C:=λus=>BindsTo s (DO 44 "gathered" (.str "loggather.gathering" 466) 275 271) ⟨us,[]⟩ ((["lines","sieve"]:List Str).zip us)) (λa0 a1=>BindsTo.of_defaults rfl (X 271 _ rfl) rfl rfl rfl) us hl
theorem ug {P:Params}{s:Vx} (X:(hK P).In s.heap) (us:List Vy) (hl:us.length=2):BindsTo s (Ao 55 0 "__init__" "Log.__init__" (.str "loggather.logs" 552) 345 339) ⟨us,[]⟩ ((["self","sieve"]:List Str).zip (us++[])):=by
 rw [QD];exact on2 (C:=λus=>BindsTo s (Ao 55 0 "__init__" "Log.__init__" (.str "loggather.logs" 552) 345 339) ⟨us,[]⟩ ((["self","sieve"]:List Str).zip us)) (λa0 a1=>BindsTo.of_defaults rfl (X 339 _ rfl) rfl rfl rfl) us hl
theorem uc {P:Params}{s:Vx} (X:(hK P).In s.heap) (us:List Vy) (hl:us.length=1):BindsTo s (Ao 55 0 "__init__" "Log.__init__" (.str "loggather.logs" 552) 345 339) ⟨us,[]⟩ ((["self","sieve"]:List Str).zip (us++[.ref 229])):=
 on1 (C:=λus=>BindsTo s (Ao 55 0 "__init__" "Log.__init__" (.str "loggather.logs" 552) 345 339) ⟨us,[]⟩ ((["self","sieve"]:List Str).zip (us++[.ref 229]))) (λa0=>BindsTo.of_defaults rfl (X 339 _ rfl) rfl rfl rfl) us hl
def hA:Ad:=⟨21,hFo 0 "_wall" (.str "__main__" 164) 20,120,hFo 14 "has_only" (.str "loggather.words" 319) 119,127,hFo 15 "is_word" (.str "loggather.words" 319) 126,134,hFo 16 "kind_of" (.str "loggather.words" 319) 133,141,hFo 17 "words_of" (.str "loggather.words" 319) 140,146,hFo 18 "is_line" (.str "loggather.words" 319) 145,153,hFo 19 "word_key" (.str "loggather.words" 319) 152,161,hFo 23 "is_part" (.str "loggather.patterns" 371) 160,166,hFo 24 "is_pattern" (.str "loggather.patterns" 371) 165,173,hFo 25 "is_hole" (.str "loggather.patterns" 371) 172,180,hFo 26 "part_takes" (.str "loggather.patterns" 371) 179,187,hFo 27 "all_taken" (.str "loggather.patterns" 371) 186,194,hFo 28 "fits" (.str "loggather.patterns" 371) 193,201,hFo 29 "kind_of_hole_around" (.str "loggather.patterns" 371) 200,206,hFo 30 "joined_part" (.str "loggather.patterns" 371) 205,211,hFo 31 "joined" (.str "loggather.patterns" 371) 210,218,hFo 32 "part_key" (.str "loggather.patterns" 371) 217,223,hFo 33 "pattern_key" (.str "loggather.patterns" 371) 222,228,hFo 34 "ordered" (.str "loggather.patterns" 371) 227,236,hFo 37 "grouped" (.str "loggather.gathering" 466) 235,241,hFo 38 "words_at" (.str "loggather.gathering" 466) 240,248,hFo 39 "many_unlike_at" (.str "loggather.gathering" 466) 247,253,hFo 40 "is_fit_to_part_at" (.str "loggather.gathering" 466) 252,258,hFo 41 "place_to_part_at" (.str "loggather.gathering" 466) 257,265,hFo 42 "parted" (.str "loggather.gathering" 466) 264,270,hFo 43 "pattern_of_group" (.str "loggather.gathering" 466) 269,276,DO 44 "gathered" (.str "loggather.gathering" 466) 275 271,283,hFo 46 "looseness_of_part" (.str "loggather.falling" 531) 282,288,hFo 47 "looseness" (.str "loggather.falling" 531) 287,293,hFo 48 "falls_under" (.str "loggather.falling" 531) 292,300,hFo 52 "how_often" (.str "loggather.logs" 552) 299,305,hFo 53 "words_in_order" (.str "loggather.logs" 552) 304,501,hFo 59 "_law_deck" (.str "law_loggather_k35_whole_equal_logs" 814) 500,508,hFo 60 "_law_pick" (.str "law_loggather_k35_whole_equal_logs" 814) 507,513,hFo 61 "_law_kind" (.str "law_loggather_k35_whole_equal_logs" 814) 512,518,hFo 62 "_law_word" (.str "law_loggather_k35_whole_equal_logs" 814) 517,523,hFo 63 "_law_line" (.str "law_loggather_k35_whole_equal_logs" 814) 522,528,hFo 64 "_law_lines" (.str "law_loggather_k35_whole_equal_logs" 814) 527,535,hFo 65 "_law_pattern" (.str "law_loggather_k35_whole_equal_logs" 814) 534,542,hFo 66 "_law_sieve" (.str "law_loggather_k35_whole_equal_logs" 814) 541,549,hFo 67 "_law_made" (.str "law_loggather_k35_whole_equal_logs" 814) 548,554,hFo 68 "_law_near" (.str "law_loggather_k35_whole_equal_logs" 814) 553,561,hFo 69 "law" (.str "law_loggather_k35_whole_equal_logs" 814) 560,317,mFo 54 0 "__init__" "State.__init__" (.str "loggather.logs" 552) 316,346,Ao 55 0 "__init__" "Log.__init__" (.str "loggather.logs" 552) 345 339,353,mFo 55 1 "__len__" "Log.__len__" (.str "loggather.logs" 552) 352,360,mFo 55 2 "__eq__" "Log.__eq__" (.str "loggather.logs" 552) 359,367,mFo 55 3 "held" "Log.held" (.str "loggather.logs" 552) 366,374,mFo 55 4 "rows_with_falls" "Log.rows_with_falls" (.str "loggather.logs" 552) 373,381,mFo 55 5 "turn_to" "Log.turn_to" (.str "loggather.logs" 552) 380,388,mFo 55 6 "do_deed" "Log.do_deed" (.str "loggather.logs" 552) 387,395,mFo 55 7 "come" "Log.come" (.str "loggather.logs" 552) 394,402,mFo 55 8 "put" "Log.put" (.str "loggather.logs" 552) 401,414,mFo 55 10 "back" "Log.back" (.str "loggather.logs" 552) 413,421,mFo 55 11 "again" "Log.again" (.str "loggather.logs" 552) 420,433,mFo 55 13 "patterns" "Log.patterns" (.str "loggather.logs" 552) 432,440,mFo 55 14 "under" "Log.under" (.str "loggather.logs" 552) 439,454,mFo 55 16 "counts" "Log.counts" (.str "loggather.logs" 552) 453,459,mFo 55 17 "holes" "Log.holes" (.str "loggather.logs" 552) 458,480,mFo 57 0 "__init__" "Desk.__init__" (.str "loggather.desk" 776) 479,154,229,327,462,490,257,255⟩
theorem hT {P:Params}{h:Heap}{mg:Str->Option Vy} (X:(hK P).In h) (G:h.Ns mainGlobals mg):Tx (hK P) mg hA:=⟨PySem.W.mg_none_of X G (by kernel_rfl),
 PySem.W.mg_none_of X G (by kernel_rfl),
 PySem.W.mg_none_of X G (by kernel_rfl),
 PySem.W.mg_none_of X G (by kernel_rfl),
 PySem.W.mg_none_of X G (by kernel_rfl),
 PySem.W.mg_none_of X G (by kernel_rfl),
 PySem.W.mg_none_of X G (by kernel_rfl),
 PySem.W.mg_none_of X G (by kernel_rfl),
 PySem.W.mg_none_of X G (by kernel_rfl),
 PySem.W.mg_none_of X G (by kernel_rfl),
 PySem.W.mg_none_of X G (by kernel_rfl),
 PySem.W.mg_none_of X G (by kernel_rfl),
 PySem.W.mg_none_of X G (by kernel_rfl),
 PySem.W.mg_none_of X G (by kernel_rfl),
 ⟨321,PySem.W.mg_of X G (by kernel_rfl)⟩,
 (by rw [Iy];exact ⟨323,PySem.W.mg_of X G (by kernel_rfl)⟩),
 (by rw [IA];exact ⟨325,PySem.W.mg_of X G (by kernel_rfl)⟩),
 (by rw [EI];exact ⟨327,PySem.W.mg_of X G (by kernel_rfl)⟩),
 ⟨373,PySem.W.mg_of X G (by kernel_rfl)⟩,
 PySem.W.mg_of X G (by kernel_rfl),
 (λH=>.inr ⟨_,_,_,rfl,rfl,rfl,(by show 3<=sizeLine;decide),.cons ⟨_,rfl⟩ (.cons ⟨_,rfl⟩ (.cons ⟨_,rfl⟩ (.nil)))⟩),
 ⟨_,rfl,rfl,rfl⟩,
 PySem.W.mg_of X G (by kernel_rfl),
 (λH=>.inr ⟨_,_,_,rfl,rfl,rfl,(by show 2<=sizeLine;decide),.cons ⟨_,rfl⟩ (.cons ⟨_,rfl⟩ (.nil))⟩),
 ⟨_,rfl,rfl,rfl⟩,
 ⟨554,PySem.W.mg_of X G (by kernel_rfl)⟩,
 ⟨556,PySem.W.mg_of X G (by kernel_rfl)⟩,
 hDf X G ["k"] rfl (by kernel_rfl) (by kernel_rfl) (by kernel_rfl) λ_ _ _ _ _ _=>on1 λ_=>rfl,
 hDf X G ["text","signs"] rfl (by kernel_rfl) (by kernel_rfl) (by kernel_rfl) λ_ _ _ _ _ _=>on2 λ_ _=>rfl,
 hDf X G ["thing"] rfl (by kernel_rfl) (by kernel_rfl) (by kernel_rfl) λ_ _ _ _ _ _=>on1 λ_=>rfl,
 hDf X G ["word"] rfl (by kernel_rfl) (by kernel_rfl) (by kernel_rfl) λ_ _ _ _ _ _=>on1 λ_=>rfl,
 hDf X G ["line"] rfl (by kernel_rfl) (by kernel_rfl) (by kernel_rfl) λ_ _ _ _ _ _=>on1 λ_=>rfl,
 hDf X G ["thing"] rfl (by kernel_rfl) (by kernel_rfl) (by kernel_rfl) λ_ _ _ _ _ _=>on1 λ_=>rfl,
 hDf X G ["word"] rfl (by kernel_rfl) (by kernel_rfl) (by kernel_rfl) λ_ _ _ _ _ _=>on1 λ_=>rfl,
 hDf X G ["thing"] rfl (by kernel_rfl) (by kernel_rfl) (by kernel_rfl) λ_ _ _ _ _ _=>on1 λ_=>rfl,
 hDf X G ["thing"] rfl (by kernel_rfl) (by kernel_rfl) (by kernel_rfl) λ_ _ _ _ _ _=>on1 λ_=>rfl,
 hDf X G ["part"] rfl (by kernel_rfl) (by kernel_rfl) (by kernel_rfl) λ_ _ _ _ _ _=>on1 λ_=>rfl,
 hDf X G ["part","word"] rfl (by kernel_rfl) (by kernel_rfl) (by kernel_rfl) λ_ _ _ _ _ _=>on2 λ_ _=>rfl,
 hDf X G ["parts","words"] rfl (by kernel_rfl) (by kernel_rfl) (by kernel_rfl) λ_ _ _ _ _ _=>on2 λ_ _=>rfl,
 hDf X G ["pattern","line"] rfl (by kernel_rfl) (by kernel_rfl) (by kernel_rfl) λ_ _ _ _ _ _=>on2 λ_ _=>rfl,
 hDf X G ["part"] rfl (by kernel_rfl) (by kernel_rfl) (by kernel_rfl) λ_ _ _ _ _ _=>on1 λ_=>rfl,
 hDf X G ["parts"] rfl (by kernel_rfl) (by kernel_rfl) (by kernel_rfl) λ_ _ _ _ _ _=>on1 λ_=>rfl,
 hDf X G ["patterns"] rfl (by kernel_rfl) (by kernel_rfl) (by kernel_rfl) λ_ _ _ _ _ _=>on1 λ_=>rfl,
 hDf X G ["part"] rfl (by kernel_rfl) (by kernel_rfl) (by kernel_rfl) λ_ _ _ _ _ _=>on1 λ_=>rfl,
 hDf X G ["pattern"] rfl (by kernel_rfl) (by kernel_rfl) (by kernel_rfl) λ_ _ _ _ _ _=>on1 λ_=>rfl,
 hDf X G ["patterns"] rfl (by kernel_rfl) (by kernel_rfl) (by kernel_rfl) λ_ _ _ _ _ _=>on1 λ_=>rfl,
 hDf X G ["rows","keys"] rfl (by kernel_rfl) (by kernel_rfl) (by kernel_rfl) λ_ _ _ _ _ _=>on2 λ_ _=>rfl,
 hDf X G ["group","place"] rfl (by kernel_rfl) (by kernel_rfl) (by kernel_rfl) λ_ _ _ _ _ _=>on2 λ_ _=>rfl,
 hDf X G ["group","place"] rfl (by kernel_rfl) (by kernel_rfl) (by kernel_rfl) λ_ _ _ _ _ _=>on2 λ_ _=>rfl,
 hDf X G ["group","place","sieve"] rfl (by kernel_rfl) (by kernel_rfl) (by kernel_rfl) λ_ _ _ _ _ _=>on3 λ_ _ _=>rfl,
 hDf X G ["group","sieve"] rfl (by kernel_rfl) (by kernel_rfl) (by kernel_rfl) λ_ _ _ _ _ _=>on2 λ_ _=>rfl,
 hDf X G ["group","sieve"] rfl (by kernel_rfl) (by kernel_rfl) (by kernel_rfl) λ_ _ _ _ _ _=>on2 λ_ _=>rfl,
 hDf X G ["group"] rfl (by kernel_rfl) (by kernel_rfl) (by kernel_rfl) λ_ _ _ _ _ _=>on1 λ_=>rfl,
 Nd X G ["lines","sieve"] rfl (by kernel_rfl) (by kernel_rfl) (by kernel_rfl) λs us X2 hl=>uz X2 us (by rw [QD] at hl;exact hl),
 hDf X G ["part"] rfl (by kernel_rfl) (by kernel_rfl) (by kernel_rfl) λ_ _ _ _ _ _=>on1 λ_=>rfl,
 hDf X G ["pattern"] rfl (by kernel_rfl) (by kernel_rfl) (by kernel_rfl) λ_ _ _ _ _ _=>on1 λ_=>rfl,
 hDf X G ["line","patterns"] rfl (by kernel_rfl) (by kernel_rfl) (by kernel_rfl) λ_ _ _ _ _ _=>on2 λ_ _=>rfl,
 hDf X G ["things"] rfl (by kernel_rfl) (by kernel_rfl) (by kernel_rfl) λ_ _ _ _ _ _=>on1 λ_=>rfl,
 hDf X G ["words"] rfl (by kernel_rfl) (by kernel_rfl) (by kernel_rfl) λ_ _ _ _ _ _=>on1 λ_=>rfl,
 hDf X G ["cell","turn"] rfl (by kernel_rfl) (by kernel_rfl) (by kernel_rfl) λ_ _ _ _ _ _=>on2 λ_ _=>rfl,
 hDf X G ["deck","many"] rfl (by kernel_rfl) (by kernel_rfl) (by kernel_rfl) λ_ _ _ _ _ _=>on2 λ_ _=>rfl,
 hDf X G ["word"] rfl (by kernel_rfl) (by kernel_rfl) (by kernel_rfl) λ_ _ _ _ _ _=>on1 λ_=>rfl,
 hDf X G ["deck"] rfl (by kernel_rfl) (by kernel_rfl) (by kernel_rfl) λ_ _ _ _ _ _=>on1 λ_=>rfl,
 hDf X G ["deck","most"] rfl (by kernel_rfl) (by kernel_rfl) (by kernel_rfl) λ_ _ _ _ _ _=>on2 λ_ _=>rfl,
 hDf X G ["deck","most"] rfl (by kernel_rfl) (by kernel_rfl) (by kernel_rfl) λ_ _ _ _ _ _=>on2 λ_ _=>rfl,
 hDf X G ["deck","line"] rfl (by kernel_rfl) (by kernel_rfl) (by kernel_rfl) λ_ _ _ _ _ _=>on2 λ_ _=>rfl,
 hDf X G ["deck"] rfl (by kernel_rfl) (by kernel_rfl) (by kernel_rfl) λ_ _ _ _ _ _=>on1 λ_=>rfl,
 hDf X G ["deck","sieve","lines","hand"] rfl (by kernel_rfl) (by kernel_rfl) (by kernel_rfl) λ_ _ _ _ _ _=>on4 λ_ _ _ _=>rfl,
 hDf X G ["deck","sieve","lines","hand"] rfl (by kernel_rfl) (by kernel_rfl) (by kernel_rfl) λ_ _ _ _ _ _=>on4 λ_ _ _ _=>rfl,
 mDf ["self","sieve","rows","by_hand"] rfl (by kernel_rfl) (by kernel_rfl) λ_ _ _ _ _ _=>on4 λ_ _ _ _=>rfl,
 Oz ["self","sieve"] rfl (by kernel_rfl) (by kernel_rfl) λs us X2 hl=>ug X2 us (by rw [QD] at hl;exact hl),
 mDf ["self"] rfl (by kernel_rfl) (by kernel_rfl) λ_ _ _ _ _ _=>on1 λ_=>rfl,
 mDf ["self","other"] rfl (by kernel_rfl) (by kernel_rfl) λ_ _ _ _ _ _=>on2 λ_ _=>rfl,
 mDf ["self"] rfl (by kernel_rfl) (by kernel_rfl) λ_ _ _ _ _ _=>on1 λ_=>rfl,
 mDf ["self"] rfl (by kernel_rfl) (by kernel_rfl) λ_ _ _ _ _ _=>on1 λ_=>rfl,
 mDf ["self","held"] rfl (by kernel_rfl) (by kernel_rfl) λ_ _ _ _ _ _=>on2 λ_ _=>rfl,
 mDf ["self","rows","by_hand"] rfl (by kernel_rfl) (by kernel_rfl) λ_ _ _ _ _ _=>on3 λ_ _ _=>rfl,
 mDf ["self","moment","line"] rfl (by kernel_rfl) (by kernel_rfl) λ_ _ _ _ _ _=>on3 λ_ _ _=>rfl,
 mDf ["self","pattern"] rfl (by kernel_rfl) (by kernel_rfl) λ_ _ _ _ _ _=>on2 λ_ _=>rfl,
 mDf ["self"] rfl (by kernel_rfl) (by kernel_rfl) λ_ _ _ _ _ _=>on1 λ_=>rfl,
 mDf ["self"] rfl (by kernel_rfl) (by kernel_rfl) λ_ _ _ _ _ _=>on1 λ_=>rfl,
 mDf ["self"] rfl (by kernel_rfl) (by kernel_rfl) λ_ _ _ _ _ _=>on1 λ_=>rfl,
 mDf ["self","number"] rfl (by kernel_rfl) (by kernel_rfl) λ_ _ _ _ _ _=>on2 λ_ _=>rfl,
 mDf ["self","low","high"] rfl (by kernel_rfl) (by kernel_rfl) λ_ _ _ _ _ _=>on3 λ_ _ _=>rfl,
 mDf ["self","pattern"] rfl (by kernel_rfl) (by kernel_rfl) λ_ _ _ _ _ _=>on2 λ_ _=>rfl,
 mDf ["self"] rfl (by kernel_rfl) (by kernel_rfl) λ_ _ _ _ _ _=>on1 λ_=>rfl,
 PySem.W.mg_of X G (by kernel_rfl),
 ⟨by kernel_rfl,by kernel_rfl,by kernel_rfl,by kernel_rfl⟩,
 ⟨by kernel_rfl,by kernel_rfl,by kernel_rfl,by kernel_rfl,by kernel_rfl⟩,
 ⟨by kernel_rfl,by kernel_rfl,by kernel_rfl,by kernel_rfl⟩,
 (by unfold bQ;kernel_rfl),
 (by unfold bQ;kernel_rfl),
 (by unfold bQ;kernel_rfl),
 (by unfold bQ;kernel_rfl),
 PySem.W.mg_of X G (by kernel_rfl),
 ⟨by kernel_rfl,by kernel_rfl,by kernel_rfl,by kernel_rfl⟩,
 ⟨by kernel_rfl,by kernel_rfl,by kernel_rfl,by kernel_rfl,by kernel_rfl⟩,
 ⟨by kernel_rfl,by kernel_rfl⟩,
 (by kernel_rfl),
 (by kernel_rfl),
 (by kernel_rfl),
 (by kernel_rfl),
 (by kernel_rfl),
 (by kernel_rfl),
 (by kernel_rfl),
 (by kernel_rfl),
 (by kernel_rfl),
 (by kernel_rfl),
 ⟨by kernel_rfl,by kernel_rfl,by kernel_rfl,by kernel_rfl⟩,
 ⟨by kernel_rfl,by kernel_rfl,by kernel_rfl⟩,
 ⟨by kernel_rfl,by kernel_rfl,by kernel_rfl⟩,
 ⟨by kernel_rfl,by kernel_rfl,by kernel_rfl⟩,
 ⟨by kernel_rfl,by kernel_rfl,by kernel_rfl⟩,
 ⟨by kernel_rfl,by kernel_rfl,by kernel_rfl⟩,
 ⟨by kernel_rfl,by kernel_rfl,by kernel_rfl⟩,
 ⟨by kernel_rfl,by kernel_rfl,by kernel_rfl⟩,
 ⟨by kernel_rfl,by kernel_rfl,by kernel_rfl⟩,
 ⟨by kernel_rfl,by kernel_rfl,by kernel_rfl⟩,
 ⟨by kernel_rfl,by kernel_rfl,by kernel_rfl⟩,
 ⟨by kernel_rfl,by kernel_rfl,by kernel_rfl⟩,
 ⟨by kernel_rfl,by kernel_rfl,by kernel_rfl⟩,
 ⟨by kernel_rfl,by kernel_rfl,by kernel_rfl⟩,
 ⟨by kernel_rfl,by kernel_rfl,by kernel_rfl⟩,
 (by unfold bQ;kernel_rfl),
 (by unfold bQ;kernel_rfl),
 (by unfold bQ;kernel_rfl),
 (by unfold bQ;kernel_rfl),
 (by unfold bQ;kernel_rfl),
 PySem.W.mg_of X G (by kernel_rfl),
 ⟨by kernel_rfl,by kernel_rfl,by kernel_rfl,by kernel_rfl⟩,
 ⟨by kernel_rfl,by kernel_rfl,by kernel_rfl,by kernel_rfl,by kernel_rfl⟩,
 ⟨by kernel_rfl,by kernel_rfl,by kernel_rfl,by kernel_rfl⟩,
 (by unfold bQ;kernel_rfl),
 λs us X2 hl=>uc X2 us (by rw [PX] at hl;exact Nat.succ.inj hl),
 ⟨rfl,λh X2=>PySem.W.codeHd_of_K X2 (by kernel_rfl),4,_,PySem.W.mg_of X G (by kernel_rfl),by decide,by decide,rfl,rfl,rfl,rfl⟩⟩
theorem hF (w:World) (mg:Str->Option Vy) (fa:Addr) (h:Heap) (X:(hK w.params).In h) (G:h.Ns mainGlobals mg) (e:mg "law" = some (.ref fa)) :
  ∃ fd:FuncData,(∀ (s:Vx) (u:Vy),BindsTo s fd ⟨[u],[]⟩ [("script",u)])/\∀ base:Heap,ax PySem.Challenge.rw_loggather_k35_whole_equal_logs.prog w (hK w.params) mg base CX0 27 fa fd ["script"] (wJ (hK w.params) 255):=by
 have q:=e.symm.trans (PySem.W.mg_of X G (show PySem.W.nsIn (hK w.params) mainGlobals "law" = some (some (.ref 561)) by kernel_rfl));cases q;exact ⟨hFo 69 "law" (.str "law_loggather_k35_whole_equal_logs" 814) 560,λs v=>.of_eq rfl,λbase=>Kx (A:=hA) (F7 rfl (by kernel_rfl) (by kernel_rfl)) (hT X G)⟩
abbrev hSp:=wJ
end K35
open PySem PySem.W PyProof.Rows
set_option maxRecDepth 100000 in
theorem PySem.Challenge.cw_loggather_k35_whole_equal_logs_holds : PySem.Challenge.rw_loggather_k35_whole_equal_logs.Holds := by
 refine holds_law K35.hS λNu=>@PySem.W.holds_open (OpenLaw.row PySem.Challenge.rw_loggather_k35_whole_equal_logs) K35.hV K35.hLo K35.hX (XL K35.hV []) _ K35.hH.obs K35.hH.val K35.hH.says ?dr ?kw 8474 K35.hL K35.hH.of K35.hH.keeps
  (λs e=>xl_of s (K35.hX1 e)) XL.keeps ?x1 ?x2 ?x3 (λs e=>recFacts_of (K35.hX2 e)) ?x4 Nu ?x5 ?x6 ?hw ?hc
 case x1=>exact rfl
 case x2=>exact rfl
 case x3=>exact rfl
 case x4=>rfl
 case x5=>decide +kernel
 case x6=>exact ⟨rfl,rfl,rfl,rfl,rfl,by decide +kernel⟩
 case hw=>w_witness2
 exact L2.FG (l:=PySem.Challenge.rw_loggather_k35_whole_equal_logs) (n:=63) (k:=27) (x:= "script") (K:=K35.hK) (c:=257) (T:=255) (sp:=λw=>K35.hSp (K35.hK w.params) 255) rfl (by decide) rfl ⟨rfl,by decide,by decide,rfl⟩ (λw h Y=>⟨PySem.W.km_in_of Y,PySem.W.km_tabs_of Y _ (List.Mem.head _)⟩) (λw h X=>PySem.W.codeHd_of_K X (by kernel_rfl)) (λw=>by kernel_rfl)
  (λw mg fa h X G e=>let ⟨fd,b,k⟩:=K35.hF w mg fa h X G e;⟨fd,b,λbase=>k base⟩) (λ_ _ a ns hl hT hS=>⟨a,ns,rfl,hS,hl,⟨_,hT,trivial,.inl rfl⟩,λ_=>rfl⟩)
