import PyProof.Rows.All
import Wide.All
import OpenK.AllK
import Wide.FinOn
import Lean
import PyProof.EqAt
import PyProof.EqKinds
import PyProof.TupleCall
import PyProof.NeData
import PyProof.StrLawsChain
import KE.KSortTup
import KE.KRevSl
import KE.KMinKey
import PyProof.P3In
import KE.KRevIter
import KE.KDictSum
import PyProof.StrCalls6
import PyProof.ToksMono
import PyProof.ReprRoads
import PyProof.StrOps2
import KE.KDictLaws
import KE.KDictList
import PyProof.DictValues
import PyProof.TupleKey
import PyProof.IsRules
import PyProof.Rows.SetFrom
import PyProof.DictWalks
import PyProof.FactsAll.set_1
import PyProof.ReprText
import KE.KLam
import PyProof.ListStr
import PyProof.Rows.Range3
import PySem.Challenge.RW_loggather_k39_sixty_patterns_and_lines
open List renaming length_map→NE,mem_of_getElem?→NF,getElem?_eq_getElem→NG,take_of_length_le→NI,mem_map→NJ,getElem?_map→NK,mem_cons_of_mem→NN,size_toArray→NO,mem_singleton→NQ,length_take→NR,map_append→NS,mem_cons_self→NT,getD_eq_getElem?_getD→NU,length_append→NX,take_add_one→NY,mem_cons→NZ,map_cons→N1,length_cons→N4,append_nil→N6,length_filter_le→N8,mem_append→Oa,mem_append_right→Ob,mem_filter→Oc,all_eq_true→Od,filter_append→Oe,drop_eq_getElem_cons→Of,map_congr_left→Og,mem_range→Oh,map_eq_nil_iff→Ol,pairwise_map→Oq,getElem?_eq_none→Ou,getElem_mem→Ov,map_map→Ow,drop_of_length_le→Ox,any_eq_true→OA,length_range→OB,eq_nil_of_length_eq_zero→OC,getElem?_eq_some_iff→OD,filter_eq_nil_iff→OE,length_singleton→OF,filter_cons_of_pos→OH,filter_cons_of_neg→OI,length_nil→OK,lookup_cons→OL,mem_map_of_mem→OM,length_pos_iff→ON,flatMap_cons→OO,any_cons→OP,mem_of_mem_take→OQ,getElem?_of_mem→OR,map_nil→OU,range_succ→OV,find?_cons→OW,flatMap_append→OX,sum_cons→O0,not_mem_nil→O2,isEmpty_iff→O3,perm_ext_iff_of_nodup→O4,getElem?_append_right→O5,getElem?_zip_eq_some→O6,getElem?_append_left→O7,mem_append_left→Pa,drop_eq_nil_iff→Pb,append_assoc→Pc,length_eq_zero_iff→Pe,countP_cons→Pf,nodup_cons→Pl,nodup_nil→Pm,mem_iff_getElem→Pn,isEmpty_map→Po,pairwise_iff_getElem→Pp,getElem?_eq_none_iff→Pq,exists_mem_of_ne_nil→Pr,filter_sublist→Pu,filterMap_cons→Pw,all_cons→Py
open Nat renaming le_refl→NH,le_trans→NM,zero_le→NW,ne_of_lt→N3,lt_of_lt_of_le→N9,lt_or_ge→Oi,lt_of_le_of_lt→Ot,lt_irrefl→Oy,add_le_add_right→OJ,le_succ→OS,lt_succ_iff_lt_or_eq→OT,lt_succ_self→O1,lt_succ_of_lt→O8,le_of_lt→O9,lt_trans→Pj,min_eq_left→Pz
open Bool renaming false_ne_true→NV,eq_false_iff→N5,eq_iff_iff→N7,and_eq_true→Om,false_eq_true→Oo,true_and→Pd
open Array renaming length_toList→N2,getElem?_eq_getElem→Oj,getElem?_toList→Oz,getElem?_eq_none→OY,getD_eq_getD_getElem?→OZ,toList_inj→Ph,toList_append→Px
open Int renaming toNat_natCast→OG,eq_ofNat_of_zero_le→Pg,emod_lt_of_pos→Pk
set_option Elab.async false
set_option linter.all false
set_option autoImplicit false
set_option maxRecDepth 100000
namespace L2
open PySem PySem.W
section
variable {p:Program}{q:Program}{loose:List Str}{Xt:Shared->Bool}{α:Type}{Yf:Shared->α}{Ya:World->α}{N:Nat}{H₀:Params->Heap}{d₀:Drawn}{k₀ m₀:Nat}{ann:Option Value}{env:Env}{c:Code}{qp:Pos}
def G1 (p q:Program) (loose:List Str) (Xt:Shared->Bool) {α:Type} (Yf:Shared->α) (Ya:World->α) (H₀:Params->Heap) (m₀:Nat) (ann:Option Value) (env:Env) (c:Code) (qp:Pos) (n:Nat) (l:List Stmt) (pos:Pos) (w:World) (s:Shared):Prop:=
 ∃ r,topRun treeTable p w m₀ ann n s (restOf l env c pos [topFrame qp])=some r/\(staticsOk (importedModules p.main.body) (H₀ w.params) r.heap && namesBound p r.heap && gensDone r && laidKept (H₀ w.params) r.heap)=true/\openSeen q loose (importedModules p.main.body) Xt true r=openGood q loose/\Yf r=Ya w
theorem CW {n nF:Nat}{l:List Stmt}{pos:Pos}{w:World}{s:Shared}
  (h:(segRun treeTable p w m₀ ann 1 n s (piecesOf l env c pos [topFrame qp])).bind (λz=>(topRun treeTable p w m₀ ann nF z.2.1 ⟨doneF .next,c,z.2.2.2,[topFrame qp]⟩).map λr=>(z.1,z.2.2.1,(staticsOk (importedModules p.main.body) (H₀ w.params) r.heap && namesBound p r.heap && gensDone r && laidKept (H₀ w.params) r.heap),openSeen q loose (importedModules p.main.body) Xt true r,Yf r))=some (.next,c,true,openGood q loose,Ya w)) :
  G1 p q loose Xt Yf Ya H₀ m₀ ann env c qp (n+nF) l pos w s:=by
 obtain ⟨⟨f,s',c',p'⟩,h1,h2⟩:=Option.bind_eq_some_iff.mp h;obtain ⟨r,h3,h4⟩:=Option.map_eq_some_iff.mp h2;simp only [Prod.mk.injEq] at h4;obtain ⟨e1,e2,e3,e4,e5⟩:=h4;have e1':f=Flow.next:=e1;have e2':c' = c:=e2;subst e1' e2';have:=piece_app (rest:=[]) h1 (piece_nil h3);rw [N6] at this;exact ⟨r,this,e3,e4,e5⟩
theorem CU {nP nB n1 n2:Nat}{b l1 l2:List Stmt}{KZ pos:Pos}{HM:Params->Heap}{dM:Drawn}{kM:Nat} (hc:c = .body b env) (hb:l1++l2=b)
  (Lp:∀ w:World,(fencedOpening treeTable p w N).map (λs=>(s.heap,s.gens,s.drawn,s.toks))=some (H₀ w.params,Array.mk [],d₀,k₀))
  (size:∀ w:World,((H₀ w.params).isNs mainGlobals,(H₀ w.params).objs.size,(H₀ w.params).nsMap mainGlobals "__annotations__")=(true,m₀,ann))
  (h1:∀ (w:World) (os:OsState),(topGo treeTable p w m₀ ann nP ⟨H₀ w.params,Array.mk [],d₀,k₀,os⟩ (topStub p)).bind (λx=>(segRun treeTable p w m₀ ann 1 nB x.1 (blockOf b env c KZ [topFrame qp])).bind λy=>(segRun treeTable p w m₀ ann 1 n1 y.2.1 (piecesOf l1 env c y.2.2.2 [topFrame qp])).map λz=>(x.2,y.1,y.2.2.1,z))=some (⟨denote treeTable c,c,KZ,[topFrame qp]⟩,.next,c,(.next,⟨HM w.params,Array.mk [],dM,kM,os⟩,c,pos)))
  (h2:∀ (w:World) (os:OsState),G1 p q loose Xt Yf Ya H₀ m₀ ann env c qp n2 l2 pos w ⟨HM w.params,Array.mk [],dM,kM,os⟩) (le:Nat.ble (nP+(nB+(n1+n2))) N=true):LeftO p q loose Xt Yf Ya N true:=λw=>by
 obtain ⟨⟨h,gs,d,k,os⟩,e,e'⟩:=Option.map_eq_some_iff.mp (Lp w);obtain ⟨rfl,rfl,rfl,rfl⟩:h=H₀ w.params/\gs=Array.mk []/\d=d₀/\k=k₀:=by simpa using e'
 obtain ⟨z1,z2,z3⟩:_/\_/\_:=by simpa only [Prod.mk.injEq] using size w
 obtain ⟨⟨sa,ta⟩,a1,a2⟩:=Option.bind_eq_some_iff.mp (h1 w os);obtain ⟨⟨fb,sb,cb,pb⟩,b1,b2⟩:=Option.bind_eq_some_iff.mp a2;obtain ⟨⟨fz,sz,cz,pz⟩,c1,c2⟩:=Option.map_eq_some_iff.mp b2;simp only [Prod.mk.injEq] at c2;obtain ⟨t1,t2,t3,t4,t5,t6,t7⟩:=c2;subst t1 t2 t3 t4 t5 t6 t7;obtain ⟨r,g1,g2,g3,g4⟩:=h2 w os;have p1:=piece_app c1 g1;rw [hb] at p1;subst hc;have p2:=piece_block b1 p1;have p3:=go_top a1 p2;have p4:=topRun_mono (N - (nP+(nB+(n1+n2)))) _ _ _ _ p3;rw [show nP+(nB+(n1+n2))+(N - (nP+(nB+(n1+n2))))=N by have:=Nat.le_of_ble_eq_true le;lia] at p4;have t:topFrom treeTable p w N ⟨H₀ w.params,Array.mk [],d,k,os⟩=some r:=by
  unfold topFrom;dsimp only;rw [z1,z2,z3,p4];show (match staticsOk (importedModules p.main.body) (H₀ w.params) r.heap && namesBound p r.heap && gensDone r && laidKept (H₀ w.params) r.heap with | true=>some r | false=>none)=some r
  rw [g2]
 unfold openEnds;rw [e];show ((topFrom treeTable p w N ⟨H₀ w.params,Array.mk [],d,k,os⟩).map λs=>(openSeen q loose (importedModules p.main.body) Xt true s,Yf s))=_;rw [t];show some (openSeen q loose (importedModules p.main.body) Xt true r,Yf r)=_;rw [g3,g4]
end
end L2
namespace L2
open PySem
def d8 (s:Stmt):Arguments:=match s with
 | .FunctionDef _ a _ _ _ _ _ _ _ _=>a
 | _=>{ posonlyargs:=[],args:=[],vararg:=none,kwonlyargs:=[],kw_defaults:=[],kwarg:=none,defaults:=[] }
def c5 (s:Stmt):List Stmt:=match s with
 | .FunctionDef _ _ b _ _ _ _ _ _ _=>b
 | _=>[]
def ah (s:Stmt):Scope:=match s with
 | .FunctionDef _ _ _ _ _ _ sc _ _ _=>sc
 | _=>{ kind:=.function,names:=[],isGenerator:=false,isCoroutine:=false }
end L2
namespace K39
open PySem L2
def top (i:Nat):Stmt:=PySem.Challenge.pw_loggather_k39_sixty_patterns_and_lines.main.body.getD i (.Pass ⟨0,0,0,0⟩)
def hqC (x:Str) (a:Nat) (L n:Int) (r:Nat) (d:Nat):Obj:=⟨.type "code",none,.fields #[.str x a,.str x (a+1),.str "/claim/cut.py" (a+2),.int L 0,.int n 0,.int 0 0,.int 0 0,.int 3 0,.ref r,.bool true,.int 181 0,.ref (r+1),.none,.ref (r+2),.ref (r+3),.ref (r+4),.int (Int.ofNat d) 0,.int L 0,.str "/claim/cut.py" (d+1)],#[]⟩
def hqD (x:Str) (a:Nat) (L n:Int) (r:Nat):Obj:=⟨.type "code",none,.fields #[.str x a,.str x (a+1),.str "/claim/cut.py" (a+2),.int L 0,.int n 0,.int 0 0,.int 0 0,.int 3 0,.ref r,.bool true,.int 181 0,.ref (r+1),.none,.none,.none,.ref (r+2),.int (Int.ofNat (a+3)) 0,.int L 0,.str "/claim/cut.py" (a+4)],#[]⟩
def hqU (l:List Value):Obj:=⟨.type "tuple",none,.seq l.toArray 0,#[]⟩
def hqN:Obj:=⟨.none,none,.fields #[],#[]⟩
def hFz (i:Nat) (x:Str):Obj:=⟨.none,none,.func { name:=x,qualname:=x,params:=d8 (top i),body:=.stmts (c5 (top i)),scope:=ah (top i),globals:=0,closure:=[],defaults:=.none,kwdefaults:=.none },#[]⟩
def hFd (i:Nat) (x:Str) (m:Value) (c D:Nat):Obj:=⟨.type "function",none,.func { name:=x,qualname:=x,params:=d8 (top i),body:=.stmts (c5 (top i)),scope:=ah (top i),globals:=3,closure:=[],defaults:=.ref D,kwdefaults:=.none,pyModule:=m,code:=.ref c },#[]⟩
def hEn (P:Params) (x:Str) (t:Nat) (v:Value):DictEntry:=⟨PyData.keyHash P x,.str x t,v⟩
def hqR (P:Params) (x:Str) (n k:Nat):=hEn P x n (.ref k)
def hFn (i:Nat) (x:Str) (m:Value) (c:Nat):Obj:=⟨.type "function",none,.func { name:=x,qualname:=x,params:=d8 (top i),body:=.stmts (c5 (top i)),scope:=ah (top i),globals:=3,closure:=[],defaults:=.none,kwdefaults:=.none,pyModule:=m,code:=.ref c },#[]⟩
def hV:Program:={ PySem.Challenge.pw_loggather_k39_sixty_patterns_and_lines with main:={ PySem.Challenge.pw_loggather_k39_sixty_patterns_and_lines.main with body:=[1,2,3,5,6,7,8,9,10,11,12,13,14,16,17,18,19,20,21,22,23,24,25,26,27,29,30,31,32,33,34,35,36,39,40,41,42,45,46,47,48,49,50,51,52,53,54,55,56,57,58,59,60,61,62,63].map top } }
def hK (P:Params):PySem.W.Frag:=[(4,⟨.type "module",some 0,.plain,#[]⟩),
 (3,⟨.type "dict",none,.dict #[hEn P "__name__" 165 (.str "law_loggather_k39_sixty_patterns_and_lines" 480),hEn P "__doc__" 166 (.none),hEn P "__package__" 167 (.none),hEn P "__loader__" 168 (.builtin "__main__.__loader__#opaque"),hEn P "__spec__" 169 (.none),hqR P "__annotations__" 170 6,hqR P "__builtins__" 171 4,hEn P "__file__" 173 (.str "/claim/cut.py" 172),hEn P "__cached__" 174 (.none),hqR P "GatherError" 206 24,hqR P "NoFit" 222 37,hqR P "NoJoin" 238 49,hEn P "FIGURES" 242 (.str "0123456789" 241),hEn P "SMALL_LETTERS" 244 (.str "abcdefghijklmnopqrstuvwxyz" 243),hEn P "WORD_SIGNS" 246 (.str "!\"#$&'()*+,-./0123456789:;<=>?@ABCDEFGHIJKLMNOPQRSTUVWXYZ[\\]^_`abcdefghijklmnopqrstuvwxyz{|}~" 245),hqR P "has_only" 254 58,hqR P "is_word" 261 65,hqR P "kind_of" 268 72,hqR P "words_of" 275 79,hqR P "word_key" 282 86,hqR P "line_key" 288 91,hqR P "in_order" 295 98,hqR P "HOLE_KINDS" 301 99,hqR P "is_hole" 308 106,hqR P "part_takes" 316 113,hqR P "all_taken" 326 120,hqR P "fits" 334 127,hqR P "filled" 340 132,hqR P "kind_of_hole_around" 348 139,hqR P "joined_part" 354 144,hqR P "joined" 360 149,hqR P "part_key" 369 156,hqR P "pattern_key" 375 161,hqR P "ordered" 381 166,hqR P "PLAIN_SIEVE" 386 167,hqR P "grouped" 397 174,hqR P "words_at" 403 179,hqR P "many_unlike_at" 411 186,hqR P "is_fit_to_part_at" 417 191,hqR P "place_to_part_at" 423 196,hqR P "parted" 434 203,hqR P "pattern_of_group" 440 208,hqR P "gathered" 446 214,hqR P "looseness_of_part" 455 221,hqR P "looseness" 461 226,hqR P "falls_under" 467 231,hqR P "is_news" 473 236,hqR P "news" 479 242,hqR P "_law_deck" 489 249,hqR P "_law_pick" 499 256,hqR P "_law_kind" 505 261,hqR P "_law_fits_part" 513 268,hqR P "_law_fits" 519 273,hqR P "_law_word" 525 278,hqR P "_law_line" 531 283,hqR P "_law_lines" 537 288,hqR P "_law_pattern" 549 295,hqR P "_law_place" 559 302,hqR P "_law_ordered" 565 307,hqR P "_law_joined" 571 312,hqR P "_law_groups" 577 317,hqR P "_law_gathered" 583 322,hqR P "_law_sieve" 590 329,hqR P "_law_loose" 599 336,hqR P "_law_falls" 605 341,hqR P "_law_sixty" 613 348,hqR P "law" 619 353] 67,#[]⟩),
 (57,hqC "has_only" 247 12 2 52 252),
 (58,hFn 8 "has_only" (.str "loggather.words" 239) 57),
 (64,hqC "is_word" 255 14 1 59 259),
 (65,hFn 9 "is_word" (.str "loggather.words" 239) 64),
 (71,hqC "kind_of" 262 16 1 66 266),
 (72,hFn 10 "kind_of" (.str "loggather.words" 239) 71),
 (78,hqC "words_of" 269 22 1 73 273),
 (79,hFn 11 "words_of" (.str "loggather.words" 239) 78),
 (85,hqC "word_key" 276 24 1 80 280),
 (86,hFn 12 "word_key" (.str "loggather.words" 239) 85),
 (90,hqD "line_key" 283 26 1 87),
 (91,hFn 13 "line_key" (.str "loggather.words" 239) 90),
 (97,hqC "in_order" 289 29 1 92 293),
 (98,hFn 14 "in_order" (.str "loggather.words" 239) 97),
 (99,hqU [.str "number" 298,.str "name" 299,.str "any" 300]),
 (105,hqC "is_hole" 302 33 1 100 306),
 (106,hFn 17 "is_hole" (.str "loggather.patterns" 296) 105),
 (112,hqC "part_takes" 309 35 2 107 314),
 (113,hFn 18 "part_takes" (.str "loggather.patterns" 296) 112),
 (119,hqC "all_taken" 317 41 2 114 324),
 (120,hFn 19 "all_taken" (.str "loggather.patterns" 296) 119),
 (126,hqC "fits" 327 48 2 121 332),
 (127,hFn 20 "fits" (.str "loggather.patterns" 296) 126),
 (131,hqD "filled" 335 50 2 128),
 (132,hFn 21 "filled" (.str "loggather.patterns" 296) 131),
 (138,hqC "kind_of_hole_around" 341 58 1 133 346),
 (139,hFn 22 "kind_of_hole_around" (.str "loggather.patterns" 296) 138),
 (143,hqD "joined_part" 349 63 1 140),
 (144,hFn 23 "joined_part" (.str "loggather.patterns" 296) 143),
 (148,hqD "joined" 355 70 1 145),
 (149,hFn 24 "joined" (.str "loggather.patterns" 296) 148),
 (155,hqC "part_key" 361 77 1 150 367),
 (156,hFn 25 "part_key" (.str "loggather.patterns" 296) 155),
 (160,hqD "pattern_key" 370 82 1 157),
 (161,hFn 26 "pattern_key" (.str "loggather.patterns" 296) 160),
 (165,hqD "ordered" 376 84 1 162),
 (166,hFn 27 "ordered" (.str "loggather.patterns" 296) 165),
 (167,hqU [.int 3 384,.int 2 385]),
 (173,hqC "grouped" 387 88 2 168 395),
 (174,hFn 30 "grouped" (.str "loggather.gathering" 382) 173),
 (178,hqD "words_at" 398 93 2 175),
 (179,hFn 31 "words_at" (.str "loggather.gathering" 382) 178),
 (185,hqC "many_unlike_at" 404 95 2 180 409),
 (186,hFn 32 "many_unlike_at" (.str "loggather.gathering" 382) 185),
 (190,hqD "is_fit_to_part_at" 412 97 3 187),
 (191,hFn 33 "is_fit_to_part_at" (.str "loggather.gathering" 382) 190),
 (195,hqD "place_to_part_at" 418 102 2 192),
 (196,hFn 34 "place_to_part_at" (.str "loggather.gathering" 382) 195),
 (202,hqC "parted" 424 105 2 197 432),
 (203,hFn 35 "parted" (.str "loggather.gathering" 382) 202),
 (207,hqD "pattern_of_group" 435 113 1 204),
 (208,hFn 36 "pattern_of_group" (.str "loggather.gathering" 382) 207),
 (209,hqU [.ref 167]),
 (213,hqD "gathered" 441 115 2 210),
 (214,hFd 37 "gathered" (.str "loggather.gathering" 382) 213 209),
 (220,hqC "looseness_of_part" 449 122 1 215 453),
 (221,hFn 39 "looseness_of_part" (.str "loggather.falling" 447) 220),
 (225,hqD "looseness" 456 126 1 222),
 (226,hFn 40 "looseness" (.str "loggather.falling" 447) 225),
 (230,hqD "falls_under" 462 128 2 227),
 (231,hFn 41 "falls_under" (.str "loggather.falling" 447) 230),
 (235,hqD "is_news" 468 131 3 232),
 (236,hFn 42 "is_news" (.str "loggather.falling" 447) 235),
 (237,hqU [.ref 167]),
 (241,hqD "news" 474 133 2 238),
 (242,hFd 43 "news" (.str "loggather.falling" 447) 241 237),
 (248,hqC "_law_deck" 482 136 2 243 487),
 (249,hFn 45 "_law_deck" (.str "law_loggather_k39_sixty_patterns_and_lines" 480) 248),
 (255,hqC "_law_pick" 490 140 2 250 497),
 (256,hFn 46 "_law_pick" (.str "law_loggather_k39_sixty_patterns_and_lines" 480) 255),
 (260,hqD "_law_kind" 500 151 1 257),
 (261,hFn 47 "_law_kind" (.str "law_loggather_k39_sixty_patterns_and_lines" 480) 260),
 (267,hqC "_law_fits_part" 506 156 2 262 511),
 (268,hFn 48 "_law_fits_part" (.str "law_loggather_k39_sixty_patterns_and_lines" 480) 267),
 (272,hqD "_law_fits" 514 160 2 269),
 (273,hFn 49 "_law_fits" (.str "law_loggather_k39_sixty_patterns_and_lines" 480) 272),
 (277,hqD "_law_word" 520 165 1 274),
 (278,hFn 50 "_law_word" (.str "law_loggather_k39_sixty_patterns_and_lines" 480) 277),
 (282,hqD "_law_line" 526 175 2 279),
 (283,hFn 51 "_law_line" (.str "law_loggather_k39_sixty_patterns_and_lines" 480) 282),
 (287,hqD "_law_lines" 532 177 2 284),
 (288,hFn 52 "_law_lines" (.str "law_loggather_k39_sixty_patterns_and_lines" 480) 287),
 (294,hqC "_law_pattern" 538 188 2 289 547),
 (295,hFn 53 "_law_pattern" (.str "law_loggather_k39_sixty_patterns_and_lines" 480) 294),
 (301,hqC "_law_place" 550 200 1 296 557),
 (302,hFn 54 "_law_place" (.str "law_loggather_k39_sixty_patterns_and_lines" 480) 301),
 (306,hqD "_law_ordered" 560 206 1 303),
 (307,hFn 55 "_law_ordered" (.str "law_loggather_k39_sixty_patterns_and_lines" 480) 306),
 (311,hqD "_law_joined" 566 209 1 308),
 (312,hFn 56 "_law_joined" (.str "law_loggather_k39_sixty_patterns_and_lines" 480) 311),
 (316,hqD "_law_groups" 572 221 2 313),
 (317,hFn 57 "_law_groups" (.str "law_loggather_k39_sixty_patterns_and_lines" 480) 316),
 (321,hqD "_law_gathered" 578 236 2 318),
 (322,hFn 58 "_law_gathered" (.str "law_loggather_k39_sixty_patterns_and_lines" 480) 321),
 (328,hqC "_law_sieve" 584 244 1 323 588),
 (329,hFn 59 "_law_sieve" (.str "law_loggather_k39_sixty_patterns_and_lines" 480) 328),
 (335,hqC "_law_loose" 591 246 1 330 597),
 (336,hFn 60 "_law_loose" (.str "law_loggather_k39_sixty_patterns_and_lines" 480) 335),
 (340,hqD "_law_falls" 600 251 2 337),
 (341,hFn 61 "_law_falls" (.str "law_loggather_k39_sixty_patterns_and_lines" 480) 340),
 (347,hqC "_law_sixty" 606 254 1 342 611),
 (348,hFn 62 "_law_sixty" (.str "law_loggather_k39_sixty_patterns_and_lines" 480) 347),
 (352,hqD "law" 614 259 1 349),
 (353,hFn 63 "law" (.str "law_loggather_k39_sixty_patterns_and_lines" 480) 352)]
def hLo:List Str:=[("gathered" : Str),("news" : Str)]
def hH:PySem.W.Hook:=PySem.W.kmHook hK [4,3,57,58,64,65,71,72,78,79,85,86,90,91,97,98,99,105,106,112,113,119,120,126,127,131,132,138,139,143,144,148,149,155,156,160,161,165,166,167,173,174,178,179,185,186,190,191,195,196,202,203,207,208,209,213,214,220,221,225,226,230,231,235,236,237,241,242,248,249,255,256,260,261,267,268,272,273,277,278,282,283,287,288,294,295,301,302,306,307,311,312,316,317,321,322,328,329,335,336,340,341,347,348,352,353] (λ_=>by kernel_rfl) [193]
def hX (s:Shared):Bool:=PySem.W.xlAt hV [] s && PySem.W.recOk (PySem.W.RowW.records (PySem.W.OpenRow.toRowW (PySem.W.OpenLaw.row PySem.Challenge.rw_loggather_k39_sixty_patterns_and_lines))) s
noncomputable def mH0 (P:Params):Heap:=⟨#[PySem.W.boot_o_0 P,
 PySem.W.boot_o_1 P,
 PySem.W.boot_o_2 P,
 ⟨.type "dict",none,.dict #[hEn P "__name__" 165 (.str "loggather.words" 239),hEn P "__doc__" 166 (.none),hEn P "__package__" 167 (.none),hEn P "__loader__" 168 (.builtin "__main__.__loader__#opaque"),hEn P "__spec__" 169 (.none),hqR P "__annotations__" 170 6,hqR P "__builtins__" 171 4,hEn P "__file__" 173 (.str "/claim/cut.py" 172),hEn P "__cached__" 174 (.none),hqR P "GatherError" 206 24,hqR P "NoFit" 222 37,hqR P "NoJoin" 238 49,hEn P "FIGURES" 242 (.str "0123456789" 241),hEn P "SMALL_LETTERS" 244 (.str "abcdefghijklmnopqrstuvwxyz" 243),hEn P "WORD_SIGNS" 246 (.str "!\"#$&'()*+,-./0123456789:;<=>?@ABCDEFGHIJKLMNOPQRSTUVWXYZ[\\]^_`abcdefghijklmnopqrstuvwxyz{|}~" 245),hqR P "has_only" 254 58,hqR P "is_word" 261 65,hqR P "kind_of" 268 72,hqR P "words_of" 275 79,hqR P "word_key" 282 86] 20,#[]⟩,
 PySem.W.boot_o_4 P,
 PySem.W.boot_o_5 P,
 PySem.W.boot_o_6 P,
 PySem.W.boot_o_7 P,
 PySem.W.boot_o_8 P,
 PySem.W.boot_o_9 P,
 PySem.W.boot_o_10 P,
 hqU [],
 ⟨.none,none,.fields #[.int 2 0,.int 0 0,.ref 20,.int 4 0,.int 0 0,.ref 33,.int 6 0,.int 0 0,.ref 45,.int 12 0,.int 0 0,.ref 57,.int 14 0,.int 0 0,.ref 64,.int 16 0,.int 0 0,.ref 71,.int 22 0,.int 0 0,.ref 78,.int 24 0,.int 0 0,.ref 85],#[]⟩,
 ⟨.type "code",none,.fields #[.str "<module>" 182,.str "<module>" 183,.str "/claim/cut.py" 184,.int 1 0,.int 0 0,.int 0 0,.int 0 0,.int 0 0,.ref 11,.bool false,.int 181 0,.ref 12,.none,.none,.none,.none,.int 185 0,.int 1 0,.str "/claim/cut.py" 186],#[]⟩,
 ⟨.type "frame",none,.plain,#[some (.ref 13),some (.ref 3),some (.ref 3),none,some (.str "__main__" 164),none,some (.ref 0)]⟩,
 hqU [.type "ValueError"],
 ⟨.type "builtin_function_or_method",none,.fields #[.builtin "type.__prepare__",.type "type"],#[]⟩,
 ⟨.type "dict",none,.dict #[hEn P "__module__" 196 (.str "loggather.errors" 187),hEn P "__qualname__" 198 (.str "GatherError" 197),hEn P "__firstlineno__" 200 (.int 2 199),hqR P "__static_attributes__" 201 22] 4,#[]⟩,
 hqU [],
 hqN,
 ⟨.type "code",none,.fields #[.str "GatherError" 191,.str "GatherError" 192,.str "/claim/cut.py" 193,.int 2 0,.int 0 0,.int 0 0,.int 0 0,.int 0 0,.ref 18,.bool false,.int 181 0,.ref 19,.none,.none,.none,.none,.int 194 0,.int 2 0,.str "/claim/cut.py" 195],#[]⟩,
 ⟨.type "frame",none,.plain,#[some (.ref 20),some (.ref 3),some (.ref 17),none,some (.str "loggather.errors" 187),none,some (.ref 0)]⟩,
 hqU [],
 ⟨.type "dict",none,.dict #[hEn P "__module__" 196 (.str "loggather.errors" 187),hEn P "__firstlineno__" 200 (.int 2 199),hqR P "__static_attributes__" 201 22,hqR P "__weakref__" 203 25,hEn P "__doc__" 204 (.none)] 3,#[]⟩,
 ⟨.type "type",none,.cls { name:= "GatherError",bases:=[.type "ValueError"],mro:=[.ref 24,.type "ValueError",.type "Exception",.type "BaseException",.type "object"],ns:=23,qualname:= "GatherError",hasDict:=true,slotNames:=[],subclasses:=[.ref 37,.ref 49],abstract:=false,collection:=none,hasDel:=false },#[some (.ref 15),none,some (.str "GatherError" 189),some (.str "GatherError" 197),some (.builtin "ValueError.__new__"),some (.bool true)]⟩,
 ⟨.type "getset_descriptor",none,.fields #[.str "__weakref__" 202,.ref 24,.builtin "ExceptionGroup.__weakref__",.none],#[]⟩,
 ⟨.type "super",none,.fields #[.ref 24,.ref 24,.ref 24],#[]⟩,
 ⟨.type "builtin_function_or_method",none,.fields #[.builtin "object.__init_subclass__",.ref 24],#[]⟩,
 hqU [.ref 24],
 ⟨.type "builtin_function_or_method",none,.fields #[.builtin "type.__prepare__",.type "type"],#[]⟩,
 ⟨.type "dict",none,.dict #[hEn P "__module__" 214 (.str "loggather.errors" 187),hEn P "__qualname__" 216 (.str "NoFit" 215),hEn P "__firstlineno__" 218 (.int 4 217),hqR P "__static_attributes__" 219 35] 4,#[]⟩,
 hqU [],
 hqN,
 ⟨.type "code",none,.fields #[.str "NoFit" 209,.str "NoFit" 210,.str "/claim/cut.py" 211,.int 4 0,.int 0 0,.int 0 0,.int 0 0,.int 0 0,.ref 31,.bool false,.int 181 0,.ref 32,.none,.none,.none,.none,.int 212 0,.int 4 0,.str "/claim/cut.py" 213],#[]⟩,
 ⟨.type "frame",none,.plain,#[some (.ref 33),some (.ref 3),some (.ref 30),none,some (.str "loggather.errors" 187),none,some (.ref 0)]⟩,
 hqU [],
 ⟨.type "dict",none,.dict #[hEn P "__module__" 214 (.str "loggather.errors" 187),hEn P "__firstlineno__" 218 (.int 4 217),hqR P "__static_attributes__" 219 35,hEn P "__doc__" 220 (.none)] 2,#[]⟩,
 ⟨.type "type",none,.cls { name:= "NoFit",bases:=[.ref 24],mro:=[.ref 37,.ref 24,.type "ValueError",.type "Exception",.type "BaseException",.type "object"],ns:=36,qualname:= "NoFit",hasDict:=true,slotNames:=[],subclasses:=[],abstract:=false,collection:=none,hasDel:=false },#[some (.ref 28),none,some (.str "NoFit" 207),some (.str "NoFit" 215),some (.builtin "ValueError.__new__"),some (.bool true)]⟩,
 ⟨.type "super",none,.fields #[.ref 37,.ref 37,.ref 37],#[]⟩,
 ⟨.type "builtin_function_or_method",none,.fields #[.builtin "object.__init_subclass__",.ref 37],#[]⟩,
 hqU [.ref 24],
 ⟨.type "builtin_function_or_method",none,.fields #[.builtin "type.__prepare__",.type "type"],#[]⟩,
 ⟨.type "dict",none,.dict #[hEn P "__module__" 230 (.str "loggather.errors" 187),hEn P "__qualname__" 232 (.str "NoJoin" 231),hEn P "__firstlineno__" 234 (.int 6 233),hqR P "__static_attributes__" 235 47] 4,#[]⟩,
 hqU [],
 hqN,
 ⟨.type "code",none,.fields #[.str "NoJoin" 225,.str "NoJoin" 226,.str "/claim/cut.py" 227,.int 6 0,.int 0 0,.int 0 0,.int 0 0,.int 0 0,.ref 43,.bool false,.int 181 0,.ref 44,.none,.none,.none,.none,.int 228 0,.int 6 0,.str "/claim/cut.py" 229],#[]⟩,
 ⟨.type "frame",none,.plain,#[some (.ref 45),some (.ref 3),some (.ref 42),none,some (.str "loggather.errors" 187),none,some (.ref 0)]⟩,
 hqU [],
 ⟨.type "dict",none,.dict #[hEn P "__module__" 230 (.str "loggather.errors" 187),hEn P "__firstlineno__" 234 (.int 6 233),hqR P "__static_attributes__" 235 47,hEn P "__doc__" 236 (.none)] 2,#[]⟩,
 ⟨.type "type",none,.cls { name:= "NoJoin",bases:=[.ref 24],mro:=[.ref 49,.ref 24,.type "ValueError",.type "Exception",.type "BaseException",.type "object"],ns:=48,qualname:= "NoJoin",hasDict:=true,slotNames:=[],subclasses:=[],abstract:=false,collection:=none,hasDel:=false },#[some (.ref 40),none,some (.str "NoJoin" 223),some (.str "NoJoin" 231),some (.builtin "ValueError.__new__"),some (.bool true)]⟩,
 ⟨.type "super",none,.fields #[.ref 49,.ref 49,.ref 49],#[]⟩,
 ⟨.type "builtin_function_or_method",none,.fields #[.builtin "object.__init_subclass__",.ref 49],#[]⟩,
 hqU [],
 hqN,
 hqU [.str "text" 250,.str "signs" 251],
 hqU [],
 hFz 8 "has_only",
 hqC "has_only" 247 12 2 52 252,
 hFn 8 "has_only" (.str "loggather.words" 239) 57,
 hqU [],
 hqN,
 hqU [.str "thing" 258],
 hqU [],
 hFz 9 "is_word",
 hqC "is_word" 255 14 1 59 259,
 hFn 9 "is_word" (.str "loggather.words" 239) 64,
 hqU [],
 hqN,
 hqU [.str "word" 265],
 hqU [],
 hFz 10 "kind_of",
 hqC "kind_of" 262 16 1 66 266,
 hFn 10 "kind_of" (.str "loggather.words" 239) 71,
 hqU [],
 hqN,
 hqU [.str "line" 272],
 hqU [],
 hFz 11 "words_of",
 hqC "words_of" 269 22 1 73 273,
 hFn 11 "words_of" (.str "loggather.words" 239) 78,
 hqU [],
 hqN,
 hqU [.str "word" 279],
 hqU [],
 hFz 12 "word_key",
 hqC "word_key" 276 24 1 80 280,
 hFn 12 "word_key" (.str "loggather.words" 239) 85],(PySem.W.boot_heap P).life⟩
def mB:List Stmt:=PySem.W.behindTheImports PySem.Challenge.pw_loggather_k39_sixty_patterns_and_lines
def CV:Env:={ scope:=PySem.Challenge.pw_loggather_k39_sixty_patterns_and_lines.main.scope,locals:=mainNs,globals:=mainNs,cells:=[],code:=.ref 13,frame:=some 14 }
def mC:Code:=.body mB CV
theorem mSz (w:World):((PySem.W.boot_heap w.params).isNs mainGlobals,(PySem.W.boot_heap w.params).objs.size,(PySem.W.boot_heap w.params).nsMap mainGlobals "__annotations__")=(true,11,some (.ref 6)):=by kernel_rfl
theorem mR0 (w:World) (os:OsState):(PySem.W.topGo treeTable PySem.Challenge.pw_loggather_k39_sixty_patterns_and_lines w 11 (some (.ref 6)) 12 ⟨PySem.W.boot_heap w.params,Array.mk [],PySem.W.boot_drawn,PySem.W.boot_toks,os⟩ (PySem.W.topStub PySem.Challenge.pw_loggather_k39_sixty_patterns_and_lines)).bind (λx=>(PySem.W.segRun treeTable PySem.Challenge.pw_loggather_k39_sixty_patterns_and_lines w 11 (some (.ref 6)) 1 1 x.1 (PySem.W.blockOf mB CV mC ⟨0,0,0,0⟩ [PySem.W.topFrame ⟨0,0,0,0⟩])).bind λy=>(PySem.W.segRun treeTable PySem.Challenge.pw_loggather_k39_sixty_patterns_and_lines w 11 (some (.ref 6)) 1 804 y.2.1 (PySem.W.piecesOf (mB.take 13) CV mC y.2.2.2 [PySem.W.topFrame ⟨0,0,0,0⟩])).map λz=>(x.2,y.1,y.2.2.1,z))=some (⟨denote treeTable mC,mC,⟨0,0,0,0⟩,[PySem.W.topFrame ⟨0,0,0,0⟩]⟩,.next,mC,(.next,⟨mH0 w.params,Array.mk [],⟨0,0,0,0⟩,283,os⟩,mC,⟨24,0,25,28⟩)):=by kernel_rfl
theorem mZ (w:World) (os:OsState):(PySem.W.segRun treeTable PySem.Challenge.pw_loggather_k39_sixty_patterns_and_lines w 11 (some (.ref 6)) 1 1328 ⟨mH0 w.params,Array.mk [],⟨0,0,0,0⟩,283,os⟩ (PySem.W.piecesOf (mB.drop 13) CV mC ⟨24,0,25,28⟩ [PySem.W.topFrame ⟨0,0,0,0⟩])).bind (λz=>(PySem.W.topRun treeTable PySem.Challenge.pw_loggather_k39_sixty_patterns_and_lines w 11 (some (.ref 6)) 2 z.2.1 ⟨PySem.W.doneF .next,mC,z.2.2.2,[PySem.W.topFrame ⟨0,0,0,0⟩]⟩).map λr=>(z.1,z.2.2.1,(PySem.W.staticsOk (importedModules PySem.Challenge.pw_loggather_k39_sixty_patterns_and_lines.main.body) (PySem.W.boot_heap w.params) r.heap && PySem.W.namesBound PySem.Challenge.pw_loggather_k39_sixty_patterns_and_lines r.heap && PySem.W.gensDone r && PySem.W.laidKept (PySem.W.boot_heap w.params) r.heap),PySem.W.openSeen hV hLo (importedModules PySem.Challenge.pw_loggather_k39_sixty_patterns_and_lines.main.body) hX true r,hH.obs r))=some (.next,mC,true,PySem.W.openGood hV hLo,hH.val w):=by kernel_rfl
theorem hL:PySem.W.LeftO PySem.Challenge.pw_loggather_k39_sixty_patterns_and_lines hV hLo hX hH.obs hH.val 4386:=L2.CU (c:=mC) (env:=CV) (b:=mB) (n2:=1328+2) rfl (List.take_append_drop 13 mB) (PySem.W.boot_open (by kernel_rfl) (by decide) (λs=>by kernel_rfl)) mSz mR0 (λw os=>L2.CW (mZ w os)) (by decide)
end K39
namespace L2
open PySem PySem.Spec PyProof.Rows
abbrev Key:=Sum Int Str
def ql:Key->Value->Bool
 | .inl k,v=>Value.isInt k v
 | .inr x,v=>Value.isStrOf x v
def LD (w:World):Key->Int
 | .inl k=>hashInt k
 | .inr x=>hashStr w x
theorem bS:∀ {k:Key}{v:Value},ql k v=true->(∃ i t,k=Sum.inl i/\v=Value.int i t)\/(∃ x t,k=Sum.inr x/\v=Value.str x t)
 | .inl i,v,h=>by
  obtain ⟨t,e⟩:=Value.isInt_shape (k:=i) (v:=v) h;exact .inl ⟨i,t,rfl,e⟩
 | .inr x,v,h=>by
  obtain ⟨t,e⟩:=Value.isStrOf_shape (x:=x) (v:=v) h;exact .inr ⟨x,t,rfl,e⟩
theorem Bt (i:Int) (t:Tok):ql (.inl i) (.int i t)=true:=by simp [ql,Value.isInt]
theorem Bk (x:Str) (t:Tok):ql (.inr x) (.str x t)=true:=by simp [ql,Value.isStrOf]
theorem IP (a b:Int):decide ((Sum.inl a:Key)=Sum.inl b)=(a == b):=by
 by_cases e:a=b
 ·subst e;simp
 ·have h:¬ (Sum.inl a:Key)=Sum.inl b:=λq=>e (Sum.inl.inj q);rw [decide_eq_false h];exact (beq_eq_false_iff_ne.mpr e).symm
theorem Jf (a b:Str):decide ((Sum.inr a:Key)=Sum.inr b)=decide (a=b):=by
 by_cases e:a=b
 ·subst e;simp
 ·have h:¬ (Sum.inr a:Key)=Sum.inr b:=λq=>e (Sum.inr.inj q);rw [decide_eq_false h,decide_eq_false e]
theorem IW (a:Int) (b:Str):decide ((Sum.inl a:Key)=Sum.inr b)=false:=decide_eq_false (λq=>nomatch q)
theorem G9 (a:Str) (b:Int):decide ((Sum.inr a:Key)=Sum.inl b)=false:=decide_eq_false (λq=>nomatch q)
def aW (prog:Program) (w:World):PySem.KeyKind prog w Key where
 is:=ql
 hash:=LD w
 inj:=λv a b ha hb=>by
  rcases bS ha with ⟨i,t,rfl,rfl⟩ | ⟨x,t,rfl,rfl⟩
  ·rcases bS hb with ⟨j,u,rfl,e⟩ | ⟨y,u,rfl,e⟩
   ·injection e with e1 _;rw [e1]
   ·exact nomatch e
  ·rcases bS hb with ⟨j,u,rfl,e⟩ | ⟨y,u,rfl,e⟩
   ·exact nomatch e
   ·injection e with e1 _;rw [e1]
 byValue:=λk v h=>by
  rcases bS h with ⟨i,t,rfl,rfl⟩ | ⟨x,t,rfl,rfl⟩ <;> rfl
 pyHash:=λhv h=>by
  rcases bS hv with ⟨i,t,rfl,rfl⟩ | ⟨x,t,rfl,rfl⟩
  ·exact wpAny_pyHash_int h
  ·exact wpAny_pyHash_str h
 eqBool:=λhu hv h=>by
  rcases bS hu with ⟨i,t,rfl,rfl⟩ | ⟨x,t,rfl,rfl⟩
  ·rcases bS hv with ⟨j,u,rfl,rfl⟩ | ⟨y,u,rfl,rfl⟩
   ·rw [IP] at h;exact wpAny_eqBool_int h
   ·rw [IW] at h;exact SeqAt.EqAt.int_str i t y u _ _ _ _ h
  ·rcases bS hv with ⟨j,u,rfl,rfl⟩ | ⟨y,u,rfl,rfl⟩
   ·rw [G9] at h;exact SeqAt.EqAt.str_int x t j u _ _ _ _ h
   ·rw [Jf] at h;exact wpAny_eqBool_str h
 «strs»:=λk x t v h=>by
  rcases bS h with ⟨i,u,rfl,e⟩ | ⟨y,u,rfl,e⟩
  ·exact nomatch e
  ·injection e with e1 _;subst e1;cases v <;> rfl
theorem vZ (prog:Program) (w:World) (i:Int) (t:Tok):(aW prog w).is (.inl i) (.int i t)=true:=Bt i t
theorem iu (prog:Program) (w:World) (x:Str) (t:Tok):(aW prog w).is (.inr x) (.str x t)=true:=Bk x t
inductive V where
 | non | bl (b:Bool) | int (i:Int) | str (x:Str) | byt (b:Array UInt8) | flt (b:UInt64) | ref (a:Addr) | ty (n:String)
 deriving DecidableEq
def RelV:V->Value->Prop
 | .non,u=>u=Value.none
 | .bl b,u=>u=Value.bool b
 | .int i,u=>∃ t,u=Value.int i t
 | .str x,u=>∃ t,u=Value.str x t
 | .byt b,u=>∃ t,u=Value.bytes b t
 | .flt b,u=>∃ t,u=Value.float b t
 | .ref a,u=>u=Value.ref a
 | .ty n,u=>u=Value.type n
abbrev aY:List V->List Value->Prop:=Paired RelV
theorem aY.length {xs:List V}{us:List Value} (r:aY xs us):xs.length=us.length:=Paired.length r
theorem aY.get:∀ {xs:List V}{us:List Value}{i:Nat}{x:V},aY xs us->xs[i]? = some x->∃ u,us[i]? = some u/\RelV x u
 | _,_,_,_,.nil,e=>by simp at e
 | _,_,0,_,.cons r _,e=>by simp at e;subst e;exact ⟨_,rfl,r⟩
 | _,_,i+1,x,.cons _ t,e=>by
  obtain ⟨u,h1,h2⟩:=aY.get (i:=i) (x:=x) t (by simpa using e);exact ⟨u,by simpa using h1,h2⟩
theorem aY.set {x:V}{u:Value} (r:RelV x u):∀ {xs:List V}{us:List Value} (i:Nat),aY xs us->aY (xs.set i x) (us.set i u)
 | _,_,_,.nil=>.nil
 | _,_,0,.cons _ t=>.cons r t
 | _,_,i+1,.cons q t=>.cons q (aY.set r i t)
theorem aY.append:∀ {xs ys:List V}{us ws:List Value},aY xs us->aY ys ws->aY (xs++ys) (us++ws)
 | _,_,_,_,.nil,s=>s
 | _,_,_,_,.cons r t,s=>.cons r (aY.append t s)
theorem aY.take:∀ {xs:List V}{us:List Value} (n:Nat),aY xs us->aY (xs.take n) (us.take n)
 | _,_,0,_=>.nil
 | _,_,_+1,.nil=>.nil
 | _,_,n+1,.cons r t=>.cons r (aY.take n t)
theorem aY.drop:∀ {xs:List V}{us:List Value} (n:Nat),aY xs us->aY (xs.drop n) (us.drop n)
 | _,_,0,r=>r
 | _,_,_+1,.nil=>.nil
 | _,_,n+1,.cons _ t=>aY.drop n t
theorem aY.none_of:∀ {xs:List V}{us:List Value}{i:Nat},aY xs us->xs[i]? = none->us[i]? = none:=λ{xs us i} r e=>by
 have h1:=r.length;have h2:xs.length<=i:=Pq.mp e;exact Pq.mpr (by lia)
def mf:Option V->Option Value->Prop
 | some v,some u=>RelV v u
 | none,none=>True
 | _,_=>False
def KV {κ:Type}:List (κ×V)->List (κ×Value)->Prop:=Paired λ(p:κ×V) (q:κ×Value)=>p.1=q.1/\RelV p.2 q.2
def kV:Key->V
 | .inl i=>.int i
 | .inr x=>.str x
inductive HO where
 | lst (xs:List V)
 | tup (xs:List V)
 | dK (kvs:List (Key×V)) | dT (kvs:List (List Key×V))
 | set (S:Int->Bool) (n:Nat)
 | ins (C dx:Addr) (fs:List (Str×V))
 | own (x:Addr)
 | xd (fs:List (Str×V))
 | met (f x:Addr)
 | rng (lo hi:Int)
 | frz (o:Obj) (u:HO)
 | tbl (ps:Array Value)
 | ext (φ:Heap->Prop)
abbrev Hp:=Addr->Option HO
def upd (H:Hp) (a:Addr) (o:HO):Hp:=λb=>if b=a then some o else H b
theorem ab {H:Hp}{a:Addr}{o:HO}:upd H a o a=some o:=by unfold upd;rw [if_pos rfl]
theorem aw {H:Hp}{a b:Addr}{o:HO} (h:b≠a):upd H a o b=H b:=by unfold upd;rw [if_neg h]
theorem KN {H:Hp}{a b:Addr}{o u:HO} (h:H a=some o) (h':H b=some u) (d:o≠u):a≠b:=by
 intro e;subst e;rw [h] at h';exact d (Option.some.inj h')
theorem ao {H:Hp}{a b:Addr}{o:HO} (h:H a=some o) (h':H b=none):a≠b:=by
 intro e;subst e;rw [h] at h';cases h'
section
variable (P:Program) (w:World)
def b8 (H:Hp) (h:Heap) (a:Addr):HO->Prop
 | .lst xs=>xs.length<=sizeLine/\∃ (its:List Value) (n:Nat),aY xs its/\h.get? a=some { cls:=.type "list",data:=.seq its.toArray n }
 | .tup xs=>xs.length<=sizeLine/\∃ its:List Value,aY xs its/\IsTup h a its.toArray
 | .dK kvs=>kvs.length<=sizeLine/\(a == sysModules)=false/\∃ vs,KV kvs vs/\h.DictOf (aW P w) a vs
 | .dT kvs=>kvs.length<=sizeLine/\(a == sysModules)=false/\∃ xs:List (List Key×Addr×Value),
   Paired (λ(p:List Key×V) (q:List Key×Addr×Value)=>p.1=q.1/\H q.2.1=some (.tup (p.1.map kV))/\RelV p.2 q.2.2) kvs xs /\
   ∃ o es ep,h.get? a=some o/\o.ExactDict/\o.data = .dict es ep/\es.toList=xs.map (entryOfKey (tupleKind (aW P w)))/\(xs.map (·.1)).Nodup
 | .set S n=>h.SetOf (intKind P w) a S n
 | .ins C dx fs=>H dx=some (.own a)/\fs.length<=1000/\dx≠a/\h.get? a=some (PySem.W.instObj C dx) /\
   ∃ mA,h.Ns1 dx mA/\(∀ f,mf (fs.lookup f) (mA f))/\PySem.Within mA (fs.map (·.1))
 | .own _=>∃ o,h.get? a=some o
 | .xd fs=>∃ mA,h.Ns1 a mA/\∀ f,mf (fs.lookup f) (mA f)
 | .rng lo hi=>∃ t u v,h.get? a=some { cls:=.type "range",data:=.fields #[.int lo t,.int hi u,.int 1 v] }
 | .frz o u=>h.get? a=some o/\b8 H h a u
 | .tbl ps=>h.get? a=some { cls:=.none,data:=.fields ps }
 | .met f x=>h.get? a=some (PySem.W.methodObj (.ref f) (.ref x))
 | .ext φ=>φ h/\(∃ o,h.get? a=some o)/\∀ h1 h2:Heap,φ h1->(∀ o,h1.get? a=some o->h2.get? a=some o)->φ h2
def HOk (H:Hp) (h:Heap):Prop:=∀ a o,H a=some o->b8 P w H h a o
end
section
variable {P:Program}{w:World}{H H':Hp}{h h':Heap}{a:Addr}{o:HO}
theorem b8.lt (x:b8 P w H h a o):a<h.objs.size:=by
 cases o with
 | lst xs=>obtain ⟨_,_,_,_,e⟩:=x;exact Heap.lt_size e
 | tup xs=>obtain ⟨_,_,_,p⟩:=x;exact p.lt
 | dK kvs=>obtain ⟨_,_,_,_,o,_,_,e,_⟩:=x;exact Heap.lt_size e
 | dT kvs=>obtain ⟨_,_,_,_,o,_,_,e,_⟩:=x;exact Heap.lt_size e
 | set S n=>obtain ⟨o,_,_,_,e,_⟩:=x;exact Heap.lt_size e
 | ins C dx fs=>obtain ⟨_,_,_,e,_⟩:=x;exact Heap.lt_size e
 | own y=>obtain ⟨_,e⟩:=x;exact Heap.lt_size e
 | xd fs=>obtain ⟨_,⟨_,_,_,e,_⟩,_⟩:=x;exact Heap.lt_size e
 | rng lo hi=>obtain ⟨_,_,_,e⟩:=x;exact Heap.lt_size e
 | frz ob u=>obtain ⟨e,_⟩:=x;exact Heap.lt_size e
 | tbl ps=>exact Heap.lt_size (show h.get? a=some _ from x)
 | met f y=>exact Heap.lt_size (show h.get? a=some _ from x)
 | ext φ=>obtain ⟨_,⟨_,e⟩,_⟩:=x;exact Heap.lt_size e
theorem Paired.Hn {α β:Type}{F G:α->β->Prop}:∀ {l₁:List α}{l₂:List β},Paired F l₁ l₂->(∀ a b,F a b->G a b)->Paired G l₁ l₂
 | _,_,.nil,_=>.nil
 | _,_,.cons r t,f=>.cons (f _ _ r) (Paired.Hn t f)
theorem b8.vp (x:b8 P w H h a o) (k:∀ b u,(b=a\/H b=some (.own a))->h.get? b=some u->h'.get? b=some u)
  (ho:∀ b,H b=some (.own a)->H' b=some (.own a)) (ht:∀ b xs,H b=some (.tup xs)->H' b=some (.tup xs)):b8 P w H' h' a o:=by
 induction o with
 | lst xs=>obtain ⟨z,its,n,r,e⟩:=x;exact ⟨z,its,n,r,k _ _ (.inl rfl) e⟩
 | tup xs=>obtain ⟨z,its,r,ob,e,c⟩:=x;exact ⟨z,its,r,ob,k _ _ (.inl rfl) e,c⟩
 | dK kvs=>obtain ⟨z,y,vs,r,ob,es,ep,e,c⟩:=x;exact ⟨z,y,vs,r,ob,es,ep,k _ _ (.inl rfl) e,c⟩
 | dT kvs=>
  obtain ⟨z,y,xs,r,ob,es,ep,e,c⟩:=x;exact ⟨z,y,xs,Paired.Hn r λp q z=>⟨z.1,ht _ _ z.2.1,z.2.2⟩,ob,es,ep,k _ _ (.inl rfl) e,c⟩
 | set S n=>obtain ⟨ob,es,ep,t,e,c⟩:=x;exact ⟨ob,es,ep,t,k _ _ (.inl rfl) e,c⟩
 | ins C dx fs=>
  obtain ⟨d,z,ne,e,mA,⟨od,es,ep,e2,c⟩,r⟩:=x;exact ⟨ho _ d,z,ne,k _ _ (.inl rfl) e,mA,⟨od,es,ep,k _ _ (.inr d) e2,c⟩,r⟩
 | own y=>obtain ⟨ob,e⟩:=x;exact ⟨ob,k _ _ (.inl rfl) e⟩
 | xd fs=>obtain ⟨mA,⟨od,es,ep,e,c⟩,r⟩:=x;exact ⟨mA,⟨od,es,ep,k _ _ (.inl rfl) e,c⟩,r⟩
 | rng lo hi=>obtain ⟨t,u,v,e⟩:=x;exact ⟨t,u,v,k _ _ (.inl rfl) e⟩
 | frz ob u ih=>obtain ⟨e,q⟩:=x;exact ⟨k _ _ (.inl rfl) e,ih q⟩
 | tbl ps=>
  have e:h.get? a=some { cls:=.none,data:=.fields ps }:=x;show h'.get? a=some { cls:=.none,data:=.fields ps };exact k a _ (.inl rfl) e
 | met f y=>
  have e:h.get? a=some (PySem.W.methodObj (.ref f) (.ref y)):=x;show h'.get? a=some (PySem.W.methodObj (.ref f) (.ref y));exact k a _ (.inl rfl) e
 | ext φ=>obtain ⟨p,⟨o,e⟩,st⟩:=x;exact ⟨st _ _ p λo q=>k _ _ (.inl rfl) q,⟨o,k _ _ (.inl rfl) e⟩,st⟩
theorem HOk.lt (x:HOk P w H h) (e:H a=some o):a<h.objs.size:=(x a o e).lt
theorem HOk.fresh (x:HOk P w H h) (e:h.objs.size<=a):H a=none:=by
 cases q:H a with
 | none=>rfl
 | some u=>exact absurd (N9 (x.lt q) e) (Oy _)
theorem HOk.kept (x:HOk P w H h) (k:∀ b u,h.get? b=some u->h'.get? b=some u):HOk P w H h':=λa o e=>
 (x a o e).vp (λb u _ q=>k b u q) (λ_ q=>q) λ_ _ q=>q
theorem HOk.laid (x:HOk P w H h) (k:∀ b u,h.get? b=some u->h'.get? b=some u) (hp:h.objs.size<=a) (new:b8 P w (upd H a o) h' a o):HOk P w (upd H a o) h':=λb u e=>by
 have hn:=x.fresh hp;by_cases hb:b=a
 ·subst hb;rw [ab] at e;cases e;exact new
 ·rw [aw hb] at e;exact (x b u e).vp (λc v _ q=>k c v q) (λc q=>by rw [aw (ao q hn)];exact q) λc xs q=>by rw [aw (ao q hn)];exact q
end
def Rd (H:Hp) (a:Addr) (u:HO):Prop:=H a=some u\/∃ o,H a=some (.frz o u)
theorem Rd.of {H:Hp}{a:Addr}{u:HO} (h:H a=some u):Rd H a u:=.inl h
theorem Rd.ok {P:Program}{w:World}{H:Hp}{h:Heap}{a:Addr}{u:HO} (r:Rd H a u) (x:HOk P w H h):b8 P w H h a u:=by
 rcases r with r | ⟨o,r⟩
 ·exact x a u r
 ·obtain ⟨_,q⟩:=x a _ r;exact q
def Mut:Option HO->Prop
 | some (.lst _)=>True
 | some (.dK _)=>True
 | some (.dT _)=>True
 | some (.set _ _)=>True
 | some (.ins _ _ _)=>True
 | some (.ext _)=>True
 | _=>False
section
variable {P:Program}{w:World}{H:Hp}{h h':Heap}{x e:Addr}{o':HO}
theorem HOk.write (ok:HOk P w H h) (mu:Mut (H x)) (he:e=x\/H e=some (.own x)) (k:∀ b u,b≠e->h.get? b=some u->h'.get? b=some u) (heo:∃ u,h'.get? e=some u)
  (new:b8 P w (upd H x o') h' x o'):HOk P w (upd H x o') h':=λb u q=>by
 have Ku:∀ c y,H c=some (.own y)->c≠x:=λc y r z=>by subst z;rw [r] at mu;exact mu
 have LM:∀ c xs,H c=some (.tup xs)->c≠x:=λc xs r z=>by subst z;rw [r] at mu;exact mu
 by_cases hb:b=x
 ·subst hb;rw [ab] at q;cases q;exact new
 ·rw [aw hb] at q;by_cases hbe:b=e
  ·have q':H b=some (.own x):=by
    rcases he with z | z
    ·exact absurd (hbe.trans z) hb
    ·rw [hbe];exact z
   rw [q] at q';cases q';obtain ⟨v,hv⟩:=heo;exact ⟨v,by rw [hbe];exact hv⟩
  ·refine (ok b u q).vp (λc v hc r=>k c v ?_ r) (λc r=>by rw [aw (Ku c b r)];exact r) λc xs r=>by rw [aw (LM c xs r)];exact r
   rcases hc with rfl | hc
   ·exact hbe
   ·rintro rfl;rcases he with z | z
    ·exact Ku c b hc z
    ·rw [hc] at z;cases z;exact hb rfl
end
structure Un (fs ex:List Addr) (H H':Hp) (h h':Heap):Prop where
 keep:∀ b o,h.get? b=some o->H b=none->b∉fs->b∉ex->h'.get? b=some o
 slot:∀ b o,h.get? b=some o->H b=none->b∈fs->b∉ex->∃ sl,h'.get? b=some { o with slots:=sl }
 free:∀ b o,h.get? b=some o->H b=none->b∉ex->H' b=none
 there:∀ b o,h.get? b=some o->b∉ex->∃ o',h'.get? b=some o'
 qE:∀ b xs,H b=some (.tup xs)->H' b=some (.tup xs)
 pC:∀ b o u,H b=some (.frz o u)->H' b=some (.frz o u)
 pH:∀ b ps,H b=some (.tbl ps)->∃ more,H' b=some (.tbl (ps++more))
section
variable {fs fs' ex ex':List Addr}{H H1 H2:Hp}{h h1 h2 h':Heap}{a x e:Addr}{o:HO}
theorem Un.any (u:Un fs ex H H1 h h1) {b:Addr}{ob:Obj} (q:h.get? b=some ob) (n:H b=none) (hx:b∉ex):∃ sl,h1.get? b=some { ob with slots:=sl }:=by
 by_cases hb:b∈fs
 ·exact u.slot b ob q n hb hx
 ·exact ⟨ob.slots,u.keep b ob q n hb hx⟩
theorem Un.trans (a:Un fs ex H H1 h h1) (b:Un fs ex H1 H2 h1 h2):Un fs ex H H2 h h2 where
 keep:=λc ob q n hc hx=>b.keep c ob (a.keep c ob q n hc hx) (a.free c ob q n hx) hc hx
 slot:=λc ob q n hc hx=>by
  obtain ⟨sl,e1⟩:=a.slot c ob q n hc hx;obtain ⟨sl',e2⟩:=b.slot c _ e1 (a.free c ob q n hx) hc hx;exact ⟨sl',e2⟩
 free:=λc ob q n hx=>by
  obtain ⟨o',e1⟩:=a.there c ob q hx;exact b.free c o' e1 (a.free c ob q n hx) hx
 there:=λc ob q hx=>by
  obtain ⟨o',e1⟩:=a.there c ob q hx;exact b.there c o' e1 hx
 qE:=λc xs q=>b.qE c xs (a.qE c xs q)
 pC:=λc ob xs q=>b.pC c ob xs (a.pC c ob xs q)
 pH:=λc ps q=>by
  obtain ⟨m1,e1⟩:=a.pH c ps q;obtain ⟨m2,e2⟩:=b.pH c _ e1;exact ⟨m1++m2,by rw [e2,Array.append_assoc]⟩
theorem Un.kept (k:∀ b u,h.get? b=some u->h'.get? b=some u):Un fs ex H H h h':=
 ⟨λb ob q _ _ _=>k b ob q,λb ob q _ _ _=>⟨ob.slots,k b ob q⟩,λ_ _ _ n _=>n,λb ob q _=>⟨ob,k b ob q⟩,λ_ _ q=>q,λ_ _ _ q=>q,λ_ ps q=>⟨#[],by rw [q];simp⟩⟩
theorem Un.refl:Un fs ex H H h h:=Un.kept λ_ _ q=>q
theorem Un.laid (k:∀ b u,h.get? b=some u->h'.get? b=some u) (hp:h.objs.size<=a) (hn:H a=none):Un fs ex H (upd H a o) h h' where
 keep:=λb u q _ _ _=>k b u q
 slot:=λb u q _ _ _=>⟨u.slots,k b u q⟩
 free:=λb u q n _=>by rw [aw (N3 (N9 (Heap.lt_size q) hp))];exact n
 there:=λb u q _=>⟨u,k b u q⟩
 qE:=λb xs q=>by rw [aw (ao q hn)];exact q
 pC:=λb u xs q=>by rw [aw (ao q hn)];exact q
 pH:=λb ps q=>⟨#[],by rw [aw (ao q hn),q];simp⟩
theorem Un.write (mu:Mut (H x)) (he:e=x\/H e=some (.own x)) (k:∀ b u,b≠e->h.get? b=some u->h'.get? b=some u) (heo:∃ u,h'.get? e=some u):Un fs ex H (upd H x o) h h':=by
 have hx:∀ b,H b=none->b≠x:=λb n z=>by subst z;rw [n] at mu;exact mu
 have hb:∀ b,H b=none->b≠e:=λb n z=>by
  subst z;rcases he with r | r
  ·exact hx b n r
  ·rw [n] at r;cases r
 have hm:∀ b u,H b=some u -> ¬ Mut (some u)->b≠x:=λb u q nm z=>by subst z;rw [q] at mu;exact nm mu
 refine ⟨λb u q n _ _=>k b u (hb b n) q,λb u q n _ _=>⟨u.slots,k b u (hb b n) q⟩,λb u q n _=>by rw [aw (hx b n)];exact n,λb u q _=>?_,
  λb xs q=>by rw [aw (hm b _ q λz=>z)];exact q,λb u xs q=>by rw [aw (hm b _ q λz=>z)];exact q,λb ps q=>⟨#[],by rw [aw (hm b _ q λz=>z),q];simp⟩⟩
 by_cases hbe:b=e
 ·subst hbe;exact heo
 ·exact ⟨u,k b u hbe q⟩
end
def trk (h:Heap) (H:Hp):List Addr:=(List.range h.objs.size).filter λa=>(H a).isSome
def xM (h:Heap) (H:Hp):Heap:=PySem.W.hideAll h (trk h H)
theorem Ay (h:Heap) (H:Hp):(xM h H).objs.size=h.objs.size:=PySem.W.hideAll_size _ _
theorem xy {h:Heap}{H:Hp}{b:Addr}{o:Obj} (e:h.get? b=some o) (n:H b=none):(xM h H).get? b=some o:=
 PySem.W.hideAll_get _ e λhm=>by
  have q:(H b).isSome=true:=(Oc.mp hm).2;rw [n] at q;simp at q
theorem ES {h:Heap}{H:Hp}{b:Addr}{o:Obj} (e:(xM h H).get? b=some o):h.get? b=some o/\H b=none:=by
 have e':h.get? b=some o:=PySem.W.of_hideAll (trk h H) e;refine ⟨e',?_⟩;cases q:H b with
 | none=>rfl
 | some x=>
  have hm:b∈trk h H:=Oc.mpr ⟨Oh.mpr (Heap.lt_size e'),by simp [q]⟩;have z:(xM h H).get? b=none:=PySem.W.hideAll_none (trk h H) hm;rw [z] at e;cases e
def Ft (g h:Heap) (L:Addr):List (Addr×Obj):=(List.range h.objs.size).filterMap λa=>if a=L\/(g.get? a).isSome=true then none else (h.get? a).map λo=>(a,o)
def rest (g h:Heap) (L d:Addr):List (Addr×Obj):=(Ft g h L).filter λp=>decide (p.1≠d)
structure Mod (K:PySem.W.Frag) (mg:Str->Option Value) (base:Heap):Prop where
 kin:K.In base
 glob:base.Ns mainGlobals mg
 blt:∃ mb,base.Ns builtinsNs mb/\∀ x:Str,x ≠ "__name__" -> mb x=bootBuiltins x
 nolimit:base.NoLimit
structure Cx where
 prog:Program
 w:World
 K:PySem.W.Frag
 mg:Str->Option Value
 base:Heap
 A:Around
 N:List Str
 s₀:Shared
 H₀:Hp
 env:Env
 outer:List Env
 stack:List Env
 ex:List Addr
 fn:Str->Bool
 calm:Bool
 pn:List (Addr×Obj)
 xe:Value->Shared->Prop
def frs (l:List Env):List Addr:=l.filterMap (·.frame)
abbrev Cx.fs (X:Cx):List Addr:=frs X.outer
def Vis (sc:Scope) (x:Str):Prop:=sc.names.lookup x=some .local\/sc.names.lookup x=some .cell\/sc.names.lookup x=some .free
def Loc (sc:Scope) (x:Str):Prop:=sc.names.lookup x=some .local\/sc.names.lookup x=some .cell
def Look (env:Env) (h:Heap) (m:Str->Option Value) (x:Str) (u:Value):Prop:=
 (env.kindOf x=some .local/\m x=some u)\/((env.kindOf x=some .cell\/env.kindOf x=some .free)/\∃ c,env.cells.lookup x=some c/\h.IsCell c (some u))
structure Cx.Ok (X:Cx):Prop where
 mod:Mod X.K X.mg X.base
 kind:X.env.scope.kind = .function
 glob:X.env.globals=mainGlobals
 blt:X.env.builtins=builtinsNs
 above:X.s₀.heap.objs.size<=X.env.locals
 inj:∀ x y c,X.env.cells.lookup x=some c->X.env.cells.lookup y=some c->x=y
 has:∀ x,(X.env.kindOf x=some .cell\/X.env.kindOf x=some .free)->∃ c,X.env.cells.lookup x=some c
 cab:∀ x c,X.fn x=true->X.env.cells.lookup x=some c->X.s₀.heap.objs.size<=c
 hd:X.calm=true->X.A.handled=none
 frames:X.A.frames=some X.stack
 stk:X.stack=X.outer\/(X.stack=X.env::X.outer/\X.env.frame=some X.env.locals)
 exf:∀ b∈X.ex,b≠X.env.locals/\∀ x c,X.env.cells.lookup x=some c->c≠b
 bs:∀ b o,X.base.get? b=some o->X.s₀.heap.get? b=some o/\X.H₀ b=none
 bsz:X.base.objs.size<=X.s₀.heap.objs.size
 BY:∀ b o,X.base.get? b=some o->b∉X.ex
 Ck:∀ b∈X.ex,b∉X.fs
 oB:X.s₀.heap.FunFrames X.base X.outer
 frf:∀ b∈X.fs,X.H₀ b=none
structure Inv (X:Cx) (pins:List (Addr×Obj)) (σ:List (Option V)) (H:Hp) (s:Shared):Prop where
 ok:X.Ok
 os:s.os=X.s₀.os
 bare:AllBare s.gens
 base:Un X.fs X.ex X.H₀ H X.s₀.heap s.heap
 loc:∃ m,s.heap.Ns X.env.locals m/\∀ (i:Nat) (x:Str) (v:V),X.N[i]? = some x->σ[i]? = some (some v)->Vis X.env.scope x->∃ u,RelV v u/\Look X.env s.heap m x u
 cell:∀ x c,X.env.cells.lookup x=some c->∃ v,s.heap.IsCell c v
 free:H X.env.locals=none
 j8:∀ x c,X.env.cells.lookup x=some c->H c=none
 pin:∀ p∈X.pn++pins,s.heap.get? p.1=some p.2/\H p.1=none/\p.1≠X.env.locals/\p.1∉X.fs/\∀ v,p.2.data ≠ .cell v
 hok:HOk X.prog X.w H s.heap
 len:σ.length=X.N.length
section
variable {X:Cx}{pins:List (Addr×Obj)}{σ:List (Option V)}{H H':Hp}{s:Shared}{h':Heap}
theorem Cx.Ok.Mo (ok:X.Ok) {b:Addr}{o:Obj} (e:X.base.get? b=some o):b∉X.fs:=λhb=>by
 have:=(ok.oB.mem hb).1;rw [e] at this;cases this
theorem Inv.bs (I:Inv X pins σ H s):∀ b o,X.base.get? b=some o->s.heap.get? b=some o/\H b=none:=λb o e=>
 ⟨I.base.keep b o (I.ok.bs b o e).1 (I.ok.bs b o e).2 (I.ok.Mo e) (I.ok.BY b o e),I.base.free b o (I.ok.bs b o e).1 (I.ok.bs b o e).2 (I.ok.BY b o e)⟩
theorem Inv.bk (I:Inv X pins σ H s):∀ b o,X.base.get? b=some o->s.heap.get? b=some o:=λb o e=>(I.bs b o e).1
theorem Inv.mod (I:Inv X pins σ H s):Mod X.K X.mg X.base:=I.ok.mod
theorem Inv.kIn (I:Inv X pins σ H s):X.K.In s.heap:=I.ok.mod.kin.keeps I.bk
theorem Inv.nolimit (I:Inv X pins σ H s):s.heap.NoLimit:=I.ok.mod.nolimit.keeps I.bk
theorem Inv.lt (I:Inv X pins σ H s):X.env.locals<s.heap.objs.size:=let ⟨_,hn,_⟩:=I.loc;hn.lt
theorem Inv.sz (I:Inv X pins σ H s):X.s₀.heap.objs.size<=s.heap.objs.size:=NM I.ok.above (O9 I.lt)
theorem Inv.K0 (I:Inv X pins σ H s) {a:Addr} (h:s.heap.objs.size<=a):a∉X.fs:=λhb=>by
 obtain ⟨_,o,ho,_⟩:=I.ok.oB.mem hb;exact absurd (N9 (Heap.lt_size ho) (NM I.sz h)) (Oy _)
theorem Inv.cne (I:Inv X pins σ H s):∀ x c,X.env.cells.lookup x=some c->c≠X.env.locals:=λx c e z=>by
 obtain ⟨v,o,ho,hd⟩:=I.cell x c e;obtain ⟨m,⟨o',es,ep,ho',hd',_⟩,_⟩:=I.loc;rw [z,ho'] at ho;cases ho;rw [hd'] at hd;cases hd
theorem Inv.oB (I:Inv X pins σ H s):s.heap.FunFrames X.base X.outer:=by
 have all:∀ (l:List Env),(∀ b∈frs l,b∈X.fs)->X.s₀.heap.FunFrames X.base l->s.heap.FunFrames X.base l:=by
  intro l
  induction l with
  | nil=>intro _ _;trivial
  | cons env r ih=>
   intro hs hl;obtain ⟨hk,⟨L,o,hf,hn,ho,hd⟩,hr⟩:=hl;have hL:L∈X.fs:=hs L (by unfold frs;rw [Pw,hf];exact NT);obtain ⟨sl,e⟩:=I.base.slot L o ho (I.ok.frf L hL) hL λz=>I.ok.Ck L z hL;exact ⟨hk,⟨L,_,hf,hn,e,hd⟩,ih (λb hb=>hs b (by unfold frs;rw [Pw,hf];exact NN _ hb)) hr⟩
 exact all X.outer (λ_ hb=>hb) I.ok.oB
theorem Inv.stack (I:Inv X pins σ H s):s.heap.FunFrames X.base X.stack:=by
 rcases I.ok.stk with e | ⟨e,hf⟩
 ·rw [e];exact I.oB
 ·rw [e];obtain ⟨m,hn,_⟩:=I.loc;refine .cons (by rw [I.ok.kind];decide) hf hn ?_ I.oB;exact Heap.get?_none_of_le (NM I.ok.bsz I.ok.above)
theorem Inv.yT (I:Inv X pins σ H s):∀ b∈frs X.stack,b∈X.env.locals::X.fs:=λb hb=>by
 rcases I.ok.stk with e | ⟨e,hf⟩
 ·rw [e] at hb;exact NN _ hb
 ·rw [e] at hb;unfold frs at hb;rw [Pw,hf] at hb;exact hb
theorem Inv.zO (I:Inv X pins σ H s):∀ b∈frs X.stack,H b=none:=λb hb=>by
 rcases NZ.mp (I.yT b hb) with e | hb
 ·rw [e];exact I.free
 ·obtain ⟨_,o,ho,_⟩:=I.ok.oB.mem hb;exact I.base.free b o ho (I.ok.frf b hb) λz=>I.ok.Ck b z hb
theorem Inv.step {g':Array GenState}{t':Nat}{d':Drawn}{ch:List Addr} (I:Inv X pins σ H s)
  (hch:∀ b∈ch,(b∈X.ex\/X.s₀.heap.objs.size<=b)/\b≠X.env.locals/\(∀ x c,X.env.cells.lookup x=some c->c≠b)/\∀ p∈X.pn++pins,p.1≠b)
  (keep:∀ b o,b≠X.env.locals->b∉X.fs->b∉ch->s.heap.get? b=some o->H b=none->h'.get? b=some o)
  (slot:∀ b o,b≠X.env.locals->b∈X.fs->b∉ch->s.heap.get? b=some o->H b=none->∃ sl,h'.get? b=some { o with slots:=sl }) (free:∀ b o,b∉ch->s.heap.get? b=some o->H b=none->H' b=none)
  (there:∀ b o,b∉ch->s.heap.get? b=some o->∃ o',h'.get? b=some o')
  (qE:∀ b xs,H b=some (.tup xs)->H' b=some (.tup xs)) (pC:∀ b o u,H b=some (.frz o u)->H' b=some (.frz o u)) (pH:∀ b ps,H b=some (.tbl ps)->∃ more,H' b=some (.tbl (ps++more)))
  (ns:∀ m,s.heap.Ns X.env.locals m->h'.Ns X.env.locals m) (hok:HOk X.prog X.w H' h') (hg:AllBare g') :
  Inv X pins σ H' { s with heap:=h',gens:=g',drawn:=d',toks:=t' }:=by
 have neL:∀ b o,X.s₀.heap.get? b=some o->b≠X.env.locals:=λb o e=>N3 (N9 (Heap.lt_size e) I.ok.above);have neC:∀ b o,X.s₀.heap.get? b=some o->b∉X.ex->b∉ch:=λb o e hx hb=>by
  rcases (hch b hb).1 with z | z
  ·exact hx z
  ·exact absurd (N9 (Heap.lt_size e) z) (Oy _)
 have cellK:∀ x c,X.env.cells.lookup x=some c->∀ v,s.heap.IsCell c v->h'.IsCell c v:=λx c e v ⟨o,ho,hd⟩=>by
  have nch:c∉ch:=λz=>(hch c z).2.2.1 x c e rfl;by_cases hc:c∈X.fs
  ·obtain ⟨sl,q⟩:=slot c o (I.cne x c e) hc nch ho (I.j8 x c e);exact ⟨_,q,hd⟩
  ·exact ⟨o,keep c o (I.cne x c e) hc nch ho (I.j8 x c e),hd⟩
 refine ⟨I.ok,I.os,hg,⟨λb o e n hb hx=>?_,λb o e n hb hx=>?_,λb o e n hx=>?_,λb o e hx=>?_,λb xs e=>qE b xs (I.base.qE b xs e),λb o xs e=>pC b o xs (I.base.pC b o xs e),λb ps e=>?_⟩,?_,λx c e=>?_,?_,λx c e=>?_,λp hp=>?_,hok,I.len⟩
 ·exact keep b o (neL b o e) hb (neC b o e hx) (I.base.keep b o e n hb hx) (I.base.free b o e n hx)
 ·obtain ⟨sl,e1⟩:=I.base.slot b o e n hb hx;obtain ⟨sl',e2⟩:=slot b _ (neL b o e) hb (neC b o e hx) e1 (I.base.free b o e n hx);exact ⟨sl',e2⟩
 ·obtain ⟨o',e1⟩:=I.base.there b o e hx;exact free b o' (neC b o e hx) e1 (I.base.free b o e n hx)
 ·obtain ⟨o',e1⟩:=I.base.there b o e hx;exact there b o' (neC b o e hx) e1
 ·obtain ⟨m1,e1⟩:=I.base.pH b ps e;obtain ⟨m2,e2⟩:=pH b _ e1;exact ⟨m1++m2,by rw [e2,Array.append_assoc]⟩
 ·obtain ⟨m,hn,hl⟩:=I.loc;refine ⟨m,ns m hn,λi x v e1 e2 e3=>?_⟩;obtain ⟨u,r,l⟩:=hl i x v e1 e2 e3;refine ⟨u,r,?_⟩;rcases l with l | ⟨k,c,e,z⟩
  ·exact .inl l
  ·exact .inr ⟨k,c,e,cellK x c e _ z⟩
 ·obtain ⟨v,z⟩:=I.cell x c e;exact ⟨v,cellK x c e v z⟩
 ·obtain ⟨m,⟨o,_,_,ho,_⟩,_⟩:=I.loc;exact free _ o (λz=>(hch _ z).2.1 rfl) ho I.free
 ·obtain ⟨v,o,ho,hd⟩:=I.cell x c e;exact free c o (λz=>(hch c z).2.2.1 x c e rfl) ho (I.j8 x c e)
 ·obtain ⟨e,n,ne,nf,d⟩:=I.pin p hp;have nch:p.1∉ch:=λz=>(hch p.1 z).2.2.2 p hp rfl;exact ⟨keep p.1 p.2 ne nf nch e n,free p.1 p.2 nch e n,ne,nf,d⟩
theorem Inv.un {t':Nat} (I:Inv X pins σ H s) (u:Un X.fs [] H H' s.heap h') (hok:HOk X.prog X.w H' h'):Inv X pins σ H' { s with heap:=h',toks:=t' }:=by
 obtain ⟨m,⟨o,es,ep,ho,r⟩,_⟩:=id I.loc;obtain ⟨sl,hL⟩:=u.any ho I.free (by simp);exact I.step (g':=s.gens) (d':=s.drawn) (ch:=[]) (λ_ z=>nomatch z) (λb o _ hb _ e n=>u.keep b o e n hb (by simp)) (λb o _ hb _ e n=>u.slot b o e n hb (by simp)) (λb o _ e n=>u.free b o e n (by simp)) (λb o _ e=>u.there b o e (by simp)) u.qE u.pC u.pH (λm' hm=>by
  obtain ⟨o',es',ep',ho',r'⟩:=hm;rw [ho] at ho';cases ho';exact ⟨_,es',ep',hL,r'⟩) hok I.bare
theorem Inv.call {g':Array GenState}{t':Nat}{d':Drawn}{ch:List Addr} (I:Inv X pins σ H s) (u:Un (frs X.stack) ch H H' s.heap h') (hok:HOk X.prog X.w H' h') (hg:AllBare g')
  (hch:∀ b∈ch,(b∈X.ex\/X.s₀.heap.objs.size<=b)/\b≠X.env.locals/\(∀ x c,X.env.cells.lookup x=some c->c≠b)/\∀ p∈X.pn++pins,p.1≠b) :
  Inv X pins σ H' { s with heap:=h',gens:=g',drawn:=d',toks:=t' }:=by
 obtain ⟨m,⟨o,es,ep,ho,r⟩,_⟩:=id I.loc;obtain ⟨sl,hL⟩:=u.any ho I.free λz=>(hch _ z).2.1 rfl;exact I.step (ch:=ch) hch (λb o hL hb hc e n=>u.keep b o e n (λz=>(NZ.mp (I.yT b z)).elim hL hb) hc) (λb o _ _ hc e n=>u.any e n hc) (λb o hc e n=>u.free b o e n hc) (λb o hc e=>u.there b o e hc) u.qE u.pC u.pH (λm' hm=>by
  obtain ⟨o',es',ep',ho',r'⟩:=hm;rw [ho] at ho';cases ho';exact ⟨_,es',ep',hL,r'⟩) hok hg
theorem Inv.turned {t':Nat}{it:Addr} (I:Inv X pins σ H s) (k:∀ b o,b≠it->s.heap.get? b=some o->h'.get? b=some o) (hn:H it=none) (hL:it≠X.env.locals)
  (h1:it∈X.ex\/X.s₀.heap.objs.size<=it) (h2:∀ x c,X.env.cells.lookup x=some c->c≠it) (h3:∀ p∈X.pn++pins,p.1≠it):Inv X pins σ H { s with heap:=h',toks:=t' }:=by
 have nit:∀ b u,H b=some u->b≠it:=λb u e z=>by rw [z,hn] at e;cases e
 refine I.step (g':=s.gens) (d':=s.drawn) (ch:=[it]) (λb hb=>?_) (λb o _ _ hc e _=>k b o (λz=>hc (by simp [z])) e) (λb o _ _ hc e _=>⟨o.slots,k b o (λz=>hc (by simp [z])) e⟩) (λ_ _ _ _ n=>n)
  (λb o hc e=>⟨o,k b o (λz=>hc (by simp [z])) e⟩) (λ_ _ e=>e) (λ_ _ _ e=>e) (λb ps e=>⟨#[],by rw [e];simp⟩) (λm hm=>?_) (λb u e=>?_) I.bare
 ·have e:b=it:=by simpa using hb
  subst e;exact ⟨h1,hL,h2,h3⟩
 ·obtain ⟨o,es,ep,ho,r⟩:=hm;exact ⟨o,es,ep,k _ o (Ne.symm hL) ho,r⟩
 ·refine (I.hok b u e).vp (λc v hc q=>k c v ?_ q) (λ_ q=>q) λ_ _ q=>q;rcases hc with z | z
  ·rw [z];exact nit b u e
  ·exact nit c _ z
theorem Inv.tok (I:Inv X pins σ H s) (t:Nat):Inv X pins σ H { s with toks:=t }:=I.un (h':=s.heap) (t':=t) Un.refl I.hok
theorem Inv.kept {t':Nat} (I:Inv X pins σ H s) (k:∀ b u,s.heap.get? b=some u->h'.get? b=some u):Inv X pins σ H { s with heap:=h',toks:=t' }:=I.un (Un.kept k) (I.hok.kept k)
theorem Inv.laid {a:Addr}{o:HO}{t':Nat} (I:Inv X pins σ H s) (k:∀ b u,s.heap.get? b=some u->h'.get? b=some u) (hp:s.heap.objs.size<=a) (new:b8 X.prog X.w (upd H a o) h' a o) :
  Inv X pins σ (upd H a o) { s with heap:=h',toks:=t' }:=I.un (Un.laid k hp (I.hok.fresh hp)) (I.hok.laid k hp new)
theorem Inv.write {x e:Addr}{o:HO}{t':Nat} (I:Inv X pins σ H s) (mu:Mut (H x)) (he:e=x\/H e=some (.own x)) (k:∀ b u,b≠e->s.heap.get? b=some u->h'.get? b=some u) (heo:∃ u,h'.get? e=some u)
  (new:b8 X.prog X.w (upd H x o) h' x o):Inv X pins σ (upd H x o) { s with heap:=h',toks:=t' }:=I.un (Un.write mu he k heo) (I.hok.write mu he k heo new)
theorem Inv.nK {GY:List (Addr×Obj)} (I:Inv X pins σ H s) (h:∀ p∈GY,s.heap.get? p.1=some p.2/\H p.1=none/\p.1≠X.env.locals/\p.1∉X.fs/\∀ v,p.2.data ≠ .cell v):Inv X GY σ H s:=
 ⟨I.ok,I.os,I.bare,I.base,I.loc,I.cell,I.free,I.j8,λp hp=>(Oa.mp hp).elim (λz=>I.pin p (Pa _ z)) (h p),I.hok,I.len⟩
theorem xE {N:List Str} (hN:N.Nodup) {i j:Nat}{x:Str} (a:N[i]? = some x) (b:N[j]? = some x):i=j:=by
 obtain ⟨h1,e1⟩:=OD.mp a;obtain ⟨h2,e2⟩:=OD.mp b;exact (List.getElem_inj hN).mp (e1.trans e2.symm)
theorem ud {M:Model}{A:Around}{E:Value->Shared->Prop}{i:Nat}{x:Str}{v:V}{u:Value}{Q:Unit->Shared->Prop} (I:Inv X pins σ H s) (hN:X.N.Nodup) (hi:X.N[i]? = some x) (hx:Loc X.env.scope x) (r:RelV v u)
  (h:∀ s',Inv X pins (σ.set i (some v)) H s'->(∃ a,Heap.SameBut a s.heap s'.heap/\(a=X.env.locals\/X.env.cells.lookup x=some a))->Q () s') (hf:X.fn x=true\/X.env.scope.names.lookup x=some .local:=by first | exact .inl rfl | exact .inr rfl | assumption):wpAny M A (storeName X.env x u) Q E s:=by
 obtain ⟨m,hn,hl⟩:=id I.loc;have MZ:(X.env.scope.kind == .class || (X.env.scope.kind == .module && X.env.locals != X.env.globals))=false:=by rw [I.ok.kind];rfl
 have hiσ:i<σ.length:=by rw [I.len];exact (OD.mp hi).1
 have cne:=I.cne;have tracked:∀ {a:Addr}{h':Heap},(∃ o,s.heap.get? a=some o/\H a=none)->Heap.SameBut a s.heap h'->HOk X.prog X.w H h':=λ{a h'} ha hs b ob e=>by
  obtain ⟨_,_,GB⟩:=ha;refine (I.hok b ob e).vp (λc w' hc q=>(hs.2 c ?_).trans q) (λ_ q=>q) λ_ _ q=>q;rintro rfl;rcases hc with rfl | hc
  ·rw [GB] at e;cases e
  ·rw [GB] at hc;cases hc
 rcases hx with hk | hk
 ·refine wpAny_storeName_local hk hn (λh' hn' hs=>?_) MZ;obtain ⟨oL,_,_,hoL,_⟩:=id hn;refine h _ ⟨I.ok,I.os,I.bare,⟨λb o e n hb hx=>?_,λb o e n hb hx=>?_,I.base.free,λb o e hx=>?_,I.base.qE,I.base.pC,I.base.pH⟩,⟨_,hn',λj y v' e1 e2 e3=>?_⟩,λy c e=>?_,I.free,I.j8,λp hp=>?_,tracked ⟨oL,hoL,I.free⟩ hs,by simpa using I.len⟩ ⟨_,hs,.inl rfl⟩
  ·exact (hs.2 b (N3 (N9 (Heap.lt_size e) I.ok.above))).trans (I.base.keep b o e n hb hx)
  ·obtain ⟨sl,e1⟩:=I.base.slot b o e n hb hx;exact ⟨sl,(hs.2 b (N3 (N9 (Heap.lt_size e) I.ok.above))).trans e1⟩
  ·obtain ⟨o',e1⟩:=I.base.there b o e hx;exact ⟨o',(hs.2 b (N3 (N9 (Heap.lt_size e) I.ok.above))).trans e1⟩
  ·by_cases hj:j=i
   ·subst hj;rw [hi] at e1;cases e1;rw [List.getElem?_set_self hiσ] at e2;cases e2;exact ⟨u,r,.inl ⟨hk,by simp⟩⟩
   ·rw [List.getElem?_set_ne (Ne.symm hj)] at e2;obtain ⟨u',r',q⟩:=hl j y v' e1 e2 e3;refine ⟨u',r',?_⟩;rcases q with ⟨k,e⟩ | ⟨k,c,e,z⟩
    ·refine .inl ⟨k,?_⟩;have:y≠x:=λe=>hj (xE hN e1 (e ▸ hi));simp [this,e]
    ·exact .inr ⟨k,c,e,z.sameBut hs (cne y c e)⟩
  ·obtain ⟨w',z⟩:=I.cell y c e;exact ⟨w',z.sameBut hs (cne y c e)⟩
  ·obtain ⟨e,n,ne,nf,d⟩:=I.pin p hp;exact ⟨(hs.2 p.1 ne).trans e,n,ne,nf,d⟩
 ·have hfn:X.fn x=true:=by
   rcases hf with z | z
   ·exact z
   ·rw [z] at hk;cases hk
  obtain ⟨c,hc⟩:=I.ok.has x (.inl hk);obtain ⟨w',z⟩:=I.cell x c hc;refine wpAny_storeName_cell I.ok.kind hk hc z (λh' hc' hs=>?_);obtain ⟨oc,hoc,Mp⟩:=id z;refine h { s with heap:=h' } ⟨I.ok,I.os,I.bare,⟨λb o e n hb hx=>?_,λb o e n hb hx=>?_,I.base.free,λb o e hx=>?_,I.base.qE,I.base.pC,I.base.pH⟩,⟨m,hn.sameBut hs (Ne.symm (cne x c hc)),λj y v' e1 e2 e3=>?_⟩,λy c' e=>?_,I.free,I.j8,λp hp=>?_,tracked ⟨oc,hoc,I.j8 x c hc⟩ hs,by simpa using I.len⟩ ⟨c,hs,.inr hc⟩
  ·exact (hs.2 b (N3 (N9 (Heap.lt_size e) (I.ok.cab x c hfn hc)))).trans (I.base.keep b o e n hb hx)
  ·obtain ⟨sl,e1⟩:=I.base.slot b o e n hb hx;exact ⟨sl,(hs.2 b (N3 (N9 (Heap.lt_size e) (I.ok.cab x c hfn hc)))).trans e1⟩
  ·obtain ⟨o',e1⟩:=I.base.there b o e hx;exact ⟨o',(hs.2 b (N3 (N9 (Heap.lt_size e) (I.ok.cab x c hfn hc)))).trans e1⟩
  ·by_cases hj:j=i
   ·subst hj;rw [hi] at e1;cases e1;rw [List.getElem?_set_self hiσ] at e2;cases e2;exact ⟨u,r,.inr ⟨.inl hk,c,hc,hc'⟩⟩
   ·rw [List.getElem?_set_ne (Ne.symm hj)] at e2;obtain ⟨u',r',q⟩:=hl j y v' e1 e2 e3;refine ⟨u',r',?_⟩;rcases q with q | ⟨k,c',e,z'⟩
    ·exact .inl q
    ·refine .inr ⟨k,c',e,z'.sameBut hs ?_⟩;rintro rfl;exact hj (xE hN e1 (I.ok.inj _ _ _ e hc ▸ hi))
  ·by_cases hcc:c' = c
   ·subst hcc;exact ⟨_,hc'⟩
   ·obtain ⟨w2,z2⟩:=I.cell y c' e;exact ⟨w2,z2.sameBut hs hcc⟩
  ·obtain ⟨e,n,ne,nf,d⟩:=I.pin p hp;refine ⟨(hs.2 p.1 ?_).trans e,n,ne,nf,d⟩;intro q;rw [q,hoc] at e;have q':oc=p.2:=Option.some.inj e;exact d w' (by rw [<-q'];exact Mp)
theorem wu {M:Model}{A:Around}{E:Value->Shared->Prop}{i:Nat}{x:Str}{v:V}{u:Value}{Q:Unit->Shared->Prop} (I:Inv X pins σ H s) (hN:X.N.Nodup) (hi:X.N[i]? = some x) (hx:Loc X.env.scope x) (r:RelV v u)
  (h:∀ s',Inv X pins (σ.set i (some v)) H s'->Q () s') (hf:X.fn x=true\/X.env.scope.names.lookup x=some .local:=by first | exact .inl rfl | exact .inr rfl | assumption):wpAny M A (storeName X.env x u) Q E s:=
 ud I hN hi hx r (λs' I' _=>h s' I') hf
theorem Inv.JH {s':Shared}{ch:List Addr} (I:Inv X pins σ H s) (ho:s'.os=s.os) (u:Un (frs X.stack) ch H H' s.heap s'.heap) (hok:HOk X.prog X.w H' s'.heap) (hg:AllBare s'.gens)
  (hch:∀ b∈ch,(b∈X.ex\/X.s₀.heap.objs.size<=b)/\b≠X.env.locals/\(∀ x c,X.env.cells.lookup x=some c->c≠b)/\∀ p∈X.pn++pins,p.1≠b):Inv X pins σ H' s':=by
 obtain ⟨h',g',d',t',o'⟩:=s';have e:o' = s.os:=ho;subst e;exact I.call (g':=g') (t':=t') (d':=d') u hok hg hch
end
abbrev XK:=Value->Option Addr->Hp->Prop
abbrev St:=List (Option V)
abbrev VK:=V->Hp->Prop
abbrev TE:=St->Hp->VK->Prop
abbrev TT:=St->Hp->(Bool->Hp->Prop)->Prop
abbrev TA:=St->Hp->(List V->Hp->Prop)->Prop
structure Ends where
 nx:St->Hp->Prop
 rt:VK
 bk:St->Hp->Prop:=λ_ _=>False
 ct:St->Hp->Prop:=λ_ _=>False
abbrev TS:=Ends->St->Hp->Prop
def EP (X:Cx) (pins:List (Addr×Obj)) (σ:St) (Q:VK) (u:Value) (s':Shared):Prop:=∃ v H',Inv X pins σ H' s'/\RelV v u/\Q v H'
def TP (X:Cx) (pins:List (Addr×Obj)) (σ:St) (Q:Bool->Hp->Prop) (b:Bool) (s':Shared):Prop:=∃ H',Inv X pins σ H' s'/\Q b H'
def AP (X:Cx) (pins:List (Addr×Obj)) (σ:St) (Q:List V->Hp->Prop) (us:List Value) (s':Shared):Prop:=∃ vs H',Inv X pins σ H' s'/\aY vs us/\Q vs H'
def SP (X:Cx) (pins:List (Addr×Obj)) (D:Ends) (f:Flow) (s':Shared):Prop:=
 match f with
 | .next=>∃ σ' H',Inv X pins σ' H' s'/\D.nx σ' H'
 | .brk=>∃ σ' H',Inv X pins σ' H' s'/\D.bk σ' H'
 | .cont=>∃ σ' H',Inv X pins σ' H' s'/\D.ct σ' H'
 | .ret u=>∃ v σ' H',Inv X pins σ' H' s'/\RelV v u/\D.rt v H'
def PE (X:Cx) (e:Expr) (t:TE):Prop:=
 ∀ (pins:List (Addr×Obj)) (s:Shared) (σ:St) (H:Hp) (Q:VK),Inv X pins σ H s->t σ H Q->wpAny (model X.prog X.w) X.A (eval e X.env) (EP X pins σ Q) X.xe s
def PT (X:Cx) (e:Expr) (t:TT):Prop:=
 ∀ (pins:List (Addr×Obj)) (s:Shared) (σ:St) (H:Hp) (Q:Bool->Hp->Prop),Inv X pins σ H s->t σ H Q->wpAny (model X.prog X.w) X.A (isTrue e X.env (eval e X.env)) (TP X pins σ Q) X.xe s
def PW (X:Cx) (e:Expr) (t:TT):Prop:=
 ∀ (whole:Sem Value) (pins:List (Addr×Obj)) (s:Shared) (σ:St) (H:Hp) (Q:Bool->Hp->Prop),Inv X pins σ H s->t σ H Q->wpAny (model X.prog X.w) X.A (isTrue e X.env whole) (TP X pins σ Q) X.xe s
theorem PW.pt {X:Cx}{e:Expr}{t:TT} (h:PW X e t):PT X e t:=h _
def PA (X:Cx) (es:List Expr) (t:TA):Prop:=
 ∀ (pos:Pos) (pins:List (Addr×Obj)) (s:Shared) (σ:St) (H:Hp) (Q:List V->Hp->Prop),Inv X pins σ H s->t σ H Q->wpAny (model X.prog X.w) X.A (spliced (backTo pos (starEach es X.env))) (AP X pins σ Q) X.xe s
def PS (X:Cx) (st:Stmt) (t:TS):Prop:=
 ∀ (pins:List (Addr×Obj)) (s:Shared) (σ:St) (H:Hp) (D:Ends),Inv X pins σ H s->t D σ H->wpAny (model X.prog X.w) X.A (exec st X.env) (SP X pins D) X.xe s
def PSs (X:Cx) (st:List Stmt) (t:TS):Prop:=
 ∀ (pins:List (Addr×Obj)) (s:Shared) (σ:St) (H:Hp) (D:Ends),Inv X pins σ H s->t D σ H->wpAny (model X.prog X.w) X.A (execs st X.env) (SP X pins D) X.xe s
theorem thn {α:Type}{t:Sem α}{Q Q':α->Shared->Prop}{M:Model}{A:Around}{E:Value->Shared->Prop}{s:Shared} (h:wpAny M A t Q E s) (hQ:∀ a s,Q a s->Q' a s):wpAny M A t Q' E s:=wpAny_mono h hQ λ_ _ x=>x
section
variable {X:Cx}
def pN (i:Nat):TE:=λσ H Q=>∃ v,σ[i]? = some (some v)/\Q v H
def tC (v:V):TE:=λ_ H Q=>Q v H
theorem IZ {i:Nat}{x:Str}{pos:Pos} (hN:X.N[i]? = some x) (hv:Vis X.env.scope x) (hd:(x == ("__debug__" : Str))=false:=by decide) (hcd:(x == ("__classdict__" : Str))=false:=by decide):PE X (.Name x pos) (pN i):=by
 intro pins s σ H Q I h;obtain ⟨v,e,h⟩:=h;obtain ⟨m,hn,hl⟩:=I.loc;obtain ⟨u,r,l⟩:=hl i x v hN e hv;have fin:EP X pins σ Q u s:=⟨v,H,I,r,h⟩;rcases l with ⟨hk,hm⟩ | ⟨hk,c,hc,uC⟩
 ·exact wpAny_Name (wpAny_loadName_local I.ok.kind hk hn hm fin) hd
 ·rcases hk with hk | hk
  ·exact wpAny_Name (wpAny_loadName_cell I.ok.kind hk hc uC fin) hd
  ·exact wpAny_Name (wpAny_loadName_free I.ok.kind hk hc uC fin hcd) hd
theorem ap {i j pos}:PE X (.Constant (.int i) j pos) (tC (.int i)):=λ_ _ _ H _ I h=>wpAny_Constant_int ⟨.int i,H,I.tok _,⟨_,rfl⟩,h⟩
theorem jZ {b j pos}:PE X (.Constant (.bool b) j pos) (tC (.bl b)):=λ_ _ _ H _ I h=>Constant_bool ⟨.bl b,H,I,rfl,h⟩
theorem qJ {j pos}:PE X (.Constant .none j pos) (tC .non):=λ_ _ _ H _ I h=>Constant_none ⟨.non,H,I,rfl,h⟩
theorem ay {x j pos}:PE X (.Constant (.str x) j pos) (tC (.str x)):=λ_ _ _ H _ I h=>Calls.Constant_str ⟨.str x,H,I.tok _,⟨_,rfl⟩,h⟩
def Gl (X:Cx) (x:Str):Prop:=X.env.kindOf x=some .globalImplicit
theorem p5 {E:Value->Shared->Prop}{pins:List (Addr×Obj)}{s:Shared}{σ:St}{H:Hp}{x:Str}{u:Value}{pos:Pos}{Q:Value->Shared->Prop} (I:Inv X pins σ H s) (hg:Gl X x) (hm:X.mg x=some u) (h:Q u s)
  (hd:(x == ("__debug__" : Str))=false:=by decide):wpAny (model X.prog X.w) X.A (eval (.Name x pos) X.env) Q E s:=
 Calls.Name_function_global I.ok.kind hg (Calls.loadGlobal_global (by rw [I.ok.glob];exact I.mod.glob.keeps I.bk) hm h) hd
theorem eR {E:Value->Shared->Prop}{pins:List (Addr×Obj)}{s:Shared}{σ:St}{H:Hp}{x:Str}{u:Value}{pos:Pos}{Q:Value->Shared->Prop} (I:Inv X pins σ H s) (hg:Gl X x) (hm:X.mg x=none) (hv:bootBuiltins x=some u) (h:Q u s)
  (hn:x ≠ "__name__" :=by decide) (hd:(x == ("__debug__" : Str))=false:=by decide):wpAny (model X.prog X.w) X.A (eval (.Name x pos) X.env) Q E s:=by
 obtain ⟨mb,h1,h2⟩:=I.mod.blt;exact Calls.Name_function_global I.ok.kind hg (Calls.loadGlobal_builtin (by rw [I.ok.glob];exact I.mod.glob.keeps I.bk) hm (by rw [I.ok.blt];exact h1.keeps I.bk) ((h2 x hn).trans hv) h) hd
theorem nu {x:Str}{v:V}{u:Value}{pos:Pos} (hg:Gl X x) (hm:X.mg x=some u) (r:RelV v u) (hd:(x == ("__debug__" : Str))=false:=by decide):PE X (.Name x pos) (tC v):=
 λ_ _ _ H _ I h=>p5 I hg hm ⟨v,H,I,r,h⟩ hd
theorem F2 {x:Str}{v:V}{u:Value}{pos:Pos} (hg:Gl X x) (hm:X.mg x=none) (hv:bootBuiltins x=some u) (r:RelV v u) (hn:x ≠ "__name__" :=by decide) (hd:(x == ("__debug__" : Str))=false:=by decide):PE X (.Name x pos) (tC v):=
 λ_ _ _ H _ I h=>eR I hg hm hv ⟨v,H,I,r,h⟩ hn hd
variable {a b:Expr}{ta tb:TE}{pos:Pos}
def tB (t:TE):TT:=λσ H Q=>t σ H λx H1=>∃ c,x = .bl c/\Q c H1
theorem cD {e:Expr}{t:TE} (h:PE X e t) (he:∀ whole,isTrue e X.env whole=(do let v <-whole;standAt e.pos;holding [v] (truthy v)):=by intro _;rfl):PT X e (tB t):=by
 intro pins s σ H Q I hw;refine isTrue_plain (thn (h pins s σ H _ I hw) λv s1 ⟨x,H1,I1,r1,q1⟩=>?_) (he _);obtain ⟨d,rfl,q⟩:=q1;cases r1;exact wpAny_truthy_bool ⟨H1,I1,q⟩
variable {tA tB':TT}{rest:List Expr}
def Mv (t u:TT):TT:=λσ H Q=>t σ H λc H1=>if c=true then u σ H1 Q else Q false H1
def tOr (t u:TT):TT:=λσ H Q=>t σ H λc H1=>if c=true then Q true H1 else u σ H1 Q
def IE (t:TT):TT:=λσ H Q=>t σ H λc H1=>Q (!c) H1
theorem pw_and1 (ha:PT X a tA):PW X (.BoolOp .And [a] pos) tA:=by
 intro wh pins s σ H Q I h;refine isTrue_and (thn (ha pins s σ H Q I h) λc s1 e=>?_);cases c with
 | true=>exact isTrue_and_nil e
 | false=>exact e
theorem pw_or1 (ha:PT X a tA):PW X (.BoolOp .Or [a] pos) tA:=by
 intro wh pins s σ H Q I h;refine isTrue_or (thn (ha pins s σ H Q I h) λc s1 e=>?_);cases c with
 | false=>exact isTrue_or_nil e
 | true=>exact e
theorem pw_and (ha:PT X a tA) (hb:PW X (.BoolOp .And (b::rest) pos) tB'):PW X (.BoolOp .And (a::b::rest) pos) (Mv tA tB'):=by
 intro wh pins s σ H Q I h;refine isTrue_and (thn (ha pins s σ H _ I h) λc s1 ⟨H1,I1,q1⟩=>?_);cases c with
 | true=>exact hb wh pins s1 σ H1 Q I1 q1
 | false=>exact ⟨H1,I1,q1⟩
theorem pw_or (ha:PT X a tA) (hb:PW X (.BoolOp .Or (b::rest) pos) tB'):PW X (.BoolOp .Or (a::b::rest) pos) (tOr tA tB'):=by
 intro wh pins s σ H Q I h;refine isTrue_or (thn (ha pins s σ H _ I h) λc s1 ⟨H1,I1,q1⟩=>?_);cases c with
 | true=>exact ⟨H1,I1,q1⟩
 | false=>exact hb wh pins s1 σ H1 Q I1 q1
theorem lg (ha:PT X a tA):PT X (.UnaryOp .Not a pos) (IE tA):=by
 intro pins s σ H Q I h;exact isTrue_not (ha pins s σ H (λc H1=>Q (!c) H1) I h)
def JM (ta tb:TE):TE:=λσ H Q=>ta σ H λx H1=>∃ c,x = .bl c/\if c=true then tb σ H1 Q else Q (.bl false) H1
def JP (ta:TE):TE:=λσ H Q=>ta σ H λx H1=>∃ c,x = .bl c/\Q (.bl (!c)) H1
theorem yV {op}{t:TE} (h:PE X a t):PE X (.BoolOp op [a] pos) t:=λpins s σ H Q I hw=>BoolOp_one (h pins s σ H Q I hw)
theorem yO (ha:PE X a ta) (hb:PE X (.BoolOp .And (b::rest) pos) tb):PE X (.BoolOp .And (a::b::rest) pos) (JM ta tb):=by
 intro pins s σ H Q I h;refine BoolOp_and (thn (ha pins s σ H _ I h) λv s1 ⟨x,H1,I1,r1,q1⟩=>?_);obtain ⟨c,rfl,q1⟩:=q1;cases r1;refine wpAny_truthy_bool ?_;cases c with
 | true=>exact hb pins s1 σ H1 Q I1 q1
 | false=>exact ⟨.bl false,H1,I1,rfl,q1⟩
theorem IM (ha:PE X a ta):PE X (.UnaryOp .Not a pos) (JP ta):=by
 intro pins s σ H Q I h;refine UnaryOp_ (thn (ha pins s σ H _ I h) λv s1 ⟨x,H1,I1,r1,q1⟩=>?_);obtain ⟨c,rfl,q1⟩:=q1;cases r1;exact not_of (wpAny_truthy_bool ⟨.bl (!c),H1,I1,rfl,q1⟩)
def tIf (t:TT) (ta tb:TE):TE:=λσ H Q=>t σ H λc H1=>if c=true then ta σ H1 Q else tb σ H1 Q
theorem d9 {c:Expr} (hc:PT X c tA) (ha:PE X a ta) (hb:PE X b tb):PE X (.IfExp c a b pos) (tIf tA ta tb):=by
 intro pins s σ H Q I h;refine wpAny_IfExp (thn (hc pins s σ H _ I h) λd s1 ⟨H1,I1,q1⟩=>?_);cases d with
 | true=>exact ha pins s1 σ H1 Q I1 q1
 | false=>exact hb pins s1 σ H1 Q I1 q1
end
def SqL (K:PySem.W.Frag) (H:Hp) (a:Addr) (xs:List V):Prop:=
 Rd H a (.lst xs) \/
  ∃ (o:Obj) (its:Array Value) (n:Nat),K.lookup a=some o/\o.cls = .type "list" /\ o.dict=none/\o.data = .seq its n/\its.size<=sizeLine/\aY xs its.toList
def SqT (K:PySem.W.Frag) (H:Hp) (a:Addr) (xs:List V):Prop:=
 Rd H a (.tup xs) \/
  ∃ (o:Obj) (its:Array Value) (n:Nat),K.lookup a=some o/\o.cls = .type "tuple" /\ o.data = .seq its n/\its.size<=sizeLine/\aY xs its.toList
def Mt:Value->Option V
 | .none=>some .non
 | .bool b=>some (.bl b)
 | .int i _=>some (.int i)
 | .str x _=>some (.str x)
 | .bytes b _=>some (.byt b)
 | .float b _=>some (.flt b)
 | .ref a=>some (.ref a)
 | .type n=>some (.ty n)
 | _=>none
theorem RelV.abs {x:V}{u:Value} (r:RelV x u):Mt u=some x:=by
 cases x with
 | non=>cases r;rfl
 | bl _=>cases r;rfl
 | int _=>obtain ⟨t,rfl⟩:=r;rfl
 | str _=>obtain ⟨t,rfl⟩:=r;rfl
 | byt _=>obtain ⟨t,rfl⟩:=r;rfl
 | flt _=>obtain ⟨t,rfl⟩:=r;rfl
 | ref _=>cases r;rfl
 | ty _=>cases r;rfl
theorem RelV.inj {x y:V}{u:Value} (r:RelV x u) (q:RelV y u):x=y:=Option.some.inj (r.abs.symm.trans q.abs)
theorem aY.inj:∀ {xs ys:List V}{us:List Value},aY xs us->aY ys us->xs=ys
 | _,_,_,.nil,.nil=>rfl
 | _,_,_,.cons r t,.cons r' t'=>by rw [r.inj r',aY.inj t t']
section
variable {X:Cx}{pins:List (Addr×Obj)}{σ:St}{H:Hp}{s:Shared}{a:Addr}{xs ys:List V}
theorem SqL.of {K:PySem.W.Frag} (h:H a=some (.lst xs)):SqL K H a xs:=.inl (.inl h)
theorem SqT.of {K:PySem.W.Frag} (h:H a=some (.tup xs)):SqT K H a xs:=.inl (.inl h)
theorem Inv.list (I:Inv X pins σ H s) (h:SqL X.K H a xs):∃ its:List Value,aY xs its/\PlainL s.heap a its.toArray/\xs.length<=sizeLine:=by
 rcases h with h | ⟨o,its,n,hk,hc,hd,hs,hz,r⟩
 ·obtain ⟨z,its,n,r,e⟩:=h.ok I.hok;exact ⟨its,r,⟨_,n,e,rfl,rfl,rfl⟩,z⟩
 ·refine ⟨its.toList,r,⟨o,n,I.kIn a o hk,hc,hd,by simpa using hs⟩,?_⟩;have e:=r.length;simp only [N2] at e;lia
theorem Inv.tuple (I:Inv X pins σ H s) (h:SqT X.K H a xs):∃ its:List Value,aY xs its/\IsTup s.heap a its.toArray/\xs.length<=sizeLine:=by
 rcases h with h | ⟨o,its,n,hk,hc,hs,hz,r⟩
 ·obtain ⟨z,its,r,p⟩:=h.ok I.hok;exact ⟨its,r,p,z⟩
 ·refine ⟨its.toList,r,⟨o,I.kIn a o hk,hc,n,by simpa using hs⟩,?_⟩;have e:=r.length;simp only [N2] at e;lia
theorem Inv.nJ (I:Inv X pins σ H s) (h:SqL X.K H a xs) (h':SqL X.K H a ys):xs=ys:=by
 obtain ⟨its,r,⟨o,n,e,_,_,d⟩,_⟩:=I.list h;obtain ⟨oq,r',⟨o',n',e',_,_,d'⟩,_⟩:=I.list h';rw [e] at e';cases e';rw [d] at d';injection d' with d1 _;have:its=oq:=by simpa using congrArg Array.toList d1
 subst this;exact r.inj r'
end
abbrev Cx.rW (X:Cx) (E:Value->Shared->Prop):Cx:={ X with xe:=E }
abbrev Cx.nox (X:Cx):Cx:=X.rW λ_ _=>False
theorem Cx.Ok.rW {X:Cx} (ok:X.Ok) (E:Value->Shared->Prop):(X.rW E).Ok:=
 ⟨ok.mod,ok.kind,ok.glob,ok.blt,ok.above,ok.inj,ok.has,ok.cab,ok.hd,ok.frames,ok.stk,ok.exf,ok.bs,ok.bsz,ok.BY,ok.Ck,ok.oB,ok.frf⟩
theorem Cx.Ok.kB {X:Cx}{E:Value->Shared->Prop} (ok:(X.rW E).Ok):X.Ok:=
 ⟨ok.mod,ok.kind,ok.glob,ok.blt,ok.above,ok.inj,ok.has,ok.cab,ok.hd,ok.frames,ok.stk,ok.exf,ok.bs,ok.bsz,ok.BY,ok.Ck,ok.oB,ok.frf⟩
section
variable {X:Cx}{pins:List (Addr×Obj)}{σ:St}{H:Hp}{s:Shared}{E:Value->Shared->Prop}
theorem Inv.rW (I:Inv X pins σ H s) (E:Value->Shared->Prop):Inv (X.rW E) pins σ H s:=⟨I.ok.rW E,I.os,I.bare,I.base,I.loc,I.cell,I.free,I.j8,I.pin,I.hok,I.len⟩
theorem Inv.kB (I:Inv (X.rW E) pins σ H s):Inv X pins σ H s:=⟨I.ok.kB,I.os,I.bare,I.base,I.loc,I.cell,I.free,I.j8,I.pin,I.hok,I.len⟩
theorem SP.kB {D:Ends}{f:Flow}{s':Shared} (h:SP (X.rW E) pins D f s'):SP X pins D f s':=by
 cases f with
 | next=>obtain ⟨σ',H',I,q⟩:=h;exact ⟨σ',H',I.kB,q⟩
 | brk=>obtain ⟨σ',H',I,q⟩:=h;exact ⟨σ',H',I.kB,q⟩
 | cont=>obtain ⟨σ',H',I,q⟩:=h;exact ⟨σ',H',I.kB,q⟩
 | ret u=>obtain ⟨v,σ',H',I,r,q⟩:=h;exact ⟨v,σ',H',I.kB,r,q⟩
theorem PSs.nox {st:List Stmt}{t:TS} (h:PSs X.nox st t):PSs X st t:=λpins s σ H D I hw=>
 wpAny_mono (h pins s σ H D (I.rW _) hw) (λ_ _ q=>q.kB) λ_ _ z=>False.elim z
end
section
variable {X:Cx}{st:Stmt}{rest:List Stmt}{t u:TS}{e:Expr}{te:TE}{pos:Pos}
def J6:TS:=λD σ H=>D.nx σ H
def Mr (t u:TS):TS:=λD σ H=>t { D with nx:=u D } σ H
theorem aZ:PSs X [] J6:=λ_ _ σ H _ I h=>wpAny_execs_nil ⟨σ,H,I,h⟩
theorem aj (h1:PS X st t) (h2:PSs X rest u):PSs X (st::rest) (Mr t u):=by
 intro pins s σ H D I h;refine wpAny_execs_cons (thn (h1 pins s σ H { D with nx:=u D } I h) λf s1 q=>?_);cases f with
 | next=>
  obtain ⟨σ',H',I',q⟩:=q;exact h2 pins s1 σ' H' D I' q
 | ret v=>exact q
 | brk=>exact q
 | cont=>exact q
theorem ak (h1:PS X st t):PSs X [st] t:=by
 intro pins s σ H D I h;refine wpAny_execs_cons (thn (h1 pins s σ H D I h) λf s1 q=>?_);cases f with
 | next=>exact wpAny_execs_nil q
 | ret v=>exact q
 | brk=>exact q
 | cont=>exact q
theorem Inv.quiet {pins:List (Addr×Obj)}{σ:St}{H:Hp}{s:Shared} (I:Inv X pins σ H s):interactive X.env=false:=by simp [interactive,I.ok.kind]
def J8 (te:TE):TS:=λD σ H=>te σ H λ_ H1=>D.nx σ H1
theorem cx (he:PE X e te) (hs:swapsWith e none pos.line X.env=pure false:=by rfl):PS X (.Expr e pos) (J8 te):=by
 intro pins s σ H D I h;exact wpAny_Expr_any (thn (he pins s σ H _ I h) λv s1 ⟨x,H1,I1,r1,q1⟩=>⟨σ,H1,I1,q1⟩) I.quiet hs
def Jm (te:TE):TS:=λD σ H=>te σ H D.rt
theorem ax (he:PE X e te):PS X (.Return (some e) pos) (Jm te):=by
 intro pins s σ H D I h;exact wpAny_Return_some (thn (he pins s σ H _ I h) λv s1 ⟨x,H1,I1,r1,q1⟩=>⟨x,σ,H1,I1,r1,q1⟩)
def L9 (c:TT) (t u:TS):TS:=λD σ H=>c σ H λb H1=>if b=true then t D σ H1 else u D σ H1
theorem bA {c:Expr}{a b:List Stmt}{tc:TT} (hc:PT X c tc) (ha:PSs X a t) (hb:PSs X b u):PS X (.If c a b pos) (L9 tc t u):=by
 intro pins s σ H D I h;refine wpAny_If (thn (hc pins s σ H _ I h) λd s1 ⟨H1,I1,q1⟩=>?_);cases d with
 | true=>exact ha pins s1 σ H1 D I1 q1
 | false=>exact hb pins s1 σ H1 D I1 q1
def Ja:TS:=λ_ _ _=>False
theorem mT:PS X st Ja:=λ_ _ _ _ _ _ h=>h.elim
end
abbrev TG:=V->St->Hp->(St->Hp->Prop)->Prop
abbrev TGs:=List V->St->Hp->(St->Hp->Prop)->Prop
def PG (X:Cx) (target:Expr) (t:TG):Prop:=
 ∀ (pins:List (Addr×Obj)) (s:Shared) (σ:St) (H:Hp) (v:V) (u:Value) (Q:St->Hp->Prop),Inv X pins σ H s->RelV v u->t v σ H Q ->
  wpAny (model X.prog X.w) X.A (assign target X.env u) (λ_ s'=>∃ σ' H',Inv X pins σ' H' s'/\Q σ' H') X.xe s
def PGs (X:Cx) (ts:List Expr) (t:TGs):Prop:=
 ∀ (pins:List (Addr×Obj)) (s:Shared) (σ:St) (H:Hp) (vs:List V) (us:List Value) (Q:St->Hp->Prop),Inv X pins σ H s->aY vs us->t vs σ H Q ->
  wpAny (model X.prog X.w) X.A (assignInOrder ((assignEach ts X.env).map (·.2)) us) (λ_ s'=>∃ σ' H',Inv X pins σ' H' s'/\Q σ' H') X.xe s
abbrev Hu:=V->V->V->Hp->(Hp->Prop)->Prop
def K9 (X:Cx) (t:Hu):Prop:=
 ∀ (pins:List (Addr×Obj)) (s:Shared) (σ:St) (H:Hp) (o i v:V) (ov iv u:Value) (Q:Hp->Prop),Inv X pins σ H s->RelV o ov->RelV i iv->RelV v u->t o i v H Q ->
  wpAny (model X.prog X.w) X.A (setItem ov iv u) (λ_ s'=>∃ H',Inv X pins σ H' s'/\Q H') X.xe s
section
variable {X:Cx}{pos:Pos}
def aU (i:Nat):TG:=λv σ H Q=>Q (σ.set i (some v)) H
theorem au {i:Nat}{x:Str} (hN:X.N.Nodup) (hi:X.N[i]? = some x) (hx:Loc X.env.scope x) (hf:X.fn x=true\/X.env.scope.names.lookup x=some .local:=by first | exact .inl rfl | exact .inr rfl | assumption):PG X (.Name x pos) (aU i):=by
 intro pins s σ H v u Q I r h;exact wpAny_assign_Name (wu I hN hi hx r (λs' I'=>⟨_,H,I',h⟩) hf)
def xW:TGs:=λvs σ H Q=>vs=[]/\Q σ H
def fH (t:TG) (u:TGs):TGs:=λvs σ H Q=>∃ v r,vs=v::r/\t v σ H λσ' H'=>u r σ' H' Q
theorem fj:PGs X [] xW:=by
 intro pins s σ H vs us Q I r h;obtain ⟨e,h⟩:=h;subst e;cases r;exact assignInOrder_nil ⟨σ,H,I,h⟩
theorem bw {e:Expr}{es:List Expr}{t:TG}{u:TGs} (h1:PG X e t) (h2:PGs X es u)
  (hs:(assignEach (e::es) X.env).map (·.2)=assign e X.env::(assignEach es X.env).map (·.2):=by rfl):PGs X (e::es) (fH t u):=by
 intro pins s σ H vs us Q I r h;obtain ⟨v,vr,e1,h⟩:=h;subst e1;cases r with
 | cons r rr=>
  rw [hs];refine assignInOrder_cons (thn (h1 pins s σ H _ _ _ I r h) λ_ s1 ⟨σ1,H1,I1,q1⟩=>?_);exact h2 pins s1 σ1 H1 _ _ Q I1 rr q1
def xI (K:PySem.W.Frag) (n:Nat) (t:TGs):TG:=λv σ H Q=>∃ a xs,v = .ref a/\SqT K H a xs/\xs.length=n/\t xs σ H Q
theorem iM {es:List Expr}{k:Nat}{t:TGs}{n:Nat} (hc:X.calm=true) (h:PGs X es t)
  (hn:(assignEach es X.env).length=n:=by rfl) (hst:(assignEach es X.env).findIdx? (·.1)=none:=by rfl):PG X (.Tuple es k pos) (xI X.K n t):=by
 intro pins s σ H v u Q I r hw;obtain ⟨a,xs,e1,hq,hl,hw⟩:=hw;subst e1;cases r;obtain ⟨its,rv,ht,hz⟩:=I.tuple hq;refine assign_Tuple_tuple (I.ok.hd hc) ht (by simp [hn,<-hl,rv.length]) hst λh' hx=>?_;have I1:Inv X pins σ H { s with heap:=h' }:=I.kept (t':=s.toks) λb o e=>hx b o (N3 (Heap.lt_size e)) e;exact h pins _ σ H xs _ Q I1 (by simpa using rv) hw
def LC (to ti:TE) (t:Hu):TG:=λv σ H Q=>to σ H λo H1=>ti σ H1 λi H2=>t o i v H2 λH3=>Q σ H3
theorem yF {o i:Expr}{to ti:TE}{t:Hu} (ho:PE X o to) (hi:PE X i ti) (hs:K9 X t)
  (ha:∀ v,assign (.Subscript o i pos) X.env v=(do
   let ov <-holding [v] (eval o X.env)
   let iv <-holding [v,ov] (eval i X.env)
   standAt pos
   holding [v,ov,iv] (setItem ov iv v)
   release [v,ov,iv] []):=by intro _;rfl):PG X (.Subscript o i pos) (LC to ti t):=by
 intro pins s σ H v u Q I r h;rw [ha];refine wpAny_bind (wpAny_holding (thn (ho pins s σ H _ I h) λov s1 ⟨x,H1,I1,r1,q1⟩=>?_));refine wpAny_bind (wpAny_holding (thn (hi pins s1 σ H1 _ I1 q1) λiv s2 ⟨y,H2,I2,r2,q2⟩=>?_));refine wpAny_bind (wpAny_standAt (wpAny_bind (wpAny_holding (thn (hs pins s2 σ H2 x y v ov iv u _ I2 r1 r2 r q2) λ_ s3 ⟨H3,I3,q3⟩=>?_))));exact wpAny_release ⟨σ,H3,I3,q3⟩
def HL (te:TE) (g:TG):TS:=λD σ H=>te σ H λx H1=>g x σ H1 D.nx
theorem rC {tg e:Expr}{te:TE}{g:TG} (he:PE X e te) (hg:PG X tg g) (hs:swapsWithSole [tg] e pos.line X.env=pure false:=by rfl) (hw:swappedStores [tg] e X.env=pure none:=by rfl)
  (h1:(assignEach [tg] X.env).map (·.2)=[assign tg X.env]:=by rfl):PS X (.Assign [tg] e pos) (HL te g):=by
 intro pins s σ H D I h;refine wpAny_Assign_stores (thn (he pins s σ H _ I h) λv s1 ⟨x,H1,I1,r1,q1⟩=>?_) hs hw;rw [h1];exact thn (hg pins s1 σ H1 x v _ I1 r1 q1) λ_ s2 q=>q
theorem aQ {i:Nat}{x:Str}{e:Expr}{te:TE}{pos':Pos} (hN:X.N.Nodup) (hi:X.N[i]? = some x) (hx:Loc X.env.scope x) (he:PE X e te) (hs:swapsWith e (some (.Name x pos')) pos.line X.env=pure false:=by rfl) (hf:X.fn x=true\/X.env.scope.names.lookup x=some .local:=by first | exact .inl rfl | exact .inr rfl | assumption) :
  PS X (.Assign [.Name x pos'] e pos) (HL te (aU i)):=by
 intro pins s σ H D I h;refine wpAny_Assign_Name (thn (he pins s σ H _ I h) λv s1 ⟨y,H1,I1,r1,q1⟩=>?_) hs;exact wu I1 hN hi hx r1 (λs2 I2=>⟨_,H1,I2,q1⟩) hf
end
section
variable {X:Cx}{pos:Pos}
def HQ (c:TT) (tb:TS):TS:=λD σ H=>∃ W:Nat->St->Hp->Prop,(∃ m,W m σ H)/\∀ m σ H,W m σ H ->
 c σ H λb H1=>if b=true then ∃ N:St->Hp->Prop,(∀ σ' H',N σ' H'->∃ m',m' < m/\W m' σ' H')/\tb { D with nx:=N,ct:=N,bk:=D.nx } σ H1 else D.nx σ H1
theorem Ek {c:Expr}{body:List Stmt}{tc:TT}{tb:TS} (hp:PassesOwn (model X.prog X.w) X.A X.env X.xe) (hc:PT X c tc) (hb:PSs X body tb):PS X (.While c body [] pos) (HQ tc tb):=by
 intro pins s σ H D I h;obtain ⟨W,⟨m0,w0⟩,turn⟩:=h;refine wpAny_While (codeAny_whileLoop (λn s'=>∃ σ' H',Inv X pins σ' H' s'/\W n σ' H') ?_ m0 ⟨σ,H,I,w0⟩);rintro n s1 ⟨σ1,H1,I1,w1⟩;refine wpAny_passesOwn hp (thn (hc pins s1 σ1 H1 _ I1 (turn n σ1 H1 w1)) λb s2 ⟨H2,I2,q2⟩=>?_);cases b with
 | true=>
  obtain ⟨N,hN,q2⟩:=q2;rw [if_pos rfl];refine wpAny_passesOwn hp (thn (hb pins s2 σ1 H2 _ I2 q2) λf s3 q3=>?_);cases f with
  | next=>
   obtain ⟨σ3,H3,I3,n3⟩:=q3;obtain ⟨m',hm,w3⟩:=hN σ3 H3 n3;exact ⟨m',hm,σ3,H3,I3,w3⟩
  | cont=>
   obtain ⟨σ3,H3,I3,n3⟩:=q3;obtain ⟨m',hm,w3⟩:=hN σ3 H3 n3;exact ⟨m',hm,σ3,H3,I3,w3⟩
  | brk=>exact q3
  | ret v=>exact q3
 | false=>
  rw [if_neg NV];exact wpAny_execs_nil ⟨σ1,H2,I2,q2⟩
end
structure It where
 go:Nat->Hp->Prop
 yld:Nat->Hp->V->Hp->Prop
 stop:Nat->Hp->Prop
def bY (X:Cx) (pins:List (Addr×Obj)) (H:Hp) (b:Addr):Prop:=
 H b=none/\b≠X.env.locals/\b∉X.fs/\(b∈X.ex\/X.s₀.heap.objs.size<=b)/\(∀ x c,X.env.cells.lookup x=some c->c≠b)/\∀ p∈X.pn++pins,p.1≠b
theorem Inv.mR {X:Cx}{pins:List (Addr×Obj)}{σ:St}{H H':Hp}{s:Shared}{b:Addr} (I:Inv X pins σ H s) (hb:s.heap.objs.size<=b) (hn:H' b=none):bY X pins H' b:=by
 refine ⟨hn,Nat.ne_of_gt (N9 I.lt hb),I.K0 hb,.inr (NM I.sz hb),λx c e z=>?_,λp hp z=>?_⟩
 ·obtain ⟨v,q⟩:=I.cell x c e;exact absurd (N9 q.lt (by rw [z];exact hb)) (Oy _)
 ·exact absurd (N9 (Heap.lt_size (I.pin p hp).1) (by rw [z];exact hb)) (Oy _)
structure Turn (P:Program) (w:World) (K:PySem.W.Frag) (tg:Expr) (J:It) (fp:List Addr) (it:Addr) (tn:Nat->Heap->Prop):Prop where
 mem:it∈fp
 obj:∀ i h,tn i h->∀ b∈fp,∃ o,h.get? b=some o/\∀ v,o.data ≠ .cell v
 keep:∀ i h h',tn i h->(∀ b∈fp,∀ o,h.get? b=some o->h'.get? b=some o)->tn i h'
 item:∀ (X:Cx),X.prog=P->X.w=w->X.K=K->X.calm=true->∀ (i:Nat) (pins:List (Addr×Obj)) (s:Shared) (σ:St) (H:Hp) (E:Value->Shared->Prop),Inv X pins σ H s->(∀ b∈fp,bY X pins H b)->tn i s.heap->J.go i H ->
  wpAny (model P w) X.A (pyNext (.ref it)) (λr s1=>∃ u,r=some u /\
   wpAny (model P w) X.A (letOwnedTupleGo tg (.ref it) u) (λ_ s2=>∃ x H',Inv X pins σ H' s2/\RelV x u/\J.yld i H x H'/\tn (i+1) s2.heap/\∀ b∈fp,H' b=none) E s1) E s
 done:∀ (X:Cx),X.prog=P->X.w=w->X.K=K->X.calm=true->∀ (i:Nat) (pins:List (Addr×Obj)) (s:Shared) (σ:St) (H:Hp) (E:Value->Shared->Prop),Inv X pins σ H s->(∀ b∈fp,bY X pins H b)->tn i s.heap->J.stop i H ->
  wpAny (model P w) X.A (pyNext (.ref it)) (λr s1=>r=none/\Inv X pins σ H s1) E s
 self:∀ (A:Around) (i:Nat) (s:Shared) (Q:Value->Shared->Prop) (E:Value->Shared->Prop),tn i s.heap->Q (.ref it) s->wpAny (model P w) A (pyIter (.ref it)) Q E s
abbrev TI:=St->Hp->(It->Hp->Prop)->Prop
def PIE (X:Cx) (pins:List (Addr×Obj)) (σ:St) (tg:Expr) (R:It->Hp->Prop) (itv:Value) (s2:Shared):Prop:=
 ∃ (it:Addr) (fp:List Addr) (tn:Nat->Heap->Prop) (J:It) (H':Hp),itv = .ref it/\Inv X pins σ H' s2/\Turn X.prog X.w X.K tg J fp it tn/\tn 0 s2.heap/\(∀ b∈fp,bY X pins H' b)/\R J H'
def PI (X:Cx) (tg iter:Expr) (wi:TI):Prop:=
 ∀ (pins:List (Addr×Obj)) (s:Shared) (σ:St) (H:Hp) (R:It->Hp->Prop),Inv X pins σ H s->wi σ H R ->
  wpAny (model X.prog X.w) X.A (eval iter X.env) (λv s1=>wpAny (model X.prog X.w) X.A (pyIter v) (PIE X pins σ tg R) X.xe s1) X.xe s
theorem z4 {M:Model}{A:Around}{E:Value->Shared->Prop}{s:Shared}{tg:Expr}{it:Addr}{u:Value}{o:Obj}{n:String}{vs:Array Value}{Q:Unit->Shared->Prop} (ho:s.heap.get? it=some o) (hc:o.cls = .type n) (hd:o.data = .fields vs)
  (hn:["enumerate","zip","dict_itemiterator","dict_reverseitemiterator","odict_iterator","itertools.zip_longest","itertools.pairwise"].contains n=false) (hQ:Q () s):wpAny M A (letOwnedTupleGo tg (.ref it) u) Q E s:=by
 unfold letOwnedTupleGo;cases tg <;> first
  | exact wpAny_pure hQ
  | (cases u <;> first
    | exact wpAny_pure hQ
    | (refine wpAny_bind (wpAny_load ho ?_)
       rw [hc,hd];show wpAny M A (if (["enumerate","zip","dict_itemiterator","dict_reverseitemiterator","odict_iterator","itertools.zip_longest","itertools.pairwise"].contains n && vs[0]? == some (rawInt _))=true then _ else _) Q E s;rw [if_neg (by intro h;rw [hn,Bool.false_and] at h;cases h)];exact wpAny_pure hQ))
def Itl (K:PySem.W.Frag) (a:Addr):It:=
 ⟨λi H=>∃ xs x,SqL K H a xs/\xs[i]? = some x,λi H x H'=>H' = H/\∀ xs,SqL K H a xs->xs[i]? = some x,λi H=>∃ xs,SqL K H a xs/\xs.length<=i⟩
def Itr (lo:Int) (n:Nat):It:=⟨λi _=>i<n,λi H x H'=>H' = H/\x = .int (lo+i),λi _=>n<=i⟩
theorem AX {P:Program}{w:World}{K:PySem.W.Frag}{tg:Expr} (a it:Addr):Turn P w K tg (Itl K a) [it] it (λi h=>h.IsListIter it a i) where
 mem:=by simp
 obj:=λi h st b hb=>by
  have e:b=it:=by simpa using hb
  subst e;obtain ⟨o,e,c,d⟩:=st;exact ⟨o,e,λv z=>by rw [d] at z;cases z⟩
 keep:=λi h h' st k=>st.at λo e=>k it (by simp) o e
 item:=by
  intro X hP hw hK hc i pins s σ H E I hf st hg;subst hP hw hK;obtain ⟨xs,x,hq,hx⟩:=hg;obtain ⟨its,rv,p,hz⟩:=I.list hq;obtain ⟨u,hu,ru⟩:=rv.get hx;obtain ⟨f0,f1,f2,f3,f4,f5⟩:=hf it (by simp);refine wpAny_pyNext_list_item st p.isList (x:=u) (by simpa using hu) λh' st' sb=>?_;have I1:Inv X pins σ H { s with heap:=h' }:=I.turned (t':=s.toks) (λb o hb e=>(sb.2 b hb).trans e) f0 f1 f3 f4 f5;obtain ⟨o,e,c,d⟩:=id st';exact ⟨u,rfl,z4 (s:={ s with heap:=h' }) e c d (by decide) ⟨x,H,I1,ru,⟨rfl,λys hy=>by rw [I.nJ hy hq];exact hx⟩,st',λb hb=>(hf b hb).1⟩⟩
 done:=by
  intro X hP hw hK hc i pins s σ H E I hf st hg;subst hP hw hK;obtain ⟨xs,hq,hx⟩:=hg;obtain ⟨its,rv,p,hz⟩:=I.list hq;obtain ⟨f0,f1,f2,f3,f4,f5⟩:=hf it (by simp);have hl:=rv.length;exact wpAny_pyNext_list_end (I.ok.hd hc) st p.isList (by simp;lia) λh' eb=>⟨rfl,I.turned (t':=s.toks) (λb o hb e=>eb b o hb e) f0 f1 f3 f4 f5⟩
 self:=λ_ _ _ _ _ st h=>wpAny_pyIter_listiter st h
theorem yv {P:Program}{w:World}{K:PySem.W.Frag}{tg:Expr} (it:Addr) (lo:Int) (n:Nat):Turn P w K tg (Itr lo n) [it] it (λi h=>IsRangeIter h it (lo+(i:Nat) * 1) ((n:Int) - (i:Nat)) 1) where
 mem:=by simp
 obj:=λi h st b hb=>by
  have e:b=it:=by simpa using hb
  subst e;exact ⟨_,st,λv z=>by
   have z':Data.fields _=Data.cell v:=z;cases z'⟩
 keep:=λi h h' st k=>k it (by simp) _ st
 item:=by
  intro X hP hw hK hc i pins s σ H E I hf st hg;subst hP hw hK;obtain ⟨f0,f1,f2,f3,f4,f5⟩:=hf it (by simp);have W:=Walks.range (prog:=X.prog) (w:=X.w) (I.ok.hd hc) it lo 1 n;refine W.item i s _ _ hg st λv h' tk hv st' kk=>?_;obtain ⟨t,rfl⟩:=hv;have I1:Inv X pins σ H { s with heap:=h',toks:=tk }:=I.turned (λb o hb e=>kk b o (by simpa using hb) e) f0 f1 f3 f4 f5;refine ⟨_,rfl,z4 (s:={ s with heap:=h',toks:=tk }) (n:= "range_iterator") st' rfl rfl (by decide) ⟨.int (lo+i),H,I1,⟨t,?_⟩,⟨rfl,rfl⟩,st',λb hb=>(hf b hb).1⟩⟩;rw [Int.mul_one]
 done:=by
  intro X hP hw hK hc i pins s σ H E I hf st hg;subst hP hw hK;obtain ⟨f0,f1,f2,f3,f4,f5⟩:=hf it (by simp);exact wpAny_pyNext_range_end (I.ok.hd hc) st (by have:n<=i:=hg;lia) λh' eb=>⟨rfl,I.turned (t':=s.toks) (λb o hb e=>eb b o hb e) f0 f1 f3 f4 f5⟩
 self:=λ_ _ _ _ _ st h=>wpAny_pyIter_rangeiter st h
section
variable {X:Cx}{tg:Expr}
def zr (K:PySem.W.Frag) (tl:TE):TI:=λσ H R=>tl σ H λx H1=>∃ a,x = .ref a/\(∃ xs,SqL K H1 a xs)/\R (Itl K a) H1
theorem aH {l:Expr}{tl:TE} (hl:PE X l tl):PI X tg l (zr X.K tl):=by
 intro pins s σ H R I h;refine thn (hl pins s σ H _ I h) λv s1 ⟨x,H1,I1,r1,q1⟩=>?_;obtain ⟨a,e,⟨xs,hq⟩,q⟩:=q1;subst e;cases r1;obtain ⟨its,rv,p,hz⟩:=I1.list hq;refine wpAny_pyIter_list p.isList ?_;refine ⟨s1.heap.objs.size,[s1.heap.objs.size],_,_,H1,rfl,I1.kept (t':=s1.toks) λb o e=>Heap.get?_push_of_some _ e,AX a _,⟨_,Heap.get?_push_size _ rfl,rfl,rfl⟩,λb hb=>?_,q⟩;have e:b=s1.heap.objs.size:=by simpa using hb
 subst e;exact I1.mR (NH _) (I1.hok.fresh (NH _))
theorem wb {pins:List (Addr×Obj)}{σ:St}{H:Hp}{s:Shared}{R:It->Hp->Prop}{E:Value->Shared->Prop}{lo hi:Int}{t u v:Tok}{tk:Nat} (I:Inv X pins σ H s) (h1 : -(2 ^ 62)<=lo) (h2:lo<2 ^ 62) (h3 : -(2 ^ 62)<=hi) (h4:hi<2 ^ 62)
  (q:R (Itr lo (hi - lo).toNat) H):wpAny (model X.prog X.w) X.A (pyIter (.ref s.heap.objs.size)) (PIE X pins σ tg R) E { s with heap:=s.heap.push { cls:=.type "range",data:=.fields #[.int lo t,.int hi u,.int 1 v] },toks:=tk }:=by
 refine wpAny_pyIter_range (IsRange.new ..) (small_one h1 h2 h3 h4) ?_;have I1:Inv X pins σ H { s with heap:=s.heap.push { cls:=.type "range",data:=.fields #[.int lo t,.int hi u,.int 1 v] },toks:=tk }:=I.kept λb o e=>Heap.get?_push_of_some _ e;refine ⟨(s.heap.push { cls:=.type "range",data:=.fields #[.int lo t,.int hi u,.int 1 v] }).objs.size,[(s.heap.push { cls:=.type "range",data:=.fields #[.int lo t,.int hi u,.int 1 v] }).objs.size],_,_,H,rfl,
  I1.kept (t':=tk) λb o e=>Heap.get?_push_of_some _ e,yv _ lo (hi - lo).toNat,?_,λb hb=>?_,q⟩
 ·have e1:lo+((0:Nat):Int) * 1=lo:=by simp
  have e2:(((hi - lo).toNat:Nat):Int) - ((0:Nat):Int)=Builtin.Range.rangeSize lo hi 1:=by rw [rangeSize_one];split <;> lia
  show IsRangeIter _ _ (lo+((0:Nat):Int) * 1) ((((hi - lo).toNat:Nat):Int) - ((0:Nat):Int)) 1;rw [e1,e2];exact Heap.get?_push_size _ rfl
 ·have e:b=(s.heap.push { cls:=.type "range",data:=.fields #[.int lo t,.int hi u,.int 1 v] }).objs.size:=by simpa using hb
  subst e;exact I1.mR (NH _) (I1.hok.fresh (NH _))
def JO (ta:TA):TI:=λσ H R=>ta σ H λvs H1=>∃ j:Int,vs=[.int j] /\ -(2 ^ 62)<=j/\j<2 ^ 62/\R (Itr 0 j.toNat) H1
def Lr (ta:TA):TI:=λσ H R=>ta σ H λvs H1=>∃ i j:Int,vs=[.int i,.int j]/\(-(2 ^ 62)<=i/\i<2 ^ 62 /\ -(2 ^ 62)<=j/\j<2 ^ 62)/\R (Itr i (j - i).toNat) H1
theorem dB {a:Expr}{ta:TA}{p pos:Pos} (hg:Gl X "range") (hm:X.mg "range" = none) (ha:PA X [a] ta) (hs:starEach [a] X.env=[(false,eval a X.env)]:=by rfl):PI X tg (.Call (.Name "range" p) [a] [] pos) (JO ta):=by
 intro pins s σ H R I h;refine Call_ (eR I hg hm boot_range (PyProof.Rows.callWith_type1 (thn (ha pos pins s σ H _ I h) λus s1 ⟨vs,H1,I1,r1,q1⟩=>?_) hs rfl));obtain ⟨j,e,q1,q2,q⟩:=q1;subst e;cases r1 with
 | cons r rr=>
  cases rr;obtain ⟨t,rfl⟩:=r;exact call_range_1 (wb I1 (by lia) (by lia) q1 q2 (by simpa using q))
theorem uy {a b:Expr}{ta:TA}{p pos:Pos} (hg:Gl X "range") (hm:X.mg "range" = none) (ha:PA X [a,b] ta) (hs:starEach [a,b] X.env=[(false,eval a X.env),(false,eval b X.env)]:=by rfl) (hs2:starEach [b] X.env=[(false,eval b X.env)]:=by rfl) :
  PI X tg (.Call (.Name "range" p) [a,b] [] pos) (Lr ta):=by
 intro pins s σ H R I h;refine Call_ (eR I hg hm boot_range (PyProof.Rows.callWith_type1 (thn (ha pos pins s σ H _ I h) λus s1 ⟨vs,H1,I1,r1,q1⟩=>?_) (by rw [hs,hs2]) (by rw [hs2];rfl)));obtain ⟨i,j,e,⟨q1,q2,q3,q4⟩,q⟩:=q1;subst e;cases r1 with
 | cons r rr=>
  cases rr with
  | cons r' rr=>
   cases rr;obtain ⟨t,rfl⟩:=r;obtain ⟨t',rfl⟩:=r';exact call_range_2 (wb I1 q1 q2 q3 q4 q)
def MN (wi:TI) (g:TG) (tb:TS):TS:=λD σ H=>wi σ H λJ H1=>∃ W:Nat->Nat->St->Hp->Prop,(∃ m,W 0 m σ H1)/\∀ i m σ H,W i m σ H ->
 (J.stop i H/\D.nx σ H)\/(J.go i H/\∃ N:St->Hp->Prop,(∀ σ' H',N σ' H'->∃ m',m' < m/\W (i+1) m' σ' H')/\∀ x H',J.yld i H x H'->g x σ H' λσ2 H2=>tb { D with nx:=N,ct:=N,bk:=D.nx } σ2 H2)
def rH (fp:List Addr) (h:Heap):List (Addr×Obj):=fp.filterMap λb=>(h.get? b).map λo=>(b,o)
theorem jc {fp:List Addr}{h:Heap}{b:Addr}{o:Obj} (hb:b∈fp) (e:h.get? b=some o):(b,o)∈rH fp h:=List.mem_filterMap.mpr ⟨b,hb,by rw [e];rfl⟩
theorem A7 {fp:List Addr}{h:Heap}{p:Addr×Obj} (hp:p∈rH fp h):p.1∈fp/\h.get? p.1=some p.2:=by
 obtain ⟨b,hb,e⟩:=List.mem_filterMap.mp hp;cases q:h.get? b with
 | none=>rw [q] at e;cases e
 | some o=>
  rw [q] at e;have e':(b,o)=p:=Option.some.inj e;subst e';exact ⟨hb,q⟩
theorem Inv.pinned {pins:List (Addr×Obj)}{σ:St}{H:Hp}{s:Shared}{fp:List Addr} (I:Inv X pins σ H s) (hf:∀ b∈fp,bY X pins H b) (ho:∀ b∈fp,∃ o,s.heap.get? b=some o/\∀ v,o.data ≠ .cell v):Inv X (pins++rH fp s.heap) σ H s:=
 I.nK λp hp=>(Oa.mp hp).elim (λz=>I.pin p (Ob _ z)) λz=>by
  obtain ⟨hb,e⟩:=A7 z;obtain ⟨f0,f1,f2,_⟩:=hf p.1 hb;obtain ⟨o,e',d⟩:=ho p.1 hb;rw [e] at e';cases e';exact ⟨e,f0,f1,f2,d⟩
theorem Inv.gO {pins pl:List (Addr×Obj)}{σ:St}{H:Hp}{s:Shared} (I:Inv X (pins++pl) σ H s):Inv X pins σ H s:=I.nK λp hp=>I.pin p (Ob _ (Pa _ hp))
theorem cs {iter:Expr}{body:List Stmt}{wi:TI}{g:TG}{tb:TS}{pos:Pos} (hp:PassesOwn (model X.prog X.w) X.A X.env X.xe) (hc:X.calm=true) (hi:PI X tg iter wi) (hg:PG X tg g) (hb:PSs X body tb)
  (hs:∀ x,foldedSetIterable iter X.env x=pure x:=by intro _;rfl):PS X (.For tg iter body [] pos) (MN wi g tb):=by
 intro pins s σ H D I h;refine wpAny_For (thn (hi pins s σ H _ I h) λv s1 h1=>thn h1 λitv s2 h2=>?_) hs;obtain ⟨it,fp,tn,J,H2,e,I2,T,st2,f2,W,⟨m0,w0⟩,turn⟩:=h2;subst e;have yj:∀ {H':Hp},(∀ b∈fp,H' b=none)->∀ b∈fp,bY X pins H' b:=λhn b hb=>⟨hn b hb,(f2 b hb).2⟩;refine codeAny_forLoop_any (λn s'=>∃ i σ' H',Inv X pins σ' H' s'/\tn i s'.heap/\(∀ b∈fp,H' b=none)/\W i n σ' H') ?_ m0 ⟨0,σ,H2,I2,st2,λb hb=>(f2 b hb).1,w0⟩;rintro n s3 ⟨i,σ3,H3,I3,st3,fr3,w3⟩;rcases turn i n σ3 H3 w3 with ⟨stop,qn⟩ | ⟨go,N,hN,step⟩
 ·refine wpAny_passesOwn hp (thn (T.done X rfl rfl rfl hc i pins s3 σ3 H3 X.xe I3 (yj fr3) st3 stop) λr s4 ⟨hr,I4⟩=>?_);subst hr;exact wpAny_execs_nil ⟨σ3,H3,I4,qn⟩
 ·refine wpAny_passesOwn hp (thn (T.item X rfl rfl rfl hc i pins s3 σ3 H3 X.xe I3 (yj fr3) st3 go) λr s4 ⟨u,hr,h4⟩=>?_);subst hr;refine wpAny_passesOwn hp (thn h4 λ_ s5 ⟨x,H5,I5,r5,y5,st5,fr5⟩=>?_);have I5':=I5.pinned (yj fr5) (T.obj _ _ st5);refine wpAny_passesOwn hp (thn (hg _ s5 σ3 H5 x u _ I5' r5 (step x H5 y5)) λ_ s6 ⟨σ6,H6,I6,q6⟩=>?_);refine wpAny_passesOwn hp (thn (hb _ s6 σ6 H6 _ I6 q6) λf s7 q7=>?_);have again:∀ {σ7:St}{H7:Hp},Inv X (pins++rH fp s5.heap) σ7 H7 s7->N σ7 H7->∃ m,m<n/\∃ i σ' H',Inv X pins σ' H' s7/\tn i s7.heap/\(∀ b∈fp,H' b=none)/\W i m σ' H':=λ{σ7 H7} I7 n7=>by
   obtain ⟨m',hm,w7⟩:=hN σ7 H7 n7;refine ⟨m',hm,i+1,σ7,H7,I7.gO,T.keep _ _ _ st5 λb hb o e=>(I7.pin (b,o) (Ob _ (Ob _ (jc hb e)))).1,λb hb=>?_,w7⟩;obtain ⟨o,e,d⟩:=T.obj _ _ st5 b hb;exact (I7.pin (b,o) (Ob _ (Ob _ (jc hb e)))).2.1
  cases f with
  | next=>obtain ⟨σ7,H7,I7,n7⟩:=q7;exact again I7 n7
  | cont=>obtain ⟨σ7,H7,I7,n7⟩:=q7;exact again I7 n7
  | brk=>obtain ⟨σ7,H7,I7,q7⟩:=q7;exact ⟨σ7,H7,I7.gO,q7⟩
  | ret v=>obtain ⟨x7,σ7,H7,I7,r7,q7⟩:=q7;exact ⟨x7,σ7,H7,I7.gO,r7,q7⟩
end
theorem cM {K:PySem.W.Frag}{a:Addr}{xs:List V}{g:TG}{tb:TS}{D:Ends}{σ:St}{H:Hp} (Pv:Nat->St->Hp->Prop) (h0:Pv 0 σ H) (hl:∀ i σ H,i<=xs.length->Pv i σ H->SqL K H a xs)
  (hs:∀ i x σ H,xs[i]? = some x->Pv i σ H->g x σ H λσ2 H2=>tb { D with nx:=Pv (i+1),ct:=Pv (i+1),bk:=D.nx } σ2 H2) (hd:∀ σ H,Pv xs.length σ H->D.nx σ H) :
  ∃ W:Nat->Nat->St->Hp->Prop,(∃ m,W 0 m σ H)/\∀ i m σ H,W i m σ H ->
   ((Itl K a).stop i H/\D.nx σ H)\/((Itl K a).go i H/\∃ N:St->Hp->Prop,(∀ σ' H',N σ' H'->∃ m',m' < m/\W (i+1) m' σ' H')/\∀ x H',(Itl K a).yld i H x H'->g x σ H' λσ2 H2=>tb { D with nx:=N,ct:=N,bk:=D.nx } σ2 H2):=by
 refine ⟨λi m σ H=>m=xs.length - i/\i<=xs.length/\Pv i σ H,⟨xs.length,by simp,NW _,h0⟩,?_⟩;rintro i m σ H ⟨rfl,hi,p⟩;have q:=hl i σ H hi p;by_cases hlt:i<xs.length
 ·refine .inr ⟨⟨xs,xs[i],q,by simp [hlt]⟩,Pv (i+1),λσ' H' p'=>⟨xs.length - (i+1),by lia,rfl,hlt,p'⟩,λx H' y=>?_⟩;obtain ⟨e,y⟩:=y;subst e;exact hs i x σ _ (y xs q) p
 ·have e:i=xs.length:=by lia
  subst e;exact .inl ⟨⟨xs,q,NH _⟩,hd σ H p⟩
theorem gr {lo:Int}{n:Nat}{g:TG}{tb:TS}{D:Ends}{σ:St}{H:Hp} (Pv:Nat->St->Hp->Prop) (h0:Pv 0 σ H)
  (hs:∀ i σ H,i<n->Pv i σ H->g (.int (lo+i)) σ H λσ2 H2=>tb { D with nx:=Pv (i+1),ct:=Pv (i+1),bk:=D.nx } σ2 H2) (hd:∀ σ H,Pv n σ H->D.nx σ H) :
  ∃ W:Nat->Nat->St->Hp->Prop,(∃ m,W 0 m σ H)/\∀ i m σ H,W i m σ H ->
   ((Itr lo n).stop i H/\D.nx σ H)\/((Itr lo n).go i H/\∃ N:St->Hp->Prop,(∀ σ' H',N σ' H'->∃ m',m' < m/\W (i+1) m' σ' H')/\∀ x H',(Itr lo n).yld i H x H'->g x σ H' λσ2 H2=>tb { D with nx:=N,ct:=N,bk:=D.nx } σ2 H2):=by
 refine ⟨λi m σ H=>m=n - i/\i<=n/\Pv i σ H,⟨n,by simp,NW _,h0⟩,?_⟩;rintro i m σ H ⟨rfl,hi,p⟩;by_cases hlt:i<n
 ·refine .inr ⟨hlt,Pv (i+1),λσ' H' p'=>⟨n - (i+1),by lia,rfl,hlt,p'⟩,λx H' y=>?_⟩;obtain ⟨e,y⟩:=y;subst e y;exact hs i σ _ hlt p
 ·have e:i=n:=by lia
  subst e;exact .inl ⟨NH _,hd σ H p⟩
abbrev R2:=V->V->Hp->VK->Prop
def OpR (X:Cx) (f:Value->Value->Sem Value) (r:R2):Prop:=
 ∀ (pins:List (Addr×Obj)) (s:Shared) (σ:St) (H:Hp) (x y:V) (v u:Value) (Q:VK),Inv X pins σ H s->RelV x v->RelV y u->r x y H Q ->
  wpAny (model X.prog X.w) X.A (f v u) (EP X pins σ Q) X.xe s
def fZ (X:Cx) (f:Value) (r:List V->Hp->VK->Prop):Prop:=
 ∀ (pins:List (Addr×Obj)) (s:Shared) (σ:St) (H:Hp) (xs:List V) (us:List Value) (Q:VK),Inv X pins σ H s->aY xs us->r xs H Q ->
  wpAny (model X.prog X.w) X.A (call f us) (EP X pins σ Q) X.xe s
def tOp (r:R2) (ta tb:TE):TE:=λσ H Q=>ta σ H λx H1=>tb σ H1 λy H2=>r x y H2 Q
def rI (C:Int->Int->Prop) (g:Int->Int->V):R2:=λx y H Q=>∃ i j,x = .int i/\y = .int j/\C i j/\Q (g i j) H
def rI0 (g:Int->Int->V):R2:=λx y H Q=>∃ i j,x = .int i/\y = .int j/\Q (g i j) H
section
variable {X:Cx}{a b c:Expr}{ta tb tc:TE}{pos:Pos}
theorem Hm (ha:PE X a ta) (hb:PE X b tb) {pins:List (Addr×Obj)}{s:Shared}{σ:St}{H:Hp}{R:V->V->Hp->Prop} (I:Inv X pins σ H s)
  (h:ta σ H λx H1=>tb σ H1 λy H2=>R x y H2) {Q:Value->Shared->Prop}{f:Value->Value->Sem Value}
  (hf:∀ v u s2 x y H2,Inv X pins σ H2 s2->RelV x v->RelV y u->R x y H2->wpAny (model X.prog X.w) X.A (f v u) Q X.xe s2) :
  wpAny (model X.prog X.w) X.A (eval a X.env) (λv s₁=>wpAny (model X.prog X.w) X.A (eval b X.env) (λu s₂=>wpAny (model X.prog X.w) X.A (f v u) Q X.xe s₂) X.xe s₁) X.xe s:=by
 refine thn (ha pins s σ H _ I h) λv s1 ⟨x,H1,I1,r1,q1⟩=>?_;refine thn (hb pins s1 σ H1 _ I1 q1) λu s2 ⟨y,H2,I2,r2,q2⟩=>?_;exact hf v u s2 x y H2 I2 r1 r2 q2
theorem bX {op:Operator}{r:R2} (ho:OpR X (binaryOp op) r) (ha:PE X a ta) (hb:PE X b tb):PE X (.BinOp a op b pos) (tOp r ta tb):=by
 intro pins s σ H Q I h;exact wpAny_BinOp (Hm ha hb I h λv u s2 x y H2 I2 rx ry q=>ho pins s2 σ H2 x y v u Q I2 rx ry q)
theorem opI {f:Value->Value->Sem Value}{C:Int->Int->Prop}{g:Int->Int->Int}
  (rule:∀ (i j:Int) (t u:Tok) (s:Shared) (Q:Value->Shared->Prop) (E:Value->Shared->Prop),C i j->Q (.int (g i j) s.toks) { s with toks:=s.toks+1 }->wpAny (model X.prog X.w) X.A (f (.int i t) (.int j u)) Q E s) :
  OpR X f (rI C λi j=>.int (g i j)):=by
 intro pins s σ H x y v u Q I rx ry h;obtain ⟨i,j,rfl,rfl,hc,q⟩:=h;obtain ⟨t,rfl⟩:=rx;obtain ⟨t',rfl⟩:=ry;exact rule i j t t' s _ _ hc ⟨.int (g i j),H,I.tok _,⟨_,rfl⟩,q⟩
theorem Ld {f:Value->Value->Sem Value}{g:Int->Int->Int}
  (rule:∀ (i j:Int) (t u:Tok) (s:Shared) (Q:Value->Shared->Prop) (E:Value->Shared->Prop),Q (.int (g i j) s.toks) { s with toks:=s.toks+1 }->wpAny (model X.prog X.w) X.A (f (.int i t) (.int j u)) Q E s) :
  OpR X f (rI0 λi j=>.int (g i j)):=by
 intro pins s σ H x y v u Q I rx ry h;obtain ⟨i,j,rfl,rfl,q⟩:=h;obtain ⟨t,rfl⟩:=rx;obtain ⟨t',rfl⟩:=ry;exact rule i j t t' s _ _ ⟨.int (g i j),H,I.tok _,⟨_,rfl⟩,q⟩
theorem Fx {f:Value->Value->Sem Value}{g:Int->Int->Bool}
  (rule:∀ (i j:Int) (t u:Tok) (s:Shared) (Q:Value->Shared->Prop) (E:Value->Shared->Prop),Q (.bool (g i j)) s->wpAny (model X.prog X.w) X.A (f (.int i t) (.int j u)) Q E s) :
  OpR X f (rI0 λi j=>.bl (g i j)):=by
 intro pins s σ H x y v u Q I rx ry h;obtain ⟨i,j,rfl,rfl,q⟩:=h;obtain ⟨t,rfl⟩:=rx;obtain ⟨t',rfl⟩:=ry;exact rule i j t t' s _ _ ⟨.bl (g i j),H,I,rfl,q⟩
def LN (i j:Int):Prop:=0<j/\j<1073741824
def MY (i j:Int):Prop:=0<=j/\j<=1000000/\i.natAbs<2 ^ 64
def G8 (i j:Int):Prop:=(-(2 ^ 64)<i/\i<2 ^ 64)\/(-(2 ^ 64)<j/\j<2 ^ 64)
theorem G8.ok {i j:Int} (h:G8 i j):IntMulOk i j:=by
 rcases h with ⟨h1,h2⟩ | ⟨h1,h2⟩
 ·exact .of_left (intBits_le_64 h1 h2)
 ·exact .of_right (intBits_le_64 h1 h2)
theorem gQ:OpR X (binaryOp .Add) (rI0 λi j=>.int (i+j)):=Ld λ_ _ _ _ _ _ _ q=>add_int q
theorem C0:OpR X (binaryOp .Sub) (rI0 λi j=>.int (i - j)):=Ld λ_ _ _ _ _ _ _ q=>sub_int q
theorem DS:OpR X (binaryOp .Mult) (rI G8 λi j=>.int (i * j)):=opI λ_ _ _ _ _ _ _ hc q=>mul_int q hc.ok
theorem zG:OpR X (binaryOp .FloorDiv) (rI LN λi j=>.int (i / j)):=opI λi j _ _ _ _ _ hc q=>by
 have h1:(0:Int)<j:=hc.1;have h2:j<1073741824:=hc.2;exact floordiv_int (by lia) (by rw [Int.fdiv_eq_ediv_of_nonneg i (by lia)];exact q) (.inl (PyProof.noPylong_small (by lia)))
theorem ow:OpR X (binaryOp .Mod) (rI (λ_ j=>0<j) λi j=>.int (i % j)):=opI λi j _ _ _ _ _ hc q=>by
 have h1:(0:Int)<j:=hc;exact mod_int' (by lia) (by rw [Int.fmod_eq_emod_of_nonneg i (by lia)];exact q)
theorem vB:OpR X (binaryOp .Pow) (rI MY λi j=>.int (i ^ j.toNat)):=opI λ_ _ _ _ _ _ _ hc q=>pow_int_small hc.1 hc.2.1 hc.2.2 q
end
def KQ:V->V->Bool
 | .non,.non=>true | .non,.int _=>true | .int _,.non=>true | .non,.bl _=>true | .bl _,.non=>true | .non,.str _=>true | .str _,.non=>true
 | .int _,.int _=>true | .bl _,.bl _=>true | .str _,.str _=>true | .byt _,.byt _=>true
 | .int _,.str _=>true | .str _,.int _=>true | .bl _,.str _=>true | .str _,.bl _=>true
 | _,_=>false
def rEq:R2:=λx y H Q=>KQ x y=true/\Q (.bl (decide (x=y))) H
def rNe:R2:=λx y H Q=>KQ x y=true/\Q (.bl (!decide (x=y))) H
theorem Ae {i j:Int}:decide (V.int i=V.int j)=(i == j):=by
 rw [N7];simp
theorem C8 {i j:Bool}:decide (V.bl i=V.bl j)=(i == j):=by
 rw [N7];simp
theorem zZ {i j:Str}:decide (V.str i=V.str j)=(i == j):=by
 rw [N7];simp
theorem zt {i j:Array UInt8}:decide (V.byt i=V.byt j)=(i.toList == j.toList):=by
 rw [N7];cases i;cases j;simp
section
variable {X:Cx}{a b c:Expr}{ta tb tc:TE}{pos:Pos}
theorem bu {pins:List (Addr×Obj)}{σ:St}{H:Hp}{s:Shared}{Q:VK}{k k':Bool} (I:Inv X pins σ H s) (q:Q (.bl k) H) (e:k=k'):EP X pins σ Q (.bool k') s:=by
 subst e;exact ⟨.bl k,H,I,rfl,q⟩
theorem ef:OpR X (compareOp .Eq) rEq:=by
 intro pins s σ H x y v u Q I rx ry h;obtain ⟨hs,q⟩:=h;cases x with
 | non=>
  cases rx;cases y with
  | non=>cases ry;exact PySem.EqNone.eq_none_none (bu I q (by simp))
  | bl j=>cases ry;exact PySem.EqNone.eq_none_bool (bu I q (by simp))
  | int j=>obtain ⟨t',rfl⟩:=ry;exact PySem.EqNone.eq_none_int (bu I q (by simp))
  | str j=>obtain ⟨t',rfl⟩:=ry;exact PySem.EqNone.eq_none_str (bu I q (by simp))
  | _=>exact absurd (show false=true from hs) NV
 | bl i=>
  cases rx;cases y with
  | non=>cases ry;exact PySem.EqNone.eq_bool_none (bu I q (by simp))
  | bl j=>cases ry;exact eq_bool (bu I q C8)
  | str j=>obtain ⟨t',rfl⟩:=ry;exact PySem.EqMixed.eq_bool_str (bu I q (by simp))
  | _=>exact absurd (show false=true from hs) NV
 | int i=>
  obtain ⟨t,rfl⟩:=rx;cases y with
  | non=>cases ry;exact PySem.EqNone.eq_int_none (bu I q (by simp))
  | int j=>obtain ⟨t',rfl⟩:=ry;exact eq_int (bu I q Ae)
  | str j=>obtain ⟨t',rfl⟩:=ry;exact PySem.EqMixed.eq_int_str (bu I q (by simp))
  | _=>exact absurd (show false=true from hs) NV
 | str i=>
  obtain ⟨t,rfl⟩:=rx;cases y with
  | non=>cases ry;exact PySem.EqNone.eq_str_none (bu I q (by simp))
  | bl j=>cases ry;exact PySem.EqMixed.eq_str_bool (bu I q (by simp))
  | int j=>obtain ⟨t',rfl⟩:=ry;exact PySem.EqMixed.eq_str_int (bu I q (by simp))
  | str j=>obtain ⟨t',rfl⟩:=ry;exact eq_str (bu I q zZ)
  | _=>exact absurd (show false=true from hs) NV
 | byt i=>
  obtain ⟨t,rfl⟩:=rx;cases y with
  | byt j=>obtain ⟨t',rfl⟩:=ry;exact PySem.W.eq_bytes (bu I q zt)
  | _=>exact absurd (show false=true from hs) NV
 | _=>cases y <;> exact absurd (show false=true from hs) NV
theorem m6:OpR X (compareOp .NotEq) rNe:=by
 intro pins s σ H x y v u Q I rx ry h;obtain ⟨hs,q⟩:=h;cases x with
 | non=>
  cases rx;cases y with
  | non=>cases ry;exact PySem.EqNone.ne_none_none (bu I q (by simp))
  | bl j=>cases ry;exact PySem.EqNone.ne_none_bool (bu I q (by simp))
  | int j=>obtain ⟨t',rfl⟩:=ry;exact PySem.EqNone.ne_none_int (bu I q (by simp))
  | str j=>obtain ⟨t',rfl⟩:=ry;exact PySem.EqNone.ne_none_str (bu I q (by simp))
  | _=>exact absurd (show false=true from hs) NV
 | bl i=>
  cases rx;cases y with
  | non=>cases ry;exact PySem.EqNone.ne_bool_none (bu I q (by simp))
  | bl j=>cases ry;exact ne_bool (bu I q (congrArg not C8))
  | str j=>obtain ⟨t',rfl⟩:=ry;exact PySem.EqMixed.ne_bool_str (bu I q (by simp))
  | _=>exact absurd (show false=true from hs) NV
 | int i=>
  obtain ⟨t,rfl⟩:=rx;cases y with
  | non=>cases ry;exact PySem.EqNone.ne_int_none (bu I q (by simp))
  | int j=>obtain ⟨t',rfl⟩:=ry;exact ne_int (bu I q (congrArg not Ae))
  | str j=>obtain ⟨t',rfl⟩:=ry;exact PySem.EqMixed.ne_int_str (bu I q (by simp))
  | _=>exact absurd (show false=true from hs) NV
 | str i=>
  obtain ⟨t,rfl⟩:=rx;cases y with
  | non=>cases ry;exact PySem.EqNone.ne_str_none (bu I q (by simp))
  | bl j=>cases ry;exact PySem.EqMixed.ne_str_bool (bu I q (by simp))
  | int j=>obtain ⟨t',rfl⟩:=ry;exact PySem.EqMixed.ne_str_int (bu I q (by simp))
  | str j=>obtain ⟨t',rfl⟩:=ry;exact ne_str (bu I q (congrArg not zZ))
  | _=>exact absurd (show false=true from hs) NV
 | byt i=>
  obtain ⟨t,rfl⟩:=rx;cases y with
  | byt j=>obtain ⟨t',rfl⟩:=ry;exact PySem.W.ne_bytes (bu I q (congrArg not zt))
  | _=>exact absurd (show false=true from hs) NV
 | _=>cases y <;> exact absurd (show false=true from hs) NV
theorem qB:OpR X (compareOp .Lt) (rI0 λi j=>.bl (decide (i<j))):=Fx λ_ _ _ _ _ _ _ q=>lt_int q
theorem De:OpR X (compareOp .LtE) (rI0 λi j=>.bl (decide (i<=j))):=Fx λ_ _ _ _ _ _ _ q=>le_int q
theorem G0:OpR X (compareOp .Gt) (rI0 λi j=>.bl (decide (j<i))):=Fx λ_ _ _ _ _ _ _ q=>gt_int q
theorem Ee:OpR X (compareOp .GtE) (rI0 λi j=>.bl (decide (j<=i))):=Fx λ_ _ _ _ _ _ _ q=>ge_int q
theorem Ds:OpR X (compareOp .Is) (λx y H Q=>y = .non/\Q (.bl (decide (x = .non))) H):=by
 intro pins s σ H x y v u Q I rx ry h;obtain ⟨rfl,q⟩:=h;cases ry;refine is_none_gen (bu I q ?_);cases x <;> first
  | (cases rx;rfl)
  | (obtain ⟨t,rfl⟩:=rx;rfl)
theorem Gi:OpR X (compareOp .IsNot) (λx y H Q=>y = .non/\Q (.bl (!decide (x = .non))) H):=by
 intro pins s σ H x y v u Q I rx ry h;obtain ⟨rfl,q⟩:=h;cases ry;refine isnot_none_gen (bu I q ?_);cases x <;> first
  | (cases rx;rfl)
  | (obtain ⟨t,rfl⟩:=rx;rfl)
theorem aJ (b:Expr) {op:CmpOp} (h:op ≠ .In:=by decide) (h2:op ≠ .NotIn:=by decide):behindInMarks op b=false:=by
 have e1:(op == CmpOp.In)=false:=by cases op <;> first | rfl | exact absurd rfl h
 have e2:(op == CmpOp.NotIn)=false:=by cases op <;> first | rfl | exact absurd rfl h2
 cases b <;> simp [behindInMarks,e1,e2]
theorem cy {op:CmpOp}{r:R2} (ho:OpR X (compareOp op) r) (ha:PE X a ta) (hb:PE X b tb) (hm:behindInMarks op b=false):PE X (.Compare a [op] [b] pos) (tOp r ta tb):=by
 intro pins s σ H Q I h;exact wpAny_Compare1 (Hm ha hb I h λv u s2 x y H2 I2 rx ry q=>ho pins s2 σ H2 x y v u Q I2 rx ry q) hm
def tN (t:TE):TT:=λσ H Q=>t σ H λx H'=>∃ k,x = .bl k/\Q k H'
theorem aK {op:CmpOp}{r:R2} (ho:OpR X (compareOp op) r) (ha:PE X a ta) (hb:PE X b tb) (hm:behindInMarks op b=false):PT X (.Compare a [op] [b] pos) (tN (tOp r ta tb)):=by
 intro pins s σ H Q I h;refine wpAny_isTrue_Compare1 (thn (ha pins s σ H _ I h) λv s1 ⟨x,H1,I1,r1,q1⟩=>thn (hb pins s1 σ H1 _ I1 q1) λu s2 ⟨y,H2,I2,r2,q2⟩=>
  thn (ho pins s2 σ H2 x y v u _ I2 r1 r2 q2) λc s3 ⟨z,H3,I3,r3,k,e,q3⟩=>?_) hm
 subst e;cases r3;exact wpAny_truthy_bool ⟨H3,I3,q3⟩
def vG (r r':R2) (ta tb tc:TE):TE:=λσ H Q=>ta σ H λx H1=>tb σ H1 λy H2=>r x y H2 λz H3=>∃ k,z = .bl k /\
 (if k=true then tc σ H3 λw' H4=>r' y w' H4 Q else Q (.bl false) H3)
theorem DE {op op':CmpOp}{r r':R2} (ho:OpR X (compareOp op) r) (ho':OpR X (compareOp op') r') (ha:PE X a ta) (hb:PE X b tb) (hc:PE X c tc)
  (hm:lastMarks [op,op'] [b,c]=false:=by with_unfolding_all rfl):PE X (.Compare a [op,op'] [b,c] pos) (vG r r' ta tb tc):=by
 intro pins s σ H Q I h;refine Compare_chain (thn (ha pins s σ H _ I h) λv s1 ⟨x,H1,I1,r1,q1⟩=>chain_link (thn (hb pins s1 σ H1 _ I1 q1) λu s2 ⟨y,H2,I2,r2,q2⟩=>
  thn (ho pins s2 σ H2 x y v u _ I2 r1 r2 q2) λd s3 ⟨z,H3,I3,r3,k,e,q3⟩=>?_)) hm
 subst e;cases r3;refine wpAny_truthy_bool ?_;cases k with
 | false=>exact ite_ff ⟨.bl false,H3,I3,rfl,q3⟩
 | true=>exact ite_tt (chain_last (thn (hc pins s3 σ H3 _ I3 q3) λw' s4 ⟨z',H4,I4,r4,q4⟩=>ho' pins s4 σ H4 y z' u w' Q I4 r2 r4 q4))
theorem rc {op op':CmpOp}{r r':R2} (ho:OpR X (compareOp op) r) (ho':OpR X (compareOp op') r') (ha:PE X a ta) (hb:PE X b tb) (hc:PE X c tc)
  (hm:lastMarks [op,op'] [b,c]=false:=by with_unfolding_all rfl):PT X (.Compare a [op,op'] [b,c] pos) (tN (vG r r' ta tb tc)):=by
 intro pins s σ H Q I h;refine isTrue_chain (thn (ha pins s σ H _ I h) λv s1 ⟨x,H1,I1,r1,q1⟩=>test_link (thn (hb pins s1 σ H1 _ I1 q1) λu s2 ⟨y,H2,I2,r2,q2⟩=>
  thn (ho pins s2 σ H2 x y v u _ I2 r1 r2 q2) λd s3 ⟨z,H3,I3,r3,k,e,q3⟩=>?_)) hm
 subst e;cases r3;refine wpAny_truthy_bool ?_;cases k with
 | false=>
  obtain ⟨k',e',q'⟩:=q3;cases e';exact ite_ff ⟨H3,I3,q'⟩
 | true=>
  refine ite_tt (test_last (thn (hc pins s3 σ H3 _ I3 q3) λw' s4 ⟨z',H4,I4,r4,q4⟩=>thn (ho' pins s4 σ H4 y z' u w' _ I4 r2 r4 q4) λd' s5 ⟨z2,H5,I5,r5,k2,e2,q5⟩=>?_));subst e2;cases r5;exact wpAny_truthy_bool ⟨H5,I5,q5⟩
theorem oJ:(sizeLine:Nat)<2 ^ 63:=by rw [sizeLine_eq];decide
theorem vals1 {x:V}{us:List Value} (r:aY [x] us):∃ u,us=[u]/\RelV x u:=by
 cases r with
 | cons r1 r2=>cases r2;exact ⟨_,rfl,r1⟩
theorem vals2 {x y:V}{us:List Value} (r:aY [x,y] us):∃ u w',us=[u,w']/\RelV x u/\RelV y w':=by
 cases r with
 | cons r1 r2=>
  cases r2 with
  | cons r3 r4=>cases r4;exact ⟨_,_,rfl,r1,r3⟩
theorem tw:fZ X (.type "int") (λxs H Q=>(∃ i,xs=[.int i]/\Q (.int i) H)\/∃ k,xs=[.bl k]/\Q (.int (if k then 1 else 0)) H):=by
 intro pins s σ H xs us Q I r h;rcases h with ⟨i,rfl,q⟩ | ⟨k,rfl,q⟩
 ·obtain ⟨u,rfl,t,rfl⟩:=vals1 r;exact call_int_int ⟨.int i,H,I,⟨_,rfl⟩,q⟩
 ·obtain ⟨u,rfl,r1⟩:=vals1 r;cases r1;exact call_int_bool ⟨.int (if k then 1 else 0),H,I.tok _,⟨_,rfl⟩,q⟩
end
structure HB (h:Heap) (x dx C:Addr) (mA:Str->Option Value):Prop where
 obj:h.get? x=some (PySem.W.instObj C dx)
 ns:h.Ns1 dx mA
 ne:dx≠x
theorem A8 {h:Heap}{dx:Addr}{mA:Str->Option Value} (n:h.Ns1 dx mA):∃ od,h.get? dx=some od/\∀ name,PySem.W.lookIn name od=some (mA name):=by
 obtain ⟨o,es,ep,ho,hd,hk,_,hm⟩:=n;refine ⟨o,ho,λname=>?_⟩;have e:=hm name;unfold nsFind findBy at e;rw [<-Array.find?_toList] at e;unfold PySem.W.lookIn;rw [hd];dsimp only
 split
 ·rename_i y q;rw [q] at e;exact congrArg some e
 ·rename_i q;rw [q] at e;have a:es.toList.any (·.refKey)=false:=by
   rw [List.any_eq_false];intro y hy;obtain ⟨z,t,ET⟩:=hk y (Array.mem_toList_iff.mp hy);simp [DictEntry.refKey,ET]
  have a':¬ es.toList.any (·.refKey)=true:=by rw [a];exact NV
  rw [if_neg a'];exact congrArg some e
theorem HB.look {h:Heap}{x dx C:Addr}{mA:Str->Option Value} (I:HB h x dx C mA):∃ od,PySem.W.InstAt h x (PySem.W.instObj C dx) C (some od)/\∀ name,PySem.W.lookIn name od=some (mA name):=
 let ⟨od,ho,hl⟩:=A8 I.ns
 ⟨od,⟨I.obj,rfl,rfl,ho⟩,hl⟩
section
variable {prog:Program}{w:World}{A:Around}{E:Value->Shared->Prop}{s:Shared}{K:PySem.W.Frag}{x dx C f:Addr}{mA:Str->Option Value}{name:Str}{v:Value}
end
theorem mf.some_of {v:V}{o:Option Value} (r:mf (some v) o):∃ u,o=some u/\RelV v u:=by
 cases o with
 | none=>exact (show False from r).elim
 | some u=>exact ⟨u,rfl,r⟩
section
variable {P:Program}{w:World}{H H':Hp}{h h':Heap}{a C dx:Addr}{fs fs':List (Str×V)}
theorem Fk (hok:HOk P w H h) (e:H a=some (.ins C dx fs)):∃ mA,HB h a dx C mA/\(∀ f,mf (fs.lookup f) (mA f))/\PySem.Within mA (fs.map (·.1))/\fs.length<=1000/\H dx=some (.own a):=by
 obtain ⟨d,z,ne,ob,mA,n,r,q⟩:=(show b8 P w H h a (.ins C dx fs) from hok a _ e);exact ⟨mA,⟨ob,n,ne⟩,r,q,z,d⟩
end
structure Cls (K:PySem.W.Frag) (C:Addr):Prop where
 pg:PySem.W.plainGet K C Str.empty=true
 hd:PySem.W.hasDictIn K C=true
 po:PySem.W.plainOver K C=true
 sa:PySem.W.findIn K (.ref C) "__setattr__" = some (some (.builtin "object.__setattr__"))
theorem Cls.get {K:PySem.W.Frag}{C:Addr} (c:Cls K C) (f:Str):PySem.W.plainGet K C f=true:=c.pg
structure Con (K:PySem.W.Frag) (C:Addr) (f:Str) (v:V) (u:Value):Prop where
 at_:PySem.W.findIn K (.ref C) f=some (some u)
 rel:RelV v u
 get:PySem.W.specialIn K u "__get__" = some none
 cp:PySem.W.copiedNames.contains f=false
structure NA (K:PySem.W.Frag) (C:Addr) (m:Str) (f:Addr):Prop where
 at_:PySem.W.findIn K (.ref C) m=some (some (.ref f))
 fn:PySem.W.isFn K (.ref f)=true
 kp:PySem.W.keepIn K (.ref f)=true
section
variable {X:Cx}{pins:List (Addr×Obj)}{σ:St}{H:Hp}{s:Shared}{a C dx:Addr}{fs:List (Str×V)}{f:Str}{v:V}{A:Around}{E:Value->Shared->Prop}
end
section
variable {X:Cx}{o e value:Expr}{f:Str}{pos pos' CJ:Pos}{ta tv:TE}
end
section
variable {X:Cx}{pins:List (Addr×Obj)}{σ:St}{H:Hp}{s:Shared}{A:Around}{E:Value->Shared->Prop}{Q:Value->Shared->Prop}{c:Value}{b:Bool}
inductive om (K:PySem.W.Frag) (H:Hp):V->Value->Prop where
 | non:om K H .non (.type "NoneType")
 | bl (x:Bool):om K H (.bl x) (.type "bool")
 | int (i:Int):om K H (.int i) (.type "int")
 | str (x:Str):om K H (.str x) (.type "str")
 | flt (x:UInt64):om K H (.flt x) (.type "float")
 | lst {a:Addr}{xs:List V} (e:H a=some (.lst xs)):om K H (.ref a) (.type "list")
 | frz {a:Addr}{o:Obj}{xs:List V} (e:H a=some (.frz o (.lst xs))):om K H (.ref a) (.type "list")
 | tup {a:Addr}{xs:List V} (e:H a=some (.tup xs)):om K H (.ref a) (.type "tuple")
 | dK {a:Addr}{kvs:List (Key×V)} (e:H a=some (.dK kvs)):om K H (.ref a) (.type "dict")
 | dT {a:Addr}{kvs:List (List Key×V)} (e:H a=some (.dT kvs)):om K H (.ref a) (.type "dict")
 | ins {a C dx:Addr}{fs:List (Str×V)} (e:H a=some (.ins C dx fs)) (cl:Cls K C) (ha:PySem.W.findIn K (.ref C) "__class__" = some (some (.builtin "object.__class__")))
   (hn:PySem.W.specialIn K (.builtin "object.__class__") "__get__" = some (some (.builtin "getset_descriptor.__get__"))) (htk:PySem.W.takesIn K (.builtin "object.__class__")=some true)
   (hm:PySem.W.mroIn K C (.type "object")=some true):om K H (.ref a) (.ref C)
theorem Ak {x:V}{u t:Value} (I:Inv X pins σ H s) (rx:RelV x u) (ty:om X.K H x t) (e:PySem.W.kitOne X.K t c=some b) (h:∀ tk,Q (.bool b) { s with toks:=tk }) :
  wpAny (model X.prog X.w) A (call (.builtin "isinstance") [u,c]) Q E s:=by
 cases ty with
 | non=>cases (show u=Value.none from rx);exact PySem.W.kia_one PySem.W.kitx_none I.kIn True.intro e (λz=>nomatch z) h
 | bl y=>cases (show u=Value.bool y from rx);exact PySem.W.kia_one PySem.W.kitx_bool I.kIn True.intro e (λz=>nomatch z) h
 | int i=>obtain ⟨t,q⟩:=(show ∃ t,u=Value.int i t from rx);cases q;exact PySem.W.kia_one PySem.W.kitx_int I.kIn True.intro e (λz=>nomatch z) h
 | str y=>obtain ⟨t,q⟩:=(show ∃ t,u=Value.str y t from rx);cases q;exact PySem.W.kia_one PySem.W.kitx_str I.kIn True.intro e (λz=>nomatch z) h
 | flt y=>obtain ⟨t,q⟩:=(show ∃ t,u=Value.float y t from rx);cases q;exact PySem.W.kia_one PySem.W.kitx_float I.kIn True.intro e (λz=>nomatch z) h
 | @lst a xs ea=>
  cases (show u=Value.ref a from rx);obtain ⟨_,_,n,_,h1⟩:=(show b8 X.prog X.w H s.heap a (.lst xs) from I.hok a _ ea);exact PySem.W.kia_one PySem.W.kitx_list I.kIn ⟨_,h1,rfl⟩ e (λz=>nomatch z) h
 | @frz a ob xs ea=>
  cases (show u=Value.ref a from rx);obtain ⟨_,_,_,n,_,h1⟩:=(show b8 X.prog X.w H s.heap a (.frz ob (.lst xs)) from I.hok a _ ea);exact PySem.W.kia_one PySem.W.kitx_list I.kIn ⟨_,h1,rfl⟩ e (λz=>nomatch z) h
 | @tup a xs ea=>
  cases (show u=Value.ref a from rx);obtain ⟨_,_,_,p⟩:=(show b8 X.prog X.w H s.heap a (.tup xs) from I.hok a _ ea);obtain ⟨o,h1,h2,_⟩:=p;exact PySem.W.kia_one PySem.W.kitx_tuple I.kIn ⟨o,h1,h2⟩ e (λz=>nomatch z) h
 | @dK a kvs ea=>
  cases (show u=Value.ref a from rx);obtain ⟨_,_,vs,_,p⟩:=(show b8 X.prog X.w H s.heap a (.dK kvs) from I.hok a _ ea);obtain ⟨o,es,ep,h1,h2,_⟩:=p;exact PySem.W.kia_one PySem.W.kitx_dict I.kIn ⟨o,h1,h2.1⟩ e (λz=>nomatch z) h
 | @dT a kvs ea=>
  cases (show u=Value.ref a from rx);obtain ⟨_,_,xs,_,o,es,ep,h1,h2,_⟩:=(show b8 X.prog X.w H s.heap a (.dT kvs) from I.hok a _ ea);exact PySem.W.kia_one PySem.W.kitx_dict I.kIn ⟨o,h1,h2.1⟩ e (λz=>nomatch z) h
 | @ins a C dx fs ea cl ha hn htk hm=>
  cases (show u=Value.ref a from rx);obtain ⟨mA,O,_⟩:=Fk I.hok ea;obtain ⟨od,J,_⟩:=O.look;exact PySem.W.kia_one (PySem.W.kitx_own (cl.get _) cl.hd ha hn htk hm) I.kIn J e (λz=>nomatch z) h
end
structure cn (k:Nat) (A:Around):Prop where
 hd:A.handled=none
 dp:A.depth+3 * k+5<recursionLimit
 un:A.units+16 * k+200<cLine
 gd:A.guards=some []
theorem cn.mono {j k:Nat}{A:Around} (r:cn k A) (h:j<=k):cn j A:=⟨r.hd,by have:=r.dp;lia,by have:=r.un;lia,r.gd⟩
theorem cn.deeper {k:Nat}{A:Around} (r:cn (k+1) A) (env:Env):cn k (A.deeper env):=
 ⟨r.hd,by have:=r.dp;show A.depth+1+3 * k+5<_;lia,by have:=r.un;show A.units+3+16 * k+200<_;lia,r.gd⟩
theorem cn.in1 {k:Nat}{A:Around} (r:cn (k+1) A):cn k A.in1:=
 ⟨r.hd,by have:=r.dp;show A.depth+3 * k+5<_;lia,by have:=r.un;show A.units+1+16 * k+200<_;lia,r.gd⟩
theorem cn.depth {k:Nat}{A:Around} (r:cn k A):A.depth<recursionLimit:=by have:=r.dp;lia
theorem cn.units {k:Nat}{A:Around} (r:cn k A):A.units+64<cLine:=by have:=r.un;lia
def Io:TA:=λ_ H Q=>Q [] H
def Kd (ta:TE) (tr:TA):TA:=λσ H Q=>ta σ H λx H1=>tr σ H1 λxs H2=>Q (x::xs) H2
section
variable {X:Cx}{e:Expr}{es:List Expr}{te:TE}{t:TA}{pos:Pos}
theorem af:PA X [] Io:=λ_ _ _ _ H Q I h=>Calls.spliced_nil ⟨[],H,I,.nil,h⟩
theorem aa (ha:PE X e te) (hr:PA X es t) (hs:starEach (e::es) X.env=(false,eval e X.env)::starEach es X.env:=by rfl):PA X (e::es) (Kd te t):=by
 intro pos pins s σ H Q I h;rw [hs];show wpAny _ _ (spliced ((false,eval e X.env)::backTo pos (starEach es X.env))) _ _ s;refine Calls.spliced_cons (thn (ha pins s σ H _ I h) λu s1 ⟨x,H1,I1,r1,q1⟩=>?_);exact thn (hr pos pins s1 σ H1 _ I1 q1) λus s2 ⟨xs,H2,I2,r2,q2⟩=>⟨x::xs,H2,I2,.cons r1 r2,q2⟩
def MX (t:TA):TE:=λσ H Q=>t σ H λxs H1=>xs.length<=sizeLine/\∀ p,H1 p=none->Q (.ref p) (upd H1 p (.tup xs))
def HZ (t:TA):TE:=λσ H Q=>t σ H λxs H1=>xs.length<=sizeLine/\∀ p,H1 p=none->Q (.ref p) (upd H1 p (.lst xs))
theorem bJ {x1} (h:PA X es t):PE X (.Tuple es x1 pos) (MX t):=by
 intro pins s σ H Q I hq;refine wpAny_Tuple_spliced (thn (h pos pins s σ H _ I hq) λus s1 ⟨xs,H1,I1,r,z,q⟩=>⟨by rw [<-r.length];exact z,?_⟩);have hf:H1 s1.heap.objs.size=none:=I1.hok.fresh (NH _);refine ⟨.ref s1.heap.objs.size,upd H1 s1.heap.objs.size (.tup xs),I1.laid (t':=s1.toks) (λb u e=>Heap.get?_push_of_some _ e) (NH _) ?_,rfl,q _ hf⟩;exact ⟨z,us,r,⟨_,Heap.get?_push_size _ rfl,rfl,_,rfl⟩⟩
theorem be (h:PA X es t):PE X (.List es pos) (HZ t):=by
 intro pins s σ H Q I hq;refine wpAny_List_spliced (thn (h pos pins s σ H _ I hq) λus s1 ⟨xs,H1,I1,r,z,q⟩=>⟨by rw [<-r.length];exact z,?_⟩);have hf:H1 s1.heap.objs.size=none:=I1.hok.fresh (NH _);refine ⟨.ref s1.heap.objs.size,upd H1 s1.heap.objs.size (.lst xs),I1.laid (t':=s1.toks) (λb u e=>Heap.get?_push_of_some _ e) (NH _) ?_,rfl,q _ hf⟩;exact ⟨z,us,0,r,Heap.get?_push_size _ rfl⟩
end
abbrev Sp:=List V->Hp->VK->XK->Prop
abbrev CXT:=List Env->Hp->Shared->XK->Value->Shared->Prop
structure yu (P:Program) (w:World) (K:PySem.W.Frag) (mg:Str->Option Value) (base:Heap) (A:Around) (outer:List Env) (s:Shared) (H:Hp):Prop where
 frames:A.frames=some outer
 mod:Mod K mg base
 bs:∀ b o,base.get? b=some o->s.heap.get? b=some o/\H b=none
 bsz:base.objs.size<=s.heap.objs.size
 oB:s.heap.FunFrames base outer
 frf:∀ b∈frs outer,H b=none
 hok:HOk P w H s.heap
 bare:AllBare s.gens
def CE (outer:List Env) (P:Program) (w:World) (H:Hp) (s:Shared) (Q:VK) (u:Value) (s':Shared):Prop:=
 ∃ v H',s'.os=s.os/\AllBare s'.gens/\Un (frs outer) [] H H' s.heap s'.heap/\HOk P w H' s'.heap/\RelV v u/\Q v H'
def CR (CX:CXT) (outer:List Env) (P:Program) (w:World) (H:Hp) (s:Shared) (Q:VK) (E:XK) (r:Result) (s':Shared):Prop:=
 match r with
 | .ok (.ret u)=>CE outer P w H s Q u s'
 | .ok _=>False
 | .error e=>CX outer H s E e s'
structure aA (P:Program) (w:World) (K:PySem.W.Frag) (mg:Str->Option Value) (base:Heap) (CX:CXT) (k:Nat) (f:Addr) (fd:FuncData) (ps:List Str) (sp:Sp):Prop where
 len:∀ vs H Q E,sp vs H Q E->vs.length=ps.length
 run:∀ (A:Around) (outer:List Env) (s:Shared) (H:Hp) (args:Args) (us:List Value) (vs:List V) (Q:VK) (E:XK),cn k A->yu P w K mg base A outer s H->BindsTo s fd args (ps.zip us)->aY vs us->sp vs H Q E ->
  codeAny (model P w) A (.call (.ref f) args) (CR CX outer P w H s Q E) s
theorem aA.mono {P:Program}{w:World}{K:PySem.W.Frag}{mg:Str->Option Value}{base:Heap}{CX:CXT}{j k:Nat}{f:Addr}{fd:FuncData}{ps:List Str}{sp:Sp} (F:aA P w K mg base CX j f fd ps sp) (h:j<=k) :
  aA P w K mg base CX k f fd ps sp:=⟨F.len,λA outer s H args us vs Q E hr=>F.run A outer s H args us vs Q E (hr.mono h)⟩
theorem yu.in1 {P:Program}{w:World}{K:PySem.W.Frag}{mg:Str->Option Value}{base:Heap}{A:Around}{outer:List Env}{s:Shared}{H:Hp} (e:yu P w K mg base A outer s H) :
  yu P w K mg base A.in1 outer s H:=⟨e.frames,e.mod,e.bs,e.bsz,e.oB,e.frf,e.hok,e.bare⟩
section
variable {X:Cx}{pins:List (Addr×Obj)}{σ:St}{H:Hp}{s s':Shared}
theorem Inv.Fs (I:Inv X pins σ H s):yu X.prog X.w X.K X.mg X.base X.A X.stack s H:=
 ⟨I.ok.frames,I.ok.mod,I.bs,NM I.ok.bsz I.sz,I.stack,I.zO,I.hok,I.bare⟩
theorem Inv.after {Q:VK}{u:Value} (I:Inv X pins σ H s) (h:CE X.stack X.prog X.w H s Q u s'):EP X pins σ Q u s':=by
 obtain ⟨v,H',os,bare,un,hok,r,q⟩:=h;obtain ⟨hh,g,d,t,os'⟩:=s';obtain rfl:os' = s.os:=os;exact ⟨v,H',I.call (h':=hh) (g':=g) (d':=d) (t':=t) (ch:=[]) un hok bare (λb z=>absurd z (by simp)),r,q⟩
end
def JZ (sp:Sp) (dvs:List V) (E:XK) (t:TA):TE:=λσ H Q=>t σ H λvs H1=>sp (vs++dvs) H1 Q E
def Binds (K:PySem.W.Frag) (fd:FuncData) (ps:List Str) (ds:List Value):Prop:=
 ∀ (s:Shared) (us:List Value),K.In s.heap->(us++ds).length=ps.length->BindsTo s fd ⟨us,[]⟩ (ps.zip (us++ds))
theorem Binds.all {K:PySem.W.Frag}{fd:FuncData}{ps:List Str} (h:∀ us:List Value,us.length=ps.length->bindArgs fd ⟨us,[]⟩=pure (ps.zip us)):Binds K fd ps []:=λs us _ hl=>by
 rw [N6] at hl ⊢;exact .of_eq (h us hl)
def yQ (CX:CXT) (X:Cx) (E:XK):Prop:=∀ (pins:List (Addr×Obj)) (σ:St) (H:Hp) (s:Shared) (e:Value) (s':Shared),Inv X pins σ H s->CX X.stack H s E e s'->X.xe e s'
section
variable {X:Cx}{CX:CXT}{k:Nat}{f C:Addr}{fd:FuncData}{ps:List Str}{sp:Sp}{dvs:List V}{ds:List Value}{E:XK}{x m:Str}{p pos apos:Pos}{e o:Expr}{es:List Expr}{ta:TE}{t:TA}
theorem IA {pins:List (Addr×Obj)}{σ:St}{H:Hp}{s:Shared}{Q:VK}{us:List Value}{vs:List V} (F:aA X.prog X.w X.K X.mg X.base CX k f fd ps sp) (hr:cn k X.A) (hb:Binds X.K fd ps ds) (hd:aY dvs ds) (hx:yQ CX X E)
  (I:Inv X pins σ H s) (r:aY vs us) (h:sp (vs++dvs) H Q E):wpAny (model X.prog X.w) X.A (call (.ref f) us) (EP X pins σ Q) X.xe s:=by
 have r2:aY (vs++dvs) (us++ds):=r.append hd;have hl:(us++ds).length=ps.length:=by rw [<-r2.length];exact F.len _ _ _ _ h
 refine wpAny_call (codeAny_mono (F.run X.A X.stack s H ⟨us,[]⟩ (us++ds) (vs++dvs) Q E hr I.Fs (hb s us I.kIn hl) r2 h) λr s' hq=>?_);cases r with
 | error e=>exact hx pins σ H s e s' I hq
 | ok fl=>
  cases fl with
  | ret u=>exact I.after hq
  | next=>exact False.elim hq
  | brk=>exact False.elim hq
  | cont=>exact False.elim hq
theorem aq (F:aA X.prog X.w X.K X.mg X.base CX k f fd ps sp) (hr:cn k X.A) (hg:Gl X x) (hm:X.mg x=some (.ref f)) (hk:PySem.W.keepIn X.K (.ref f)=true) (hb:Binds X.K fd ps ds) (hd:aY dvs ds) (hx:yQ CX X E)
  (ha:PA X (e::es) t) (hdb:(x == ("__debug__" : Str))=false:=by decide) (he:starEach (e::es) X.env=(false,eval e X.env)::starEach es X.env:=by rfl) (hpl:(backTo pos (starEach es X.env)).any (·.1)=false:=by rfl) :
  PE X (.Call (.Name x p) (e::es) [] pos) (JZ sp dvs E t):=by
 intro pins s σ H Q I h;refine wpAny_Call_Name_kw (p5 I hg hm ?_ hdb);refine PySem.W.callWith_K (h₀:=X.base) I.ok.mod.kin hk (thn (ha pos pins s σ H _ I h) λus s1 ⟨vs,H1,I1,r,q⟩=>⟨I1.kIn,?_⟩) he hpl;exact IA F hr hb hd hx I1 r q
structure Mk (K:PySem.W.Frag) (C f:Addr):Prop where
 makes:PySem.W.makesIn K C=true
 init:PySem.W.findIn K (.ref C) "__init__" = some (some (.ref f))
 fn:PySem.W.isFn K (.ref f)=true
 kp:PySem.W.keepIn K (.ref C)=true
end
section
variable {X:Cx}{CX:CXT}{k:Nat}{f C:Addr}{fd:FuncData}{ps ks:List Str}{sp:Sp}{E:XK}{x m:Str}{p pos apos Nx:Pos}{e o:Expr}{es:List Expr}{kws:List Keyword}{te ta:TE}{t tk:TA}{nm:Option Str}
structure MJ (K:PySem.W.Frag) (fd:FuncData) (ps ks:List Str) (g:List Value->List Value->List Value) (gV:List V->List V->List V):Prop where
 to:∀ (s:Shared) (us ws:List Value),K.In s.heap->(g us ws).length=ps.length->BindsTo s fd ⟨us,ks.zip ws⟩ (ps.zip (g us ws))
 rel:∀ {vs:List V}{us:List Value}{zs:List V}{ws:List Value},aY vs us->aY zs ws->aY (gV vs zs) (g us ws)
variable {g:List Value->List Value->List Value}{gV:List V->List V->List V}
end
structure aE (N P:List Str) (sc:Scope):Prop where
 kind:sc.kind = .function
 co:sc.isCoroutine=false
 gen:sc.isGenerator=false
 nd:N.Nodup
 pre:N.take P.length=P
 par:∀ x∈P,sc.names.lookup x=some .local\/sc.names.lookup x=some .cell
 Hv:∀ y∈sc.names,y.2 ≠ .free
theorem uq {kindOf:Str->Option NameKind}{x:Str}:∀ {binds:List (Str×Value)}{m:Str->Option Value},(∀ v,(x,v)∉binds)->bindL kindOf binds m x=m x
 | [],_,_=>rfl
 | (n,v)::r,m,h=>by
  unfold bindL;rw [uq λw hw=>h w (NN _ hw)]
  split
  ·have:x≠n:=by rintro rfl;exact h v NT
   simp [this]
  ·rfl
theorem tM {kindOf:Str->Option NameKind}{x:Str}:∀ {binds:List (Str×Value)}{m:Str->Option Value},(∀ v,(x,v)∉binds)->bindC kindOf binds m x=m x
 | [],_,_=>rfl
 | (n,v)::r,m,h=>by
  unfold bindC;rw [tM λw hw=>h w (NN _ hw)]
  split
  ·rfl
  ·have:x≠n:=by rintro rfl;exact h v NT
   simp [this]
theorem uf {kindOf:Str->Option NameKind}{x:Str}{v:Value}:∀ {P:List Str}{vs:List Value}{i:Nat}{m:Str->Option Value},P.Nodup->P[i]? = some x->vs[i]? = some v->kindOf x=some .local ->
  bindL kindOf (P.zip vs) m x=some v
 | [],_,_,_,_,h,_,_=>by simp at h
 | _::_,[],_,_,_,_,h,_=>by simp at h
 | p::P,w::vs,0,m,nd,h1,h2,hk=>by
  simp at h1 h2;subst h1;subst h2;show bindL kindOf ((p,w)::P.zip vs) m p=_;unfold bindL;rw [uq λv hv=>(Pl.mp nd).1 (List.of_mem_zip hv).1,if_pos hk];simp
 | p::P,w::vs,i+1,m,nd,h1,h2,hk=>by
  show bindL kindOf ((p,w)::P.zip vs) m x=_;unfold bindL;exact uf (i:=i) (Pl.mp nd).2 (by simpa using h1) (by simpa using h2) hk
theorem ug {kindOf:Str->Option NameKind}{x:Str}{v:Value}:∀ {P:List Str}{vs:List Value}{i:Nat}{m:Str->Option Value},P.Nodup->P[i]? = some x->vs[i]? = some v->kindOf x≠some .local ->
  bindC kindOf (P.zip vs) m x=some v
 | [],_,_,_,_,h,_,_=>by simp at h
 | _::_,[],_,_,_,_,h,_=>by simp at h
 | p::P,w::vs,0,m,nd,h1,h2,hk=>by
  simp at h1 h2;subst h1;subst h2;show bindC kindOf ((p,w)::P.zip vs) m p=_;unfold bindC;rw [tM λv hv=>(Pl.mp nd).1 (List.of_mem_zip hv).1,if_neg hk];simp
 | p::P,w::vs,i+1,m,nd,h1,h2,hk=>by
  show bindC kindOf ((p,w)::P.zip vs) m x=_;unfold bindC;exact ug (i:=i) (Pl.mp nd).2 (by simpa using h1) (by simpa using h2) hk
def start (N:List Str) (vs:List V):St:=vs.map some++List.replicate (N.length - vs.length) none
def xA (CX:CXT) (P:Program) (w:World) (K:PySem.W.Frag) (mg:Str->Option Value) (base:Heap) (N:List Str) (qual:Str) (scope:Scope) (f:Addr) (cd:Value) (A:Around) (outer:List Env) (s:Shared) (H:Hp) (E:XK):Cx where
 prog:=P
 w:=w
 K:=K
 mg:=mg
 base:=base
 A:=A.deeper (envOfC qual scope s.heap.objs.size f cd)
 N:=N
 s₀:=s
 H₀:=H
 env:=envOfC qual scope s.heap.objs.size f cd
 outer:=outer
 stack:=envOfC qual scope s.heap.objs.size f cd::outer
 ex:=[]
 calm:=true
 fn:=λ_=>true
 pn:=[]
 xe:=λe s'=>wpAny (model P w) (A.deeper (envOfC qual scope s.heap.objs.size f cd)) (leaving (envOfC qual scope s.heap.objs.size f cd) e) (λ_ s''=>CX outer H s E e s'') (λe' s''=>CX outer H s E e' s'') s'
theorem x8 {sc:Scope}{n:Nat}{x:Str} (h:sc.names.lookup x=some .cell):∃ c,(cellsFrom n sc.names []).lookup x=some c:=by
 have q:=PySem.W.cellsFrom_some sc.names n [] (.inl h);exact Option.isSome_iff_exists.mp q
theorem BD {CX:CXT}{P:Program}{w:World}{K:PySem.W.Frag}{mg:Str->Option Value}{base:Heap}{N ps:List Str}{qual:Str}{scope:Scope}{f:Addr}{cd:Value}{A:Around}{outer:List Env}{s s1:Shared}{H:Hp}{E:XK}{us:List Value}{vs:List V}
  (S:aE N ps scope) (hd:A.handled=none) (e0:yu P w K mg base A outer s H) (hl:vs.length=ps.length) (r:aY vs us)
  (x:InCallC s s.heap.objs.size (bindL (envOfC qual scope s.heap.objs.size f cd).kindOf (ps.zip us) λ_=>none) (cellsFrom (s.heap.objs.size+1) scope.names []) (bindC (envOfC qual scope s.heap.objs.size f cd).kindOf (ps.zip us) λ_=>none) s1) :
  Inv (xA CX P w K mg base N qual scope f cd A outer s H E) [] (start N vs) H s1:=by
 have hpl:ps.length<=N.length:=by have:=congrArg List.length S.pre;rw [NR] at this;lia
 obtain ⟨h1,tk,rfl,hk⟩:=x.done;have noA:∀ b:Addr,b∉(xA CX P w K mg base N qual scope f cd A outer s H E).ex:=λb z=>absurd (show b∈([]:List Addr) from z) (by simp);refine ⟨⟨e0.mod,S.kind,rfl,rfl,NH _,λy z c h1 h2=>?_,λy hy=>?_,λy c _ h=>?_,λ_=>hd,Around.frames_deeper e0.frames,.inr ⟨rfl,rfl⟩,λb z=>absurd z (noA b),e0.bs,e0.bsz,λb _ _=>noA b,λb z=>absurd z (noA b),e0.oB,e0.frf⟩,
  rfl,e0.bare,Un.kept hk,⟨_,x.toInCall.ns,λi y v h1 h2 h3=>?_⟩,λy c h=>⟨_,x.cell y c h⟩,e0.hok.fresh (NH _),λy c h=>?_,λp hp=>absurd (show p∈([]:List (Addr×Obj)) from hp) (by simp),e0.hok.kept hk,?_⟩
 ·exact name_of_addr x.apart (PySem.mem_of_lookup h1) (PySem.mem_of_lookup h2)
 ·have hy:scope.names.lookup y=some .cell\/scope.names.lookup y=some .free:=hy;rcases hy with hy | hy
  ·exact x8 hy
  ·exact absurd rfl (S.Hv _ (PySem.mem_of_lookup hy))
 ·exact O9 (x.above y c (PySem.mem_of_lookup h))
 ·have hi:i<vs.length:=by
   unfold start at h2;by_cases hi:i<vs.length
   ·exact hi
   ·rw [O5 (by simpa using hi)] at h2;rw [List.getElem?_replicate] at h2
    split at h2 <;> cases h2
  have ha:vs[i]? = some v:=by
   unfold start at h2;rw [O7 (by simpa using hi),NK] at h2;cases e:vs[i]? with
   | none=>rw [e] at h2;cases h2
   | some a=>rw [e] at h2;cases h2;rfl
  obtain ⟨u,hu,rv⟩:=r.get ha;have hp:ps[i]? = some y:=by
   rw [<-S.pre,List.getElem?_take_of_lt (by lia)];exact h1
  have ndP:ps.Nodup:=by rw [<-S.pre];exact S.nd.sublist (List.take_sublist _ _)
  refine ⟨u,rv,?_⟩;rcases S.par y (NF hp) with k | k
  ·exact .inl ⟨k,uf ndP hp hu k⟩
  ·obtain ⟨c,e⟩:=x8 (n:=s.heap.objs.size+1) k;refine .inr ⟨.inl k,c,e,?_⟩;have q:=x.cell y c e;rw [ug ndP hp hu (by show scope.names.lookup y≠_;rw [k];decide)] at q;exact q
 ·exact e0.hok.fresh (O9 (x.above y c (PySem.mem_of_lookup h)))
 ·unfold start;show _=N.length;rw [NX,NE,List.length_replicate];lia
theorem B8 {CX:CXT}{P:Program}{w:World}{K:PySem.W.Frag}{mg:Str->Option Value}{base:Heap}{k:Nat}{f:Addr}{name qual:Str}{params:Arguments}{body:List Stmt}{scope:Scope}{dV kV doc pm cdv ct oc:Value}{an od:Option Addr}
  {osl:Array (Option Value)}{N ps:List Str}{sp:Sp} (lk:K.lookup f=some ⟨oc,od,.func (PySem.W.fnOf name qual params body scope dV kV doc pm an cdv ct),osl⟩) (hcd:PySem.W.codeIn K cdv qual=true) (S:aE N ps scope)
  (len:∀ vs H Q E,sp vs H Q E->vs.length=ps.length)
  (iW:∀ (A:Around) (outer:List Env) (s:Shared) (H:Hp) (vs:List V) (Q:VK) (E:XK),cn k (A.deeper (envOfC qual scope s.heap.objs.size f cdv))->sp vs H Q E ->
   ∃ t,PSs (xA CX P w K mg base N qual scope f cdv A outer s H E) body t/\t { nx:=λ_ H'=>Q .non H',rt:=Q } (start N vs) H) :
  aA P w K mg base CX (k+1) f (PySem.W.fnOf name qual params body scope dV kV doc pm an cdv ct) ps sp:=by
 refine ⟨len,λA outer s H args us vs Q E hr e0 hb r hsp=>?_⟩;have hl:=len _ _ _ _ hsp;have KX:K.In s.heap:=e0.mod.kin.keeps λb o e=>(e0.bs b o e).1;have lim:s.heap.NoLimit:=e0.mod.nolimit.keeps λb o e=>(e0.bs b o e).1;have Kn:∀ y∈ps.zip us,scope.names.lookup y.1=some .local\/(scope.names.lookup y.1=some .cell/\((cellsFrom (s.heap.objs.size+1) scope.names []).lookup y.1).isSome=true):=λ⟨n,v⟩ hy=>by
  rcases S.par n (List.of_mem_zip hy).1 with q | q
  ·exact .inl q
  ·exact .inr ⟨q,PySem.W.cellsFrom_some _ _ _ (.inl q)⟩
 refine codeAny_call_function hr.depth (KX _ _ lk) rfl S.co S.gen rfl (PySem.W.codeRec_of KX hcd) (hb _ _ _ _ ?_);refine wpAny_newFunctionEnv_cells S.kind Kn λenv he s1 x=>?_;subst he;refine ⟨lim.keeps x.toInCall.keep,codeAny_func ?_⟩;obtain ⟨t,ht,hq⟩:=iW A outer s H vs Q E (hr.deeper _) hsp;have I:Inv (xA CX P w K mg base N qual scope f cdv A outer s H E) [] (start N vs) H s1:=BD S hr.hd e0 hl r x;refine wpAny_mono (ht [] s1 (start N vs) H _ I hq) (λfl s' hs=>?_) λe s' hs=>hs;have fin:∀ {σ':St}{H':Hp}{v:V}{u:Value},Inv (xA CX P w K mg base N qual scope f cdv A outer s H E) [] σ' H' s'->RelV v u->Q v H'->CE outer P w H s Q u s':=
  λ{σ' H' v u} J rv q=>⟨v,H',J.os,J.bare,J.base,J.hok,rv,q⟩
 cases fl with
 | ret u=>
  obtain ⟨v,σ',H',J,rv,q⟩:=hs;exact fin J rv q
 | next=>
  obtain ⟨σ',H',J,q⟩:=hs;exact fin (v:=V.non) (u:=Value.none) J rfl q
 | brk=>
  obtain ⟨_,_,_,q⟩:=hs;exact False.elim q
 | cont=>
  obtain ⟨_,_,_,q⟩:=hs;exact False.elim q
section
variable {X:Cx}{x:Str}{p pos:Pos}{e:Expr}{es:List Expr}{t:TA}{id T:String}{r:List V->Hp->VK->Prop}
def tCB (r:List V->Hp->VK->Prop) (t:TA):TE:=λσ H Q=>t σ H λvs H1=>r vs H1 Q
theorem aI (hc:fZ X (.builtin id) r) (hg:Gl X x) (hm:X.mg x=none) (hv:bootBuiltins x=some (.builtin id)) (ha:PA X (e::es) t) (hn:x ≠ "__name__" :=by decide) (hdb:(x == ("__debug__" : Str))=false:=by decide)
  (he:starEach (e::es) X.env=(false,eval e X.env)::starEach es X.env:=by rfl) (hpl:(backTo pos (starEach es X.env)).any (·.1)=false:=by rfl):PE X (.Call (.Name x p) (e::es) [] pos) (tCB r t):=by
 intro pins s σ H Q I h;refine wpAny_Call_Name_kw (eR I hg hm hv ?_ hn hdb);exact PyProof.Rows.callWith_builtin1 (thn (ha pos pins s σ H _ I h) λus s1 ⟨vs,H1,I1,r1,q1⟩=>hc pins s1 σ H1 vs us Q I1 r1 q1) he hpl
theorem e9 (hc:fZ X (.type T) r) (hg:Gl X x) (hm:X.mg x=none) (hv:bootBuiltins x=some (.type T)) (ha:PA X (e::es) t) (hn:x ≠ "__name__" :=by decide) (hdb:(x == ("__debug__" : Str))=false:=by decide)
  (he:starEach (e::es) X.env=(false,eval e X.env)::starEach es X.env:=by rfl) (hpl:(backTo pos (starEach es X.env)).any (·.1)=false:=by rfl):PE X (.Call (.Name x p) (e::es) [] pos) (tCB r t):=by
 intro pins s σ H Q I h;refine wpAny_Call_Name_kw (eR I hg hm hv ?_ hn hdb);exact PyProof.Rows.callWith_type1 (thn (ha pos pins s σ H _ I h) λus s1 ⟨vs,H1,I1,r1,q1⟩=>hc pins s1 σ H1 vs us Q I1 r1 q1) he hpl
end
end L2
namespace HT
open PySem PyProof.Rows
theorem Dg (A:Around) (s:Shared) (a:Int) (t:Tok) (c:Int) (u:Tok) (prog:Program) (w:World) (E:Value->Shared->Prop) (Q:Value->Shared->Prop) (h:Q (.bool (decide (a<c))) s) :
  wpAny (model prog w) A (richCompare .Lt (.int a t) (.int c u)) Q E s:=
 (PyProof.Rows.lt_int h:wpAny (model prog w) A (compareOp .Lt (.int a t) (.int c u)) Q E s)
section
open PySem.SeqAt
open PySem.AutoSeq1 (wpAny_loadPart')
open PySem.MeetsSeq PySem.MeetsSeq2 PySem.MeetsSeq3
end
section
variable {prog:Program}{w:World}{A:Around}{E:Value->Shared->Prop}{s:Shared}
def sIx (n d:Nat):Option Int->Nat
 | none=>d
 | some v=>if v<0 then (v+(n:Int)).toNat else min v.toNat n
theorem FC (n d k:Nat):sIx n d (some (k:Int))=min k n:=by
 show (if (k:Int)<0 then ((k:Int)+(n:Int)).toNat else min (k:Int).toNat n)=min k n;rw [if_neg (by lia),OG]
end
end HT
namespace L2
open PySem PySem.Spec PyProof.Rows
abbrev TO:=St->Hp->(Option Int->Hp->Prop)->Prop
def PO (X:Cx) (e:Option Expr) (t:TO):Prop:=
 ∀ (pins:List (Addr×Obj)) (s:Shared) (σ:St) (H:Hp) (Q:Option Int->Hp->Prop),Inv X pins σ H s->t σ H Q ->
  wpAny (model X.prog X.w) X.A (evalPart e X.env) (λu s'=>∃ o H',Inv X pins σ H' s'/\IsPart u o/\Q o H') X.xe s
def FL:TO:=λ_ H Q=>Q none H
def KP (t:TE):TO:=λσ H Q=>t σ H λx H1=>∃ i,x = .int i/\Q (some i) H1
section
variable {X:Cx}{e:Expr}{te:TE}{lo hi:Option Expr}{tl th:TO}{pos p2:Pos}
theorem ip:PO X none FL:=by
 intro pins s σ H Q I h;rw [evalPart_none];exact wpAny_pure ⟨none,H,I,.none,h⟩
theorem ig (h:PE X e te):PO X (some e) (KP te):=by
 intro pins s σ H Q I hw;rw [evalPart_some];refine thn (h pins s σ H _ I hw) λu s1 ⟨x,H1,I1,r1,q1⟩=>?_;obtain ⟨i,rfl,q⟩:=q1;obtain ⟨t,rfl⟩:=r1;exact ⟨some i,H1,I1,.int i t,q⟩
def SlR (X:Cx) (r:V->Option Int->Option Int->Hp->VK->Prop):Prop:=
 ∀ (pins:List (Addr×Obj)) (s:Shared) (σ:St) (H:Hp) (x:V) (v vl vu:Value) (lo hi:Option Int) (sl:Addr) (Q:VK),Inv X pins σ H s->RelV x v->s.heap.IsSliceOf sl vl vu .none->IsPart vl lo->IsPart vu hi->r x lo hi H Q ->
  ∃ T id,typeLookup (.type T) "__getitem__" = pure (some (.builtin id))/\s.TypeIs v T/\wpAny (model X.prog X.w) X.A (getItem v (.ref sl)) (EP X pins σ Q) X.xe s
def tSl (r:V->Option Int->Option Int->Hp->VK->Prop) (te:TE) (tl th:TO):TE:=λσ H Q=>te σ H λx H1=>tl σ H1 λl H2=>th σ H2 λu H3=>r x l u H3 Q
theorem fC {r:V->Option Int->Option Int->Hp->VK->Prop} (hr:SlR X r) (he:PE X e te) (hl:PO X lo tl) (hu:PO X hi th):PE X (.Subscript e (.Slice lo hi none p2) pos) (tSl r te tl th):=by
 intro pins s σ H Q I h;refine Subscript_ (thn (he pins s σ H _ I h) λv s1 ⟨x,H1,I1,r1,q1⟩=>?_);refine wpAny_Slice (thn (hl pins s1 σ H1 _ I1 q1) λvl s2 ⟨l,H2,I2,pl,q2⟩=>thn (hu pins s2 σ H2 _ I2 q2) λvu s3 ⟨u,H3,I3,pu,q3⟩=>?_);rw [evalPart_none];refine wpAny_pure ?_;have I4:Inv X pins σ H3 { s3 with heap:=s3.heap.push { cls:=.type "slice",data:=.fields #[vl,vu,.none] } }:=I3.kept (t':=s3.toks) λb ob q=>Heap.get?_push_of_some _ q;obtain ⟨T,id,hT,ht,hg⟩:=hr pins { s3 with heap:=s3.heap.push { cls:=.type "slice",data:=.fields #[vl,vu,.none] } } σ H3 x v vl vu l u s3.heap.objs.size Q I4 r1 (Heap.IsSliceOf.new ..) pl pu q3;show wpAny (model X.prog X.w) X.A (subscriptTail e (.Slice lo hi none p2) v (.ref s3.heap.objs.size)) (EP X pins σ Q) X.xe { s3 with heap:=s3.heap.push { cls:=.type "slice",data:=.fields #[vl,vu,.none] } };exact tail_any (ops:=[.ref s3.heap.objs.size,v]) ht hT hg (by with_unfolding_all rfl)
def qH (xs:List V) (lo hi:Option Int):List V:=(xs.drop (HT.sIx xs.length 0 lo)).take (HT.sIx xs.length xs.length hi - HT.sIx xs.length 0 lo)
theorem xN (xs:List V) (lo hi:Option Int):(qH xs lo hi).length<=xs.length:=by
 unfold qH;rw [NR,List.length_drop];lia
end
def ixN (n:Nat) (i:Int):Option Nat:=if 0<=i then (if i<n then some i.toNat else none) else if -(n:Int)<=i then some (i+n).toNat else none
def atI {α:Type} (xs:List α) (i:Int):Option α:=(ixN xs.length i).bind λj=>xs[j]?
theorem Ab {n:Nat}{i:Int}{j:Nat} (h:ixN n i=some j):seqIndex? i n=some j/\j<n /\ -(n:Int)<=i/\i<n:=by
 unfold ixN at h;by_cases h0:0<=i
 ·rw [if_pos h0] at h;by_cases h1:i<n
  ·rw [if_pos h1] at h;have e:i.toNat=j:=Option.some.inj h;exact ⟨by rw [seqIndex_of h0 h1,e],by lia,by lia,h1⟩
  ·rw [if_neg h1] at h;cases h
 ·rw [if_neg h0] at h;by_cases h1 : -(n:Int)<=i
  ·rw [if_pos h1] at h;have e:(i+n).toNat=j:=Option.some.inj h;exact ⟨by rw [seqIndex_neg (by lia) h1,e],by lia,h1,by lia⟩
  ·rw [if_neg h1] at h;cases h
theorem uU {α:Type}{xs:List α}{i:Int}{v:α} (h:atI xs i=some v):∃ j,seqIndex? i xs.length=some j/\xs[j]? = some v/\j<xs.length /\ -(xs.length:Int)<=i/\i<xs.length:=by
 unfold atI at h;cases e:ixN xs.length i with
 | none=>rw [e] at h;cases h
 | some j=>
  rw [e] at h;obtain ⟨h1,h2,h3,h4⟩:=Ab e;exact ⟨j,h1,h,h2,h3,h4⟩
theorem bo {α:Type}{xs:List α}{j:Nat}{v:α} (h:xs[j]? = some v):atI xs (j:Int)=some v:=by
 have hj:j<xs.length:=(OD.mp h).1;have e:ixN xs.length (j:Int)=some j:=by
  unfold ixN;rw [if_pos (by lia),if_pos (by lia)];simp
 unfold atI;rw [e];exact h
def Fw (b:Expr):Prop:=∀ o i,subscripted b false o i=operate [o,i] (getItem o i)
def IxR (X:Cx) (r:R2):Prop:=
 ∀ (value slice:Expr) (pins:List (Addr×Obj)) (s:Shared) (σ:St) (H:Hp) (x y:V) (v u:Value) (Q:VK),Inv X pins σ H s->RelV x v->RelV y u->r x y H Q ->
  subscripted slice false v u=operate [v,u] (getItem v u)->wpAny (model X.prog X.w) X.A (subscriptTail value slice v u) (EP X pins σ Q) X.xe s
def MtR (X:Cx) (id:String) (r:V->List V->Hp->VK->Prop):Prop:=
 ∀ (pins:List (Addr×Obj)) (s:Shared) (σ:St) (H:Hp) (x:V) (xs:List V) (v:Value) (us:List Value) (Q:VK),Inv X pins σ H s->RelV x v->aY xs us->r x xs H Q ->
  wpAny (model X.prog X.w) X.A (call (.builtin id) (v::us)) (EP X pins σ Q) X.xe s
section
variable {X:Cx}{a b:Expr}{ta tb:TE}{pos:Pos}
theorem aR {r:R2} (hr:IxR X r) (ha:PE X a ta) (hb:PE X b tb) (hs:Fw b):PE X (.Subscript a b pos) (tOp r ta tb):=by
 intro pins s σ H Q I h;exact Subscript_ (Hm ha hb I h λv u s2 x y H2 I2 rx ry q=>hr a b pins s2 σ H2 x y v u Q I2 rx ry q (hs _ _))
def cE (K:PySem.W.Frag):R2:=λx y H Q=>∃ p xs i v,x = .ref p/\y = .int i/\SqL K H p xs/\atI xs i=some v/\Q v H
def eL (K:PySem.W.Frag):R2:=λx y H Q=>∃ p xs i v,x = .ref p/\y = .int i/\SqT K H p xs/\atI xs i=some v/\Q v H
def MH:R2:=λx y H Q=>∃ z i c,x = .str z/\y = .int i/\z.length<=sizeLine/\atI z.cps.toList i=some c/\Q (.str ⟨#[c]⟩) H
theorem aT:IxR X (cE X.K):=by
 intro value slice pins s σ H x y v u Q I rx ry h hs;obtain ⟨p,xs,i,z,rfl,rfl,hq,he,q⟩:=h;cases rx;obtain ⟨t,rfl⟩:=ry;obtain ⟨its,r,pl,hz⟩:=I.list hq;obtain ⟨j,h1,h2,h3,h4,h5⟩:=uU he;obtain ⟨w,ew,rw'⟩:=r.get h2;have hl:=r.length;have hn:=oJ;have fin:EP X pins σ Q w s:=⟨z,H,I,rw',q⟩;by_cases h0:0<=i
 ·have hj:i.toNat=j:=by
   rw [seqIndex_of h0 h5] at h1;exact Option.some.inj h1
  exact item_listR pl.isList h0 (by lia) (by rw [hj];simpa using ew) fin hs
 ·have hj:(i+(its.toArray.size:Int)).toNat=j:=by
   rw [seqIndex_neg (by lia) h4] at h1;rw [NO,<-hl];exact Option.some.inj h1
  exact subscriptTail_builtinR (x:=w) pl.isList.typeIs slot_list_getitem.lookup
   (wpAny_getItem_list_neg (Q:=λr s'=>r=w/\EP X pins σ Q r s') pl.isList (by lia) (by rw [NO] <;> lia) (by lia) (by rw [hj];simpa using ew) ⟨rfl,fin⟩) hs
theorem bH:IxR X (eL X.K):=by
 intro value slice pins s σ H x y v u Q I rx ry h hs;obtain ⟨p,xs,i,z,rfl,rfl,hq,he,q⟩:=h;cases rx;obtain ⟨t,rfl⟩:=ry;obtain ⟨its,r,pl,hz⟩:=I.tuple hq;obtain ⟨j,h1,h2,h3,h4,h5⟩:=uU he;obtain ⟨w,ew,rw'⟩:=r.get h2;have hl:=r.length;have hn:=oJ;have fin:EP X pins σ Q w s:=⟨z,H,I,rw',q⟩;exact subscriptTail_builtinR (x:=w) pl.typeIs slot_tuple_getitem.lookup
  (getItem_tuple (j:=j) (Q:=λr s'=>r=w/\EP X pins σ Q r s') pl (by lia) (by lia) (by rw [NO,<-hl];exact h1) (by simpa using ew) ⟨rfl,fin⟩) hs
theorem Ie:IxR X MH:=by
 intro value slice pins s σ H x y v u Q I rx ry h hs;obtain ⟨z,i,c,rfl,rfl,hz,he,q⟩:=h;obtain ⟨t,rfl⟩:=rx;obtain ⟨t',rfl⟩:=ry;obtain ⟨j,h1,h2,h3,h4,h5⟩:=uU he;have hl:z.cps.toList.length=z.length:=by simp [Str.length]
 rw [hl] at h1 h4 h5;have hn:=oJ;exact tail_any (typeIs_str s z t) slot_str_getitem.lookup (getItem_str (c:=c) (by
  have e1:decide (i < -(2 ^ 63:Int))=false:=decide_eq_false (by lia);have e2:decide (i ≥ 2 ^ 63)=false:=decide_eq_false (by lia);rw [e1,e2,Bool.or_false]) (by rw [h1];simpa using h2) ⟨.str ⟨#[c]⟩,H,I.tok _,⟨_,rfl⟩,q⟩) hs
theorem y3 (its:List Value) (n j:Nat) (u:Value):Obj.mapSeq (·.setIfInBounds j u) { cls:=.type "list",data:=.seq its.toArray n }={ cls:=.type "list",data:=.seq (its.set j u).toArray n }:=by
 simp [Obj.mapSeq]
theorem Inv.lst {pins:List (Addr×Obj)}{σ:St}{H:Hp}{s:Shared}{p:Addr}{xs:List V} (I:Inv X pins σ H s) (h:H p=some (.lst xs)) :
  ∃ (its:List Value) (n:Nat),aY xs its/\s.heap.get? p=some { cls:=.type "list",data:=.seq its.toArray n }/\xs.length<=sizeLine:=by
 obtain ⟨z,its,n,r,e⟩:=I.hok p _ h;exact ⟨its,n,r,e,z⟩
theorem Inv.IB {pins:List (Addr×Obj)}{σ:St}{H:Hp}{s:Shared}{p:Addr}{xs ys:List V}{its oq:List Value}{n n':Nat}{f:Obj->Obj} (I:Inv X pins σ H s) (h:H p=some (.lst xs))
  (ho:s.heap.get? p=some { cls:=.type "list",data:=.seq its.toArray n }) (hf:f { cls:=.type "list",data:=.seq its.toArray n }={ cls:=.type "list",data:=.seq oq.toArray n' }) (r:aY ys oq) (hz:ys.length<=sizeLine) (t:Nat) :
  Inv X pins σ (upd H p (.lst ys)) { s with heap:=s.heap.update p f,toks:=t }:=by
 have e:(s.heap.update p f).get? p=some { cls:=.type "list",data:=.seq oq.toArray n' }:=by
  rw [Heap.get?_update_self f ho (by rw [hf] <;> rfl),hf]
 refine I.write (x:=p) (e:=p) (by rw [h];trivial) (.inl rfl) (λb u hb q=>(Heap.get?_update_other _ _ (Ne.symm hb)).trans q) ⟨_,e⟩ ?_;exact ⟨hz,oq,n',r,e⟩
def Kk:V->V->V->Hp->(Hp->Prop)->Prop:=λo i v H Q=>∃ p xs k j,o = .ref p/\i = .int k/\H p=some (.lst xs)/\ixN xs.length k=some j/\Q (upd H p (.lst (xs.set j v)))
theorem set_list:K9 X Kk:=by
 intro pins s σ H o i v ov iv u Q I ro ri rv h;obtain ⟨p,xs,k,j,rfl,rfl,hp,hj,q⟩:=h;cases ro;obtain ⟨t,rfl⟩:=ri;obtain ⟨its,n,r,ho,hz⟩:=I.lst hp;obtain ⟨h1,h2,h3,h4⟩:=Ab hj;have hl:=r.length;have hn:=oJ;have I':Inv X pins σ (upd H p (.lst (xs.set j v))) { s with heap:=s.heap.update p (Obj.mapSeq (·.setIfInBounds j u)) }:=
  I.IB hp ho (y3 its n j u) (r.set rv j) (by rw [List.length_set];exact hz) s.toks
 by_cases h0:0<=k
 ·have hk:k.toNat=j:=by
   rw [seqIndex_of h0 h4] at h1;exact Option.some.inj h1
  exact PySem.W.ki_setAt ho h0 (by lia) (by rw [NO,<-hl];exact h4) (by rw [hk];exact ⟨_,I',q⟩)
 ·have hk:(k+(its.toArray.size:Int)).toNat=j:=by
   rw [seqIndex_neg (by lia) h3] at h1;rw [NO,<-hl];exact Option.some.inj h1
  exact PySem.W.ki_setBack ho (by lia) (by rw [NO,<-hl];exact h3) (by lia) (by rw [hk];exact ⟨_,I',q⟩)
theorem uI (lo hi:Option Int) (n:Nat):(sliceBounds lo hi none n).1=((HT.sIx n 0 lo:Nat):Int)/\(sliceBounds lo hi none n).2.1=((HT.sIx n n hi:Nat):Int)/\(sliceBounds lo hi none n).2.2=1:=by
 refine ⟨?_,?_,rfl⟩
 ·cases lo with
  | none=>simp [sliceBounds,HT.sIx]
  | some i=>
   simp only [sliceBounds,HT.sIx,Option.getD_none,show (1:Int) > 0 by decide,if_true];by_cases h:i<0
   ·simp only [h,if_true] <;> lia
   ·simp only [h,if_false] <;> lia
 ·cases hi with
  | none=>simp [sliceBounds,HT.sIx]
  | some i=>
   simp only [sliceBounds,HT.sIx,Option.getD_none,show (1:Int) > 0 by decide,if_true];by_cases h:i<0
   ·simp only [h,if_true] <;> lia
   ·simp only [h,if_false] <;> lia
theorem sY (its:List Value) (lo hi:Option Int):slicePick its.toArray lo hi none=((its.drop (HT.sIx its.length 0 lo)).take (HT.sIx its.length its.length hi - HT.sIx its.length 0 lo)).toArray:=by
 obtain ⟨h1,h2,h3⟩:=uI lo hi its.toArray.size;unfold slicePick;rw [h1,h2,h3];simp only [sliceRange_one,pick_run,NO] <;> rfl
def yB (K:PySem.W.Frag):V->Option Int->Option Int->Hp->VK->Prop:=λx lo hi H Q=>∃ a xs,x = .ref a/\SqL K H a xs/\∀ p,H p=none->Q (.ref p) (upd H p (.lst (qH xs lo hi)))
theorem lI:SlR X (yB X.K):=by
 intro pins s σ H x v vl vu lo hi sl Q I rx hs pl pu h;obtain ⟨a,xs,rfl,hx,q⟩:=h;cases rx;obtain ⟨its,r,ht,hz⟩:=I.list hx;have hlen:=r.length;refine ⟨"list",_,slot_list_getitem.lookup,ht.isList.typeIs,?_⟩;refine wpAny_getItem_list_slice ht.isList hs pl pu .none (by simp) ?_ (by rw [NO] <;> lia);rw [sY,<-hlen];refine ⟨.ref s.heap.objs.size,_,I.laid (t':=s.toks) (o:=.lst (qH xs lo hi)) (λb ob q=>Heap.get?_push_of_some _ q) (NH _) ?_,rfl,q _ (I.hok.fresh (NH _))⟩;exact ⟨NM (xN xs lo hi) hz,_,0,(r.drop (HT.sIx xs.length 0 lo)).take (HT.sIx xs.length xs.length hi - HT.sIx xs.length 0 lo),Heap.get?_push_size _ rfl⟩
def fX:V->Bool
 | .non=>true
 | .bl _=>true
 | .int _=>true
 | .str _=>true
 | _=>false
def eqV:V->V->Bool
 | .non,.non=>true
 | .bl a,.bl b=>a == b
 | .bl a,.int b=>(if a then 1 else 0) == b
 | .int a,.bl b=>a == (if b then 1 else 0)
 | .int a,.int b=>a == b
 | .str a,.str b=>a == b
 | _,_=>false
theorem CZ {A:Around}{s:Shared}{y x:V}{u v:Value} (ry:RelV y u) (rx:RelV x v) (fy:fX y=true) (fx:fX x=true):SeqAt.EqAt A s u v (eqV y x):=by
 cases y with
 | non=>
  cases ry;cases x with
  | non=>cases rx;exact SeqAt.EqAt.same _
  | bl b=>cases rx;exact SeqAt.EqAt.none_bool b
  | int b=>obtain ⟨t,rfl⟩:=rx;exact SeqAt.EqAt.none_int b t
  | str b=>obtain ⟨t,rfl⟩:=rx;exact SeqAt.EqAt.none_str b t
  | _=>exact absurd (show false=true from fx) NV
 | bl a=>
  cases ry;cases x with
  | non=>cases rx;exact SeqAt.EqAt.bool_none a
  | bl b=>cases rx;exact SeqAt.EqAt.bool_bool a b
  | int b=>obtain ⟨t,rfl⟩:=rx;exact SeqAt.EqAt.bool_int a b t
  | str b=>obtain ⟨t,rfl⟩:=rx;exact SeqAt.EqAt.bool_str a b t
  | _=>exact absurd (show false=true from fx) NV
 | int a=>
  obtain ⟨t',rfl⟩:=ry;cases x with
  | non=>cases rx;exact SeqAt.EqAt.int_none a t'
  | bl b=>cases rx;exact SeqAt.EqAt.int_bool a t' b
  | int b=>obtain ⟨t,rfl⟩:=rx;exact SeqAt.EqAt.int_int a t' b t
  | str b=>obtain ⟨t,rfl⟩:=rx;exact SeqAt.EqAt.int_str a t' b t
  | _=>exact absurd (show false=true from fx) NV
 | str a=>
  obtain ⟨t',rfl⟩:=ry;cases x with
  | non=>cases rx;exact SeqAt.EqAt.str_none a t'
  | bl b=>cases rx;exact SeqAt.EqAt.str_bool a t' b
  | int b=>obtain ⟨t,rfl⟩:=rx;exact SeqAt.EqAt.str_int a t' b t
  | str b=>obtain ⟨t,rfl⟩:=rx;exact SeqAt.EqAt.str_str a t' b t
  | _=>exact absurd (show false=true from fx) NV
 | _=>exact absurd (show false=true from fy) NV
def eqU (x:V) (u:Value):Bool:=match u with
 | .none=>eqV .non x
 | .bool b=>eqV (.bl b) x
 | .int i _=>eqV (.int i) x
 | .str z _=>eqV (.str z) x
 | _=>false
theorem yg {x y:V}{u:Value} (r:RelV y u) (f:fX y=true):eqU x u=eqV y x:=by
 cases y with
 | non=>cases r;rfl
 | bl b=>cases r;rfl
 | int i=>obtain ⟨t,rfl⟩:=r;rfl
 | str z=>obtain ⟨t,rfl⟩:=r;rfl
 | _=>exact absurd (show false=true from f) NV
theorem uS {x:V}:∀ {xs:List V}{us:List Value},aY xs us->xs.all fX=true->us.any (eqU x)=xs.any λy=>eqV y x
 | _,_,.nil,_=>rfl
 | y::xs,u::us,.cons r t,f=>by
  rw [Py,Om] at f;rw [OP,OP,yg r f.1,uS t f.2]
theorem ny {A:Around}{s:Shared}{x:V}{v:Value} (rx:RelV x v) (fx:fX x=true):∀ {xs:List V}{us:List Value},aY xs us->xs.all fX=true->∀ u∈us,SeqAt.EqAt A s u v (eqU x u)
 | _,_,.nil,_=>λu hu=>by cases hu
 | y::xs,u::us,.cons r t,f=>λu' hu=>by
  rw [Py,Om] at f;rcases NZ.mp hu with rfl | hu
  ·rw [yg r f.1];exact CZ r rx f.1 fx
  ·exact ny rx fx t f.2 u' hu
def inV (x:V) (xs:List V):Bool:=xs.any λy=>eqV y x
def rIn (K:PySem.W.Frag) (neg:Bool):R2:=λx y H Q=>∃ p xs,y = .ref p/\(SqL K H p xs\/SqT K H p xs)/\fX x=true/\xs.all fX=true/\Q (.bl (if neg then !inV x xs else inV x xs)) H
theorem lF:OpR X (compareOp .In) (rIn X.K false):=by
 intro pins s σ H x y v u Q I rx ry h;obtain ⟨p,xs,rfl,hq,fx,fs,q⟩:=h;cases ry;rcases hq with hq | hq
 ·obtain ⟨its,r,pl,hz⟩:=I.list hq;refine SeqAt.in_listAt (eqU x) pl.isList (λw hw=>ny rx fx r fs w (by simpa using hw)) ⟨.bl _,H,I,rfl,?_⟩;rw [show its.toArray.any (eqU x)=its.any (eqU x) by simp,uS r fs];exact q
 ·obtain ⟨its,r,pl,hz⟩:=I.tuple hq;refine SeqAt.in_tupleAt (eqU x) pl (λw hw=>ny rx fx r fs w (by simpa using hw)) ⟨.bl _,H,I,rfl,?_⟩;rw [show its.toArray.any (eqU x)=its.any (eqU x) by simp,uS r fs];exact q
theorem uY:fZ X (.builtin "len") (λxs H Q=>∃ p ys,xs=[.ref p]/\(SqL X.K H p ys\/SqT X.K H p ys)/\Q (.int ys.length) H):=by
 intro pins s σ H xs us Q I r h;obtain ⟨p,ys,rfl,hq,q⟩:=h;obtain ⟨u,rfl,rx⟩:=vals1 r;cases rx;have hn:=oJ;rcases hq with hq | hq
 ·obtain ⟨its,r',pl,hz⟩:=I.list hq;have hlen:=r'.length;exact Calls.call_len_list pl.isList (by simp only [NO] <;> lia) ⟨.int ys.length,H,I.tok _,⟨s.toks+1,by rw [NO,hlen]⟩,q⟩
 ·obtain ⟨its,r',pl,hz⟩:=I.tuple hq;have hlen:=r'.length;exact len_tuple pl (by simp only [NO] <;> lia) ⟨.int ys.length,H,I.tok _,⟨s.toks+1,by rw [NO,hlen]⟩,q⟩
theorem gc:fZ X (.builtin "len") (λxs H Q=>∃ z,xs=[.str z]/\z.length<=sizeLine/\Q (.int z.length) H):=by
 intro pins s σ H xs us Q I r h;obtain ⟨z,rfl,hz,q⟩:=h;obtain ⟨u,rfl,t,rfl⟩:=vals1 r;have hn:=oJ;exact len_str (by lia) ⟨.int z.length,H,I.tok _,⟨_,rfl⟩,q⟩
theorem vF:fZ X (.type "list") (λxs H Q=>∃ p ys,xs=[.ref p]/\(SqL X.K H p ys\/SqT X.K H p ys)/\∀ l,H l=none->Q (.ref l) (upd H l (.lst ys))):=by
 intro pins s σ H xs us Q I r h;obtain ⟨p,ys,rfl,hq,q⟩:=h;obtain ⟨u,rfl,rx⟩:=vals1 r;cases rx;have fin:∀ (its:List Value),aY ys its->ys.length<=sizeLine->∀ (h':Heap) (c':Nat),(∀ b o',s.heap.get? b=some o'->h'.get? b=some o') ->
   h'.get? s.heap.objs.size=some { cls:=.type "list",dict:=none,data:=.seq its.toArray c',slots:=#[] }->EP X pins σ Q (.ref s.heap.objs.size) { s with heap:=h' }:=λits r' hz h' c' kp e=>
  ⟨.ref s.heap.objs.size,_,I.laid (t':=s.toks) kp (NH _) (show b8 X.prog X.w _ h' _ (.lst ys) from ⟨hz,its,c',r',e⟩),rfl,q _ (I.hok.fresh (NH _))⟩
 rcases hq with hq | hq
 ·obtain ⟨its,r',pl,hz⟩:=I.list hq;have hlen:=r'.length;obtain ⟨o,ho,hc,n,hd⟩:=pl.isList;exact call_list_seq p (.inl rfl) ho hc hd (λh' c' kp e=>fin its r' hz h' c' kp e) (by simp only [NO] <;> lia)
 ·obtain ⟨its,r',pl,hz⟩:=I.tuple hq;have hlen:=r'.length;obtain ⟨o,ho,hc,n,hd⟩:=pl;exact call_list_seq p (.inr rfl) ho hc hd (λh' c' kp e=>fin its r' hz h' c' kp e) (by simp only [NO] <;> lia)
def tyV (K:PySem.W.Frag) (T:String) (x:V) (H:Hp):Prop:=match x with
 | .str _=>T = "str"
 | .int _=>T = "int"
 | .ref p=>(T = "list" /\ ∃ xs,SqL K H p xs)\/(T = "tuple" /\ ∃ o,K.lookup p=some o/\o.cls = .type "tuple" /\ o.dict=none) \/
   (T = "dict" /\ ((∃ kvs,H p=some (.dK kvs))\/∃ kvs,H p=some (.dT kvs)))\/(T = "set" /\ ∃ S n,H p=some (.set S n))
 | _=>False
theorem HP {pins:List (Addr×Obj)}{σ:St}{H:Hp}{s:Shared}{T:String}{x:V}{v:Value} (I:Inv X pins σ H s) (r:RelV x v) (ty:tyV X.K T x H) :
  s.TypeIs v T/\∀ a,v = .ref a->∃ ob,s.heap.get? a=some ob/\ob.dict=none:=by
 cases x with
 | str z=>
  obtain ⟨t,rfl⟩:=r;cases (show T = "str" from ty);exact ⟨typeIs_str s z t,λ_ e=>nomatch e⟩
 | int i=>
  obtain ⟨t,rfl⟩:=r;cases (show T = "int" from ty);exact ⟨typeIs_int s i t,λ_ e=>nomatch e⟩
 | ref p=>
  cases r;rcases ty with ⟨rfl,xs,hq⟩ | ⟨rfl,o,hk,hc,hd⟩ | ⟨rfl,hk⟩ | ⟨rfl,S,n,hk⟩
  ·obtain ⟨its,_,pl,_⟩:=I.list hq;refine ⟨pl.isList.typeIs,λa e=>?_⟩;cases e;obtain ⟨o,n,e,c,hd,_⟩:=pl;exact ⟨o,e,hd⟩
  ·refine ⟨⟨o,I.kIn p o hk,hc⟩,λa e=>?_⟩;cases e;exact ⟨o,I.kIn _ o hk,hd⟩
  ·have z:∃ o,s.heap.get? p=some o/\o.ExactDict:=by
    rcases hk with ⟨kvs,hk⟩ | ⟨kvs,hk⟩
    ·obtain ⟨_,_,_,_,o,_,_,e,ex,_⟩:=I.hok p _ hk;exact ⟨o,e,ex⟩
    ·obtain ⟨_,_,_,_,o,_,_,e,ex,_⟩:=I.hok p _ hk;exact ⟨o,e,ex⟩
   obtain ⟨o,e,ex⟩:=z;refine ⟨⟨o,e,ex.1⟩,λa e2=>?_⟩;cases e2;exact ⟨o,e,ex.2.1⟩
  ·obtain ⟨o,_,_,_,e,ex,_⟩:=I.hok p _ hk;refine ⟨⟨o,e,ex.1⟩,λa e2=>?_⟩;cases e2;exact ⟨o,e,ex.2.1⟩
 | _=>exact False.elim ty
def tBM (K:PySem.W.Frag) (T:String) (r:V->List V->Hp->VK->Prop) (to:TE) (t:TA):TE:=λσ H Q=>to σ H λx H1=>tyV K T x H1/\t σ H1 λxs H2=>r x xs H2 Q
variable {o e:Expr}{es:List Expr}{to:TE}{t:TA}{name:Str}{apos dv:Pos}{T id:String}{r:V->List V->Hp->VK->Prop}
theorem b6 (pa:PlainAttrs T) (slot:Slot T name id) (hty:typeOf (.builtin id)=pure (.type "method_descriptor")) (hm:MtR X id r) (ho:PE X o to) (ha:PA X (e::es) t)
  (xC:attributeBase o name X.env (eval o X.env)=eval o X.env:=by rfl)
  (IL:((backTo dv (starEach (e::es) X.env)).all (λx=>!x.1) && (backToKw dv (keywordEach [] X.env)).all (λx=>x.1.isSome)
   && decide ((e::es).length+([]:List Keyword).length+(if ([]:List Keyword).isEmpty then 0 else 1)<30))=true:=by rfl)
  (wK:(apos.endLine == dv.line)=true:=by rfl) (hs:starEach (e::es) X.env=(false,eval e X.env)::starEach es X.env:=by rfl) (jG:(backTo dv (starEach es X.env)).any (·.1)=false:=by rfl) :
  PE X (.Call (.Attribute o name apos) (e::es) [] dv) (tBM X.K T r to t):=by
 intro pins s σ H Q I h;refine wpAny_Call_method_late xC IL wK rfl (thn (ho pins s σ H _ I h) λv s1 ⟨x,H1,I1,r1,ty,q1⟩=>?_);obtain ⟨h1,h2⟩:=HP I1 r1 ty;refine ⟨T,id,pa,slot,hty,h1,h2,?_⟩;have hA:=ha dv pins s1 σ H1 _ I1 q1;rw [hs] at hA ⊢;refine Calls.callWith_builtin (by show (false || (backTo dv (starEach es X.env)).any (·.1))=false;rw [jG] <;> rfl) (Calls.evalArgs_plain ?_)
 exact thn hA λus s2 ⟨vs,H2,I2,r2,q2⟩=>hm pins s2 σ H2 x vs v us Q I2 r1 r2 q2
end
def MtM (X:Cx) (id:String) (r:V->List V->Hp->VK->Prop):Prop:=
 ∀ (pins:List (Addr×Obj)) (s:Shared) (σ:St) (H:Hp) (x:V) (xs:List V) (v:Value) (us:List Value) (Q:VK),Inv X pins σ H s->RelV x v->aY xs us->r x xs H Q ->
  wpAny (model X.prog X.w) X.A (call (.builtin id) (v::us)) (EP X pins σ Q) X.xe s
theorem aY.one:∀ {x:V}{us:List Value},aY [x] us->∃ u,us=[u]/\RelV x u
 | _,_,.cons r .nil=>⟨_,rfl,r⟩
theorem aY.reverse {xs:List V}{us:List Value} (h:aY xs us):aY xs.reverse us.reverse:=by
 induction h with
 | nil=>exact .nil
 | cons r t ih=>rw [List.reverse_cons,List.reverse_cons];exact aY.append ih (.cons r .nil)
section
variable {X:Cx}{pins:List (Addr×Obj)}{σ:St}{H:Hp}{s:Shared}{l b:Addr}{xs ys zs:List V}
theorem Inv.ID {its oq:List Value}{n:Nat}{f:Array Value->Array Value}{t':Nat} (I:Inv X pins σ H s) (hH:H l=some (.lst xs))
  (e:s.heap.get? l=some { cls:=.type "list",data:=.seq its.toArray n }) (hf:f its.toArray=oq.toArray) (hv:aY ys oq) (hz:ys.length<=sizeLine) :
  Inv X pins σ (upd H l (.lst ys)) { s with heap:=s.heap.update l (Obj.mapSeq f),toks:=t' }:=by
 have q:=PySem.IsL.update e f;rw [hf] at q;refine I.write (x:=l) (e:=l) (by rw [hH];exact trivial) (.inl rfl) (λb' u hb hu=>(Heap.get?_update_other s.heap (Obj.mapSeq f) (Ne.symm hb)).trans hu) ⟨_,q⟩ ?_;exact ⟨hz,oq,_,hv,q⟩
theorem Inv.LZ {its:List Value}{t':Nat} (I:Inv X pins σ H s) (hv:aY ys its) (hz:ys.length<=sizeLine) :
  Inv X pins σ (upd H s.heap.objs.size (.lst ys)) { s with heap:=s.heap.push { cls:=.type "list",data:=.seq its.toArray },toks:=t' }:=
 I.laid (λ_ _ q=>Heap.get?_push_of_some _ q) (NH _) ⟨hz,its,0,hv,Heap.get?_push_size _ rfl⟩
theorem Inv.fresh (I:Inv X pins σ H s):H s.heap.objs.size=none:=I.hok.fresh (NH _)
theorem Inv.Ge (I:Inv X pins σ H s) (hH:H l=some (.lst xs)):xs.length<=sizeLine/\∃ (its:List Value) (n:Nat),aY xs its/\xs.length=its.length/\s.heap.get? l=some { cls:=.type "list",data:=.seq its.toArray n }:=by
 obtain ⟨z,its,n,r,e⟩:=I.hok l _ hH;exact ⟨z,its,n,r,r.length,e⟩
theorem CQ {n:Nat} (h:n<=sizeLine):Builtin.List.listTooLong n=false:=by
 unfold Builtin.List.listTooLong;exact decide_eq_false (by lia)
end
section
variable {X:Cx}
def F4:V->List V->Hp->VK->Prop:=λx vs H Q=>∃ l xs y,x = .ref l/\vs=[y]/\H l=some (.lst xs)/\xs.length<sizeLine/\Q .non (upd H l (.lst (xs++[y])))
theorem bG:MtM X "list.append" F4:=by
 intro pins s σ H x vs v us Q I rx rv h;obtain ⟨l,xs,y,rfl,rfl,hH,hz,q⟩:=h;cases rx;obtain ⟨u,rfl,ru⟩:=rv.one;obtain ⟨z,its,n,r,hl,e⟩:=I.Ge hH;refine call_meets F.slot_list_append ⟨_,e,rfl⟩ F.entry_list_append (F.args_list_append_2 _ _) (PySem.list_append l its.toArray n u (by rw [NO];lia)) ⟨e,?_⟩;refine ⟨.non,_,I.ID (oq:=its++[u]) hH e (by simp) (r.append (.cons ru .nil)) ?_,rfl,q⟩;rw [NX,OF];lia
def Ez:V->List V->Hp->VK->Prop:=λx vs H Q=>∃ l b xs zs,x = .ref l/\vs=[.ref b]/\H l=some (.lst xs)/\H b=some (.lst zs)/\xs.length+zs.length<=sizeLine/\Q .non (upd H l (.lst (xs++zs)))
theorem tR:MtM X "list.extend" Ez:=by
 intro pins s σ H x vs v us Q I rx rv h;obtain ⟨l,b,xs,zs,rfl,rfl,hH,hB,hz,q⟩:=h;cases rx;obtain ⟨u,rfl,ru⟩:=rv.one;cases ru;obtain ⟨z,its,n,r,hl,e⟩:=I.Ge hH;obtain ⟨z2,gX,n2,r2,hl2,e2⟩:=I.Ge hB;have hsz:its.toArray.size+gX.toArray.size<=sizeLine:=by rw [NO,NO];lia
 have JE:¬ (!its.toArray.isEmpty && Builtin.List.listTooLong (its.toArray.size+gX.toArray.size))=true:=by
  rw [CQ hsz,Bool.and_false];exact NV
 refine call_meets F.slot_list_extend ⟨_,e,rfl⟩ F.entry_list_extend (F.args_list_extend_2 _ _)
  (AutoSeq1.list_extend_list_list_0 l its.toArray n b gX.toArray n2 JE (by rw [NO];lia) (by lia)) ⟨e,e2,?_⟩
 refine ⟨.non,_,I.ID (oq:=its++gX) hH e (by simp) (r.append r2) ?_,rfl,q⟩;rw [NX];lia
end
section
variable {prog:Program}{w:World}{A:Around}{E:Value->Shared->Prop}{s:Shared}
end
section
variable {X:Cx}
end
end L2
namespace Att
open PySem PySem.W PySem.Calls PyProof.Rows
theorem pJ {P:Params}{h:Heap}:∀ (ns:List Int) (vs:List Value),WellAll P h vs (ns.map WData.int)->IntsAre vs ns:=by
 intro ns
 induction ns with
 | nil=>
  intro vs w;rw [OU] at w;cases w;exact .nil
 | cons n ns ih=>
  intro vs w;rw [N1] at w;cases w with
  | cons a b=>
   cases a;exact .cons _ _ (ih _ b)
theorem A5 {l:OpenLaw}{n:Nat} (hn:l.most=some n) {P:Params}{h:Heap}{args:List WData}{vals:List Value}
  (Bj:l.row.toRowW.claim.pre args=true) (hwl:WellAll P h vals args) :
  ∃ a vs ns,vals=[Value.ref a]/\args=[WData.list (ns.map WData.int)]/\h.get? a=some { cls:=.type "list",data:=.seq vs.toArray }/\IntsAre vs ns/\ns.length<=n:=by
 have hsh:WShape.hasAll [] args [.list .int]=true:=(pre_splitW Bj).1;have hc:l.pre.holds [] { args:=args }=true:=(pre_splitW Bj).2;obtain ⟨d,r,rfl,h1,h2⟩:=hasAllW_cons hsh;obtain rfl:=hasAllW_nil h2;obtain ⟨xs,rfl,h3⟩:=hasW_list h1;obtain ⟨ns,rfl⟩:=items_int h3;have hlen:ns.length<=n:=by
  unfold OpenLaw.pre at hc;have h4:(WTm.not (.lt (.lit (.int (n:Int))) (.len (.arg 0)))).holds [] { args:=[.list (ns.map .int)] }=true:=by
   have h4:=(holds_andW hc).1;rw [hn] at h4;exact h4
  have h5:=condW_of h4 (w_not (w_lt w_lit (w_len_list (w_arg rfl))));rw [NE] at h5;refine Nat.le_of_not_lt λq=>?_;have q':(n:Int)<((ns.length:Nat):Int):=by lia
  first
   | (rw [decide_eq_true q'] at h5;exact absurd h5 (by decide))
   | (simp at h5;lia)
 cases hwl with
 | cons w1 w2=>
  cases w2;cases w1 with
  | list ho fU=>exact ⟨_,_,ns,rfl,rfl,ho,pJ ns _ fU,hlen⟩
theorem AD (l:OpenLaw) (args:List WData):l.row.toRowW.claim.post args (.bool true) args=true:=
 postW_of (r:=l.row.toRowW) (X:=(true == true))
  (show WShape.has [] (.bool true) .bool=true by first | rfl | decide | simp [WShape.has,WShape.arms,WShape.armsAll])
  (show (WTm.eq .res (.lit (.bool true))).value [] { args:=args,res:=some (.bool true),after:=args }=some (.bool (true == true)) from w_eq_bool (w_res rfl) w_lit) rfl
theorem xj {l:OpenLaw}{n:Nat}{q:Program}{loose:List Str}{XP:(Str->Option Value)->Heap->Prop}{YP:World->Heap->Prop}{d:DefRec}
  (hn:l.most=some n) (hdf:d.params.defaults=[])
  (call:∀ (w:World) (s₀ s₁:Shared) (mg mb:Str->Option Value) (fa:Addr) (o:Obj) (pm cd doc:Value) (a:Addr) (vs:List Value) (ns:List Int),
   Ground q loose [] XP w s₀ mg mb s₁.heap->YP w s₁.heap ->
   s₁.heap.get? fa=some o->o.data = .func (docDef d.name d.params d.body d.scope pm cd doc)->s₁.heap.CodeRec cd d.name->mg d.name=some (.ref fa) ->
   s₁.heap.get? a=some { cls:=.type "list",data:=.seq vs.toArray }->IntsAre vs ns->ns.length<=n->s₁.gens = #[] ->
   codeAny (model l.prog w) callerA (.call (.ref fa) ⟨[.ref a],[]⟩) (λr s'=>r = .ok (.ret (.bool true))/\OldK s₁.heap s'.heap/\s'.os=s₁.os/\AllBare s'.gens) s₁) :
  WalkO q loose XP YP l.row.toRowW d [] (λf vs=>PySem.call f vs):=by
 intro w s₀ s₁ mg mb G Y fa o pm cd doc dV kV ho hd hcd hD hmg hg args vals as Bj Nv hrd hwl hlo;obtain rfl:dV = .none:=Dflts.none hD hdf;obtain rfl:kV = .none:=Dflts.noKw hD;obtain ⟨a,vs,ns,rfl,rfl,HA,CM,hlen⟩:=A5 hn Bj hwl;refine enter_call (codeAny_mono (call w s₀ s₁ mg mb fa o pm cd doc a vs ns G Y ho (fd_plain hd) hcd hmg HA CM hlen hg) λr s' hq=>?_);obtain ⟨rfl,h2,h3,h4⟩:=hq;exact ⟨.inl ⟨.bool true,.bool true,[],rfl,λ_=>rfl,.bool true,AD l _,λ_=>⟨List.Pairwise.nil,λ_ hm=>(nomatch hm)⟩⟩,h2,h3,h4⟩
section
variable {prog:Program}{w:World}{A:Around}{E:Value->Shared->Prop}{s:Shared}{K:Frag}
end
end Att
namespace L2
open PySem PySem.Spec PyProof.Rows
theorem um:∀ {vs:List Value}{ns:List Int},IntsAre vs ns->aY (ns.map V.int) vs
 | _,_,.nil=>.nil
 | _,_,.cons n t h=>.cons ⟨t,rfl⟩ (um h)
abbrev CX0:CXT:=λ_ _ _ _ _ _=>False
abbrev E0:XK:=λ_ _ _=>False
theorem aC {X:Cx}:yQ CX0 X E0:=λ_ _ _ _ _ _ _ h=>h.elim
structure Fun (K:PySem.W.Frag) (x qual:Str) (st:Stmt) (f:Addr) (fd:FuncData):Prop where
 ex:∃ (oc:Value) (od:Option Addr) (kV doc pm:Value) (an:Option Addr) (cdv ct:Value) (osl:Array (Option Value)),
  fd=PySem.W.fnOf x qual (d8 st) (c5 st) (ah st) .none kV doc pm an cdv ct/\K.lookup f=some ⟨oc,od,.func fd,osl⟩/\PySem.W.codeIn K cdv qual=true
 kp:PySem.W.keepIn K (.ref f)=true
section
variable {P:Program}{w:World}{K:PySem.W.Frag}{mg:Str->Option Value}{base:Heap}
theorem Fun.ok {x qual:Str}{st:Stmt}{f:Addr}{fd:FuncData}{N ps:List Str}{k:Nat}{sp:Sp} (F:Fun K x qual st f fd) (S:aE N ps (ah st)) (len:∀ vs H Q E,sp vs H Q E->vs.length=ps.length)
  (iW:∀ (cdv:Value) (A:Around) (outer:List Env) (s:Shared) (H:Hp) (vs:List V) (Q:VK) (E:XK),cn k (A.deeper (envOfC qual (ah st) s.heap.objs.size f cdv))->sp vs H Q E ->
   ∃ t,PSs (xA CX0 P w K mg base N qual (ah st) f cdv A outer s H E).nox (c5 st) t/\t { nx:=λ_ H'=>Q .non H',rt:=Q } (start N vs) H):aA P w K mg base CX0 (k+1) f fd ps sp:=by
 obtain ⟨oc,od,kV,doc,pm,an,cdv,ct,osl,rfl,lk,hcd⟩:=F.ex;refine B8 lk hcd S len λA outer s H vs Q E hr hsp=>?_;obtain ⟨t,h,q⟩:=iW cdv A outer s H vs Q E hr hsp;exact ⟨t,h.nox,q⟩
theorem Fun.binds {x qual:Str}{st:Stmt}{f:Addr}{fd:FuncData}{ps:List Str} (F:Fun K x qual st f fd)
  (h:∀ (kV doc pm:Value) (an:Option Addr) (cdv ct:Value) (us:List Value),us.length=ps.length->bindArgs (PySem.W.fnOf x qual (d8 st) (c5 st) (ah st) .none kV doc pm an cdv ct) ⟨us,[]⟩=pure (ps.zip us)):Binds K fd ps []:=by
 obtain ⟨oc,od,kV,doc,pm,an,cdv,ct,osl,rfl,lk,hcd⟩:=F.ex;exact .all (h kV doc pm an cdv ct)
theorem DL {x qual:Str}{st:Stmt}{f:Addr}{oc:Value}{od an:Option Addr}{osl:Array (Option Value)}{kV doc pm cdv ct:Value} (l:K.lookup f=some ⟨oc,od,.func (PySem.W.fnOf x qual (d8 st) (c5 st) (ah st) .none kV doc pm an cdv ct),osl⟩)
  (c:PySem.W.codeIn K cdv qual=true) (k:PySem.W.keepIn K (.ref f)=true):Fun K x qual st f (PySem.W.fnOf x qual (d8 st) (c5 st) (ah st) .none kV doc pm an cdv ct):=⟨⟨oc,od,kV,doc,pm,an,cdv,ct,osl,rfl,l,c⟩,k⟩
end
theorem Ah {A:Around}{k:Nat} (hr:cn k A):A.units+1<cLine:=Ot (Nat.add_le_add_left (by decide:1<=64) _) hr.units
section
variable {X:Cx}
theorem pv (i:Nat) {x:Str}{pos:Pos} (hN:X.N[i]? = some x:=by rfl) (hv:Vis X.env.scope x:=by first | exact Or.inl rfl | exact Or.inr (Or.inl rfl) | exact Or.inr (Or.inr rfl)) (hd:(x == ("__debug__" : Str))=false:=by decide)
  (hcd:(x == ("__classdict__" : Str))=false:=by decide):PE X (.Name x pos) (pN i):=IZ hN hv hd hcd
end
theorem bf {A B:Prop} (h:B):if false=true then A else B:=by
 rw [if_neg NV];exact h
theorem bL {A B:Prop} (h:A):if true=true then A else B:=by
 rw [if_pos rfl];exact h
theorem xn {c A B:Prop} [Decidable c] (h1:c->A) (h2:¬ c->B):if c then A else B:=by
 by_cases h:c
 ·rw [if_pos h];exact h1 h
 ·rw [if_neg h];exact h2 h
def ae (H H':Hp):Prop:=∀ b o,H b=some o->H' b=some o
theorem ae.refl (H:Hp):ae H H:=λ_ _ h=>h
theorem ae.trans {H H1 H2:Hp} (a:ae H H1) (b:ae H1 H2):ae H H2:=λc o h=>b c o (a c o h)
theorem ae.free {H H':Hp} (e:ae H H') {l:Addr} (h:H' l=Option.none):H l=Option.none:=by
 cases q:H l with
 | none=>rfl
 | some o=>
  rw [e l o q] at h;cases h
theorem ae.seq {K:PySem.W.Frag}{H H':Hp}{a:Addr}{xs:List V} (e:ae H H') (h:SqL K H a xs):SqL K H' a xs:=by
 rcases h with (h | ⟨o,h⟩) | h
 ·exact .inl (.inl (e _ _ h))
 ·exact .inl (.inr ⟨o,e _ _ h⟩)
 ·exact .inr h
section
variable {κ:Type} [DecidableEq κ]
def dY (kvs:List (κ×V)) (k:κ):Option V:=(kvs.find? λkv=>decide (kv.1=k)).map (·.2)
def putK (kvs:List (κ×V)) (k:κ) (v:V):List (κ×V):=
 if (kvs.any λkv=>decide (kv.1=k))=true then kvs.map (λkv=>if kv.1=k then (kv.1,v) else kv) else kvs++[(k,v)]
theorem kF {p:κ×V}{r:List (κ×V)}{k:κ} (e:p.1=k):dY (p::r) k=some p.2:=by simp [dY,OW,e]
theorem qT {p:κ×V}{r:List (κ×V)}{k:κ} (e:¬ p.1=k):dY (p::r) k=dY r k:=by simp [dY,OW,e]
theorem wm (k:κ):∀ kvs:List (κ×V),(kvs.any λkv=>decide (kv.1=k))=(dY kvs k).isSome
 | []=>rfl
 | p::r=>by
  rw [OP];by_cases e:p.1=k
  ·simp only [kF e,decide_eq_true e,Bool.true_or,Option.isSome_some]
  ·rw [qT e,decide_eq_false e,Bool.false_or];exact wm k r
theorem ib (kvs:List (κ×V)) (k:κ) (v:V):(putK kvs k v).length<=kvs.length+1:=by
 unfold putK
 split
 ·rw [NE];lia
 ·rw [NX,N4,OK];lia
theorem mf.AE {o:Option V}{u:Option Value} (r:mf o u):o.isSome=u.isSome:=by
 cases o with
 | none=>cases u with
  | none=>rfl
  | some _=>exact (show False from r).elim
 | some _=>cases u with
  | none=>exact (show False from r).elim
  | some _=>rfl
theorem mf.getD {o:Option V}{u:Option Value}{d:V}{d':Value} (r:mf o u) (rd:RelV d d'):RelV (o.getD d) (u.getD d'):=by
 cases o with
 | none=>cases u with
  | none=>exact rd
  | some _=>exact (show False from r).elim
 | some _=>cases u with
  | none=>exact (show False from r).elim
  | some _=>exact r
theorem KV.val {kvs:List (κ×V)}{vs:List (κ×Value)} (r:KV kvs vs) (k:κ):mf (dY kvs k) (valueAt vs k):=by
 unfold KV at r
 induction r with
 | nil=>exact True.intro
 | @cons p q ps qs h t ih=>
  obtain ⟨h1,h2⟩:=h;by_cases e:p.1=k
  ·have e':q.1=k:=h1.symm.trans e;have b:valueAt (q::qs) k=some q.2:=by simp [valueAt,OW,e']
   rw [kF e,b];exact h2
  ·have e':¬ q.1=k:=λz=>e (h1.trans z);have b:valueAt (q::qs) k=valueAt qs k:=by simp [valueAt,OW,e']
   rw [qT e,b];exact ih
theorem KV.any {kvs:List (κ×V)}{vs:List (κ×Value)} (r:KV kvs vs) (k:κ):(kvs.any λkv=>decide (kv.1=k))=vs.any λkv=>decide (kv.1=k):=by
 unfold KV at r
 induction r with
 | nil=>rfl
 | cons h t ih=>rw [OP,OP,ih,h.1]
theorem KV.Ig {kvs:List (κ×V)}{vs:List (κ×Value)} (r:KV kvs vs) (k:κ) {y:V}{u:Value} (ry:RelV y u) :
  KV (kvs.map λkv=>if kv.1=k then (kv.1,y) else kv) (vs.map λkv=>if kv.1=k then (kv.1,u) else kv):=by
 unfold KV at r ⊢
 induction r with
 | nil=>exact .nil
 | @cons p q ps qs h t ih=>
  rw [N1,N1];refine .cons ?_ ih;obtain ⟨h1,h2⟩:=h;by_cases e:p.1=k
  ·rw [if_pos e,if_pos (h1.symm.trans e)];exact ⟨h1,ry⟩
  ·rw [if_neg e,if_neg (λz=>e (h1.trans z))];exact ⟨h1,h2⟩
theorem KV.put {kvs:List (κ×V)}{vs:List (κ×Value)} (r:KV kvs vs) (k:κ) {y:V}{u:Value} (ry:RelV y u):KV (putK kvs k y) (stored vs k u):=by
 unfold putK stored;rw [r.any k];by_cases e:(vs.any λkv=>decide (kv.1=k))=true
 ·rw [if_pos e,if_pos e];exact r.Ig k ry
 ·rw [if_neg e,if_neg e];exact Paired.snoc r ⟨rfl,ry⟩
theorem KV.keys {kvs:List (κ×V)}{vs:List (κ×Value)} (r:KV kvs vs):kvs.map (·.1)=vs.map (·.1):=by
 unfold KV at r
 induction r with
 | nil=>rfl
 | cons h t ih=>rw [N1,N1,ih,h.1]
theorem KV.length {kvs:List (κ×V)}{vs:List (κ×Value)} (r:KV kvs vs):kvs.length=vs.length:=Paired.length r
end
theorem uu {P:Program}{w:World}{k:Key}{u:Value} (r:RelV (kV k) u):(aW P w).is k u=true:=by
 cases k with
 | inl i=>obtain ⟨t,e⟩:=(show ∃ t,u=Value.int i t from r);subst e;exact vZ P w i t
 | inr x=>obtain ⟨t,e⟩:=(show ∃ t,u=Value.str x t from r);subst e;exact iu P w x t
theorem ul {P:Program}{w:World}:∀ {ks:List Key}{us:List Value},aY (ks.map kV) us->ItemsAre (aW P w) ks us
 | [],_,r=>by rw [OU] at r;cases r;exact .nil
 | k::ks,_,r=>by
  rw [N1] at r;cases r with
  | cons h t=>exact .cons (uu h) (ul t)
abbrev KT (H:Hp):List (List Key×V)->List (List Key×Addr×Value)->Prop:=Paired λp q=>p.1=q.1/\H q.2.1=some (.tup (p.1.map kV))/\RelV p.2 q.2.2
theorem KT.val {H:Hp}{kvs:List (List Key×V)}{xs:List (List Key×Addr×Value)} (r:KT H kvs xs) (k:List Key):mf (dY kvs k) ((atKey xs k).map (·.2)):=by
 induction r with
 | nil=>exact True.intro
 | @cons p q ps qs h t ih=>
  obtain ⟨h1,_,h2⟩:=h;by_cases e:p.1=k
  ·have e':q.1=k:=h1.symm.trans e;have b:atKey (q::qs) k=some q.2:=by simp [atKey,OW,e']
   rw [kF e,b];exact h2
  ·have e':¬ q.1=k:=λz=>e (h1.trans z);have b:atKey (q::qs) k=atKey qs k:=by simp [atKey,OW,e']
   rw [qT e,b];exact ih
theorem KT.Ig {H:Hp}{kvs:List (List Key×V)}{xs:List (List Key×Addr×Value)} (r:KT H kvs xs) (k:List Key) {y:V}{u:Value} (ry:RelV y u) :
  KT H (kvs.map λkv=>if kv.1=k then (kv.1,y) else kv) (xs.map (putAt k u)):=by
 induction r with
 | nil=>exact .nil
 | @cons p q ps qs h t ih=>
  rw [N1,N1];refine .cons ?_ ih;obtain ⟨h1,h2,h3⟩:=h;unfold putAt;by_cases e:p.1=k
  ·rw [if_pos e,if_pos (h1.symm.trans e)];exact ⟨h1,h2,ry⟩
  ·rw [if_neg e,if_neg (λz=>e (h1.trans z))];exact ⟨h1,h2,h3⟩
theorem KT.put {H:Hp}{kvs:List (List Key×V)}{xs:List (List Key×Addr×Value)} (r:KT H kvs xs) (k:List Key) {b:Addr}{y:V}{u:Value} (hb:H b=some (.tup (k.map kV))) (ry:RelV y u) :
  KT H (putK kvs k y) (storedH xs k b u):=by
 have e:(kvs.any λkv=>decide (kv.1=k))=(atKey xs k).isSome:=by
  rw [wm,(r.val k).AE,Option.isSome_map]
 unfold putK storedH;rw [e];by_cases q:(atKey xs k).isSome=true
 ·rw [if_pos q,if_pos q];exact r.Ig k ry
 ·rw [if_neg q,if_neg q];exact Paired.snoc r ⟨rfl,hb,ry⟩
theorem KT.keeps {H H':Hp}{kvs:List (List Key×V)}{xs:List (List Key×Addr×Value)} (r:KT H kvs xs) (ht:∀ b ys,H b=some (.tup ys)->H' b=some (.tup ys)):KT H' kvs xs:=
 Paired.Hn r λ_ _ z=>⟨z.1,ht _ _ z.2.1,z.2.2⟩
section
variable {P:Program}{w:World}{H:Hp}{h:Heap}{a:Addr}
theorem GP {u:HO} (ok:HOk P w H h) (e:Rd H a u):b8 P w H h a u:=e.ok ok
theorem qQ {kvs:List (Key×V)} (ok:HOk P w H h) (e:Rd H a (.dK kvs)):kvs.length<=sizeLine/\(a == sysModules)=false/\∃ vs,KV kvs vs/\h.DictOf (aW P w) a vs:=
 show b8 P w H h a (.dK kvs) from GP ok e
theorem wx {kvs:List (Key×V)} (ok:HOk P w H h) (e:H a=some (.dK kvs)):kvs.length<=sizeLine/\(a == sysModules)=false/\∃ vs,KV kvs vs/\h.DictOf (aW P w) a vs:=qQ ok (.inl e)
theorem uP {ks:List Key} (ok:HOk P w H h) (e:H a=some (.tup (ks.map kV))):(tupleKind (aW P w)).is h ks a:=by
 obtain ⟨_,its,r,o,h1,h2,n,h3⟩:=(show b8 P w H h a (.tup (ks.map kV)) from ok a _ e);exact ⟨o,its.toArray,n,h1,h2,h3,by simpa using ul r⟩
theorem xu {kvs:List (List Key×V)} (ok:HOk P w H h) (e:Rd H a (.dT kvs)):kvs.length<=sizeLine/\(a == sysModules)=false /\
  ∃ xs,KT H kvs xs/\h.DictOfH (tupleKind (aW P w)) a xs:=by
 obtain ⟨z,y,xs,r,o,es,ep,h1,h2,h3,h4,h5⟩:=(show b8 P w H h a (.dT kvs) from GP ok e);refine ⟨z,y,xs,r,o,es,ep,h1,h2,h3,h4,λx hx=>?_,h5⟩;have all:∀ {l:List (List Key×V)}{m:List (List Key×Addr×Value)},KT H l m->∀ x∈m,(tupleKind (aW P w)).is h x.1 x.2.1:=by
  intro l m q
  induction q with
  | nil=>intro x hx;exact nomatch hx
  | @cons p q ps qs hq t ih=>
   intro x hx;rcases NZ.mp hx with e | hx
   ·subst e;exact uP ok (by rw [<-hq.1];exact hq.2.1)
   ·exact ih x hx
 exact all r x hx
theorem KG {kvs:List (List Key×V)} (ok:HOk P w H h) (e:H a=some (.dT kvs)):kvs.length<=sizeLine/\(a == sysModules)=false /\
  ∃ xs,KT H kvs xs/\h.DictOfH (tupleKind (aW P w)) a xs:=xu ok (.inl e)
end
def sJ (H:Hp) (a:Addr) (y:V) (r:Option V):Prop:=
 (∃ kvs k,Rd H a (.dK kvs)/\y=kV k/\r=dY kvs k)\/∃ kvs k b,Rd H a (.dT kvs)/\y = .ref b/\H b=some (.tup (k.map kV))/\r=dY kvs k
def Cf (H:Hp) (a:Addr) (y v:V) (H':Hp):Prop:=
 (∃ kvs k,H a=some (.dK kvs)/\y=kV k/\kvs.length<sizeLine/\H' = upd H a (.dK (putK kvs k v))) \/
 ∃ kvs k b,H a=some (.dT kvs)/\y = .ref b/\H b=some (.tup (k.map kV))/\kvs.length<sizeLine/\H' = upd H a (.dT (putK kvs k v))
theorem sJ.k {H:Hp}{a:Addr}{kvs:List (Key×V)}{k:Key} (e:H a=some (.dK kvs)):sJ H a (kV k) (dY kvs k):=.inl ⟨kvs,k,.inl e,rfl,rfl⟩
theorem Cf.k {H:Hp}{a:Addr}{kvs:List (Key×V)}{k:Key}{v:V} (e:H a=some (.dK kvs)) (hl:kvs.length<sizeLine):Cf H a (kV k) v (upd H a (.dK (putK kvs k v))):=.inl ⟨kvs,k,e,rfl,hl,rfl⟩
section
variable {X:Cx}{pins:List (Addr×Obj)}{σ:St}{H:Hp}{s:Shared}{a:Addr}{y v:V}{u r:Value}{o:Option V}{A:Around}{E:Value->Shared->Prop}
theorem Inv.big (I:Inv X pins σ H s):sysModules<s.heap.objs.size:=by
 have h:mainGlobals<s.heap.objs.size:=(I.mod.glob.keeps I.bk).lt;exact Pj (by decide) h
theorem AV {Q:Value->Shared->Prop} (hu:A.units+1<cLine) (I:Inv X pins σ H s) (g:sJ H a y (some v)) (ry:RelV y u) (h:∀ w' s',Inv X pins σ H s'->RelV v w'->Q w' s') :
  wpAny (model X.prog X.w) A (getItem (.ref a) u) Q E s:=by
 rcases g with ⟨kvs,k,e,ey,l⟩ | ⟨kvs,k,b,e,ey,eb,l⟩
 ·subst ey;obtain ⟨z,hd,vs,rel,dd⟩:=qQ I.hok e;obtain ⟨w',hw,rw'⟩:=mf.some_of (v:=v) (o:=valueAt vs k) (by rw [l];exact rel.val k);exact wpAny_getItem_of (uu ry) dd.mapOf hw (h w' _ (I.tok _) rw')
 ·subst ey;cases (show u=Value.ref b from ry);obtain ⟨z,hd,xs,rel,dd⟩:=xu I.hok e;obtain ⟨w',hw,rw'⟩:=mf.some_of (v:=v) (o:=(atKey xs k).map (·.2)) (by rw [l];exact rel.val k)
  obtain ⟨p,hp,hp2⟩:=Option.map_eq_some_iff.mp hw;refine wpAny_getItem_heap (tupleKind_room_in1 hu) (uP I.hok eb) dd hp ?_;rw [hp2];exact h w' _ (I.tok _) rw'
theorem m7 {h':Heap}{t':Nat}{ob:HO} (I:Inv X pins σ H s) (mu:Mut (H a)) (hs:Heap.SameBut a s.heap h') (he:∃ q,h'.get? a=some q) (new:b8 X.prog X.w (upd H a ob) h' a ob) :
  Inv X pins σ (upd H a ob) { s with heap:=h',toks:=t' }:=
 I.write (x:=a) (e:=a) mu (.inl rfl) (λb q hb z=>(hs.2 b hb).trans z) he new
theorem vH {P:Program}{w:World}{H':Hp}{h':Heap}{kvs:List (Key×V)}{vs:List (Key×Value)} (z:kvs.length<=sizeLine) (hd:(a == sysModules)=false) (rel:KV kvs vs) (dd:h'.DictOf (aW P w) a vs) :
  b8 P w H' h' a (.dK kvs):=⟨z,hd,vs,rel,dd⟩
theorem Ap {H':Hp}{Q:Unit->Shared->Prop} (hu:A.units+1<cLine) (I:Inv X pins σ H s) (g:Cf H a y v H') (ry:RelV y u) (rv:RelV v r) (h:∀ s',Inv X pins σ H' s'->Q () s') :
  wpAny (model X.prog X.w) A (setItem (.ref a) u r) Q E s:=by
 rcases g with ⟨kvs,k,e,ey,l,eH⟩ | ⟨kvs,k,b,e,ey,eb,l,eH⟩
 ·subst ey eH;obtain ⟨z,hd,vs,rel,dd⟩:=wx I.hok e;have hz:vs.length<=sizeLine:=by rw [<-rel.length];exact z
  have hl:(putK kvs k v).length<=sizeLine:=by have:=ib kvs k v;lia
  refine wpAny_setItem_pairs (hsz:=hz) (uu ry) dd λh' dd' hs=>h _ ?_;have he:∃ q,h'.get? a=some q:=let ⟨q,_,_,hq,_⟩:=dd';⟨q,hq⟩;exact m7 I (by rw [e];exact True.intro) hs he (vH hl hd (rel.put k rv) dd')
 ·subst ey eH;cases (show u=Value.ref b from ry);obtain ⟨z,hd,xs,rel,dd⟩:=KG I.hok e;have hz:xs.length<=sizeLine:=by rw [<-Paired.length rel];exact z
  have hl:(putK kvs k v).length<=sizeLine:=by have:=ib kvs k v;lia
  refine wpAny_setItem_heap (hsz:=hz) (tupleKind_room_in1 hu) (uP I.hok eb) dd λh' dd' hs=>h _ ?_;obtain ⟨q,es,ep,hq,h2,h3,h4,_,h5⟩:=dd';refine m7 I (by rw [e];exact True.intro) hs ⟨q,hq⟩ ⟨hl,hd,_,(rel.put k eb rv).keeps λc ys ec=>?_,q,es,ep,hq,h2,h3,h4,h5⟩;rw [aw (KN ec e (λz=>nomatch z))]
  exact ec
end
section
variable {X:Cx}{pins:List (Addr×Obj)}{σ:St}{H:Hp}{s:Shared}{a:Addr}{kvs:List (Key×V)}{k:Key}{u:Value}{A:Around}{E:Value->Shared->Prop}
theorem Kg {Q:Value->Shared->Prop} (I:Inv X pins σ H s) (e:Rd H a (.dK kvs)) (h:∀ t s',Inv X pins σ H s'->Q (.int kvs.length t) s'):wpAny (model X.prog X.w) A (call (.builtin "len") [.ref a]) Q E s:=by
 obtain ⟨z,hd,vs,rel,dd⟩:=qQ I.hok e;refine call_len_dict hd dd (by rw [<-rel.length];rw [sizeLine_eq] at z;lia) ?_;rw [<-rel.length];exact h _ _ (I.tok _)
end
def JI (i:Expr):Prop:=∀ ov iv,subscripted i false ov iv=operate [ov,iv] (getItem ov iv)
theorem Gd {prog:Program}{w:World}{A:Around}{E:Value->Shared->Prop}{s:Shared}{env:Env}{value slice:Expr}{pos:Pos}{T id:String}{Q:Value->Shared->Prop}
  (hl:typeLookup (.type T) "__getitem__" = pure (some (.builtin id))) (hs:JI slice)
  (h:wpAny (model prog w) A (eval value env) (λo s₁=>wpAny (model prog w) A (eval slice env) (λi s₂=>s₂.TypeIs o T/\wpAny (model prog w) A (getItem o i) Q E s₂) E s₁) E s) :
  wpAny (model prog w) A (eval (.Subscript value slice pos) env) Q E s:=by
 refine Subscript_ (wpAny_mono h (λo s₁ h₁=>wpAny_mono h₁ (λi s₂ h₂=>?_) λ_ _ x=>x) λ_ _ x=>x);obtain ⟨hT,h₂⟩:=h₂;unfold subscriptTail;refine wpAny_bind ?_;rw [getitemInPython_of_ne hT.not_modules];refine wpAny_bind (wpAny_specialOf hT hl ?_);have fin:wpAny (model prog w) A (subscripted slice false o i) (λr s₃=>wpAny (model prog w) A (letTemporaryGo value o r >>= λ_=>pure r) Q E s₃) E s₂:=by
  rw [hs o i];exact wpAny_operating (wpAny_mono h₂ (λr s₃ h₃=>wpAny_bind (wpAny_letTemporaryGo (wpAny_pure h₃))) λ_ _ x=>x)
 first
  | exact wpAny_pure (wpAny_bind fin)
  | exact wpAny_bind (wpAny_pure (wpAny_bind fin))
  | exact wpAny_bind fin
theorem xP {X:Cx}{pins:List (Addr×Obj)}{σ:St}{H:Hp}{s:Shared}{a:Addr}{y:V}{o:Option V} (I:Inv X pins σ H s) (g:sJ H a y o):s.TypeIs (.ref a) "dict" :=by
 rcases g with ⟨kvs,k,e,_,_⟩ | ⟨kvs,k,b,e,_,_,_⟩
 ·obtain ⟨_,_,vs,_,dd⟩:=qQ I.hok e;exact dd.typeIs
 ·obtain ⟨_,_,xs,_,dd⟩:=xu I.hok e;exact dd.typeIs
def K6 (td ty:TE):TE:=λσ H Q=>td σ H λx H1=>ty σ H1 λy H2=>∃ a v,x = .ref a/\sJ H2 a y (some v)/\Q v H2
def JC (td ty tv:TE):TS:=λD σ H=>tv σ H λv H1=>td σ H1 λx H2=>ty σ H2 λy H3=>∃ a H4,x = .ref a/\Cf H3 a y v H4/\D.nx σ H4
section
variable {X:Cx}{o i e value:Expr}{pos pos' CJ:Pos}{td ty tv:TE}
theorem zP (hu:X.A.units+1<cLine) (ho:PE X o td) (hi:PE X i ty) (hs:JI i):PE X (.Subscript o i pos) (K6 td ty):=by
 intro pins s σ H Q I h;refine Gd PySem.F.slot_dict_getitem.lookup hs (thn (ho pins s σ H _ I h) λu s1 ⟨x,H1,I1,rx,q1⟩=>thn (hi pins s1 σ H1 _ I1 q1) λiv s2 ⟨y,H2,I2,ry,a,v,ex,g,q2⟩=>?_);subst ex;obtain rfl:u=Value.ref a:=rx;exact ⟨xP I2 g,AV hu I2 g ry λw' s3 I3 rw'=>⟨v,H2,I3,rw',q2⟩⟩
theorem ED (hu:X.A.units+1<cLine) (ho:PE X o td) (hi:PE X i ty) (hv:PE X value tv) (hs:swapsWith value (some (.Subscript o i pos')) pos.line X.env=pure false) :
  PS X (.Assign [.Subscript o i pos'] value pos) (JC td ty tv):=by
 intro pins s σ H D I h;refine wpAny_Assign_Subscript (thn (hv pins s σ H _ I h) λr s1 ⟨v,H1,I1,rv,q1⟩=>thn (ho pins s1 σ H1 _ I1 q1) λu s2 ⟨x,H2,I2,rx,q2⟩=>thn (hi pins s2 σ H2 _ I2 q2) λiv s3 ⟨y,H3,I3,ry,a,H4,ex,g,q3⟩=>?_) hs;subst ex;obtain rfl:u=Value.ref a:=rx;exact Ap hu I3 g ry rv λs4 I4=>⟨σ,H4,I4,q3⟩
end
theorem xw {P:Program}{w:World}{H:Hp} (h:Heap) (hb:sysModules<h.objs.size):b8 P w H (h.push { cls:=.type "dict",data:=.dict #[] }) h.objs.size (.dK []):=
 ⟨NW _,beq_eq_false_iff_ne.mpr (Ne.symm (N3 hb)),[],.nil,Heap.DictOf.new h⟩
def IU:TE:=λ_ H Q=>∀ p,H p=none->Q (.ref p) (upd H p (.dK []))
section
variable {X:Cx}{pos:Pos}
theorem wM:PE X (.Dict [] [] pos) IU:=λpins s σ H Q I h=>
 wpAny_Dict_empty ⟨.ref s.heap.objs.size,_,I.laid (a:=s.heap.objs.size) (o:=.dK []) (t':=s.toks) (λ_ _ q=>Heap.get?_push_of_some _ q) (NH _) (xw s.heap I.big),rfl,h _ (I.hok.fresh (NH _))⟩
end
def y4:List (TE×TE)->St->Hp->(List (V×V)->Hp->Prop)->Prop
 | [],_,H,Q=>Q [] H
 | (tk,tv)::r,σ,H,Q=>tk σ H λx H1=>tv σ H1 λy H2=>y4 r σ H2 λps H3=>Q ((x,y)::ps) H3
abbrev VV:List (V×V)->List (Value×Value)->Prop:=Paired λp q=>RelV p.1 q.1/\RelV p.2 q.2
def PPs (X:Cx) (pos:Pos) (keys:List (Option Expr)) (values:List Expr) (trs:List (TE×TE)):Prop:=
 ∀ (pins:List (Addr×Obj)) (s:Shared) (σ:St) (H:Hp) (Q:List (V×V)->Hp->Prop),Inv X pins σ H s->y4 trs σ H Q ->
  wpAny (model X.prog X.w) X.A (evalPairs (pairTrees keys values X.env pos)) (λvs s'=>∃ ps H',Inv X pins σ H' s'/\VV ps vs/\Q ps H') X.xe s
theorem E1 {X:Cx}{pos:Pos}:PPs X pos [] [] []:=λpins s σ H Q I h=>pairTrees_nil_walk ⟨[],H,I,.nil,h⟩
theorem qy {X:Cx}{pos:Pos}{k v:Expr}{ks:List (Option Expr)}{vs:List Expr}{tk tv:TE}{trs:List (TE×TE)} (hk:PE X k tk) (hv:PE X v tv) (hr:PPs X pos ks vs trs) :
  PPs X pos (some k::ks) (v::vs) ((tk,tv)::trs):=λpins s σ H Q I h=>
 pairTrees_cons_walk (thn (hk pins s σ H _ I h) λu s1 ⟨x,H1,I1,rx,q1⟩=>thn (hv pins s1 σ H1 _ I1 q1) λw2 s2 ⟨y,H2,I2,ry,q2⟩=>
  thn (hr pins s2 σ H2 _ I2 q2) λws s3 ⟨ps,H3,I3,rel,q3⟩=>⟨(x,y)::ps,H3,I3,.cons ⟨rx,ry⟩ rel,q3⟩)
def iN (kvs more:List (Key×V)):List (Key×V):=more.foldl (λacc kv=>putK acc kv.1 kv.2) kvs
theorem KV.merge:∀ {more:List (Key×V)}{rs:List (Key×Value)}{kvs:List (Key×V)}{vs:List (Key×Value)},KV more rs->KV kvs vs->KV (iN kvs more) (merged vs rs):=by
 intro more rs kvs vs r;unfold KV at r
 induction r generalizing kvs vs with
 | nil=>intro q;exact q
 | @cons p q ps qs h t ih=>
  intro r0;have e:KV (putK kvs p.1 p.2) (stored vs q.1 q.2):=by
   have:=r0.put p.1 h.2;rw [<-h.1];exact this
  exact ih e
theorem md:∀ (more kvs:List (Key×V)),(iN kvs more).length<=kvs.length+more.length
 | [],kvs=>by show kvs.length<=kvs.length+0;lia
 | p::r,kvs=>by
  have h1:=md r (putK kvs p.1 p.2);have h2:=ib kvs p.1 p.2;show (iN (putK kvs p.1 p.2) r).length<=_;rw [N4];lia
theorem qc {P:Program}{w:World}:∀ {kvs:List (Key×V)}{ws:List (Value×Value)},VV (kvs.map λkv=>(kV kv.1,kv.2)) ws->∃ rs,Carries (aW P w) ws rs/\KV kvs rs
 | [],_,r=>by rw [OU] at r;cases r;exact ⟨[],True.intro,.nil⟩
 | p::kvs,_,r=>by
  rw [N1] at r;cases r with
  | @cons a b as bs h t=>
   obtain ⟨rs,c,q⟩:=qc (P:=P) (w:=w) t;obtain ⟨b1,b2⟩:=b;exact ⟨(p.1,b2)::rs,⟨uu h.1,rfl,c⟩,.cons ⟨rfl,h.2⟩ q⟩
def Ju (trs:List (TE×TE)):TE:=λσ H Q=>∀ p,H p=none->y4 trs σ (upd H p (.dK [])) λps H2=>H2 p=some (.dK [])/\∃ kvs:List (Key×V),ps=kvs.map (λkv=>(kV kv.1,kv.2))/\kvs.length<=15/\Q (.ref p) (upd H2 p (.dK (iN [] kvs)))
theorem EV {X:Cx}{pos:Pos}{keys:List (Option Expr)}{values:List Expr}{trs:List (TE×TE)} (h:PPs X pos keys values trs) (fU:keys.all (·.isSome)=true) (hl:keys.length=values.length) (h0:keys≠[])
  (h15:keys.length<=15):PE X (.Dict keys values pos) (Ju trs):=by
 intro pins s σ H Q I q;have hn:=I.hok.fresh (NH s.heap.objs.size);have I1:=I.laid (a:=s.heap.objs.size) (o:=.dK []) (h':=s.heap.push { cls:=.type "dict",data:=.dict #[] }) (t':=s.toks) (λ_ _ q=>Heap.get?_push_of_some _ q) (NH _) (xw s.heap I.big);refine wpAny_Dict_walk (knd:=aW X.prog X.w) fU hl h0 h15 (thn (h pins _ σ _ _ I1 (q _ hn)) λws s2 ⟨ps,H2,I2,rel,e,kvs,ep,lk,q2⟩=>?_);subst ep;obtain ⟨rs,c,rk⟩:=qc (P:=X.prog) (w:=X.w) rel;obtain ⟨z,hd,vs0,r0,dd⟩:=wx I2.hok e;cases r0;refine ⟨rs,c,dd,λh' dd' hs=>⟨.ref s.heap.objs.size,_,?_,rfl,q2⟩⟩;have hz:(iN [] kvs).length<=sizeLine:=by
  have h1:=md kvs [];rw [OK] at h1;rw [sizeLine_eq];lia
 have he:∃ q,h'.get? s.heap.objs.size=some q:=let ⟨q,_,_,hq,_⟩:=dd';⟨q,hq⟩;exact m7 I2 (by rw [e];exact True.intro) hs he (vH hz hd (rk.merge .nil) dd')
structure M1 (X:Cx) (o:Expr) (m:Str) (apos:Pos) (e:Expr) (dv:Pos):Prop where
 base:attributeBase o m X.env (eval o X.env)=eval o X.env
 few:((backTo dv (starEach [e] X.env)).all (λx=>!x.1) && (backToKw dv (keywordEach [] X.env)).all (λx=>x.1.isSome)
  && decide (([e]:List Expr).length+([]:List Keyword).length+(if ([]:List Keyword).isEmpty then 0 else 1)<30))=true
 line:(apos.endLine == dv.line)=true
 Ea:backTo dv (starEach [e] X.env)=[(false,eval e X.env)]
structure M2 (X:Cx) (o:Expr) (m:Str) (apos:Pos) (e f:Expr) (dv:Pos):Prop where
 base:attributeBase o m X.env (eval o X.env)=eval o X.env
 few:((backTo dv (starEach [e,f] X.env)).all (λx=>!x.1) && (backToKw dv (keywordEach [] X.env)).all (λx=>x.1.isSome)
  && decide (([e,f]:List Expr).length+([]:List Keyword).length+(if ([]:List Keyword).isEmpty then 0 else 1)<30))=true
 line:(apos.endLine == dv.line)=true
 Ea:backTo dv (starEach [e,f] X.env)=[(false,eval e X.env),(false,eval f X.env)]
def IsD (H:Hp) (a:Addr):Prop:=(∃ kvs,Rd H a (.dK kvs))\/∃ kvs,Rd H a (.dT kvs)
theorem za {X:Cx}{pins:List (Addr×Obj)}{σ:St}{H:Hp}{s:Shared}{a:Addr} (I:Inv X pins σ H s) (d:IsD H a) :
  s.TypeIs (.ref a) "dict" /\ (∀ b,Value.ref a = .ref b->∃ ob,s.heap.get? b=some ob/\ob.dict=none)/\(a == sysModules)=false:=by
 rcases d with ⟨kvs,e⟩ | ⟨kvs,e⟩
 ·obtain ⟨_,hd,vs,_,dd⟩:=qQ I.hok e;refine ⟨dd.typeIs,λb q=>?_,hd⟩;cases q;obtain ⟨ob,_,_,h1,h2,_⟩:=dd;exact ⟨ob,h1,h2.2.1⟩
 ·obtain ⟨_,hd,xs,_,dd⟩:=xu I.hok e;refine ⟨dd.typeIs,λb q=>?_,hd⟩;cases q;obtain ⟨ob,_,_,h1,h2,_⟩:=dd;exact ⟨ob,h1,h2.2.1⟩
section
variable {X:Cx}{pins:List (Addr×Obj)}{σ:St}{H:Hp}{s:Shared}{a:Addr}{y d:V}{u r:Value}{o:Option V}{A:Around}{E:Value->Shared->Prop}
theorem Ii {Q:Value->Shared->Prop} (hu:A.units+1<cLine) (I:Inv X pins σ H s) (g:sJ H a y o) (ry:RelV y u) (rd:RelV d r) (h:∀ w' s',Inv X pins σ H s'->RelV (o.getD d) w'->Q w' s') :
  wpAny (model X.prog X.w) A (call (.builtin "dict.get") [.ref a,u,r]) Q E s:=by
 rcases g with ⟨kvs,k,e,ey,l⟩ | ⟨kvs,k,b,e,ey,eb,l⟩
 ·subst ey;obtain ⟨z,hd,vs,rel,dd⟩:=qQ I.hok e;refine call_meetsIn PySem.F.slot_dict_get dd.typeIs PySem.F.entry_dict_get (PySem.F.args_dict_get_3 _ _ _) (meets_dict_get_default (aW X.prog X.w) a (uu ry) hd r) ⟨_,dd.mapOf,h _ _ (I.tok _) ?_⟩;rw [l];exact (rel.val k).getD rd
 ·subst ey;cases (show u=Value.ref b from ry);obtain ⟨z,hd,xs,rel,dd⟩:=xu I.hok e;refine call_meetsIn PySem.F.slot_dict_get dd.typeIs PySem.F.entry_dict_get (PySem.F.args_dict_get_3 _ _ _) (meetsH_dict_get_default (tupleKind (aW X.prog X.w)) a b hd r) ⟨tupleKind_room_in1 hu,k,xs,uP I.hok eb,dd,h _ _ (I.tok _) ?_⟩;rw [l];exact (rel.val k).getD rd
end
def Iq (td ty tx:TE):TE:=λσ H Q=>td σ H λx H1=>∃ a,x = .ref a/\IsD H1 a/\ty σ H1 λy H2=>tx σ H2 λz H3=>∃ o,sJ H3 a y o/\Q (o.getD z) H3
section
variable {X:Cx}{o e f:Expr}{apos dv:Pos}{td ty tx:TE}
theorem BZ (hu:X.A.units+1<cLine) (ho:PE X o td) (he:PE X e ty) (hf:PE X f tx) (m:M2 X o "get" apos e f dv):PE X (.Call (.Attribute o "get" apos) [e,f] [] dv) (Iq td ty tx):=by
 intro pins s σ H Q I h;refine wpAny_Call_method m.base m.few m.line PySem.F.plainAttrs_dict PySem.F.slot_dict_get PySem.F.type_dict_get (thn (ho pins s σ H _ I h) λu s1 ⟨x,H1,I1,rx,a,ex,d,q1⟩=>?_);subst ex;obtain rfl:u=Value.ref a:=rx;obtain ⟨t1,t2,_⟩:=za I1 d;refine ⟨t1,t2,?_⟩;rw [m.Ea];refine Calls.callWith_builtin rfl (Calls.evalArgs_plain (Calls.spliced_cons (thn (he pins s1 σ H1 _ I1 q1) λiv s2 ⟨y,H2,I2,ry,q2⟩=>
  Calls.spliced_cons (thn (hf pins s2 σ H2 _ I2 q2) λfv s3 ⟨z,H3,I3,rz,ov,g,q3⟩=>Calls.spliced_nil ?_))))
 exact Ii hu I3 g ry rz λw' s4 I4 rw'=>⟨_,H3,I4,rw',q3⟩
end
section
variable {X:Cx}{pins:List (Addr×Obj)}{σ:St}{H:Hp}{s:Shared}{a:Addr}{kvs:List (Key×V)}{A:Around}{E:Value->Shared->Prop}
end
section
variable {X:Cx}{pins:List (Addr×Obj)}{σ:St}{H:Hp}{s:Shared}{a:Addr}{y:V}{u:Value}{A:Around}{E:Value->Shared->Prop}
end
def fL (cells:List (Str×Addr)):List (Str×NameKind)->List (Str×Addr)->List (Str×Addr)
 | [],acc=>acc
 | (n,k)::r,acc=>fL cells r (if (k == NameKind.free)=true then (match cells.lookup n with | some c=>(n,c)::acc | none=>acc) else acc)
theorem fT {env:Env}:∀ (names:List (Str×NameKind)) (acc:List (Str×Addr)),(∀ y∈names,y.2 = .free->∃ c,env.cells.lookup y.1=some c) ->
  (forIn (m:=Sem) names acc λ(x:Str×NameKind) r=>(match x with | (name,kind)=>if (kind == NameKind.free)=true then (do let a <-cellOf env name;pure (ForInStep.yield ((name,a)::r))) else pure (ForInStep.yield r)))=pure (fL env.cells names acc)
 | [],acc,_=>rfl
 | (n,k)::r,acc,h=>by
  rw [List.forIn_cons];unfold fL;by_cases hk:(k == NameKind.free)=true
  ·obtain ⟨c,e⟩:=h (n,k) NT (by simpa using hk);simp only [hk,if_true];have e1:cellOf env n=pure c:=by unfold cellOf;rw [show env.cells.lookup n=some c from e]
   rw [e1,show env.cells.lookup n=some c from e];simp only [pure_bind];exact fT r _ λy hy=>h y (NN _ hy)
  ·have hk':(k == NameKind.free)=false:=by simpa using hk
   simp only [hk',Oo,if_false,pure_bind];exact fT r _ λy hy=>h y (NN _ hy)
theorem qO {env:Env}{scope:Scope} (h:∀ y∈scope.names,y.2 = .free->∃ c,env.cells.lookup y.1=some c):closureFor scope env=pure (fL env.cells scope.names []):=by
 have e:=fT (env:=env) scope.names [] h;unfold closureFor;simp only [bind_pure];exact e
theorem nq {cells:List (Str×Addr)}{x:Str}{c:Addr}:∀ (names:List (Str×NameKind)) (acc:List (Str×Addr)),(∀ y d,acc.lookup y=some d->cells.lookup y=some d)->(fL cells names acc).lookup x=some c->cells.lookup x=some c
 | [],acc,ha,h=>ha _ _ h
 | (n,k)::r,acc,ha,h=>by
  unfold fL at h;refine nq r _ (λy d hy=>?_) h
  split at hy
  ·split at hy
   ·rename_i c' e';rw [OL] at hy;cases hb:y == n with
    | true=>rw [hb] at hy;cases hy;rw [beq_iff_eq.mp hb];exact e'
    | false=>rw [hb] at hy;exact ha _ _ hy
   ·exact ha _ _ hy
  ·exact ha _ _ hy
theorem iX {x n:Str}{c:Addr}{acc:List (Str×Addr)} (h:∃ d,acc.lookup x=some d):∃ d,((n,c)::acc).lookup x=some d:=by
 rw [OL];cases x == n with
 | true=>exact ⟨_,rfl⟩
 | false=>exact h
theorem mV {cells:List (Str×Addr)}{x:Str}:∀ (names:List (Str×NameKind)) (acc:List (Str×Addr)),((∃ d,acc.lookup x=some d)\/((x,NameKind.free)∈names/\∃ d,cells.lookup x=some d))->∃ d,(fL cells names acc).lookup x=some d
 | [],acc,h=>by
  rcases h with h | ⟨h,_⟩
  ·exact h
  ·cases h
 | (n,k)::r,acc,h=>by
  unfold fL;refine mV r _ ?_;rcases h with h | ⟨h,d,hd⟩
  ·refine .inl ?_
   split
   ·split
    ·exact iX h
    ·exact h
   ·exact h
  ·rcases NZ.mp h with e | h
   ·cases e;refine .inl ?_;rw [if_pos (by decide),hd];exact ⟨d,by rw [OL];simp⟩
   ·exact .inr ⟨h,d,hd⟩
theorem cT:∀ (names:List (Str×NameKind)) (n:Nat) (acc:List (Str×Addr)),cellsFrom n names acc=cellsFrom n names []++acc
 | [],n,acc=>rfl
 | (x,k)::r,n,acc=>by
  unfold cellsFrom
  split
  ·rw [cT r _ ((x,n)::acc),cT r _ [(x,n)]];simp
  ·exact cT r n acc
theorem mF {x:Str}{c:Addr}:∀ {l l':List (Str×Addr)},(l++l').lookup x=some c->l.lookup x=some c\/l'.lookup x=some c
 | [],_,h=>.inr h
 | (n,d)::r,l',h=>by
  rw [List.cons_append,OL] at h;rw [OL];cases hb:x == n with
  | true=>rw [hb] at h;exact .inl h
  | false=>rw [hb] at h;exact mF h
theorem bK {x:Str}:∀ (names:List (Str×NameKind)) (n:Nat) (acc:List (Str×Addr)),((∃ d,acc.lookup x=some d)\/(x,NameKind.cell)∈names)->∃ d,(cellsFrom n names acc).lookup x=some d
 | [],n,acc,h=>by
  rcases h with h | h
  ·exact h
  ·cases h
 | (y,k)::r,n,acc,h=>
  by
  unfold cellsFrom;rcases h with h | h
  ·split
   ·exact bK r _ _ (.inl (iX h))
   ·exact bK r _ _ (.inl h)
  ·rcases NZ.mp h with e | h
   ·cases e;rw [if_pos (by decide)];exact bK r _ _ (.inl ⟨n,by rw [OL];simp⟩)
   ·split
    ·exact bK r _ _ (.inr h)
    ·exact bK r _ _ (.inr h)
def F8 (scope:Scope) (C:Addr) (env:Env):Env:=
 { scope:=relabel scope env,locals:=C,globals:=env.globals,cells:=cellsFrom (C+1) scope.names (fL env.cells scope.names []),qual:=env.qual,func:=none,code:=env.code,frame:=env.frame,builtins:=env.builtins }
theorem ph {scope:Scope}{env:Env}{x:Str}{k:NameKind} (h:(relabel scope env).names.lookup x=some k):∃ k',(x,k')∈scope.names/\(k' = k\/(k' = .free/\k = .cell/\env.kindOf x=some .cell)):=by
 have h':=NJ.mp (mem_of_lookup h);obtain ⟨⟨n,q⟩,hm,e⟩:=h';dsimp only at e
 split at e
 ·rename_i hc;injection e with e1 e2;subst e1;refine ⟨q,hm,.inr ?_⟩;simp only [Om,beq_iff_eq] at hc;exact ⟨hc.1.1,e2.symm,hc.2⟩
 ·injection e with e1 e2;subst e1;exact ⟨q,hm,.inl e2⟩
def eP (X:Cx) (scope:Scope) (N':List Str) (s:Shared) (H:Hp) (fp:List Addr):Cx where
 prog:=X.prog
 w:=X.w
 K:=X.K
 mg:=X.mg
 base:=X.base
 A:=X.A
 N:=N'
 s₀:=s
 H₀:=H
 env:=F8 scope s.heap.objs.size X.env
 outer:=X.stack
 stack:=X.stack
 ex:=fp
 calm:=X.calm
 fn:=λx=>decide ((x,NameKind.cell)∈scope.names/\(x,NameKind.free)∉scope.names)
 pn:=[]
 xe:=λ_ _=>False
def sub (n:Nat) (fi:List Nat) (σ:St):St:=List.replicate n none++fi.map λk=>(σ[k]?).join
theorem sub_len (n:Nat) (fi:List Nat) (σ:St):(sub n fi σ).length=n+fi.length:=by simp [sub]
structure lc (X:Cx) (scope:Scope) (N':List Str) (n:Nat) (fi:List Nat):Prop where
 kind:scope.kind = .function
 names:∀ y∈scope.names,y.2 = .local->scope.names.lookup y.1=some .local
 free:∀ y∈scope.names,y.2 = .free->X.env.kindOf y.1=some .cell\/X.env.kindOf y.1=some .free
 len:N'.length=n+fi.length
 at':∀ (j:Nat) (k:Nat),fi[j]? = some k->∃ x,N'[n+j]? = some x/\X.N[k]? = some x/\scope.names.lookup x=some .free/\(x,NameKind.cell)∉scope.names
theorem Gk {M:Model}{A:Around}{E:Value->Shared->Prop}{s:Shared}{scope:Scope}{globals:Addr}{cl:List (Str×Addr)}{qual:Str}{env:Env}{Q:Env->Shared->Prop}
  (h:∀ h',h'.Ns s.heap.objs.size (λ_=>none)->(∀ b o,s.heap.get? b=some o->h'.get? b=some o)->CellsOk h' (s.heap.objs.size+1) (cellsFrom (s.heap.objs.size+1) scope.names []) ->
   Q { scope,locals:=s.heap.objs.size,globals,cells:=cellsFrom (s.heap.objs.size+1) scope.names cl,qual,func:=none,code:=env.code,frame:=env.frame,builtins:=env.builtins } { s with heap:=h' }) :
  wpAny M A (newFunctionEnv scope globals cl [] qual none .none (some env)) Q E s:=by
 have size:(s.heap.push { cls:=.type "dict",data:=.dict #[] }).objs.size=s.heap.objs.size+1:=Heap.size_push ..;have before:∀ b o,s.heap.get? b=some o->(s.heap.push { cls:=.type "dict",data:=.dict #[] }).get? b=some o:=λb o e=>Heap.get?_push_of_some _ e;have names:=Heap.Ns.new s.heap (.type "dict");simp only [newFunctionEnv,if_true,Option.isSome_some];refine wpAny_bind (wpAny_alloc ?_);generalize s.heap.push { cls:=.type "dict",data:=.dict #[] }=h1 at size before names;have Kc:CellsOk h1 (s.heap.objs.size+1) []:=⟨(λ_ _ z=>by cases z),List.Pairwise.nil⟩;have laid:=cellsFrom_ok scope.names h1 _ [] Kc (Nat.le_of_eq size.symm);have more:=pushCells_keeps scope.names h1;rw [size] at laid;refine wpAny_bind (wpAny_layCells _ (λ_ kind _=>?_) scope.names cl { s with heap:=h1 } _ (wpAny_bind (wpAny_pure (wpAny_pure ?_))))
 ·cases e:kind == NameKind.cell <;> simp [e]
 ·show Q { scope,locals:=s.heap.objs.size,globals,cells:=cellsFrom h1.objs.size scope.names cl,qual,func:=none,code:=env.code,frame:=env.frame,builtins:=env.builtins } _;rw [size];exact h _ (names.keeps more) (λb o e=>more b o (before b o e)) laid
section
variable {X:Cx}{pins:List (Addr×Obj)}{σ:St}{H:Hp}{s:Shared}{scope:Scope}{N':List Str}{n:Nat}{fi:List Nat}{fp:List Addr}{h':Heap}
theorem lc.G2 (S:lc X scope N' n fi) (ok:X.Ok):∀ y∈scope.names,y.2 = .free->∃ c,X.env.cells.lookup y.1=some c:=λy hy hk=>ok.has _ (S.free y hy hk)
theorem i4 {C:Addr}{x:Str}{c:Addr} (h:(F8 scope C X.env).cells.lookup x=some c):(cellsFrom (C+1) scope.names []).lookup x=some c\/X.env.cells.lookup x=some c:=by
 have h1:(cellsFrom (C+1) scope.names (fL X.env.cells scope.names [])).lookup x=some c:=h;rw [cT] at h1;rcases mF h1 with z | z
 ·exact .inl z
 ·exact .inr (nq _ _ (λ_ _ q=>by cases q) z)
theorem cellsFrom_names {x:Str}{c:Addr}:∀ (names:List (Str×NameKind)) (k:Nat) (acc:List (Str×Addr)),(x,c)∈cellsFrom k names acc->(x,NameKind.cell)∈names\/(x,c)∈acc
 | [],_,_,h=>.inr h
 | (y,q)::r,k,acc,h=>by
  unfold cellsFrom at h
  split at h
  ·rename_i hq;have hq':q = .cell:=by simpa using hq
   subst hq';rcases cellsFrom_names r _ _ h with z | z
   ·exact .inl (NN _ z)
   ·rcases NZ.mp z with e | z
    ·cases e;exact .inl NT
    ·exact .inr z
  ·rcases cellsFrom_names r _ _ h with z | z
   ·exact .inl (NN _ z)
   ·exact .inr z
theorem By (I:Inv X pins σ H s) (S:lc X scope N' n fi) (hf:∀ b∈fp,bY X pins H b) (ho:∀ b∈fp,∃ o,s.heap.get? b=some o)
  (hns:h'.Ns s.heap.objs.size (λ_=>none)) (hk:∀ b o,s.heap.get? b=some o->h'.get? b=some o) (hc:CellsOk h' (s.heap.objs.size+1) (cellsFrom (s.heap.objs.size+1) scope.names [])) :
  Inv (eP X scope N' s H fp) [] (sub n fi σ) H { s with heap:=h' }:=by
 have ltC:∀ {b:Addr}{o:Obj},s.heap.get? b=some o->b<s.heap.objs.size:=λe=>Heap.lt_size e;have zK:∀ {x:Str}{c:Addr},X.env.cells.lookup x=some c->c<s.heap.objs.size:=λ{x c} e=>by
  obtain ⟨v,q⟩:=I.cell x c e;exact q.lt
 have lJ:∀ {x:Str}{c:Addr},(cellsFrom (s.heap.objs.size+1) scope.names []).lookup x=some c->h'.IsCell c none/\s.heap.objs.size+1<=c:=λ{x c} e=>hc.empty x c (PySem.mem_of_lookup e);refine ⟨⟨I.ok.mod,S.kind,I.ok.glob,I.ok.blt,NH _,λx y c h1 h2=>?_,λx hx=>?_,λx c hx h=>?_,I.ok.hd,I.ok.frames,.inl rfl,λb hb=>?_,λb o e=>?_,?_,λb o e hb=>?_,λb hb hz=>?_,I.stack,I.zO⟩,
  rfl,I.bare,Un.kept hk,⟨_,hns,λi x v h1 h2 h3=>?_⟩,λx c h=>?_,I.hok.fresh (NH _),λx c h=>?_,λp hp=>absurd (show p∈([]:List (Addr×Obj)) from hp) (by simp),I.hok.kept hk,?_⟩
 ·rcases i4 h1 with z1 | z1 <;> rcases i4 h2 with z2 | z2
  ·exact name_of_addr hc.apart (PySem.mem_of_lookup z1) (PySem.mem_of_lookup z2)
  ·exact absurd (Pj (zK z2) (lJ z1).2) (Oy _)
  ·exact absurd (Pj (zK z1) (lJ z2).2) (Oy _)
  ·exact I.ok.inj x y c z1 z2
 ·have hx:(relabel scope X.env).names.lookup x=some .cell\/(relabel scope X.env).names.lookup x=some .free:=hx;have go:∀ k,(relabel scope X.env).names.lookup x=some k->(k = .cell\/k = .free)->∃ c,(cellsFrom (s.heap.objs.size+1) scope.names (fL X.env.cells scope.names [])).lookup x=some c:=λk e hk=>by
   obtain ⟨k',hm,hkk⟩:=ph e;have:k' = .cell\/k' = .free:=by
    rcases hkk with z | z
    ·rw [z];exact hk
    ·exact .inr z.1
   rcases this with z | z
   ·exact bK _ _ _ (.inr (z ▸ hm))
   ·exact bK _ _ _ (.inl (mV _ _ (.inr ⟨z ▸ hm,S.G2 I.ok (x,k') hm z⟩)))
  rcases hx with z | z
  ·exact go _ z (.inl rfl)
  ·exact go _ z (.inr rfl)
 ·have hx':(x,NameKind.cell)∈scope.names/\(x,NameKind.free)∉scope.names:=of_decide_eq_true hx;have h1:(cellsFrom (s.heap.objs.size+1) scope.names (fL X.env.cells scope.names [])).lookup x=some c:=h;rw [cT] at h1;obtain ⟨d,hd⟩:=bK (x:=x) scope.names (s.heap.objs.size+1) [] (.inr hx'.1);have e2:(cellsFrom (s.heap.objs.size+1) scope.names []++fL X.env.cells scope.names []).lookup x=some d:=by
   have lk:∀ (l l':List (Str×Addr)),l.lookup x=some d->(l++l').lookup x=some d:=by
    intro l
    induction l with
    | nil=>intro l' q;cases q
    | cons p r ih=>
     obtain ⟨n,q⟩:=p;intro l' e;rw [List.cons_append,OL];rw [OL] at e;cases hb:x == n with
     | true=>rw [hb] at e;exact e
     | false=>rw [hb] at e;exact ih l' e
   exact lk _ _ hd
  rw [h1] at e2;cases e2;exact O9 (lJ hd).2
 ·refine ⟨?_,λx c e z=>?_⟩
  ·obtain ⟨o,e⟩:=ho b hb;exact N3 (ltC e)
  ·obtain ⟨o,eo⟩:=ho b hb;rcases i4 e with q | q
   ·have h1:=(lJ q).2;have h2:=ltC eo;rw [z] at h1;exact Oy _ (Pj h2 h1)
   ·exact (hf b hb).2.2.2.2.1 x c q z
 ·exact I.bs b o e
 ·exact NM I.ok.bsz I.sz
 ·rcases (hf b hb).2.2.2.1 with z | z
  ·exact I.ok.BY b o e z
  ·exact absurd (N9 (Heap.lt_size (I.ok.bs b o e).1) z) (Oy _)
 ·rcases NZ.mp (I.yT b hz) with z | z
  ·exact (hf b hb).2.1 z
  ·exact (hf b hb).2.2.1 z
 ·have hi:n<=i:=by
   by_cases hi:n<=i
   ·exact hi
   ·unfold sub at h2;rw [O7 (by simp;lia),List.getElem?_replicate] at h2
    split at h2 <;> cases h2
  have h2':(fi.map λk=>(σ[k]?).join)[i - n]? = some (some v):=by
   unfold sub at h2;rw [O5 (by simpa using hi)] at h2;simpa using h2
  rw [NK] at h2';cases ek:fi[i - n]? with
  | none=>rw [ek] at h2';cases h2'
  | some k=>
   rw [ek] at h2';have uX:(σ[k]?).join=some v:=Option.some.inj h2';have hσ:σ[k]? = some (some v):=by
    cases q:σ[k]? with
    | none=>rw [q] at uX;cases uX
    | some w'=>rw [q] at uX;exact congrArg some uX
   obtain ⟨x',e1,e2,e3,e4⟩:=S.at' (i - n) k ek;have e1':N'[i]? = some x':=by rw [<-e1];congr 1;lia
   have h1':N'[i]? = some x:=h1;rw [e1'] at h1';cases h1';have hm:(x,NameKind.free)∈scope.names:=by
    generalize scope.names=l at e3
    induction l with
    | nil=>cases e3
    | cons p r ih=>
     obtain ⟨n',q⟩:=p;rw [OL] at e3;cases hb:x == n' with
     | true=>rw [hb] at e3;cases e3;rw [beq_iff_eq.mp hb];exact NT
     | false=>rw [hb] at e3;exact NN _ (ih e3)
   have kx:=S.free _ hm rfl;have vis:Vis X.env.scope x:=kx.elim (λz=>.inr (.inl z)) λz=>.inr (.inr z);obtain ⟨m0,hn0,hl0⟩:=I.loc;obtain ⟨u,ru,lk⟩:=hl0 k x v e2 hσ vis;refine ⟨u,ru,.inr ⟨?_,?_⟩⟩
   ·have h3:Vis (relabel scope X.env) x:=h3;rcases h3 with z | z | z
    ·obtain ⟨k',hm',hk'⟩:=ph z;rcases hk' with q | q
     ·exfalso;have:=S.names (x,k') hm' (by rw [q]);rw [show scope.names.lookup x=some .free from e3] at this;cases this
     ·cases q.2.1
    ·exact .inl z
    ·exact .inr z
   ·rcases lk with ⟨kl,_⟩ | ⟨_,c,ec,uC⟩
    ·rcases kx with z | z <;> (rw [show X.env.kindOf x=_ from kl] at z;cases z)
    ·refine ⟨c,?_,uC.keeps hk⟩;show (cellsFrom (s.heap.objs.size+1) scope.names (fL X.env.cells scope.names [])).lookup x=some c;obtain ⟨d,hd⟩:=bK (x:=x) scope.names (s.heap.objs.size+1) (fL X.env.cells scope.names []) (.inl (mV _ _ (.inr ⟨hm,c,ec⟩)));rw [hd];have hd':=hd;rw [cT] at hd';rcases mF hd' with z | z
     ·rcases cellsFrom_names _ _ _ (PySem.mem_of_lookup z) with q | q
      ·exact absurd q e4
      ·cases q
     ·have:=nq _ _ (λ_ _ q=>by cases q) z;rw [ec] at this;exact this.symm
 ·rcases i4 h with z | z
  ·exact ⟨none,(lJ z).1⟩
  ·obtain ⟨v,q⟩:=I.cell x c z;exact ⟨v,q.keeps hk⟩
 ·rcases i4 h with z | z
  ·exact I.hok.fresh (O9 (lJ z).2)
  ·exact I.j8 x c z
 ·show (sub n fi σ).length=N'.length;rw [sub_len,S.len]
end
def AB (X:Cx) (ifs:List Expr) (t:TT):Prop:=
 ∀ (pins:List (Addr×Obj)) (s:Shared) (σ:St) (H:Hp) (Q:Bool->Hp->Prop),Inv X pins σ H s->t σ H Q ->
  wpAny (model X.prog X.w) X.A (forIn ifs true λc r=>if r=true then do let ok <-isTrue c X.env (eval c X.env);pure (ForInStep.yield ok) else pure (ForInStep.yield r)) (TP X pins σ Q) X.xe s
def FR:TT:=λ_ H Q=>Q true H
theorem aO {X:Cx}:AB X [] FR:=λ_ _ _ H _ I h=>wpAny_tests_nil ⟨H,I,h⟩
theorem cq {X:Cx}{c:Expr}{t:TT} (h:PT X c t):AB X [c] t:=λpins s σ H Q I q=>wpAny_tests_one (h pins s σ H Q I q)
def ma (g:TG) (tt:TT) (te:TE) (J:It) (D:Addr) (Q:VK) (σ:St) (H:Hp):Prop:=
 ∃ W:Nat->Nat->St->Hp->Prop,(∃ m,W 0 m σ H)/\∀ i m σ H,W i m σ H ->
  (J.stop i H/\Q (.ref D) H)\/(J.go i H/\∃ N:St->Hp->Prop,(∀ σ' H',N σ' H'->∃ m',m' < m/\W (i+1) m' σ' H') /\
   ∀ x H',J.yld i H x H'->g x σ H' λσ2 H2=>tt σ2 H2 λb H3=>if b=true then te σ2 H3 λv H4=>∃ xs,H4 D=some (.lst xs)/\xs.length<sizeLine/\N σ2 (upd H4 D (.lst (xs++[v]))) else N σ2 H3)
def xh (wi:TI) (g:TG) (tt:TT) (te:TE) (n:Nat) (fi:List Nat):TE:=λσ H Q=>
 wi σ H λJ H1=>∀ D,H1 D=none->ma g tt te J D Q (sub n fi σ) (upd H1 D (.lst []))
section
variable {X:Cx}{elt tg iter:Expr}{ifs:List Expr}{scope:Scope}{pos:Pos}
theorem AG {Y:Cx}{g:TG}{tt:TT}{te:TE}{J:It}{D it:Addr}{fp:List Addr}{tn:Nat->Heap->Prop}{Qr:VK}{σ:St}{H:Hp}{s:Shared} (hc:Y.calm=true) (hxe:∀ e s,¬ Y.xe e s)
  (hg:PG Y tg g) (hi:AB Y ifs tt) (he:PE Y elt te) (T:Turn Y.prog Y.w Y.K tg J fp it tn) (I:Inv Y [] σ H s) (st:tn 0 s.heap) (hf:∀ b∈fp,bY Y [] H b) (hw:ma g tt te J D Qr σ H) :
  codeAny (model Y.prog Y.w) Y.A (.compLoop (.ListComp elt [⟨tg,iter,ifs,0⟩] scope pos) 0 (.ref it) (.ref D) Y.env) (λr s'=>r = .ok .next/\∃ σ' H',Inv Y [] σ' H' s'/\Qr (.ref D) H') s:=by
 obtain ⟨W,⟨m0,w0⟩,turn⟩:=hw;have yj:∀ {H':Hp},(∀ b∈fp,H' b=none)->∀ b∈fp,bY Y [] H' b:=λhn b hb=>⟨hn b hb,(hf b hb).2⟩;refine codeAny_loop rfl (λn s'=>∃ i σ' H',Inv Y [] σ' H' s'/\tn i s'.heap/\(∀ b∈fp,H' b=none)/\W i n σ' H') ?_ m0 ⟨0,σ,H,I,st,λb hb=>(hf b hb).1,w0⟩;rintro n s3 ⟨i,σ3,H3,I3,st3,fr3,w3⟩;show wpAny _ Y.A ((compTurn (.ListComp elt [⟨tg,iter,ifs,0⟩] scope pos) 0 (.ref it) (.ref D) Y.env).onRaise (λx=>do noteFrame x Y.env;theTreesLotGoes x)) _ _ s3;refine wpAny_noted ?_;rw [compTurn_list]
 (refine wpAny_bind (wpAny_standAt (wpAny_bind ?_)))
 rcases turn i n σ3 H3 w3 with ⟨stop,qn⟩ | ⟨go,N,hN,step⟩
 ·refine thn (T.done Y rfl rfl rfl hc i [] s3 σ3 H3 _ I3 (yj fr3) st3 stop) λr s4 ⟨hr,I4⟩=>?_;subst hr;exact wpAny_pure ⟨rfl,σ3,H3,I4,qn⟩
 ·refine thn (T.item Y rfl rfl rfl hc i [] s3 σ3 H3 _ I3 (yj fr3) st3 go) λr s4 ⟨u,hr,h4⟩=>?_;subst hr;refine wpAny_bind (thn h4 λ_ s5 ⟨x,H5,I5,r5,y5,st5,fr5⟩=>?_);have I5':=I5.pinned (yj fr5) (T.obj _ _ st5);have Dt:∀ {σ7:St}{H7:Hp}{s7:Shared},Inv Y ([]++rH fp s5.heap) σ7 H7 s7->N σ7 H7->∃ m,m<n/\∃ i σ' H',Inv Y [] σ' H' s7/\tn i s7.heap/\(∀ b∈fp,H' b=none)/\W i m σ' H':=λ{σ7 H7 s7} I7 n7=>by
   obtain ⟨m',hm,w7⟩:=hN σ7 H7 n7;refine ⟨m',hm,i+1,σ7,H7,I7.gO,T.keep _ _ _ st5 λb hb o e=>(I7.pin (b,o) (Ob _ (Ob _ (jc hb e)))).1,λb hb=>?_,w7⟩;obtain ⟨o,e,d⟩:=T.obj _ _ st5 b hb;exact (I7.pin (b,o) (Ob _ (Ob _ (jc hb e)))).2.1
  refine wpAny_bind (wpAny_mono (hg _ s5 σ3 H5 x u _ I5' r5 (step x H5 y5)) (λ_ s6 ⟨σ6,H6,I6,q6⟩=>?_) λe s' z=>(hxe e s' z).elim);refine wpAny_bind (wpAny_mono (hi _ s6 σ6 H6 _ I6 q6) (λok s7 ⟨H7,I7,q7⟩=>?_) λe s' z=>(hxe e s' z).elim);cases ok with
  | false=>
   exact wpAny_pure ⟨rfl,Dt I7 q7⟩
  | true=>
   refine wpAny_bind (wpAny_bind (wpAny_mono (he _ s7 σ6 H7 _ I7 q7) (λu8 s8 ⟨v8,H8,I8,r8,xs,e8,z8,n8⟩=>?_) λe s' z=>(hxe e s' z).elim));refine wpAny_bind (wpAny_mono (bG (X:=Y) _ s8 σ6 H8 (.ref D) [v8] (.ref D) [u8] (λ_ H9=>N σ6 H9) I8 rfl (.cons r8 .nil) ⟨D,xs,v8,rfl,rfl,e8,z8,n8⟩) (λu9 s9 h9=>?_) λe s' z=>(hxe e s' z).elim);obtain ⟨v9,H9,I9,_,n9⟩:=h9;exact wpAny_pure (wpAny_pure ⟨rfl,Dt I9 n9⟩)
theorem Inv.letGo {pins:List (Addr×Obj)}{σ:St}{H:Hp}{s:Shared}{C:Addr}{h':Heap} (I:Inv X pins σ H s) (hs:Heap.SameBut C s.heap h') (hn:H C=none) (hC:X.s₀.heap.objs.size<=C) (hL:C≠X.env.locals)
  (h2:∀ x c,X.env.cells.lookup x=some c->c≠C) (h3:∀ p∈X.pn++pins,p.1≠C):Inv X pins σ H { s with heap:=h' }:=
 I.turned (t':=s.toks) (λb o hb e=>hs.extBut b o hb e) hn hL (.inr hC) h2 h3
theorem tE {N':List Str}{n:Nat}{fi:List Nat}{wi:TI}{g:TG}{tt:TT}{te:TE}{use:Option (Value->Sem Unit)}{Q:Value->Shared->Prop}{Qr:VK}{LU:Pos}{pins:List (Addr×Obj)}{σ:St}{H:Hp}{s:Shared}
  (xb:X.calm=true) (S:lc X scope N' n fi) (hit:∀ R,wi σ H R->wpAny (model X.prog X.w) X.A (eval iter X.env) (λv s1=>wpAny (model X.prog X.w) X.A (pyIter v) (PIE X pins σ tg R) X.xe s1) X.xe s)
  (hg:∀ s H fp,PG (eP X scope N' s H fp) tg g) (hi:∀ s H fp,AB (eP X scope N' s H fp) ifs tt) (he:∀ s H fp,PE (eP X scope N' s H fp) elt te)
  (I:Inv X pins σ H s) (hw:xh wi g tt te n fi σ H Qr) (hs:∀ x,foldedSetIterable iter X.env x=pure x)
  (post:∀ (D C:Addr) (s':Shared) (H':Hp) (m:Str->Option Value),Inv X pins σ H' s'->s'.heap.Ns C m->H' C=none->X.s₀.heap.objs.size<=C->C≠X.env.locals->(∀ x c,X.env.cells.lookup x=some c->c≠C)->(∀ p∈X.pn++pins,p.1≠C)->Qr (.ref D) H' ->
   compPost (model X.prog X.w) X.A X.xe use Q (.ref D) C (.ok .next) s') :
  wpAny (model X.prog X.w) X.A (comprehension (.ListComp elt [⟨tg,iter,ifs,0⟩] scope pos) scope X.env LU (newList []) false (eval iter X.env) use) Q X.xe s:=by
 refine wpAny_comprehension_free (use:=use) (g:=⟨tg,iter,ifs,0⟩) (gs:=[]) rfl hs (qO (S.G2 I.ok)) S.kind S.names ?_;refine thn (hit _ hw) λv s1 h1=>thn h1 λitv s2 h2=>?_;obtain ⟨it,fp,tn,J,H2,e,I2,T,st2,f2,hw2⟩:=h2;subst e;refine wpAny_newList ?_ (NW _);have hD:H2 s2.heap.objs.size=none:=I2.hok.fresh (NH _);have I3:Inv X pins σ (upd H2 s2.heap.objs.size (.lst [])) { s2 with heap:=s2.heap.push { cls:=.type "list",data:=.seq ([]:List Value).toArray } }:=
  I2.laid (t':=s2.toks) (λb u e=>Heap.get?_push_of_some _ e) (NH _) ⟨NW _,[],0,.nil,Heap.get?_push_size _ rfl⟩
 have hw3:=hw2 _ hD;have u23:Un (frs X.stack) fp H2 (upd H2 s2.heap.objs.size (.lst [])) s2.heap (s2.heap.push { cls:=.type "list",data:=.seq ([]:List Value).toArray }):=
  Un.laid (λb u e=>Heap.get?_push_of_some _ e) (NH _) hD
 generalize hs3:({ s2 with heap:=s2.heap.push { cls:=.type "list",data:=.seq ([]:List Value).toArray } }:Shared)=s3 at I3 ⊢;have hh3:s3.heap=s2.heap.push { cls:=.type "list",data:=.seq ([]:List Value).toArray }:=by rw [<-hs3]
 have ho3:s3.os=s2.os:=by rw [<-hs3]
 have hz3:s3.heap.objs.size=s2.heap.objs.size+1:=by rw [hh3,Heap.size_push]
 rw [<-hh3] at u23;have hH3:∀ b,b≠s2.heap.objs.size->upd H2 s2.heap.objs.size (.lst []) b=H2 b:=λb hb=>aw hb;generalize upd H2 s2.heap.objs.size (.lst [])=H3 at *;have Gz:∀ b∈fp,∃ o,s2.heap.get? b=some o:=λb hb=>let ⟨o,e,_⟩:=T.obj _ _ st2 b hb;⟨o,e⟩;have k23:∀ b u,s2.heap.get? b=some u->s3.heap.get? b=some u:=λb u e=>by rw [hh3];exact Heap.get?_push_of_some _ e
 have JF:∀ b∈fp,bY X pins H3 b:=λb hb=>by
  obtain ⟨o,e⟩:=Gz b hb;exact ⟨(hH3 b (N3 (Heap.lt_size e))).trans (f2 b hb).1,(f2 b hb).2⟩
 refine Gk λh4 hns hk hc=>?_;show codeAny _ _ (.compStart _ 0 _ _ (F8 scope s3.heap.objs.size X.env)) _ _;have I4:=By I3 S JF (λb hb=>let ⟨o,e⟩:=Gz b hb;⟨o,k23 b o e⟩) hns hk hc;have hfY:∀ b∈fp,bY (eP X scope N' s3 H3 fp) [] H3 b:=λb hb=>⟨(JF b hb).1,(I4.ok.exf b hb).1,I4.ok.Ck b hb,.inl hb,(I4.ok.exf b hb).2,λp hp=>absurd (show p∈([]:List (Addr×Obj)) from hp) (by simp)⟩;have st4:tn 0 h4:=T.keep _ _ _ st2 λb hb o e=>hk b o (k23 b o e);have loop:=AG (Y:=eP X scope N' s3 H3 fp) (elt:=elt) (tg:=tg) (iter:=iter) (ifs:=ifs) (scope:=scope) (pos:=pos) xb (λ_ _ z=>z) (hg s3 H3 fp) (hi s3 H3 fp) (he s3 H3 fp) T I4 st4 hfY hw3;have fin:codeAny (model X.prog X.w) X.A (.compLoop (.ListComp elt [⟨tg,iter,ifs,0⟩] scope pos) 0 (.ref it) (.ref s2.heap.objs.size) (F8 scope s3.heap.objs.size X.env)) (compPost (model X.prog X.w) X.A X.xe use Q (.ref s2.heap.objs.size) s3.heap.objs.size) { s3 with heap:=h4 }:=by
  refine codeAny_mono loop λr s' ⟨hr,σ',H',J5,q5⟩=>?_;subst hr;have u5:Un (frs X.stack) fp H3 H' s3.heap s'.heap:=J5.base;have I5:Inv X pins σ H' s':=I2.JH (ch:=fp) (J5.os.trans ho3) (u23.trans u5) J5.hok J5.bare λb hb=>⟨(f2 b hb).2.2.2.1,(f2 b hb).2.1,(f2 b hb).2.2.2.2.1,(f2 b hb).2.2.2.2.2⟩;obtain ⟨m,hm,_⟩:=J5.loc;refine post _ _ s' H' m I5 hm J5.free I3.sz (Nat.ne_of_gt I3.lt) (λx c e=>?_) (λp hp=>?_) q5
  ·obtain ⟨v,q⟩:=I3.cell x c e;exact N3 q.lt
  ·exact N3 (Heap.lt_size (I3.pin p hp).1)
 exact codeAny_compStart_list fin (T.self _ 0 _ _ _ st4 fin)
theorem aP {N':List Str}{n:Nat}{fi:List Nat}{wi:TI}{g:TG}{tt:TT}{te:TE} (xb:X.calm=true) (S:lc X scope N' n fi) (hit:PI X tg iter wi)
  (hg:∀ s H fp,PG (eP X scope N' s H fp) tg g) (hi:∀ s H fp,AB (eP X scope N' s H fp) ifs tt) (he:∀ s H fp,PE (eP X scope N' s H fp) elt te)
  (hs:∀ x,foldedSetIterable iter X.env x=pure x:=by intro _;rfl):PE X (.ListComp elt [⟨tg,iter,ifs,0⟩] scope pos) (xh wi g tt te n fi):=by
 intro pins s σ H Q I h;rw [eval_ListComp];refine tE (use:=none) xb S (λR z=>hit pins s σ H R I z) hg hi he I h hs λD C s' H' m I' hm hn hC hL h2 h3 q=>⟨m,hm,λh' hs'=>?_⟩;exact ⟨.ref D,H',I'.letGo hs' hn hC hL h2 h3,rfl,q⟩
theorem jf {N':List Str}{n i:Nat}{fi:List Nat}{wi:TI}{g:TG}{tt:TT}{te:TE}{x:Str}{pos' Jg:Pos} (hN:X.N.Nodup) (hxi:X.N[i]? = some x) (hx:Loc X.env.scope x) (xb:X.calm=true) (S:lc X scope N' n fi) (hit:PI X tg iter wi)
  (hg:∀ s H fp,PG (eP X scope N' s H fp) tg g) (hi:∀ s H fp,AB (eP X scope N' s H fp) ifs tt) (he:∀ s H fp,PE (eP X scope N' s H fp) elt te)
  (hsw:swapsWith (.ListComp elt [⟨tg,iter,ifs,0⟩] scope pos) (some (.Name x pos')) Jg.line X.env=pure true:=by rfl)
  (hs:∀ x,foldedSetIterable iter X.env x=pure x:=by intro _;rfl) (hf:X.fn x=true\/X.env.scope.names.lookup x=some .local:=by first | exact .inl rfl | exact .inr rfl | assumption) :
  PS X (.Assign [.Name x pos'] (.ListComp elt [⟨tg,iter,ifs,0⟩] scope pos) Jg) (HL (xh wi g tt te n fi) (aU i)):=by
 intro pins s σ H D I h
 (rw [exec_Assign_Name_used _ _ _ _ hsw])
 (refine wpAny_bind (wpAny_standAt (wpAny_bind ?_)))
 show wpAny _ X.A (do let _ <-comprehension (.ListComp elt [⟨tg,iter,ifs,0⟩] scope pos) scope X.env _ (newList []) false (eval iter X.env) (some (assign (.Name x pos') X.env))) _ _ s;refine wpAny_bind (thn (tE (use:=some (assign (.Name x pos') X.env)) (Q:=λ_ s'=>SP X pins D .next s') xb S (λR z=>hit pins s σ H R I z) hg hi he I h hs λDa C s' H' m I' hm hn hC hL h2 h3 q=>?_) λ_ s' q=>wpAny_pure (wpAny_pure q));show wpAny _ _ (assign (.Name x pos') X.env (.ref Da)) _ _ s';refine wpAny_assign_Name (ud (v:=.ref Da) I' hN hxi hx rfl (λs2 I2 ⟨a,hsb,ha⟩=>?_) hf);have hCa:C≠a:=by
  rcases ha with z | z
  ·rw [z];exact hL
  ·exact (h2 x a z).symm
 exact ⟨m,hm.sameBut hsb hCa,λh' hs'=>⟨_,H',I2.letGo hs' hn hC hL h2 h3,q⟩⟩
end
section
variable {X:Cx}
theorem Inv.bz {pins:List (Addr×Obj)}{σ:St}{H:Hp}{s:Shared}{h':Heap}{t':Nat}{wr:List Addr} (I:Inv X pins σ H s) (hf:∀ b∈wr,bY X pins H b) (k:∀ b o,b∉wr->s.heap.get? b=some o->h'.get? b=some o) :
  Inv X pins σ H { s with heap:=h',toks:=t' }:=by
 have nit:∀ b u,H b=some u->b∉wr:=λb u e z=>by rw [(hf b z).1] at e;cases e
 refine I.step (g':=s.gens) (d':=s.drawn) (ch:=wr) (λb hb=>⟨(hf b hb).2.2.2.1,(hf b hb).2.1,(hf b hb).2.2.2.2.1,(hf b hb).2.2.2.2.2⟩) (λb o _ _ hc e _=>k b o hc e) (λb o _ _ hc e _=>⟨o.slots,k b o hc e⟩) (λ_ _ _ _ n=>n)
  (λb o hc e=>⟨o,k b o hc e⟩) (λ_ _ e=>e) (λ_ _ _ e=>e) (λb ps e=>⟨#[],by rw [e];simp⟩) (λm hm=>?_) (λb u e=>?_) I.bare
 ·obtain ⟨o,es,ep,ho,r⟩:=hm;exact ⟨o,es,ep,k _ o (λz=>(hf _ z).2.1 rfl) ho,r⟩
 ·refine (I.hok b u e).vp (λc v hc q=>k c v ?_ q) (λ_ q=>q) λ_ _ q=>q;rcases hc with z | z
  ·rw [z];exact nit b u e
  ·exact nit c _ z
theorem Inv.tF {pins:List (Addr×Obj)}{σ:St}{H:Hp}{s:Shared}{h':Heap}{t':Nat}{wr:List Addr}{a:Addr}{o:HO} (I:Inv X pins σ H s) (hf:∀ b∈wr,bY X pins H b) (k:∀ b o,b∉wr->s.heap.get? b=some o->h'.get? b=some o)
  (ha:s.heap.objs.size<=a) (new:b8 X.prog X.w (upd H a o) h' a o):Inv X pins σ (upd H a o) { s with heap:=h',toks:=t' }:=by
 have nit:∀ b u,H b=some u->b∉wr:=λb u e z=>by rw [(hf b z).1] at e;cases e
 have hfr:H a=none:=I.hok.fresh ha;refine I.step (g':=s.gens) (d':=s.drawn) (ch:=wr) (λb hb=>⟨(hf b hb).2.2.2.1,(hf b hb).2.1,(hf b hb).2.2.2.2.1,(hf b hb).2.2.2.2.2⟩) (λb o _ _ hc e _=>k b o hc e) (λb o _ _ hc e _=>⟨o.slots,k b o hc e⟩)
  (λb ob _ e n=>by rw [aw (N3 (N9 (Heap.lt_size e) ha))];exact n)
  (λb o hc e=>⟨o,k b o hc e⟩) (λb xs e=>by rw [aw (ao e hfr)];exact e) (λb ob u e=>by rw [aw (ao e hfr)];exact e) (λb ps e=>⟨#[],by rw [aw (ao e hfr),e];simp⟩) (λm hm=>?_) (λb u e=>?_) I.bare
 ·obtain ⟨o,es,ep,ho,r⟩:=hm;exact ⟨o,es,ep,k _ o (λz=>(hf _ z).2.1 rfl) ho,r⟩
 ·by_cases hb:b=a
  ·subst hb;rw [ab] at e;cases e;exact new
  ·rw [aw hb] at e;refine (I.hok b u e).vp (λc v hc q=>k c v ?_ q) (λc q=>by rw [aw (ao q hfr)];exact q) λc xs q=>by rw [aw (ao q hfr)];exact q
   rcases hc with z | z
   ·rw [z];exact nit b u e
   ·exact nit c _ z
def Its (z:Str):It:=⟨λi _=>i<z.length,λi H x H'=>H' = H/\∃ c,z.cps[i]? = some c/\x = .str ⟨#[c]⟩,λi _=>z.length<=i⟩
theorem xU {P:Program}{w:World}{K:PySem.W.Frag}{tg:Expr}{ty:String} (it:Addr) (z:Str) (t:Tok)
  (hW:∀ A:Around,A.handled=none->Walks P w A it [it] [it] z.cps.size (SignAt z) (λi h=>h.IsStrIter it ty z t i))
  (hty:["enumerate","zip","dict_itemiterator","dict_reverseitemiterator","odict_iterator","itertools.zip_longest","itertools.pairwise"].contains ty=false)
  (Ks:∀ (A:Around) (i:Nat) (s:Shared) (Q:Value->Shared->Prop) (E:Value->Shared->Prop),s.heap.IsStrIter it ty z t i->Q (.ref it) s->wpAny (model P w) A (pyIter (.ref it)) Q E s) :
  Turn P w K tg (Its z) [it] it (λi h=>i<=z.length/\h.IsStrIter it ty z t i) where
 mem:=by simp
 obj:=λi h st b hb=>by
  have e:b=it:=by simpa using hb
  subst e;obtain ⟨_,o,e,c,d⟩:=st;exact ⟨o,e,λv z=>by rw [d] at z;cases z⟩
 keep:=λi h h' st k=>by
  obtain ⟨hi,o,e,c,d⟩:=st;exact ⟨hi,o,k it (by simp) o e,c,d⟩
 item:=by
  intro X hP hw hK hc i pins s σ H E I hf st hg;subst hP hw hK;refine (hW X.A (I.ok.hd hc)).item i s _ _ hg st.2 λv h' tk hv st' kk=>?_;obtain ⟨c,u,ec,rfl⟩:=hv;have I1:Inv X pins σ H { s with heap:=h',toks:=tk }:=I.bz hf kk;obtain ⟨o,e,cl,d⟩:=id st';exact ⟨_,rfl,z4 (s:={ s with heap:=h',toks:=tk }) e cl d hty ⟨.str ⟨#[c]⟩,H,I1,⟨u,rfl⟩,⟨rfl,c,ec,rfl⟩,⟨hg,st'⟩,λb hb=>(hf b hb).1⟩⟩
 done:=by
  intro X hP hw hK hc i pins s σ H E I hf st hg;subst hP hw hK;have e:i=z.cps.size:=Nat.le_antisymm st.1 hg;subst e;exact (hW X.A (I.ok.hd hc)).done s _ _ st.2 λh' tk kk=>⟨rfl,I.bz hf kk⟩
 self:=λA i s Q E st h=>Ks A i s Q E st.2 h
def Ik (tl:TE):TI:=λσ H R=>tl σ H λx H1=>∃ z,x = .str z/\R (Its z) H1
theorem BW {tg:Expr}{z:Str}{t:Tok}{pins:List (Addr×Obj)}{s:Shared}{σ:St}{H:Hp}{R:It->Hp->Prop} (I:Inv X pins σ H s) (q:R (Its z) H):wpAny (model X.prog X.w) X.A (pyIter (.str z t)) (PIE X pins σ tg R) X.xe s:=by
 have fp:∀ b∈[s.heap.objs.size],bY X pins H b:=λb hb=>by
  have e:b=s.heap.objs.size:=by simpa using hb
  subst e;exact I.mR (NH _) (I.hok.fresh (NH _))
 cases ha:z.cps.all (· < 128) with
 | false=>
  refine wpAny_pyIter_wide ha ?_;exact ⟨s.heap.objs.size,[s.heap.objs.size],_,_,H,rfl,I.kept (t':=s.toks) λb o e=>Heap.get?_push_of_some _ e,xU (ty:= "str_iterator") _ z t (λA hA=>Walks.strWide hA _ z t) (by decide) (λA i s Q E st h=>wpAny_pyIter_striter_wide st h),
   ⟨NW _,_,Heap.get?_push_size _ rfl,rfl,rfl⟩,fp,q⟩
 | true=>
  refine wpAny_pyIter_ascii ha ?_;exact ⟨s.heap.objs.size,[s.heap.objs.size],_,_,H,rfl,I.kept (t':=s.toks) λb o e=>Heap.get?_push_of_some _ e,xU (ty:= "str_ascii_iterator") _ z t (λA hA=>Walks.strAscii hA _ z t) (by decide) (λA i s Q E st h=>wpAny_pyIter_striter_ascii st h),
   ⟨NW _,_,Heap.get?_push_size _ rfl,rfl,rfl⟩,fp,q⟩
theorem Cb {tg l:Expr}{tl:TE} (hl:PE X l tl):PI X tg l (Ik tl):=by
 intro pins s σ H R I h;refine thn (hl pins s σ H _ I h) λv s1 ⟨x,H1,I1,r1,z,e,q⟩=>?_;subst e;obtain ⟨t,rfl⟩:=r1;exact BW I1 q
def Ite (K:PySem.W.Frag) (a:Addr):It:=
 ⟨λi H=>∃ xs x,SqL K H a xs/\xs[i]? = some x,λi H x H'=>∃ p v,H p=none/\(∀ xs,SqL K H a xs->xs[i]? = some v)/\x = .ref p/\H' = upd H p (.tup [.int i,v]),λi H=>∃ xs,SqL K H a xs/\xs.length<=i⟩
theorem Bo {P:Program}{w:World}{K:PySem.W.Frag}{zp:List Expr}{k:Nat}{pos:Pos} (a it e:Addr) (hne:e≠it):Turn P w K (.Tuple zp k pos) (Ite K a) [e,it] e (λi h=>(∃ old,IsEnum h e it i old)/\h.IsListIter it a i) where
 mem:=by simp
 obj:=λi h st b hb=>by
  obtain ⟨⟨old,he⟩,o,eo,c,d⟩:=st;rcases NZ.mp hb with z | z
  ·subst z;exact ⟨_,he,λv z=>by cases z⟩
  ·have z':b=it:=by simpa using z
   subst z';exact ⟨o,eo,λv z=>by rw [d] at z;cases z⟩
 keep:=λi h h' st kk=>by
  obtain ⟨⟨old,he⟩,o,eo,c,d⟩:=st;exact ⟨⟨old,kk e (by simp) _ he⟩,o,kk it (by simp) o eo,c,d⟩
 item:=by
  intro X hP hw hK hc i pins s σ H E I hf st hg;subst hP hw hK;obtain ⟨xs,x,hq,hx⟩:=hg;obtain ⟨its,rv,p,hz⟩:=I.list hq;obtain ⟨u,hu,ru⟩:=rv.get hx;obtain ⟨⟨old,he⟩,hit⟩:=st;refine wpAny_pyNext_enum_item he hit p.isList (x:=u) (by simpa using hu) hne λh1 ho xD ht hsz kk=>?_;refine ⟨_,rfl,?_⟩;refine wpAny_letOwnedTupleGo_enum ho λh2 he2 sb=>?_;have ltn:∀ {b:Addr}{o:Obj},s.heap.get? b=some o->b<s.heap.objs.size:=λe=>Heap.lt_size e;have hel:e<s.heap.objs.size:=ltn he;have Mb:=hit;obtain ⟨oi,eoi,_⟩:=Mb;have hil:it<s.heap.objs.size:=ltn eoi;have hfr:H s.heap.objs.size=none:=I.hok.fresh (NH _);have new:h2.get? s.heap.objs.size=some { cls:=.type "tuple",data:=.seq #[.int i s.toks,u] }:=(sb.2 _ (Nat.ne_of_gt hel)).trans ht;have I2:Inv X pins σ (upd H s.heap.objs.size (.tup [.int i,x])) { s with heap:=h2,toks:=s.toks+1 }:=I.tF (wr:=[e,it]) hf (λb o hb eb=>by
    have hb1:b≠e:=λz=>hb (by simp [z]);have hb2:b≠it:=λz=>hb (by simp [z]);exact (sb.2 b hb1).trans (kk b o hb1 hb2 eb)) (NH _) ⟨by show 2<=sizeLine;decide,[.int i s.toks,u],.cons ⟨_,rfl⟩ (.cons ru .nil),⟨_,new,rfl,_,rfl⟩⟩
  refine ⟨.ref s.heap.objs.size,_,I2,rfl,⟨_,x,hfr,λys hy=>by rw [I.nJ hy hq];exact hx,rfl,rfl⟩,⟨⟨_,by simpa using he2⟩,?_⟩,λb hb=>?_⟩
  ·obtain ⟨o,eo,c,d⟩:=xD;exact ⟨o,(sb.2 it (Ne.symm hne)).trans eo,c,d⟩
  ·have hb':b≠s.heap.objs.size:=by
    rcases NZ.mp hb with z | z
    ·rw [z];exact N3 hel
    ·rw [show b=it by simpa using z];exact N3 hil
   rw [aw hb'];exact (hf b hb).1
 done:=by
  intro X hP hw hK hc i pins s σ H E I hf st hg;subst hP hw hK;obtain ⟨xs,hq,hx⟩:=hg;obtain ⟨its,rv,p,hz⟩:=I.list hq;have hl:=rv.length;obtain ⟨⟨old,he⟩,hit⟩:=st;exact wpAny_pyNext_enum_end (I.ok.hd hc) he hit p.isList (by simp;lia) λh' eb=>⟨rfl,I.bz (t':=s.toks) (wr:=[e,it]) hf λb o hb e'=>eb b o (λz=>hb (by simp [z])) e'⟩
 self:=λ_ _ _ _ _ st h=>by
  obtain ⟨⟨old,he⟩,_⟩:=st;exact wpAny_pyIter_enum he h
def Jh (K:PySem.W.Frag) (ta:TA):TI:=λσ H R=>ta σ H λvs H1=>∃ a,vs=[.ref a]/\(∃ xs,SqL K H1 a xs)/\R (Ite K a) H1
theorem va {zp:List Expr}{k:Nat}{CJ:Pos}{a:Expr}{ta:TA}{p pos:Pos} (hg:Gl X "enumerate") (hm:X.mg "enumerate" = none) (ha:PA X [a] ta) (hs:starEach [a] X.env=[(false,eval a X.env)]:=by rfl):PI X (.Tuple zp k CJ) (.Call (.Name "enumerate" p) [a] [] pos) (Jh X.K ta):=by
 intro pins s σ H R I h;refine Call_ (eR I hg hm boot_enumerate (PyProof.Rows.callWith_type1 (thn (ha pos pins s σ H _ I h) λus s1 ⟨vs,H1,I1,r1,q1⟩=>?_) hs rfl));obtain ⟨a,e,⟨xs,hq⟩,q⟩:=q1;subst e;cases r1 with
 | cons r rr=>
  cases rr;cases r;obtain ⟨its,rv,pl,hz⟩:=I1.list hq;refine call_enumerate_list pl.isList λh' he hit hsz hk=>wpAny_pyIter_enum he ?_;refine ⟨s1.heap.objs.size+1,[s1.heap.objs.size+1,s1.heap.objs.size],_,_,H1,rfl,I1.kept (t':=s1.toks) hk,Bo a s1.heap.objs.size (s1.heap.objs.size+1) (Nat.succ_ne_self _),⟨⟨_,by simpa using he⟩,hit⟩,λb hb=>?_,q⟩;have hb':s1.heap.objs.size<=b:=by
   rcases NZ.mp hb with z | z
   ·rw [z];exact OS _
   ·rw [show b=s1.heap.objs.size by simpa using z];exact NH _
  exact I1.mR hb' (I1.hok.fresh hb')
end
mutual
inductive Den (K:PySem.W.Frag) (H:Hp):V->PyData->Prop
 | non:Den K H .non .none
 | bl (b:Bool):Den K H (.bl b) (.bool b)
 | int (i:Int):Den K H (.int i) (.int i)
 | str {x:Str} (h:PyData.strOk x=true):Den K H (.str x) (.str x)
 | lst {a:Addr}{xs:List V}{ds:List PyData} (h:SqL K H a xs) (t:aB K H xs ds):Den K H (.ref a) (.list ds)
 | tup {a:Addr}{xs:List V}{ds:List PyData} (h:SqT K H a xs) (t:aB K H xs ds):Den K H (.ref a) (.tuple ds)
inductive aB (K:PySem.W.Frag) (H:Hp):List V->List PyData->Prop
 | nil:aB K H [] []
 | cons {x:V}{xs:List V}{d:PyData}{ds:List PyData} (h:Den K H x d) (t:aB K H xs ds):aB K H (x::xs) (d::ds)
end
section
variable {K:PySem.W.Frag}{H H':Hp}
theorem aB.length:∀ {xs:List V}{ds:List PyData},aB K H xs ds->xs.length=ds.length
 | _,_,.nil=>rfl
 | _,_,.cons _ t=>by rw [N4,N4,t.length]
theorem aB.append:∀ {xs ys:List V}{ds es:List PyData},aB K H xs ds->aB K H ys es->aB K H (xs++ys) (ds++es)
 | _,_,_,_,.nil,s=>s
 | _,_,_,_,.cons r t,s=>.cons r (t.append s)
theorem aB.get:∀ {xs:List V}{ds:List PyData}{i:Nat}{x:V},aB K H xs ds->xs[i]? = some x->∃ d,ds[i]? = some d/\Den K H x d
 | _,_,_,_,.nil,e=>by simp at e
 | _,_,0,_,.cons r _,e=>by simp at e;subst e;exact ⟨_,rfl,r⟩
 | _,_,i+1,x,.cons _ t,e=>by
  obtain ⟨u,h1,h2⟩:=aB.get (i:=i) (x:=x) t (by simpa using e);exact ⟨u,by simpa using h1,h2⟩
theorem aB.getD:∀ {xs:List V}{ds:List PyData}{i:Nat}{d:PyData},aB K H xs ds->ds[i]? = some d->∃ x,xs[i]? = some x/\Den K H x d
 | _,_,_,_,.nil,e=>by simp at e
 | _,_,0,_,.cons r _,e=>by simp at e;subst e;exact ⟨_,rfl,r⟩
 | _,_,i+1,x,.cons _ t,e=>by
  obtain ⟨u,h1,h2⟩:=aB.getD (i:=i) t (by simpa using e);exact ⟨u,by simpa using h1,h2⟩
mutual
theorem Den.keep (h1:∀ a xs,SqL K H a xs->SqL K H' a xs) (h2:∀ a xs,SqT K H a xs->SqT K H' a xs):∀ {v:V}{d:PyData},Den K H v d->Den K H' v d
 | _,_,.non=>.non
 | _,_,.bl b=>.bl b
 | _,_,.int i=>.int i
 | _,_,.str h=>.str h
 | _,_,.lst h t=>.lst (h1 _ _ h) (aB.keep h1 h2 t)
 | _,_,.tup h t=>.tup (h2 _ _ h) (aB.keep h1 h2 t)
theorem aB.keep (h1:∀ a xs,SqL K H a xs->SqL K H' a xs) (h2:∀ a xs,SqT K H a xs->SqT K H' a xs):∀ {v:List V}{d:List PyData},aB K H v d->aB K H' v d
 | _,_,.nil=>.nil
 | _,_,.cons r t=>.cons (Den.keep h1 h2 r) (aB.keep h1 h2 t)
end
theorem ae.fV {a:Addr}{xs:List V} (e:ae H H') (h:SqT K H a xs):SqT K H' a xs:=by
 rcases h with (h | ⟨o,h⟩) | h
 ·exact .inl (.inl (e _ _ h))
 ·exact .inl (.inr ⟨o,e _ _ h⟩)
 ·exact .inr h
theorem Den.same {v:V}{d:PyData} (e:ae H H') (h:Den K H v d):Den K H' v d:=h.keep (λ_ _ q=>e.seq q) λ_ _ q=>e.fV q
theorem aB.same {v:List V}{d:List PyData} (e:ae H H') (h:aB K H v d):aB K H' v d:=h.keep (λ_ _ q=>e.seq q) λ_ _ q=>e.fV q
mutual
theorem Den.lay:∀ {v:V}{d:PyData},Den K H v d->d.canLay0=true
 | _,_,.non=>rfl
 | _,_,.bl b=>rfl
 | _,_,.int i=>rfl
 | _,_,.str h=>h
 | _,_,.lst h t=>aB.lay t
 | _,_,.tup h t=>aB.lay t
theorem aB.lay:∀ {v:List V}{d:List PyData},aB K H v d->PyData.canLayAll0 d=true
 | _,_,.nil=>rfl
 | _,_,.cons r t=>by rw [PyData.canLayAll0,Den.lay r,aB.lay t];rfl
end
end
section
variable {X:Cx}{pins:List (Addr×Obj)}{σ:St}{H:Hp}{s:Shared}
mutual
theorem Inv.reads (I:Inv X pins σ H s):∀ {v:V}{d:PyData}{u:Value},Den X.K H v d->RelV v u->∃ as,Reads s.heap u d as
 | _,_,_,.non,r=>by cases r;exact ⟨_,.none⟩
 | _,_,_,.bl b,r=>by cases r;exact ⟨_,.bool b⟩
 | _,_,_,.int i,r=>by obtain ⟨t,rfl⟩:=r;exact ⟨_,.int i t⟩
 | _,_,_,.str (x:=x) h,r=>by obtain ⟨t,rfl⟩:=r;exact ⟨_,.str x t⟩
 | _,_,_,.lst h t,r=>by
  cases r;obtain ⟨its,rv,⟨o,n,e,c,_,d⟩,_⟩:=I.list h;obtain ⟨as,ra⟩:=I.readsAll t rv;exact ⟨_,.list e c d (by simpa using ra)⟩
 | _,_,_,.tup h t,r=>by
  cases r;obtain ⟨its,rv,⟨o,e,c,n,d⟩,_⟩:=I.tuple h;obtain ⟨as,ra⟩:=I.readsAll t rv;exact ⟨_,.tuple e c d (by simpa using ra)⟩
theorem Inv.readsAll (I:Inv X pins σ H s):∀ {vs:List V}{ds:List PyData}{us:List Value},aB X.K H vs ds->aY vs us->∃ as,ReadsAll s.heap us ds as
 | _,_,_,.nil,.nil=>⟨_,.nil⟩
 | _,_,_,.cons h t,.cons r rr=>by
  obtain ⟨as,ra⟩:=I.reads h r;obtain ⟨bs,rb⟩:=I.readsAll t rr;exact ⟨_,.cons ra rb⟩
end
def rV (K:PySem.W.Frag):R2:=λx y H Q=>∃ d e,Den K H x d/\Den K H y e/\d.depth<=100/\Q (.bl (PyData.eqv d e)) H
def qt (K:PySem.W.Frag):R2:=λx y H Q=>∃ d e,Den K H x d/\Den K H y e/\d.depth<=100/\Q (.bl (!PyData.eqv d e)) H
theorem pw {k a b:Nat}{A:Around} (hr:cn k A) (h:a<=100):A.units+min a b<cLine:=by
 have:=hr.un;have:min a b<=a:=Nat.min_le_left _ _;lia
theorem mK {k:Nat} (hr:cn k X.A):OpR X (compareOp .Eq) (rV X.K):=by
 intro pins s σ H x y v u Q I rx ry h;obtain ⟨d,e,hd,he,hl,q⟩:=h;obtain ⟨as,ra⟩:=I.reads hd rx;obtain ⟨bs,rb⟩:=I.reads he ry;exact SeqAt.compareEq_reads ra rb hd.lay he.lay (pw hr hl) ⟨.bl _,H,I,rfl,q⟩
theorem iJ {k:Nat} (hr:cn k X.A):OpR X (compareOp .NotEq) (qt X.K):=by
 intro pins s σ H x y v u Q I rx ry h;obtain ⟨d,e,hd,he,hl,q⟩:=h;obtain ⟨as,ra⟩:=I.reads hd rx;obtain ⟨bs,rb⟩:=I.reads he ry;exact SeqAt.compareNe_reads ra rb hd.lay he.lay (pw hr hl) ⟨.bl _,H,I,rfl,q⟩
theorem lR:OpR X (compareOp .LtE) (λx y H Q=>∃ i j,x = .str i/\y = .str j/\Q (.bl (!decide (j.cps.toList<i.cps.toList))) H):=by
 intro pins s σ H x y v u Q I rx ry h;obtain ⟨i,j,rfl,rfl,q⟩:=h;obtain ⟨t,rfl⟩:=rx;obtain ⟨t',rfl⟩:=ry;exact PySem.P.le_str ⟨.bl _,H,I,rfl,q⟩
def MT:V->Option Int->Option Int->Hp->VK->Prop:=λx lo hi H Q=>∃ z,x = .str z/\z.length<=sizeLine/\Q (.str (Txt.slice z lo hi)) H
theorem Dr:SlR X MT:=by
 intro pins s σ H x v vl vu lo hi sl Q I rx hs pl pu h;obtain ⟨z,rfl,hz,q⟩:=h;obtain ⟨t,rfl⟩:=rx;refine ⟨"str",_,F.slot_str_getitem.lookup,typeIs_str _ _ _,?_⟩;have fin:∀ t' k,EP X pins σ Q (.str (Txt.slice z lo hi) t') { s with toks:=k }:=λt' k=>⟨.str _,H,I.tok _,⟨_,rfl⟩,q⟩;cases pl with
 | none=>
  cases pu with
  | none=>exact wpAny_getItem_str_slice (l:=none) (u:=none) (st:=none) hs rfl (post_val_or_str ⟨NM (Txt.slice_le z _ _) hz,fin⟩)
  | int j u=>exact wpAny_getItem_str_slice (l:=none) (u:=some (j,u)) (st:=none) hs rfl (post_val_or_str ⟨NM (Txt.slice_le z _ _) hz,fin⟩)
 | int i t1=>
  cases pu with
  | none=>exact wpAny_getItem_str_slice (l:=some (i,t1)) (u:=none) (st:=none) hs rfl (post_val_or_str ⟨NM (Txt.slice_le z _ _) hz,fin⟩)
  | int j u=>exact wpAny_getItem_str_slice (l:=some (i,t1)) (u:=some (j,u)) (st:=none) hs rfl (post_val_or_str ⟨NM (Txt.slice_le z _ _) hz,fin⟩)
theorem uz:∀ (l:List (Str×Tok)),aY ((l.map (·.1)).map V.str) (strValues l)
 | []=>.nil
 | p::r=>.cons ⟨p.2,rfl⟩ (uz r)
def IR:V->List V->Hp->VK->Prop:=λx vs H Q=>∃ z y,x = .str z/\vs=[.str y]/\y.length≠0/\z.length+2<=sizeLine/\∀ l,H l=none->Q (.ref l) (upd H l (.lst ((Txt.split z y).map V.str)))
theorem split_len (z y:Str) (hz:z.length+2<=sizeLine):(Builtin.Str.partsBetween z (Builtin.Str.occurrences z y 0 z.length (z.length+1)) y.length).length<=sizeLine:=by
 have e1:=StrLaws.occ_length_le z y 0 z.length (z.length+1)
 (rw [length_partsBetween];lia)
theorem fF:MtR X "str.split" IR:=by
 intro pins s σ H x vs v us Q I rx rv h;obtain ⟨z,y,rfl,rfl,hy,hz,q⟩:=h;obtain ⟨t,rfl⟩:=rx;obtain ⟨u,rfl,ru⟩:=rv.one;obtain ⟨t',rfl⟩:=ru;have hn:=split_len z y hz;have fin:∀ (l:List (Str×Tok)) (tk:Nat),l.map (·.1)=Txt.split z y->EP X pins σ Q (.ref s.heap.objs.size) { s with heap:=s.heap.push { cls:=.type "list",data:=.seq (strValues l).toArray },toks:=tk }:=λl tk e=>by
  have hl:((Txt.split z y).map V.str).length<=sizeLine:=by
   rw [NE];unfold Txt.split
   split
   ·show 1<=sizeLine;lia
   ·split
    ·show 1<=sizeLine;lia
    ·exact hn
  refine ⟨.ref s.heap.objs.size,_,I.laid (o:=.lst ((Txt.split z y).map V.str)) (λb ob e=>Heap.get?_push_of_some _ e) (NH _) ⟨hl,strValues l,0,?_,Heap.get?_push_size _ rfl⟩,rfl,q _ (I.hok.fresh (NH _))⟩;rw [<-e];exact uz l
 have hy':(y.length == 0)=false:=by simpa using hy
 cases h1:(decide (z.length<y.length) || decide (Builtin.Str.strKind z<Builtin.Str.strKind y))
 ·cases hf:(Builtin.Str.occurrences z y 0 z.length (z.length+1)).isEmpty
  ·refine call_meets F.slot_str_split (typeIs_str _ _ _) F.entry_str_split (F.args_str_split_2 _ _) (meets_str_split_sep z y t t' h1 hy' hf (by lia) hn) ?_;show wants (EP X pins σ Q) X.xe _ { s with toks:=_,heap:=s.heap.push { cls:=.type "list",data:=.seq (strsFrom s.toks (Builtin.Str.partsBetween z (Builtin.Str.occurrences z y 0 z.length (z.length+1)) y.length)).toArray } };rw [strsFrom_eq];exact fin (numbered s.toks _) _ ((numbered_texts _ _).trans ((if_neg (ne_true_of_eq_false h1)).trans (if_neg (ne_true_of_eq_false hf))).symm)
  ·exact call_meets F.slot_str_split (typeIs_str _ _ _) F.entry_str_split (F.args_str_split_2 _ _) (meets_str_split_not_found z y t t' h1 hy' hf)
    (fin [(z,t)] s.toks ((if_neg (ne_true_of_eq_false h1)).trans (if_pos hf)).symm)
 ·exact call_meets F.slot_str_split (typeIs_str _ _ _) F.entry_str_split (F.args_str_split_2 _ _) (meets_str_split_cannot_occur z y t t' h1)
   (fin [(z,t)] s.toks (if_pos h1).symm)
theorem zL:∀ {ys:List Str}{us:List Value},aY (ys.map V.str) us->∃ l:List (Str×Tok),us=strValues l/\l.map (·.1)=ys
 | [],_,.nil=>⟨[],rfl,rfl⟩
 | y::ys,_,.cons r t=>by
  obtain ⟨tk,rfl⟩:=r;obtain ⟨l,rfl,rfl⟩:=zL t;exact ⟨(y,tk)::l,rfl,rfl⟩
def rJoin (K:PySem.W.Frag):V->List V->Hp->VK->Prop:=λx vs H Q=>∃ z l ys,x = .str z/\vs=[.ref l]/\SqL K H l (ys.map V.str)/\JoinOk z ys=true/\Q (.str (Txt.join z ys)) H
theorem pU:MtR X "str.join" (rJoin X.K):=by
 intro pins s σ H x vs v us Q I rx rv h;obtain ⟨z,l,ys,rfl,rfl,hl,hok,q⟩:=h;obtain ⟨t,rfl⟩:=rx;obtain ⟨u,rfl,ru⟩:=rv.one;cases ru;obtain ⟨its,r,pl,_⟩:=I.list hl;obtain ⟨l',rfl,e⟩:=zL r;exact SC.join pl.isList e hok λt' k=>⟨.str _,H,I.tok _,⟨_,rfl⟩,q⟩
end
mutual
def ltv:PyData->PyData->Bool
 | .int a,.int b=>decide (a<b)
 | .str x,.str y=>decide (x.cps.toList<y.cps.toList)
 | .list xs,.list ys=>aL xs ys
 | .tuple xs,.tuple ys=>aL xs ys
 | _,_=>false
def aL:List PyData->List PyData->Bool
 | [],[]=>false
 | [],_::_=>true
 | _::_,[]=>false
 | x::xs,y::ys=>if PyData.eqv x y=true then aL xs ys else ltv x y
end
mutual
def nC:PyData->PyData->Bool
 | .int _,.int _=>true
 | .str _,.str _=>true
 | .list xs,.list ys=>cC xs ys
 | .tuple xs,.tuple ys=>cC xs ys
 | _,_=>false
def cC:List PyData->List PyData->Bool
 | [],_=>true
 | _::_,[]=>true
 | x::xs,y::ys=>if PyData.eqv x y=true then cC xs ys else nC x y
end
theorem a7 (x y:PyData) (xs ys:List PyData):aL (x::xs) (y::ys)=if PyData.eqv x y=true then aL xs ys else ltv x y:=by rw [aL]
theorem fJ (x y:PyData) (xs ys:List PyData):cC (x::xs) (y::ys)=if PyData.eqv x y=true then cC xs ys else nC x y:=by rw [cC]
def ym (A:Around) (s:Shared) (y x:Value) (b:Bool):Prop:=
 ∀ (prog:Program) (w:World) (E:Value->Shared->Prop) (Q:Value->Shared->Prop),Q (.bool b) s->wpAny (model prog w) A (richCompare .Lt y x) Q E s
def nL (xs ys:List PyData):Prop:=∀ x y,x∈xs->y∈ys->nC x y=true->∀ (A:Around) (s:Shared) (a b:Value) (as bs:List Addr),Reads s.heap a x as->Reads s.heap b y bs->x.canLay0=true->y.canLay0=true->A.units+x.depth<cLine->ym A s a b (ltv x y)
theorem nL.tail {x y:PyData}{xs ys:List PyData} (h:nL (x::xs) (y::ys)):nL xs ys:=λa b ha hb=>h a b (NN _ ha) (NN _ hb)
section
open PySem.SeqAt
open PySem.AutoSeq1 (wpAny_loadPart')
open PySem.MeetsSeq PySem.MeetsSeq2 PySem.MeetsSeq3
theorem fe {x:PyData}{xs:List PyData}{k:Nat} (h:k+PyData.depthAll (x::xs)<cLine):k+x.depth<cLine:=by
 rw [PyData.depthAll] at h;have:=Nat.le_max_left x.depth (PyData.depthAll xs);lia
theorem mq {x:PyData}{xs:List PyData}{k:Nat} (h:k+PyData.depthAll (x::xs)<cLine):k+PyData.depthAll xs<cLine:=by
 rw [PyData.depthAll] at h;have:=Nat.le_max_right x.depth (PyData.depthAll xs);lia
theorem vJ {k a b:Nat} (h:k+a<cLine):k+min a b<cLine:=by
 have:=Nat.min_le_left a b;lia
def Sq (T:String) (hp:Heap) (a:Addr) (its:Array Value):Prop:=∃ n dd sl,hp.get? a=some { cls:=.type T,dict:=dd,data:=.seq its n,slots:=sl }
structure Sqs (hp:Heap) (i:Nat) (its gX:Array Value) (xs ys:List PyData):Prop where
 in1:i<=its.size
 in2:i<=gX.size
 r1:∃ as,ReadsAll hp (its.toList.drop i) xs as
 r2:∃ bs,ReadsAll hp (gX.toList.drop i) ys bs
theorem zE {its:Array Value}{i:Nat} (h:its.size<=i):its[((i:Nat):Int).toNat]? = none:=by
 rw [OG];exact OY h
theorem some_at {its:Array Value}{i:Nat} (h:i<its.size):its[((i:Nat):Int).toNat]? = some its[i]:=by
 rw [OG];exact Oj h
theorem BX (i:Nat):((i:Int)+1)=((i+1:Nat):Int):=rfl
theorem Sqs.J7 {hp:Heap}{i:Nat}{its gX:Array Value}{xs ys:List PyData} (q:Sqs hp i its gX xs ys):xs.length=its.size - i:=by
 obtain ⟨as,r⟩:=q.r1;have:=ReadsAll.length _ _ _ r;rw [List.length_drop,N2] at this;exact this.symm
theorem Sqs.Jq {hp:Heap}{i:Nat}{its gX:Array Value}{xs ys:List PyData} (q:Sqs hp i its gX xs ys):ys.length=gX.size - i:=by
 obtain ⟨bs,r⟩:=q.r2;have:=ReadsAll.length _ _ _ r;rw [List.length_drop,N2] at this;exact this.symm
theorem Sqs.over {hp:Heap}{i:Nat}{its gX:Array Value}{xs ys:List PyData} (q:Sqs hp i its gX xs ys) (h:its.size<=i\/gX.size<=i):aL xs ys=decide (its.size<gX.size)/\aL ys xs=decide (its.size > gX.size):=by
 have z1:=q.J7;have z2:=q.Jq;have i1:=q.in1;have i2:=q.in2;cases xs with
 | nil=>
  rw [OK] at z1;cases ys with
  | nil=>
   rw [OK] at z2;rw [aL];exact ⟨(decide_eq_false (by lia)).symm,(decide_eq_false (by lia)).symm⟩
  | cons y ys=>
   rw [N4] at z2;rw [aL,aL];exact ⟨(decide_eq_true (by lia)).symm,(decide_eq_false (by lia)).symm⟩
 | cons x xs=>
  rw [N4] at z1;cases ys with
  | nil=>
   rw [OK] at z2;rw [aL,aL];exact ⟨(decide_eq_false (by lia)).symm,(decide_eq_true (by lia)).symm⟩
  | cons y ys=>
   rw [N4] at z2;lia
theorem Sqs.next {hp:Heap}{i:Nat}{its gX:Array Value}{xs ys:List PyData} (q:Sqs hp i its gX xs ys) (h1:i<its.size) (h2:i<gX.size):∃ x xs' y ys',xs=x::xs'/\ys=y::ys'/\(∃ as,Reads hp its[i] x as)/\(∃ bs,Reads hp gX[i] y bs)/\Sqs hp (i+1) its gX xs' ys':=by
 obtain ⟨_,_,⟨as,ra⟩,bs,rb⟩:=q;rw [Of (by rw [N2];exact h1),Array.getElem_toList] at ra;rw [Of (by rw [N2];exact h2),Array.getElem_toList] at rb;cases ra with
 | cons r1 t1=>
  cases rb with
  | cons r2 t2=>exact ⟨_,_,_,_,rfl,rfl,⟨_,r1⟩,⟨_,r2⟩,h1,h2,⟨_,t1⟩,⟨_,t2⟩⟩
theorem vX {x:PyData}{xs:List PyData} (h:PyData.canLayAll0 (x::xs)=true):x.canLay0=true/\PyData.canLayAll0 xs=true:=by simpa [PyData.canLayAll0] using h
theorem rT (l b:Addr) (items dX:Array Value) (xs ys:List PyData) (ih:nL xs ys) (b9:cC xs ys=true) (hlx:PyData.canLayAll0 xs=true) (hly:PyData.canLayAll0 ys=true) :
  Meets (Builtin.«tuple.__lt__» ⟨[.ref l,.ref b],[]⟩)
   (λA R s=>Sq "tuple" s.heap l items/\Sq "tuple" s.heap b dX/\Sqs s.heap 0 items dX xs ys/\A.in1.units+PyData.depthAll xs<cLine/\R (.ok (.ret (.bool (aL xs ys)))) s):=
 .of_wp λprog w A R s h=>by
  obtain ⟨hp,g,d,tk,os⟩:=s;obtain ⟨⟨n,dd,sl,hl⟩,⟨n2,dd2,sl2,hb⟩,⟨_,_,⟨as,hra⟩,bs,hrb⟩,hu,h⟩:=h;rw [List.drop_zero] at hra hrb;have f2:=AutoSeq1.sub_tuple_tuple;have z1:items.size=xs.length:=by rw [<-ReadsAll.length _ _ _ hra];simp
  have z2:dX.size=ys.length:=by rw [<-ReadsAll.length _ _ _ hrb];simp
  wp_walk using wpAny_loadPart' hl,wpAny_loadPart' hb,wpAny_forIn_list _ (λrest b s'=>b.1=none/\s' = ⟨hp,g,d,tk,os⟩/\∃ (vs ws:List Value) (xs' ys':List PyData) (as bs:List Addr),rest=vs.zip ws /\
   ReadsAll hp vs xs' as/\ReadsAll hp ws ys' bs/\nL xs' ys'/\cC xs' ys' = true/\PyData.canLayAll0 xs' = true/\PyData.canLayAll0 ys' = true/\A.in1.units+PyData.depthAll xs' < cLine/\xs'.length+dX.size=ys'.length+items.size/\R (.ok (.ret (.bool (aL xs' ys')))) ⟨hp,g,d,tk,os⟩) _
  case turn=>
   rintro ⟨y,x⟩ rest b s' ⟨hb',rfl,vs,ws,xs',ys',as,bs,hz,hvi,hwi,iht,hct,MR,Mw,hu',hlen,hR⟩;cases hvi with
   | nil=>rw [List.zip_nil_left] at hz;cases hz
   | @cons v0 vs0 d0 ds0 as0 as1 r1 hvi'=>
    cases hwi with
    | nil=>rw [List.zip_nil_right] at hz;cases hz
    | @cons w0 ws0 e0 es0 bs0 bs1 r2 hwi'=>
     rw [List.zip_cons_cons] at hz;injection hz with hyx hrest;injection hyx with hy hx;subst hy hx;rw [a7] at hR;rw [fJ] at hct;have HX:d0.canLay0=true/\PyData.canLayAll0 ds0=true:=by simpa [PyData.canLayAll0] using MR
     have II:e0.canLay0=true/\PyData.canLayAll0 es0=true:=by simpa [PyData.canLayAll0] using Mw
     simp only [N4] at hlen;have he:=eqAt_reads d0 e0 A.in1 ⟨hp,g,d,tk,os⟩ y x as0 bs0 r1 r2 HX.1 II.1 (vJ (fe hu'));refine wpAny_bind (he prog w _ _ ?_);cases hq:PyData.eqv d0 e0 with
     | true=>
      rw [hq,if_pos rfl] at hR hct
      wp_walk
      exact ⟨rfl,rfl,_,_,_,_,_,_,hrest,hvi',hwi',iht.tail,hct,HX.2,II.2,mq hu',by lia,hR⟩
     | false=>
      rw [hq,if_neg NV] at hR hct;have hri:=iht d0 e0 NT NT hct A.in1 ⟨hp,g,d,tk,os⟩ y x as0 bs0 r1 r2 HX.1 II.1 (fe hu') prog w
      wp_walk using hri
      exact ⟨_,rfl,by simpa using hR⟩
  case fin=>
   rintro ⟨b1,b2⟩ s' ⟨hb',rfl,vs,ws,xs',ys',as,bs,hz,hvi,hwi,_,_,_,_,_,hlen,hR⟩;simp only at hb';subst hb';have hv:aL xs' ys' = decide (items.size<dX.size):=by
    cases hvi with
    | nil=>
     cases hwi with
     | nil=>
      simp only [OK] at hlen;rw [aL];exact (decide_eq_false (by lia)).symm
     | cons _ _=>
      simp only [OK,N4] at hlen;rw [aL];exact (decide_eq_true (by lia)).symm
    | cons _ _=>
     cases hwi with
     | nil=>
      simp only [OK,N4] at hlen;rw [aL];exact (decide_eq_false (by lia)).symm
     | cons _ _=>
      rw [List.zip_cons_cons] at hz;cases hz
   rw [hv] at hR
   wp_walk
   exact ⟨_,rfl,by simpa [Builtin.Tuple.tupleCompareSizes] using hR⟩
  case h=>
   exact ⟨rfl,rfl,items.toList,dX.toList,xs,ys,as,bs,rfl,hra,hrb,ih,b9,hlx,hly,hu,by lia,h⟩
theorem vh (l b:Addr) (items dX:Array Value) (k:Nat):∀ (i:Nat) (xs ys:List PyData),items.size - i=k->nL xs ys->cC xs ys=true->PyData.canLayAll0 xs=true->PyData.canLayAll0 ys=true ->
  Meets (Builtin.«list.__eq__.loop» ⟨[.ref l,.ref b,rawInt i,rawInt 0],[]⟩)
   (λA R s=>Sq "list" s.heap l items/\Sq "list" s.heap b dX/\Sqs s.heap i items dX xs ys/\A.in1.units+PyData.depthAll xs<cLine/\R (.ok (.ret (.bool (aL xs ys)))) s):=by
 induction k with
 | zero=>
  intro i xs ys hk _ _ _ _ prog w A R s h;obtain ⟨hp,g,d,tk,os⟩:=s;obtain ⟨⟨n,dd,sl,hl⟩,⟨n2,dd2,sl2,hb⟩,sq,_,h⟩:=h;rw [(sq.over (.inl (by lia))).1] at h
  wp_walk using wpAny_loadPart' hl,wpAny_loadPart' hb
  rw [zE (its:=items) (i:=i) (by lia)]
  wp_walk using wpAny_loadPart' hl,wpAny_loadPart' hb
  exact h
 | succ k ihk=>
  intro i xs ys hk ih b9 hlx hly prog w A R s h;obtain ⟨hp,g,d,tk,os⟩:=s;obtain ⟨L1,L2,sq,hu,h⟩:=h;obtain ⟨n,dd,sl,hl⟩:=id L1;obtain ⟨n2,dd2,sl2,hb⟩:=id L2;have lt1:i<items.size:=by lia
  wp_walk using wpAny_loadPart' hl,wpAny_loadPart' hb
  rw [some_at lt1];rcases Oi i dX.size with lt2 | ge2
  ·obtain ⟨x,xs,y,ys,rfl,rfl,⟨as,rx⟩,⟨bs,ry⟩,sq'⟩:=sq.next lt1 lt2;obtain ⟨lx,lxs⟩:=vX hlx;obtain ⟨ly,lys⟩:=vX hly;rw [a7] at h;rw [fJ] at b9;rw [some_at lt2];refine wpAny_bind (eqAt_reads x y A.in1 _ _ _ as bs rx ry lx ly (vJ (fe hu)) prog w _ _ ?_);cases hq:PyData.eqv x y
   ·simp only [hq,Oo,if_false] at h b9;have less:=ih x y NT NT b9 A.in1 ⟨hp,g,d,tk,os⟩ _ _ as bs rx ry lx ly (fe hu) prog w
    wp_walk using wpAny_loadPart' hl,wpAny_loadPart' hb
    rw [some_at lt1,some_at lt2]
    wp_walk using less
    exact h
   ·simp only [hq,if_true] at h b9
    wp_walk
    rw [BX];have on:=ihk (i+1) xs ys (by lia) ih.tail b9 lxs lys prog w A R _ ⟨L1,L2,sq',mq hu,h⟩;exact ⟨plainId_quiet plain_eq_loop _,codeAny_builtin entry_eq_loop (by rw [Around.under_plainId plain_eq_loop];exact on)⟩
  ·rw [(sq.over (.inr ge2)).1] at h;rw [zE (its:=dX) (i:=i) ge2]
   wp_walk using wpAny_loadPart' hl,wpAny_loadPart' hb
   exact h
theorem uL (l b:Addr) (items dX:Array Value) (xs ys:List PyData) (ih:nL xs ys) (b9:cC xs ys=true) (hlx:PyData.canLayAll0 xs=true) (hly:PyData.canLayAll0 ys=true) :
  Meets (Builtin.«list.__lt__» ⟨[.ref l,.ref b],[]⟩)
   (λA R s=>Sq "list" s.heap l items/\Sq "list" s.heap b dX/\Sqs s.heap 0 items dX xs ys/\A.in1.units+PyData.depthAll xs<cLine/\R (.ok (.ret (.bool (aL xs ys)))) s):=by
 intro prog w A R s h;have on:=vh l b items dX _ 0 xs ys rfl ih b9 hlx hly prog w A R s h;obtain ⟨hp,g,d,tk,os⟩:=s;obtain ⟨⟨n,dd,sl,hl⟩,⟨n2,dd2,sl2,hb⟩,_⟩:=h;have both:=AutoSeq1.sub_list_list
 wp_walk using wpAny_loadPart' hl,wpAny_loadPart' hb
 exact ⟨plainId_quiet plain_eq_loop _,codeAny_builtin entry_eq_loop (by rw [Around.under_plainId plain_eq_loop];exact on)⟩
theorem oH {x:PyData}:∀ {xs:List PyData},x∈xs->x.depth<=PyData.depthAll xs
 | y::ys,h=>by
  rw [PyData.depthAll]
  (rcases NZ.mp h with e | h)
  ·subst e;exact Nat.le_max_left _ _
  ·exact NM (oH h) (Nat.le_max_right _ _)
end
section
open PySem.SeqAt
open PySem.MeetsSeq PySem.MeetsSeq2 PySem.MeetsSeq3
theorem yE {A:Around}{s:Shared}{l b:Addr}{o o2:Obj}{vs ws:Array Value}{n n2:Nat}{xs ys:List PyData}{as bs:List Addr} (h1:s.heap.get? l=some o) (c1:o.cls = .type "list") (d1:o.data = .seq vs n) (h2:s.heap.get? b=some o2) (c2:o2.cls = .type "list") (d2:o2.data = .seq ws n2)
  (ra:ReadsAll s.heap vs.toList xs as) (rb:ReadsAll s.heap ws.toList ys bs) (ih:nL xs ys) (b9:cC xs ys=true) (hlx:PyData.canLayAll0 xs=true) (hly:PyData.canLayAll0 ys=true) (hu:A.units+(PyData.depthAll xs+1)<cLine):ym A s (.ref l) (.ref b) (aL xs ys):=λprog w E Q h=>by
 obtain ⟨cls,dd,data,sl⟩:=o;obtain ⟨JA,dd2,data2,sl2⟩:=o2;simp only at c1 d1 c2 d2;subst c1 d1 c2 d2;exact richCompare_meets_room (op:=.Lt) ⟨_,h1,rfl⟩ ⟨_,h2,rfl⟩ F.slot_list_lt F.entry_list_lt (F.args_list_lt_2 _ _) (uL l b vs ws xs ys ih b9 hlx hly)
  ⟨⟨_,_,_,h1⟩,⟨_,_,_,h2⟩,⟨NW _,NW _,⟨_,ra⟩,⟨_,rb⟩⟩,by show A.units+1+PyData.depthAll xs<cLine;lia,show Value.bool (aL xs ys)≠Value.notImplemented/\Q (.bool (aL xs ys)) s from ⟨(λx=>nomatch x),h⟩⟩ (by lia)
theorem xG {A:Around}{s:Shared}{l b:Addr}{o o2:Obj}{vs ws:Array Value}{n n2:Nat}{xs ys:List PyData}{as bs:List Addr} (h1:s.heap.get? l=some o) (c1:o.cls = .type "tuple") (d1:o.data = .seq vs n) (h2:s.heap.get? b=some o2) (c2:o2.cls = .type "tuple") (d2:o2.data = .seq ws n2)
  (ra:ReadsAll s.heap vs.toList xs as) (rb:ReadsAll s.heap ws.toList ys bs) (ih:nL xs ys) (b9:cC xs ys=true) (hlx:PyData.canLayAll0 xs=true) (hly:PyData.canLayAll0 ys=true) (hu:A.units+(PyData.depthAll xs+1)<cLine):ym A s (.ref l) (.ref b) (aL xs ys):=λprog w E Q h=>by
 obtain ⟨cls,dd,data,sl⟩:=o;obtain ⟨JA,dd2,data2,sl2⟩:=o2;simp only at c1 d1 c2 d2;subst c1 d1 c2 d2;exact richCompare_meets_room (op:=.Lt) ⟨_,h1,rfl⟩ ⟨_,h2,rfl⟩ F.slot_tuple_lt F.entry_tuple_lt (F.args_tuple_lt_2 _ _) (rT l b vs ws xs ys ih b9 hlx hly)
  ⟨⟨_,_,_,h1⟩,⟨_,_,_,h2⟩,⟨NW _,NW _,⟨_,ra⟩,⟨_,rb⟩⟩,by show A.units+1+PyData.depthAll xs<cLine;lia,show Value.bool (aL xs ys)≠Value.notImplemented/\Q (.bool (aL xs ys)) s from ⟨(λx=>nomatch x),h⟩⟩ (by lia)
theorem xt {A:Around}{s:Shared}{a b:Value}{i j:Int}{as bs:List Addr} (ra:Reads s.heap a (.int i) as) (rb:Reads s.heap b (.int j) bs):ym A s a b (ltv (.int i) (.int j)):=by
 cases ra with
 | int i t=>
  cases rb with
  | int j u=>intro prog w E Q h;exact HT.Dg A s i t j u prog w E Q (by rw [ltv] at h;exact h)
theorem xO {A:Around}{s:Shared}{a b:Value}{x y:Str}{as bs:List Addr} (ra:Reads s.heap a (.str x) as) (rb:Reads s.heap b (.str y) bs):ym A s a b (ltv (.str x) (.str y)):=by
 cases ra with
 | str x t=>
  cases rb with
  | str y u=>intro prog w E Q h;exact (PyProof.Rows.lt_str (by rw [ltv] at h;exact h):wpAny (model prog w) A (compareOp .Lt (.str x t) (.str y u)) Q E s)
theorem tD {da db:PyData} (h:nC da db=true):(∃ i j,da = .int i/\db = .int j)\/(∃ x y,da = .str x/\db = .str y)\/(∃ xs ys,da = .list xs/\db = .list ys/\cC xs ys=true)\/∃ xs ys,da = .tuple xs/\db = .tuple ys/\cC xs ys=true:=by
 unfold nC at h
 split at h
 ·exact .inl ⟨_,_,rfl,rfl⟩
 ·exact .inr (.inl ⟨_,_,rfl,rfl⟩)
 ·exact .inr (.inr (.inl ⟨_,_,rfl,rfl,h⟩))
 ·exact .inr (.inr (.inr ⟨_,_,rfl,rfl,h⟩))
 ·cases h
theorem ji:∀ (n:Nat) (da db:PyData),da.depth<=n->nC da db=true->∀ (A:Around) (s:Shared) (a b:Value) (as bs:List Addr),Reads s.heap a da as->Reads s.heap b db bs->da.canLay0=true->db.canLay0=true->A.units+da.depth<cLine->ym A s a b (ltv da db):=by
 intro n
 induction n with
 | zero=>
  intro da db hd hc A s a b as bs ra rb ha hb hu;rcases tD hc with ⟨i,j,rfl,rfl⟩ | ⟨x,y,rfl,rfl⟩ | ⟨xs,ys,rfl,rfl,hc⟩ | ⟨xs,ys,rfl,rfl,hc⟩
  ·exact xt ra rb
  ·exact xO ra rb
  ·rw [PyData.depth] at hd;lia
  ·rw [PyData.depth] at hd;lia
 | succ n ih=>
  intro da db hd hc A s a b as bs ra rb ha hb hu;rcases tD hc with ⟨i,j,rfl,rfl⟩ | ⟨x,y,rfl,rfl⟩ | ⟨xs,ys,rfl,rfl,hc⟩ | ⟨xs,ys,rfl,rfl,hc⟩
  ·exact xt ra rb
  ·exact xO ra rb
  ·rw [PyData.depth] at hd hu;cases ra with
   | @list a o vs k xs as1 h1 c1 d1 r1=>
    cases rb with
    | @list b o2 ws k2 ys bs1 h2 c2 d2 r2=>
     rw [ltv];exact yE h1 c1 d1 h2 c2 d2 r1 r2 (λx y hx hy hxy A' s' a' b' as' bs' ra' rb' la lb hu'=>ih x y (by have:=oH hx;lia) hxy A' s' a' b' as' bs' ra' rb' la lb hu') hc ha hb hu
  ·rw [PyData.depth] at hd hu;cases ra with
   | @tuple a o vs k xs as1 h1 c1 d1 r1=>
    cases rb with
    | @tuple b o2 ws k2 ys bs1 h2 c2 d2 r2=>
     rw [ltv];exact xG h1 c1 d1 h2 c2 d2 r1 r2 (λx y hx hy hxy A' s' a' b' as' bs' ra' rb' la lb hu'=>ih x y (by have:=oH hx;lia) hxy A' s' a' b' as' bs' ra' rb' la lb hu') hc ha hb hu
variable {prog:Program}{w:World}{A:Around}{E:Value->Shared->Prop}{s:Shared}
theorem Bl {x y:Value}{b:Bool}{Q:Bool->Shared->Prop} (h:ym A s x y b) (q:Q b s):wpAny (model prog w) A (oneLt' false x y) Q E s:=
 PySem.W.kat_one x y (h prog w E _ q)
theorem oneLt_str {x y:Str}{t u:Tok}{Q:Bool->Shared->Prop} (q:Q (decide (x.cps.toList<y.cps.toList)) s):wpAny (model prog w) A (oneLt' true (.str x t) (.str y u)) Q E s:=by
 have:=PySem.W.kas_lt_str (prog:=prog) (w:=w) (A:=A) (E:=E) (s:=s) (a:=x) (c:=y) (t:=t) (u:=u) (Q:=Q) q
 rwa [keyLt'_oneType] at this
theorem zm {b:Bool}{x y:Addr}{ox oy:Obj}{vx vy:Array Value}{n k:Nat}{xs ys:List PyData}{as bs:List Addr}{Q:Bool->Shared->Prop} (hx:s.heap.get? x=some ox) (dx:ox.data = .seq vx n) (hy:s.heap.get? y=some oy) (dy:oy.data = .seq vy k)
  (ra:ReadsAll s.heap vx.toList xs as) (rb:ReadsAll s.heap vy.toList ys bs) (ha:PyData.canLayAll0 xs=true) (hb:PyData.canLayAll0 ys=true) (hc:cC xs ys=true) (hf:∀ d e,xs.head? = some d->ys.head? = some e->(b=true->(∃ i j,d = .int i/\e = .int j)\/∃ i j,d = .str i/\e = .str j))
  (hu:A.units+PyData.depthAll xs<cLine) (q:Q (aL xs ys) s):wpAny (model prog w) A (keyLt' (tuples' b) (.ref x) (.ref y)) Q E s:=by
 refine PySem.W.kat_lt hx dx hy dy ?_;have z1:vx.size=xs.length:=by rw [<-ReadsAll.length _ _ _ ra];simp
 have z2:vy.size=ys.length:=by rw [<-ReadsAll.length _ _ _ rb];simp
 have key:∀ (vs ws:List Value) (xs' ys':List PyData) (as bs:List Addr) (i:Nat),ReadsAll s.heap vs xs' as->ReadsAll s.heap ws ys' bs->PyData.canLayAll0 xs' = true->PyData.canLayAll0 ys' = true->cC xs' ys' = true->A.units+PyData.depthAll xs' < cLine ->
   xs'.length+vy.size=ys'.length+vx.size->(i=0->xs' = xs/\ys' = ys)->Q (aL xs' ys') s->PySem.W.KatLex prog w A b (decide (vx.size<vy.size)) Q (vs.zip ws) i s:=by
  intro vs
  induction vs with
  | nil=>
   intro ws xs' ys' as bs i r1 r2 l1 l2 c u hl h0 hq;cases r1;rw [List.zip_nil_left];refine PySem.W.kat_nil ?_;cases r2 with
   | nil=>
    rw [aL] at hq;simp only [OK] at hl;rw [decide_eq_false (by lia)];exact hq
   | cons _ _=>
    rw [aL] at hq;simp only [OK,N4] at hl;rw [decide_eq_true (by lia)];exact hq
  | cons v vs ihv=>
   intro ws xs' ys' as bs i r1 r2 l1 l2 c u hl h0 hq;cases r1 with
   | @cons _ _ d0 ds0 as0 as1 r1 r1'=>
   cases r2 with
   | nil=>
    rw [List.zip_nil_right];refine PySem.W.kat_nil ?_;rw [aL] at hq;simp only [OK,N4] at hl;rw [decide_eq_false (by lia)];exact hq
   | @cons w0 ws0 e0 es0 bs0 bs1 r2 r2'=>
    rw [List.zip_cons_cons];rw [a7] at hq;rw [fJ] at c;have l1':d0.canLay0=true/\PyData.canLayAll0 ds0=true:=by simpa [PyData.canLayAll0] using l1
    have l2':e0.canLay0=true/\PyData.canLayAll0 es0=true:=by simpa [PyData.canLayAll0] using l2
    refine PySem.W.kat_cons (eqAt_reads d0 e0 A s v w0 as0 bs0 r1 r2 l1'.1 l2'.1 (vJ (fe u)) prog w _ _ ?_);cases hq':PyData.eqv d0 e0 with
    | true=>
     rw [hq',if_pos rfl] at hq c;refine PySem.W.kat_yes (ihv ws0 ds0 es0 _ _ (i+1) r1' r2' l1'.2 l2'.2 c (mq u) ?_ (λz=>by lia) hq);simp only [N4] at hl;lia
    | false=>
     rw [hq',if_neg NV] at hq c;refine PySem.W.kat_no ?_;by_cases hbi:(b && i == 0)=true
     ·have hb1:b=true:=by simp at hbi;exact hbi.1
      have hi0:i=0:=by simp at hbi;exact hbi.2
      obtain ⟨e1,e2⟩:=h0 hi0;rw [hbi];rcases hf d0 e0 (by rw [<-e1];rfl) (by rw [<-e2];rfl) hb1 with ⟨p,q',rfl,rfl⟩ | ⟨p,q',rfl,rfl⟩
      ·cases r1;cases r2;rw [ltv] at hq;exact oneLt_int hq
      ·cases r1;cases r2;rw [ltv] at hq;exact oneLt_str hq
     ·have:(b && i == 0)=false:=by simpa using hbi
      rw [this];exact Bl (ji _ d0 e0 (NH _) c A s v w0 as0 bs0 r1 r2 l1'.1 l2'.1 (fe u)) hq
 exact key vx.toList vy.toList xs ys as bs 0 ra rb ha hb hc hu (by lia) (λ_=>⟨rfl,rfl⟩) q
end
end L2
namespace L2
open PySem PySem.Spec PyProof.Rows PySem.W
structure pL (n:Nat) (lt:Nat->Nat->Bool):Prop where
 irrefl:∀ a,a<n->lt a a=false
 negTrans:∀ a b c,a<n->b<n->c<n->lt a c=true->lt a b=true\/lt b c=true
 asymm:∀ a b,a<n->b<n->lt a b=true->lt b a=false
def AllLt (n:Nat) (p:Array Nat):Prop:=∀ i,p.getD i 0<n
def oz (lt:Nat->Nat->Bool) (p:Array Nat) (k:Nat):Prop:=∀ i j,i<=j->j<k->lt (p.getD j 0) (p.getD i 0)=false
def k9 (lt:Nat->Nat->Bool) (p:Array Nat) (k:Nat):Prop:=∀ i j,i<=j->j<k->lt (p.getD i 0) (p.getD j 0)=false
theorem AllLt.perm {n:Nat}{p q:Array Nat} (h:AllLt n p) (hn:0<n) (r:q.Perm p):AllLt n q:=by
 intro i;by_cases hi:i<q.size
 ·have e:q.getD i 0=q[i]:=by simp [Array.getD,hi]
  rw [e];have hm:q[i]∈p.toList:=(Array.perm_iff_toList_perm.mp r).mem_iff.mp (by simp);obtain ⟨j,hj,e2⟩:=Pn.mp hm;have:=h j;have e3:p.getD j 0=q[i]:=by
   have hj':j<p.size:=by simpa using hj
   have:p.getD j 0=p[j]:=by simp [Array.getD,hj']
   rw [this,<-e2];simp
  rw [<-e3];exact this
 ·have e:q.getD i 0=0:=by simp [Array.getD,hi]
  rw [e];exact hn
section
variable {n:Nat}{lt:Nat->Nat->Bool}{cmp:Nat->Nat->(Bool->Shared->Prop)->Shared->Prop}{P:Shared->Prop}
theorem pL.trans (W:pL n lt) {a b c:Nat} (ha:a<n) (hb:b<n) (hc:c<n) (h1:lt b a=false) (h2:lt c b=false):lt c a=false:=by
 cases q:lt c a with
 | false=>rfl
 | true=>
  rcases W.negTrans c b a hc hb ha q with z | z
  ·rw [h2] at z;cases z
  ·rw [h1] at z;cases z
theorem oz.zC (W:pL n lt) {p:Array Nat} (hp:AllLt n p) {k m:Nat} (h:oz lt p k) (hk:1<=k) (hs:∀ i,k<=i->i<m->lt (p.getD i 0) (p.getD (i - 1) 0)=false):oz lt p m:=by
 have key:∀ d i j,j=i+d->j<m->lt (p.getD j 0) (p.getD i 0)=false:=by
  intro d
  induction d with
  | zero=>intro i j e hj;rw [e];exact W.irrefl _ (hp _)
  | succ d ih=>
   intro i j e hj;by_cases hjk:j<k
   ·exact h i j (by lia) hjk
   ·exact W.trans (hp _) (hp (j - 1)) (hp _) (ih i (j - 1) (by lia) (by lia)) (hs j (by lia) hj)
 intro i j hij hj;exact key (j - i) i j (by lia) hj
theorem pq {p:Array Nat}{k l:Nat} (hk:k<p.size) (hl:l<=k) (i:Nat):(bubble p k (k - l)).getD i 0=if i<l then p.getD i 0 else if i=l then p.getD k 0 else if i<=k then p.getD (i - 1) 0 else p.getD i 0:=by
 have h:=getElem?_bubble (xs:=p) hk (k - l) (by lia) i;rw [OZ,h];rw [show k - (k - l)=l by lia];simp only [OZ]
 repeat' split
 all_goals first | rfl | (exfalso;lia) | skip
theorem dU {p:Array Nat}{i j:Nat} (hj:j<=p.size) (k:Nat):(kas_rev p i j).getD k 0=if i<=k/\k<j then p.getD (i+j - 1 - k) 0 else p.getD k 0:=by
 have h:=getElem?_mirror_all (xs:=p) (i:=i) hj k;unfold kas_rev;rw [OZ,h];simp only [OZ]
 repeat' split
 all_goals first | rfl | (exfalso;lia) | skip
theorem yU (b9:∀ i j C s,i<n->j<n->P s->(∀ s',P s'->C (lt i j) s')->cmp i j C s) {p:Array Nat} (hp:AllLt n p) {Q:Nat->Shared->Prop}:∀ (f k:Nat) (s:Shared),P s ->
  (∀ m s',P s'->k<=m->m<=k+f->(∀ i,k<=i->i<m->lt (p.getD i 0) (p.getD (i - 1) 0)=false)->(m<k+f->lt (p.getD m 0) (p.getD (m - 1) 0)=true)->Q m s')->(kas_asc p f k).kasWp cmp Q s
 | 0,k,s,hs,h=>h k s hs (NH _) (NH _) (λi h1 h2=>by lia) λh1=>by lia
 | f+1,k,s,hs,h=>by
  refine b9 _ _ _ s (hp _) (hp _) hs λs' hs'=>?_;cases hc:lt (p.getD k 0) (p.getD (k - 1) 0) with
  | true=>
   show KasT.kasWp cmp (if true=true then KasT.ret k else kas_asc p f (k+1)) Q s';rw [if_pos rfl];exact h k s' hs' (NH _) (by lia) (λi h1 h2=>by lia) λ_=>hc
  | false=>
   show KasT.kasWp cmp (if false=true then KasT.ret k else kas_asc p f (k+1)) Q s';rw [if_neg NV];refine (yU b9 hp f (k+1) s' hs' λm s'' MW h1 h2 h3 h4=>h m s'' MW (by lia) (by lia) (λi h5 h6=>?_) λh5=>h4 (by lia));by_cases e:i=k
   ·rw [e];exact hc
   ·exact h3 i (by lia) h6
def Alike (lt:Nat->Nat->Bool) (p:Array Nat) (k q:Nat):Prop:=∀ i,k - (q+1)<=i->i<k->lt (p.getD (k - 1) 0) (p.getD i 0)=false
theorem tZ (W:pL n lt) {p:Array Nat}{k q:Nat} (hp:AllLt n p) (hk:k<=p.size) (hq:q+1<=k) (hd:k9 lt p k) (ha:Alike lt p k q):k9 lt (kas_rev p (k - (q+1)) k) k:=by
 intro i j hij hj;rw [dU hk,dU hk];have eqv:∀ a b,k - (q+1)<=a->a<k->k - (q+1)<=b->b<k->lt (p.getD a 0) (p.getD b 0)=false:=λa b h1 h2 h3 h4=>
  W.trans (hp b) (hp (k - 1)) (hp a) (ha b h3 h4) (hd a (k - 1) (by lia) (by lia))
 by_cases hi:k - (q+1)<=i
 ·rw [if_pos ⟨hi,by lia⟩,if_pos ⟨by lia,hj⟩];exact eqv _ _ (by lia) (by lia) (by lia) (by lia)
 ·rw [if_neg (by lia)];by_cases hj2:k - (q+1)<=j
  ·rw [if_pos ⟨hj2,hj⟩];exact hd _ _ (by lia) (by lia)
  ·rw [if_neg (by lia)];exact hd i j hij hj
theorem iU (W:pL n lt) {p:Array Nat}{k:Nat} (hp:AllLt n p) (h1:1<=k) (hd:k9 lt p k) (h:lt (p.getD (k - 1) 0) (p.getD k 0)=false):k9 lt p (k+1):=by
 intro i j hij hj;by_cases e:j=k
 ·subst e;by_cases e2:i=j
  ·subst e2;exact W.irrefl _ (hp _)
  ·exact W.trans (hp _) (hp (j - 1)) (hp _) h (hd i (j - 1) (by lia) (by lia))
 ·exact hd i j hij (by lia)
theorem pQ (W:pL n lt) (b9:∀ i j C s,i<n->j<n->P s->(∀ s',P s'->C (lt i j) s')->cmp i j C s) (hn:0<n) {Q:Array Nat×Nat×Nat->Shared->Prop}:∀ (f:Nat) (p:Array Nat) (k q:Nat) (s:Shared),P s->AllLt n p->k+f<=p.size->q+1<=k->k9 lt p k->Alike lt p k q ->
  (∀ p' k' q' s',P s'->p'.Perm p->k<=k'->k'<=k+f->q' + 1<=k'->k9 lt p' k'->Alike lt p' k' q'->Q (p',k',q') s')->(kas_desc f p k q).kasWp cmp Q s
 | 0,p,k,q,s,hs,hp,hz,hq,hd,ha,h=>h p k q s hs (Array.Perm.refl _) (NH _) (NH _) hq hd ha
 | f+1,p,k,q,s,hs,hp,hz,hq,hd,ha,h=>by
  refine b9 _ _ _ s (hp _) (hp _) hs λs' hs'=>?_;cases hc:lt (p.getD k 0) (p.getD (k - 1) 0) with
  | true=>
   have hlt:lt (p.getD (k - 1) 0) (p.getD k 0)=false:=W.asymm _ _ (hp _) (hp _) hc;show KasT.kasWp cmp (if true=true then (if q > 0 then kas_desc f (kas_rev p (k - (q+1)) k) (k+1) 0 else kas_desc f p (k+1) 0) else _) Q s';rw [if_pos rfl]
   split
   ·have a9:(kas_rev p (k - (q+1)) k).Perm p:=mirror_perm _ _ _ _;have hp2:=hp.perm hn a9;have hsz:(kas_rev p (k - (q+1)) k).size=p.size:=mirror_size _ _ _ _;have hd2:=tZ W hp (by lia) hq hd ha;refine pQ W b9 hn f _ (k+1) 0 s' hs' hp2 (by rw [hsz];lia) (by lia) (iU W hp2 (by lia) hd2 ?_) (λi h1 h2=>?_) λp' k' q' s'' a b c d e=>h p' k' q' s'' a (b.trans a9) (by lia) (by lia) e
    ·rw [dU (by lia),dU (by lia),if_pos ⟨by lia,by lia⟩,if_neg (by lia)];refine W.trans (hp _) (hp (k - 1)) (hp _) hlt ?_;exact hd _ _ (by lia) (by lia)
    ·have:i=k+1 - 1:=by lia
     rw [this];exact W.irrefl _ (hp2 _)
   ·refine pQ W b9 hn f _ (k+1) 0 s' hs' hp (by lia) (by lia) (iU W hp (by lia) hd hlt) (λi h1 h2=>?_) λp' k' q' s'' a b c d e=>h p' k' q' s'' a b (by lia) (by lia) e;have:i=k+1 - 1:=by lia
    rw [this];exact W.irrefl _ (hp _)
  | false=>
   show KasT.kasWp cmp (if false=true then _ else KasT.ask (p.getD (k - 1) 0) (p.getD k 0) λd=>if d=true then KasT.ret (p,k,q) else kas_desc f p (k+1) (q+1)) Q s';rw [if_neg NV];refine b9 _ _ _ s' (hp _) (hp _) hs' λs2 hs2=>?_;cases hc2:lt (p.getD (k - 1) 0) (p.getD k 0) with
   | true=>
    show KasT.kasWp cmp (if true=true then KasT.ret (p,k,q) else _) Q s2;rw [if_pos rfl];exact h p k q s2 hs2 (Array.Perm.refl _) (NH _) (by lia) hq hd ha
   | false=>
    show KasT.kasWp cmp (if false=true then _ else kas_desc f p (k+1) (q+1)) Q s2;rw [if_neg NV];refine pQ W b9 hn f _ (k+1) (q+1) s2 hs2 hp (by lia) (by lia) (iU W hp (by lia) hd hc2) (λi h1 h2=>?_) λp' k' q' s'' a b c d e=>h p' k' q' s'' a b (by lia) (by lia) e;rw [show k+1 - 1=k by lia];by_cases e:i=k
    ·rw [e];exact W.irrefl _ (hp _)
    ·exact W.trans (hp _) (hp (k - 1)) (hp _) (ha i (by lia) (by lia)) hc
theorem wG (W:pL n lt) (b9:∀ i j C s,i<n->j<n->P s->(∀ s',P s'->C (lt i j) s')->cmp i j C s) (hn:0<n) {p:Array Nat}{k lW:Nat}{s:Shared}{Q:Nat×Array Nat->Shared->Prop} (hs:P s) (hp:AllLt n p) (hk:k<=lW) (h1:1<=k) (hz:lW<=p.size) (hd:k9 lt p k)
  (h:∀ m p' s',P s'->p'.Perm p->1<=m->m<=lW->oz lt p' m->Q (m,p') s'):(kas_tail3 k lW p).kasWp cmp Q s:=by
 unfold kas_tail3;rw [KasT.kasWp_bind];have a9:(kas_rev p 0 k).Perm p:=mirror_perm _ _ _ _;have hp2:=hp.perm hn a9;have up:oz lt (kas_rev p 0 k) k:=λi j hij hj=>by
  rw [dU (by lia),dU (by lia),if_pos ⟨by lia,hj⟩,if_pos ⟨by lia,by lia⟩];exact hd _ _ (by lia) (by lia)
 refine yU b9 hp2 _ _ s hs λm s' hs' a b c d=>?_;exact h m _ s' hs' a9 (by lia) (by lia) (up.zC W hp2 h1 c)
theorem oU (W:pL n lt) (b9:∀ i j C s,i<n->j<n->P s->(∀ s',P s'->C (lt i j) s')->cmp i j C s) (hn:0<n) {p:Array Nat}{k lW:Nat}{s:Shared}{Q:Nat×Array Nat->Shared->Prop} (hs:P s) (hp:AllLt n p) (hk:k+1<=lW) (h1:1<=k) (hz:lW<=p.size) (hd:k9 lt p (k+1))
  (h:∀ m p' s',P s'->p'.Perm p->1<=m->m<=lW->oz lt p' m->Q (m,p') s'):(kas_descPart k lW p).kasWp cmp Q s:=by
 unfold kas_descPart;rw [KasT.kasWp_bind];refine pQ W b9 hn _ p (k+1) 0 s hs hp (by lia) (by lia) hd (λi h2 h3=>?_) λp' k' q' s' hs' a9 a b c d e=>?_
 ·have:i=k+1 - 1:=by lia
  rw [this];exact W.irrefl _ (hp _)
 ·have hsz:p'.size=p.size:=a9.size_eq;have hp':=hp.perm hn a9;dsimp only
  split
  ·have qU:(kas_rev p' (k' - (q' + 1)) k').Perm p':=mirror_perm _ _ _ _;have Nd:(kas_rev p' (k' - (q' + 1)) k').size=p'.size:=mirror_size _ _ _ _;exact wG W b9 hn hs' (hp'.perm hn qU) (by lia) (by lia) (by lia) (tZ W hp' (by lia) c d e) λm p2 s2 x y z w v=>h m p2 s2 x (y.trans (qU.trans a9)) z w v
  ·exact wG W b9 hn hs' hp' (by lia) (by lia) (by lia) d λm p2 s2 x y z w v=>h m p2 s2 x (y.trans a9) z w v
theorem Cz (W:pL n lt) (b9:∀ i j C s,i<n->j<n->P s->(∀ s',P s'->C (lt i j) s')->cmp i j C s) (hn:0<n) {p:Array Nat}{lW:Nat}{s:Shared}{Q:Nat×Array Nat->Shared->Prop} (hs:P s) (hp:AllLt n p) (h1:1<=lW) (hz:lW<=p.size)
  (h:∀ m p' s',P s'->p'.Perm p->1<=m->m<=lW->oz lt p' m->Q (m,p') s'):(kas_count lW p).kasWp cmp Q s:=by
 unfold kas_count;rw [KasT.kasWp_bind];refine yU b9 hp _ _ s hs λm s' hs' a b c d=>?_;have up1:oz lt p 1:=λi j hij hj=>by
  have:i=0:=by lia
  have:j=0:=by lia
  subst_vars;exact W.irrefl _ (hp _)
 have up:oz lt p m:=up1.zC W hp (NH _) c;by_cases e:m=lW
 ·rw [if_pos (by simpa using e)];exact h m p s' hs' (Array.Perm.refl _) a (by lia) up
 ·rw [if_neg (by simpa using e)];have hlt:lt (p.getD m 0) (p.getD (m - 1) 0)=true:=d (by lia);have hle:lt (p.getD (m - 1) 0) (p.getD m 0)=false:=W.asymm _ _ (hp _) (hp _) hlt
  split
  ·refine b9 _ _ _ s' (hp _) (hp _) hs' λs2 hs2=>?_;cases hc:lt (p.getD 0 0) (p.getD (m - 1) 0) with
   | true=>
    show KasT.kasWp cmp (if true=true then KasT.ret (m,p) else _) Q s2;rw [if_pos rfl];exact h m p s2 hs2 (Array.Perm.refl _) a (by lia) up
   | false=>
    show KasT.kasWp cmp (if false=true then _ else kas_descPart m lW (kas_rev p 0 m)) Q s2;rw [if_neg NV];have a9:(kas_rev p 0 m).Perm p:=mirror_perm _ _ _ _;have hsz:(kas_rev p 0 m).size=p.size:=mirror_size _ _ _ _;have hp2:=hp.perm hn a9;have al:∀ i j,i<m->j<m->lt (p.getD i 0) (p.getD j 0)=false:=λi j hi hj=>by
     have x1:lt (p.getD i 0) (p.getD (m - 1) 0)=false:=W.trans (hp _) (hp 0) (hp _) hc (by
      have y1:lt (p.getD (m - 1) 0) (p.getD i 0)=false:=up i (m - 1) (by lia) (by lia);cases q:lt (p.getD i 0) (p.getD 0 0) with
      | false=>rfl
      | true=>
       have y2:=up 0 i (NW _) hi;rw [y2] at q;cases q)
     exact W.trans (hp _) (hp (m - 1)) (hp _) (up j (m - 1) (by lia) (by lia)) x1
    refine oU W b9 hn hs2 hp2 (by lia) a (by lia) (iU W hp2 a (λi j hij hj=>?_) ?_) λm' p2 s3 x y z w v=>h m' p2 s3 x (y.trans a9) z w v
    ·rw [dU (by lia),dU (by lia),if_pos ⟨by lia,by lia⟩,if_pos ⟨by lia,by lia⟩];exact al _ _ (by lia) (by lia)
    ·rw [dU (by lia),dU (by lia),if_pos ⟨by lia,by lia⟩,if_neg (by lia)];exact W.trans (hp _) (hp (m - 1)) (hp _) hle (al _ _ (by lia) (by lia))
  ·have hm:m=1:=by lia
   refine oU W b9 hn hs' hp (by lia) a hz (iU W hp a (λi j hij hj=>?_) hle) h;have:i=0:=by lia
   have:j=0:=by lia
   subst_vars;exact W.irrefl _ (hp _)
theorem rg (W:pL n lt) (b9:∀ i j C s,i<n->j<n->P s->(∀ s',P s'->C (lt i j) s')->cmp i j C s) {p:Array Nat} (hp:AllLt n p) {k:Nat} (up:oz lt p k) {Q:Nat->Shared->Prop}:∀ (f l r:Nat) (s:Shared),P s->l<=r->r<=k->r - l<=f ->
  (∀ i,i<l->lt (p.getD k 0) (p.getD i 0)=false)->(∀ i,r<=i->i<k->lt (p.getD k 0) (p.getD i 0)=true) ->
  (∀ m s',P s'->m<=k->(∀ i,i<m->lt (p.getD k 0) (p.getD i 0)=false)->(∀ i,m<=i->i<k->lt (p.getD k 0) (p.getD i 0)=true)->Q m s')->(kas_place p k f l r).kasWp cmp Q s
 | 0,l,r,s,hs,h1,h2,h3,h4,h5,h=>h l s hs (by lia) h4 λi a b=>h5 i (by lia) b
 | f+1,l,r,s,hs,h1,h2,h3,h4,h5,h=>by
  unfold kas_place;by_cases e:l ≥ r
  ·rw [if_pos e];exact h l s hs (by lia) h4 λi a b=>h5 i (by lia) b
  ·rw [if_neg e];refine b9 _ _ _ s (hp _) (hp _) hs λs' hs'=>?_;cases hc:lt (p.getD k 0) (p.getD ((l+r) / 2) 0) with
   | true=>
    show KasT.kasWp cmp (if true=true then kas_place p k f l ((l+r) / 2) else _) Q s';rw [if_pos rfl];refine rg W b9 hp up f l ((l+r) / 2) s' hs' (by lia) (by lia) (by lia) h4 (λi a b=>?_) h;rcases W.negTrans _ (p.getD i 0) _ (hp _) (hp _) (hp _) hc with z | z
    ·exact z
    ·have:=up ((l+r) / 2) i a b;rw [this] at z;cases z
   | false=>
    show KasT.kasWp cmp (if false=true then _ else kas_place p k f ((l+r) / 2+1) r) Q s';rw [if_neg NV];refine rg W b9 hp up f ((l+r) / 2+1) r s' hs' (by lia) (by lia) (by lia) (λi a=>?_) h5 h;exact W.trans (hp _) (hp ((l+r) / 2)) (hp _) (up i ((l+r) / 2) (by lia) (by lia)) hc
theorem DI (W:pL n lt) (b9:∀ i j C s,i<n->j<n->P s->(∀ s',P s'->C (lt i j) s')->cmp i j C s) (hn:0<n) {Q:Array Nat->Shared->Prop}:∀ (f:Nat) (p:Array Nat) (k:Nat) (s:Shared),P s->AllLt n p->k+f<=p.size->oz lt p k ->
  (∀ p' s',P s'->p'.Perm p->oz lt p' (k+f)->Q p' s')->(kas_bin f p k).kasWp cmp Q s
 | 0,p,k,s,hs,hp,hz,up,h=>h p s hs (Array.Perm.refl _) up
 | f+1,p,k,s,hs,hp,hz,up,h=>by
  unfold kas_bin;rw [KasT.kasWp_bind];refine rg W b9 hp up k 0 k s hs (NW _) (NH _) (by lia) (λi a=>by lia) (λi a b=>by lia) λl s' hs' hl lo hi=>?_;have a9:(bubble p k (k - l)).Perm p:=bubble_perm _ _ _;have hsz:(bubble p k (k - l)).size=p.size:=bubble_size _ _ _;refine DI W b9 hn f _ (k+1) s' hs' (hp.perm hn a9) (by rw [hsz];lia) (λi j hij hj=>?_) λp' s2 a b c=>h p' s2 a (b.trans a9) (by rw [show k+(f+1)=k+1+f by lia];exact c);rw [pq (by lia) hl,pq (by lia) hl];by_cases i1:i<l
  ·rw [if_pos i1];by_cases j1:j<l
   ·rw [if_pos j1];exact up i j hij (by lia)
   ·rw [if_neg j1];by_cases j2:j=l
    ·rw [if_pos j2];exact lo i i1
    ·rw [if_neg j2,if_pos (by lia)];exact up i (j - 1) (by lia) (by lia)
  ·rw [if_neg i1,if_neg (show ¬ j<l by lia)];by_cases i2:i=l
   ·rw [if_pos i2];by_cases j2:j=l
    ·rw [if_pos j2];exact W.irrefl _ (hp _)
    ·rw [if_neg j2,if_pos (by lia)];exact W.asymm _ _ (hp _) (hp _) (hi (j - 1) (by lia) (by lia))
   ·rw [if_neg i2,if_pos (show i<=k by lia),if_neg (show ¬ j=l by lia),if_pos (show j<=k by lia)];exact up (i - 1) (j - 1) (by lia) (by lia)
theorem zx (W:pL n lt) (b9:∀ i j C s,i<n->j<n->P s->(∀ s',P s'->C (lt i j) s')->cmp i j C s) (hn:0<n) {s:Shared}{Q:Array Nat->Shared->Prop} (hs:P s)
  (h:∀ p s',P s'->p.toList.Perm (List.range n)->oz lt p n->Q p s'):(kas_sort n).kasWp cmp Q s:=by
 unfold kas_sort;rw [KasT.kasWp_bind];have hp:AllLt n (List.toArray (List.range n)):=λi=>by
  by_cases hi:i<n
  ·simp [Array.getD,hi]
  ·simp [Array.getD,hi];exact hn
 have hz:(List.toArray (List.range n)).size=n:=by simp
 refine Cz W b9 hn hs hp (by lia) (by rw [hz];exact NH _) λm p' s' hs' a9 a b up=>?_;have hsz:p'.size=n:=by rw [a9.size_eq];exact hz
 have toL:∀ {q:Array Nat},q.Perm (List.toArray (List.range n))->q.toList.Perm (List.range n):=λr=>by simpa using Array.perm_iff_toList_perm.mp r
 dsimp only
 split
 ·rw [show max m 1=m by lia];exact DI W b9 hn _ p' m s' hs' (hp.perm hn a9) (by lia) up λp2 s2 x y z=>h p2 s2 x (toL (y.trans a9)) (by rw [show m+(n - m)=n by lia] at z;exact z)
 ·have:m=n:=by lia
  subst this;exact h p' s' hs' (toL a9) up
end
inductive Sh where
 | int | str | list (e:Sh) | ix | bg (a r:Sh)
def Sh.has:Sh->PyData->Prop
 | .int,d=>∃ i,d = .int i
 | .str,d=>∃ x,d = .str x
 | .list e,d=>∃ ds,d = .list ds/\∀ x∈ds,Sh.has e x
 | .ix,d=>d = .tuple []
 | .bg a r,d=>∃ x ds,d = .tuple (x::ds)/\Sh.has a x/\Sh.has r (.tuple ds)
structure mI (S:PyData->Prop):Prop where
 cmp:∀ d e,S d->S e->nC d e=true
 eqv:∀ d e,S d->S e->(PyData.eqv d e=true↔d=e)
 irr:∀ d,S d->ltv d d=false
 tot:∀ d e,S d->S e->ltv d e=false->ltv e d=false->d=e
 trans:∀ d e f,S d->S e->S f->ltv d e=true->ltv e f=true->ltv d f=true
theorem mI.asymm {S:PyData->Prop} (o:mI S) {d e:PyData} (hd:S d) (he:S e) (h:ltv d e=true):ltv e d=false:=by
 cases q:ltv e d with
 | false=>rfl
 | true=>
  have:=o.trans d e d hd he hd h q;rw [o.irr d hd] at this;cases this
theorem mI.neg {S:PyData->Prop} (o:mI S) {a b c:PyData} (ha:S a) (hb:S b) (hc:S c) (h:ltv a c=true):ltv a b=true\/ltv b c=true:=by
 cases q:ltv a b with
 | true=>exact .inl rfl
 | false=>
  cases q2:ltv b a with
  | true=>exact .inr (o.trans b a c hb ha hc q2 h)
  | false=>
   have:=o.tot a b ha hb q q2;subst this;exact .inr h
structure Jr (S:PyData->Prop) (L:List PyData->Prop):Prop where
 cmp:∀ d e,L d->L e->cC d e=true
 eqv:∀ d e,L d->L e->(PyData.eqvAll d e=true↔d=e)
 irr:∀ d,L d->aL d d=false
 tot:∀ d e,L d->L e->aL d e=false->aL e d=false->d=e
 trans:∀ d e f,L d->L e->L f->aL d e=true->aL e f=true->aL d f=true
theorem B4 {a b:PyData}{S:PyData->Prop} (o:mI S):Jr S (λl=>∀ x∈l,S x) where
 cmp:=by
  intro d
  induction d with
  | nil=>intro e _ _;rw [cC]
  | cons x xs ih=>
   intro e hd he;cases e with
   | nil=>rw [cC]
   | cons y ys=>
    rw [fJ]
    split
    ·exact ih ys (λz hz=>hd z (NN _ hz)) λz hz=>he z (NN _ hz)
    ·exact o.cmp x y (hd x NT) (he y NT)
 eqv:=by
  intro d
  induction d with
  | nil=>
   intro e _ _;cases e with
   | nil=>simp [PyData.eqvAll]
   | cons y ys=>simp [PyData.eqvAll]
  | cons x xs ih=>
   intro e hd he;cases e with
   | nil=>simp [PyData.eqvAll]
   | cons y ys=>
    rw [PyData.eqvAll,Om,o.eqv x y (hd x NT) (he y NT),ih ys (λz hz=>hd z (NN _ hz)) λz hz=>he z (NN _ hz)];simp
 irr:=by
  intro d
  induction d with
  | nil=>intro _;rw [aL]
  | cons x xs ih=>
   intro hd;rw [a7,if_pos ((o.eqv x x (hd x NT) (hd x NT)).mpr rfl)];exact ih λz hz=>hd z (NN _ hz)
 tot:=by
  intro d
  induction d with
  | nil=>
   intro e _ _ h1 h2;cases e with
   | nil=>rfl
   | cons y ys=>rw [aL] at h1;cases h1
  | cons x xs ih=>
   intro e hd he h1 h2;cases e with
   | nil=>rw [aL] at h2;cases h2
   | cons y ys=>
    have sx:=hd x NT;have sy:=he y NT;rw [a7] at h1 h2;by_cases e1:x=y
    ·subst e1;rw [if_pos ((o.eqv x x sx sx).mpr rfl)] at h1 h2;rw [ih ys (λz hz=>hd z (NN _ hz)) (λz hz=>he z (NN _ hz)) h1 h2]
    ·rw [if_neg (λz=>e1 ((o.eqv x y sx sy).mp z))] at h1;rw [if_neg (λz=>e1 ((o.eqv y x sy sx).mp z).symm)] at h2;exact absurd (o.tot x y sx sy h1 h2) e1
 trans:=by
  intro d
  induction d with
  | nil=>
   intro e f _ _ _ h1 h2;cases f with
   | nil=>cases e <;> (rw [aL] at h2;cases h2)
   | cons z zs=>rw [aL]
  | cons x xs ih=>
   intro e f hd he hf h1 h2;cases e with
   | nil=>rw [aL] at h1;cases h1
   | cons y ys=>
    cases f with
    | nil=>rw [aL] at h2;cases h2
    | cons z zs=>
     have sx:=hd x NT;have sy:=he y NT;have sz:=hf z NT;rw [a7] at h1 h2 ⊢;by_cases e1:x=y
     ·subst e1;rw [if_pos ((o.eqv x x sx sx).mpr rfl)] at h1;by_cases e2:x=z
      ·subst e2;rw [if_pos ((o.eqv x x sx sx).mpr rfl)] at h2 ⊢;exact ih ys zs (λw hw=>hd w (NN _ hw)) (λw hw=>he w (NN _ hw)) (λw hw=>hf w (NN _ hw)) h1 h2
      ·rw [if_neg (λw=>e2 ((o.eqv x z sx sz).mp w))] at h2 ⊢;exact h2
     ·rw [if_neg (λw=>e1 ((o.eqv x y sx sy).mp w))] at h1;by_cases e2:y=z
      ·subst e2;rw [if_neg (λw=>e1 ((o.eqv x y sx sy).mp w))];exact h1
      ·rw [if_neg (λw=>e2 ((o.eqv y z sy sz).mp w))] at h2;by_cases e3:x=z
       ·subst e3;have:=o.asymm sx sy h1;rw [this] at h2;cases h2
       ·rw [if_neg (λw=>e3 ((o.eqv x z sx sz).mp w))];exact o.trans x y z sx sy sz h1 h2
theorem zf {x y:Str} (h1:decide (x.cps.toList<y.cps.toList)=false) (h2:decide (y.cps.toList<x.cps.toList)=false):x=y:=by
 have e:x.cps.toList=y.cps.toList:=List.le_antisymm (by simpa using h2) (by simpa using h1);cases x;cases y;simp only [Str.mk.injEq];exact Ph.mp e
theorem Sh.ok:∀ sh:Sh,mI sh.has
 | .int=>by
  refine ⟨?_,?_,?_,?_,?_⟩
  ·rintro _ _ ⟨i,rfl⟩ ⟨j,rfl⟩;rw [nC]
  ·rintro _ _ ⟨i,rfl⟩ ⟨j,rfl⟩;simp [PyData.eqv]
  ·rintro _ ⟨i,rfl⟩;rw [ltv];simp
  ·rintro _ _ ⟨i,rfl⟩ ⟨j,rfl⟩ h1 h2;rw [ltv] at h1 h2;have:i=j:=by simp at h1 h2;lia
   rw [this]
  ·rintro _ _ _ ⟨i,rfl⟩ ⟨j,rfl⟩ ⟨k,rfl⟩ h1 h2;rw [ltv] at h1 h2 ⊢;simp at h1 h2 ⊢;lia
 | .str=>by
  refine ⟨?_,?_,?_,?_,?_⟩
  ·rintro _ _ ⟨i,rfl⟩ ⟨j,rfl⟩;rw [nC]
  ·rintro _ _ ⟨i,rfl⟩ ⟨j,rfl⟩;simp [PyData.eqv]
  ·rintro _ ⟨i,rfl⟩;rw [ltv];exact decide_eq_false (List.lt_irrefl _)
  ·rintro _ _ ⟨i,rfl⟩ ⟨j,rfl⟩ h1 h2;rw [ltv] at h1 h2;rw [zf h1 h2]
  ·rintro _ _ _ ⟨i,rfl⟩ ⟨j,rfl⟩ ⟨k,rfl⟩ h1 h2;rw [ltv] at h1 h2 ⊢;exact decide_eq_true (List.lt_trans (of_decide_eq_true h1) (of_decide_eq_true h2))
 | .list e=>by
  have L:=B4 (a:=.none) (b:=.none) (Sh.ok e);refine ⟨?_,?_,?_,?_,?_⟩
  ·rintro _ _ ⟨i,rfl,hi⟩ ⟨j,rfl,hj⟩;rw [nC];exact L.cmp i j hi hj
  ·rintro _ _ ⟨i,rfl,hi⟩ ⟨j,rfl,hj⟩;rw [PyData.eqv,L.eqv i j hi hj];simp
  ·rintro _ ⟨i,rfl,hi⟩;rw [ltv];exact L.irr i hi
  ·rintro _ _ ⟨i,rfl,hi⟩ ⟨j,rfl,hj⟩ h1 h2;rw [ltv] at h1 h2;rw [L.tot i j hi hj h1 h2]
  ·rintro _ _ _ ⟨i,rfl,hi⟩ ⟨j,rfl,hj⟩ ⟨k,rfl,hk⟩ h1 h2;rw [ltv] at h1 h2 ⊢;exact L.trans i j k hi hj hk h1 h2
 | .ix=>by
  refine ⟨?_,?_,?_,?_,?_⟩
  ·rintro _ _ rfl rfl;rw [nC,cC]
  ·rintro _ _ rfl rfl;simp [PyData.eqv,PyData.eqvAll]
  ·rintro _ rfl;rw [ltv,aL]
  ·rintro _ _ rfl rfl _ _;rfl
  ·rintro _ _ _ rfl rfl rfl h1 h2;rw [ltv,aL] at h1;cases h1
 | .bg a r=>by
  have oa:=Sh.ok a;have or:=Sh.ok r;refine ⟨?_,?_,?_,?_,?_⟩
  ·rintro _ _ ⟨x,xs,rfl,hx,hxs⟩ ⟨y,ys,rfl,hy,hys⟩;have:=or.cmp _ _ hxs hys;rw [nC] at this ⊢;rw [fJ]
   split
   ·exact this
   ·exact oa.cmp x y hx hy
  ·rintro _ _ ⟨x,xs,rfl,hx,hxs⟩ ⟨y,ys,rfl,hy,hys⟩;have:=or.eqv _ _ hxs hys;rw [PyData.eqv] at this ⊢;rw [PyData.eqvAll,Om,oa.eqv x y hx hy,this];simp
  ·rintro _ ⟨x,xs,rfl,hx,hxs⟩;have:=or.irr _ hxs;rw [ltv] at this ⊢;rw [a7,if_pos ((oa.eqv x x hx hx).mpr rfl)];exact this
  ·rintro _ _ ⟨x,xs,rfl,hx,hxs⟩ ⟨y,ys,rfl,hy,hys⟩ h1 h2;have ih:=or.tot _ _ hxs hys;rw [ltv] at h1 h2 ih;rw [ltv] at ih;rw [a7] at h1 h2;by_cases e1:x=y
   ·subst e1;rw [if_pos ((oa.eqv x x hx hx).mpr rfl)] at h1 h2;have:=ih h1 h2;injection this with this;rw [this]
   ·rw [if_neg (λw=>e1 ((oa.eqv x y hx hy).mp w))] at h1;rw [if_neg (λw=>e1 ((oa.eqv y x hy hx).mp w).symm)] at h2;exact absurd (oa.tot x y hx hy h1 h2) e1
  ·rintro _ _ _ ⟨x,xs,rfl,hx,hxs⟩ ⟨y,ys,rfl,hy,hys⟩ ⟨z,zs,rfl,hz,hzs⟩ h1 h2;have ih:=or.trans _ _ _ hxs hys hzs;rw [ltv,ltv,ltv] at ih;rw [ltv] at h1 h2 ⊢;rw [a7] at h1 h2 ⊢;by_cases e1:x=y
   ·subst e1;rw [if_pos ((oa.eqv x x hx hx).mpr rfl)] at h1;by_cases e2:x=z
    ·subst e2;rw [if_pos ((oa.eqv x x hx hx).mpr rfl)] at h2 ⊢;exact ih h1 h2
    ·rw [if_neg (λw=>e2 ((oa.eqv x z hx hz).mp w))] at h2 ⊢;exact h2
   ·rw [if_neg (λw=>e1 ((oa.eqv x y hx hy).mp w))] at h1;by_cases e2:y=z
    ·subst e2;rw [if_neg (λw=>e1 ((oa.eqv x y hx hy).mp w))];exact h1
    ·rw [if_neg (λw=>e2 ((oa.eqv y z hy hz).mp w))] at h2;by_cases e3:x=z
     ·subst e3;have:=oa.asymm hx hy h1;rw [this] at h2;cases h2
     ·rw [if_neg (λw=>e3 ((oa.eqv x z hx hz).mp w))];exact oa.trans x y z hx hy hz h1 h2
theorem iC {S:PyData->Prop} (o:mI S):∀ {l l':List PyData},(∀ x∈l,S x)->l.Perm l'->l.Pairwise (λa b=>ltv b a=false)->l'.Pairwise (λa b=>ltv b a=false)->l=l':=by
 intro l l' hS hp h1 h2;refine List.Perm.eq_of_pairwise (le:=λa b=>ltv b a=false) ?_ h1 h2 hp;intro a b ha hb x y;exact o.tot a b (hS a ha) (hS b (hp.mem_iff.mpr hb)) y x
inductive gF:Sh->Bool->Prop
 | int:gF .int true
 | str:gF .str true
 | ix:gF .ix false
 | bg (a r:Sh):gF (.bg a r) false
section
variable {X:Cx}{pins:List (Addr×Obj)}{σ:St}{H:Hp}{s:Shared}
theorem iR {xs:List V}{us:List Value} (r:aY xs us) (i:Nat):RelV (xs.getD i .non) (us.getD i .none):=by
 rw [NU,NU];cases e:xs[i]? with
 | none=>rw [r.none_of e];rfl
 | some x=>
  obtain ⟨u,hu,ru⟩:=r.get e;rw [hu];exact ru
theorem aB.Ag {K:PySem.W.Frag}{xs:List V}{ds:List PyData} (h:aB K H xs ds) (i:Nat) (hi:i<ds.length):Den K H (xs.getD i .non) (ds.getD i .none):=by
 have e:ds[i]? = some ds[i]:=by simp [hi]
 obtain ⟨x,hx,hd⟩:=h.getD e;rw [NU,NU,hx,e];exact hd
theorem DC {a r:Sh}:∀ {ks:List V}{us:List Value}{kds:List PyData},Inv X pins σ H s->aY ks us->aB X.K H ks kds->(∀ d∈kds,(Sh.bg a r).has d) ->
  ∃ fs:List Value,KatTups s.heap us fs/\fs.length=us.length/\∀ f∈fs,∃ d as,a.has d/\Reads s.heap f d as
 | _,_,_,I,.nil,.nil,_=>⟨[],.nil,rfl,λ_ h=>by cases h⟩
 | _,_,_,I,.cons rv rr,.cons hd ht,hs=>by
  obtain ⟨fs,h1,h2,h3⟩:=DC I rr ht λd hd=>hs d (NN _ hd);obtain ⟨x,ds,e,hx,_⟩:=hs _ NT;subst e;cases hd with
  | tup hq t=>
   cases rv;obtain ⟨its,rv',⟨o,eo,c,n,dt⟩,_⟩:=I.tuple hq;cases t with
   | cons hd0 t0=>
    cases rv' with
    | @cons v0 u0 vs0 us0 r0 rr0=>
     obtain ⟨as,ra⟩:=I.reads hd0 r0;refine ⟨u0::fs,.cons eo c dt (by simp) h1,by simp [h2],λf hf=>?_⟩;rcases NZ.mp hf with e | hf
     ·subst e;exact ⟨x,as,hx,ra⟩
     ·exact h3 f hf
theorem wX {a:Sh}{b:Bool} (hf:gF a b):∃ T:Value,(T == T)=true/\(T != Value.type "tuple")=b/\∀ (M:Model) (h:Heap) (f:Value) (d:PyData) (as:List Addr),a.has d->Reads h f d as->Looks M h (typeOf f) T:=by
 cases hf with
 | int=>exact ⟨.type "int",by decide,by decide,λM h f d as hd r=>by obtain ⟨i,rfl⟩:=hd;cases r;exact .of_pure rfl⟩
 | str=>exact ⟨.type "str",by decide,by decide,λM h f d as hd r=>by obtain ⟨i,rfl⟩:=hd;cases r;exact .of_pure rfl⟩
 | ix=>exact ⟨.type "tuple",by decide,by decide,λM h f d as hd r=>by
   have e:d = .tuple []:=hd;subst e;cases r with
   | tuple h1 h2 h3 h4=>rw [<-h2];exact (Looks.ld h1).andThen .now⟩
 | bg a r=>exact ⟨.type "tuple",by decide,by decide,λM h f d as hd r=>by
   obtain ⟨x,ds,rfl,_,_⟩:=hd;cases r with
   | tuple h1 h2 h3 h4=>rw [<-h2];exact (Looks.ld h1).andThen .now⟩
theorem px {a r:Sh}{b:Bool}{A:Around} (hf:gF a b) {ks:List V}{us:List Value}{kds:List PyData} (I:Inv X pins σ H s) (hv:aY ks us) (hd:aB X.K H ks kds) (hs:∀ d∈kds,(Sh.bg a r).has d) (qe:∀ d∈kds,d.depth<=100)
  (h2:2<=us.length) (hu:A.units+101<cLine) {G:Array Nat->Shared->Prop}
  (h:∀ p:Array Nat,p.toList.Perm (List.range us.length)->(∀ i j,i<=j->j<us.length->ltv (kds.getD (p.getD j 0) .none) (kds.getD (p.getD i 0) .none)=false)->G p s) :
  wpAny (model X.prog X.w) A (keyKind' us.toArray) (λκ s'=>(kas_sort us.length).kasWp (kas_ask X.prog X.w A κ us) G s') (λ_ _=>False) s:=by
 obtain ⟨fs,t1,t2,t3⟩:=DC I hv hd hs;obtain ⟨T,hT1,hT2,hT3⟩:=wX hf;refine kat_kind t1 (by lia) (λf hf=>?_) hT1 ?_
 ·obtain ⟨d,as,x,y⟩:=t3 f hf;exact hT3 _ _ f d as x y
 rw [hT2];have l1:us.length=kds.length:=by rw [<-hv.length];exact hd.length
 have o:=Sh.ok (.bg a r);have lY:∀ i,i<us.length->(Sh.bg a r).has (kds.getD i .none):=λi hi=>by
  have e:kds[i]? = some kds[i]:=by simp [<-l1,hi]
  (rw [NU,e])
  exact hs _ (Ov _)
 have hdp:∀ i,i<us.length->(kds.getD i .none).depth<=100:=λi hi=>by
  have e:kds[i]? = some kds[i]:=by simp [<-l1,hi]
  (rw [NU,e])
  exact qe _ (Ov _)
 refine zx (n:=us.length) (lt:=λi j=>ltv (kds.getD i .none) (kds.getD j .none)) (P:=λs'=>s' = s) ⟨λi hi=>o.irr _ (lY i hi),λi j k hi hj hk q=>o.neg (lY i hi) (lY j hj) (lY k hk) q,λi j hi hj q=>o.asymm (lY i hi) (lY j hj) q⟩
  (λi j C s' hi hj e q=>?_) (by lia) rfl λp s' e hp up=>by subst e;exact h p hp up
 subst e;show wpAny (model X.prog X.w) A (keyLt' (tuples' b) (us.getD i .none) (us.getD j .none)) C (λ_ _=>False) s';have di:=hd.Ag i (by lia);have dj:=hd.Ag j (by lia);have ri:=iR hv i;have rj:=iR hv j;have hi':=lY i hi;have hj':=lY j hj;have pi:=hdp i hi;have qq:=q s' rfl;have cc:=o.cmp _ _ hi' hj';have lyi:=di.lay;have lyj:=dj.lay;revert di dj hi' hj' pi qq cc lyi lyj;generalize kds.getD i .none=d;generalize kds.getD j .none=e;intro di dj hi' hj' pi qq cc lyi lyj;obtain ⟨x,ds,rfl,hx,_⟩:=hi';obtain ⟨y,es,rfl,hy,_⟩:=hj';revert di dj ri rj;generalize ks.getD i .non=vi;generalize ks.getD j .non=vj;generalize us.getD i .none=ui;generalize us.getD j .none=uj;intro ri rj di dj;cases di with
 | tup qi ti=>
  cases dj with
  | tup qj tj=>
   cases ri;cases rj;obtain ⟨its,rv,⟨oi,ei,ci,ni,dti⟩,_⟩:=I.tuple qi;obtain ⟨jts,rw',⟨oj,ej,cj,nj,dtj⟩,_⟩:=I.tuple qj;obtain ⟨as,ra⟩:=I.readsAll ti rv;obtain ⟨bs,rb⟩:=I.readsAll tj rw';rw [ltv] at qq;rw [nC] at cc;rw [PyData.depth] at pi;refine zm ei dti ej dtj (by simpa using ra) (by simpa using rb) lyi lyj cc (λd0 e0 h1 h3 hb=>?_) (by lia) qq;have e1:x=d0:=by simpa using h1
   have e2:y=e0:=by simpa using h3
   subst e1 e2;cases hf with
   | int=>obtain ⟨p,rfl⟩:=hx;obtain ⟨q,rfl⟩:=hy;exact .inl ⟨p,q,rfl,rfl⟩
   | str=>obtain ⟨p,rfl⟩:=hx;obtain ⟨q,rfl⟩:=hy;exact .inr ⟨p,q,rfl,rfl⟩
   | ix=>cases hb
   | bg _ _=>cases hb
theorem Inv.adopt {h':Heap}{t':Nat}{wr:List Addr}{a:Addr}{o:HO} (I:Inv X pins σ H s) (hf:∀ b∈wr,bY X pins H b) (ha:a∈wr) (k:∀ b o,b∉wr->s.heap.get? b=some o->h'.get? b=some o)
  (new:b8 X.prog X.w (upd H a o) h' a o):Inv X pins σ (upd H a o) { s with heap:=h',toks:=t' }:=by
 have nit:∀ b u,H b=some u->b∉wr:=λb u e z=>by rw [(hf b z).1] at e;cases e
 have hfr:H a=none:=(hf a ha).1;refine I.step (g':=s.gens) (d':=s.drawn) (ch:=wr) (λb hb=>⟨(hf b hb).2.2.2.1,(hf b hb).2.1,(hf b hb).2.2.2.2.1,(hf b hb).2.2.2.2.2⟩) (λb o _ _ hc e _=>k b o hc e) (λb o _ _ hc e _=>⟨o.slots,k b o hc e⟩)
  (λb ob hc e n=>by rw [aw (show b≠a from λz=>hc (by rw [z];exact ha))];exact n)
  (λb o hc e=>⟨o,k b o hc e⟩) (λb xs e=>by rw [aw (ao e hfr)];exact e) (λb ob u e=>by rw [aw (ao e hfr)];exact e) (λb ps e=>⟨#[],by rw [aw (ao e hfr),e];simp⟩) (λm hm=>?_) (λb u e=>?_) I.bare
 ·obtain ⟨o,es,ep,ho,r⟩:=hm;exact ⟨o,es,ep,k _ o (λz=>(hf _ z).2.1 rfl) ho,r⟩
 ·by_cases hb:b=a
  ·subst hb;rw [ab] at e;cases e;exact new
  ·rw [aw hb] at e;refine (I.hok b u e).vp (λc v hc q=>k c v ?_ q) (λc q=>by rw [aw (ao q hfr)];exact q) λc xs q=>by rw [aw (ao q hfr)];exact q
   rcases hc with z | z
   ·rw [z];exact nit b u e
   ·exact nit c _ z
def picked (xs:List V) (p:List Nat):List V:=p.map λi=>xs.getD i .non
theorem k4 {xs:List V}{us:List Value} (r:aY xs us):∀ p:List Nat,aY (picked xs p) (p.map λi=>us.getD i .none)
 | []=>.nil
 | i::p=>.cons (iR r i) (k4 r p)
theorem jn (xs:List V) (p:List Nat):(picked xs p).length=p.length:=by simp [picked]
theorem dD {α:Type} (us:List α) (d:α):(List.range us.length).map (λi=>us.getD i d)=us:=by
 apply List.ext_getElem
 ·simp
 ·intro i h1 h2;simp [h2]
def dG (kds:List PyData) (p:List Nat):Prop:=(p.map λi=>kds.getD i .none).Pairwise λa b=>ltv b a=false
theorem wk {kds:List PyData}{p:Array Nat}{n:Nat} (hn:p.toList.length=n) (h:∀ i j,i<=j->j<n->ltv (kds.getD (p.getD j 0) .none) (kds.getD (p.getD i 0) .none)=false):dG kds p.toList:=by
 unfold dG
 (rw [Pp])
 intro i j hi hj hij;simp only [List.getElem_map];have hi':i<p.size:=by simpa using hi
 have hj':j<p.size:=by simpa using hj
 have:=h i j (by lia) (by simp at hn;lia);have e1:p.getD i 0=p[i]:=by simp [Array.getD,hi']
 have e2:p.getD j 0=p[j]:=by simp [Array.getD,hj']
 rw [e1,e2] at this;simpa using this
theorem oX {kds:List PyData}{n:Nat} (hn:n<2):dG kds (List.range n):=by
 unfold dG
 match n,hn with
 | 0,_=>simp
 | 1,_=>simp
theorem pe {D:Addr}{n0:Nat}{vs:List Value} (I:Inv X pins σ H s) (ho:s.heap.get? D=some (seqObj "list" vs.toArray n0)) (fD:bY X pins H D) :
  ∃ e1,(s.heap.update D (Obj.mapSeq λ_=>(#[]:Array Value))).get? D=some (seqObj "list" #[] e1) /\
   ∀ h3,h3=((s.heap.update D (Obj.mapSeq λ_=>(#[]:Array Value))).push (seqObj "tuple" vs.toArray 0)).push (seqObj "list" #[] 0)->h3.get? D=some (seqObj "list" #[] e1)/\Inv X pins σ H { s with heap:=h3 }:=by
 have gone:=get?_update_seq ho λ_=>(#[]:Array Value);have rest:=(Heap.SameBut.update s.heap D (Obj.mapSeq λ_=>(#[]:Array Value))).2;generalize s.heap.update D (Obj.mapSeq λ_=>(#[]:Array Value))=h1 at gone rest;refine ⟨_,gone,λh3 e3=>?_⟩;have up:∀ c o,h1.get? c=some o->h3.get? c=some o:=λc o e=>e3 ▸ Heap.get?_push_of_some _ (Heap.get?_push_of_some _ e);refine ⟨up D _ gone,I.bz (t':=s.toks) (wr:=[D]) (λc hc=>?_) λc o hc e=>up c o ((rest c λz=>hc (z ▸ NQ.mpr rfl)).trans e)⟩;rw [NQ.mp hc];exact fD
theorem xp {A:Around}{D:Addr}{n0:Nat}{xs:List V}{vs:List Value}{ds:List PyData}{P:PySem.Fin->Shared->Prop}{E:Value->Shared->Prop} (I:Inv X pins σ H s) (ho:s.heap.get? D=some (seqObj "list" vs.toArray n0)) (fD:bY X pins H D)
  (hv:aY xs vs) (eng:∀ (s':Shared) (G:Array Nat->Shared->Prop),Inv X pins σ H s'->2<=vs.length->(∀ p:Array Nat,p.toList.Perm (List.range vs.length)->(∀ i j,i<=j->j<vs.length->ltv (ds.getD (p.getD j 0) .none) (ds.getD (p.getD i 0) .none)=false)->G p s')->wpAny (model X.prog X.w) A (keyKind' vs.toArray) (λκ s''=>(kas_sort vs.length).kasWp (kas_ask X.prog X.w A κ vs) G s'') (λ_ _=>False) s') (h64:vs.length<64)
  (h:∀ (p:List Nat) (h':Heap),p.Perm (List.range xs.length)->dG ds p->Inv X pins σ (upd H D (.lst (picked xs p))) { s with heap:=h' }->P (.done (.ret .none)) { s with heap:=h' }) :
  wpAny (model X.prog X.w) A (Builtin.«list.sort» ⟨[.ref D],[]⟩) P E s:=by
 have hlen:=hv.length;obtain ⟨e1,ho1,at3⟩:=pe I ho fD;rw [list_sort_plain];refine wpAny_bind (listItems_at ho rfl (wpAny_bind (listUpdate_at ho rfl (wpAny_bind (seqEpoch_at ho1 rfl (wpAny_bind (wpAny_newTuple (wpAny_bind (wpAny_newList (wpAny_holding ?main) (NW _))) ?short)))) ?few (NW _))))
 case short=>show vs.length<=_;rw [sizeLine_eq];lia
 case few=>rw [NO,sizeLine_eq];lia
 case main=>
 show wpAny (model X.prog X.w) A _ P E { s with heap:=((s.heap.update D (Obj.mapSeq λ_=>(#[]:Array Value))).push (seqObj "tuple" vs.toArray 0)).push (seqObj "list" #[] 0) };generalize hh3:((s.heap.update D (Obj.mapSeq λ_=>(#[]:Array Value))).push (seqObj "tuple" vs.toArray 0)).push (seqObj "list" #[] 0)=h3;obtain ⟨hD3,I3⟩:=at3 h3 hh3.symm;have fin:∀ (p:List Nat) (out:Array Value),p.Perm (List.range xs.length)->dG ds p->out=List.toArray (p.map λi=>vs.getD i Value.none) ->
   P (.done (.ret .none)) { s with heap:=h3.update D (Obj.mapSeq λ_=>out) }:=λp out hp fQ eo=>by
  have sb:=Heap.SameBut.update h3 D (Obj.mapSeq λ_=>out);obtain ⟨c2,hc2⟩:∃ c2,(h3.update D (Obj.mapSeq λ_=>out)).get? D=some (seqObj "list" out c2):=⟨_,get?_update_seq hD3 λ_=>out⟩;have pl:p.length=xs.length:=by rw [hp.length_eq];simp
  refine h p _ hp fQ (I3.adopt (t':=s.toks) (wr:=[D]) (a:=D) (λc hc=>by rw [show c=D by simpa using hc];exact fD) (by simp) (λc o hc e=>(sb.2 c (by simpa using hc)).trans e) ?_);refine ⟨by rw [jn,pl,sizeLine_eq];lia,p.map λi=>vs.getD i Value.none,c2,k4 hv p,?_⟩;rw [hc2,eo]
 dsimp only;by_cases hn2:vs.toArray.size<2
 ·rw [if_pos hn2,if_pos hn2];refine wpAny_bind (wpAny_pure ?_);refine wpAny_bind ?_;show wpAny _ _ ((pure ():StateT SortSt Sem Unit).run _) _ _ _;rw [StateT.run_pure];refine wpAny_pure ?_;dsimp only;refine wpAny_bind (seqEpoch_at hD3 rfl ?_);have CD:(arrOf (SortSt.mk' general' (vs.toArray.zip vs.toArray) #[] 7 none)).map (·.2)=vs.toArray:=by
   show (vs.toArray.zip vs.toArray).map (·.2)=vs.toArray
   apply Ph.mp;simp [List.map_snd_zip]
  rw [CD];refine wpAny_bind (listUpdate_at hD3 rfl ?_ (NW _) (by show vs.toArray.size<=_;rw [NO,sizeLine_eq];lia))
  (simp only [bne_self_eq_false,Oo,if_false])
  refine wpAny_pure (fin (List.range xs.length) _ (List.Perm.refl _) (oX (by rw [NO] at hn2;lia)) ?_);rw [hlen,dD]
 ·rw [if_neg hn2,if_neg hn2];have h2:2<=vs.length:=by rw [NO] at hn2;lia
  refine wpAny_bind (wpAny_mono (eng _ (λp s'=>s' = { s with heap:=h3 }/\p.toList.Perm (List.range vs.length)/\dG ds p.toList) I3 h2 λp hp up=>⟨rfl,hp,wk (by rw [hp.length_eq];simp) up⟩) (λκ s0 hk=>?_) λ_ _ x=>x.elim);refine wpAny_bind (wpAny_mono (kat_run (Q:=λst' s'=>∃ p:Array Nat,arrOf st' = p.map (kas_item (vs.toArray.zip vs.toArray))/\failedOf st' = none/\s' = { s with heap:=h3 }/\p.toList.Perm (List.range vs.length)/\dG ds p.toList)
   rfl h2 h64 (λp' st' s' a1 a2 a3 a4=>⟨p',a2,a3,a4⟩) hk) ?_ λ_ _ e=>e)
  rintro ⟨⟨⟩,st'⟩ s' ⟨p,har,hfl,rfl,hp,fQ⟩;dsimp only;have CD:=kat_snds rfl har;rw [CD];refine wpAny_bind (seqEpoch_at hD3 rfl ?_);refine wpAny_bind (listUpdate_at hD3 rfl ?_ (NW _) (by rw [NO,NE,hp.length_eq,OB,sizeLine_eq];lia));rw [hfl]
  (simp only [bne_self_eq_false,Oo,if_false])
  exact wpAny_pure (fin p.toList _ (by rw [hlen];exact hp) fQ rfl)
theorem we {a r:Sh}{b:Bool}{A:Around}{D:Addr}{n0:Nat} (hf:gF a b) {xs:List V}{vs:List Value}{ds:List PyData}{P:PySem.Fin->Shared->Prop}{E:Value->Shared->Prop} (I:Inv X pins σ H s) (ho:s.heap.get? D=some (seqObj "list" vs.toArray n0)) (fD:bY X pins H D)
  (hv:aY xs vs) (hd:aB X.K H xs ds) (hs:∀ d∈ds,(Sh.bg a r).has d) (qe:∀ d∈ds,d.depth<=100) (h64:vs.length<64) (hu:A.units+101<cLine)
  (h:∀ (p:List Nat) (h':Heap),p.Perm (List.range xs.length)->dG ds p->Inv X pins σ (upd H D (.lst (picked xs p))) { s with heap:=h' }->P (.done (.ret .none)) { s with heap:=h' }) :
  wpAny (model X.prog X.w) A (Builtin.«list.sort» ⟨[.ref D],[]⟩) P E s:=
 xp I ho fD hv (λs' G I' h2 hG=>px (A:=A) hf I' hv hd hs qe h2 hu hG) h64 h
def gG (h:Heap) (vs:List Value):Heap:=(h.push (seqObj "list" #[] 0)).update h.objs.size (Obj.mapSeq (· ++ vs.toArray))
theorem kH (h:Heap) (vs:List Value):(gG h vs).objs.size=h.objs.size+1:=(Heap.size_update ..).trans (size_push' _ _)
theorem uh (h:Heap) (vs:List Value):((gG h vs).push (seqObj "list" vs.toArray 0)).get? (h.objs.size+1)=some (seqObj "list" vs.toArray 0):=by
 have q:((gG h vs).push (seqObj "list" vs.toArray 0)).get? (gG h vs).objs.size=some (seqObj "list" vs.toArray 0):=Heap.get?_push_size _ rfl
 rwa [kH] at q
theorem o8 (h:Heap) (vs:List Value):∀ b o,h.get? b=some o->((gG h vs).push (seqObj "list" vs.toArray 0)).get? b=some o:=λb o q=>
 Heap.get?_push_of_some _ (((Heap.SameBut.update (h.push (seqObj "list" #[] 0)) h.objs.size (Obj.mapSeq (· ++ vs.toArray))).2 b (N3 (Heap.lt_size q))).trans (Heap.get?_push_of_some _ q))
def EW (K:PySem.W.Frag) (a r:Sh):List V->Hp->VK->Prop:=λvs H Q=>∃ l xs ds,vs=[.ref l]/\SqL K H l xs/\xs.length<64/\aB K H xs ds/\(∀ d∈ds,(Sh.bg a r).has d)/\(∀ d∈ds,d.depth<=100) /\
 ∀ (D:Addr) (p:List Nat),H D=none->p.Perm (List.range xs.length)->dG ds p->Q (.ref D) (upd H D (.lst (picked xs p)))
theorem o4 {a r:Sh}{b:Bool}{k:Nat} (hf:gF a b) (hr:cn k X.A):fZ X (.builtin "sorted") (EW X.K a r):=by
 intro pins s σ H xs us Q I rv h;obtain ⟨l,ys,ds,rfl,hq,h64,hd,hs,qe,q⟩:=h;obtain ⟨u,rfl,ru⟩:=rv.one;cases ru;obtain ⟨vs,r,pl,_⟩:=I.list hq;have hlen:=r.length
 (refine Calls.call_function_entry kind_sorted plain_sorted entry_sorted (args_sorted1 _) ?_)
 unfold Builtin.«sorted»
 (refine wpAny_bind (m:=checkCount "sorted" 1 1 _) (wpAny_pure ?_))
 refine wpAny_bind (collect_list pl.isList ?_ (by rw [sizeLine_eq];lia))
 (refine wpAny_bind (wpAny_newList ?_ (by rw [sizeLine_eq];lia)))
 have hsz:=kH s.heap vs;have hoL:=uh s.heap vs;have keep:=o8 s.heap vs;show wpAny _ _ _ _ _ { s with heap:=(gG s.heap vs).push (seqObj "list" vs.toArray 0) };show wpAny _ _ (_ >>= λ_=>_) _ _ { s with heap:=(gG s.heap vs).push (seqObj "list" vs.toArray 0) };rw [show ((s.heap.push (seqObj "list" #[] 0)).update s.heap.objs.size (Obj.mapSeq (· ++ vs.toArray))).objs.size=s.heap.objs.size+1 from hsz]
 generalize (gG s.heap vs).push (seqObj "list" vs.toArray 0)=h2 at hoL keep ⊢;have I2:Inv X pins σ H { s with heap:=h2 }:=I.kept (t':=s.toks) keep;have hDn:H (s.heap.objs.size+1)=none:=I.hok.fresh (OS _);have fD:bY X pins H (s.heap.objs.size+1):=I.mR (OS _) hDn
 (refine wpAny_bind (wpAny_holding (wpAny_call_entry slot_list_sort ⟨_,hoL,rfl⟩ entry_list_sort ?body (args_list_sort _))))
 case body=>
  refine we (s:={ s with heap:=h2 }) hf I2 hoL fD r hd hs qe (by lia) (by show X.A.units+1+1+101<cLine;have:=hr.un;lia) λp h' hp fQ I'=>?_;refine ⟨_,rfl,wpAny_pure ⟨_,rfl,?_⟩⟩;exact ⟨.ref _,_,I',rfl,q _ p hDn hp fQ⟩
def qG (sp:Sp):List V->List V->Hp->(List V->Hp->Prop)->Prop
 | [],ks,H,Q=>Q ks H
 | x::r,ks,H,Q=>sp [x] H (λk H'=>qG sp r (ks++[k]) H' Q) E0
theorem ye {k:Nat}{f D kS:Addr}{fd:FuncData}{ps:List Str}{sp:Sp}{oD:Obj}{xs:List V}{vs:List Value}{Qk:List V->Hp->Prop}{e0:Nat}{body:Value->PUnit->Sem (ForInStep PUnit)}{E:Value->Shared->Prop}{R:PUnit->Shared->Prop}
  (F:aA X.prog X.w X.K X.mg X.base CX0 k f fd ps sp) (hr:cn (k+2) X.A) (hb:Binds X.K fd ps []) (hne:D≠kS) (hD:∀ v,oD.data ≠ .cell v)
  (iW:∀ x (us:List Value) e (s:Shared) (C:Value->Shared->Prop),us.length<64->s.heap.get? kS=some (seqObj "list" us.toArray e)->wpAny (model X.prog X.w) X.A.in1.in1 (call (.ref f) [x]) (λk s'=>∃ (us':List Value) (e':Nat),us'.length<64/\s'.heap.get? kS=some (seqObj "list" us'.toArray e')/\C k s') (λ_ _=>False) s ->
   wpAny (model X.prog X.w) X.A.in1.in1 (body x ⟨⟩) (λr s'=>r = .yield ⟨⟩/\∃ k s1,C k s1/\s' = { s1 with heap:=s1.heap.update kS (Obj.mapSeq (·.push k)) }) E s)
  (hv:aY xs vs) (h64:vs.length<64) (I:Inv X pins σ H s) (fD:bY X pins H D) (fK:bY X pins H kS) (gD:s.heap.get? D=some oD) (gK:s.heap.get? kS=some (seqObj "list" ([]:List Value).toArray e0)) (hk:qG sp xs [] H Qk)
  (done:∀ s' H' ks us e,Inv X pins σ H' s'->bY X pins H' D->bY X pins H' kS->s'.heap.get? D=some oD->s'.heap.get? kS=some (seqObj "list" us.toArray e)->aY ks us->ks.length=xs.length->Qk ks H'->R ⟨⟩ s') :
  wpAny (model X.prog X.w) X.A.in1.in1 (forIn vs PUnit.unit body) R E s:=by
 have hlen:=hv.length;refine ksk_fold (λj s'=>∃ H' ks us e,Inv X pins σ H' s'/\bY X pins H' D/\bY X pins H' kS/\s'.heap.get? D=some oD/\s'.heap.get? kS=some (seqObj "list" us.toArray e)/\aY ks us/\ks.length=j/\qG sp (xs.drop j) ks H' Qk) vs 0 s
  ⟨H,[],[],e0,I,fD,fK,gD,gK,.nil,rfl,hk⟩ (λj x s' hx ⟨H',ks,us,e,I',fD',fK',gD',gK',rk,lk,tk⟩=>?_) λs' ⟨H',ks,us,e,I',fD',fK',gD',gK',rk,lk,tk⟩=>?_
 ·rw [Nat.zero_add] at tk lk
  (have hj:j<vs.length:=(OD.mp hx).1)
  have hjx:j<xs.length:=by lia
  have ex:xs[j]? = some xs[j]:=by simp [hjx]
  obtain ⟨u,hu,ru⟩:=hv.get ex;rw [hx] at hu;cases hu;rw [Of hjx] at tk;have hl:=rk.length;have Ip:Inv X (pins++[(D,oD),(kS,seqObj "list" us.toArray e)]) σ H' s':=I'.nK λp hp=>by
   (rcases Oa.mp hp with z | z)
   ·exact I'.pin p (Ob _ z)
   ·rcases NZ.mp z with z | z
    ·subst z;exact ⟨gD',fD'.1,fD'.2.1,fD'.2.2.1,hD⟩
    ·have z':p=(kS,seqObj "list" us.toArray e):=by simpa using z
     subst z';exact ⟨gK',fK'.1,fK'.2.1,fK'.2.2.1,λv q=>by cases q⟩
  have hlp:[x].length=ps.length:=F.len _ _ _ _ tk;have run:=F.run X.A.in1.in1 X.stack s' H' ⟨[x],[]⟩ [x] [xs[j]] _ E0 (hr.in1.in1) (Ip.Fs.in1.in1) (by have:=hb s' [x] I'.kIn (by simpa using hlp);simpa using this) (.cons ru .nil) tk;refine wpAny_mono (iW x us e s' (λkv s1=>∃ v H1,Inv X (pins++[(D,oD),(kS,seqObj "list" us.toArray e)]) σ H1 s1/\RelV v kv/\qG sp (xs.drop (j+1)) (ks++[v]) H1 Qk) (by lia) gK' (wpAny_call (codeAny_mono run λr s1 hq=>?_))) (λr s2 hr2=>?_) λ_ _ z=>z
  ·cases r with
   | error er=>exact hq.elim
   | ok fl=>
    cases fl with
    | ret kv=>
     obtain ⟨v,H1,I1,r1,q1⟩:=Ip.after hq;refine ⟨us,e,by lia,(I1.pin (kS,seqObj "list" us.toArray e) (by simp)).1,v,H1,I1,r1,q1⟩
    | next=>exact False.elim hq
    | brk=>exact False.elim hq
    | cont=>exact False.elim hq
  ·obtain ⟨er,kv,s1,⟨v,H1,I1,r1,q1⟩,es⟩:=hr2;refine ⟨er,?_⟩;subst es;have pD:=I1.pin (D,oD) (by simp);have pK:=I1.pin (kS,seqObj "list" us.toArray e) (by simp);have I1':Inv X pins σ H1 s1:=I1.gO;have fD1:bY X pins H1 D:=⟨pD.2.1,fD'.2⟩;have fK1:bY X pins H1 kS:=⟨pK.2.1,fK'.2⟩;have sb:=Heap.SameBut.update s1.heap kS (Obj.mapSeq (·.push kv))
   have ea:us.toArray.push kv=(us++[kv]).toArray:=by simp
   obtain ⟨c2,hc2⟩:∃ c2,(s1.heap.update kS (Obj.mapSeq (·.push kv))).get? kS=some (seqObj "list" (us++[kv]).toArray c2):=⟨_,by rw [<-ea];exact get?_update_seq pK.1 (·.push kv)⟩
   have I2:Inv X pins σ H1 { s1 with heap:=s1.heap.update kS (Obj.mapSeq (·.push kv)) }:=I1'.bz (t':=s1.toks) (wr:=[kS]) (λc hc=>by rw [show c=kS by simpa using hc];exact fK1) λc o hc e=>(sb.2 c (by simpa using hc)).trans e
   refine ⟨H1,ks++[v],us++[kv],c2,I2,fD1,fK1,(sb.2 D hne).trans pD.1,hc2,rk.append (.cons r1 .nil),by simp [lk],?_⟩;rw [Nat.zero_add];exact q1
 ·rw [Nat.zero_add] at tk lk;rw [Ox (by lia)] at tk;exact done s' H' ks us e I' fD' fK' gD' gK' rk (by lia) tk
theorem yC {a r:Sh}{b:Bool}{k:Nat}{f D:Addr}{fd:FuncData}{ps:List Str}{sp:Sp}{n0:Nat} (hf:gF a b) {xs:List V}{vs:List Value}{P:PySem.Fin->Shared->Prop}{E:Value->Shared->Prop}
  (F:aA X.prog X.w X.K X.mg X.base CX0 k f fd ps sp) (hr:cn (k+2) X.A) (hb:Binds X.K fd ps []) (I:Inv X pins σ H s) (ho:s.heap.get? D=some (seqObj "list" vs.toArray n0)) (fD:bY X pins H D)
  (hv:aY xs vs) (h64:vs.length<64)
  {Qk:List V->Hp->Prop} (h:qG sp xs [] H Qk) (hQ:∀ ks H1,Qk ks H1->∃ kds,aB X.K H1 ks kds/\(∀ d∈kds,(Sh.bg a r).has d)/\(∀ d∈kds,d.depth<=100) /\
   ∀ (p:List Nat) (s':Shared),p.Perm (List.range xs.length)->dG kds p->H1 D=none->Inv X pins σ (upd H1 D (.lst (picked xs p))) s'->P (.done (.ret .none)) s') :
  wpAny (model X.prog X.w) X.A.in1.in1 (ksk_tree D (.ref f) false) P E s:=by
 have hu:X.A.in1.in1.units+101<cLine:=by show X.A.units+1+1+101<cLine;have:=hr.un;lia
 have hlen:=hv.length;obtain ⟨e1,ho1,at3⟩:=pe I ho fD;unfold ksk_tree;refine wpAny_bind (listItems_at ho rfl (wpAny_bind (listUpdate_at ho rfl (wpAny_bind (seqEpoch_at ho1 rfl (wpAny_bind (wpAny_newTuple (wpAny_bind (wpAny_newList (wpAny_holding ?main) (NW _))) ?short)))) ?few (NW _))))
 case short=>show vs.length<=_;rw [sizeLine_eq];lia
 case few=>rw [NO,sizeLine_eq];lia
 case main=>
 show wpAny (model X.prog X.w) X.A.in1.in1 (ksk_rest D (.ref f) false vs.toArray e1 (.ref ((s.heap.update D (Obj.mapSeq λ_=>(#[]:Array Value))).push (seqObj "tuple" vs.toArray 0)).objs.size)) P E { s with heap:=((s.heap.update D (Obj.mapSeq λ_=>(#[]:Array Value))).push (seqObj "tuple" vs.toArray 0)).push (seqObj "list" #[] 0) };have hsz:((s.heap.update D (Obj.mapSeq λ_=>(#[]:Array Value))).push (seqObj "tuple" vs.toArray 0)).objs.size=s.heap.objs.size+1:=by rw [size_push',Heap.size_update]
 have gK:(((s.heap.update D (Obj.mapSeq λ_=>(#[]:Array Value))).push (seqObj "tuple" vs.toArray 0)).push (seqObj "list" #[] 0)).get? (s.heap.objs.size+1)=some (seqObj "list" ([]:List Value).toArray 0):=by
  (rw [<-hsz];exact Heap.get?_push_size _ rfl)
 rw [hsz];generalize hh3:((s.heap.update D (Obj.mapSeq λ_=>(#[]:Array Value))).push (seqObj "tuple" vs.toArray 0)).push (seqObj "list" #[] 0)=h3 at gK;obtain ⟨hD3,I3⟩:=at3 h3 hh3.symm;have LV:D<s.heap.objs.size:=Heap.lt_size ho;have hne:D≠s.heap.objs.size+1:=N3 (O8 LV);have fK:bY X pins H (s.heap.objs.size+1):=I.mR (OS _) (I.hok.fresh (OS _));generalize s.heap.objs.size+1=kS at *;unfold ksk_rest;refine wpAny_bind (wpAny_rule ?_)
 first | rw [List.forIn_toArray] | (rw [<-Array.forIn_toList];simp only [List.toList_toArray])
 refine wpAny_bind (ye (R:=λ_ s'=>wpAny (model X.prog X.w) X.A.in1.in1 (Builtin.List.listItems (.ref kS) >>= λkeys=>ksk_end D false vs.toArray e1 (.ref kS) keys) P E s') F hr hb hne (λv z=>by cases z) (λx us e s' C hz gk hx=>?_) hv h64 I3 fD fK hD3 gK h λs' H' ks us e I' fD' fK' gD' gK' rk lk qk=>?_)
 ·refine wpAny_bind (wpAny_attempt (wpAny_mono hx (λkv s'' hk=>?_) λ_ _ hF=>hF.elim));obtain ⟨us',e',hz',gk',c⟩:=hk
  try dsimp only
  refine wpAny_bind (listUpdate_at gk' rfl ?_ (by rw [NO,sizeLine_eq];lia) (NM (Nat.le_of_eq (Array.size_push ..)) (by rw [NO,sizeLine_eq];lia)));exact wpAny_pure ⟨rfl,kv,s'',c,rfl⟩
 ·obtain ⟨kds,hd,hs,qe,q⟩:=hQ _ _ qk;refine wpAny_bind (listItems_at gK' rfl ?_);have hl2:us.length=vs.length:=by rw [<-rk.length];lia
  have Ji:∀ (st:SortSt) (p:List Nat),(arrOf st).map (·.2)=List.toArray (p.map λi=>vs.getD i Value.none)->failedOf st=none->p.Perm (List.range xs.length)->dG kds p->wpAny (model X.prog X.w) X.A.in1.in1 (ksk_tail D false e1 (.ref kS) st) P E s':=λst p CD hfl hp fQ=>by
   have sk:=Heap.SameBut.update s'.heap kS (Obj.mapSeq λ_=>(#[]:Array Value));have gD2:(s'.heap.update kS (Obj.mapSeq λ_=>(#[]:Array Value))).get? D=some (seqObj "list" #[] e1):=(sk.2 D hne).trans gD';have pl:p.length=xs.length:=by rw [hp.length_eq];simp
   unfold ksk_tail
   try dsimp only
   rw [CD];refine wpAny_bind (listUpdate_at gK' rfl ?_ (by rw [NO,sizeLine_eq];lia) (NW _));refine wpAny_bind (wpAny_letGo ?_);refine wpAny_bind (seqEpoch_at gD2 rfl ?_);refine wpAny_bind (listUpdate_at gD2 rfl ?_ (NW _) (by simp only [Oo,if_false];rw [NO,NE,pl,sizeLine_eq];lia));rw [hfl]
   (simp only [bne_self_eq_false,Oo,if_false])
   refine wpAny_pure ?_;have sd:=Heap.SameBut.update (s'.heap.update kS (Obj.mapSeq λ_=>(#[]:Array Value))) D (Obj.mapSeq λ_=>List.toArray (p.map λi=>vs.getD i Value.none));obtain ⟨c2,hc2⟩:∃ c2,((s'.heap.update kS (Obj.mapSeq λ_=>(#[]:Array Value))).update D (Obj.mapSeq λ_=>List.toArray (p.map λi=>vs.getD i Value.none))).get? D=some (seqObj "list" (List.toArray (p.map λi=>vs.getD i Value.none)) c2):=⟨_,get?_update_seq gD2 λ_=>List.toArray (p.map λi=>vs.getD i Value.none)⟩;refine q p _ hp fQ fD'.1 (I'.adopt (t':=s'.toks) (wr:=[D,kS]) (a:=D) (λc hc=>?_) (by simp) (λc o hc e=>?_) ⟨by rw [jn,pl,sizeLine_eq];lia,p.map λi=>vs.getD i Value.none,c2,k4 hv p,hc2⟩)
   ·rcases NZ.mp hc with z | z
    ·rw [z];exact fD'
    ·rw [show c=kS by simpa using z];exact fK'
   ·exact (sd.2 c (λz=>hc (by simp [z]))).trans ((sk.2 c (λz=>hc (by simp [z]))).trans e)
  unfold ksk_end
  try dsimp only
  (simp only [Oo,if_false])
  by_cases hn2:vs.toArray.size<2
  ·rw [if_pos hn2,if_pos hn2];refine wpAny_bind (wpAny_pure ?_);refine wpAny_bind ?_;show wpAny _ _ ((pure ():StateT SortSt Sem Unit).run _) _ _ _;rw [StateT.run_pure];refine wpAny_pure ?_;dsimp only;refine Ji _ (List.range xs.length) ?_ rfl (List.Perm.refl _) (oX (by rw [NO] at hn2;lia));show (us.toArray.zip vs.toArray).map (·.2)=_
   rw [hlen,dD];apply Ph.mp;simp [List.map_snd_zip,hl2]
  ·rw [if_neg hn2,if_neg hn2];have h2:2<=us.length:=by rw [NO] at hn2;lia
   refine wpAny_bind (wpAny_mono (px (A:=X.A.in1.in1) (G:=λp s2=>s2=s'/\p.toList.Perm (List.range us.length)/\dG kds p.toList) hf I' rk hd hs qe h2 hu λp hp up=>⟨rfl,hp,wk (by rw [hp.length_eq];simp) up⟩) (λκ s0 hk=>?_) λ_ _ x=>x.elim);rw [hl2] at hk;refine wpAny_bind (wpAny_mono (kat_run (ks:=us) (vs:=vs) (Q:=λst' s2=>∃ p:Array Nat,arrOf st' = p.map (kas_item (us.toArray.zip vs.toArray))/\failedOf st' = none/\s2=s'/\p.toList.Perm (List.range vs.length)/\dG kds p.toList)
    hl2 (by lia) h64 (λp' st' s2 a1 a2 a3 a4=>⟨p',a2,a3,a4⟩) hk) ?_ λ_ _ e=>e)
   rintro ⟨⟨⟩,st'⟩ s2 ⟨p,har,hfl,rfl,hp,fQ⟩;dsimp only;exact Ji st' p.toList (kat_snds hl2 har) hfl (by rw [hlen];exact hp) fQ
def Cd (K:PySem.W.Frag) (a r:Sh) (sp:Sp):V->Hp->VK->Prop:=λx H Q=>∃ l xs,x = .ref l/\SqL K H l xs/\xs.length<64/\qG sp xs [] H λks H1=>
 ∃ kds,aB K H1 ks kds/\(∀ d∈kds,(Sh.bg a r).has d)/\(∀ d∈kds,d.depth<=100)/\∀ (D:Addr) (p:List Nat),H1 D=none->p.Perm (List.range xs.length)->dG kds p->Q (.ref D) (upd H1 D (.lst (picked xs p)))
theorem yI {a r:Sh}{b:Bool}{k:Nat}{f:Addr}{fd:FuncData}{ps:List Str}{sp:Sp}{x:V}{u:Value}{Q:VK} (hf:gF a b) (F:aA X.prog X.w X.K X.mg X.base CX0 k f fd ps sp) (hr:cn (k+2) X.A) (hb:Binds X.K fd ps []) (I:Inv X pins σ H s) (rx:RelV x u) (h:Cd X.K a r sp x H Q) :
  wpAny (model X.prog X.w) X.A (call (.builtin "sorted") [u] [(Str.ofString "key",.ref f)]) (EP X pins σ Q) X.xe s:=by
 obtain ⟨l,ys,rfl,hq,h64,q⟩:=h;cases rx;obtain ⟨vs,r,pl,_⟩:=I.list hq;have hlen:=r.length;refine call_function_entry_kw kind_sorted plain_sorted entry_sorted (ksk_s1 _ _) ?_;unfold Builtin.«sorted»
 (refine wpAny_bind (m:=checkCount "sorted" 1 1 _) (wpAny_pure ?_))
 refine wpAny_bind (collect_list pl.isList ?_ (by rw [sizeLine_eq];lia))
 (refine wpAny_bind (wpAny_newList ?_ (by rw [sizeLine_eq];lia)))
 have hsz:=kH s.heap vs;have hoL:=uh s.heap vs;have keep:=o8 s.heap vs;show wpAny _ _ _ _ _ { s with heap:=(gG s.heap vs).push (seqObj "list" vs.toArray 0) };show wpAny _ _ (_ >>= λ_=>_) _ _ { s with heap:=(gG s.heap vs).push (seqObj "list" vs.toArray 0) };rw [show ((s.heap.push (seqObj "list" #[] 0)).update s.heap.objs.size (Obj.mapSeq (· ++ vs.toArray))).objs.size=s.heap.objs.size+1 from hsz]
 generalize (gG s.heap vs).push (seqObj "list" vs.toArray 0)=h2 at hoL keep ⊢;have I2:Inv X pins σ H { s with heap:=h2 }:=I.kept (t':=s.toks) keep;have hDn:H (s.heap.objs.size+1)=none:=I.hok.fresh (OS _);have fD:bY X pins H (s.heap.objs.size+1):=I.mR (OS _) hDn;refine wpAny_bind (wpAny_holding (wpAny_call_entry_kw slot_list_sort ⟨_,hoL,rfl⟩ entry_list_sort ?body (ksk_l1 _ _)))
 case body=>
  show wpAny (model X.prog X.w) X.A.in1.in1 (Builtin.«list.sort» ⟨[.ref (s.heap.objs.size+1)],[(Str.ofString "key",.ref f)]⟩) _ _ _;rw [ksk_t1];refine yC (s:={ s with heap:=h2 }) hf F hr hb I2 hoL fD r (by lia) q λks H1 ⟨kds,hd,hs,qe,q2⟩=>⟨kds,hd,hs,qe,λp s' hp fQ hn I'=>?_⟩;refine ⟨_,rfl,wpAny_pure ⟨_,rfl,?_⟩⟩;exact ⟨.ref _,_,I',rfl,q2 _ p hn hp fQ⟩
def HY (K:PySem.W.Frag) (a r:Sh) (sp:Sp) (ta:TA):TE:=λσ H Q=>ta σ H λvs H1=>∃ x,vs=[x]/\Cd K a r sp x H1 Q
theorem w9 {a r:Sh}{b:Bool}{k:Nat}{f:Addr}{fd:FuncData}{ps:List Str}{sp:Sp}{e:Expr}{ta:TA}{y:Str}{p py pos kp:Pos} (hf:gF a b) (F:aA X.prog X.w X.K X.mg X.base CX0 k f fd ps sp) (hr:cn (k+2) X.A) (hb:Binds X.K fd ps [])
  (hg:Gl X "sorted") (hm:X.mg "sorted" = none) (hgf:Gl X y) (hmf:X.mg y=some (.ref f)) (ha:PA X [e] ta) (hdb:(y == ("__debug__" : Str))=false:=by decide)
  (he:backTo pos (starEach [e] X.env)=(false,eval e X.env)::backTo pos (starEach [] X.env):=by rfl) (jG:(backTo pos (starEach [e] X.env)).any (·.1)=false:=by rfl)
  (fU:(backToKw pos (keywordEach [⟨some "key",.Name y py,kp⟩] X.env)).all (·.1.isSome)=true:=by rfl) (hkw:(backToKw pos (keywordEach [⟨some "key",.Name y py,kp⟩] X.env)).any (·.1.isNone)=false:=by rfl) :
  PE X (.Call (.Name "sorted" p) [e] [⟨some "key",.Name y py,kp⟩] pos) (HY X.K a r sp ta):=by
 intro pins s σ H Q I h;refine wpAny_Call_Name_kw (eR I hg hm boot_sorted ?_);refine callWith_kw (thn (ha pos pins s σ H _ I h) λus s1 ⟨vs,H1,I1,r1,q1⟩=>?_) he jG fU hkw;obtain ⟨x,rfl,q⟩:=q1;obtain ⟨u,rfl,ru⟩:=r1.one;refine kws_cons (p5 I1 hgf hmf (kws_nil ?_) hdb);exact yI hf F hr hb I1 ru q
end
section
open PySem.SeqAt
open PySem.AutoSeq1 (wpAny_loadPart')
open PySem.MeetsSeq PySem.MeetsSeq2 PySem.MeetsSeq3
theorem index_loop {prog:Program}{w:World}{A:Around}{E:Value->Shared->Prop}{s:Shared}{items:Array Value}{x:Value}{e:Nat->Bool}{j:Nat} (hj:j<items.size) (hit:e j=true) (hno:∀ m,m<j->e m=false) (he:∀ i (h:i<items.size),EqAt A s items[i] x (e i))
  {body:Nat->Option PySem.Fin×PUnit->Sem (ForInStep (Option PySem.Fin×PUnit))} (hb:∀ i u,body i u=(match items[i]? with
   | some y=>do
    let c <-eqBool y x
    if c=true then do
     let r <-retInt i
     pure (ForInStep.done (some r,⟨⟩))
    else pure (ForInStep.yield (none,⟨⟩))
   | _=>pure (ForInStep.yield (none,⟨⟩)))) {Q:Option PySem.Fin×PUnit->Shared->Prop} (q:Q (some (.done (.ret (.int j s.toks))),⟨⟩) { s with toks:=s.toks+1 }) :
  ∀ (k i:Nat) (u:Option PySem.Fin×PUnit),i<=j->k=items.size - i->wpAny (model prog w) A (forIn (List.range' i k 1) u body) Q E s:=by
 intro k
 induction k with
 | zero=>intro i u hi hk;lia
 | succ k ih=>
  intro i u hi hk;rw [List.range'_succ,List.forIn_cons,hb]
  (have hlt:i<items.size:=by lia)
  have hi1:items[i]? = some items[i]:=by simp [hlt]
  rw [hi1];refine wpAny_bind (wpAny_bind (he i hlt prog w _ _ ?_));cases hei:e i with
  | true=>
   have:i=j:=by
    by_cases z:i<j
    ·rw [hno i z] at hei;cases hei
    ·lia
   subst this;rw [if_pos rfl];refine wpAny_bind ?_;show wpAny _ _ (retInt (i:Int)) _ _ s;unfold retInt
   (refine wpAny_bind (wpAny_mkInt ?_))
   (exact wpAny_pure (wpAny_pure (wpAny_pure q)))
  | false=>
   have:i≠j:=λz=>by rw [z,hit] at hei;cases hei
   rw [if_neg NV];refine wpAny_pure ?_;exact ih (i+1) _ (by lia) (by lia)
end
section
variable {X:Cx}
def CF (K:PySem.W.Frag):V->List V->Hp->VK->Prop:=λx vs H Q=>∃ p xs y j,x = .ref p/\vs=[y]/\SqT K H p xs/\fX y=true/\xs.all fX=true/\j<xs.length/\eqV (xs.getD j .non) y=true/\(∀ m,m<j->eqV (xs.getD m .non) y=false)/\Q (.int j) H
theorem Cj:MtR X "tuple.index" (CF X.K):=by
 intro pins s σ H x vs v us Q I rx rv h;obtain ⟨p,xs,y,j,rfl,rfl,hq,fy,fx,hj,e1,e2,q⟩:=h;cases rx;obtain ⟨u,rfl,ru⟩:=rv.one;obtain ⟨its,r,⟨⟨cls,dd,data,sl⟩,eo,c,n,d⟩,_⟩:=I.tuple hq;simp only at c d;subst c d;have hl:=r.length;have eqs:∀ i (hi:i<its.toArray.size) (A:Around),SeqAt.EqAt A s its.toArray[i] u (eqV (xs.getD i .non) y):=λi hi A=>by
  have hi':i<its.length:=by simpa using hi
  have hx:xs[i]? = some xs[i]:=by simp [hl,hi']
  obtain ⟨w,hw,rw'⟩:=r.get hx;have e3:its.toArray[i]=w:=by
   have:its[i]? = some its[i]:=by simp [hi']
   rw [hw] at this;simpa using (Option.some.inj this).symm
  have e4:xs.getD i .non=xs[i]:=by rw [NU,hx];rfl
  rw [e3,e4];exact CZ rw' ru (Od.mp fx _ (Ov _)) fy
 refine wpAny_call_entry F.slot_tuple_index ⟨_,eo,rfl⟩ F.entry_tuple_index ?_ (F.args_tuple_index_2 _ _);show wpAny _ _ (Builtin.Tuple.tupleItemsOf (.ref p) >>= _) _ _ s;refine wpAny_bind ?_
 (unfold Builtin.Tuple.tupleItemsOf)
 refine wpAny_bind (wpAny_seqItems eo rfl (wpAny_pure ?_));show wpAny _ _ (forIn [0:min its.toArray.size its.toArray.size] ((none:Option PySem.Fin),PUnit.unit) _ >>= _) _ _ s;rw [Std.Legacy.Range.forIn_eq_forIn_range'];have hsz:([0:min its.toArray.size its.toArray.size]:Std.Legacy.Range).size=its.toArray.size:=by simp [Std.Legacy.Range.size]
 rw [hsz];refine wpAny_bind (index_loop (items:=its.toArray) (x:=u) (e:=λi=>eqV (xs.getD i .non) y) (j:=j) (by rw [NO];lia) e1 e2 (λi hi=>eqs i hi _) (λi u=>?_) ?_ _ 0 _ (NW _) rfl)
 ·rfl
 ·refine wpAny_pure ⟨_,rfl,?_⟩;exact ⟨.int j,H,I.tok _,⟨_,rfl⟩,q⟩
def Kh (K:PySem.W.Frag):List V->Hp->VK->Prop:=λvs H Q=>∃ x n t b,vs=[x,.ty n]/\om K H x t/\kitOne K t (.type n)=some b/\Q (.bl b) H
theorem DK:fZ X (.builtin "isinstance") (Kh X.K):=by
 intro pins s σ H xs us Q I rv h;obtain ⟨x,n,t,b,rfl,ty,e,q⟩:=h;obtain ⟨u,w',rfl,r1,r2⟩:=vals2 rv;obtain rfl:w' = Value.type n:=r2;exact Ak I r1 ty e λtk=>⟨.bl b,H,I.tok _,rfl,q⟩
def MI (K:PySem.W.Frag) (te:TE):TE:=λσ H Q=>te σ H λx H1=>∃ a xs,x = .ref a/\SqL K H1 a xs/\∀ p,H1 p=none->Q (.ref p) (upd H1 p (.lst xs.reverse))
theorem IG {e:Expr}{te:TE}{k:Nat}{p1 p2 p3 pos:Pos} (he:PE X e te):PE X (.Subscript e (.Slice none none (some (.UnaryOp .USub (.Constant (.int 1) k p1) p2)) p3) pos) (MI X.K te):=by
 intro pins s σ H Q I h;refine Subscript_ (thn (he pins s σ H _ I h) λv s1 ⟨x,H1,I1,r1,a,xs,ex,hq,q1⟩=>?_);subst ex;cases r1;refine wpAny_Slice ?_;rw [evalPart_none];refine wpAny_pure ?_;refine wpAny_pure ?_;rw [evalPart_some];refine UnaryOp_ (wpAny_Constant_int (neg_int ?_));have I4:Inv X pins σ H1 { s1 with heap:=s1.heap.push { cls:=.type "slice",data:=.fields #[.none,.none,.int (-1) (s1.toks+1)] },toks:=s1.toks+1+1 }:=I1.kept (t':=s1.toks+1+1) λb ob q=>Heap.get?_push_of_some _ q;obtain ⟨its,r,ht,hz⟩:=I4.list hq;have hlen:=r.length;refine tail_any (ops:=[.ref a,.ref s1.heap.objs.size]) ht.isList.typeIs slot_list_getitem.lookup ?_ (by with_unfolding_all rfl);refine wpAny_getItem_list_slice ht.isList (Heap.IsSliceOf.new ..) .none .none (.int (-1) _) (by decide) ?_ (by rw [NO];lia);rw [krv_pick];refine ⟨.ref _,_,I4.laid (o:=.lst xs.reverse) (λb ob q=>Heap.get?_push_of_some _ q) (NH _) ⟨by rw [List.length_reverse];exact hz,_,0,r.reverse,Heap.get?_push_size _ rfl⟩,rfl,q1 _ (I4.hok.fresh (NH _))⟩
end
end L2
namespace L2
open PySem PySem.Spec PyProof.Rows
structure bh (K:PySem.W.Frag) (mg:Str->Option Value) (x:Str) (st:Stmt) (ps:List Str) (f:Addr) (fd:FuncData):Prop where
 fn:Fun K x x st f fd
 bd:Binds K fd ps []
 mg:mg x=some (.ref f)
theorem ae.new {H:Hp}{p:Addr}{o:HO} (h:H p=none):ae H (upd H p o):=λb u e=>by rw [aw (ao e h)];exact e
def CN (D:Addr) (Pv:List V->St->Hp->Prop):St->Hp->Prop:=λσ H=>∃ acc,H D=some (.lst acc)/\Pv acc σ H
section
variable {K:PySem.W.Frag}{g:TG}{tt:TT}{te:TE}{D:Addr}{Q:VK}{σ:St}{H:Hp}
theorem iV {J:It} (n:Nat) (Pv:Nat->List V->St->Hp->Prop) (hD:H D=some (.lst [])) (h0:Pv 0 [] σ H)
  (hgo:∀ i acc σ H,i<n->H D=some (.lst acc)->Pv i acc σ H->J.go i H) (KW:∀ acc σ H,H D=some (.lst acc)->Pv n acc σ H->J.stop n H)
  (hs:∀ i acc σ H x H',i<n->H D=some (.lst acc)->Pv i acc σ H->J.yld i H x H'->g x σ H' λσ2 H2=>tt σ2 H2 λb H3=>if b=true then te σ2 H3 λv H4=>∃ ys,H4 D=some (.lst ys)/\ys.length<sizeLine/\CN D (Pv (i+1)) σ2 (upd H4 D (.lst (ys++[v]))) else CN D (Pv (i+1)) σ2 H3)
  (hd:∀ acc σ H,H D=some (.lst acc)->Pv n acc σ H->Q (.ref D) H):ma g tt te J D Q σ H:=by
 refine ⟨λi m σ H=>m=n - i/\i<=n/\CN D (Pv i) σ H,⟨n,by simp,NW _,[],hD,h0⟩,?_⟩;rintro i m σ H ⟨rfl,hi,acc,cf,p⟩;by_cases hlt:i<n
 ·exact .inr ⟨hgo i acc σ H hlt cf p,CN D (Pv (i+1)),λσ' H' p'=>⟨n - (i+1),by lia,rfl,hlt,p'⟩,λx H' y=>hs i acc σ H x H' hlt cf p y⟩
 ·have e:i=n:=by lia
  subst e;exact .inl ⟨KW acc σ H cf p,hd acc σ H cf p⟩
theorem aF {a:Addr}{xs:List V} (Pv:Nat->List V->St->Hp->Prop) (hD:H D=some (.lst [])) (h0:Pv 0 [] σ H) (hl:∀ i acc σ H,i<=xs.length->H D=some (.lst acc)->Pv i acc σ H->SqL K H a xs)
  (hs:∀ i x acc σ H,xs[i]? = some x->H D=some (.lst acc)->Pv i acc σ H->g x σ H λσ2 H2=>tt σ2 H2 λb H3=>if b=true then te σ2 H3 λv H4=>∃ ys,H4 D=some (.lst ys)/\ys.length<sizeLine/\CN D (Pv (i+1)) σ2 (upd H4 D (.lst (ys++[v]))) else CN D (Pv (i+1)) σ2 H3)
  (hd:∀ acc σ H,H D=some (.lst acc)->Pv xs.length acc σ H->Q (.ref D) H):ma g tt te (Itl K a) D Q σ H:=by
 refine iV xs.length Pv hD h0 (λi acc σ H hi cf p=>⟨xs,xs[i],hl i acc σ H (O9 hi) cf p,by simp [hi]⟩) (λacc σ H cf p=>⟨xs,hl _ acc σ H (NH _) cf p,NH _⟩) (λi acc σ H x H' hi cf p y=>?_) hd;obtain ⟨e,y⟩:=y;subst e;exact hs i x acc σ _ (y xs (hl i acc σ _ (O9 hi) cf p)) cf p
theorem gw {lo:Int}{n:Nat} (Pv:Nat->List V->St->Hp->Prop) (hD:H D=some (.lst [])) (h0:Pv 0 [] σ H)
  (hs:∀ i acc σ H,i<n->H D=some (.lst acc)->Pv i acc σ H->g (.int (lo+i)) σ H λσ2 H2=>tt σ2 H2 λb H3=>if b=true then te σ2 H3 λv H4=>∃ ys,H4 D=some (.lst ys)/\ys.length<sizeLine/\CN D (Pv (i+1)) σ2 (upd H4 D (.lst (ys++[v]))) else CN D (Pv (i+1)) σ2 H3)
  (hd:∀ acc σ H,H D=some (.lst acc)->Pv n acc σ H->Q (.ref D) H):ma g tt te (Itr lo n) D Q σ H:=by
 refine iV n Pv hD h0 (λi acc σ H hi cf p=>hi) (λacc σ H cf p=>NH _) (λi acc σ H x H' hi cf p y=>?_) hd;obtain ⟨e,y⟩:=y;subst e y;exact hs i acc σ _ hi cf p
theorem DG {z:Str} (Pv:Nat->List V->St->Hp->Prop) (hD:H D=some (.lst [])) (h0:Pv 0 [] σ H)
  (hs:∀ i c acc σ H,z.cps[i]? = some c->H D=some (.lst acc)->Pv i acc σ H->g (.str ⟨#[c]⟩) σ H λσ2 H2=>tt σ2 H2 λb H3=>if b=true then te σ2 H3 λv H4=>∃ ys,H4 D=some (.lst ys)/\ys.length<sizeLine/\CN D (Pv (i+1)) σ2 (upd H4 D (.lst (ys++[v]))) else CN D (Pv (i+1)) σ2 H3)
  (hd:∀ acc σ H,H D=some (.lst acc)->Pv z.length acc σ H->Q (.ref D) H):ma g tt te (Its z) D Q σ H:=by
 refine iV z.length Pv hD h0 (λi acc σ H hi cf p=>hi) (λacc σ H cf p=>NH _) (λi acc σ H x H' hi cf p y=>?_) hd;obtain ⟨e,c,ec,y⟩:=y;subst e y;exact hs i c acc σ _ ec cf p
theorem tS {a:Addr}{xs:List V} (Pv:Nat->List V->St->Hp->Prop) (hD:H D=some (.lst [])) (h0:Pv 0 [] σ H) (hl:∀ i acc σ H,i<=xs.length->H D=some (.lst acc)->Pv i acc σ H->SqL K H a xs)
  (hs:∀ i x acc σ H p,xs[i]? = some x->H D=some (.lst acc)->Pv i acc σ H->H p=none->g (.ref p) σ (upd H p (.tup [.int i,x])) λσ2 H2=>tt σ2 H2 λb H3=>if b=true then te σ2 H3 λv H4=>∃ ys,H4 D=some (.lst ys)/\ys.length<sizeLine/\CN D (Pv (i+1)) σ2 (upd H4 D (.lst (ys++[v]))) else CN D (Pv (i+1)) σ2 H3)
  (hd:∀ acc σ H,H D=some (.lst acc)->Pv xs.length acc σ H->Q (.ref D) H):ma g tt te (Ite K a) D Q σ H:=by
 refine iV xs.length Pv hD h0 (λi acc σ H hi cf p=>⟨xs,xs[i],hl i acc σ H (O9 hi) cf p,by simp [hi]⟩) (λacc σ H cf p=>⟨xs,hl _ acc σ H (NH _) cf p,NH _⟩) (λi acc σ H x H' hi cf p y=>?_) hd;obtain ⟨q,v,hq,hv,e,e'⟩:=y;subst e e';exact hs i v acc σ _ q (hv xs (hl i acc σ _ (O9 hi) cf p)) cf p hq
end
theorem oh {K:PySem.W.Frag}{sp:Sp}{Qk:List V->Hp->Prop}{H0:Hp}:∀ (xs:List V) (kds:List PyData) (ks:List V) (dks:List PyData) (H:Hp),xs.length=kds.length->ae H0 H->aB K H ks dks ->
  (∀ (i:Nat) (x:V) (d:PyData) (H:Hp) (Q:VK),xs[i]? = some x->kds[i]? = some d->ae H0 H->(∀ r H',ae H H'->Den K H' r d->Q r H')->sp [x] H Q E0)->(∀ ks' H',ae H0 H'->aB K H' ks' (dks++kds)->Qk ks' H')->qG sp xs ks H Qk
 | [],[],ks,dks,H,_,hs,hd,_,hq=>hq ks H hs (by simpa using hd)
 | x::xs,d::kds,ks,dks,H,hl,hs,hd,hsp,hq=>by
  refine hsp 0 x d H _ rfl rfl hs λr H' s' dr=>?_;refine oh xs kds (ks++[r]) (dks++[d]) H' (by simpa using hl) (hs.trans s') ((hd.same s').append (.cons dr .nil)) (λi y e H2 Q h1 h2=>hsp (i+1) y e H2 Q (by simpa using h1) (by simpa using h2)) λks' H2 h1 h2=>hq ks' H2 h1 (by simpa using h2)
def Hw (sc osc:Scope) (N N':List Str) (n:Nat) (fi:List Nat):Bool:=
 decide (sc.kind = .function) && decide (∀ y∈sc.names,y.2 = .local->sc.names.lookup y.1=some .local)
 && decide (∀ y∈sc.names,y.2 = .free->osc.names.lookup y.1=some .cell\/osc.names.lookup y.1=some .free)
 && decide (N'.length=n+fi.length)
 && (List.range fi.length).all λj=>match fi[j]? with
  | some k=>match N'[n+j]? with
   | some x=>decide (N[k]? = some x) && decide (sc.names.lookup x=some .free) && decide ((x,NameKind.cell)∉sc.names)
   | none=>false
  | none=>false
theorem aX {X:Cx}{sc:Scope}{N':List Str}{n:Nat}{fi:List Nat} (osc:Scope) (N:List Str) (h:Hw sc osc N N' n fi=true) (e1:X.env.scope=osc:=by rfl) (e2:X.N=N:=by rfl):lc X sc N' n fi:=by
 subst e1 e2;simp only [Hw,Om,decide_eq_true_eq] at h;obtain ⟨⟨⟨⟨h1,h2⟩,h3⟩,h4⟩,h5⟩:=h;refine ⟨h1,h2,h3,h4,λj k hj=>?_⟩;have hlt:j<fi.length:=by
  rcases Oi j fi.length with q | q
  ·exact q
  ·rw [Ou q] at hj;cases hj
 have h6:=Od.mp h5 j (Oh.mpr hlt);rw [hj] at h6;dsimp only at h6;cases e:N'[n+j]? with
 | none=>rw [e] at h6;cases h6
 | some x=>
  rw [e] at h6;simp only [Om,decide_eq_true_eq] at h6;exact ⟨x,rfl,h6.1.1,h6.1.2,h6.2⟩
def lim (H H':Hp):Hp:=λb=>match H b with | some (.lst _)=>none | _=>H' b
def wo (D:Addr) (H:Hp):Hp:=λb=>if b=D then none else H b
section
variable {H H' H1 H2 H3:Hp}{D E p b:Addr}{o u:HO}{xs ys:List V}
theorem i7 (h:∀ zs,H b≠some (.lst zs)):lim H H' b=H' b:=by
 unfold lim
 split
 ·rename_i zs e;exact (h zs e).elim
 ·rfl
theorem bQ (h:H p=none):lim H H' p=H' p:=i7 λzs e=>by rw [h] at e;cases e
theorem bt:ae (lim H H') H':=λb o e=>by
 unfold lim at e
 split at e
 ·cases e
 ·exact e
theorem pO (h:lim H H' b=some o):∀ zs,H b≠some (.lst zs):=λzs e=>by
 simp only [lim,e] at h;cases h
theorem bF (h:ae H1 H2):ae (lim H H1) (lim H H2):=λb o e=>by
 rw [i7 (pO e)];exact h b o (bt b o e)
def LL (H H':Hp):Prop:=∀ b ys,H b=some (.lst ys)->∃ zs,H' b=some (.lst zs)
theorem ae.ll (h:ae H H'):LL H H':=λb ys e=>⟨ys,h b _ e⟩
theorem LL.trans (h:LL H1 H2) (g:LL H2 H3):LL H1 H3:=λb ys e=>let ⟨zs,q⟩:=h b ys e;g b zs q
theorem bW (h:LL H H1):ae (lim H1 H2) (lim H H2):=λb o e=>by
 rw [i7]
 ·exact bt b o e
 ·intro zs q;obtain ⟨z2,q2⟩:=h b zs q;exact pO e z2 q2
theorem aS (h:b≠D):wo D H b=H b:=by simp [wo,h]
theorem cX:wo D H D=none:=by simp [wo]
theorem gH (h:wo D H b=some o):b≠D/\H b=some o:=by
 unfold wo at h
 split at h
 ·cases h
 ·rename_i q;exact ⟨q,h⟩
theorem bc:ae (wo D H) H:=λb o e=>(gH e).2
theorem ck (h:ae H1 H2):ae (wo D H1) (wo D H2):=λb o e=>by
 rw [aS (gH e).1];exact h b o (gH e).2
theorem iD:wo D (upd H D o)=wo D H:=by
 funext b
 by_cases e:b=D
 ·subst e;rw [cX,cX]
 ·rw [aS e,aS e,aw e]
theorem wz:ae (wo D H) (upd H D o):=λb u e=>by rw [aw (gH e).1];exact (gH e).2
theorem bp (h:ae (wo D H1) H2) (g:ae (wo D H2) H3):ae (wo D H1) H3:=λb o e=>g b o (by rw [aS (gH e).1];exact h b o e)
theorem yM (h:H D=some (.lst ys)):ae (lim H H') (wo D H'):=λb o e=>by
 have hb:b≠D:=λq=>by subst q;exact pO e _ h
 rw [aS hb];exact bt b o e
theorem dA (h:H D=some (.lst ys)):lim H (upd H' D o)=lim H H':=by
 funext b
 by_cases e:b=D
 ·subst e;simp only [lim,h]
 ·unfold lim;rw [aw e]
theorem cY (h:H D=none) (s:ae H H'):ae H (wo D H'):=λb o e=>by
 rw [aS (ao e h)];exact s b o e
theorem vw (s:ae H H') (h:H' D=some (.lst ys)):LL (upd H D o) H':=λb zs e=>by
 by_cases q:b=D
 ·subst q;exact ⟨ys,h⟩
 ·rw [aw q] at e;exact ⟨zs,s b _ e⟩
theorem aG {α:Type}{xs:List α}{i:Nat}{x:α} (h:xs[i]? = some x):i<xs.length:=by
 rcases Oi i xs.length with q | q
 ·exact q
 ·rw [Ou q] at h;cases h
theorem bj {α β:Type}{xs:List α}{i:Nat}{x:α} (h:xs[i]? = some x) (f:α->β):(xs.take (i+1)).map f=(xs.take i).map f++[f x]:=by
 rw [NY,h];simp
theorem ar (h:H D=none) (s:ae H H'):ae H (upd H' D o):=λb u e=>by
 rw [aw (ao e h)];exact s b u e
end
theorem bV {i:Nat}{x:V}{σ:St}{H:Hp}{F G:St->Hp->Prop} (h:F (σ.set i (some x)) H):aU i x σ H λσ2 H2=>FR σ2 H2 λb H3=>if b=true then F σ2 H3 else G σ2 H3:=by
 show (if true=true then F (σ.set i (some x)) H else G (σ.set i (some x)) H);rw [if_pos rfl];exact h
theorem small {n:Nat} (h:n<10000000):n<sizeLine:=by rw [sizeLine_eq];exact N9 h (by decide)
end L2
namespace L2
open PySem PySem.Spec PyProof.Rows PySem.Builtin PySem.Builtin.Str
theorem SqT.lim {K:PySem.W.Frag}{H H0 H':Hp}{a:Addr}{xs:List V} (s1:ae H H0) (s2:ae H H') (h:SqT K H a xs):SqT K (L2.lim H0 H') a xs:=by
 rcases h with (h | ⟨o,h⟩) | h
 ·exact .inl (.inl (by rw [i7 λzs e=>by rw [s1 _ _ h] at e;cases e];exact s2 _ _ h))
 ·exact .inl (.inr ⟨o,by rw [i7 λzs e=>by rw [s1 _ _ h] at e;cases e];exact s2 _ _ h⟩)
 ·exact .inr h
def lD (K:PySem.W.Frag):List V->Hp->VK->Prop:=λxs H Q=>∃ p ys,xs=[.ref p]/\(SqL K H p ys\/SqT K H p ys)/\∀ l,H l=none->Q (.ref l) (upd H l (.lst ys))
theorem gx {X:Cx}:fZ X (.type "list") (lD X.K):=vF
theorem lG:bootBuiltins "list" = some (.type "list"):=by decide +kernel
theorem gu:bootBuiltins "sorted" = some (.builtin "sorted"):=by decide +kernel
theorem bE {n:Nat}:∀ (l:List PyData),(∀ d∈l,d.depth<=n)->PyData.depthAll l<=n
 | [],_=>NW _
 | d::r,h=>by
  have h1:=h d (NT ..);have h2:=bE r λe he=>h e (NN _ he);unfold PyData.depthAll;exact Nat.max_le.mpr ⟨h1,h2⟩
theorem Gp {z:Str}{i c:Nat} (hz:PyData.strOk z=true) (h:z.cps[i]? = some c):PyData.strOk ⟨#[c]⟩=true:=by
 unfold PyData.strOk at hz ⊢;rw [Array.all_eq_true] at hz;have hi:i<z.cps.size:=by
  rcases Oi i z.cps.size with q | q
  ·exact q
  ·rw [OY q] at h;cases h
 have h1:=hz i hi;rw [Oj hi] at h;cases h;simpa using h1
theorem lO {z:Str} (h:∀ c∈z.cps,c<1114112):PyData.strOk z=true:=by
 unfold PyData.strOk;rw [Array.all_eq_true];intro i hi;simpa using h _ (Array.getElem_mem hi)
theorem gv {z:Str} (h:PyData.strOk z=true):∀ c∈z.cps,c<1114112:=by
 unfold PyData.strOk at h;intro c hc;obtain ⟨i,hi,rfl⟩:=Array.mem_iff_getElem.mp hc;rw [Array.all_eq_true] at h;simpa using h i hi
theorem Em {z:Str}{l u:Option Int} (hz:PyData.strOk z=true):PyData.strOk (Txt.slice z l u)=true/\(Txt.slice z l u).length<=z.length:=by
 unfold Txt.slice
 split
 ·exact ⟨hz,NH _⟩
 ·constructor
  ·refine lO λc hc=>?_;simp only [List.mem_toArray,List.mem_filterMap] at hc;obtain ⟨i,_,e⟩:=hc;refine gv hz c ?_;exact Array.mem_of_getElem? e
  ·show (List.toArray _).size<=z.cps.size;simp only [NO];exact NM (List.length_filterMap_le _ _) (sliceIndices_le l u _)
theorem Az {z:Str}{a b:Nat} (hz:PyData.strOk z=true):PyData.strOk (strSub z a b)=true/\(strSub z a b).length<=z.length:=by
 unfold strSub;constructor
 ·refine lO λc hc=>?_;refine gv hz c ?_;obtain ⟨i,hi,rfl⟩:=Array.mem_iff_getElem.mp hc;simp only [Array.getElem_extract];exact Array.getElem_mem _
 ·show (Array.extract _ _ _).size<=z.cps.size;rw [Array.size_extract];lia
theorem nr {z y:Str} (hz:PyData.strOk z=true):∀ x∈Txt.split z y,PyData.strOk x=true/\x.length<=z.length:=by
 intro x hx;have one:x∈[z]->PyData.strOk x=true/\x.length<=z.length:=λh=>by
  simp only [NQ] at h;subst h;exact ⟨hz,NH _⟩
 unfold Txt.split at hx
 split at hx
 ·exact one hx
 ·split at hx
  ·exact one hx
  ·unfold partsBetween at hx;simp only [NJ] at hx;obtain ⟨p,_,rfl⟩:=hx;exact Az hz
theorem mJ {z y:Str}:1<=(Txt.split z y).length/\(Txt.split z y).length<=z.length+2:=by
 have h1:=StrLaws.occ_length_le z y 0 z.length (z.length+1);unfold Txt.split
 split
 ·simp
 ·split
  ·simp
  ·rw [length_partsBetween];lia
theorem zR {y:Str} (hy:PyData.strOk y=true):∀ (xs:List Str) (acc:Array Nat),(∀ x∈xs,PyData.strOk x=true)->(∀ c∈acc,c<1114112)->∀ c∈xs.foldl (λacc p=>acc++y.cps++p.cps) acc,c<1114112
 | [],acc,_,h=>h
 | x::r,acc,hx,h=>by
  refine zR hy r _ (λz hz=>hx z (NN _ hz)) λc hc=>?_;rcases Array.mem_append.mp hc with hc | hc
  ·rcases Array.mem_append.mp hc with hc | hc
   ·exact h c hc
   ·exact gv hy c hc
  ·exact gv (hx x (NT ..)) c hc
theorem xa {y:Str}{m:Nat}:∀ (xs:List Str) (acc:Array Nat),(∀ x∈xs,x.length<=m)->(xs.foldl (λacc p=>acc++y.cps++p.cps) acc).size<=acc.size+xs.length * (m+y.length)
 | [],acc,_=>by simp
 | x::r,acc,hx=>by
  have h1:=xa (y:=y) r (acc++y.cps++x.cps) λz hz=>hx z (NN _ hz);have h2:x.cps.size<=m:=hx x (NT ..);have h3:(acc++y.cps++x.cps).size=acc.size+y.cps.size+x.cps.size:=by simp;lia
  have h4:y.length=y.cps.size:=rfl;simp only [List.foldl_cons,N4,Nat.add_mul,Nat.one_mul] at h1 ⊢;lia
theorem zw {y:Str}{m:Nat} (hy:PyData.strOk y=true) {xs:List Str} (h:∀ x∈xs,PyData.strOk x=true/\x.length<=m):PyData.strOk (Txt.join y xs)=true/\(Txt.join y xs).length<=xs.length * (m+y.length):=by
 cases xs with
 | nil=>exact ⟨by show PyData.strOk Str.empty=true;decide +kernel,NW _⟩
 | cons x r=>
  have hx:=h x (NT ..);have hr:∀ z∈r,PyData.strOk z=true/\z.length<=m:=λz hz=>h z (NN _ hz);refine ⟨lO (zR hy r x.cps (λz hz=>(hr z hz).1) (gv hx.1)),?_⟩;have h1:=xa (y:=y) (m:=m) r x.cps λz hz=>(hr z hz).2;have h2:x.cps.size<=m:=hx.2;show (List.foldl (λ(acc:Array Nat) (p:Str)=>acc++y.cps++p.cps) x.cps r).size<=(x::r).length * (m+y.length);simp only [N4,Nat.add_mul,Nat.one_mul] at h1 ⊢;lia
theorem BV {m:Nat}:∀ {xs:List Str},(∀ x∈xs,x.length<=m)->(xs.map (·.length)).sum<=xs.length * m
 | [],_=>by simp
 | x::r,h=>by
  have h1:=BV λz hz=>h z (NN x hz);have h2:=h x (NT ..);simp only [N1,O0,N4,Nat.add_mul,Nat.one_mul] at h1 ⊢;lia
theorem lr {y:Str}{m:Nat}{xs:List Str} (h:∀ x∈xs,x.length<=m) (hb:xs.length * m+xs.length * y.length<=16777216):JoinOk y xs=true:=by
 have h1:=BV h;exact joinOk_of (by lia)
section
variable {K:PySem.W.Frag}{tt:TT}{D:Addr}{Q:VK}{H:Hp}
theorem d6 {K:PySem.W.Frag}{H:Hp}:∀ {l:List Str},(∀ x∈l,PyData.strOk x=true)->aB K H (l.map V.str) (l.map PyData.str)
 | [],_=>.nil
 | x::r,h=>.cons (.str (h x (NT ..))) (d6 λy hy=>h y (NN _ hy))
end
end L2
namespace L2
open PySem PySem.Spec PyProof.Rows
def Itz (K:PySem.W.Frag) (a b:Addr):It:=
 ⟨λi H=>∃ xs ys x y,SqL K H a xs/\SqL K H b ys/\xs[i]? = some x/\ys[i]? = some y,
   λi H x H'=>∃ p u v,H p=none/\(∀ xs,SqL K H a xs->xs[i]? = some u)/\(∀ ys,SqL K H b ys->ys[i]? = some v)/\x = .ref p/\H' = upd H p (.tup [u,v]),
   λi H=>∃ xs ys,SqL K H a xs/\SqL K H b ys/\(xs.length<=i\/ys.length<=i)⟩
theorem Df {P:Program}{w:World}{K:PySem.W.Frag}{zp:List Expr}{k:Nat}{pos:Pos} (a b z TI TO i1 i2:Addr) (D:ZipApart z TI TO i1 i2 a b) :
  Turn P w K (.Tuple zp k pos) (Itz K a b) [z,TI,TO,i1,i2] z (λi h=>IsZip h z TI TO .none/\IsPair h TI (.ref i1) (.ref i2)/\(∃ u v,IsPair h TO u v)/\h.IsListIter i1 a i/\h.IsListIter i2 b i) where
 mem:=by simp
 obj:=λi h st c hc=>by
  obtain ⟨hz,hTI,⟨u,v,hTO⟩,⟨o1,e1,_,g1⟩,⟨o2,e2,_,g2⟩⟩:=st;simp only [NZ,O2,or_false] at hc;rcases hc with rfl | rfl | rfl | rfl | rfl
  ·exact ⟨_,hz,λv q=>by cases q⟩
  ·exact ⟨_,hTI,λv q=>by cases q⟩
  ·exact ⟨_,hTO,λv q=>by cases q⟩
  ·exact ⟨o1,e1,λv q=>by rw [g1] at q;cases q⟩
  ·exact ⟨o2,e2,λv q=>by rw [g2] at q;cases q⟩
 keep:=λi h h' st kk=>by
  obtain ⟨hz,hTI,⟨u,v,hTO⟩,h1,h2⟩:=st;exact ⟨kk z (by simp) _ hz,kk TI (by simp) _ hTI,⟨u,v,kk TO (by simp) _ hTO⟩,h1.at λo e=>kk i1 (by simp) o e,h2.at λo e=>kk i2 (by simp) o e⟩
 item:=by
  intro X hP hw hK hc i pins s σ H E I hf st hg;subst hP hw hK;obtain ⟨xs,ys,x,y,hq,hq',hx,hy⟩:=hg;obtain ⟨its,rv,p,_⟩:=I.list hq;obtain ⟨jts,rv',p',_⟩:=I.list hq';obtain ⟨u,hu,ru⟩:=rv.get hx;obtain ⟨v,hv,rv2⟩:=rv'.get hy;obtain ⟨hz,hTI,⟨u0,v0,hTO⟩,h1,h2⟩:=st;have ltn:∀ {b:Addr}{o:Obj},s.heap.get? b=some o->b<s.heap.objs.size:=λe=>Heap.lt_size e;have hlz:=ltn hz;have Nl:=ltn hTI;have Ni:=ltn hTO;have hl1:i1<s.heap.objs.size:=by obtain ⟨_,e,_⟩:=h1;exact ltn e
  have hl2:i2<s.heap.objs.size:=by obtain ⟨_,e,_⟩:=h2;exact ltn e
  refine wpAny_pyNext_zip_item D hz hTI hTO h1 h2 p.isList p'.isList (x:=u) (y:=v) (by simpa using hu) (by simpa using hv) λh' a1 a2 a3 a4 a5 a6 kk=>?_;refine ⟨_,rfl,?_⟩;refine wpAny_letOwnedTupleGo_zip a1 λg hz' sb=>?_;have hfr:H s.heap.objs.size=none:=I.hok.fresh (NH _);have new:g.get? s.heap.objs.size=some { cls:=.type "tuple",data:=.seq #[u,v] }:=(sb.2 _ (Nat.ne_of_gt hlz)).trans a5;have I2:Inv X pins σ (upd H s.heap.objs.size (.tup [x,y])) { s with heap:=g }:=I.tF (t':=s.toks) (wr:=[z,TI,TO,i1,i2]) hf (λc o hcm ec=>by
    have n1:c≠z:=λq=>hcm (by simp [q]);have n2:c≠TO:=λq=>hcm (by simp [q]);have n3:c≠i1:=λq=>hcm (by simp [q]);have n4:c≠i2:=λq=>hcm (by simp [q]);exact (sb.2 c n1).trans (kk c o n1 n2 n3 n4 ec)) (NH _) ⟨by show 2<=sizeLine;decide,[u,v],.cons ru (.cons rv2 .nil),⟨_,new,rfl,_,rfl⟩⟩
  refine ⟨.ref s.heap.objs.size,_,I2,rfl,⟨_,x,y,hfr,λzs hzs=>by rw [I.nJ hzs hq];exact hx,λzs hzs=>by rw [I.nJ hzs hq'];exact hy,rfl,rfl⟩,⟨hz',?_,⟨u,v,?_⟩,?_,?_⟩,λc hcm=>?_⟩
  ·exact (sb.2 _ D.TIz).trans (kk _ _ D.TIz D.TITO D.TIi1 D.TIi2 hTI)
  ·exact (sb.2 _ D.TOz).trans a2
  ·exact a3.at λo e=>(sb.2 _ D.i1z).trans e
  ·exact a4.at λo e=>(sb.2 _ D.i2z).trans e
  ·have hb':c≠s.heap.objs.size:=by
    simp only [NZ,O2,or_false] at hcm;rcases hcm with rfl | rfl | rfl | rfl | rfl <;> exact N3 (by assumption)
   rw [aw hb'];exact (hf c hcm).1
 done:=by
  intro X hP hw hK hc i pins s σ H E I hf st hg;subst hP hw hK;obtain ⟨xs,ys,hq,hq',hx⟩:=hg;obtain ⟨its,rv,p,_⟩:=I.list hq;obtain ⟨jts,rv',p',_⟩:=I.list hq';have hl:=rv.length;have hl':=rv'.length;obtain ⟨hz,hTI,⟨u0,v0,hTO⟩,h1,h2⟩:=st;refine wpAny_pyNext_zip_end (I.ok.hd hc) D hz hTI hTO h1 h2 p.isList p'.isList ?_ λh' kk=>⟨rfl,I.bz (t':=s.toks) (wr:=[z,TI,TO,i1,i2]) hf λc o hcm e=>kk c o (λq=>hcm (by simp [q])) (λq=>hcm (by simp [q])) (λq=>hcm (by simp [q])) (λq=>hcm (by simp [q])) e⟩;rcases hx with hx | hx
  ·exact .inl (by simp;lia)
  ·exact .inr (by simp;lia)
 self:=λ_ _ _ _ _ st h=>wpAny_pyIter_zip st.1 h
section
variable {X:Cx}
def Ms (K:PySem.W.Frag) (ta:TA):TI:=λσ H R=>ta σ H λvs H1=>∃ a b,vs=[.ref a,.ref b]/\(∃ xs,SqL K H1 a xs)/\(∃ ys,SqL K H1 b ys)/\R (Itz K a b) H1
theorem yw {zp:List Expr}{k:Nat}{CJ:Pos}{a b:Expr}{ta:TA}{p pos:Pos} (hg:Gl X "zip") (hm:X.mg "zip" = none) (ha:PA X [a,b] ta) (hs:starEach [a,b] X.env=(false,eval a X.env)::starEach [b] X.env:=by rfl) (hpl:(backTo pos (starEach [b] X.env)).any (·.1)=false:=by rfl):PI X (.Tuple zp k CJ) (.Call (.Name "zip" p) [a,b] [] pos) (Ms X.K ta):=by
 intro pins s σ H R I h;refine Call_ (eR I hg hm boot_zip (PyProof.Rows.callWith_type1 (thn (ha pos pins s σ H _ I h) λus s1 ⟨vs,H1,I1,r1,q1⟩=>?_) hs hpl));obtain ⟨a,b,e,⟨xs,hq⟩,⟨ys,hq'⟩,q⟩:=q1;subst e;obtain ⟨u1,u2,rfl,r1,r2⟩:=vals2 r1;cases r1;cases r2;obtain ⟨its,rv,pl,_⟩:=I1.list hq;obtain ⟨jts,rv',pl',_⟩:=I1.list hq';have la : @LT.lt Nat _ a s1.heap.objs.size:=by obtain ⟨_,e,_⟩:=pl.isList;exact Heap.lt_size e
 have lb : @LT.lt Nat _ b s1.heap.objs.size:=by obtain ⟨_,e,_⟩:=pl'.isList;exact Heap.lt_size e
 refine call_zip_2 pl.isList pl'.isList λh' hz hTI hTO h1 h2 hsz hk=>wpAny_pyIter_zip hz ?_;have D:ZipApart (s1.heap.objs.size+4) (s1.heap.objs.size+2) (s1.heap.objs.size+3) s1.heap.objs.size (s1.heap.objs.size+1) a b:=by constructor <;> (show ((_:Nat)≠_)) <;> lia
 refine ⟨s1.heap.objs.size+4,[s1.heap.objs.size+4,s1.heap.objs.size+2,s1.heap.objs.size+3,s1.heap.objs.size,s1.heap.objs.size+1],_,_,H1,rfl,I1.kept (t':=s1.toks) hk,Df a b _ _ _ _ _ D,⟨hz,hTI,⟨_,_,hTO⟩,h1,h2⟩,λc hc=>?_,q⟩;have hb':s1.heap.objs.size<=c:=by
  simp only [NZ,O2,or_false] at hc;rcases hc with rfl | rfl | rfl | rfl | rfl <;> first | exact NH _ | exact Nat.le_add_right _ _
 exact I1.mR hb' (I1.hok.fresh hb')
end
section
variable {K:PySem.W.Frag}{g:TG}{tt:TT}{te:TE}{D:Addr}{Q:VK}{σ:St}{H:Hp}
theorem CB {a b:Addr}{xs ys:List V} (Pv:Nat->List V->St->Hp->Prop) (hD:H D=some (.lst [])) (h0:Pv 0 [] σ H) (hl:∀ i acc σ H,H D=some (.lst acc)->Pv i acc σ H->SqL K H a xs/\SqL K H b ys)
  (hs:∀ i x y acc σ H p,xs[i]? = some x->ys[i]? = some y->H D=some (.lst acc)->Pv i acc σ H->H p=none->g (.ref p) σ (upd H p (.tup [x,y])) λσ2 H2=>tt σ2 H2 λb H3=>if b=true then te σ2 H3 λv H4=>∃ ys,H4 D=some (.lst ys)/\ys.length<sizeLine/\CN D (Pv (i+1)) σ2 (upd H4 D (.lst (ys++[v]))) else CN D (Pv (i+1)) σ2 H3)
  (hd:∀ acc σ H,H D=some (.lst acc)->Pv (min xs.length ys.length) acc σ H->Q (.ref D) H):ma g tt te (Itz K a b) D Q σ H:=by
 refine iV (min xs.length ys.length) Pv hD h0 (λi acc σ H hi cf p=>?_) (λacc σ H cf p=>?_) (λi acc σ H x H' hi cf p y=>?_) hd
 ·obtain ⟨h1,h2⟩:=hl i acc σ H cf p;have h3:i<xs.length:=by lia
  have h4:i<ys.length:=by lia
  exact ⟨xs,ys,xs[i],ys[i],h1,h2,by simp [h3],by simp [h4]⟩
 ·obtain ⟨h1,h2⟩:=hl _ acc σ H cf p;exact ⟨xs,ys,h1,h2,by lia⟩
 ·obtain ⟨q,u,v,hq,hu,hv,e,e'⟩:=y;subst e e';obtain ⟨h1,h2⟩:=hl i acc σ H cf p;exact hs i u v acc σ _ q (hu xs h1) (hv ys h2) cf p hq
theorem zT {a b:Addr}{xs ys:List V}{tb:TS}{D:Ends} (Pv:Nat->St->Hp->Prop) (h0:Pv 0 σ H) (hl:∀ i σ H,Pv i σ H->SqL K H a xs/\SqL K H b ys)
  (hs:∀ i x y σ H p,xs[i]? = some x->ys[i]? = some y->Pv i σ H->H p=none->g (.ref p) σ (upd H p (.tup [x,y])) λσ2 H2=>tb { D with nx:=Pv (i+1),ct:=Pv (i+1),bk:=D.nx } σ2 H2) (hd:∀ σ H,Pv (min xs.length ys.length) σ H->D.nx σ H) :
  ∃ W:Nat->Nat->St->Hp->Prop,(∃ m,W 0 m σ H)/\∀ i m σ H,W i m σ H ->
   ((Itz K a b).stop i H/\D.nx σ H)\/((Itz K a b).go i H/\∃ N:St->Hp->Prop,(∀ σ' H',N σ' H'->∃ m',m' < m/\W (i+1) m' σ' H')/\∀ x H',(Itz K a b).yld i H x H'->g x σ H' λσ2 H2=>tb { D with nx:=N,ct:=N,bk:=D.nx } σ2 H2):=by
 refine ⟨λi m σ H=>m=min xs.length ys.length - i/\i<=min xs.length ys.length/\Pv i σ H,⟨_,rfl,NW _,h0⟩,?_⟩;rintro i m σ H ⟨rfl,hi,p⟩;obtain ⟨h1,h2⟩:=hl i σ H p;by_cases hlt:i<min xs.length ys.length
 ·have h3:i<xs.length:=by lia
  have h4:i<ys.length:=by lia
  refine .inr ⟨⟨xs,ys,xs[i],ys[i],h1,h2,by simp [h3],by simp [h4]⟩,Pv (i+1),λσ' H' p'=>⟨min xs.length ys.length - (i+1),by lia,rfl,hlt,p'⟩,λx H' y=>?_⟩;obtain ⟨q,u,v,hq,hu,hv,e,e'⟩:=y;subst e e';exact hs i u v σ _ q (hu xs h1) (hv ys h2) p hq
 ·have e:i=min xs.length ys.length:=by lia
  subst e;exact .inl ⟨⟨xs,ys,h1,h2,by lia⟩,hd σ H p⟩
end
section
variable {X:Cx}
def Gv:V->List V->Hp->VK->Prop:=λx vs H Q=>∃ z y,x = .str z/\vs=[.str y]/\z.length<=sizeLine/\Q (.str (Txt.stripChars z y)) H
theorem BH:MtR X "str.strip" Gv:=by
 intro pins s σ H x vs v us Q I rx rv h;obtain ⟨z,y,rfl,rfl,hz,q⟩:=h;obtain ⟨t,rfl⟩:=rx;obtain ⟨u,rfl,t',rfl⟩:=rv.one;exact SC.stripChars (λt' k=>⟨.str _,H,I.tok _,⟨_,rfl⟩,q⟩) hz
def Il:V->List V->Hp->VK->Prop:=λx vs H Q=>∃ z y,x = .str z/\vs=[.str y]/\z.length<=sizeLine/\Q (.str (Txt.removeprefix z y)) H
theorem Dz:MtR X "str.removeprefix" Il:=by
 intro pins s σ H x vs v us Q I rx rv h;obtain ⟨z,y,rfl,rfl,hz,q⟩:=h;obtain ⟨t,rfl⟩:=rx;obtain ⟨u,rfl,t',rfl⟩:=rv.one;exact SC.removeprefix (λt' k=>⟨.str _,H,I.tok _,⟨_,rfl⟩,q⟩) hz
theorem mE:∀ {bs:List Bool}{us:List Value},aY (bs.map V.bl) us->us=bs.map Value.bool
 | [],_,h=>by cases h;rfl
 | b::r,_,h=>by
  cases h with
  | cons h1 t=>
   obtain rfl:=h1;rw [mE t];rfl
theorem range_all (bs:List Bool):(List.range bs.length).all (λi=>bs.getD i true)=bs.all id:=by
 (rw [N7,Od,Od])
 constructor
 ·intro h x hx;obtain ⟨i,hi,rfl⟩:=Pn.mp hx
  (have:=h i (Oh.mpr hi))
  simpa [List.getD,NG hi] using this
 ·intro h i hi
  (have hi':=Oh.mp hi)
  have:=h bs[i] (Ov hi');simpa [List.getD,NG hi'] using this
theorem range_any (bs:List Bool):(List.range bs.length).any (λi=>bs.getD i true)=bs.any id:=by
 (rw [N7,OA,OA])
 constructor
 ·rintro ⟨i,hi,h⟩
  (have hi':=Oh.mp hi)
  refine ⟨bs[i],Ov hi',?_⟩;simpa [List.getD,NG hi'] using h
 ·rintro ⟨x,hx,h⟩;obtain ⟨i,hi,rfl⟩:=Pn.mp hx;exact ⟨i,Oh.mpr hi,by simpa [List.getD,NG hi] using h⟩
def EX (K:PySem.W.Frag):List V->Hp->VK->Prop:=λxs H Q=>∃ (p:Addr) (bs:List Bool),xs=[.ref p]/\SqL K H p (bs.map V.bl)/\Q (.bl (bs.all id)) H
def HU (K:PySem.W.Frag):List V->Hp->VK->Prop:=λxs H Q=>∃ (p:Addr) (bs:List Bool),xs=[.ref p]/\SqL K H p (bs.map V.bl)/\Q (.bl (bs.any id)) H
theorem pf {P:Program}{w:World}{A:Around} (bs:List Bool):TruthOf P w A (λi v=>(bs.map Value.bool).toArray[i]? = some v) (λi=>bs.getD i true):=by
 intro i v s Q E hv hq;have hv':(bs.map Value.bool)[i]? = some v:=by simpa using hv
 rw [NK] at hv';cases e:bs[i]? with
 | none=>rw [e] at hv';cases hv'
 | some b=>
  rw [e] at hv';cases hv';refine wpAny_truthy_bool ?_;have:bs.getD i true=b:=by simp [List.getD,e]
  have hq':Q (bs.getD i true) s:=hq
  rwa [this] at hq'
theorem p8 (hc:X.calm=true):fZ X (.builtin "all") (EX X.K):=by
 intro pins s σ H xs us Q I r h;obtain ⟨p,bs,rfl,hq,q⟩:=h;obtain ⟨u,rfl,rx⟩:=vals1 r;cases rx;obtain ⟨its,r',pl,hz⟩:=I.list hq;have e:=mE r';subst e;have hp:p≠s.heap.objs.size:=by obtain ⟨_,e,_⟩:=pl.isList;exact N3 (Heap.lt_size e)
 refine call_all_walk (wpAny_pyIter_list pl.isList ?_);refine ⟨s.heap.objs.size,_,_,_,_,_,_,rfl,Walks.list (A:=X.A.in1) (show X.A.in1.handled=none from I.ok.hd hc) s.heap.objs.size p hp (bs.map Value.bool).toArray,⟨⟨_,Heap.get?_push_size _ rfl,rfl,rfl⟩,pl.isList.push _⟩,pf bs,λh' tk hk=>?_⟩;have hs:(bs.map Value.bool).toArray.size=bs.length:=by simp
 rw [hs,range_all];refine ⟨.bl _,H,I.kept (t':=tk) λb o e=>hk b o (λhb=>?_) (Heap.get?_push_of_some _ e),rfl,q⟩;simp only [NQ] at hb;exact absurd (Heap.lt_size e) (by rw [hb];exact Oy _)
theorem wy (hc:X.calm=true):fZ X (.builtin "any") (HU X.K):=by
 intro pins s σ H xs us Q I r h;obtain ⟨p,bs,rfl,hq,q⟩:=h;obtain ⟨u,rfl,rx⟩:=vals1 r;cases rx;obtain ⟨its,r',pl,hz⟩:=I.list hq;have e:=mE r';subst e;have hp:p≠s.heap.objs.size:=by obtain ⟨_,e,_⟩:=pl.isList;exact N3 (Heap.lt_size e)
 refine call_any_walk (wpAny_pyIter_list pl.isList ?_);refine ⟨s.heap.objs.size,_,_,_,_,_,_,rfl,Walks.list (A:=X.A.in1) (show X.A.in1.handled=none from I.ok.hd hc) s.heap.objs.size p hp (bs.map Value.bool).toArray,⟨⟨_,Heap.get?_push_size _ rfl,rfl,rfl⟩,pl.isList.push _⟩,pf bs,λh' tk hk=>?_⟩;have hs:(bs.map Value.bool).toArray.size=bs.length:=by simp
 rw [hs,range_any];refine ⟨.bl _,H,I.kept (t':=tk) λb o e=>hk b o (λhb=>?_) (Heap.get?_push_of_some _ e),rfl,q⟩;simp only [NQ] at hb;exact absurd (Heap.lt_size e) (by rw [hb];exact Oy _)
theorem zi:bootBuiltins "all" = some (.builtin "all"):=by decide +kernel
theorem D8:bootBuiltins "any" = some (.builtin "any"):=by decide +kernel
end
end L2
namespace L2
open PySem PySem.Spec PyProof.Rows PySem.W
def uE (K:PySem.W.Frag) (sp:Sp) (l:Addr) (xs:List V):List V->V->V->Hp->VK->Prop
 | [],b,_,H,Q=>SqL K H l xs/\Q b H
 | x::r,b,kb,H,Q=>SqL K H l xs/\sp [x] H (λk H'=>∃ d e,Den K H' k d/\Den K H' kb e/\nC d e=true/\d.depth<=100/\if ltv d e=true then uE K sp l xs r x k H' Q else uE K sp l xs r b kb H' Q) E0
section
variable {X:Cx}{pins:List (Addr×Obj)}{σ:St}{H:Hp}{s:Shared}
theorem BJ (a v d:Value):argsOk "min" ⟨[a],[(Str.ofString "key",v),(Str.ofString "default",d)]⟩:=by unfold argsOk;kernel_rfl
def tI (X:Cx) (pins:List (Addr×Obj)) (σ:St) (f:Addr) (sp:Sp):Prop:=∀ (more:List (Addr×Obj)) (H:Hp) (s:Shared) (x:V) (u:Value) (Q:VK),Inv X (pins++more) σ H s->RelV x u->sp [x] H Q E0 ->
 codeAny (model X.prog X.w) X.A.in1 (.call (.ref f) ⟨[u],[]⟩) (CR CX0 X.stack X.prog X.w H s Q E0) s
theorem BM {k:Nat}{f:Addr}{fd:FuncData}{ps:List Str}{sp:Sp} (F:aA X.prog X.w X.K X.mg X.base CX0 k f fd ps sp) (hr:cn (k+1) X.A) (hb:Binds X.K fd ps []):tI X pins σ f sp:=λmore H s x u Q I rx h=>by
 have hlp:[u].length=ps.length:=F.len _ _ _ _ h;exact F.run X.A.in1 X.stack s H ⟨[u],[]⟩ [u] [x] _ E0 hr.in1 I.Fs.in1 (by have:=hb s [u] I.kIn (by simpa using hlp);simpa using this) (.cons rx .nil) h
theorem tH {f I S:Addr}{sp:Sp}{oI oS:Obj}{x:V}{u:Value}{Q:VK} (C:tI X pins σ f sp)
  (hI:∀ v,oI.data ≠ .cell v) (hS:∀ v,oS.data ≠ .cell v) (Iv:Inv X pins σ H s) (fI:bY X pins H I) (fS:bY X pins H S) (gI:s.heap.get? I=some oI) (gS:s.heap.get? S=some oS) (rx:RelV x u) (h:sp [x] H Q E0)
  {R:Value->Shared->Prop}{E:Value->Shared->Prop} (done:∀ v kv H1 s1,Inv X pins σ H1 s1->bY X pins H1 I->bY X pins H1 S->s1.heap.get? I=some oI->s1.heap.get? S=some oS->RelV v kv->Q v H1->R kv s1) :
  wpAny (model X.prog X.w) X.A.in1 (call (.ref f) [u]) R E s:=by
 have Ip:Inv X (pins++[(I,oI),(S,oS)]) σ H s:=Iv.nK λp hp=>by
  rcases Oa.mp hp with q | q
  ·exact Iv.pin p (Ob _ q)
  ·rcases NZ.mp q with q | q
   ·subst q;exact ⟨gI,fI.1,fI.2.1,fI.2.2.1,hI⟩
   ·have q':p=(S,oS):=by simpa using q
    subst q';exact ⟨gS,fS.1,fS.2.1,fS.2.2.1,hS⟩
 have run:=C [(I,oI),(S,oS)] H s x u _ Ip rx h;refine wpAny_call (codeAny_mono run λr s1 hq=>?_);cases r with
 | error er=>exact hq.elim
 | ok fl=>
  cases fl with
  | ret kv=>
   obtain ⟨v,H1,I1,r1,q1⟩:=Ip.after hq;have pI:=I1.pin (I,oI) (by simp);have pS:=I1.pin (S,oS) (by simp);exact done v kv H1 s1 I1.gO ⟨pI.2.1,fI.2⟩ ⟨pS.2.1,fS.2⟩ pI.1 pS.1 r1 q1
  | next=>exact False.elim hq
  | brk=>exact False.elim hq
  | cont=>exact False.elim hq
theorem Ax {k:Nat}{f I S l:Addr}{sp:Sp}{xs:List V}{kw:List (Str×Value)}{Q:VK}{R:Result->Shared->Prop} (C:tI X pins σ f sp) (hr:cn (k+1) X.A) (hc:X.calm=true)
  (hlI:l≠I) (hSI:S≠I) (hR:∀ v u H' s',Inv X pins σ H' s'->RelV v u->Q v H'->R (.ok (.ret u)) s') :
  ∀ (r:List V) (j:Nat) (b kb:V) (H:Hp) (s:Shared) (ub uk:Value) (c:Nat),r=xs.drop j->j<=xs.length->Inv X pins σ H s->bY X pins H I->bY X pins H S->s.heap.get? S=some (seqObj "list" #[ub,uk] c)->s.heap.IsListIter I l j->RelV b ub->RelV kb uk->uE X.K sp l xs r b kb H Q ->
   codeAny (model X.prog X.w) X.A (.builtin "min.loop" ⟨[.ref I,.ref f,.ref S],kw⟩) R s:=by
 (have eN:(toString "min" ++ toString ".loop" : String) = "min.loop" :=by decide)
 intro r
 induction r with
 | nil=>
  intro j b kb H s ub uk c hr' hj Iv fI fS gS hit rb rk h;obtain ⟨hq,q⟩:=h;obtain ⟨its,rv,pl,_⟩:=Iv.list hq;have hlen:=rv.length;have hjl:xs.length<=j:=Pb.mp hr'.symm;have W:=Walks.list (prog:=X.prog) (w:=X.w) (A:=X.A.in1) (show X.A.in1.handled=none from Iv.ok.hd hc) I l hlI its.toArray
  (refine codeAny_builtin PySem.F.entry_min_loop ?_)
  (rw [Around.under_plainId PySem.F.plain_min_loop _])
  show wpAny _ X.A.in1 (seqItems? (.ref S) >>= _) _ _ _
  (refine wpAny_bind (wpAny_seqItems gS rfl ?_))
  show wpAny _ X.A.in1 (tryCatch (pyNext (.ref I)) _ >>= _) _ _ _;refine wpAny_bind (wpAny_tryCatch (W.done _ _ _ ⟨by rw [NO,show its.length=j by lia];exact hit,pl.isList⟩ λh' tk' hk'=>?_));have gS':=hk' S _ (by simpa using hSI) gS;have sb:=Heap.SameBut.update h' S (Obj.mapSeq λ_=>(#[]:Array Value));show wpAny _ X.A.in1 (updateSeq S (λ_=>#[]) >>= _) _ _ _;refine wpAny_bind ?_;refine wpAny_updateSeq gS' rfl (wpAny_bind (wpAny_letGo (wpAny_pure ?_)));have I1:Inv X pins σ H { s with heap:=h',toks:=tk' }:=Iv.bz (wr:=[I]) (λc hc=>by rw [show c=I by simpa using hc];exact fI) λc o hc e=>hk' c o hc e;exact hR b ub H _ (I1.bz (t':=tk') (wr:=[S]) (λc hc=>by rw [show c=S by simpa using hc];exact fS) λc o hc e=>(sb.2 c (by simpa using hc)).trans e) rb q
 | cons x r ih=>
  intro j b kb H s ub uk c hr' hj Iv fI fS gS hit rb rk h;obtain ⟨hq,q⟩:=h;obtain ⟨its,rv,pl,_⟩:=Iv.list hq;have hlen:=rv.length;have hjl:j<xs.length:=by
   rcases Oi j xs.length with z | z
   ·exact z
   ·rw [Ox z] at hr';cases hr'
  have hxj:xs[j]? = some x:=by
   rw [Of hjl] at hr';injection hr' with e1 e2;rw [NG hjl,<-e1]
  have hrj:r=xs.drop (j+1):=by
   rw [Of hjl] at hr';injection hr' with e1 e2
  have W:=Walks.list (prog:=X.prog) (w:=X.w) (A:=X.A.in1) (show X.A.in1.handled=none from Iv.ok.hd hc) I l hlI its.toArray
  (refine codeAny_builtin PySem.F.entry_min_loop ?_)
  (rw [Around.under_plainId PySem.F.plain_min_loop _])
  show wpAny _ X.A.in1 (seqItems? (.ref S) >>= _) _ _ _
  (refine wpAny_bind (wpAny_seqItems gS rfl ?_))
  show wpAny _ X.A.in1 (tryCatch (pyNext (.ref I)) _ >>= _) _ _ _;refine wpAny_bind (wpAny_tryCatch (W.item j _ _ _ (by rw [NO];lia) ⟨hit,pl.isList⟩ λv h' tk' hP mG hk'=>?_));obtain ⟨u,hu,ru⟩:=rv.get hxj;have hv:v=u:=by
   have:its[j]? = some v:=by simpa using hP
   rw [hu] at this;cases this;rfl
  subst hv;have gS':=hk' S _ (by simpa using hSI) gS;have I1:Inv X pins σ H { s with heap:=h',toks:=tk' }:=Iv.bz (wr:=[I]) (λc hc=>by rw [show c=I by simpa using hc];exact fI) λc o hc e=>hk' c o hc e;obtain ⟨oI,eI,cI,dI⟩:=mG.1;show wpAny _ X.A.in1 (tryCatch (holding [v] (call (.ref f) [v])) _ >>= _) _ _ _;refine wpAny_bind (wpAny_tryCatch (wpAny_holding (tH C (oI:=oI) (oS:=seqObj "list" #[ub,uk] c) (λz q=>by rw [dI] at q;cases q) (λz q=>by cases q) I1 fI fS eI gS' ru q λkv uv H2 s2 I2 fI2 fS2 gI2 gS2 rkv q2=>?_)));obtain ⟨d,e,dk,de,b9,qe,q3⟩:=q2;obtain ⟨as1,rd1⟩:=I2.reads dk rkv;obtain ⟨as2,rd2⟩:=I2.reads de rk;have Fd:s2.heap.IsListIter I l (j+1):=⟨oI,gI2,cI,dI⟩;have hu2:X.A.in1.units+d.depth<cLine:=by show X.A.units+1+d.depth<cLine;have:=hr.un;lia
  show wpAny _ X.A.in1 (tryCatch (holding [v,uv] (richCompare .Lt uv uk >>= _)) _ >>= _) _ _ _;refine wpAny_bind (wpAny_tryCatch (wpAny_holding (wpAny_bind (ji 100 d e qe b9 X.A.in1 s2 uv uk as1 as2 rd1 rd2 dk.lay de.lay hu2 _ _ _ _ ?_))))
  (refine wpAny_bind (wpAny_holding (wpAny_truthy_bool ?_)))
  (refine wpAny_bind (wpAny_letGo (wpAny_pure ?_)))
  cases hb':ltv d e with
  | true=>
   rw [hb',if_pos rfl] at q3;have sb:=Heap.SameBut.update s2.heap S (Obj.mapSeq λ_=>#[v,uv]);obtain ⟨c2,hc2⟩:∃ c2,(s2.heap.update S (Obj.mapSeq λ_=>#[v,uv])).get? S=some (seqObj "list" #[v,uv] c2):=⟨_,get?_update_seq gS2 λ_=>#[v,uv]⟩;simp only [if_true];refine wpAny_bind ?_;refine wpAny_updateSeq gS2 rfl (wpAny_bind (wpAny_letGo ?_));rw [eN];have I3:Inv X pins σ H2 { s2 with heap:=s2.heap.update S (Obj.mapSeq λ_=>#[v,uv]) }:=I2.bz (t':=s2.toks) (wr:=[S]) (λc hc=>by rw [show c=S by simpa using hc];exact fS2) λc o hc e=>(sb.2 c (by simpa using hc)).trans e;exact wpAny_pure ⟨plainId_quiet PySem.F.plain_min_loop _,ih (j+1) x kv H2 _ v uv c2 hrj hjl I3 fI2 fS2 hc2 ⟨oI,(sb.2 I hSI.symm).trans gI2,cI,dI⟩ ru rkv q3⟩
  | false=>
   rw [hb',if_neg (by decide)] at q3
   (simp only [Oo,if_false])
   refine wpAny_bind (wpAny_letGo ?_);rw [eN];exact wpAny_pure ⟨plainId_quiet PySem.F.plain_min_loop _,ih (j+1) b kb H2 _ ub uk c hrj hjl I2 fI2 fS2 gS2 Fd rb rk q3⟩
def tq (K:PySem.W.Frag) (sp:Sp):V->Hp->VK->Prop:=λx H Q=>∃ l xs,x = .ref l/\SqL K H l xs/\match xs with
 | []=>Q .non H
 | y::r=>sp [y] H (λk H'=>uE K sp l xs r y k H' Q) E0
theorem A4 {k:Nat}{f Ia Sa l:Addr}{sp:Sp}{y:V}{r:List V}{kw:List (Str×Value)}{Q:VK}{R:Result->Shared->Prop} (C:tI X pins σ f sp) (hr:cn (k+1) X.A) (hc:X.calm=true)
  (hlI:l≠Ia) (hSI:Sa≠Ia) (hR:∀ v u H' s',Inv X pins σ H' s'->RelV v u->Q v H'->R (.ok (.ret u)) s') (I0:Inv X pins σ H s) (fI:bY X pins H Ia) (fS:bY X pins H Sa) (gS:s.heap.get? Sa=some (seqObj "list" #[] 0)) (gI:s.heap.IsListIter Ia l 0) (hq:SqL X.K H l (y::r)) (q:sp [y] H (λk H'=>uE X.K sp l (y::r) r y k H' Q) E0) :
  codeAny (model X.prog X.w) X.A (.builtin "min.loop" ⟨[.ref Ia,.ref f,.ref Sa],kw⟩) R s:=by
 (have eN:(toString "min" ++ toString ".loop" : String) = "min.loop" :=by decide)
 obtain ⟨its,rv,pl,_⟩:=I0.list hq;have hlen:=rv.length;have W:=Walks.list (prog:=X.prog) (w:=X.w) (A:=X.A.in1) (show X.A.in1.handled=none from I0.ok.hd hc) Ia l hlI its.toArray
 (refine codeAny_builtin PySem.F.entry_min_loop ?_)
 (rw [Around.under_plainId PySem.F.plain_min_loop _])
 show wpAny _ X.A.in1 (seqItems? (.ref Sa) >>= _) _ _ _
 (refine wpAny_bind (wpAny_seqItems gS rfl ?_))
 show wpAny _ X.A.in1 (tryCatch (pyNext (.ref Ia)) _ >>= _) _ _ _;refine wpAny_bind (wpAny_tryCatch (W.item 0 _ _ _ (by rw [NO,<-hlen];exact Nat.succ_pos _) ⟨gI,pl.isList⟩ λv h' tk' hP mG hk'=>?_));obtain ⟨u,hu,ru⟩:=rv.get (i:=0) rfl;have hv:v=u:=by
  have:its[0]? = some v:=by simpa using hP
  rw [hu] at this;cases this;rfl
 subst hv;have gS':=hk' Sa _ (by simpa using hSI) gS;have I1:Inv X pins σ H { s with heap:=h',toks:=tk' }:=I0.bz (wr:=[Ia]) (λc hc=>by rw [show c=Ia by simpa using hc];exact fI) λc o hc e=>hk' c o hc e;obtain ⟨oI,eI,cI,dI⟩:=mG.1;show wpAny _ X.A.in1 (tryCatch (holding [v] (call (.ref f) [v])) _ >>= _) _ _ _;refine wpAny_bind (wpAny_tryCatch (wpAny_holding (tH C (oI:=oI) (oS:=seqObj "list" #[] 0) (λz q=>by rw [dI] at q;cases q) (λz q=>by cases q) I1 fI fS eI gS' ru q λkv uv H2 s2 I2 fI2 fS2 gI2 gS2 rkv q2=>?_)));have sb:=Heap.SameBut.update s2.heap Sa (Obj.mapSeq λ_=>#[v,uv]);obtain ⟨c2,hc2⟩:∃ c2,(s2.heap.update Sa (Obj.mapSeq λ_=>#[v,uv])).get? Sa=some (seqObj "list" #[v,uv] c2):=⟨_,get?_update_seq gS2 λ_=>#[v,uv]⟩;show wpAny _ X.A.in1 (updateSeq Sa (λ_=>#[v,uv]) >>= _) _ _ _;refine wpAny_bind ?_;refine wpAny_updateSeq gS2 rfl ?_;rw [eN];have I3:Inv X pins σ H2 { s2 with heap:=s2.heap.update Sa (Obj.mapSeq λ_=>#[v,uv]) }:=I2.bz (t':=s2.toks) (wr:=[Sa]) (λc hc=>by rw [show c=Sa by simpa using hc];exact fS2) λc o hc e=>(sb.2 c (by simpa using hc)).trans e;exact wpAny_pure ⟨plainId_quiet PySem.F.plain_min_loop _,Ax (Q:=Q) C hr hc hlI hSI hR r 1 y kv H2 _ v uv c2 rfl (by simp) I3 fI2 fS2 hc2 ⟨oI,(sb.2 Ia hSI.symm).trans gI2,cI,dI⟩ ru rkv q2⟩
structure FI (X:Cx) (pins:List (Addr×Obj)) (σ:St) (H:Hp) (s:Shared) (l:Addr) (h0:Heap) (Ia Sa:Addr):Prop where
 gI:h0.get? Ia=some { cls:=.type "list_iterator",data:=.fields #[.ref l,.int 0 0] }
 gS:h0.get? Sa=some (seqObj "list" #[] 0)
 keep:∀ b o,s.heap.get? b=some o->h0.get? b=some o
 inv:Inv X pins σ H { s with heap:=h0 }
 fI:bY X pins H Ia
 fS:bY X pins H Sa
 ne:l≠Ia
 two:Sa≠Ia
theorem xq {l:Addr} (I:Inv X pins σ H s) (hl:l<s.heap.objs.size) :
  FI X pins σ H s l ((s.heap.push { cls:=.type "list_iterator",data:=.fields #[.ref l,.int 0 0] }).push (seqObj "list" #[] 0)) s.heap.objs.size (s.heap.push { cls:=.type "list_iterator",data:=.fields #[.ref l,.int 0 0] }).objs.size:=by
 have tL:=λ(o:Obj) (b:Addr) (ob:Obj) (e:s.heap.get? b=some ob)=>Heap.get?_push_of_some o e;have first:=Heap.get?_push_size s.heap (o:={ cls:=.type "list_iterator",data:=.fields #[.ref l,.int 0 0] }) rfl
 have size:=size_push' s.heap { cls:=.type "list_iterator",data:=.fields #[.ref l,.int 0 0] };replace tL:=tL { cls:=.type "list_iterator",data:=.fields #[.ref l,.int 0 0] };generalize s.heap.push { cls:=.type "list_iterator",data:=.fields #[.ref l,.int 0 0] }=h1 at tL first size
 have up:s.heap.objs.size<=h1.objs.size:=by rw [size];exact OS _
 have kp:∀ b o,s.heap.get? b=some o->(h1.push (seqObj "list" #[] 0)).get? b=some o:=λb o e=>Heap.get?_push_of_some _ (tL b o e);exact { gI:=Heap.get?_push_of_some _ first,gS:=Heap.get?_push_size _ rfl,keep:=kp,inv:=I.kept (t':=s.toks) kp,fI:=I.mR (NH _) (I.hok.fresh (NH _)),fS:=I.mR up (I.hok.fresh up),ne:=N3 hl,two:=by rw [size];exact Nat.succ_ne_self _ }
theorem qd {k:Nat}{f:Addr}{sp:Sp}{x:V}{u:Value}{Q:VK} (C:tI X pins σ f sp) (hr:cn (k+1) X.A) (hc:X.calm=true) (Iv:Inv X pins σ H s) (rx:RelV x u) (h:tq X.K sp x H Q) :
  wpAny (model X.prog X.w) X.A (call (.builtin "min") [u] [(Str.ofString "key",.ref f),(Str.ofString "default",.none)]) (EP X pins σ Q) X.xe s:=by
 (have eN:(toString "min" ++ toString ".loop" : String) = "min.loop" :=by decide)
 obtain ⟨l,xs,rfl,hq,q⟩:=h;cases rx;obtain ⟨its,rv,pl,_⟩:=Iv.list hq;have hlen:=rv.length;have hll:l<s.heap.objs.size:=by obtain ⟨_,e,_⟩:=pl.isList;exact Heap.lt_size e
 refine kmk_tree PySem.F.kind_min PySem.F.plain_min PySem.F.entry_min (BJ _ _ _) ?_;show wpAny _ X.A.in1 (Builtin.Builtins.bindParams "min" ["key","default"] 0 ⟨[],[(Str.ofString "key",.ref f),(Str.ofString "default",.none)]⟩ >>= _) _ _ s;refine wpAny_bind (wpAny_of_eq (show Builtin.Builtins.bindParams "min" ["key","default"] 0 ⟨[],[(Str.ofString "key",.ref f),(Str.ofString "default",.none)]⟩=pure [some (.ref f),some .none] from rfl) ?_);refine wpAny_bind (wpAny_pure ?_);refine wpAny_bind (wpAny_pyIter_list pl.isList ?_);refine wpAny_bind (wpAny_newList ?_ (NW _):wpAny _ _ _ _ _ _);rw [eN];have two:=xq (X:=X) (l:=l) Iv hll;generalize (s.heap.push { cls:=.type "list_iterator",data:=.fields #[.ref l,.int 0 0] }).push (seqObj "list" #[] 0)=h0 at two ⊢;generalize (s.heap.push { cls:=.type "list_iterator",data:=.fields #[.ref l,.int 0 0] }).objs.size=Sa at two ⊢;generalize s.heap.objs.size=Ia at two ⊢;obtain ⟨gI,gS,hkp,I0,fI,fS,hlI,hSI⟩:=two;have pl0:h0.IsList l its.toArray:=pl.isList.at λo e=>hkp l o e
 (refine wpAny_pure ⟨plainId_quiet PySem.F.plain_min_loop _,?_⟩)
 cases xs with
 | nil=>
  have W:=Walks.list (prog:=X.prog) (w:=X.w) (A:=X.A.in1) (show X.A.in1.handled=none from Iv.ok.hd hc) Ia l hlI its.toArray
  (refine codeAny_builtin PySem.F.entry_min_loop ?_)
  (rw [Around.under_plainId PySem.F.plain_min_loop _])
  show wpAny _ X.A.in1 (seqItems? (.ref Sa) >>= _) _ _ _
  (refine wpAny_bind (wpAny_seqItems gS rfl ?_))
  show wpAny _ X.A.in1 (tryCatch (pyNext (.ref Ia)) _ >>= _) _ _ _;refine wpAny_bind (wpAny_tryCatch (W.done _ _ _ ⟨⟨_,(by rw [gI]),rfl,by rw [NO,<-hlen];rfl⟩,pl0⟩ λh' tk' hk'=>?_));have I1:Inv X pins σ H { s with heap:=h',toks:=tk' }:=Inv.bz (s:={ s with heap:=h0 }) (t':=tk') (wr:=[Ia]) I0 (λc hc=>by rw [show c=Ia by simpa using hc];exact fI) λc o hc e=>hk' c o hc e
  (refine wpAny_bind (wpAny_rule (wpAny_pure ?_)))
  exact ⟨.non,H,I1,rfl,q⟩
 | cons y r=>
  exact A4 (Q:=Q) C hr hc hlI hSI (λw' u' H' s' I' r' q'=>⟨w',H',I',r',q'⟩) I0 fI fS gS ⟨_,gI,rfl,rfl⟩ (hq) q
theorem A2 {k:Nat}{f:Addr}{fd:FuncData}{ps:List Str}{sp:Sp}{x:V}{u:Value}{Q:VK} (F:aA X.prog X.w X.K X.mg X.base CX0 k f fd ps sp) (hr:cn (k+1) X.A) (hb:Binds X.K fd ps []) (hc:X.calm=true) (Iv:Inv X pins σ H s) (rx:RelV x u) (h:tq X.K sp x H Q) :
  wpAny (model X.prog X.w) X.A (call (.builtin "min") [u] [(Str.ofString "key",.ref f),(Str.ofString "default",.none)]) (EP X pins σ Q) X.xe s:=qd (BM F hr hb) hr hc Iv rx h
def JX (K:PySem.W.Frag) (sp:Sp) (ta:TA):TE:=λσ H Q=>ta σ H λvs H1=>∃ x,vs=[x]/\tq K sp x H1 Q
end
theorem rh:bootBuiltins "min" = some (.builtin "min"):=by decide +kernel
section
variable {X:Cx}
theorem Fg {k:Nat}{f:Addr}{fd:FuncData}{ps:List Str}{sp:Sp}{e:Expr}{ta:TA}{y:Str}{kn:Nat}{p py pos kp pd kp2:Pos} (F:aA X.prog X.w X.K X.mg X.base CX0 k f fd ps sp) (hr:cn (k+1) X.A) (hb:Binds X.K fd ps []) (hc:X.calm=true)
  (hg:Gl X "min") (hm:X.mg "min" = none) (hgf:Gl X y) (hmf:X.mg y=some (.ref f)) (ha:PA X [e] ta) (hdb:(y == ("__debug__" : Str))=false:=by decide)
  (he:backTo pos (starEach [e] X.env)=(false,eval e X.env)::backTo pos (starEach [] X.env):=by rfl) (jG:(backTo pos (starEach [e] X.env)).any (·.1)=false:=by rfl)
  (fU:(backToKw pos (keywordEach [⟨some "key",.Name y py,kp⟩,⟨some "default",.Constant .none kn pd,kp2⟩] X.env)).all (·.1.isSome)=true:=by rfl) (hkw:(backToKw pos (keywordEach [⟨some "key",.Name y py,kp⟩,⟨some "default",.Constant .none kn pd,kp2⟩] X.env)).any (·.1.isNone)=false:=by rfl) :
  PE X (.Call (.Name "min" p) [e] [⟨some "key",.Name y py,kp⟩,⟨some "default",.Constant .none kn pd,kp2⟩] pos) (JX X.K sp ta):=by
 intro pins s σ H Q I h;refine wpAny_Call_Name_kw (eR I hg hm rh ?_);refine callWith_kw (thn (ha pos pins s σ H _ I h) λus s1 ⟨vs,H1,I1,r1,q1⟩=>?_) he jG fU hkw;obtain ⟨x,rfl,q⟩:=q1;obtain ⟨u,rfl,ru⟩:=r1.one;refine kws_cons (p5 I1 hgf hmf (kws_cons (Constant_none (kws_nil ?_))) hdb);exact A2 F hr hb hc I1 ru q
end
def cK:PyData->Nat->Nat->List PyData->Nat
 | _,i,_,[]=>i
 | db,i,j,d::r=>if ltv d db=true then cK d j (j+1) r else cK db i (j+1) r
def bb:List PyData->Nat
 | []=>0
 | d::r=>cK d 0 1 r
theorem mw {S:PyData->Prop} (o:mI S):∀ (r:List PyData) (all:List PyData) (db:PyData) (i j:Nat),(∀ d∈all,S d)->all.drop j=r->i<j->all[i]? = some db->(∀ (m:Nat) (d:PyData),m<j->all[m]? = some d->ltv d db=false)->(∀ (m:Nat) (d:PyData),m<i->all[m]? = some d->ltv db d=true) ->
  ∃ d,all[cK db i j r]? = some d/\(∀ (m:Nat) (e:PyData),all[m]? = some e->ltv e d=false)/\∀ (m:Nat) (e:PyData),m<cK db i j r->all[m]? = some e->ltv d e=true
 | [],all,db,i,j,hS,hd,hij,hi,h1,h2=>by
  have hj:all.length<=j:=Pb.mp hd;exact ⟨db,hi,λm e he=>h1 m e (N9 (aG he) hj) he,h2⟩
 | d::r,all,db,i,j,hS,hd,hij,hi,h1,h2=>by
  have hjl:j<all.length:=by
   rcases Oi j all.length with z | z
   ·exact z
   ·rw [Ox z] at hd;cases hd
  have hc:=Of hjl;rw [hd] at hc;injection hc with e1 e2;have hdj:all[j]? = some d:=by rw [NG hjl,e1]
  have sd:S d:=hS d (NF hdj);have sb:S db:=hS db (NF hi);unfold cK;by_cases hlt:ltv d db=true
  ·rw [if_pos hlt];have fU:∀ m e,m<j->all[m]? = some e->ltv d e=true:=λm e hm he=>by
    have se:S e:=hS e (NF he);rcases o.neg sd se sb hlt with z | z
    ·exact z
    ·rw [h1 m e hm he] at z;cases z
   refine mw o r all d j (j+1) hS e2.symm (O1 _) hdj (λm e hm he=>?_) fU;rcases Oi m j with z | z
   ·exact o.asymm sd (hS e (NF he)) (fU m e z he)
   ·have:m=j:=by lia
    subst this;rw [hdj] at he;cases he;exact o.irr d sd
  ·rw [if_neg hlt];refine mw o r all db i (j+1) hS e2.symm (O8 hij) hi (λm e hm he=>?_) h2;rcases Oi m j with z | z
   ·exact h1 m e z he
   ·have:m=j:=by lia
    subst this;rw [hdj] at he;cases he;exact N5.mpr hlt
theorem jv {S:PyData->Prop} (o:mI S) {all:List PyData} (hS:∀ d∈all,S d) (hne:all≠[]) :
  ∃ d,all[bb all]? = some d/\(∀ (m:Nat) (e:PyData),all[m]? = some e->ltv e d=false)/\∀ (m:Nat) (e:PyData),m<bb all->all[m]? = some e->ltv d e=true:=by
 cases all with
 | nil=>exact (hne rfl).elim
 | cons d r=>
  refine mw o r (d::r) d 0 1 hS rfl Nat.zero_lt_one rfl (λm e hm he=>?_) (λm e hm he=>absurd hm (Nat.not_lt_zero _));have:m=0:=by lia
  subst this;cases he;exact o.irr d (hS d (NT ..))
theorem DO {K:PySem.W.Frag}{sp:Sp}{Q:VK}{H0:Hp}{l:Addr}{xs:List V}{S:PyData->Prop} (o:mI S) (hq:SqL K H0 l xs):∀ (r:List V) (kr:List PyData) (i j:Nat) (b kb:V) (db:PyData) (H:Hp),r.length=kr.length->ae H0 H->Den K H kb db->S db->(∀ d∈kr,S d/\d.depth<=100)->xs.drop j=r->xs[i]? = some b ->
  (∀ (m:Nat) (x:V) (d:PyData) (H:Hp) (Q:VK),r[m]? = some x->kr[m]? = some d->ae H0 H->(∀ k H',ae H H'->Den K H' k d->Q k H')->sp [x] H Q E0)->(∀ H',ae H0 H'->Q (xs.getD (cK db i j kr) .non) H')->uE K sp l xs r b kb H Q:=by
 intro r
 induction r with
 | nil=>
  intro kr i j b kb db H hl s dk sb hS hdr hi hsp hQ;cases kr with
  | nil=>exact ⟨s.seq hq,by have:=hQ H s;simpa [cK,List.getD,hi] using this⟩
  | cons d kr=>cases hl
 | cons x r ih=>
  intro kr i j b kb db H hl s dk sb hS hdr hi hsp hQ;cases kr with
  | nil=>cases hl
  | cons d kr=>
   have hjl:j<xs.length:=by
    rcases Oi j xs.length with z | z
    ·exact z
    ·rw [Ox z] at hdr;cases hdr
   have hc:=Of hjl;rw [hdr] at hc;injection hc with e1 e2;have hxj:xs[j]? = some x:=by rw [NG hjl,e1]
   have sd:=hS d (NT ..);refine ⟨s.seq hq,hsp 0 x d H _ rfl rfl s λk H' s' dk'=>⟨d,db,dk',dk.same s',o.cmp d db sd.1 sb,sd.2,?_⟩⟩;have hS':∀ e∈kr,S e/\e.depth<=100:=λe he=>hS e (NN _ he);by_cases hlt:ltv d db=true
   ·rw [if_pos hlt];refine ih kr j (j+1) x k d H' (by simpa using hl) (s.trans s') dk' sd.1 hS' e2.symm hxj (λm y e H2 Q2 h1 h2=>hsp (m+1) y e H2 Q2 (by simpa using h1) (by simpa using h2)) λH2 h2=>?_;have:=hQ H2 h2;unfold cK at this
    rwa [if_pos hlt] at this
   ·rw [if_neg hlt];refine ih kr i (j+1) b kb db H' (by simpa using hl) (s.trans s') (dk.same s') sb hS' e2.symm hi (λm y e H2 Q2 h1 h2=>hsp (m+1) y e H2 Q2 (by simpa using h1) (by simpa using h2)) λH2 h2=>?_;have:=hQ H2 h2;unfold cK at this
    rwa [if_neg hlt] at this
theorem tX {K:PySem.W.Frag}{sp:Sp}{Q:VK}{H:Hp}{l:Addr}{xs:List V}{kds:List PyData}{S:PyData->Prop} (o:mI S) (hq:SqL K H l xs) (hl:xs.length=kds.length) (hS:∀ d∈kds,S d/\d.depth<=100)
  (hsp:∀ (m:Nat) (x:V) (d:PyData) (H2:Hp) (Q:VK),xs[m]? = some x->kds[m]? = some d->ae H H2->(∀ k H',ae H2 H'->Den K H' k d->Q k H')->sp [x] H2 Q E0) (h0:xs=[]->Q .non H) (hQ:xs≠[]->∀ H',ae H H'->Q (xs.getD (bb kds) .non) H'):tq K sp (.ref l) H Q:=by
 refine ⟨l,xs,rfl,hq,?_⟩;cases xs with
 | nil=>exact h0 rfl
 | cons x r=>
  cases kds with
  | nil=>cases hl
  | cons d kr=>
   refine hsp 0 x d H _ rfl rfl (ae.refl _) λk H' s' dk=>?_;refine DO o hq r kr 0 1 x k d H' (by simpa using hl) s' dk (hS d (NT ..)).1 (λe he=>hS e (NN _ he)) rfl rfl (λm y e H2 Q2 h1 h2=>hsp (m+1) y e H2 Q2 (by simpa using h1) (by simpa using h2)) λH2 h2=>?_;exact hQ (by intro z;cases z) H2 h2
end L2
namespace LG
open PySem L2 PySem.Builtin PySem.Builtin.Str
def sgn (c:Nat):Bool:=decide (33<=c) && decide (c<=126) && decide (c≠37)
def dig (c:Nat):Bool:=decide (48<=c) && decide (c<=57)
def low (c:Nat):Bool:=decide (97<=c) && decide (c<=122)
def cB (p:Nat->Bool) (l:List Nat):Bool:=!l.isEmpty && l.all p
def bB:List Nat->List Nat
 | 45::r=>r
 | l=>l
def wI (l:List Nat):Nat:=if cB dig (bB l)=true then 0 else if cB low l=true then 1 else 2
def d5 (z:Str):Bool:=cB sgn z.cps.toList
def bD (z:Str):Nat:=wI z.cps.toList
def eJ:Nat->Str
 | 0=> "number"
 | 1=> "name"
 | _=> "other"
def bq:Nat->Str
 | 0=> "number"
 | 1=> "name"
 | _=> "any"
theorem mY {x y:Str} (h:x.cps.toList=y.cps.toList):x=y:=by
 cases x;cases y;simp only [Str.mk.injEq];exact Ph.mp h
theorem takeWhile_all {α:Type}{p:α->Bool}:∀ {l:List α},(l.takeWhile p).length=l.length↔l.all p=true
 | []=>by simp
 | a::r=>by
  rw [List.takeWhile_cons,Py];by_cases h:p a=true
  ·rw [if_pos h,h,Pd];simp only [N4,Nat.add_right_cancel_iff];exact takeWhile_all
  ·rw [if_neg h];simp [h]
theorem strip_nil (z y:Str):decide (V.str (Txt.stripChars z y)=V.str "")=z.cps.toList.all (λc=>y.cps.contains c):=by
 have e:Txt.stripChars z y=strSub z (stripLo (λc=>y.cps.contains c) true z) (stripHi (λc=>y.cps.contains c) true z (stripLo (λc=>y.cps.contains c) true z)):=PyProof.Rows.stripBy_eq _ true true z;have h1:=PyProof.Rows.lo_facts (λc=>y.cps.contains c) z;have h2:=PyProof.Rows.hi_facts (λc=>y.cps.contains c) z (stripLo (λc=>y.cps.contains c) true z) h1.1;have hlo:stripLo (λc=>y.cps.contains c) true z=(z.cps.toList.takeWhile λc=>y.cps.contains c).length:=by simp [stripLo]
 have hz:z.length=z.cps.toList.length:=by simp [Str.length]
 (rw [N7,decide_eq_true_eq])
 constructor
 ·intro h;have h0:(Txt.stripChars z y).cps.size=0:=by
   have:Txt.stripChars z y = "" :=by injection h
   rw [this];rfl
  rw [e] at h0;have h3:stripHi (λc=>y.cps.contains c) true z (stripLo (λc=>y.cps.contains c) true z)<=stripLo (λc=>y.cps.contains c) true z:=by
   have h4:(Array.extract z.cps (stripLo (λc=>y.cps.contains c) true z) (stripHi (λc=>y.cps.contains c) true z (stripLo (λc=>y.cps.contains c) true z))).size=0:=h0;rw [Array.size_extract] at h4;have h5:=h2.2.1;have h6:z.length=z.cps.size:=rfl;lia
  rcases Oi (stripLo (λc=>y.cps.contains c) true z) z.length with hl | hl
  ·rcases h1.2.2 with q | q
   ·lia
   ·have:=h2.2.2.1 (stripLo (λc=>y.cps.contains c) true z) h3 hl;rw [q] at this;cases this
  ·have q:stripLo (λc=>y.cps.contains c) true z=z.length:=Nat.le_antisymm h1.1 hl;rw [hlo,hz] at q;exact takeWhile_all.mp q
 ·intro h;have h3:=takeWhile_all.mpr h;rw [<-hlo,<-hz] at h3;have:Txt.stripChars z y = "" :=by
   rw [e,h3];refine mY ?_;have h4:=h2.2.1;refine OC ?_;show (Array.extract z.cps z.length _).toList.length=0;rw [N2,Array.size_extract];have h6:z.length=z.cps.size:=rfl;lia
  rw [this]
theorem wc (z:Str):(Txt.removeprefix z "-").cps.toList=bB z.cps.toList:=by
 rw [StrLaws.removeprefix_eq];have h1:(("-" : Str)).length=1:=rfl;have h2:(("-" : Str)).cps = #[45]:=by decide +kernel
 rw [h1];have hz:z.length=z.cps.toList.length:=by simp [Str.length]
 have hs:subAt z "-" 0=(z.cps.extract 0 (0+1) == #[45]):=by
  unfold subAt;rw [h1,h2]
 rw [hs];cases e:z.cps.toList with
 | nil=>
  have h3:z.length=0:=by rw [hz,e];rfl
  rw [h3];simp [bB,e]
 | cons a r=>
  have h3:z.length=r.length+1:=by rw [hz,e];rfl
  have h4:z.cps.extract 0 (0+1) = #[a]:=by
   apply Ph.mp;rw [Array.toList_extract,e];simp
  rw [h4,h3];by_cases ha:a=45
  ·subst ha;simp [bB]
  ·have h5:(#[a] == #[45])=false:=by
    rw [beq_eq_false_iff_ne];intro h;apply ha;simpa using h
   rw [h5];simp only [Bool.and_false,Oo,if_false];rw [e];unfold bB
   split
   ·rename_i q;cases q;exact (ha rfl).elim
   ·rfl
end LG
namespace LG
open PySem L2 PySem.Builtin PySem.Builtin.Str PySem.StrLaws
def isB (l:List Nat) (i:Nat):Bool:=decide (l[i]? = some 32)
theorem xV:∀ l:List Nat,(List.range l.length).countP (isB l)=l.count 32
 | []=>rfl
 | a::r=>by
  rw [N4,List.range_succ_eq_map,Pf,List.countP_map,List.count_cons];have e:(isB (a::r) ∘ Nat.succ)=isB r:=by funext i;simp [isB]
  rw [e,xV r];have e2:isB (a::r) 0=(a == 32):=by rw [N7];simp [isB]
  rw [e2]
theorem tQ (z:Str) (i:Nat):subAt z " " i=isB z.cps.toList i:=by
 have h2:((" " : Str)).cps.toList=[32]:=by decide +kernel
 have h1:((" " : Str)).length=1:=rfl;rw [subAt_eq,h1,h2];unfold isB;cases e:z.cps.toList[i]? with
 | none=>
  rw [Ox (Pq.mp e)];decide
 | some c=>
  have hi:=aG e;rw [Of hi];rw [NG hi] at e;cases e;rw [N7];simp
theorem p7 (z:Str) (zU:Nat) (hl:z.length<zU):∀ (m k:Nat) (st:Array Nat×Nat),k+m<=z.length+1->st.1.size<=k->st.2<=k ->
  st.1.size+(List.range' k m).countP (isB z.cps.toList)<=(forIn (List.range' k m) st (occBody z " " z.length zU)).run.1.size
 | 0,k,st,_,_,_=>by
  simp only [List.range'_zero,List.countP_nil,Nat.add_zero,List.forIn_nil];exact NH _
 | m+1,k,st,hk,hs,hf=>by
  have h1:((" " : Str)).length=1:=rfl;rw [List.range'_succ,List.forIn_cons,Pf];unfold occBody;by_cases hb:isB z.cps.toList k=true
  ·have hkl:k<z.length:=by
    have:z.cps.toList[k]? = some 32:=by simpa [isB] using hb
    have:=aG this;simpa [Str.length] using this
   rw [if_pos hb,if_pos ⟨⟨⟨by lia,hf⟩,by rw [h1];lia⟩,by rw [tQ];exact hb⟩];have ih:=p7 z zU hl m (k+1) (st.1.push k,k+((" " : Str)).length) (by lia) (by show (st.1.push k).size<=k+1;rw [Array.size_push];lia) (by show k+_<=k+1;rw [h1];exact NH _);have e:(st.1.push k,k+((" " : Str)).length).1.size=st.1.size+1:=by show (st.1.push k).size=_;rw [Array.size_push]
   rw [e] at ih;refine NM ?_ ih;lia
  ·rw [if_neg hb,if_neg (by rw [tQ];exact λh=>hb h.2)];have ih:=p7 z zU hl m (k+1) (st.1,st.2) (by lia) (by show st.1.size<=_;lia) (by show st.2<=_;lia);exact ih
theorem tp (z:Str):z.cps.toList.count 32<=(occurrences z " " 0 z.length (z.length+1)).length:=by
 rw [occ_eq];have h:=p7 z (z.length+1) (O1 _) (z.length+1) 0 (#[],0) (by lia) (by simp) (NH _);have e:(List.range' 0 (z.length+1)).countP (isB z.cps.toList)=z.cps.toList.count 32:=by
  rw [<-List.range_eq_range',OV,List.countP_append];have hz:z.length=z.cps.toList.length:=by simp [Str.length]
  have e2:isB z.cps.toList z.length=false:=by
   unfold isB;rw [hz,Ou (NH _)];rfl
  rw [hz,xV,<-hz];simp [e2]
 rw [e] at h;simp only [N2];have h0:((#[]:Array Nat),0).1.size=0:=rfl;rw [h0,Nat.zero_add] at h;exact h
theorem yR (z:Str):(Txt.split z " ").length=(occurrences z " " 0 z.length (z.length+1)).length+1\/(Txt.split z " " = [z]/\z.cps.toList.count 32=0):=by
 unfold Txt.split
 split
 ·rename_i h
  right
  refine ⟨rfl,?_⟩;rw [Bool.or_eq_true,decide_eq_true_eq,decide_eq_true_eq] at h;have h1:((" " : Str)).length=1:=rfl;rcases h with h | h
  ·have hz:z.cps.toList=[]:=OC (by rw [N2];have:z.length=z.cps.size:=rfl;lia);rw [hz];rfl
  ·exfalso;have e:PySem.Builtin.Str.strKind (" " : Str)=1:=by decide +kernel
   rw [e] at h;unfold PySem.Builtin.Str.strKind at h
   split at h
   ·lia
   ·split at h <;> lia
 ·split
  ·rename_i h
   right
   refine ⟨rfl,?_⟩;have:=tp z;rw [O3.mp h] at this;simpa using this
  ·left
   rw [length_partsBetween]
theorem yz (ts:List Str) (hne:ts≠[]):(Str.join " " ts).cps.toList.count 32=(ts.map λt=>t.cps.toList.count 32).sum+(ts.length - 1):=by
 have h2:((" " : Str)).cps.toList=[32]:=by decide +kernel
 induction ts with
 | nil=>exact (hne rfl).elim
 | cons x r ih=>
  cases r with
  | nil=>show x.cps.toList.count 32=_;simp
  | cons y r=>
   have e:Str.join " " (x::y::r)=x ++ " " ++ Str.join " " (y::r):=rfl;rw [e];have e2:(x++(" " : Str)++Str.join " " (y::r)).cps.toList=x.cps.toList++[32]++(Str.join " " (y::r)).cps.toList:=by
    rw [<-h2]
    (simp only [Str.cps_append,Px])
   rw [e2,List.count_append,List.count_append,ih (by simp)];simp only [N1,O0,N4,List.count_singleton_self];lia
theorem vS:∀ {l:List Nat},l.sum=0->∀ x∈l,x=0
 | [],_,x,h=>by cases h
 | a::r,hs,x,h=>by
  simp only [O0] at hs
  (rcases NZ.mp h with rfl | h)
  ·lia
  ·exact vS (by lia) x h
theorem split_free (z:Str):∀ x∈Txt.split z " ",32∉x.cps.toList:=by
 intro x hx;have hj:=StrLaws.join_split z " ";have hne:Txt.split z " " ≠ []:=by intro e;rw [e] at hx;cases hx
 have hc:=yz (Txt.split z " ") hne;rw [hj] at hc;rcases yR z with h | h
 ·rw [h] at hc;have h3:=tp z;have h4:(List.map (λt:Str=>t.cps.toList.count 32) (Txt.split z " ")).sum=0:=by lia
  have h5:=vS h4 (x.cps.toList.count 32) (NJ.mpr ⟨x,hx,rfl⟩);exact List.count_eq_zero.mp h5
 ·rw [h.1] at hx;simp only [NQ] at hx;subst hx;exact List.count_eq_zero.mp h.2
theorem FT {a b c d:List Nat} (h:a++32::b=c++32::d) (ha:32∉a) (hc:32∉c):a=c/\b=d:=by
 induction a generalizing c with
 | nil=>
  cases c with
  | nil=>simp at h;exact ⟨rfl,h⟩
  | cons e c=>simp at h;exact (hc (by simp [<-h.1])).elim
 | cons e a ih=>
  cases c with
  | nil=>simp at h;exact (ha (by simp [h.1])).elim
  | cons e' c=>
   simp only [List.cons_append,List.cons.injEq] at h;obtain ⟨h1,h2⟩:=ih h.2 (λq=>ha (NN _ q)) (λq=>hc (NN _ q));exact ⟨by rw [h.1,h1],h2⟩
theorem zu (x y:Str) (r:List Str):(Str.join " " (x::y::r)).cps.toList=x.cps.toList++32::(Str.join " " (y::r)).cps.toList:=by
 have h2:((" " : Str)).cps.toList=[32]:=by decide +kernel
 have e:Str.join " " (x::y::r)=x ++ " " ++ Str.join " " (y::r):=rfl;rw [e];simp only [Str.cps_append,Px,h2,Pc,List.singleton_append]
theorem wN:∀ {ts us:List Str},ts≠[]->us≠[]->(∀ x∈ts,32∉x.cps.toList)->(∀ x∈us,32∉x.cps.toList)->(Str.join " " ts).cps.toList=(Str.join " " us).cps.toList->ts=us
 | [x],[y],_,_,_,_,h=>by rw [mY (x:=x) (y:=y) h]
 | [x],y::y2::r,_,_,hx,_,h=>by
  rw [zu] at h;have h:x.cps.toList=y.cps.toList++32::(Str.join " " (y2::r)).cps.toList:=h;exact (hx x (by simp) (by rw [h];simp)).elim
 | x::x2::r,[y],_,_,_,hy,h=>by
  rw [zu] at h;have h:x.cps.toList++32::(Str.join " " (x2::r)).cps.toList=y.cps.toList:=h;exact (hy y (by simp) (by rw [<-h];simp)).elim
 | x::x2::r,y::y2::q,_,_,hx,hy,h=>by
  rw [zu,zu] at h;obtain ⟨h1,h2⟩:=FT h (hx x (by simp)) (hy y (by simp));have:=wN (ts:=x2::r) (us:=y2::q) (by simp) (by simp) (λz hz=>hx z (NN _ hz)) (λz hz=>hy z (NN _ hz)) h2;rw [mY h1,this]
theorem yo {ws:List Str} (hne:ws≠[]) (h:∀ x∈ws,32∉x.cps.toList):Txt.split (Txt.join " " ws) " " = ws:=by
 have e:Txt.join " " ws=Str.join " " ws:=StrLaws.glued_eq_join " " ws;have hj:=StrLaws.join_split (Txt.join " " ws) " ";refine wN ?_ hne (split_free _) h ?_
 ·intro e;have:=(L2.mJ (z:=Txt.join " " ws) (y:= " ")).1;rw [e] at this;exact absurd this (by decide)
 ·rw [hj,e]
theorem o6 (z:Str):Txt.join " " (Txt.split z " ")=z:=by
 rw [show Txt.join " " (Txt.split z " ")=Str.join " " (Txt.split z " ") from StrLaws.glued_eq_join " " _];exact StrLaws.join_split z " "
end LG
namespace LG
open PySem L2 PySem.Builtin PySem.Builtin.Str
theorem nS (y:Str) (p:Nat->Bool) (h1:∀ c<200,y.cps.contains c=p c) (h2:∀ x∈y.cps.toList,x<200) (h3:∀ c,200<=c->p c=false):(λc=>y.cps.contains c)=p:=by
 funext c
 rcases Oi c 200 with h | h
 ·exact h1 c h
 ·rw [h3 c h];rw [N5];intro q;have:=h2 c (by simpa using q);lia
theorem EM (c:Nat) (h:200<=c):sgn c=false:=by unfold sgn;rw [decide_eq_false (show ¬ c<=126 by lia)];simp
theorem E5 (c:Nat) (h:200<=c):dig c=false:=by unfold dig;rw [decide_eq_false (show ¬ c<=57 by lia)];simp
theorem Gh (c:Nat) (h:200<=c):low c=false:=by unfold low;rw [decide_eq_false (show ¬ c<=122 by lia)];simp
@[irreducible] def Al:Str:= "0123456789"
@[irreducible] def Aq:Str:= "abcdefghijklmnopqrstuvwxyz"
@[irreducible] def uw:Str:= "!\"#$&'()*+,-./0123456789:;<=>?@ABCDEFGHIJKLMNOPQRSTUVWXYZ[\\]^_`abcdefghijklmnopqrstuvwxyz{|}~"
theorem Gr:Al = "0123456789" :=by unfold Al;rfl
theorem Gu:Aq = "abcdefghijklmnopqrstuvwxyz" :=by unfold Aq;rfl
theorem BP:uw = "!\"#$&'()*+,-./0123456789:;<=>?@ABCDEFGHIJKLMNOPQRSTUVWXYZ[\\]^_`abcdefghijklmnopqrstuvwxyz{|}~" :=by unfold uw;rfl
theorem Cy:(λc=>Al.cps.contains c)=dig:=nS _ _ (by decide +kernel) (by decide +kernel) E5
theorem BN:(λc=>Aq.cps.contains c)=low:=nS _ _ (by decide +kernel) (by decide +kernel) Gh
theorem Av:(λc=>uw.cps.contains c)=sgn:=nS _ _ (by decide +kernel) (by decide +kernel) EM
theorem m4 (z:Str):decide (V.str z=V.str "")=z.cps.toList.isEmpty:=by
 rw [N7,decide_eq_true_eq,O3];constructor
 ·intro h;have:z = "" :=by injection h
  rw [this];rfl
 ·intro h;have:z = "" :=mY (by rw [h];rfl);rw [this]
theorem F3 (z y:Str):((!decide (V.str z=V.str "")) && decide (V.str (Txt.stripChars z y)=V.str ""))=cB (λc=>y.cps.contains c) z.cps.toList:=by
 rw [m4,strip_nil];rfl
theorem AO {i j:Nat} (hi:i<3) (hj:j<3):decide (V.str (eJ i)=V.str (eJ j))=decide (i=j):=by
 match i,j,hi,hj with
 | 0,0,_,_=>decide +kernel
 | 0,1,_,_=>decide +kernel
 | 0,2,_,_=>decide +kernel
 | 1,0,_,_=>decide +kernel
 | 1,1,_,_=>decide +kernel
 | 1,2,_,_=>decide +kernel
 | 2,0,_,_=>decide +kernel
 | 2,1,_,_=>decide +kernel
 | 2,2,_,_=>decide +kernel
theorem rE (l:List Nat):wI l<3:=by
 unfold wI
 split
 ·decide
 ·split <;> decide
def bZ (l:List Nat):Nat:=if cB dig (bB l)=true then 0 else if l.all low=true then 1 else 2
theorem mm {l:List Nat} (h:l≠[]):bZ l=wI l:=by
 unfold bZ wI;have:cB low l=l.all low:=by
  unfold cB;cases l with
  | nil=>exact (h rfl).elim
  | cons a r=>simp
 rw [this]
theorem wC (z:Str):∀ (n a:Nat),a+n<=z.cps.toList.length->((List.range n).map λk=>a+k).filterMap (λi=>z.cps[i]?)=(z.cps.toList.drop a).take n
 | 0,a,_=>by simp
 | n+1,a,h=>by
  rw [OV,NS,List.filterMap_append,wC z n a (by lia)];have ha:a+n<z.cps.toList.length:=by lia
  have e:z.cps[a+n]? = some (z.cps.toList[a+n]):=by
   rw [<-Oz,NG ha]
  simp only [N1,OU,Pw,e,List.filterMap_nil];rw [List.take_succ,List.getElem?_drop,NG ha];rfl
theorem tJ (z:Str) {l u:Option Int}{a n:Nat} (h:strSliceIndices l u 1 z.length=(List.range n).map λk=>a+k) (hn:a+n<=z.length):(Txt.slice z l u).cps.toList=(z.cps.toList.drop a).take n:=by
 have hz:z.length=z.cps.toList.length:=by simp [Str.length]
 unfold Txt.slice;rw [h]
 split
 ·rename_i hc;have hc':n=z.length:=by simpa using hc
  have ha:a=0:=by lia
  subst ha;rw [List.drop_zero,NI (by lia)]
 ·show (List.toArray _).toList=_;rw [List.toList_toArray];exact wC z n a (by lia)
theorem rN (z:Str):(Txt.slice z none (some 1)).cps.toList=z.cps.toList.take 1:=by
 have hz:z.length=z.cps.toList.length:=by simp [Str.length]
 have h:strSliceIndices none (some 1) 1 z.length=(List.range (min 1 z.length)).map λk=>0+k:=by
  (unfold strSliceIndices sliceRange)
  simp only [show (1:Int) > 0 by decide,if_true,show ¬ (1:Int)<0 by decide,if_false];have e:(if (0:Int)<max 0 (min 1 (z.length:Int)) then (max 0 (min 1 (z.length:Int)) - 0+1 - 1) / 1 else 0).toNat=min 1 z.length:=by
   split <;> lia
  rw [e]
  (refine Og λk _=>?_)
  lia
 rw [tJ z h (by lia),List.drop_zero];rcases Nat.eq_zero_or_pos z.length with q | q
 ·have:z.cps.toList=[]:=OC (by lia);rw [this];simp
 ·rw [Pz q]
theorem yk (z:Str):(Txt.slice z (some 1) none).cps.toList=z.cps.toList.drop 1:=by
 have hz:z.length=z.cps.toList.length:=by simp [Str.length]
 have h:strSliceIndices (some 1) none 1 z.length=(List.range (z.length - 1)).map λk=>min 1 z.length+k:=by
  (unfold strSliceIndices sliceRange)
  simp only [show (1:Int) > 0 by decide,if_true,show ¬ (1:Int)<0 by decide,if_false];have e:(if max 0 (min 1 (z.length:Int))<(z.length:Int) then ((z.length:Int) - max 0 (min 1 (z.length:Int))+1 - 1) / 1 else 0).toNat=z.length - 1:=by
   split <;> lia
  rw [e];refine Og λk hk=>?_;have:=Oh.mp hk;lia
 rw [tJ z h (by lia)];rcases Nat.eq_zero_or_pos z.length with q | q
 ·have:z.cps.toList=[]:=OC (by lia);rw [this];simp
 ·rw [Pz q,NI (by rw [List.length_drop];lia)]
theorem Bn (z:Str):decide (V.str (Txt.slice z none (some 1))=V.str "-")=decide (z.cps.toList.head? = some 45):=by
 have h2:(("-" : Str)).cps.toList=[45]:=by decide +kernel
 (rw [N7,decide_eq_true_eq,decide_eq_true_eq])
 constructor
 ·intro h;have e:Txt.slice z none (some 1) = "-" :=by injection h
  have e2:=rN z;rw [e,h2] at e2;cases q:z.cps.toList with
  | nil=>rw [q] at e2;simp at e2
  | cons a r=>rw [q] at e2;simp at e2;simp [e2]
 ·intro h;have e:Txt.slice z none (some 1) = "-" :=by
   refine mY ?_;rw [rN,h2];cases q:z.cps.toList with
   | nil=>rw [q] at h;simp at h
   | cons a r=>rw [q] at h;simp at h;simp [h]
  rw [e]
theorem xQ {l:List Nat} (h:l.head? = some 45):l.drop 1=bB l:=by
 cases l with
 | nil=>simp at h
 | cons a r=>simp at h;subst h;rfl
theorem y8 {l:List Nat} (h:l.head? ≠ some 45):l=bB l:=by
 cases l with
 | nil=>rfl
 | cons a r=>
  unfold bB
  split
  ·rename_i q;cases q;exact (h rfl).elim
  ·rfl
theorem lt1 (a b:Nat):decide ([a] < [b])=decide (a<b):=by
 (rw [N7,decide_eq_true_eq,decide_eq_true_eq])
 constructor
 ·intro h;cases h with
  | rel h=>exact h
  | cons h=>cases h
 ·intro h;exact List.Lex.rel h
theorem le1 (a b:Nat):(!decide (([b]:List Nat) < [a]))=decide (a<=b):=by
 rw [lt1];by_cases h:b<a
 ·rw [decide_eq_true h,decide_eq_false (by lia)];rfl
 ·rw [decide_eq_false h,decide_eq_true (by lia)];rfl
theorem jb {a b:Str}{lo hi c:Nat} (ha:a=⟨#[lo]⟩) (hb:b=⟨#[hi]⟩) {H2:Hp}{R:Bool->Hp->Prop} (h:R (!(decide (lo<=c) && decide (c<=hi))) H2) :
  IE (tN (vG (λx y H Q=>∃ i j,x = .str i/\y = .str j/\Q (.bl (!decide (j.cps.toList<i.cps.toList))) H) (λx y H Q=>∃ i j,x = .str i/\y = .str j/\Q (.bl (!decide (j.cps.toList<i.cps.toList))) H) (tC (.str a)) (pN 0) (tC (.str b)))) [some (.str ⟨#[c]⟩)] H2 R:=by
 subst ha hb;refine ⟨_,rfl,_,_,rfl,rfl,_,rfl,?_⟩;have e1:(!decide ((⟨#[c]⟩:Str).cps.toList<(⟨#[lo]⟩:Str).cps.toList))=decide (lo<=c):=le1 lo c;rw [e1];by_cases h1:lo<=c
 ·rw [decide_eq_true h1] at h ⊢;rw [if_pos rfl];refine ⟨_,_,rfl,rfl,_,rfl,?_⟩;have e2:(!decide ((⟨#[hi]⟩:Str).cps.toList<(⟨#[c]⟩:Str).cps.toList))=decide (c<=hi):=le1 c hi;rw [e2];rw [Pd] at h;exact h
 ·rw [decide_eq_false h1] at h ⊢;rw [if_neg NV];refine ⟨_,rfl,?_⟩;rw [Bool.false_and] at h;exact h
def sg (c:Nat):Str:=⟨#[c]⟩
section
variable {K:PySem.W.Frag}{tt:TT}{D:Addr}{Q:VK}{H:Hp}
theorem xo {z:Str} (f:Nat->Bool) (hz:PyData.strOk z=true) (hl:z.length<=1000000) (hD:H D=none) (ht:∀ (c:Nat) (H2:Hp) (R:Bool->Hp->Prop),R (f c) H2->tt [some (.str ⟨#[c]⟩)] H2 R)
  (hq:∀ (H2:Hp),ae H H2->H2 D=some (.lst (((z.cps.toList.filter f).map sg).map V.str))->Q (.ref D) H2) :
  ma (aU 0) tt (pN 0) (Its z) D Q [none] (upd H D (.lst [])):=by
 have hzl:z.length=z.cps.toList.length:=by simp [Str.length]
 refine DG (λi acc σ H2=>(∃ u,σ=[u])/\ae H H2/\acc=((((z.cps.toList.take i).filter f).map sg).map V.str)) ab ⟨⟨_,rfl⟩,ae.new hD,rfl⟩ (λi c acc σ H2 hc hDx p=>?_) (λacc σ H2 hDx p=>?_)
 ·obtain ⟨⟨u,rfl⟩,s2,rfl⟩:=p;have hc':z.cps.toList[i]? = some c:=by rw [Oz];exact hc
  have hi:i<z.cps.toList.length:=aG hc';have et:z.cps.toList.take (i+1)=z.cps.toList.take i++[c]:=by rw [NY,hc'];rfl
  have hlen:((((z.cps.toList.take i).filter f).map sg).map V.str).length<=i:=by
   simp only [NE];exact NM (N8 _ _) (by rw [NR];lia)
  show tt [some (.str ⟨#[c]⟩)] H2 _;refine ht _ _ _ ?_;cases hf:f c with
  | true=>
   refine bL ?_;refine ⟨_,rfl,_,hDx,small (by lia),_,ab,⟨_,rfl⟩,ar hD s2,?_⟩;rw [et,Oe,NS,NS];simp [hf,sg]
  | false=>
   refine bf ⟨_,hDx,⟨_,rfl⟩,s2,?_⟩;rw [et,Oe];simp [hf]
 ·obtain ⟨_,s2,rfl⟩:=p;rw [NI (by lia)] at hDx;exact hq H2 s2 hDx
theorem JL {z:Str} (hz:PyData.strOk z=true) {f:Nat->Bool}:∀ x∈(z.cps.toList.filter f).map sg,PyData.strOk x=true:=λx hx=>by
 obtain ⟨c,hc,rfl⟩:=NJ.mp hx;have:=gv hz c (by simpa using (Oc.mp hc).1);exact lO λd hd=>by simp [sg] at hd;lia
theorem nR {σ:St}{i:Nat}{z:Str}{R:Bool->Hp->Prop} (f:Nat->Bool) (hs:σ[i]? = some (some (.str z))) (hz:PyData.strOk z=true) (hl:z.length<=1000000) (ht:∀ (c:Nat) (H2:Hp) (R:Bool->Hp->Prop),R (f c) H2->tt [some (.str ⟨#[c]⟩)] H2 R)
  (h:∀ H',ae H H'->R (z.cps.toList.all λc=>!f c) H'):tN (tOp (rV K) (xh (Ik (pN i)) (aU 0) tt (pN 0) 1 []) (HZ Io)) σ H R:=by
 refine ⟨_,hs,z,rfl,λD hD=>?_⟩;refine xo f hz hl hD ht λH2 s2 hD2=>?_;refine ⟨NW _,λp hp=>?_⟩;refine ⟨.list (((z.cps.toList.filter f).map sg).map .str),.list [],.lst (.of (by rw [aw (ao hD2 hp)];exact hD2)) (d6 (JL hz)),.lst (.of ab) .nil,?_,_,rfl,?_⟩
 ·have:PyData.depthAll (((z.cps.toList.filter f).map sg).map PyData.str)<=0:=bE _ λd hd=>by
   obtain ⟨x,_,rfl⟩:=NJ.mp hd;exact NH _
  show PyData.depthAll _+1<=100;lia
 ·have e:PyData.eqv (.list (((z.cps.toList.filter f).map sg).map .str)) (.list [])=z.cps.toList.all λc=>!f c:=by
   have:PyData.eqv (.list (((z.cps.toList.filter f).map sg).map .str)) (.list [])=(z.cps.toList.filter f).isEmpty:=by
    cases z.cps.toList.filter f with
    | nil=>rfl
    | cons a r=>rfl
   rw [this,N7,O3,OE,Od];simp
  rw [e];exact h _ (s2.trans (ae.new hp))
end
inductive Pt where
 | word (w:Str)
 | hole (k:Nat)
 deriving DecidableEq
def Pt.dat:Pt->PyData
 | .word w=>.tuple [.str "word",.str w]
 | .hole k=>.tuple [.str "hole",.str (bq k)]
def TOk (w:Str):Prop:=w.length<=10000/\PyData.strOk w=true
def Pt.ok:Pt->Prop
 | .word w=>TOk w
 | .hole k=>k<3
def br (ps:List Pt):PyData:=.list (ps.map Pt.dat)
def POk (ps:List Pt):Prop:=ps.length<=10000/\∀ p∈ps,p.ok
def Pt.takes:Pt->Str->Bool
 | .word x,w=>decide (w=x)
 | .hole 0,w=>decide (bD w=0)
 | .hole 1,w=>decide (bD w=1)
 | .hole _,w=>d5 w
def aM (ps:List Pt) (ws:List Str):Bool:=decide (ps.length=ws.length) && (ps.zip ws).all λp=>p.1.takes p.2
def Pt.within:Pt->Pt->Bool
 | .word x,q=>q.takes x
 | .hole k,q=>decide (q = .hole k) || decide (q = .hole 2)
def tu (ps qs:List Pt):Bool:=decide (ps.length=qs.length) && (ps.zip qs).all λp=>p.1.within p.2
def Pt.loose:Pt->Int
 | .word _=>0
 | .hole 0=>1
 | .hole 1=>1
 | .hole _=>2
def Pt.around:Pt->Nat
 | .word w=>bD w
 | .hole k=>k
def kO (ps:List Pt):Pt:=match ps with
 | []=>.hole 2
 | p::r=>if r.all (λq=>decide (q=p))=true then p else if r.all (λq=>decide (q.around=p.around))=true then .hole p.around else .hole 2
theorem oM {i j:Nat} (hi:i<3) (hj:j<3) (h:bq i=bq j):i=j:=by
 have key:∀ i<3,∀ j<3,bq i=bq j->i=j:=by decide +kernel
 exact key i hi j hj h
theorem zF {p q:Pt} (hp:p.ok) (hq:q.ok) (h:p.dat=q.dat):p=q:=by
 cases p with
 | word w=>
  cases q with
  | word w'=>simp [Pt.dat] at h;rw [h]
  | hole k=>
   have:("word" : Str) ≠ "hole" :=by decide +kernel
   simp [Pt.dat] at h;exact (this h.1).elim
 | hole k=>
  cases q with
  | word w'=>
   have:("hole" : Str) ≠ "word" :=by decide +kernel
   simp [Pt.dat] at h;exact (this h.1).elim
  | hole k'=>
   simp [Pt.dat] at h;rw [oM hp hq h]
def FH:Sh:=.bg .str (.bg .str .ix)
theorem Cq (p:Pt):FH.has p.dat:=by
 cases p with
 | word w=>exact ⟨_,_,rfl,⟨_,rfl⟩,_,_,rfl,⟨_,rfl⟩,rfl⟩
 | hole k=>exact ⟨_,_,rfl,⟨_,rfl⟩,_,_,rfl,⟨_,rfl⟩,rfl⟩
theorem DZ {p q:Pt} (hp:p.ok) (hq:q.ok):PyData.eqv p.dat q.dat=decide (p=q):=by
 rw [N7,decide_eq_true_eq,(Sh.ok FH).eqv _ _ (Cq p) (Cq q)];exact ⟨zF hp hq,λh=>by rw [h]⟩
theorem vb (pt:Pt):pt.dat.depth<=5:=by cases pt <;> simp [Pt.dat,PyData.depth,PyData.depthAll]
theorem kQ (ps:List Pt):(br ps).depth<=90:=by
 have h:PyData.depthAll (ps.map Pt.dat)<=5:=bE _ λd hd=>by
  obtain ⟨pt,_,rfl⟩:=NJ.mp hd;exact vb pt
 simp only [br,PyData.depth];lia
theorem wR {K:PySem.W.Frag}{H:Hp}{v:V}{x:Str} (h:Den K H v (.str x)):v = .str x/\PyData.strOk x=true:=by
 cases h with
 | str q=>exact ⟨rfl,q⟩
theorem lB {K:PySem.W.Frag}{H:Hp}{v:V}{x y:Str} (h:Den K H v (.tuple [.str x,.str y])):∃ a,v = .ref a/\SqT K H a [.str x,.str y]/\PyData.strOk x=true/\PyData.strOk y=true:=by
 cases h with
 | tup hq t=>
  cases t with
  | cons h1 t=>cases t with
   | cons h2 t=>
    cases t;obtain ⟨rfl,q1⟩:=wR h1;obtain ⟨rfl,q2⟩:=wR h2;exact ⟨_,rfl,hq,q1,q2⟩
theorem iK {K:PySem.W.Frag}{H:Hp}{v:V}{pt:Pt} (h:Den K H v pt.dat):∃ a x y,v = .ref a/\SqT K H a [.str x,.str y]/\PyData.strOk x=true/\PyData.strOk y=true/\(match pt with | .word w=>x = "word" /\ y=w | .hole k=>x = "hole" /\ y=bq k):=by
 cases pt with
 | word w=>obtain ⟨a,rfl,hq,q1,q2⟩:=lB h;exact ⟨a,_,_,rfl,hq,q1,q2,rfl,rfl⟩
 | hole k=>obtain ⟨a,rfl,hq,q1,q2⟩:=lB h;exact ⟨a,_,_,rfl,hq,q1,q2,rfl,rfl⟩
theorem cw {K:PySem.W.Frag}{H:Hp}{v:V}{ps:List Pt} (h:Den K H v (br ps)):∃ a xs,v = .ref a/\SqL K H a xs/\aB K H xs (ps.map Pt.dat):=by
 cases h with
 | lst hq t=>exact ⟨_,_,rfl,hq,t⟩
end LG
namespace L2
open PySem PySem.Spec PyProof.Rows
section
variable {X:Cx}
def dq (K:PySem.W.Frag):List V->Hp->VK->Prop:=λxs H Q=>∃ p ys,xs=[.ref p]/\(SqL K H p ys\/SqT K H p ys)/\Q (.int ys.length) H
theorem ba:fZ X (.builtin "len") (dq X.K):=uY
theorem sH:bootBuiltins "isinstance" = some (.builtin "isinstance"):=by decide +kernel
theorem IQ:bootBuiltins "str" = some (.type "str"):=by decide +kernel
theorem Eh:bootBuiltins "int" = some (.type "int"):=by decide +kernel
theorem Dj {K:PySem.W.Frag}{a:Addr}{x y:V}{σ:St}{H:Hp}{F G:St->Hp->Prop} (hq:SqT K H a [x,y]) (h:F ((σ.set 0 (some x)).set 1 (some y)) H) :
  xI K 2 (fH (aU 0) (fH (aU 1) xW)) (.ref a) σ H λσ2 H2=>FR σ2 H2 λb H3=>if b=true then F σ2 H3 else G σ2 H3:=by
 refine ⟨a,_,rfl,hq,rfl,_,_,rfl,_,_,rfl,rfl,?_⟩;show (if true=true then F ((σ.set 0 (some x)).set 1 (some y)) H else G ((σ.set 0 (some x)).set 1 (some y)) H);rw [if_pos rfl];exact h
end
theorem vO {X:Cx}{K:PySem.W.Frag}{o e:Expr}{es:List Expr}{to:TE}{t:TA}{name:Str}{apos dv:Pos}{T id:String}{r:V->List V->Hp->VK->Prop} (eK:X.K=K) (pa:PlainAttrs T) (slot:Slot T name id) (hty:typeOf (.builtin id)=pure (.type "method_descriptor")) (hm:MtR X id r) (ho:PE X o to) (ha:PA X (e::es) t)
  (xC:attributeBase o name X.env (eval o X.env)=eval o X.env:=by rfl)
  (IL:((backTo dv (starEach (e::es) X.env)).all (λx=>!x.1) && (backToKw dv (keywordEach [] X.env)).all (λx=>x.1.isSome)
   && decide ((e::es).length+([]:List Keyword).length+(if ([]:List Keyword).isEmpty then 0 else 1)<30))=true:=by rfl)
  (wK:(apos.endLine == dv.line)=true:=by rfl) (hs:starEach (e::es) X.env=(false,eval e X.env)::starEach es X.env:=by rfl) (jG:(backTo dv (starEach es X.env)).any (·.1)=false:=by rfl) :
  PE X (.Call (.Attribute o name apos) (e::es) [] dv) (tBM K T r to t):=by
 subst eK;exact b6 pa slot hty hm ho ha xC IL wK hs jG
def KS (sc osc:Scope):Scope:={ sc with names:=sc.names.map λ(n,k)=>if (k == .free && osc.kind == .function && osc.names.lookup n == some .cell) then (n,.cell) else (n,k) }
theorem uG {X0:Cx}{sc sc':Scope}{N0 N':List Str}{n:Nat}{fi:List Nat}{s:Shared}{H:Hp}{fp:List Addr} (osc:Scope) (h:Hw sc (KS sc' osc) N0 N' n fi=true) (e:X0.env.scope=osc:=by rfl):lc (eP X0 sc' N0 s H fp) sc N' n fi:=by
 subst e;exact aX (KS sc' X0.env.scope) N0 h rfl rfl
theorem SqT.Jj {K:PySem.W.Frag}{H0 H4 H':Hp}{a:Addr}{xs:List V} (ll:LL H0 H4) (s:ae H4 H') (h:SqT K H4 a xs):SqT K (L2.lim H0 H') a xs:=by
 have no:∀ o:HO,H4 a=some o->(∀ zs,o ≠ .lst zs)->∀ zs,H0 a≠some (.lst zs):=λo ho hn zs e=>by
  obtain ⟨z2,q⟩:=ll a zs e;rw [ho] at q;cases q;exact hn z2 rfl
 rcases h with (h | ⟨o,h⟩) | h
 ·exact .inl (.inl (by rw [i7 (no _ h λzs z=>by cases z)];exact s _ _ h))
 ·exact .inl (.inr ⟨o,by rw [i7 (no _ h λzs z=>by cases z)];exact s _ _ h⟩)
 ·exact .inr h
end L2
namespace LG
open PySem L2 PySem.Builtin PySem.Builtin.Str
def LOk (w:Str):Prop:=w.length<=10000
theorem LOk.s {w:Str} (h:LOk w):w.length<=sizeLine:=NM h (by decide)
def kj (K:PySem.W.Frag):Sp:=λvs H Q _=>∃ z y:Str,vs=[.str z,.str y]/\LOk z/\Q (.bl (cB (λc=>y.cps.contains c) z.cps.toList)) H
def qg (K:PySem.W.Frag):Sp:=λvs H Q _=>∃ z:Str,vs=[.str z]/\LOk z/\Q (.bl (d5 z)) H
def mN (K:PySem.W.Frag):Sp:=λvs H Q _=>∃ z:Str,vs=[.str z]/\LOk z/\Q (.str (eJ (bD z))) H
def g9 (K:PySem.W.Frag):Sp:=λvs H Q _=>∃ z:Str,vs=[.str z]/\LOk z/\∀ l,H l=none->Q (.ref l) (upd H l (.lst ((Txt.split z " ").map V.str)))
def eW (K:PySem.W.Frag):Sp:=λvs H Q _=>∃ v pt,vs=[v]/\Den K H v (Pt.dat pt)/\Q (.bl (match pt with | .hole _=>true | _=>false)) H
def l9 (K:PySem.W.Frag):Sp:=λvs H Q _=>∃ (v:V) (w:Str) (p:Pt),vs=[v,.str w]/\Den K H v p.dat/\p.ok/\LOk w/\Q (.bl (p.takes w)) H
def jA (K:PySem.W.Frag):Sp:=λvs H Q _=>∃ (a b:Addr) (xs:List V) (ps:List Pt) (ws:List Str),vs=[.ref a,.ref b]/\SqL K H a xs/\aB K H xs (ps.map Pt.dat)/\(∀ p∈ps,p.ok)/\SqL K H b (ws.map V.str)/\(∀ w∈ws,LOk w)/\∀ H',ae H H'->Q (.bl (aM ps ws)) H'
def pP (K:PySem.W.Frag):Sp:=λvs H Q _=>∃ (v:V) (z:Str) (ps:List Pt),vs=[v,.str z]/\Den K H v (br ps)/\(∀ p∈ps,p.ok)/\LOk z/\PyData.strOk z=true/\∀ H',ae H H'->Q (.bl (aM ps (Txt.split z " "))) H'
def eE (K:PySem.W.Frag):Sp:=λvs H Q _=>∃ (v:V) (p:Pt),vs=[v]/\Den K H v p.dat/\p.ok/\Q (.str (bq p.around)) H
def fw (K:PySem.W.Frag):Sp:=λvs H Q _=>∃ (v:V) (p:Pt),vs=[v]/\Den K H v p.dat/\p.ok/\Q (.int p.loose) H
def nN (K:PySem.W.Frag):Sp:=λvs H Q _=>∃ (v:V) (ps:List Pt),vs=[v]/\Den K H v (br ps)/\POk ps/\∀ D H',H D=none->ae H H'->H' D=some (.lst (ps.map λp=>.int p.loose))->Q (.ref D) H'
def li (K:PySem.W.Frag):Sp:=λvs H Q _=>∃ (a:Addr) (xs:List V) (ps:List Pt),vs=[.ref a]/\SqL K H a xs/\aB K H xs (ps.map Pt.dat)/\ps≠[]/\POk ps/\∀ r H',ae H H'->Den K H' r (kO ps).dat->Q r H'
theorem nY {p:Pt} (h:p.ok):p.around<3:=by
 cases p with
 | word w=>exact rE _
 | hole k=>exact h
theorem qo {k:Nat}:PyData.strOk (bq k)=true:=by
 match k with
 | 0=>decide +kernel
 | 1=>decide +kernel
 | (n+2)=>show PyData.strOk (bq 2)=true;decide +kernel
theorem xR {k:Nat} (hk:k<3):decide (V.str (bq k)=V.str "any")=decide (k=2):=by
 match k,hk with
 | 0,_=>decide +kernel
 | 1,_=>decide +kernel
 | 2,_=>decide +kernel
theorem AN {k:Nat} (hk:k<2) (w:Str):decide (V.str (eJ (bD w))=V.str (bq k))=decide (bD w=k):=by
 have h:bq k=eJ k:=by
  match k,hk with
  | 0,_=>rfl
  | 1,_=>rfl
 rw [h];exact AO (rE _) (by lia)
theorem i0 (z:Str):bD z<3:=rE _
theorem Bz (z:Str):(Txt.removeprefix z "-").length<=z.length:=by
 have h:=wc z;have h1:(Txt.removeprefix z "-").length=(Txt.removeprefix z "-").cps.toList.length:=by simp [Str.length]
 have h2:z.length=z.cps.toList.length:=by simp [Str.length]
 rw [h1,h,h2];generalize z.cps.toList=l;unfold bB
 split <;> simp
theorem Au {ps:List Pt}{ws:List Str} (h:ps.length≠ws.length):aM ps ws=false:=by unfold aM;rw [decide_eq_false h];rfl
theorem Dd {α β:Type}{f:α×β->Bool}{xs:List α}{ys:List β}{i:Nat}{x:α}{y:β} (hx:xs[i]? = some x) (hy:ys[i]? = some y) (h:f (x,y)=false):(xs.zip ys).all f=false:=by
 rw [N5];intro q;rw [Od] at q;have hm:(x,y)∈xs.zip ys:=by
  refine NF (i:=i) ?_;rw [O6];exact ⟨hx,hy⟩
 rw [q _ hm] at h;cases h
theorem Aa {α β:Type}{f:α×β->Bool}{xs:List α}{ys:List β} (h:∀ (i:Nat) x y,i<min xs.length ys.length->xs[i]? = some x->ys[i]? = some y->f (x,y)=true):(xs.zip ys).all f=true:=by
 rw [Od];intro p hp;obtain ⟨i,hi⟩:=OR hp;rw [O6] at hi;have h1:=aG hi.1;have h2:=aG hi.2;exact h i p.1 p.2 (by lia) hi.1 hi.2
theorem fk {K:PySem.W.Frag}{H:Hp}{xs:List V}{ps:List Pt}{i:Nat}{x:V} (h:aB K H xs (ps.map Pt.dat)) (hx:xs[i]? = some x):∃ p,ps[i]? = some p/\Den K H x p.dat:=by
 obtain ⟨d,hd,fR⟩:=h.get hx;rw [NK] at hd;cases e:ps[i]? with
 | none=>rw [e] at hd;cases hd
 | some p=>rw [e] at hd;cases hd;exact ⟨p,rfl,fR⟩
theorem b0 {ws:List Str}{i:Nat}{y:V} (h:(ws.map V.str)[i]? = some y):∃ w,ws[i]? = some w/\y = .str w:=by
 rw [NK] at h;cases e:ws[i]? with
 | none=>rw [e] at h;cases h
 | some w=>rw [e] at h;cases h;exact ⟨w,rfl,rfl⟩
theorem Fb {K:PySem.W.Frag}{H0 H4 H':Hp} (ll:LL H0 H4) (s:ae H4 H') {v:V}{pt:Pt} (h:Den K H4 v pt.dat):Den K (lim H0 H') v pt.dat:=by
 cases pt with
 | word w=>obtain ⟨a,rfl,hq,q1,q2⟩:=lB h;exact .tup (hq.Jj ll s) (.cons (.str q1) (.cons (.str q2) .nil))
 | hole k=>obtain ⟨a,rfl,hq,q1,q2⟩:=lB h;exact .tup (hq.Jj ll s) (.cons (.str q1) (.cons (.str q2) .nil))
def bi (pss:List (List Pt)) (n:Nat):List Pt:=(List.range n).map λi=>kO (pss.map λps=>ps.getD i (.hole 2))
def oP (K:PySem.W.Frag):Sp:=λvs H Q _=>∃ (a:Addr) (xs:List V) (pss:List (List Pt)) (n:Nat),vs=[.ref a]/\SqL K H a xs/\aB K H xs (pss.map br)/\pss≠[]/\pss.length<=10000/\(∀ ps∈pss,POk ps/\ps.length=n) /\
 ∀ D acc H',H D=none->ae H H'->H' D=some (.lst acc)->aB K (lim H H') acc ((bi pss n).map Pt.dat)->Q (.ref D) H'
theorem jh (pss:List (List Pt)) (n:Nat):bi pss (n+1)=bi pss n++[kO (pss.map λps=>ps.getD n (.hole 2))]:=by simp [bi,OV]
theorem cm {K:PySem.W.Frag}{H:Hp}{xs:List V}{pss:List (List Pt)}{i:Nat}{x:V} (h:aB K H xs (pss.map br)) (hx:xs[i]? = some x):∃ ps,pss[i]? = some ps/\Den K H x (br ps):=by
 obtain ⟨d,hd,fR⟩:=h.get hx;rw [NK] at hd;cases e:pss[i]? with
 | none=>rw [e] at hd;cases hd
 | some p=>rw [e] at hd;cases hd;exact ⟨p,rfl,fR⟩
end LG
namespace LG
open PySem L2
def Pt.key:Pt->PyData
 | .word w=>.tuple [.int 0,.int w.length,.str w]
 | .hole k=>.tuple [.int 1,.int k,.str ""]
def fm (ps:List Pt):PyData:=.tuple [.int ps.length,.list (ps.map Pt.key)]
theorem Ff (pt:Pt):pt.key.depth<=5:=by cases pt <;> simp [Pt.key,PyData.depth,PyData.depthAll]
theorem DH (ps:List Pt):(fm ps).depth<=100:=by
 have h:PyData.depthAll (ps.map Pt.key)<=5:=bE _ λd hd=>by
  obtain ⟨pt,_,rfl⟩:=NJ.mp hd;exact Ff pt
 simp only [fm,PyData.depth,PyData.depthAll];lia
def vg:Sh:=.bg .int (.bg .int (.bg .str .ix))
def xv:Sh:=.bg (.list vg) .ix
theorem Fe (pt:Pt):vg.has pt.key:=by
 cases pt with
 | word w=>exact ⟨_,_,rfl,⟨_,rfl⟩,_,_,rfl,⟨_,rfl⟩,_,_,rfl,⟨_,rfl⟩,rfl⟩
 | hole k=>exact ⟨_,_,rfl,⟨_,rfl⟩,_,_,rfl,⟨_,rfl⟩,_,_,rfl,⟨_,rfl⟩,rfl⟩
theorem rl (ps:List Pt):(Sh.bg .int xv).has (fm ps):=by
 refine ⟨_,_,rfl,⟨_,rfl⟩,_,_,rfl,⟨_,rfl,λx hx=>?_⟩,rfl⟩;obtain ⟨pt,_,rfl⟩:=NJ.mp hx;exact Fe pt
theorem Fv {p q:Pt} (h:p.key=q.key):p=q:=by
 cases p with
 | word w=>
  cases q with
  | word w'=>simp [Pt.key] at h;rw [h.2]
  | hole k=>simp [Pt.key] at h
 | hole k=>
  cases q with
  | word w'=>simp [Pt.key] at h
  | hole k'=>
   simp [Pt.key] at h;have:k=k':=by lia
   rw [this]
theorem map_inj {α β:Type}{f:α->β} (hf:∀ a b,f a=f b->a=b):∀ {l l':List α},l.map f=l'.map f->l=l'
 | [],[],_=>rfl
 | [],_::_,h=>by simp at h
 | _::_,[],h=>by simp at h
 | a::r,b::r',h=>by
  rw [N1,N1] at h;injection h with h1 h2;rw [hf a b h1,map_inj hf h2]
theorem xk {ps qs:List Pt} (h:fm ps=fm qs):ps=qs:=by
 simp only [fm,PyData.tuple.injEq,List.cons.injEq,PyData.list.injEq,and_true] at h;exact map_inj (λa b=>Fv) h.2
def qM (l:List (List Pt)):Prop:=l.Pairwise λa b=>ltv (fm b) (fm a)=false
def sel (pss:List (List Pt)) (p:List Nat):List (List Pt):=p.map λi=>pss.getD i []
theorem xf {pss:List (List Pt)}{p:List Nat} (hp:p.Perm (List.range pss.length)):(sel pss p).Perm pss:=by
 have h1:(sel pss p).Perm ((List.range pss.length).map λi=>pss.getD i []):=hp.map _
 rwa [dD] at h1
theorem yp {pss:List (List Pt)}{p:List Nat} (hp:p.Perm (List.range pss.length)) (h:dG (pss.map fm) p):qM (sel pss p):=by
 unfold dG at h;unfold qM sel;rw [Oq] at h ⊢;refine h.imp_of_mem λ{i j} hi hj q=>?_;have hi':i<pss.length:=Oh.mp (hp.mem_iff.mp hi);have hj':j<pss.length:=Oh.mp (hp.mem_iff.mp hj);have e1:(pss.map fm).getD i .none=fm (pss.getD i []):=by simp [List.getD,NG hi']
 have e2:(pss.map fm).getD j .none=fm (pss.getD j []):=by simp [List.getD,NG hj']
 rw [e1,e2] at q;exact q
theorem kG {l l':List (List Pt)} (hp:l.Perm l') (h:qM l) (h':qM l'):l=l':=by
 refine map_inj (f:=fm) (λa b=>xk) ?_;refine iC (Sh.ok (.bg .int xv)) (λx hx=>?_) (hp.map _) ?_ ?_
 ·obtain ⟨ps,_,rfl⟩:=NJ.mp hx;exact rl ps
 ·rw [Oq];exact h
 ·rw [Oq];exact h'
def C5 (H H':Hp) (acc:List V):Prop:=∀ x∈acc,∃ t ys,x = .ref t/\H t=none/\H' t=some (.lst ys)/\ys.length<=10000
def kI (K:PySem.W.Frag):Sp:=λvs H Q _=>∃ w,vs=[.str w]/\LOk w/\∀ p,H p=none->Q (.ref p) (upd H p (.tup [.int w.length,.str w]))
def pj (K:PySem.W.Frag):Sp:=λvs H Q _=>∃ v pt,vs=[v]/\Den K H v (Pt.dat pt)/\pt.ok/\∀ r H',ae H H'->Den K (lim H H') r pt.key->Q r H'
def lm (K:PySem.W.Frag):Sp:=λvs H Q _=>∃ v ps,vs=[v]/\Den K H v (br ps)/\POk ps/\∀ r H',ae H H'->Den K (lim H H') r (fm ps)->Q r H'
def jg (K:PySem.W.Frag):Sp:=λvs H Q _=>∃ a xs pss,vs=[.ref a]/\SqL K H a xs/\xs.length<64/\aB K H xs (pss.map br)/\(∀ ps∈pss,POk ps) /\
 ∀ D acc H' l,H D=none->ae H H'->H' D=some (.lst acc)->l.Perm pss->qM l->C5 H H' acc->(∀ x∈acc,x ≠ .ref D)->aB K (lim H H') acc (l.map br)->Q (.ref D) H'
theorem E7 {K:PySem.W.Frag}{H:Hp}{xs:List V}{pss:List (List Pt)}{p:List Nat}{i:Nat}{x:V} (hds:aB K H xs (pss.map br)) (hp:p.Perm (List.range pss.length)) (hx:(picked xs p)[i]? = some x) :
  ∃ ps,(sel pss p)[i]? = some ps/\ps∈pss/\Den K H x (br ps):=by
 unfold picked at hx;rw [NK] at hx;cases e:p[i]? with
 | none=>rw [e] at hx;cases hx
 | some j=>
  rw [e] at hx;cases hx;have hj:j<pss.length:=Oh.mp (hp.mem_iff.mp (NF e));have hd:=hds.Ag j (by rw [NE];exact hj);have e1:pss[j]? = some pss[j]:=NG hj;refine ⟨pss[j],?_,Ov hj,?_⟩
  ·unfold sel;rw [NK,e];simp [List.getD,e1]
  ·have e2:(pss.map br).getD j .none=br pss[j]:=by simp [List.getD,e1]
   rw [<-e2];exact hd
theorem Ij {m:Nat} (hm:m<3):eqV (([.str "number",.str "name",.str "any"]:List V).getD m .non) (.str (bq m))=true:=by
 match m,hm with
 | 0,_=>decide +kernel
 | 1,_=>decide +kernel
 | 2,_=>decide +kernel
theorem Ka {m:Nat} (hm:m<3):∀ i,i<m->eqV (([.str "number",.str "name",.str "any"]:List V).getD i .non) (.str (bq m))=false:=by
 match m,hm with
 | 0,_=>intro i hi;lia
 | 1,_=>
  intro i hi;have:i=0:=by lia
  subst this;decide +kernel
 | 2,_=>
  intro i hi;have:i=0\/i=1:=by lia
  rcases this with rfl | rfl <;> decide +kernel
theorem Fm:([.str "number",.str "name",.str "any"]:List V).all fX=true:=rfl
theorem Hx {K:PySem.W.Frag}{H H0 H':Hp} (s1:ae H H0) (s2:ae H H') {v:V}{pt:Pt} (h:Den K H v pt.dat):Den K (lim H0 H') v pt.dat:=by
 cases pt with
 | word w=>obtain ⟨a,rfl,hq,q1,q2⟩:=lB h;exact .tup (hq.lim s1 s2) (.cons (.str q1) (.cons (.str q2) .nil))
 | hole k=>obtain ⟨a,rfl,hq,q1,q2⟩:=lB h;exact .tup (hq.lim s1 s2) (.cons (.str q1) (.cons (.str q2) .nil))
theorem pY {K:PySem.W.Frag}{H H0 H':Hp} (s1:ae H H0) (s2:ae H H'):∀ {ps:List Pt}{xs:List V},aB K H xs (ps.map Pt.dat)->aB K (lim H0 H') xs (ps.map Pt.dat)
 | [],_,h=>by cases h;exact .nil
 | pt::r,_,h=>by
  cases h with
  | cons h1 t=>exact .cons (Hx s1 s2 h1) (pY s1 s2 t)
def looseD (ps:List Pt):PyData:=.list (ps.map λp=>.int p.loose)
theorem oe {K:PySem.W.Frag}{H:Hp}:∀ {ps:List Pt},aB K H (ps.map λp=>V.int p.loose) (ps.map λp=>PyData.int p.loose)
 | []=>.nil
 | p::r=>.cons (.int _) oe
theorem c8 (ps:List Pt):(Sh.list .int).has (looseD ps):=by
 refine ⟨_,rfl,λx hx=>?_⟩;obtain ⟨p,_,rfl⟩:=NJ.mp hx;exact ⟨_,rfl⟩
theorem tW (ps:List Pt):(looseD ps).depth<=100:=by
 have h:PyData.depthAll (ps.map λp=>PyData.int p.loose)<=0:=bE _ λd hd=>by
  obtain ⟨p,_,rfl⟩:=NJ.mp hd;exact NH _
 simp only [looseD,PyData.depth];lia
def t8 (l:List (List Pt)) (ps:List Pt):Prop:=ps∈l/\∀ q∈l,ltv (looseD q) (looseD ps)=false/\(looseD q=looseD ps->ltv (fm q) (fm ps)=false)
theorem vt {l l':List (List Pt)}{p q:List Pt} (h:t8 l p) (h':t8 l' q) (he:∀ x,x∈l↔x∈l'):p=q:=by
 have h1:=h.2 q ((he q).mpr h'.1);have h2:=h'.2 p ((he p).mp h.1);have e:=(Sh.ok (.list .int)).tot _ _ (c8 p) (c8 q) h2.1 h1.1;exact xk ((Sh.ok (.bg .int xv)).tot _ _ (rl p) (rl q) (h2.2 e) (h1.2 e.symm))
theorem Dy {l:List (List Pt)} (hl:l≠[]) (ho:qM l):∃ ps,l[bb (l.map looseD)]? = some ps/\t8 l ps:=by
 obtain ⟨d,hd,h1,h2⟩:=jv (Sh.ok (.list .int)) (all:=l.map looseD) (λd hd=>by obtain ⟨ps,_,rfl⟩:=NJ.mp hd;exact c8 ps) (by intro z;exact hl (Ol.mp z));rw [NK] at hd;cases e:l[bb (l.map looseD)]? with
 | none=>rw [e] at hd;cases hd
 | some ps=>
  rw [e] at hd;cases hd;refine ⟨ps,rfl,NF e,λq hq=>?_⟩;obtain ⟨m,hm⟩:=OR hq;have hm':(l.map looseD)[m]? = some (looseD q):=by rw [NK,hm];rfl
  refine ⟨h1 m _ hm',λheq=>?_⟩;rcases Nat.lt_trichotomy m (bb (l.map looseD)) with z | z | z
  ·have:=h2 m _ z hm';rw [heq,(Sh.ok (.list .int)).irr _ (c8 ps)] at this;cases this
  ·rw [z,e] at hm;cases hm;exact (Sh.ok (.bg .int xv)).irr _ (rl _)
  ·have hlt:m<l.length:=aG hm;have JT:bb (l.map looseD)<l.length:=aG e;have:=Pp.mp ho _ m JT hlt z;rw [NG hlt] at hm;rw [NG JT] at e;cases hm;cases e;exact this
def f6 (z:Str) (ps:List Pt):Bool:=aM ps (Txt.split z " ")
def Cg (K:PySem.W.Frag) (H H':Hp) (l:List (List Pt)) (r:V):Prop:=(l=[]/\r = .non)\/∃ (t:Addr) (ys:List V) (ps:List Pt),r = .ref t/\H t=none/\H' t=some (.lst ys)/\t8 l ps/\Den K (lim H H') r (br ps)
def kU (K:PySem.W.Frag):Sp:=λvs H Q _=>∃ (z:Str) (a:Addr) (xs:List V) (pss:List (List Pt)),vs=[.str z,.ref a]/\SqL K H a xs/\xs.length<64/\aB K H xs (pss.map br)/\(∀ ps∈pss,POk ps)/\LOk z/\PyData.strOk z=true /\
 ∀ r H',ae H H'->Cg K H H' (pss.filter (f6 z)) r->Q r H'
end LG
namespace LG
open PySem L2 PySem.Builtin PySem.Builtin.Str
def Dk (H:Hp) (d:Addr) (n:Nat):Prop:=∃ a b c:Int,H d=some (.lst [.int a,.int b,.int c])/\0<=a/\0<=b/\b<2147483579/\0<=c/\c<=n
theorem Dk.mono {H:Hp}{d:Addr}{n m:Nat} (h:Dk H d n) (hm:n<=m):Dk H d m:=by
 obtain ⟨a,b,c,h1,h2,h3,h4,h5,h6⟩:=h;exact ⟨a,b,c,h1,h2,h3,h4,h5,by lia⟩
theorem Dk.lst {H:Hp}{d:Addr}{n:Nat} (h:Dk H d n):∃ ys,H d=some (.lst ys):=by
 obtain ⟨a,b,c,h1,_⟩:=h;exact ⟨_,h1⟩
theorem Dk.same {H H':Hp}{d:Addr}{n:Nat} (h:Dk H d n) (s:ae H H'):Dk H' d n:=by
 obtain ⟨a,b,c,h1,h2⟩:=h;exact ⟨a,b,c,s _ _ h1,h2⟩
theorem Dk.upd {H:Hp}{d D:Addr}{n:Nat}{o:HO} (h:Dk H d n) (hne:d≠D):Dk (upd H D o) d n:=by
 obtain ⟨a,b,c,h1,h2⟩:=h;exact ⟨a,b,c,by rw [aw hne];exact h1,h2⟩
theorem Dk.ne {H:Hp}{d p:Addr}{n:Nat} (h:Dk H d n) (hp:H p=none):d≠p:=by
 obtain ⟨ys,h1⟩:=h.lst;exact ao h1 hp
theorem Dk.free {H H':Hp}{d p:Addr}{n:Nat} (h:Dk H' d n) (s:ae (wo d H) H') (hp:H' p=none):H p=none:=by
 have h1:(wo d H) p=none:=s.free hp
 rwa [aS (h.ne hp).symm] at h1
theorem bT {H H':Hp}{d p:Addr}{o:HO} (s:ae (wo d H) H') (h:H p=some o) (hne:d≠p):H' p=some o:=s p o (by rw [aS (Ne.symm hne)];exact h)
theorem oW {H H3 H4:Hp}{d:Addr}{ys:List V} (h:H d=some (.lst ys)) (s:ae (wo d H3) H4):ae (lim H H3) (lim H H4):=λb o e=>by
 have h1:=pO e;have hb:b≠d:=λq=>by subst q;exact h1 _ h
 rw [i7 h1];exact s b o (by rw [aS hb];exact bt b o e)
theorem mX {l:List Str}{r:Int} (h0:0<=r) (h1:r<l.length):∃ x∈l,atI (l.map V.str) r=some (.str x):=by
 obtain ⟨j,rfl⟩:=Pg (h0:(0:Int)<=r);have hj:j<l.length:=by lia
 exact ⟨l[j],Ov hj,bo (by rw [NK,NG hj];rfl)⟩
theorem Fz {z:Str}{r:Int} (h0:0<=r) (h1:r<z.length):∃ (c i:Nat),atI z.cps.toList r=some c/\z.cps[i]? = some c:=by
 obtain ⟨j,rfl⟩:=Pg (h0:(0:Int)<=r);have hj:j<z.cps.size:=by have:z.length=z.cps.size:=rfl;lia
 exact ⟨z.cps[j],j,bo (by rw [Oz,Oj hj]),Oj hj⟩
theorem Iz {n:Nat}{i:Int} (h0:0<=i) (h1:i<n):ixN n i=some i.toNat:=by
 unfold ixN;rw [if_pos h0,if_pos h1]
theorem kZ {xs:List V}{i:Int} (h:0<=i):qH xs none (some i)=xs.take i.toNat:=by
 unfold qH;have h1:HT.sIx xs.length 0 none=0:=by simp [HT.sIx]
 rw [h1];obtain ⟨j,rfl⟩:=Pg (h:(0:Int)<=i);rw [HT.FC,OG,List.drop_zero,Nat.sub_zero];rcases Nat.le_total j xs.length with q | q
 ·rw [Pz q]
 ·rw [Nat.min_eq_right q,NI (NH _),NI q]
structure WOk (w:Str):Prop where
 word:d5 w=true
 len:w.length<=5
 ok:PyData.strOk w=true
theorem C6:sgn 32=false:=by decide
theorem WOk.blank {w:Str} (h:WOk w):32∉w.cps.toList:=λq=>by
 have h1:=h.word;unfold d5 cB at h1;rw [Om,Od] at h1;have:=h1.2 32 q;rw [C6] at this;cases this
theorem WOk.ne {w:Str} (h:WOk w):w.cps.toList≠[]:=λq=>by
 have h1:=h.word;unfold d5 cB at h1;rw [q] at h1;cases h1
def yZ:List Str:=["get","put","a"]
def zg:List Str:=["0","7","12","-3","007"]
def yl:List Str:=["id=4","<any>","=","x1","-","A","<","none"]
def yY:List Str:=["abcdefghijklmnopqrstuvwxyz","0123456789","-09az","!\"#$&'()*+,-./:;<=>?@AZ[\\]^_{|}~"]
theorem w1:∀ x∈yZ,d5 x=true/\x.length<=5/\PyData.strOk x=true:=by decide +kernel
theorem w2:∀ x∈zg,d5 x=true/\x.length<=5/\PyData.strOk x=true:=by decide +kernel
theorem w3:∀ x∈yl,d5 x=true/\x.length<=5/\PyData.strOk x=true:=by decide +kernel
theorem w4:∀ x∈yY,PyData.strOk x=true/\x.length<=100/\0<x.length/\x.cps.toList.all sgn=true:=by decide +kernel
theorem DW {p:Nat->Prop}{y:Str} (hy:∀ c∈y.cps,p c):∀ (xs:List Str) (acc:Array Nat),(∀ x∈xs,∀ c∈x.cps,p c)->(∀ c∈acc,p c)->(∀ c∈xs.foldl (λacc q=>acc++y.cps++q.cps) acc,p c)/\acc.size<=(xs.foldl (λacc q=>acc++y.cps++q.cps) acc).size
 | [],acc,_,h=>⟨h,NH _⟩
 | x::r,acc,hx,h=>by
  have ih:=DW hy r (acc++y.cps++x.cps) (λz hz=>hx z (NN _ hz)) λc hc=>by
   rcases Array.mem_append.mp hc with hc | hc
   ·rcases Array.mem_append.mp hc with hc | hc
    ·exact h c hc
    ·exact hy c hc
   ·exact hx x (NT ..) c hc
  refine ⟨ih.1,NM ?_ ih.2⟩;rw [Array.size_append,Array.size_append];lia
theorem Bh {l:List Str} (hn:1<=l.length) (hl:l.length<=4) (h:∀ y∈l,PyData.strOk y=true/\y.length<=1/\∃ c,y=⟨#[c]⟩/\sgn c=true):WOk (Txt.join "" l):=by
 have hj:=zw (y:= "") (m:=1) (by decide +kernel) (λy hy=>⟨(h y hy).1,(h y hy).2.1⟩);have h0:(("" : Str)).length=0:=rfl;rw [h0] at hj;refine ⟨?_,by lia,hj.1⟩;cases l with
 | nil=>simp at hn
 | cons x r=>
  have hx:=h x (NT ..);obtain ⟨c,hxc,hsc⟩:=hx.2.2;have hp:=DW (p:=λc=>sgn c=true) (y:= "") (λc hc=>by rw [show (Str.ofString "").cps = #[] from rfl] at hc;simp at hc) r x.cps (λy hy c hc=>by
   obtain ⟨c',rfl,h'⟩:=(h y (NN _ hy)).2.2;simp at hc;subst hc;exact h') (λc hc=>by
   subst hxc;simp at hc;subst hc;exact hsc)
  have e:(Txt.join "" (x::r)).cps=r.foldl (λacc q=>acc++(("" : Str)).cps++q.cps) x.cps:=rfl;unfold d5 cB;rw [e,Om];constructor
  ·have hs:1<=(r.foldl (λacc q=>acc++(("" : Str)).cps++q.cps) x.cps).size:=NM (by subst hxc;simp) hp.2;cases q:(r.foldl (λacc q=>acc++(("" : Str)).cps++q.cps) x.cps).toList with
   | nil=>rw [<-N2,q] at hs;simp at hs
   | cons a b=>rfl
  ·rw [Od];intro c hc;exact hp.1 c (by simpa using hc)
def nD (K:PySem.W.Frag):Sp:=λvs H Q _=>∃ c:Int,vs=[.int c,.int 0]/\∀ d H',H d=none->ae H H'->Dk H' d 0->Q (.ref d) H'
def dw (K:PySem.W.Frag):Sp:=λvs H Q _=>∃ (d:Addr) (m:Int) (n:Nat),vs=[.ref d,.int m]/\Dk H d n/\n<1000000/\0<m/\m<1000000/\∀ (r:Int) H',ae (wo d H) H'->Dk H' d (n+1)->0<=r->r<m->Q (.int r) H'
def gj (K:PySem.W.Frag):Sp:=λvs H Q _=>∃ z:Str,vs=[.str z]/\TOk z/\∀ H',ae H H'->Q (.str (eJ (bZ z.cps.toList))) H'
def je (K:PySem.W.Frag):Sp:=λvs H Q _=>∃ (d:Addr) (n:Nat),vs=[.ref d]/\Dk H d n/\n<900000/\∀ (x:Str) H',ae (wo d H) H'->Dk H' d (n+6)->WOk x->Q (.str x) H'
structure jV (m:Nat) (x:Str) (ws:List Str):Prop where
 eq:x=Txt.join " " ws
 pos:1<=ws.length
 le:ws.length<=m
 wd:∀ w∈ws,WOk w
theorem jV.split {m:Nat}{x:Str}{ws:List Str} (h:jV m x ws):Txt.split x " " = ws:=by
 rw [h.eq];exact yo (by intro e;have:=h.pos;rw [e] at this;simp at this) λw hw=>(h.wd w hw).blank
theorem jV.ok {m:Nat}{x:Str}{ws:List Str} (h:jV m x ws) (hm:m<=12):PyData.strOk x=true/\x.length<=72:=by
 have hj:=zw (y:= " ") (m:=5) (by decide +kernel) (λy hy=>⟨(h.wd y hy).ok,(h.wd y hy).len⟩);have h1:((" " : Str)).length=1:=rfl;rw [h1,<-h.eq] at hj;have:=h.le;exact ⟨hj.1,by lia⟩
def jD (K:PySem.W.Frag):Sp:=λvs H Q _=>∃ (d:Addr) (m:Int) (n:Nat),vs=[.ref d,.int m]/\Dk H d n/\n<800000/\0<m/\m<13/\∀ (x:Str) (ws:List Str) H',ae (wo d H) H'->Dk H' d (n+80)->jV m.toNat x ws->Q (.str x) H'
def Drawn (w:Str) (p:Pt):Prop:=p = .word w\/(p = .hole (bZ w.cps.toList)/\bZ w.cps.toList<2)\/p = .hole 2
def lh (ws:List Str) (ps:List Pt):Prop:=ps.length=ws.length/\∀ (i:Nat) w p,ws[i]? = some w->ps[i]? = some p->Drawn w p
def j5 (K:PySem.W.Frag):Sp:=λvs H Q _=>∃ (d:Addr) (z:Str) (n:Nat),vs=[.ref d,.str z]/\Dk H d n/\n<800000/\z.length<=9000/\PyData.strOk z=true /\
 ∀ F H' ps,H F=none->ae (wo d H) H'->Dk H' d (n+(z.length+2))->POk ps->lh (Txt.split z " ") ps->(∃ ys,H' F=some (.lst ys))->Den K (lim H H') (.ref F) (br ps)->Q (.ref F) H'
end LG
namespace LG
open PySem L2
def mz (K:PySem.W.Frag) (H:Hp) (d:Addr) (z:Str) (F L:Addr) (n i:Nat) (σ:St) (H3:Hp):Prop:=
 (∃ u1 u2 u3,σ=[some (.ref d),some (.str z),some (.ref F),u1,u2,u3])/\ae (wo d H) H3/\Dk H3 d (n+i)/\H3 L=some (.lst ((Txt.split z " ").map V.str)) /\
 ∃ (acc:List V) (ps:List Pt),H3 F=some (.lst acc)/\ps.length=i/\(∀ p∈ps,Pt.ok p)/\(∀ (j:Nat) w p,(Txt.split z " ")[j]? = some w->ps[j]? = some p->Drawn w p)/\aB K (lim (upd H F (.lst [])) H3) acc (ps.map Pt.dat)
theorem mz.step {K:PySem.W.Frag}{H H5:Hp}{d F L t:Addr}{z a b wd:Str}{acc:List V}{n i:Nat}{σ:St}{ps:List Pt}{pt:Pt} (hdF:d≠F) (hFL:F≠L) (hF:H F=none)
  (hσ:∃ u1 u2 u3,σ=[some (.ref d),some (.str z),some (.ref F),u1,u2,u3]) (s5:ae (wo d H) H5) (dk5:Dk H5 d (n+(i+1))) (hL:H5 L=some (.lst ((Txt.split z " ").map V.str))) (hF5:H5 F=some (.lst acc)) (hps:ps.length=i) (hok:∀ p∈ps,Pt.ok p)
  (hdr:∀ (j:Nat) w p,(Txt.split z " ")[j]? = some w->ps[j]? = some p->Drawn w p) (dn:aB K (lim (upd H F (.lst [])) H5) acc (ps.map Pt.dat)) (hw:(Txt.split z " ")[i]? = some wd) (hd:Drawn wd pt) (e:pt.dat = .tuple [.str a,.str b]) (hpt:pt.ok) (ha:PyData.strOk a=true) (hb:PyData.strOk b=true) (ht:H5 t=none) :
  mz K H d z F L n (i+1) σ (upd (upd H5 t (.tup [.str a,.str b])) F (.lst (acc++[.ref t]))):=by
 have hFt:F≠t:=ao hF5 ht;have hLt:L≠t:=ao hL ht;have st:ae H5 (upd H5 t (.tup [.str a,.str b])):=ae.new ht;refine ⟨hσ,ar (by rw [aS hdF.symm];exact hF) (s5.trans st),(dk5.same st).upd hdF,by rw [aw hFL.symm];exact st _ _ hL,acc++[.ref t],ps++[pt],ab,by simp [hps],λp hp=>?_,λj w p hj hp=>?_,?_⟩
 ·(rcases Oa.mp hp with hp | hp)
  ·exact hok p hp
  ·simp only [NQ] at hp;subst hp;exact hpt
 ·rcases Nat.lt_trichotomy j ps.length with q | q | q
  ·rw [O7 q] at hp;exact hdr j w p hj hp
  ·subst q;rw [O5 (NH _)] at hp;simp at hp;subst hp;rw [hps,hw] at hj;cases hj;exact hd
  ·rw [Ou (by rw [NX,OF];lia)] at hp;cases hp
 ·rw [dA (ys:=[]) ab,NS];refine (dn.same (bF st)).append (.cons ?_ .nil);have hn:(upd H F (.lst [])) t=none:=by rw [aw hFt.symm];exact dk5.free s5 ht
  rw [e];exact .tup (.of ((bQ hn).trans ab)) (.cons (.str ha) (.cons (.str hb) .nil))
theorem yP (l:List Nat):bZ l<3:=by
 unfold bZ
 split
 ·decide
 ·split <;> decide
theorem AJ {k:Nat} (hk:k<3):decide (V.str (eJ k)=V.str "other")=decide (k=2):=by
 match k,hk with
 | 0,_=>decide +kernel
 | 1,_=>decide +kernel
 | 2,_=>decide +kernel
theorem E3 {k:Nat} (hk:k<2):eJ k=bq k:=by
 match k,hk with
 | 0,_=>rfl
 | 1,_=>rfl
structure wL (ws:List Str):Prop where
 pos:1<=ws.length
 le:ws.length<=12
 wd:∀ w∈ws,WOk w
theorem wL.line {ws:List Str} (h:wL ws):jV 12 (Txt.join " " ws) ws:=⟨rfl,h.pos,h.le,h.wd⟩
def l8 (K:PySem.W.Frag):Sp:=λvs H Q _=>∃ (d:Addr) (m:Int) (n:Nat),vs=[.ref d,.int m]/\Dk H d n/\n<700000/\0<=m/\m<=60 /\
 ∀ D (ls:List Str) H',H D=none->ae (wo d H) H'->Dk H' d (n+2000)->H' D=some (.lst (ls.map V.str))->(∀ x∈ls,∃ ws,jV 12 x ws)->ls.length<=m.toNat->Q (.ref D) H'
def Ib (Hs:Hp) (acc:List V):Prop:=∀ x∈acc,∃ (s:Addr) (ws:List Str),x = .ref s/\Hs s=some (.lst (ws.map V.str))/\wL ws
theorem F5 {r:Int} (h0:0<=r) (h1:r<3):∃ v:Int,atI [V.int 3,V.int 6,V.int 12] r=some (.int v)/\0<v/\v<13:=by
 have:r=0\/r=1\/r=2:=by lia
 rcases this with rfl | rfl | rfl
 ·exact ⟨3,rfl,by decide,by decide⟩
 ·exact ⟨6,rfl,by decide,by decide⟩
 ·exact ⟨12,rfl,by decide,by decide⟩
theorem wL.set {ws:List Str} (h:wL ws) {i:Nat}{x:Str} (hx:WOk x):wL (ws.set i x):=by
 refine ⟨by rw [List.length_set];exact h.pos,by rw [List.length_set];exact h.le,λw hw=>?_⟩;rcases List.mem_or_eq_of_mem_set hw with q | q
 ·exact h.wd w q
 ·rw [q];exact hx
end LG
namespace L2
open PySem PySem.Spec PyProof.Rows
theorem zM (kf:Nat->Int):∀ k,argBest (λi j=>decide (kf i<kf j)) k<=k/\∀ j,j<=k->kf (argBest (λi j=>decide (kf i<kf j)) k)<=kf j
 | 0=>⟨NH _,λj hj=>by rw [show j=0 by lia];exact Int.le_refl _⟩
 | k+1=>by
  obtain ⟨h1,h2⟩:=zM kf k;unfold argBest;by_cases h:kf (k+1)<kf (argBest (λi j=>decide (kf i<kf j)) k)
  ·rw [if_pos (decide_eq_true h)]
   (refine ⟨NH _,λj hj=>?_⟩)
   rcases Oi j (k+1) with q | q
   ·(have:=h2 j (by lia);lia)
   ·(have:j=k+1:=by lia)
    (subst this;exact (Int.le_refl _))
  ·rw [if_neg (by rw [decide_eq_true_eq];exact h)];refine ⟨Nat.le_succ_of_le h1,λj hj=>?_⟩;rcases Oi j (k+1) with q | q
   ·exact h2 j (by lia)
   ·(have:j=k+1:=by lia)
    subst this;lia
section
variable {X:Cx}
def GJ (K:PySem.W.Frag):List V->Hp->VK->Prop:=λxs H Q=>∃ (p:Addr) (ns:List Int),xs=[.ref p]/\SqL K H p (ns.map V.int)/\ns≠[]/\∀ m,m∈ns->(∀ x∈ns,m<=x)->Q (.int m) H
theorem int_at {ns:List Int}{its:List Value} (r:aY (ns.map V.int) its) {i:Nat}{v:Value} (h:its.toArray[i]? = some v):∃ t,v = .int (ns.getD i 0) t:=by
 have h':its[i]? = some v:=by simpa using h
 have hl:=r.length;have hi:i<(ns.map V.int).length:=by rw [hl];exact aG h'
 obtain ⟨u,hu,ru⟩:=r.get (NG hi);rw [h'] at hu;cases hu;rw [NE] at hi;simp only [List.getElem_map] at ru;obtain ⟨t,e⟩:=ru;refine ⟨t,?_⟩;rw [e];simp [List.getD,NG hi]
theorem getD_mem {ns:List Int}{i:Nat} (h:i<ns.length):ns.getD i 0∈ns:=by simp [List.getD,NG h]
theorem AY (hc:X.calm=true):fZ X (.builtin "min") (GJ X.K):=by
 intro pins s σ H xs us Q I r h;obtain ⟨p,ns,rfl,hq,hne,q⟩:=h;obtain ⟨u,rfl,rx⟩:=vals1 r;cases rx;obtain ⟨its,r',pl,hz⟩:=I.list hq;have hlen:ns.length=its.length:=by have:=r'.length;simpa using this
 have CC:0<ns.length:=ON.mpr hne;have hpl:p<s.heap.objs.size:=by obtain ⟨_,e,_⟩:=pl.isList;exact Heap.lt_size e
 have hp:p≠s.heap.objs.size:=N3 hpl;refine call_min_walk (wpAny_pyIter_list pl.isList ?_);refine ⟨s.heap.objs.size,_,_,_,_,_,λi j=>decide (ns.getD i 0<ns.getD j 0),rfl,Walks.list (A:=X.A.in1) (show X.A.in1.handled=none from I.ok.hd hc) s.heap.objs.size p hp its.toArray,⟨⟨_,Heap.get?_push_size _ rfl,rfl,rfl⟩,pl.isList.push _⟩,λb hb=>?_,by rw [NO];lia,CmpOf.ints_lt (λi=>ns.getD i 0) (λi v hv=>int_at r' hv),λv h' tk hv hk=>?_⟩
 ·rw [size_push'];rcases NZ.mp hb with z | z
  ·rw [z];exact O1 _
  ·rw [show b=p by simpa using z];exact O8 hpl
 ·obtain ⟨t,rfl⟩:=int_at r' hv;have hb:=zM (λi=>ns.getD i 0) (its.toArray.size - 1);rw [NO] at hb;refine ⟨.int _,H,I.kept (t':=tk) λb o e=>hk b o (λhb=>?_) (Heap.get?_push_of_some _ e),⟨t,rfl⟩,q _ (getD_mem (by rw [NO];have:=hb.1;lia)) λx hx=>?_⟩
  ·simp only [NQ] at hb;exact absurd (Heap.lt_size e) (by rw [hb];exact Oy _)
  ·obtain ⟨i,hi,rfl⟩:=Pn.mp hx;have:=hb.2 i (by lia);simp only [List.getD,NG hi,Option.getD_some] at this;rw [NO];exact this
end
section
open PySem.SeqAt
open PySem.AutoSeq1 (wpAny_loadPart')
open PySem.MeetsSeq PySem.MeetsSeq2 PySem.MeetsSeq3
end
section
open PySem.SeqAt
open PySem.MeetsSeq PySem.MeetsSeq2 PySem.MeetsSeq3
variable {X:Cx}
end
section
variable {X:Cx}
end
end L2
namespace LG
open PySem L2
structure xK (ws:List Str) (ps:List Pt):Prop where
 ok:POk ps
 len:ps.length=ws.length
 takes:∀ (i:Nat) w p,ws[i]? = some w->ps[i]? = some p->p.takes w=true
theorem xK.all {ws:List Str}{ps:List Pt} (h:xK ws ps):aM ps ws=true:=by
 unfold aM;rw [decide_eq_true h.len,Pd];exact Aa λi p w _ hp hw=>h.takes i w p hw hp
theorem xB {w:Str}{p:Pt} (hw:WOk w) (h:Drawn w p):p.takes w=true:=by
 rcases h with rfl | ⟨rfl,hk⟩ | rfl
 ·exact decide_eq_true rfl
 ·have e:bZ w.cps.toList=bD w:=mm hw.ne;rw [e] at hk ⊢;have:bD w=0\/bD w=1:=by lia
  rcases this with q | q
  ·rw [q];exact decide_eq_true q
  ·rw [q];exact decide_eq_true q
 ·exact hw.word
theorem xK.drawn {ws:List Str}{ps:List Pt} (hok:POk ps) (hw:∀ w∈ws,WOk w) (h:lh ws ps):xK ws ps:=
 ⟨hok,h.1,λi w p hi hp=>xB (hw w (NF hi)) (h.2 i w p hi hp)⟩
theorem xZ:∀ {ps qs:List Pt},(∀ p∈ps,p.ok)->(∀ p∈qs,p.ok)->ps.map Pt.dat=qs.map Pt.dat->ps=qs
 | [],[],_,_,_=>rfl
 | [],_::_,_,_,h=>by simp at h
 | _::_,[],_,_,h=>by simp at h
 | p::r,q::t,hp,hq,h=>by
  rw [N1,N1] at h;injection h with h1 h2;rw [zF (hp p (NT ..)) (hq q (NT ..)) h1,xZ (λx hx=>hp x (NN _ hx)) (λx hx=>hq x (NN _ hx)) h2]
theorem El (ps:List Pt):(Sh.list FH).has (br ps):=by
 refine ⟨_,rfl,λx hx=>?_⟩;obtain ⟨pt,_,rfl⟩:=NJ.mp hx;exact Cq pt
theorem EE {ps qs:List Pt} (hp:∀ p∈ps,p.ok) (hq:∀ p∈qs,p.ok):PyData.eqv (br ps) (br qs)=decide (ps=qs):=by
 rw [N7,decide_eq_true_eq,(Sh.ok (.list FH)).eqv _ _ (El ps) (El qs)];constructor
 ·intro h;simp only [br,PyData.list.injEq] at h;exact xZ hp hq h
 ·rintro rfl;rfl
section
variable {K:PySem.W.Frag}{H0 H H':Hp}{d S:Addr}{ws:List Str}{n n' m:Nat}{xs:List V}{pss:List (List Pt)}
end
end LG
namespace L2
open PySem PySem.Spec PyProof.Rows PySem.MeetsSeq PySem.MeetsSeq2 PySem.MeetsSeq3
section
variable {X:Cx}
def vV (K:PySem.W.Frag):R2:=λx y H Q=>∃ l b xs zs,x = .ref l/\y = .ref b/\SqL K H l xs/\SqL K H b zs/\xs.length+zs.length<=sizeLine/\∀ p,H p=none->Q (.ref p) (upd H p (.lst (xs++zs)))
theorem pX:OpR X (binaryOp .Add) (vV X.K):=by
 intro pins s σ H x y v u Q I rx ry h;obtain ⟨l,b,xs,zs,rfl,rfl,hl,hb,hz,q⟩:=h;cases rx;cases ry;obtain ⟨its,r,pl,h1⟩:=I.list hl;obtain ⟨jts,r2,pl2,h2⟩:=I.list hb;have l1:=r.length;have l2:=r2.length;obtain ⟨⟨cls,dd,data,sl⟩,n,ho,hc,_,hd⟩:=pl;obtain ⟨⟨JA,dd2,data2,sl2⟩,n2,ho2,hc2,_,hd2⟩:=pl2;simp only at hc hd hc2 hd2;subst hc hd hc2 hd2;have ea:its.toArray++jts.toArray=(its++jts).toArray:=by simp
 refine concat_meets ⟨_,ho,rfl⟩ ⟨_,ho2,rfl⟩ noFill_list_add seq_list_add PySem.F.slot_list_add PySem.F.entry_list_add (PySem.F.args_list_add_2 _ _) (list_addW l b its.toArray jts.toArray n n2 dd dd2 sl sl2 (by simp;lia)) ⟨ho,ho2,?_⟩;rw [ea];exact ⟨.ref _,_,I.LZ (t':=s.toks) (r.append r2) (by rw [NX];lia),rfl,q _ I.fresh⟩
end
end L2
namespace LG
open PySem L2
def uK (K:PySem.W.Frag):Sp:=λvs H Q _=>∃ (a:Addr) (ns:List Int),vs=[.ref a]/\SqL K H a (ns.map V.int)/\ns.length<=63/\∀ H',Q (.bl true) H'
def oD:Option (List Pt)->PyData
 | none=>.none
 | some ps=>br ps
structure yh (l:List (List Pt)) (o:Option (List Pt)):Prop where
 nil:o=none↔l=[]
 least:∀ ps,o=some ps->t8 l ps
theorem zz {K:PySem.W.Frag}{H H':Hp}{l:List (List Pt)}{r:V} (h:Cg K H H' l r):∃ o,Den K H' r (oD o)/\yh l o/\decide (r = .non)=o.isNone:=by
 rcases h with ⟨hl,rfl⟩ | ⟨t,ys,ps,rfl,_,_,hls,hd⟩
 ·exact ⟨none,.non,⟨⟨λ_=>hl,λ_=>rfl⟩,λps h=>by cases h⟩,by simp⟩
 ·refine ⟨some ps,hd.same bt,⟨⟨(λh=>by cases h),λh=>?_⟩,(λqs h=>by cases h;exact hls)⟩,by simp⟩;have:=hls.1;rw [h] at this;cases this
theorem si {l l':List (List Pt)}{o o':Option (List Pt)} (h:yh l o) (h':yh l' o') (he:∀ x,x∈l↔x∈l'):o=o':=by
 cases o with
 | none=>
  have hl:=h.nil.mp rfl;cases o' with
  | none=>rfl
  | some ps=>
   have:=(he ps).mpr (h'.least ps rfl).1;rw [hl] at this;cases this
 | some ps=>
  cases o' with
  | none=>
   have hl:=h'.nil.mp rfl;have:=(he ps).mp (h.least ps rfl).1;rw [hl] at this;cases this
  | some qs=>rw [vt (h.least ps rfl) (h'.least qs rfl) he]
def OOk:Option (List Pt)->Prop
 | none=>True
 | some ps=>∀ p∈ps,p.ok
theorem Kx {o o':Option (List Pt)} (h:OOk o) (h':OOk o'):PyData.eqv (oD o) (oD o')=decide (o=o'):=by
 cases o with
 | none=>
  cases o' with
  | none=>rfl
  | some qs=>rfl
 | some ps=>
  cases o' with
  | none=>rfl
  | some qs=>
   show PyData.eqv (br ps) (br qs)=_;rw [EE h h',N7];simp
theorem HN (o:Option (List Pt)):(oD o).depth<=100:=by
 cases o with
 | none=>exact NW _
 | some ps=>exact NM (kQ ps) (by decide)
theorem kN (pss:List (List Pt)):(PyData.list (pss.map br)).depth<=100:=by
 have h:PyData.depthAll (pss.map br)<=90:=bE _ λd hd=>by
  obtain ⟨ps,_,rfl⟩:=NJ.mp hd;exact kQ ps
 simp only [PyData.depth];lia
end LG
namespace L2
open PySem PySem.Spec PyProof.Rows
section
variable {prog:Program}{w:World}{A:Around}{E:Value->Shared->Prop}{s:Shared}
end
section
variable {X:Cx}{tg:Expr}
end
section
variable {X:Cx}{elt tg iter tg2 M9:Expr}{ifs Nm:List Expr}{scope:Scope}{pos:Pos}
end
end L2
namespace L2
open PySem PySem.Spec PyProof.Rows PySem.W
section
variable {X:Cx}{pins:List (Addr×Obj)}{σ:St}{H:Hp}{s:Shared}
end
section
variable {X:Cx}
end
end L2
namespace LG
open PySem L2 PySem.Builtin PySem.Builtin.Str
def PtW:Pt->Prop
 | .word w=>d5 w=true/\w.length<=500/\PyData.strOk w=true
 | .hole k=>k<3
def PW (ps:List Pt):Prop:=∀ p∈ps,PtW p
def Words (ws:List Str):Prop:=∀ w∈ws,d5 w=true
def uB (pss:List (List Pt)) (ws:List Str):Bool:=pss.any λps=>aM ps ws
def qY (ps:List Pt) (oss:List (List Pt)):Bool:=oss.any λos=>tu ps os
theorem PtW.ok {p:Pt} (h:PtW p):p.ok:=by
 cases p with
 | word w=>exact ⟨NM h.2.1 (by decide),h.2.2⟩
 | hole k=>exact h
theorem yN {ps:List Pt}{ws:List Str} (h:aM ps ws=true):ps.length=ws.length:=by
 unfold aM at h;rw [Om,decide_eq_true_eq] at h;exact h.1
def EI (w:Str):List Pt->Bool
 | []=>false
 | p::_=>p.takes w
def lz (oss:List (List Pt)) (w:Str):List (List Pt):=(oss.filter (EI w)).map List.tail
def wkD (w:Str):PyData:=.tuple [.int w.length,.str w]
def Bq:Sh:=.bg .int (.bg .str .ix)
theorem K4 (w:Str):Bq.has (wkD w):=⟨_,_,rfl,⟨_,rfl⟩,_,_,rfl,⟨_,rfl⟩,rfl⟩
theorem IF {a b:Str} (h:wkD a=wkD b):a=b:=by
 simp only [wkD,PyData.tuple.injEq,List.cons.injEq,PyData.str.injEq] at h;exact h.2.1
def lkD (ws:List Str):PyData:=.tuple [.int ws.length,.list (ws.map wkD)]
def Km:Sh:=.bg .int (.bg (.list Bq) .ix)
theorem CH (ws:List Str):(Sh.list Bq).has (.list (ws.map wkD)):=⟨_,rfl,λx hx=>by
 obtain ⟨w,_,rfl⟩:=NJ.mp hx;exact K4 w⟩
theorem GW (ws:List Str):Km.has (lkD ws):=⟨_,_,rfl,⟨_,rfl⟩,_,_,rfl,CH ws,rfl⟩
theorem Ga {a b:List Str} (h:a.map wkD=b.map wkD):a=b:=map_inj (λx y=>IF) h
theorem Jb {a b:List Str} (h:lkD a=lkD b):a=b:=by
 simp only [lkD,PyData.tuple.injEq,List.cons.injEq,PyData.list.injEq,and_true] at h;exact Ga h.2
theorem Ei (w:Str):(wkD w).depth<=5:=by simp [wkD,PyData.depth,PyData.depthAll]
theorem Hd (ws:List Str):(lkD ws).depth<=100:=by
 have h:PyData.depthAll (ws.map wkD)<=5:=bE _ λd hd=>by
  obtain ⟨w,_,rfl⟩:=NJ.mp hd;exact Ei w
 simp only [lkD,PyData.depth,PyData.depthAll];lia
def wlt (a b:Str):Bool:=ltv (wkD a) (wkD b)
def Bd (w:Str):Prop:=w.length<=500/\PyData.strOk w=true
structure LW (k:Nat) (named:List Str) (x:Str):Prop where
 wd:d5 x=true
 kd:bD x=k
 no:x∉named
 le:∀ y,d5 y=true->bD y=k->y∉named->wlt y x=false
 bd:Bd x
def named:List Pt->List Str
 | []=>[]
 | .word w::r=>w::named r
 | .hole _::r=>named r
structure FW (p:Pt) (ps:List Pt) (oss:List (List Pt)) (w:Str):Prop where
 tk:p.takes w=true
 nd:qY ps (lz oss w)=false
 le:∀ y,p.takes y=true->qY ps (lz oss y)=false->wlt y w=false
 bd:Bd w
structure LP (ps:List Pt) (oss:List (List Pt)) (ws:List Str):Prop where
 tk:aM ps ws=true
 kn:uB oss ws=false
 le:∀ vs,aM ps vs=true->uB oss vs=false->aL (vs.map wkD) (ws.map wkD)=false
 bd:∀ w∈ws,Bd w
structure PLn (pss qss:List (List Pt)) (ws:List Str):Prop where
 pa:uB pss ws≠uB qss ws
 wd:Words ws
 bd:∀ w∈ws,Bd w
 ne:ws≠[]
 ln:ws.length<=12
 le:∀ vs,uB pss vs≠uB qss vs->ltv (lkD vs) (lkD ws)=false
structure Lw (pss qss:List (List Pt)) (L:List (List Str)):Prop where
 of:∀ ws∈L,∃ ps∈pss,LP ps qss ws
 all:∀ ps∈pss,qY ps qss=true\/∃ ws∈L,LP ps qss ws
def AU (pss:List (List Pt)):Prop:=∀ ps∈pss,PW ps/\ps≠[]/\ps.length<=12
def oY (K:PySem.W.Frag):Sp:=λvs H Q _=>∃ z:Str,vs=[.str z]/\LOk z/\PyData.strOk z=true/\∀ r H',ae H H'->Den K H' r (lkD (Txt.split z " "))->Q r H'
def lnV (ws:List Str):V:=.str (Txt.join " " ws)
def oS:Option (List Str)->V
 | none=>.non
 | some ws=>lnV ws
theorem at_of {α:Type}{l:List α}{i:Nat} (h:i<l.length):∃ x,l[i]? = some x:=⟨l[i],NG h⟩
end LG
namespace LG
open PySem L2
theorem bP {C:St->Prop}{σ:St}{f:Option V->St} (h:∃ u0,σ=f u0) (k:∀ u0,C (f u0)):C σ:=by
 obtain ⟨u0,rfl⟩:=h;exact k _
theorem su {C:St->Prop}{σ:St}{f:Option V->Option V->St} (h:∃ u0 u1,σ=f u0 u1) (k:∀ u0 u1,C (f u0 u1)):C σ:=by
 obtain ⟨u0,u1,rfl⟩:=h;exact k _ _
theorem wD {C:St->Prop}{σ:St}{f:Option V->Option V->Option V->St} (h:∃ u0 u1 u2,σ=f u0 u1 u2) (k:∀ u0 u1 u2,C (f u0 u1 u2)):C σ:=by
 obtain ⟨u0,u1,u2,rfl⟩:=h;exact k _ _ _
theorem KJ {C:St->Prop}{σ:St}{f:Option V->Option V->Option V->Option V->St} (h:∃ u0 u1 u2 u3,σ=f u0 u1 u2 u3) (k:∀ u0 u1 u2 u3,C (f u0 u1 u2 u3)):C σ:=by
 obtain ⟨u0,u1,u2,u3,rfl⟩:=h;exact k _ _ _ _
theorem KR {C:St->Prop}{σ:St}{f:Option V->Option V->Option V->Option V->Option V->Option V->St} (h:∃ u0 u1 u2 u3 u4 u5,σ=f u0 u1 u2 u3 u4 u5) (k:∀ u0 u1 u2 u3 u4 u5,C (f u0 u1 u2 u3 u4 u5)):C σ:=by
 obtain ⟨u0,u1,u2,u3,u4,u5,rfl⟩:=h;exact k _ _ _ _ _ _
theorem JK {C:St->Prop}{σ:St}{f:Option V->Option V->Option V->Option V->Option V->Option V->Option V->St} (h:∃ u0 u1 u2 u3 u4 u5 u6,σ=f u0 u1 u2 u3 u4 u5 u6) (k:∀ u0 u1 u2 u3 u4 u5 u6,C (f u0 u1 u2 u3 u4 u5 u6)):C σ:=by
 obtain ⟨u0,u1,u2,u3,u4,u5,u6,rfl⟩:=h;exact k _ _ _ _ _ _ _
theorem Gq {C:St->Prop}{σ:St}{f:Option V->Option V->Option V->Option V->Option V->Option V->Option V->Option V->Option V->St} (h:∃ u0 u1 u2 u3 u4 u5 u6 u7 u8,σ=f u0 u1 u2 u3 u4 u5 u6 u7 u8) (k:∀ u0 u1 u2 u3 u4 u5 u6 u7 u8,C (f u0 u1 u2 u3 u4 u5 u6 u7 u8)):C σ:=by
 obtain ⟨u0,u1,u2,u3,u4,u5,u6,u7,u8,rfl⟩:=h;exact k _ _ _ _ _ _ _ _ _
theorem J3 {C:St->Prop}{σ:St}{f:Option V->Option V->Option V->Option V->Option V->Option V->Option V->Option V->Option V->Option V->Option V->Option V->Option V->Option V->Option V->St} (h:∃ u0 u1 u2 u3 u4 u5 u6 u7 u8 u9 u10 u11 u12 u13 u14,σ=f u0 u1 u2 u3 u4 u5 u6 u7 u8 u9 u10 u11 u12 u13 u14) (k:∀ u0 u1 u2 u3 u4 u5 u6 u7 u8 u9 u10 u11 u12 u13 u14,C (f u0 u1 u2 u3 u4 u5 u6 u7 u8 u9 u10 u11 u12 u13 u14)):C σ:=by
 obtain ⟨u0,u1,u2,u3,u4,u5,u6,u7,u8,u9,u10,u11,u12,u13,u14,rfl⟩:=h;exact k _ _ _ _ _ _ _ _ _ _ _ _ _ _ _
end LG
namespace LG
open PySem L2 PySem.Builtin PySem.Builtin.Str
end LG
namespace LG
open PySem L2
def Pt.place:Pt->PyData
 | .word w=>.tuple [.int 0,.int w.length,.str w]
 | .hole k=>.tuple [.int (k+1),.int 0,.str ""]
def du (ps:List Pt):PyData:=.tuple [.int ps.length,.list (ps.map Pt.place)]
def iB (K:PySem.W.Frag):Sp:=λvs H Q _=>∃ v ps,vs=[v]/\Den K H v (br ps)/\POk ps/\∀ r H',ae H H'->Den K (lim H H') r (du ps)->Q r H'
def oF:List (Key×V):=[(Sum.inr "number",.int 1),(Sum.inr "name",.int 2),(Sum.inr "any",.int 3)]
theorem Co {m:Nat} (hm:m<3):dY (iN [] oF) (Sum.inr (bq m))=some (.int (m+1)):=by
 match m,hm with
 | 0,_=>decide +kernel
 | 1,_=>decide +kernel
 | 2,_=>decide +kernel
theorem Gg {x:V}{acc:List V}:atI (x::acc) 0=some x:=bo (j:=0) rfl
theorem Cp (x:V) (acc:List V):qH (x::acc) (some 1) none=acc:=by
 unfold qH;have h1:HT.sIx (x::acc).length 0 (some 1)=1:=by simp [HT.sIx]
 have h2:HT.sIx (x::acc).length (x::acc).length none=(x::acc).length:=by simp [HT.sIx]
 rw [h1,h2];simp
def jl:Sh:=.bg .int (.bg (.list vg) .ix)
theorem Jt (pt:Pt):vg.has pt.place:=by
 cases pt with
 | word w=>exact ⟨_,_,rfl,⟨_,rfl⟩,_,_,rfl,⟨_,rfl⟩,_,_,rfl,⟨_,rfl⟩,rfl⟩
 | hole k=>exact ⟨_,_,rfl,⟨_,rfl⟩,_,_,rfl,⟨_,rfl⟩,_,_,rfl,⟨_,rfl⟩,rfl⟩
theorem gJ (ps:List Pt):jl.has (du ps):=by
 refine ⟨_,_,rfl,⟨_,rfl⟩,_,_,rfl,⟨_,rfl,λx hx=>?_⟩,rfl⟩;obtain ⟨pt,_,rfl⟩:=NJ.mp hx;exact Jt pt
theorem HG (pt:Pt):pt.place.depth<=5:=by cases pt <;> simp [Pt.place,PyData.depth,PyData.depthAll]
theorem qf (ps:List Pt):(du ps).depth<=90:=by
 have h:PyData.depthAll (ps.map Pt.place)<=5:=bE _ λd hd=>by
  obtain ⟨pt,_,rfl⟩:=NJ.mp hd;exact HG pt
 simp only [du,PyData.depth,PyData.depthAll];lia
def pairD (pss:List (List Pt)) (i:Nat):PyData:=.tuple [du (pss.getD i []),.int i]
def eS (pss:List (List Pt)) (n:Nat):List PyData:=(List.range n).map (pairD pss)
theorem wa (pss:List (List Pt)) (n:Nat):eS pss (n+1)=eS pss n++[pairD pss n]:=by simp [eS,OV]
theorem nW {pss:List (List Pt)}{n i:Nat} (h:i<n):(eS pss n).getD i .none=pairD pss i:=by
 simp [eS,List.getD,NK,List.getElem?_range h]
def HE (l:List (List Pt)):Prop:=l.Pairwise λa b=>ltv (du b) (du a)=false
theorem Fo {x y:PyData}{i j:Nat} (hx:jl.has x) (hy:jl.has y) (h:ltv (.tuple [x,.int i]) (.tuple [y,.int j])=false):ltv x y=false:=by
 have o:=Sh.ok jl;by_cases e:PyData.eqv x y=true
 ·have:=(o.eqv x y hx hy).mp e;subst this;exact o.irr x hx
 ·have h2:aL [x,.int i] [y,.int j]=false:=h;rw [a7,if_neg e] at h2;exact h2
theorem uW {pss:List (List Pt)}{p:List Nat} (hp:p.Perm (List.range pss.length)) (h:dG (eS pss pss.length) p):HE (sel pss p):=by
 unfold dG at h;unfold HE sel;rw [Oq] at h ⊢;refine h.imp_of_mem λ{i j} hi hj q=>?_;have hi':i<pss.length:=Oh.mp (hp.mem_iff.mp hi);have hj':j<pss.length:=Oh.mp (hp.mem_iff.mp hj);rw [nW hi',nW hj'] at q;exact Fo (gJ _) (gJ _) q
theorem EQ {K:PySem.W.Frag}{H:Hp}{acc:List V}{pss:List (List Pt)}{p:List Nat}{i n:Nat}{x:V} (hds:aB K H acc (eS pss n)) (hp:p.Perm (List.range n)) (hx:(picked acc p)[i]? = some x) :
  ∃ j b v1,p[i]? = some j/\j<n/\x = .ref b/\SqT K H b [v1,.int j]:=by
 unfold picked at hx;rw [NK] at hx;cases e:p[i]? with
 | none=>rw [e] at hx;cases hx
 | some j=>
  rw [e] at hx;have hx':acc.getD j .non=x:=by simpa using hx
  have hj:j<n:=Oh.mp (hp.mem_iff.mp (NF e));have hd:=hds.Ag j (by simp [eS];exact hj);rw [nW hj,hx'] at hd;unfold pairD at hd;cases hd with
  | tup hq t=>
   cases t with
   | cons h1 t=>
    cases t with
    | cons h2 t=>
     cases t;cases h2;exact ⟨j,_,_,rfl,hj,rfl,hq⟩
theorem zI (i j i' j':Int) (x x':Str):ltv (.tuple [.int i,.int j,.str x]) (.tuple [.int i',.int j',.str x'])=if i=i' then (if j=j' then (if x=x' then false else decide (x.cps.toList<x'.cps.toList)) else decide (j<j')) else decide (i<i'):=by
 simp only [ltv,aL,PyData.eqv,beq_iff_eq]
theorem zQ (i j i' j':Int) (x x':Str):PyData.eqv (.tuple [.int i,.int j,.str x]) (.tuple [.int i',.int j',.str x'])=(decide (i=i') && decide (j=j') && decide (x=x')):=by
 simp only [PyData.eqv,PyData.eqvAll,Bool.and_true,Bool.and_assoc];rw [N7];simp
theorem yD (p q:Pt):ltv p.key q.key=ltv p.place q.place/\PyData.eqv p.key q.key=PyData.eqv p.place q.place:=by
 cases p with
 | word w=>
  cases q with
  | word w'=>exact ⟨rfl,rfl⟩
  | hole k=>
   constructor
   ·simp only [Pt.key,Pt.place,zI];rw [if_neg (by decide),if_neg (by lia),decide_eq_true (by decide),decide_eq_true (by lia)]
   ·simp only [Pt.key,Pt.place,zQ];rw [decide_eq_false (show ¬ (0:Int)=1 by decide),decide_eq_false (show ¬ (0:Int)=(k:Int)+1 by lia)];simp
 | hole k=>
  cases q with
  | word w'=>
   constructor
   ·simp only [Pt.key,Pt.place,zI];rw [if_neg (by decide),if_neg (by lia),decide_eq_false (by decide),decide_eq_false (by lia)]
   ·simp only [Pt.key,Pt.place,zQ];rw [decide_eq_false (show ¬ (1:Int)=0 by decide),decide_eq_false (show ¬ (k:Int)+1=0 by lia)];simp
  | hole k'=>
   by_cases e:k=k'
   ·subst e;constructor
    ·simp only [Pt.key,Pt.place,zI];simp
    ·simp only [Pt.key,Pt.place,zQ]
   ·constructor
    ·simp only [Pt.key,Pt.place,zI];rw [if_pos trivial,if_neg (by lia),if_neg (by lia)];by_cases h:k<k'
     ·rw [decide_eq_true (by lia),decide_eq_true (by lia)]
     ·rw [decide_eq_false (by lia),decide_eq_false (by lia)]
    ·simp only [Pt.key,Pt.place,zQ];rw [decide_eq_false (show ¬ (k:Int)=k' by lia),decide_eq_false (show ¬ (k:Int)+1=k' + 1 by lia)];simp
theorem zV:∀ ps qs:List Pt,aL (ps.map Pt.key) (qs.map Pt.key)=aL (ps.map Pt.place) (qs.map Pt.place)
 | [],[]=>rfl
 | [],_::_=>rfl
 | _::_,[]=>rfl
 | p::ps,q::qs=>by
  simp only [N1,a7];rw [(yD p q).1,(yD p q).2,zV ps qs]
theorem keys_eq:∀ ps qs:List Pt,PyData.eqvAll (ps.map Pt.key) (qs.map Pt.key)=PyData.eqvAll (ps.map Pt.place) (qs.map Pt.place)
 | [],[]=>rfl
 | [],_::_=>rfl
 | _::_,[]=>rfl
 | p::ps,q::qs=>by
  simp only [N1,PyData.eqvAll];rw [(yD p q).2,keys_eq ps qs]
theorem GZ (a b:PyData) (x y:List PyData):ltv (.tuple [a,.list x]) (.tuple [b,.list y])=if PyData.eqv a b=true then (if PyData.eqvAll x y=true then false else aL x y) else ltv a b:=by
 show aL [a,.list x] [b,.list y]=_;rw [a7,a7];rfl
theorem C7 (ps qs:List Pt):ltv (fm ps) (fm qs)=ltv (du ps) (du qs):=by
 unfold fm du;rw [GZ,GZ,zV,keys_eq]
theorem Bc {l:List (List Pt)} (h:HE l):qM l:=h.imp λ{a b} q=>by rw [C7];exact q
def fN (K:PySem.W.Frag):Sp:=λvs H Q _=>∃ a xs pss,vs=[.ref a]/\SqL K H a xs/\xs.length<64/\aB K H xs (pss.map br)/\(∀ ps∈pss,POk ps) /\
 ∀ D acc H' l,H D=none->ae H H'->H' D=some (.lst acc)->l.Perm pss->qM l->aB K (lim H H') acc (l.map br)->Q (.ref D) H'
end LG
namespace L2
open PySem PySem.Spec PyProof.Rows PySem.W
theorem GA {P:Program}{w:World}{k:Key}{u:Value} (h:(aW P w).is k u=true):RelV (kV k) u:=by
 rcases bS (show ql k u=true from h) with ⟨i,t,rfl,rfl⟩ | ⟨x,t,rfl,rfl⟩
 ·exact ⟨t,rfl⟩
 ·exact ⟨t,rfl⟩
theorem Inv.freeze {X:Cx}{pins:List (Addr×Obj)}{σ:St}{H:Hp}{s:Shared}{a:Addr}{kvs:List (Key×V)} (I:Inv X pins σ H s) (e:H a=some (.dK kvs)) :
  ∃ o,s.heap.get? a=some o/\Inv X pins σ (upd H a (.frz o (.dK kvs))) s:=by
 obtain ⟨z,hd,vs,rel,dd⟩:=wx I.hok e;obtain ⟨o,es,ep,ho,r⟩:=id dd;refine ⟨o,ho,?_⟩;exact m7 (h':=s.heap) (t':=s.toks) I (by rw [e];exact True.intro) (Heap.SameBut.refl _ _) ⟨o,ho⟩ ⟨ho,vH z hd rel dd⟩
def Itk (a:Addr) (o:Obj) (kvs:List (Key×V)):It:=
 ⟨λi H=>i<kvs.length/\H a=some (.frz o (.dK kvs)),λi H x H'=>H' = H/\(kvs[i]?).map (λkv=>kV kv.1)=some x,λi H=>kvs.length<=i/\H a=some (.frz o (.dK kvs))⟩
theorem Ca {X:Cx}{pins:List (Addr×Obj)}{σ:St}{H:Hp}{s:Shared}{a:Addr}{o:Obj}{es:Array DictEntry}{ep:Nat}{kvs:List (Key×V)} (hd:o.data = .dict es ep) (I:Inv X pins σ H s) (e:H a=some (.frz o (.dK kvs))) :
  ∃ vs,KV kvs vs/\s.heap.DictAt (aW X.prog X.w) a vs ep:=by
 obtain ⟨ho,_,_,vs,rel,o',es',ep',ho',hx,hd',r⟩:=(show b8 X.prog X.w H s.heap a (.frz o (.dK kvs)) from I.hok a _ e);rw [ho] at ho';cases ho';rw [hd] at hd';cases hd';exact ⟨vs,rel,o,es,ho,hx,hd,r⟩
theorem KV.key {kvs:List (Key×V)}{vs:List (Key×Value)}{i:Nat}{k:Key}{x:Value} (r:KV kvs vs) (h:vs[i]? = some (k,x)):(kvs[i]?).map (λkv=>kV kv.1)=some (kV k):=by
 have e:=congrArg (λl=>l[i]?) r.keys;simp only [NK,h,Option.map_some] at e;cases q:kvs[i]? with
 | none=>rw [q] at e;cases e
 | some kv=>
  rw [q] at e;have e':kv.1=k:=Option.some.inj e;rw [Option.map_some,e']
theorem Bv {P:Program}{w:World}{K:PySem.W.Frag}{tg:Expr}{a it:Addr}{o:Obj}{es:Array DictEntry}{ep:Nat}{kvs:List (Key×V)} (hne:a≠it) (hd:o.data = .dict es ep) :
  Turn P w K tg (Itk a o kvs) [it] it (λi h=>h.IsKeyIter it a i kvs.length ep) where
 mem:=by simp
 obj:=λi h st b hb=>by
  have e:b=it:=by simpa using hb
  subst e;obtain ⟨o,e,c,d⟩:=st;exact ⟨o,e,λv z=>by rw [d] at z;cases z⟩
 keep:=λi h h' st k=>st.at λo e=>k it (by simp) o e
 item:=by
  intro X hP hw hK hc i pins s σ H E I hf st hg;subst hP hw hK;obtain ⟨f0,f1,f2,f3,f4,f5⟩:=hf it (by simp);obtain ⟨hi,hg⟩:=hg;obtain ⟨vs,rel,da⟩:=Ca hd I hg;have hl:=rel.length;have W:=Walks.dictKeys (prog:=X.prog) (w:=X.w) (knd:=aW X.prog X.w) (I.ok.hd hc) it a hne vs ep;refine W.item i s _ _ (by lia) ⟨by rw [<-hl];exact st,da⟩ λv h' tk hv st' kk=>?_;obtain ⟨k,x,hx,hk⟩:=hv;have I1:Inv X pins σ H { s with heap:=h',toks:=tk }:=I.turned (λb o hb e=>kk b o (by simpa using hb) e) f0 f1 f3 f4 f5;obtain ⟨o',e,c,d⟩:=id st'.1;exact ⟨v,rfl,z4 (s:={ s with heap:=h',toks:=tk }) e c d (by decide) ⟨kV k,H,I1,GA hk,⟨rfl,rel.key hx⟩,by rw [hl];exact st'.1,λb hb=>(hf b hb).1⟩⟩
 done:=by
  intro X hP hw hK hc i pins s σ H E I hf st hg;subst hP hw hK;obtain ⟨f0,f1,f2,f3,f4,f5⟩:=hf it (by simp);obtain ⟨hi,hg⟩:=hg;obtain ⟨vs,rel,da⟩:=Ca hd I hg;have hl:=rel.length;exact wpAny_pyNext_dict_end (I.ok.hd hc) (by rw [<-hl];exact st) da (Ou (by lia)) λh' eb=>⟨rfl,I.turned (t':=s.toks) (λb o hb e=>eb b o hb e) f0 f1 f3 f4 f5⟩
 self:=λ_ _ _ _ _ st h=>wpAny_pyIter_keyiter st h
section
variable {X:Cx}{tg:Expr}
def La (tl:TE):TI:=λσ H R=>tl σ H λx H1=>∃ a kvs,x = .ref a/\H1 a=some (.dK kvs)/\∀ o,R (Itk a o kvs) (upd H1 a (.frz o (.dK kvs)))
theorem EG {l:Expr}{tl:TE} (hl:PE X l tl):PI X tg l (La tl):=by
 intro pins s σ H R I h;refine thn (hl pins s σ H _ I h) λv s1 ⟨x,H1,I1,r1,q1⟩=>?_;obtain ⟨a,kvs,e,ha,q⟩:=q1;subst e;cases r1;obtain ⟨o,ho,I2⟩:=I1.freeze ha;obtain ⟨z,hd,vs,rel,o',es,ep,ho',hx,hd',r⟩:=wx I1.hok ha;rw [ho] at ho';cases ho';have da:s1.heap.DictAt (aW X.prog X.w) a vs ep:=⟨o,es,ho,hx,hd',r⟩;refine wpAny_pyIter_dict hd da ?_;have hne:a≠s1.heap.objs.size:=N3 da.lt_size;refine ⟨s1.heap.objs.size,[s1.heap.objs.size],_,_,_,rfl,I2.kept (t':=s1.toks) λb o e=>Heap.get?_push_of_some _ e,Bv hne hd',⟨_,Heap.get?_push_size _ rfl,rfl,by rw [rel.length];rfl⟩,λb hb=>?_,q o⟩;have e:b=s1.heap.objs.size:=by simpa using hb
 subst e;exact I2.mR (NH _) (I2.hok.fresh (NH _))
end
section
variable {X:Cx}{pins:List (Addr×Obj)}{σ:St}{H:Hp}{s:Shared}
end
end L2
namespace L2
open PySem PySem.Spec PyProof.Rows
section
variable {X:Cx}
def Ln:V->List V->Hp->VK->Prop:=λx vs H Q=>∃ l y r,x = .ref l/\vs=[.int 0]/\H l=some (.lst (y::r))/\Q y (upd H l (.lst r))
theorem F6:MtR X "list.pop" Ln:=by
 intro pins s σ H x vs v us Q I rx rv h;obtain ⟨l,y,r,rfl,rfl,hH,q⟩:=h;cases rx;obtain ⟨u,rfl,t',rfl⟩:=rv.one;obtain ⟨z,its,n,rr,hl,e⟩:=I.Ge hH;cases rr with
 | cons ry rt=>
  rename_i w ws;refine call_meets F.slot_list_pop ⟨_,e,rfl⟩ F.entry_list_pop (F.args_list_pop_2 _ _) (PySem.MeetsSeq.list_pop_at l (w::ws).toArray n 0 t' 0 w (by decide) ?_ (by simp) (by rw [NO];lia)) ⟨e,?_⟩
  ·unfold seqIndex?;simp
  ·refine ⟨y,_,I.ID (oq:=ws) hH e ?_ rt ?_,ry,q⟩
   ·apply Ph.mp;simp
   ·have:(y::r).length<=sizeLine:=z;simp at this;lia
end
def Mj:PyData->Str
 | .str x=>x
 | d=>d.shown
structure M7 (d:PyData):Prop where
 Nj:d.showable=true
 nod:d.hasDict=false
 dep:d.depth<=100
 len:(∀ x,d ≠ .str x)->d.shown.length<=sizeLine
section
variable {X:Cx}
end
section
variable {X:Cx}
structure PAj (X:Cx) (es:List Expr) (t:TA):Prop where
 go:PA X es t
structure PSj (X:Cx) (st:Stmt) (t:TS):Prop where
 go:PS X st t
structure Ny (X:Cx) (st:List Stmt) (t:TS):Prop where
 go:PSs X st t
end
theorem tm {x:V}:∀ {xs:List V}{us:List Value},aY xs us->xs.all fX=true->us.countP (eqU x)=xs.countP λy=>eqV y x
 | _,_,.nil,_=>rfl
 | y::xs,u::us,.cons r t,f=>by
  rw [Py,Om] at f;rw [Pf,Pf,yg r f.1,tm t f.2]
def Eg (K:PySem.W.Frag):V->List V->Hp->VK->Prop:=λx vs H Q=>∃ p xs y,x = .ref p/\vs=[y]/\SqL K H p xs/\fX y=true/\xs.all fX=true/\Q (.int (xs.countP λz=>eqV z y:Nat)) H
theorem DN {X:Cx}:MtR X "list.count" (Eg X.K):=by
 intro pins s σ H x vs v us Q I rx rv h;obtain ⟨p,xs,y,rfl,rfl,hq,fy,fs,q⟩:=h;cases rx;obtain ⟨u,rfl,ru⟩:=rv.one;obtain ⟨its,r,pl,hz⟩:=I.list hq;obtain ⟨o,n,ho,hc,hd,hs⟩:=pl;cases o;cases hc;cases hd;cases hs;refine call_meets PySem.F.slot_list_count ⟨_,ho,rfl⟩ PySem.F.entry_list_count (PySem.F.args_list_count_2 _ _) (SeqAt.list_countAt p its.toArray n _ _ u (eqU y)) ⟨ho,λw hw=>ny ru fy r fs w (by simpa using hw),?_⟩;refine ⟨.int _,H,I.tok _,⟨_,rfl⟩,?_⟩;rw [show its.toArray.toList=its from rfl,tm r fs];exact q
section
variable {X:Cx}{pins:List (Addr×Obj)}{σ:St}{H:Hp}{s:Shared}{a:Addr}{kvs:List (Key×V)}{k:Key}{x:V}{u r:Value}{A:Around}{E:Value->Shared->Prop}
theorem DY {Q:Value->Shared->Prop} (I:Inv X pins σ H s) (e:H a=some (.dK kvs)) (ry:RelV (kV k) u) (rx:RelV x r) (hl:kvs.length<sizeLine)
  (h1:∀ v,dY kvs k=some v->∀ w' s',Inv X pins σ H s'->RelV v w'->Q w' s') (h2:dY kvs k=none->∀ s',Inv X pins σ (upd H a (.dK (putK kvs k x))) s'->Q r s') :
  wpAny (model X.prog X.w) A (call (.builtin "dict.setdefault") [.ref a,u,r]) Q E s:=by
 obtain ⟨z,hd,vs,rel,dd⟩:=wx I.hok e;have hv:=rel.val k;refine call_meetsIn PySem.F.slot_dict_setdefault dd.typeIs PySem.F.entry_dict_setdefault (PySem.F.args_dict_setdefault_3 _ _ _) (kt_meets_setdefault (aW X.prog X.w) a (uu ry) hd r)
  ⟨vs,dd,by rw [<-rel.length];exact z,λw' hw=>?_,λhn h' dd' hs=>?_⟩
 ·rw [hw] at hv;cases q:dY kvs k with
  | none=>rw [q] at hv;exact absurd hv (by simp [mf])
  | some v=>rw [q] at hv;exact h1 v q _ _ (I.tok _) hv
 ·rw [hn] at hv;cases q:dY kvs k with
  | some v=>rw [q] at hv;exact absurd hv (by simp [mf])
  | none=>
   have he:∃ q,h'.get? a=some q:=let ⟨q,_,_,hq,_⟩:=dd';⟨q,hq⟩;exact h2 q _ (m7 I (by rw [e];exact True.intro) hs he (vH (by have:=ib kvs k x;lia) hd (rel.put k rx) dd'))
end
def Lq (td ty tx:TE):TE:=λσ H Q=>td σ H λx H1=>∃ a,x = .ref a/\IsD H1 a/\ty σ H1 λy H2=>tx σ H2 λz H3=>∃ kvs k,H3 a=some (.dK kvs)/\y=kV k/\kvs.length<sizeLine /\
 (∀ v,dY kvs k=some v->Q v H3)/\(dY kvs k=none->Q z (upd H3 a (.dK (putK kvs k z))))
section
variable {X:Cx}{o e f:Expr}{apos dv:Pos}{td ty tx:TE}
theorem Eu (ho:PE X o td) (he:PE X e ty) (hf:PE X f tx) (m:M2 X o "setdefault" apos e f dv):PE X (.Call (.Attribute o "setdefault" apos) [e,f] [] dv) (Lq td ty tx):=by
 intro pins s σ H Q I h;refine wpAny_Call_method m.base m.few m.line PySem.F.plainAttrs_dict PySem.F.slot_dict_setdefault PySem.F.type_dict_setdefault (thn (ho pins s σ H _ I h) λu s1 ⟨x,H1,I1,rx,a,ex,d,q1⟩=>?_);subst ex;obtain rfl:u=Value.ref a:=rx;obtain ⟨t1,t2,_⟩:=za I1 d;refine ⟨t1,t2,?_⟩;rw [m.Ea];refine Calls.callWith_builtin rfl (Calls.evalArgs_plain (Calls.spliced_cons (thn (he pins s1 σ H1 _ I1 q1) λiv s2 ⟨y,H2,I2,ry,q2⟩=>
  Calls.spliced_cons (thn (hf pins s2 σ H2 _ I2 q2) λfv s3 ⟨z,H3,I3,rz,kvs,k,ea,ey,hl,q3,q4⟩=>Calls.spliced_nil ?_))))
 subst ey;exact DY I3 ea ry rz hl (λv hv w' s4 I4 rw'=>⟨v,H3,I4,rw',q3 v hv⟩) λhn s4 I4=>⟨z,_,I4,rz,q4 hn⟩
end
theorem KV.vals {kvs:List (Key×V)}{vs:List (Key×Value)} (r:KV kvs vs):aY (kvs.map (·.2)) (vs.map (·.2)):=by
 induction r with
 | nil=>exact .nil
 | cons h _ ih=>exact .cons h.2 ih
def tLV (td:TE):TE:=λσ H Q=>td σ H λx H1=>∃ a kvs,x = .ref a/\Rd H1 a (.dK kvs)/\∀ p,H1 p=none->Q (.ref p) (upd H1 p (.lst (kvs.map (·.2))))
section
variable {X:Cx}{x:Str}{p apos dv pos:Pos}{o:Expr}{td:TE}
theorem BU (hh:X.calm=true) (hg:Gl X x) (hm:X.mg x=none) (hv:bootBuiltins x=some (.type "list")) (ho:PE X o td)
  (hn:x ≠ "__name__" :=by decide) (hdb:(x == ("__debug__" : Str))=false:=by decide) (xC:attributeBase o "values" X.env (eval o X.env)=eval o X.env:=by rfl) (wK:(apos.endLine == dv.line)=true:=by rfl)
  (he:starEach [Expr.Call (.Attribute o "values" apos) [] [] dv] X.env=(false,eval (Expr.Call (.Attribute o "values" apos) [] [] dv) X.env)::starEach [] X.env:=by rfl) :
  PE X (.Call (.Name x p) [.Call (.Attribute o "values" apos) [] [] dv] [] pos) (tLV td):=by
 intro pins s σ H Q I h;refine wpAny_Call_Name_kw (eR I hg hm hv ?_ hn hdb);refine PyProof.Rows.callWith_type1 ?_ he rfl;rw [he];refine Calls.spliced_cons (wpAny_Call_method0_late xC wK (thn (ho pins s σ H _ I h) λu s1 ⟨y,H1,I1,ry,a,kvs,ey,d,q1⟩=>?_));subst ey;obtain rfl:u=Value.ref a:=ry;obtain ⟨t1,t2,_⟩:=za I1 (.inl ⟨kvs,d⟩);obtain ⟨z,hd,vs,rel,dd⟩:=qQ I1.hok d;refine ⟨"dict","dict.values",PySem.F.plainAttrs_dict,PySem.F.slot_dict_values,PySem.F.type_dict_values,t1,t2,Calls.callWith_builtin rfl (PySem.evalArgs_none ?_)⟩;refine call_meetsIn PySem.F.slot_dict_values dd.typeIs PySem.F.entry_dict_values (PySem.F.args_dict_values_1 _) (meets_dict_values (aW X.prog X.w) a hd) ⟨⟨vs,dd⟩,Calls.spliced_nil ?_⟩;obtain ⟨ep,hat⟩:=(dd.push { cls:=.type "dict_values",data:=.fields #[.ref a] }).dictAt;have I2:=I1.kept (t':=s1.toks) (h':=s1.heap.push { cls:=.type "dict_values",data:=.fields #[.ref a] }) λ_ _ q=>Heap.get?_push_of_some _ q;have vl:=rel.length;refine PySem.W.kdl_call (PySem.W.kdl_values (knd:=aW X.prog X.w) (kvs:=vs) (ep:=ep)) (I1.ok.hd hh) ⟨⟨_,Heap.get?_push_size _ rfl,rfl,rfl⟩,hat⟩ (by lia) λh' tk sf c' hk hS cf=>?_;have hvs:sf.toList=vs.map (·.2):=PySem.W.kdl_vals_eq sf.toList (by rw [N2];exact cf.1) λj v hj=>cf.2 j v (by rw [<-Oz];exact hj)
 refine ⟨.ref _,_,I2.laid (o:=.lst (kvs.map (·.2))) hk (NH _) ⟨by rw [NE];exact z,sf.toList,c',by rw [hvs];exact rel.vals,by rw [Array.toArray_toList];exact hS⟩,rfl,q1 _ (I2.hok.fresh (NH _))⟩
end
section
open SetTable
def way (t:SetTable) (h:Int):Nat->Probe
 | 0=>t.probeStart h
 | n+1=>t.advance (way t h n)
end
section
open SetTable
variable {mask:Nat}
end
section
variable {P:Program}{w:World}{A:Around}{E:Value->Shared->Prop}{s:Shared}
abbrev tK (P:Program) (w:World):=tupleKind (aW P w)
variable {kf:Addr->Int×Str}{a x:Addr}{o:Obj}{es:Array (Int×Value)}{ep:Nat}{t:SetTable}
def hK (P:Program) (w:World) (k:Int×Str):Int:=(tK P w).hash [.inl k.1,.inr k.2]
end
def uc:Value->Str
 | .str x _=>x
 | _=>Str.empty
theorem EJ (t:SetTable) (es:Array (Int×Value)) (h:Int) (x:Value):(layNew t es h x).2.1.led=t.led:=by
 unfold layNew
 split
 ·simp only [SetTable.put,SetTable.orStandIn,SetTable.standIn]
  repeat (first | rfl | split)
 ·rfl
theorem sZ (t:SetTable) (es:Array (Int×Value)) (n:Nat):(relayAll t es n).2.1.led=t.led/\(t.plain=false->(relayAll t es n).2.1.plain=false):=by
 unfold relayAll
 split
 ·rename_i t' order e;simp only [SetTable.relaid,SetTable.laid] at e;have:t'.led=t.led/\t'.plain=t.plain:=by
   cases h:SetTable.layClean (SetTable.sizeAbove n - 1) (es.map (·.1)) with
   | none=>rw [h] at e;cases e
   | some o=>
    rw [h] at e;cases e;exact ⟨rfl,rfl⟩
  dsimp only
  split
  ·exact ⟨this.1,λz=>by rw [this.2];exact z⟩
  ·exact ⟨rfl,λ_=>rfl⟩
 ·exact ⟨rfl,λ_=>rfl⟩
section
variable {P:Program}{w:World}
def ka (P:Program) (w:World) (byT:Bool) (h:Heap) (a:Addr) (us:List Str):Prop:=∃ o es ep t,h.get? a=some o/\o.ExactSet/\o.data = .set es ep t/\ElemsOf (aW P w) es.toList/\es.size<scanBound/\t.fits es.size=true/\t.led=(!byT)/\(us≠[]->t.plain=false)/\(∀ e∈es.toList,∃ x tk,e.2 = .str x tk)/\(es.toList.map λe=>uc e.2).Perm us
theorem ka.keep {byT:Bool}{h h':Heap}{a:Addr}{us:List Str} (x:ka P w byT h a us) (k:∀ o,h.get? a=some o->h'.get? a=some o):ka P w byT h' a us:=by
 obtain ⟨o,es,ep,t,ho,r⟩:=x;exact ⟨o,es,ep,t,k o ho,r⟩
theorem yn {byT:Bool}{h:Heap}{a:Addr} (hg:h.get? a=some { cls:=.type "set",dict:=none,data:=.set #[] 0 (.fresh 0 0 (!byT)) }):ka P w byT h a []:=
 ⟨_,#[],0,_,hg,⟨rfl,rfl,rfl⟩,rfl,(λe he=>by simp at he),by decide,by rfl,rfl,λz=>(z rfl).elim,(λe he=>by simp at he),by simp⟩
theorem jo {byT:Bool}{h:Heap}{a:Addr}{o:Obj}{es es':Array (Int×Value)}{ep:Nat}{t t':SetTable}{us:List Str} (ho:h.get? a=some o) (hex:o.ExactSet) (hd:o.data = .set es ep t)
  (hel:ElemsOf (aW P w) es'.toList) (hb:es'.size<scanBound) (hf:t'.fits es'.size=true) (hl:t'.led = !byT) (hp:us≠[]->t'.plain=false) (hs:∀ e∈es'.toList,∃ x tk,e.2 = .str x tk) (hm:(es'.toList.map λe=>uc e.2).Perm us) :
  (h.update a (Obj.putSet es' t')).get? a=some { o with data:=.set es' (ep+1) t' }/\ka P w byT (h.update a (Obj.putSet es' t')) a us:=by
 have q:=Heap.get?_update_self (Obj.putSet es' t') ho (by rw [putSet_of es' t' hd];rfl);rw [putSet_of es' t' hd] at q;exact ⟨q,_,es',ep+1,t',q,hex,rfl,hel,hb,hf,hl,hp,hs,hm⟩
variable {s:Shared}{A:Around}{E:Value->Shared->Prop}
theorem CA {byT:Bool}{h:Heap}{a:Addr}{us:List Str}{x:Str}{es:Array (Int×Value)} (hs:∀ e∈es.toList,∃ x tk,e.2 = .str x tk) (hm:(es.toList.map λe=>uc e.2).Perm us):(∃ e∈es.toList,(aW P w).is (.inr x) e.2=true)↔x∈us:=by
 rw [<-hm.mem_iff,NJ];constructor
 ·rintro ⟨e,he,hk⟩;obtain ⟨tk,e2⟩:=GA hk;exact ⟨e,he,by rw [e2];rfl⟩
 ·rintro ⟨e,he,hk⟩;obtain ⟨y,tk,e2⟩:=hs e he;rw [e2] at hk;have:y=x:=hk;refine ⟨e,he,?_⟩;rw [e2,this];exact iu P w x tk
theorem Dv {byT:Bool}{a:Addr}{us:List Str}{x:Str}{tk:Tok}{Q:Bool->Shared->Prop} (hS:ka P w byT s.heap a us) (KU:us.length+1<scanBound)
  (h:∀ h' b,Heap.SameBut a s.heap h'->ka P w byT h' a (if x∈us then us else us++[x])->Q b { s with heap:=h' }) :
  wpAny (model P w) A (setAddHashed a (.str x tk) ((aW P w).hash (.inr x))) Q E s:=by
 obtain ⟨o,es,ep,t,ho,hex,hd,hel,hb,hf,hl,hp,hs,hm⟩:=id hS;have ET:(aW P w).is (.inr x) (.str x tk)=true:=iu P w x tk;have hsc:(Value.str x tk).scannable=true:=rfl;have hn:es.size=us.length:=by
  have:=hm.length_eq;rw [NE,N2] at this;exact this
 have hb1:es.size+1<scanBound:=hn ▸ KU;have scanned:=byScan_of hsc hb hel;unfold setAddHashed;refine wpAny_holding ?_;unfold setAddHashedIn;refine wpAny_bind (wpAny_setState_of ho hd hf ?_);dsimp only;rw [scanned,if_pos rfl];unfold setAddByScan;refine wpAny_bind (wpAny_bind (wpAny_rule (wpAny_bind (wpAny_setScan_of ET ho hd hf hel ?_))));have Ki:=CA (P:=P) (w:=w) (byT:=byT) (h:=s.heap) (a:=a) (x:=x) hs hm;cases hr:List.findIdx? (λe=>(aW P w).is (.inr x) e.2) es.toList with
 | some j=>
  dsimp only;obtain ⟨hj,hpj,_⟩:=List.findIdx?_eq_some_iff_getElem.mp hr;have hin:x∈us:=Ki.mp ⟨es.toList[j],Ov hj,hpj⟩;have same:=h s.heap false (Heap.SameBut.refl a s.heap) (by rw [if_pos hin];exact hS);exact wpAny_pure (wpAny_pure same)
 | none=>
  dsimp only;have hin:x∉us:=λz=>by
   obtain ⟨e,he,hk⟩:=Ki.mpr z;have:=List.findIdx?_eq_none_iff.mp hr e he;rw [hk] at this;cases this
  have hgw:∀ (b:Bool) {s₁:Shared}{Q':Unit->Shared->Prop},Q' () s₁->wpAny (model P w) A (match b with | true=>rule "set.scan.the-table-gave-way" | false=>pure ()) Q' E s₁:=
   λb _ _ q=>match b with
    | true=>wpAny_rule q
    | false=>wpAny_pure q
  have a9:=layNew_perm t es ((aW P w).hash (.inr x)) (.str x tk);have zW:=layNew_fits t es ((aW P w).hash (.inr x)) (.str x tk);have Gc:=EJ t es ((aW P w).hash (.inr x)) (.str x tk);generalize layNew t es ((aW P w).hash (.inr x)) (.str x tk)=L at a9 zW Gc ⊢;obtain ⟨es1,t1,dm,ND⟩:=L;dsimp only at a9 zW Gc ⊢;rw [Array.toList_push] at a9;have E6:ElemsOf (aW P w) es1.toList:=(hel.push ET hsc).perm a9;have hs1:∀ e∈es1.toList,∃ x tk,e.2 = .str x tk:=λe he=>by
   rcases Oa.mp (a9.mem_iff.mp he) with z | z
   ·exact hs e z
   ·rw [NQ.mp z];exact ⟨x,tk,rfl⟩
  have hm1:(es1.toList.map λe=>uc e.2).Perm (us++[x]):=by
   refine (a9.map _).trans ?_;rw [NS];exact hm.append_right _
  have BB:es1.size<scanBound:=by rw [<-N2,a9.length_eq,NX,N2];simpa using hb1
  refine wpAny_bind (hgw _ ?_);have FE:∀ h',Heap.SameBut a s.heap h'->ka P w byT h' a (us++[x])->Q true { s with heap:=h' }:=λh' sb hx=>h h' true sb (by rw [if_neg hin];exact hx);have pk:plainKind (.str x tk)=false:=rfl;have ft:({ t1 with plain:=false }:SetTable).fits es1.size=true/\({ t1 with plain:=false }:SetTable).led=(!byT)/\({ t1 with plain:=false }:SetTable).plain=false:=⟨SetTable.fits_plain_off zW,Gc.trans hl,rfl⟩;have fs:t1.plain=false->t1.fits es1.size=true/\t1.led=(!byT)/\t1.plain=false:=λz=>⟨zW,Gc.trans hl,z⟩;cases hpl:t1.plain
  ·have f2:=fs hpl;clear fs ft;rw [if_neg (by decide)];refine wpAny_bind (wpAny_pure ?_);simp only [if_true];generalize t1=t2 at f2 ⊢;obtain ⟨ho2,hS2⟩:=jo (P:=P) (w:=w) (us:=us++[x]) ho hex hd E6 BB f2.1 f2.2.1 (λ_=>f2.2.2) hs1 hm1;have sb2:=Heap.SameBut.update s.heap a (Obj.putSet es1 t2);refine wpAny_bind (wpAny_storeSet_of ho hd ?_ (fits_of_scanBound BB));refine wpAny_ite_split (λ_=>?_) λ_=>wpAny_pure (wpAny_pure (FE _ sb2 hS2));obtain ⟨rp,rf⟩:=And.intro (relayAll_perm t2 es1 (SetTable.grown es1.size)) (relayAll_fits t2 es1 (SetTable.grown es1.size));obtain ⟨rl1,rl2⟩:=sZ t2 es1 (SetTable.grown es1.size);generalize relayAll t2 es1 (SetTable.grown es1.size)=Z at rp rf rl1 rl2 ⊢;have zb:Z.1.size<scanBound:=by
    have e:=rp.length_eq;rw [N2,N2] at e;rw [e];exact BB
   obtain ⟨_,hS3⟩:=jo (P:=P) (w:=w) (us:=us++[x]) ho2 hex rfl (E6.perm rp) zb rf (rl1.trans f2.2.1) (λ_=>rl2 f2.2.2) (λe he=>hs1 e (rp.mem_iff.mp he)) ((rp.map _).trans hm1);refine wpAny_bind (hgw _ (wpAny_bind (wpAny_storeSet_of ho2 rfl ?_ (fits_of_scanBound zb))));exact wpAny_pure (wpAny_pure (FE _ (sb2.trans (Heap.SameBut.update _ a _)) hS3))
  ·have f2:=ft;clear fs ft;rw [if_pos rfl,hashByValue_scannable 8 hsc];refine wpAny_bind (wpAny_pure ?_);simp only [pk,Oo,if_false];generalize ({ t1 with plain:=false }:SetTable)=t2 at f2 ⊢;obtain ⟨ho2,hS2⟩:=jo (P:=P) (w:=w) (us:=us++[x]) ho hex hd E6 BB f2.1 f2.2.1 (λ_=>f2.2.2) hs1 hm1;have sb2:=Heap.SameBut.update s.heap a (Obj.putSet es1 t2);refine wpAny_bind (wpAny_storeSet_of ho hd ?_ (fits_of_scanBound BB));refine wpAny_ite_split (λ_=>?_) λ_=>wpAny_pure (wpAny_pure (FE _ sb2 hS2));obtain ⟨rp,rf⟩:=And.intro (relayAll_perm t2 es1 (SetTable.grown es1.size)) (relayAll_fits t2 es1 (SetTable.grown es1.size));obtain ⟨rl1,rl2⟩:=sZ t2 es1 (SetTable.grown es1.size);generalize relayAll t2 es1 (SetTable.grown es1.size)=Z at rp rf rl1 rl2 ⊢;have zb:Z.1.size<scanBound:=by
    have e:=rp.length_eq;rw [N2,N2] at e;rw [e];exact BB
   obtain ⟨_,hS3⟩:=jo (P:=P) (w:=w) (us:=us++[x]) ho2 hex rfl (E6.perm rp) zb rf (rl1.trans f2.2.1) (λ_=>rl2 f2.2.2) (λe he=>hs1 e (rp.mem_iff.mp he)) ((rp.map _).trans hm1);refine wpAny_bind (hgw _ (wpAny_bind (wpAny_storeSet_of ho2 rfl ?_ (fits_of_scanBound zb))));exact wpAny_pure (wpAny_pure (FE _ (sb2.trans (Heap.SameBut.update _ a _)) hS3))
def bI:List Str->List Str->List Str
 | us,[]=>us
 | us,x::r=>bI (if x∈us then us else us++[x]) r
theorem zv:∀ (zs us:List Str),(bI us zs).length<=us.length+zs.length
 | [],us=>NH _
 | x::r,us=>by
  have:=zv r (if x∈us then us else us++[x]);unfold bI
  split at this
  ·rw [if_pos ‹_›];simp at *;lia
  ·rw [if_neg ‹_›];simp at *;lia
theorem dC:∀ (zs us:List Str),us.Nodup->(bI us zs).Nodup
 | [],us,h=>h
 | y::r,us,h=>by
  unfold bI;refine dC r _ ?_
  split
  ·exact h
  ·rename_i hn;exact List.nodup_append.mpr ⟨h,by simp,λa ha b hb e=>hn (by rw [NQ.mp hb] at e;rw [<-e];exact ha)⟩
theorem BA {byT:Bool}{R:Result->Shared->Prop}{I:Addr}{fp wr:List Addr}{G:Array GenState->Array GenState->Prop}{n:Nat}{Pv:Nat->Value->Prop}{St:Nat->Shared->Prop} (W:WalksS P w A.in1 I fp wr G n Pv St) (S:Addr) (hSf:S∉fp)
  (zs:List Str) (hz:zs.length=n) (LA:∀ i v,Pv i v->∃ x t,zs[i]? = some x/\v = .str x t) (hb:n+1<scanBound) :
  ∀ (r:List Str) (i:Nat) (s:Shared) (us:List Str),r=zs.drop i->i<=n->us.length<=i->St i s->ka P w byT s.heap S us ->
   (∀ s',Moved (S::wr) G s s'->ka P w byT s'.heap S (bI us r)->R (.ok (.ret .none)) s') ->
   codeAny (model P w) A (.builtin "set.update.loop" ⟨[.ref S,.ref I],[]⟩) R s:=by
 have hSw:S∉wr:=mt (W.sub S) hSf;have FV:=λb (z:b∈wr)=>NN S z;intro r
 induction r with
 | nil=>
  intro i s us hr hi hus hst hS hR;have hin:i=n:=by
   have:=Pb.mp hr.symm;lia
  subst hin;refine codeAny_builtin PyProof.Rows.F.entry_set_update_loop ?_;rw [Around.under_plainId PyProof.Rows.F.plain_set_update_loop _];refine wpAny_bind (m:=pyNext (.ref I)) (W.done s _ _ hst λs' hm=>?_);exact wpAny_pure (hR s' (hm.mono FV) (hS.keep λo e=>hm.heap S _ hSw e))
 | cons x r ih=>
  intro i s us hr hi hus hst hS hR;have hlt:i<zs.length:=by
   rcases Oi i zs.length with z | z
   ·exact z
   ·rw [Ox z] at hr;cases hr
  have hxe:zs[i]? = some x/\r=zs.drop (i+1):=by
   rw [Of hlt] at hr;injection hr with e1 e2;exact ⟨by rw [NG hlt,<-e1],e2⟩
  refine codeAny_builtin PyProof.Rows.F.entry_set_update_loop ?_;rw [Around.under_plainId PyProof.Rows.F.plain_set_update_loop _];refine wpAny_bind (m:=pyNext (.ref I)) (W.item i s _ _ (by lia) hst λv s' hP mG hm=>?_);obtain ⟨x',t,hx',rfl⟩:=LA i v hP;rw [hxe.1] at hx';cases hx';have hS':ka P w byT s'.heap S us:=hS.keep λo e=>hm.heap S _ hSw e;show wpAny _ A.in1 (holding [Value.str x t] (setAdd S (.str x t)) >>= _) _ _ s';refine wpAny_bind (wpAny_holding ?_);unfold setAdd;refine wpAny_holding ?_;refine wpAny_bind ((aW P w).pyHash (k:=.inr x) (iu P w x t) ?_);refine Dv (s:={ s' with toks:=s'.toks+1 }) hS' (by lia) λh' b sb hS2=>?_;refine wpAny_pure ⟨plainId_quiet PyProof.Rows.F.plain_set_update_loop _,ih (i+1) _ _ hxe.2 (by lia) ?_ (W.frame _ s' _ _ mG (OS _) λb hb o e=>?_) hS2 λs'' Ma Mf=>?_⟩
  ·split
   ·lia
   ·simp;lia
  ·rw [sb.2 b (λh:b=S=>hSf (by rw [<-h];exact hb))];exact e
  ·have first:=hm.mono FV
   have put:=first.then_heap (OS s'.toks) (h':=h') λb o hb e=>(sb.2 b λz=>hb (z ▸ NT)).trans e;exact hR s'' (Moved.trans W.gtrans put Ma) Mf
def iF (w:World):Bool:=w.params.followText "set-order"
def Am (w:World):Obj:={ cls:=.type "set",dict:=none,data:=.set #[] 0 (.fresh 0 0 (!iF w)) }
theorem Fn (a:Value) {Q₁:Value->Shared->Prop} (h:Q₁ (.ref s.heap.objs.size) { s with heap:=s.heap.push (Am w) }) :
  codeAny (model P w) A (.call (.builtin "set.__new__") ⟨[.type "set",a],[]⟩) (wants Q₁ E) s:=by
 have key:∀ led,led=(!iF w)->Q₁ (.ref s.heap.objs.size) { s with heap:=s.heap.push { cls:=.type "set",dict:=none,data:=.set #[] 0 (.fresh 0 0 led) } }:=λled e=>by subst e;exact h
 refine codeAny_of_tree (wpAny_bind (m:=checkBuiltinCall "set.__new__" ⟨[.type "set",a],[]⟩) (wpAny_of_eq (PySem.F.newCall_set_1 a) (wpAny_pure ⟨plainId_quiet PySem.F.plain_set_new _,codeAny_builtin PySem.F.entry_set_new ?_⟩)));rw [Around.under_plainId PySem.F.plain_set_new _];unfold Builtin.«set.__new__» Builtin.Frozenset.newClass;have FV:=sub_set_self;clear h;obtain ⟨hp,g,d,tk,os⟩:=s;dsimp only at key ⊢
 wp_walk
 refine wpAny_askSetting (wpAny_pure ?_);dsimp only;simp only [newObj];exact wpAny_bind (wpAny_alloc (wpAny_pure (wpAny_pure (key _ rfl))))
theorem C3 {l a:Addr}{items:Array Value}{zs:List Str}{Q:PySem.Fin->Shared->Prop} (hh:A.handled=none) (hl:s.heap.IsList l items) (hi:aY (zs.map V.str) items.toList) (hb:items.size+1<scanBound) (ha:s.heap.get? a=some (Am w)) (hal:l≠a)
  (h:∀ (h':Heap) (tk:Nat),ka P w (iF w) h' a (bI [] zs)->(∀ b o,b≠a->s.heap.get? b=some o->h'.get? b=some o)->Q (.done (.ret .none)) { s with heap:=h',toks:=tk }) :
  wpAny (model P w) A (Builtin.«set.__init__» ⟨[.ref a,.ref l],[]⟩) Q E s:=by
 have hT:s.TypeIs (.ref a) "set" :=⟨_,ha,rfl⟩;obtain ⟨ol,hol,hcl,nl,hdl⟩:=id hl;obtain ⟨Nw,M8,M6,MB⟩:=ol;simp only at hcl hdl;subst hcl hdl;have Nu:=PySem.F.sub_list_set;have Np:=PySem.F.sub_list_frozenset;have hne:(Value.type "list" == Value.type "dict")=false:=by decide
 have ha':s.heap.get? a=some { cls:=.type "set",dict:=none,data:=.set #[] 0 (.fresh 0 0 (!iF w)) }:=ha;unfold Builtin.«set.__init__» noKeywords Builtin.Frozenset.updateFrom;generalize hPI:pyIter=PI
 wp_walk
 subst hPI;refine wpAny_pyIter_list hl (wpAny_bind (wpAny_runValue ?_));have hla:l<s.heap.objs.size:=Heap.lt_size hol;have haa:a<s.heap.objs.size:=Heap.lt_size ha;have hlen:zs.length=items.size:=by have:=hi.length;rw [NE,N2] at this;exact this
 refine BA (byT:=iF w) ((Walks.list (show A.in1.handled=none from hh) s.heap.objs.size l (N3 hla) items).toS) a (by simp only [NZ,O2,or_false,not_or];exact ⟨N3 haa,hal.symm⟩) zs hlen (λi v hv=>?_) hb zs 0 _ [] rfl (NW _) (NH _)
  ⟨⟨_,Heap.get?_push_size _ rfl,rfl,rfl⟩,hl.push _⟩ (yn (Heap.get?_push_of_some _ ha')) λs' hm hS'=>?_
 ·have hv':items.toList[i]? = some v:=by rw [Oz];exact hv
  have hiz:i<zs.length:=by rw [hlen];rw [Oz] at hv';exact (Array.getElem?_eq_some_iff.mp hv').1
  obtain ⟨x,hx⟩:∃ x,zs[i]? = some x:=⟨zs[i],NG hiz⟩;obtain ⟨u,hu,ru⟩:=hi.get (i:=i) (x:=.str x) (by rw [NK,hx];rfl);rw [hv'] at hu;cases hu;obtain ⟨t,rfl⟩:=ru;exact ⟨x,t,hx,rfl⟩
 ·obtain ⟨h',g',d',tk',os'⟩:=s';obtain rfl:g' = s.gens:=hm.gens;obtain rfl:d' = s.drawn:=hm.drawn;obtain rfl:os' = s.os:=hm.os;refine wpAny_pure (wpAny_pure (h h' tk' hS' λb o hb e=>hm.heap b o (λz=>?_) (Heap.get?_push_of_some _ e)));rcases NZ.mp z with z | z
  ·exact hb z
  ·exact absurd (Heap.lt_size e) (by rw [NQ.mp z];exact Oy _)
set_option maxHeartbeats 3000000 in
theorem sO {l:Addr}{items:Array Value}{zs:List Str}{Q:Value->Shared->Prop} (hh:A.handled=none) (hl:s.heap.IsList l items) (hi:aY (zs.map V.str) items.toList) (hb:items.size+1<scanBound)
  (h:∀ (h':Heap) (tk:Nat),ka P w (iF w) h' s.heap.objs.size (bI [] zs)->(∀ b o,s.heap.get? b=some o->h'.get? b=some o)->Q (.ref s.heap.objs.size) { s with heap:=h',toks:=tk }) :
  wpAny (model P w) A (call (.type "set") [.ref l]) Q E s:=by
 obtain ⟨c,tl,NB⟩:=PySem.F.called_set.mro;have M4:=PySem.F.called_set.made;have FV:=PySem.F.called_set.sub;have h1:=PySem.F.called_set.notType;have h2:=PySem.F.called_set.canCreate;have hct:=PySem.F.typeCall_set_1 (.ref l);refine wpAny_call (codeAny_of_tree (show wpAny _ _ (callAny (.type "set") _) _ _ _ from wpAny_pure ⟨Code.quiet_builtin _ (by decide +kernel),codeAny_builtin PySem.F.entry_type_call ?_⟩));rw [Around.under_plain (weight_type_call_type "set" [.ref l] []) rfl]
 repeat any_goals (first | assumption | wp_step)
 refine codeAny_mono (Fn (P:=P) (w:=w) (.ref l) (E:=E) (Q₁:=λobj s₁=>obj = .ref s.heap.objs.size/\s₁={ s with heap:=s.heap.push (Am w) }) ⟨rfl,rfl⟩) λr s₁ hr=>?_;cases r with
 | error e=>exact hr
 | ok fl=>
  cases fl with
  | ret obj=>
   obtain ⟨rfl,rfl⟩:=hr;have hS:(s.heap.push (Am w)).get? s.heap.objs.size=some (Am w):=Heap.get?_push_size _ rfl;have hT:Shared.TypeIs { s with heap:=s.heap.push (Am w) } (.ref s.heap.objs.size) "set" :=⟨_,hS,rfl⟩;have hli:=PySem.F.called_set.init.lookup;have hbi:=PySem.F.called_set.init.bind (.ref s.heap.objs.size)
   repeat any_goals (first | assumption | wp_step)
   refine codeAny_mono (codeAny_call_builtin (R:=wants (λr s₂=>r = .none/\Q (.ref s.heap.objs.size) s₂) E) PySem.F.called_set.init.plain PySem.F.entry_set_init (check_set_init_1 hT ?_)) λr₂ s₂ hr₂=>?_
   ·have hla:l<s.heap.objs.size:=by obtain ⟨_,e,_⟩:=hl;exact Heap.lt_size e
    refine C3 (A:=A.in1.in1) hh (hl.push _) hi hb hS (N3 hla) λh' tk hx hk=>?_;exact ⟨rfl,h h' tk hx λb o e=>hk b o (N3 (Heap.lt_size e)) (Heap.get?_push_of_some _ e)⟩
   ·cases r₂ with
    | error e=>exact hr₂
    | ok fl₂=>
     cases fl₂ with
     | ret r=>
      obtain ⟨rfl,hq⟩:=hr₂
      repeat any_goals (first | assumption | wp_step)
     | _=>exact hr₂.elim
  | _=>exact hr.elim
end
end L2
namespace L2
open PySem PySem.Spec PyProof.Rows PySem.W
namespace SF
theorem slot_next:Slot "set_iterator" "__next__" "set_iterator.__next__" :=
 .of (owner:= "set_iterator") (n:= "__next__") (by rw [typeLookup_type,builtinLookup_eq_fast];kernel_rfl) (by decide +kernel) (by decide +kernel) (by decide +kernel) (by first | exact .inl (by decide +kernel) | exact .inr (by decide +kernel)) (by rw [isSubtype_type];kernel_rfl)
theorem ur:Slot "set_iterator" "__iter__" "set_iterator.__iter__" :=
 .of (owner:= "set_iterator") (n:= "__iter__") (by rw [typeLookup_type,builtinLookup_eq_fast];kernel_rfl) (by decide +kernel) (by decide +kernel) (by decide +kernel) (by first | exact .inl (by decide +kernel) | exact .inr (by decide +kernel)) (by rw [isSubtype_type];kernel_rfl)
theorem entry_next:entryFor table "set_iterator.__next__" = some Builtin.«set_iterator.__next__»:=entryFor_of_tree (by kernel_rfl)
theorem args_next (a:Value):argsOk "set_iterator.__next__" ⟨[a],[]⟩:=by unfold argsOk;kernel_rfl
theorem A6 (a:Value):argsOk "set_iterator.__iter__" ⟨[a],[]⟩:=by unfold argsOk;kernel_rfl
theorem rF:entryFor table "set.__iter__" = some Builtin.«frozenset.__iter__»:=entryFor_alias (id':= "frozenset.__iter__") (by kernel_rfl) rfl (by decide +kernel) (by kernel_rfl)
theorem ze:entryFor table "set_iterator.__iter__" = some Builtin.«dict_keyiterator.__iter__»:=entryFor_alias (id':= "dict_keyiterator.__iter__") (by kernel_rfl) rfl (by decide +kernel) (by kernel_rfl)
end SF
section
variable {P:Program}{w:World}{A:Around}{E:Value->Shared->Prop}{s:Shared}
theorem uO {M:Model}{src:Source}{n:Nat}{Q:Nat->Shared->Prop} (hn:n≠0) (h:∀ i d,i<n->Q i { s with drawn:=d }):wpAny M A (choose src n) Q E s:=λΓ p hΓ=>by
 unfold choose;rw [Sem.wp_choose];exact ⟨hn,h _ _ (Nat.mod_lt _ (Nat.pos_of_ne_zero hn))⟩
theorem mn {α:Type}:∀ (l:List α) (i:Nat) (h:i<l.length),(l[i]::l.eraseIdx i).Perm l
 | [],_,h=>by cases h
 | x::r,0,_=>List.Perm.refl _
 | x::r,i+1,h=>by
  have ih:=mn r i (by simpa using h);exact (List.Perm.swap _ _ _).trans (List.Perm.cons _ ih)
theorem j6 {M:Model}{α:Type}:∀ (n:Nat) (xs:List α) (s:Shared) {Q:List α->Shared->Prop},xs.length=n->(∀ ys d,ys.Perm xs->Q ys { s with drawn:=d })->wpAny M A (drawOrder n xs) Q E s
 | 0,xs,s,Q,hn,h=>by
  have:xs=[]:=Pe.mp hn;subst this;exact wpAny_pure (h [] s.drawn (List.Perm.refl _))
 | n+1,[],s,Q,hn,h=>by cases hn
 | n+1,x::xs,s,Q,hn,h=>by
  unfold drawOrder;refine wpAny_bind (uO (by simp) λi d hi=>?_);rw [NG hi];dsimp only;refine wpAny_bind (j6 n _ _ (by rw [List.length_eraseIdx_of_lt hi];simpa using hn) λys d' hp=>wpAny_pure (h _ d' ?_));exact (List.Perm.cons _ hp).trans (mn _ i hi)
def kg (first:Value) (i:Nat) (a:Addr) (n ep:Nat):Obj:={ cls:=.type "set_iterator",data:=.fields #[first,.int i 0,.ref a,.int n 0,.int ep 0] }
structure SAt (h:Heap) (a:Addr) (es:Array (Int×Value)) (ep:Nat) (t:SetTable):Prop where
 ob:∃ o,h.get? a=some o/\o.ExactSet/\o.data = .set es ep t
 ft:t.fits es.size=true
theorem dQ {a:Addr}{es:Array (Int×Value)}{ep:Nat}{tb:SetTable}{Q:Array (Int×Value)->Shared->Prop} (hs:SAt s.heap a es ep tb) (h:Q es s):wpAny (model P w) A (setEntries a) Q E s:=by
 obtain ⟨o,ho,_,hd⟩:=hs.ob;exact wpAny_bind (wpAny_setState_of ho hd hs.ft (wpAny_pure h))
theorem lH (n:Nat):¬ (((n:Int) != (n:Int))=true):=by simp
theorem vR {M:Model}{α:Type}{R:α->Shared->Prop} (hh:A.handled=none) (h:∀ h' e o,(∀ b o,s.heap.get? b=some o->h'.get? b=some o)->h'.get? e=some o->o.cls = .type "StopIteration" -> E (.ref e) { s with heap:=h' }):wpAny M A (newExc (.type "StopIteration") [] >>= λe=>(raiseNew e:Sem α)) R E s:=by
 refine wpAny_bind ?_;unfold newExc newTuple;refine wpAny_bind (wpAny_newObj_type ?_ (by size_fits));have fa:(firstArgMember (.type "StopIteration") []:Sem Value)=pure Value.none:=by first | rfl | (unfold firstArgMember;rfl)
 rw [fa];refine wpAny_bind (wpAny_pure (wpAny_newObj_type ?_ (by size_fits)));unfold raiseNew;refine wpAny_bind (wpAny_handled ?_);rw [hh];exact wpAny_bind (wpAny_pure (wpAny_throw (h _ _ _ (λb o e=>Heap.get?_push_of_some _ (Heap.get?_push_of_some _ e)) (Heap.get?_push_size _ rfl) rfl)))
theorem mW {it a:Addr}{first:Value}{i n ep:Nat}{Q:Option Value->Shared->Prop} (hit:s.heap.get? it=some (kg first i a n ep))
  (h:wpAny (model P w) A.in1 (Builtin.«set_iterator.__next__» ⟨[.ref it],[]⟩) (λf s'=>∃ v,f = .done (.ret v)/\Q (some v) s') (λe s'=>∃ b o,e = .ref b/\s'.heap.get? b=some o/\o.cls = .type "StopIteration" /\ Q none s') s) :
  wpAny (model P w) A (pyNext (.ref it)) Q E s:=by
 have hty:s.TypeIs (.ref it) "set_iterator" :=⟨_,hit,rfl⟩;unfold pyNext;refine wpAny_bind (wpAny_attempt (wpAny_callSpecial?_slot (name:=Str.ofString "__next__") hty SF.slot_next (wpAny_call_entry SF.slot_next hty SF.entry_next ?_ (SF.args_next _))));refine wpAny_mono h (λf s' ⟨v,e,q⟩=>?_) λe s' ⟨b,o,eb,ho,hc,q⟩=>?_
 ·exact ⟨v,e,wpAny_pure q⟩
 ·subst eb;exact wpAny_bind (wpAny_isInstance (T:= "StopIteration") (b:=true) ⟨o,ho,hc⟩ isSubtype_stop (wpAny_pure q))
theorem lu {it a:Addr}{first x:Value}{i n ep k:Nat}{vs:Array Value}{Q:Unit->Shared->Prop} (hit:s.heap.get? it=some { cls:=.type "set_iterator",data:=.fields vs }) (hk:k<vs.size)
  (h:∀ h',Heap.SameBut it s.heap h'->h'.get? it=some { cls:=.type "set_iterator",data:=.fields (vs.setIfInBounds k x) }->Q () { s with heap:=h' }):wpAny (model P w) A (setField (.ref it) k x) Q E s:=
 wpAny_setField_rec hit hk λh' e sb=>h h' sb e
theorem xY {it a:Addr}{slot i ep nx:Nat}{x:Value}{es:Array (Int×Value)}{tb:SetTable}{Q:Option Value->Shared->Prop} (hit:s.heap.get? it=some (kg (.int slot 0) i a es.size ep)) (hs:SAt s.heap a es ep tb)
  (hn:∀ (A:Around) (E:Value->Shared->Prop) (R:Option (Value×Nat)->Shared->Prop),R (some (x,nx)) s->wpAny (model P w) A (setNext a slot i ep) R E s)
  (h:∀ h',Heap.SameBut it s.heap h'->h'.get? it=some (kg (.int nx 0) (i+1:Nat) a es.size ep)->Q (some x) { s with heap:=h' }):wpAny (model P w) A (pyNext (.ref it)) Q E s:=by
 refine mW hit ?_;unfold Builtin.«set_iterator.__next__»;refine wpAny_bind (wpAny_pure ?_);refine wpAny_bind (wpAny_fieldsOf hit rfl ?_);show wpAny _ _ (setEntries a >>= _) _ _ _;refine wpAny_bind (dQ hs ?_);rw [if_neg (lH es.size)];show wpAny _ _ (setNext a slot i ep >>= _) _ _ _;refine wpAny_bind (hn _ _ _ ?_);dsimp only;refine wpAny_bind (lu (a:=a) (first:=x) (i:=i) (n:=0) (ep:=ep) hit (by simp) λh1 sb1 xD=>?_);refine wpAny_bind (lu (a:=a) (first:=x) (i:=i) (n:=0) (ep:=ep) xD (by simp) λh2 sb2 Fd=>?_);exact wpAny_pure ⟨x,rfl,h h2 (sb1.trans sb2) Fd⟩
theorem wJ {it a:Addr}{slot i ep:Nat}{es:Array (Int×Value)}{tb:SetTable}{Q:Option Value->Shared->Prop} (hh:A.handled=none) (hit:s.heap.get? it=some (kg (.int slot 0) i a es.size ep)) (hs:SAt s.heap a es ep tb)
  (hn:∀ (A:Around) (E:Value->Shared->Prop) (R:Option (Value×Nat)->Shared->Prop),R none s->wpAny (model P w) A (setNext a slot i ep) R E s)
  (h:∀ h',(∀ b o,b≠it->s.heap.get? b=some o->h'.get? b=some o)->Q none { s with heap:=h' }):wpAny (model P w) A (pyNext (.ref it)) Q E s:=by
 refine mW hit ?_;unfold Builtin.«set_iterator.__next__»;refine wpAny_bind (wpAny_pure ?_);refine wpAny_bind (wpAny_fieldsOf hit rfl ?_);show wpAny _ _ (setEntries a >>= _) _ _ _;refine wpAny_bind (dQ hs ?_);rw [if_neg (lH es.size)];show wpAny _ _ (setNext a slot i ep >>= _) _ _ _;refine wpAny_bind (hn _ _ _ ?_);dsimp only;refine wpAny_bind (lu (a:=a) (first:=.none) (i:=i) (n:=0) (ep:=ep) hit (by simp) λh1 sb1 xD=>?_);refine vR (s:={ s with heap:=h1 }) (show A.in1.handled=none from hh) λh' e o hk ho hc=>⟨e,o,rfl,ho,hc,h h' λb ob hb he=>hk b ob ((sb1.2 b hb).trans he)⟩
theorem AH {it a T:Addr}{i ep k:Nat}{hx:Int}{x:Value}{ps:List Nat}{es:Array (Int×Value)}{tb:SetTable}{oT:Obj}{nT:Nat}{Q:Option Value->Shared->Prop} (hit:s.heap.get? it=some (kg (.ref T) i a es.size ep)) (hs:SAt s.heap a es ep tb)
  (hT:s.heap.get? T=some oT) (dT:oT.data = .seq (ps.map λ(j:Nat)=>rawInt j).toArray nT) (hp:ps[i]? = some k) (he:es[k]? = some (hx,x)) (h:∀ h',Heap.SameBut it s.heap h'->h'.get? it=some (kg (.ref T) (i+1:Nat) a es.size ep)->Q (some x) { s with heap:=h' }) :
  wpAny (model P w) A (pyNext (.ref it)) Q E s:=by
 refine mW hit ?_;unfold Builtin.«set_iterator.__next__»;refine wpAny_bind (wpAny_pure ?_);refine wpAny_bind (wpAny_fieldsOf hit rfl ?_);show wpAny _ _ (setEntries a >>= _) _ _ _;refine wpAny_bind (dQ hs ?_);rw [if_neg (lH es.size)];show wpAny _ _ (seqItems? (.ref T) >>= _) _ _ _;refine wpAny_bind (wpAny_seqItems hT dT ?_);have e1:(ps.map λ(j:Nat)=>rawInt j).toArray[(i:Int).toNat]? = some (.int k 0):=by
  rw [OG,List.getElem?_toArray,NK,hp];rfl
 dsimp only;rw [e1];dsimp only;refine wpAny_bind ?_;unfold setNextDrawn;obtain ⟨o,ho,_,hd⟩:=hs.ob;refine wpAny_bind (wpAny_setState_of ho hd hs.ft ?_);dsimp only;rw [if_neg (by simp)];refine wpAny_bind (wpAny_pure ?_);rw [OG,he];refine wpAny_pure ?_;refine wpAny_bind (lu (a:=a) (first:=x) (i:=i) (n:=0) (ep:=ep) hit (by simp) λh1 sb1 xD=>?_);exact wpAny_pure ⟨x,rfl,h h1 sb1 xD⟩
theorem Ao {it a T:Addr}{i ep:Nat}{ps:List Nat}{es:Array (Int×Value)}{tb:SetTable}{oT:Obj}{nT:Nat}{Q:Option Value->Shared->Prop} (hh:A.handled=none) (hit:s.heap.get? it=some (kg (.ref T) i a es.size ep)) (hs:SAt s.heap a es ep tb)
  (hT:s.heap.get? T=some oT) (dT:oT.data = .seq (ps.map λ(j:Nat)=>rawInt j).toArray nT) (hp:ps[i]? = none) (h:∀ h',(∀ b o,b≠it->s.heap.get? b=some o->h'.get? b=some o)->Q none { s with heap:=h' }) :
  wpAny (model P w) A (pyNext (.ref it)) Q E s:=by
 refine mW hit ?_;unfold Builtin.«set_iterator.__next__»;refine wpAny_bind (wpAny_pure ?_);refine wpAny_bind (wpAny_fieldsOf hit rfl ?_);show wpAny _ _ (setEntries a >>= _) _ _ _;refine wpAny_bind (dQ hs ?_);rw [if_neg (lH es.size)];show wpAny _ _ (seqItems? (.ref T) >>= _) _ _ _;refine wpAny_bind (wpAny_seqItems hT dT ?_);have e1:(ps.map λ(j:Nat)=>rawInt j).toArray[(i:Int).toNat]? = none:=by
  rw [OG,List.getElem?_toArray,NK,hp];rfl
 dsimp only;rw [e1];dsimp only;refine wpAny_bind (lu (a:=a) (first:=.none) (i:=i) (n:=0) (ep:=ep) hit (by simp) λh1 sb1 xD=>?_);refine wpAny_bind (lu (a:=a) (first:=.none) (i:=i) (n:=0) (ep:=ep) xD (by simp) λh2 sb2 Fd=>?_);refine vR (s:={ s with heap:=h2 }) (show A.in1.handled=none from hh) λh' e o hk ho hc=>⟨e,o,rfl,ho,hc,h h' λb ob hb he=>hk b ob (((sb1.trans sb2).2 b hb).trans he)⟩
theorem lN {α:Type} (next:Nat->Nat):∀ (n k:Nat) (l:List α) (out:Array α),l.length=n->((pickOrder.go next n k l out).toList).Perm (out.toList++l)
 | 0,k,l,out,hn=>by
  have:l=[]:=Pe.mp hn;subst this;unfold pickOrder.go;simp
 | n+1,k,l,out,hn=>by
  unfold pickOrder.go;have hl:next k % l.length<l.length:=Nat.mod_lt _ (by lia);rw [NG hl];dsimp only;refine (lN next n (k+1) _ _ (by rw [List.length_eraseIdx_of_lt hl];lia)).trans ?_;rw [Array.toList_push,Pc];exact List.Perm.append_left _ (mn l _ hl)
theorem mU {a:Addr}{slot i ep:Nat}{es:Array (Int×Value)}{tb:SetTable}{R:Option (Value×Nat)->Shared->Prop} (hb:iF w=true) (hs:SAt s.heap a es ep tb)
  (h:R (((pickOrder (w.params.setOrder a ep) es)[i]?).map λe=>(e.2,slot)) s):wpAny (model P w) A (setNext a slot i ep) R E s:=by
 obtain ⟨o,ho,_,hd⟩:=hs.ob;unfold setNext setsByText;refine wpAny_bind (wpAny_setState_of ho hd hs.ft ?_);dsimp only;refine wpAny_bind (wpAny_bind (wpAny_askSetting (wpAny_pure ?_)));show wpAny _ _ (if iF w=true then _ else _) _ _ _;rw [if_pos hb,if_neg (by simp)];refine wpAny_bind ?_;unfold setWalk setsByText;refine wpAny_bind (wpAny_setState_of ho hd hs.ft ?_);dsimp only;refine wpAny_bind (wpAny_bind (wpAny_askSetting (wpAny_pure ?_)));show wpAny _ _ (if iF w=true then _ else _) _ _ _;rw [if_pos hb];exact wpAny_bind (wpAny_askSetting (wpAny_pure (wpAny_pure h)))
theorem oQ {a:Addr}{slot i ep:Nat}{es:Array (Int×Value)}{tb:SetTable}{R:Option (Value×Nat)->Shared->Prop} (hb:iF w=false) (hl:tb.led=true) (h1:es.size<=1) (hs:SAt s.heap a es ep tb)
  (h:R (match es[SetTable.below tb.place slot]?,tb.place[SetTable.below tb.place slot]? with | some (_,x),some j=>some (x,j+1) | _,_=>none) s):wpAny (model P w) A (setNext a slot i ep) R E s:=by
 obtain ⟨o,ho,_,hd⟩:=hs.ob;unfold setNext setsByText;refine wpAny_bind (wpAny_setState_of ho hd hs.ft ?_);dsimp only;refine wpAny_bind (wpAny_bind (wpAny_askSetting (wpAny_pure ?_)));show wpAny _ _ (if iF w=true then _ else _) _ _ _;rw [if_neg (by rw [hb];decide)];refine wpAny_bind (wpAny_pure ?_);show wpAny _ _ (if (!tb.plain && decide (es.size > 1))=true then _ else _) _ _ _;rw [if_neg (by simp;lia)];refine wpAny_bind ?_;show wpAny _ _ (if (!tb.led && !es.isEmpty)=true then _ else _) _ _ _;rw [if_neg (by simp [hl])];exact wpAny_pure (wpAny_pure h)
theorem rM (xs:Array Nat) (h:xs.size<=1):SetTable.below xs 0=0:=by
 unfold SetTable.below;have:xs.size=0\/xs.size=1:=by lia
 rcases this with e | e
 ·rw [e];rfl
 ·rw [e];show SetTable.below.go xs 0 1 0 1=0;unfold SetTable.below.go;simp [SetTable.below.go]
theorem zc (j:Nat):SetTable.below #[j] (j+1)=1:=by
 unfold SetTable.below;show SetTable.below.go #[j] (j+1) 1 0 1=1;unfold SetTable.below.go;simp [SetTable.below.go]
structure Handed (es:Array (Int×Value)) (vs:List Value):Prop where
 perm:vs.Perm (es.toList.map (·.2))
theorem dP {h h':Heap}{a:Addr}{es:Array (Int×Value)}{ep:Nat}{t:SetTable} (x:SAt h a es ep t) (k:∀ o,h.get? a=some o->h'.get? a=some o):SAt h' a es ep t:=by
 obtain ⟨o,e,r⟩:=x.ob;exact ⟨⟨o,k o e,r⟩,x.ft⟩
theorem rO {it a:Addr}{first:Value}{i n ep:Nat}{Q:Value->Shared->Prop} (hit:s.heap.get? it=some (kg first i a n ep)) (h:Q (.ref it) s):wpAny (model P w) A (pyIter (.ref it)) Q E s:=by
 have hty:s.TypeIs (.ref it) "set_iterator" :=⟨_,hit,rfl⟩;refine wpAny_pyIter_slot hty SF.ur (wpAny_call_entry SF.ur hty SF.ze ?_ (SF.A6 _));exact wpAny_pure ⟨_,rfl,"set_iterator",_,hty,SF.slot_next.lookup,h⟩
theorem BC {it a:Addr}{ep:Nat}{es:Array (Int×Value)}{tb:SetTable} (hh:A.handled=none) (hne:a≠it) (hb:iF w=true) :
  Walks P w A it [it,a] [it] es.size (λi v=>((pickOrder (w.params.setOrder a ep) es).toList.map (·.2))[i]? = some v) (λi h=>h.get? it=some (kg (.int 0 0) i a es.size ep)/\SAt h a es ep tb) where
 sub:=λb hb=>by rw [NQ.mp hb];exact .head _
 frame:=λi h h' st k=>⟨k it (by simp) _ st.1,dP st.2 λo e=>k a (by simp) o e⟩
 item:=λi s Q E hi st hQ=>by
  have hl:(pickOrder (w.params.setOrder a ep) es).size=es.size:=by
   have:=(lN (w.params.setOrder a ep) es.size 0 es.toList #[] (by simp)).length_eq;unfold pickOrder;simpa using this
  have hi':i<(pickOrder (w.params.setOrder a ep) es).size:=by lia
  refine xY (slot:=0) (nx:=0) (x:=(pickOrder (w.params.setOrder a ep) es)[i].2) st.1 st.2 (λA E R hR=>mU hb st.2 (by rw [Oj hi'];exact hR)) λh' sb hit=>?_;refine hQ _ h' s.toks ?_ ⟨hit,dP st.2 λo e=>(sb.2 a hne).trans e⟩ λb o hb e=>(sb.2 b (by simpa using hb)).trans e;rw [NK,Oz,Oj hi'];rfl
 done:=λs Q E st hQ=>by
  have hl:(pickOrder (w.params.setOrder a ep) es).size=es.size:=by
   have:=(lN (w.params.setOrder a ep) es.size 0 es.toList #[] (by simp)).length_eq;unfold pickOrder;simpa using this
  refine wJ (slot:=0) hh st.1 st.2 (λA E R hR=>mU hb st.2 (by rw [OY (by lia)];exact hR)) λh' k=>hQ h' s.toks λb o hb e=>k b o (by simpa using hb) e
 self:=λi s Q E st h=>rO st.1 h
theorem y9 {it a T:Addr}{ep nT:Nat}{oT:Obj}{ps:List Nat}{es:Array (Int×Value)}{tb:SetTable} (hh:A.handled=none) (hne:a≠it) (hnT:T≠it) (hp:ps.Perm (List.range es.size)) (dT:oT.data = .seq (ps.map λ(j:Nat)=>rawInt j).toArray nT) :
  Walks P w A it [it,a,T] [it] es.size (λi v=>(ps.map λk=>(es.getD k (0,.none)).2)[i]? = some v) (λi h=>h.get? it=some (kg (.ref T) i a es.size ep)/\SAt h a es ep tb/\h.get? T=some oT) where
 sub:=λb hb=>by rw [NQ.mp hb];exact .head _
 frame:=λi h h' st k=>⟨k it (by simp) _ st.1,dP st.2.1 λo e=>k a (by simp) o e,k T (by simp) _ st.2.2⟩
 item:=λi s Q E hi st hQ=>by
  have hl:ps.length=es.size:=by rw [hp.length_eq];simp
  have hi':i<ps.length:=by lia
  have hk:ps[i]<es.size:=by have:=hp.mem_iff.mp (Ov hi');simpa using this
  refine AH (hx:=es[ps[i]].1) (x:=es[ps[i]].2) st.1 st.2.1 st.2.2 dT (NG hi') (Oj hk) λh' sb hit=>?_;refine hQ _ h' s.toks ?_ ⟨hit,dP st.2.1 λo e=>(sb.2 a hne).trans e,(sb.2 T hnT).trans st.2.2⟩ λb o hb e=>(sb.2 b (by simpa using hb)).trans e;rw [NK,NG hi',Option.map_some];simp [Array.getD,hk]
 done:=λs Q E st hQ=>by
  have hl:ps.length=es.size:=by rw [hp.length_eq];simp
  refine Ao hh st.1 st.2.1 st.2.2 dT (Ou (by lia)) λh' k=>hQ h' s.toks λb o hb e=>k b o (by simpa using hb) e
 self:=λi s Q E st h=>rO st.1 h
theorem CG {it a:Addr}{ep:Nat}{es:Array (Int×Value)}{tb:SetTable} (hh:A.handled=none) (hne:a≠it) (hb:iF w=false) (hl:tb.led=true) (h1:es.size<=1) (hf:tb.fits es.size=true) :
  Walks P w A it [it,a] [it] es.size (λi v=>(es.toList.map (·.2))[i]? = some v) (λi h=>h.get? it=some (kg (.int (if i=0 then 0 else tb.place.getD 0 0+1:Nat) 0) i a es.size ep)/\SAt h a es ep tb) where
 sub:=λb hb=>by rw [NQ.mp hb];exact .head _
 frame:=λi h h' st k=>⟨k it (by simp) _ st.1,dP st.2 λo e=>k a (by simp) o e⟩
 item:=λi s Q E hi st hQ=>by
  obtain rfl:i=0:=by lia
  have hpl:tb.place.size=es.size:=by simp only [SetTable.fits,Om,beq_iff_eq] at hf;exact hf.1
  have e0:=rM tb.place (by lia);have hp0:0<tb.place.size:=by lia
  refine xY (slot:=0) (nx:=tb.place[0]+1) (x:=es[0].2) st.1 st.2 (λA E R hR=>oQ hb hl h1 st.2 (by rw [e0,Oj hi,Oj hp0];exact hR)) λh' sb hit=>?_;refine hQ _ h' s.toks ?_ ⟨?_,dP st.2 λo e=>(sb.2 a hne).trans e⟩ λb o hb e=>(sb.2 b (by simpa using hb)).trans e
  ·rw [NK,Oz,Oj hi];rfl
  ·rw [hit];simp [Array.getD,hp0]
 done:=λs Q E st hQ=>by
  have hpl:tb.place.size=es.size:=by simp only [SetTable.fits,Om,beq_iff_eq] at hf;exact hf.1
  refine wJ hh st.1 st.2 (λA E R hR=>oQ hb hl h1 st.2 ?_) λh' k=>hQ h' s.toks λb o hb e=>k b o (by simpa using hb) e;rcases Oi 0 es.size with z | z
  ·have z1:es.size=1:=by lia
   obtain ⟨j,ej⟩:∃ j,tb.place = #[j]:=by
    match hq:tb.place,(show tb.place.size=1 by lia) with
    | ⟨[j]⟩,_=>exact ⟨j,rfl⟩
   rw [if_neg (by lia),ej];have:(#[j]:Array Nat).getD 0 0=j:=rfl;rw [this,zc,OY (by lia)];exact hR
  ·rw [if_pos (by lia),rM tb.place (by lia),OY z];exact hR
 self:=λi s Q E st h=>rO st.1 h
theorem xT {a:Addr}{es:Array (Int×Value)}{ep:Nat}{tb:SetTable}{Q:Bool->Shared->Prop} (hs:SAt s.heap a es ep tb) (h:Q (!iF w && (!tb.plain && decide (es.size > 1))) s):wpAny (model P w) A (setDrawn a) Q E s:=by
 obtain ⟨o,ho,_,hd⟩:=hs.ob;unfold setDrawn setsByText;refine wpAny_bind (wpAny_setState_of ho hd hs.ft ?_);dsimp only;exact wpAny_bind (wpAny_bind (wpAny_askSetting (wpAny_pure (wpAny_pure h))))
theorem yt {es:Array (Int×Value)}{ps:List Nat} (hp:ps.Perm (List.range es.size)):(ps.map λk=>(es.getD k (0,.none)).2).Perm (es.toList.map (·.2)):=by
 refine (hp.map _).trans ?_;have e:(List.range es.size).map (λk=>(es.getD k (0,.none)).2)=es.toList.map (·.2):=by
  apply List.ext_getElem?;intro i;rw [NK,NK];by_cases hi:i<es.size
  ·rw [List.getElem?_range hi];simp [Array.getD,hi]
  ·rw [Ou (by simp;lia),Ou (by simp;lia)];rfl
 rw [e]
theorem DB {a:Addr}{us:List Str}{Q:Value->Shared->Prop} (hh:A.handled=none) (hS:ka P w (iF w) s.heap a us)
  (h:∀ (I:Addr) (vs:List Value) (h':Heap) (d:Drawn) (fp:List Addr) (St:Nat->Heap->Prop),(∀ b o,s.heap.get? b=some o->h'.get? b=some o)->(∀ b∈fp,b=a\/s.heap.objs.size<=b)->s.heap.objs.size<=I->vs.length=us.length->(∃ us':List Str,us'.Perm us/\aY (us'.map V.str) vs) ->
   Walks P w A I fp [I] vs.length (λi v=>vs[i]? = some v) St->St 0 h'->Q (.ref I) { s with heap:=h',drawn:=d }) :
  wpAny (model P w) A (pyIter (.ref a)) Q E s:=by
 obtain ⟨o,es,ep,t,ho,hex,hd,hel,hb,hf,hl,hp,hs,hm⟩:=id hS;have sat:SAt s.heap a es ep t:=⟨⟨o,ho,hex,hd⟩,hf⟩;have hT:s.TypeIs (.ref a) "set" :=⟨o,ho,hex.1⟩;have hn:es.size=us.length:=by
  have:=hm.length_eq;rw [NE,N2] at this;exact this
 have vals:∀ vs:List Value,vs.Perm (es.toList.map (·.2))->vs.length=us.length/\∃ us':List Str,us'.Perm us/\aY (us'.map V.str) vs:=λvs hv=>by
  refine ⟨by rw [hv.length_eq,NE,N2,hn],vs.map uc,((hv.map uc).trans (by rw [Ow];exact hm)),?_⟩;have fU:∀ v∈vs,∃ x tk,v = .str x tk:=λv hv'=>by
   obtain ⟨e,he,rfl⟩:=NJ.mp (hv.mem_iff.mp hv');exact hs e he
  clear hv
  induction vs with
  | nil=>exact .nil
  | cons v r ih=>
   obtain ⟨x,tk,rfl⟩:=fU v (.head _);exact .cons ⟨tk,rfl⟩ (ih λv hv=>fU v (.tail _ hv))
 refine wpAny_pyIter_slot hT PySem.F.slot_set_iter (wpAny_call_entry PySem.F.slot_set_iter hT SF.rF ?_ (PySem.F.args_set_iter_1 _));unfold Builtin.«frozenset.__iter__»;refine wpAny_bind (wpAny_pure ?_);refine wpAny_bind (m:=Builtin.Frozenset.sizeOf a) (wpAny_bind (dQ sat (wpAny_pure ?_)));refine wpAny_bind (xT sat ?_);dsimp only;have hla:a<s.heap.objs.size:=Heap.lt_size ho;by_cases hdr:(!iF w && (!t.plain && decide (es.size > 1)))=true
 ·rw [if_pos hdr];refine wpAny_bind (j6 es.size _ s (by simp) λps d hps=>?_);refine wpAny_bind (wpAny_newTuple ?_ (by rw [NE,hps.length_eq,OB,sizeLine_eq];unfold scanBound at hb;lia));have hoT:(s.heap.push { cls:=.type "tuple",data:=.seq (ps.map λ(i:Nat)=>rawInt i).toArray }).get? s.heap.objs.size=some { cls:=.type "tuple",data:=.seq (ps.map λ(i:Nat)=>rawInt i).toArray }:=Heap.get?_push_size _ rfl;generalize hh1:s.heap.push { cls:=.type "tuple",data:=.seq (ps.map λ(i:Nat)=>rawInt i).toArray }=h1 at hoT ⊢;have k1:∀ b o,s.heap.get? b=some o->h1.get? b=some o:=λb o e=>by rw [<-hh1];exact Heap.get?_push_of_some _ e
  have LF:SAt h1 a es ep t:=dP sat (k1 a);have z1:h1.objs.size=s.heap.objs.size+1:=by rw [<-hh1,Heap.size_push]
  refine wpAny_bind (wpAny_setEpoch_of (s:={ s with heap:=h1,drawn:=d }) (k1 a o ho) hd hf ?_);refine wpAny_bind (wpAny_newObj_type ?_ (by size_fits));have hoI:(h1.push (kg (.ref s.heap.objs.size) (0:Nat) a es.size ep)).get? h1.objs.size=some (kg (.ref s.heap.objs.size) (0:Nat) a es.size ep):=Heap.get?_push_size _ rfl;have k2:∀ b o,h1.get? b=some o->(h1.push (kg (.ref s.heap.objs.size) (0:Nat) a es.size ep)).get? b=some o:=λb o e=>Heap.get?_push_of_some _ e;obtain ⟨v1,v2⟩:=vals _ (yt hps);have hvl:(ps.map λk=>(es.getD k (0,Value.none)).2).length=es.size:=by rw [NE,hps.length_eq,OB]
  have W:=y9 (P:=P) (w:=w) (A:=A) (it:=h1.objs.size) (a:=a) (T:=s.heap.objs.size) (ep:=ep) (tb:=t) hh (N3 (by rw [z1];exact O8 hla)) (N3 (by rw [z1];exact O1 _)) hps (oT:={ cls:=.type "tuple",data:=.seq (ps.map λ(i:Nat)=>rawInt i).toArray }) rfl;rw [<-hvl] at W;refine wpAny_pure ⟨_,rfl,"set_iterator",_,⟨_,hoI,rfl⟩,SF.slot_next.lookup,?_⟩;refine h h1.objs.size _ _ d [h1.objs.size,a,s.heap.objs.size] _ (λb o e=>k2 b o (k1 b o e)) (λb hb=>?_) (by rw [z1];exact OS _) v1 v2 W ⟨?_,dP LF (k2 a),k2 _ _ hoT⟩
  ·simp only [NZ,O2,or_false] at hb;rcases hb with e | e | e
   ·exact .inr (by rw [e,z1];exact OS _)
   ·exact .inl e
   ·exact .inr (by rw [e];exact NH _)
  ·rw [hvl];exact hoI
 ·rw [if_neg hdr];refine wpAny_bind (wpAny_pure ?_);refine wpAny_bind (wpAny_setEpoch_of ho hd hf ?_);refine wpAny_bind (wpAny_newObj_type ?_ (by size_fits));have hoI:(s.heap.push (kg (.int (0:Nat) 0) (0:Nat) a es.size ep)).get? s.heap.objs.size=some (kg (.int (0:Nat) 0) (0:Nat) a es.size ep):=Heap.get?_push_size _ rfl;have k2:∀ b o,s.heap.get? b=some o->(s.heap.push (kg (.int (0:Nat) 0) (0:Nat) a es.size ep)).get? b=some o:=λb o e=>Heap.get?_push_of_some _ e;refine wpAny_pure ⟨_,rfl,"set_iterator",_,⟨_,hoI,rfl⟩,SF.slot_next.lookup,?_⟩;have fpx:∀ b∈[s.heap.objs.size,a],b=a\/s.heap.objs.size<=b:=λb hb=>by
   simp only [NZ,O2,or_false] at hb;rcases hb with e | e
   ·exact .inr (by rw [e];exact NH _)
   ·exact .inl e
  cases hbt:iF w with
  | true=>
   have hpp:(pickOrder (w.params.setOrder a ep) es).toList.Perm es.toList:=by
    have:=lN (w.params.setOrder a ep) es.size 0 es.toList #[] (by simp);unfold pickOrder;simpa using this
   obtain ⟨v1,v2⟩:=vals _ (hpp.map (·.2))
   have hvl:((pickOrder (w.params.setOrder a ep) es).toList.map (·.2)).length=es.size:=by rw [NE,hpp.length_eq,N2]
   have W:=BC (P:=P) (w:=w) (A:=A) (it:=s.heap.objs.size) (a:=a) (ep:=ep) (es:=es) (tb:=t) hh (N3 hla) hbt;rw [<-hvl] at W;refine h s.heap.objs.size _ _ s.drawn [s.heap.objs.size,a] _ k2 fpx (NH _) v1 v2 W ⟨?_,dP sat (k2 a)⟩;rw [hvl];exact hoI
  | false=>
   have h1:es.size<=1:=by
    rcases Oi 1 es.size with z | z
    ·have hne:us≠[]:=λe=>by rw [e] at hn;rw [hn] at z;exact absurd z (by decide)
     rw [hbt,hp hne] at hdr;simp at hdr;lia
    ·exact z
   obtain ⟨v1,v2⟩:=vals _ (List.Perm.refl _);have hvl:(es.toList.map (·.2)).length=es.size:=by rw [NE,N2]
   have W:=CG (P:=P) (w:=w) (A:=A) (it:=s.heap.objs.size) (a:=a) (ep:=ep) (es:=es) (tb:=t) hh (N3 hla) hbt (by rw [hl,hbt];rfl) h1 hf;rw [<-hvl] at W;refine h s.heap.objs.size _ _ s.drawn [s.heap.objs.size,a] _ k2 fpx (NH _) v1 v2 W ⟨?_,dP sat (k2 a)⟩;rw [hvl];exact hoI
theorem Eb {r:Addr}{Q:Bool->Shared->Prop} (hT:s.TypeIs (.ref r) "set") (h:Q false s):wpAny (model P w) A (Builtin.List.listLengthHint (.ref r)) Q E s:=by
 unfold Builtin.List.listLengthHint;refine wpAny_bind (wpAny_specialOf hT PySem.F.slot_set_len.lookup ?_);generalize hid:("set.__len__" : String)=id0
 wp_delta
 have sp:splitId id0=some ("set","__len__"):=by subst hid;decide +kernel
 rw [sp];subst hid;refine wpAny_bind (wpAny_isInstance (T:= "set") (b:=true) hT (by rw [isSubtype_type];kernel_rfl) ?_);refine wpAny_ite_split (λz=>absurd z (by decide)) λ_=>?_;refine wpAny_ite_split (λ_=>?_) λz=>absurd (by decide +kernel) z;exact wpAny_bind (wpAny_typeOf hT (wpAny_pure h))
theorem xH {a:Addr}{us:List Str}{R:List Value->Shared->Prop} (hh:A.handled=none) (hS:ka P w (iF w) s.heap a us) (hn:us.length<=sizeLine)
  (h:∀ (h':Heap) (tk:Nat) (d:Drawn) (vs:List Value) (us':List Str),(∀ b o,s.heap.get? b=some o->h'.get? b=some o)->us'.Perm us->aY (us'.map V.str) vs->R vs { s with heap:=h',toks:=tk,drawn:=d }) :
  wpAny (model P w) A (collect (.ref a)) R E s:=by
 obtain ⟨o,_,_,_,ho,hex,_⟩:=id hS;have hla:a<s.heap.objs.size:=Heap.lt_size ho;unfold collect;refine wpAny_bind (wpAny_runValue (codeAny_builtin entry_proto_collect' ?_));rw [Around.under_plainId PySem.F.plain_proto_collect _];refine wpAny_bind (m:=newList []) (wpAny_newList ?_ (NW _));have oS:(s.heap.push (seqObj "list" #[] 0)).get? s.heap.objs.size=some (seqObj "list" #[] 0):=Heap.get?_push_size _ rfl;have k1:∀ b o,s.heap.get? b=some o->(s.heap.push (seqObj "list" #[] 0)).get? b=some o:=λb o e=>Heap.get?_push_of_some _ e;have z1:(s.heap.push (seqObj "list" #[] 0)).objs.size=s.heap.objs.size+1:=Heap.size_push _ _;refine wpAny_pure ⟨plainId_quiet PySem.F.plain_list_iadd _,codeAny_builtin entry_list_iadd' ?_⟩;rw [Around.under_plainId PySem.F.plain_list_iadd _];show wpAny _ _ (Builtin.List.listExtendWith (.ref s.heap.objs.size) (.ref a) (.ref s.heap.objs.size)) _ _ { s with heap:=s.heap.push (seqObj "list" #[] 0) };generalize s.heap.push (seqObj "list" #[] 0)=h1 at oS k1 z1 ⊢;have hS1:ka P w (iF w) h1 a us:=hS.keep (k1 a);have hT1:Shared.TypeIs { s with heap:=h1 } (.ref a) "set" :=⟨o,k1 a o ho,hex.1⟩;generalize hd1:s.heap.objs.size=S at oS z1 hla ⊢;have hSa:S≠a:=Nat.ne_of_gt hla;unfold Builtin.List.listExtendWith;refine wpAny_bind (wpAny_typeOf hT1 ?_);have e1:Builtin.List.listSameRef (.ref S) (.ref a)=false:=by simp [Builtin.List.listSameRef,hSa]
 have e2:(Value.type "set" == Value.type "list")=false:=by decide
 have e3:(Value.type "set" == Value.type "tuple")=false:=by decide
 simp only [e1,e2,e3,Bool.or_false,Oo,if_false];refine wpAny_bind (DB (s:={ s with heap:=h1 }) (show A.in1.handled=none from hh) hS1 λI vs h2 d fp St k2 hfp hI hvl hvs W st=>?_);obtain ⟨us',hp',hv'⟩:=hvs;have hSI:S<I:=by rw [z1] at hI;exact hI
 have hSf:S∉fp:=λz=>(hfp S z).elim hSa λz=>absurd z (by rw [z1];exact Nat.not_succ_le_self _);have oS2:=k2 S _ oS;have key:∀ (h3:Heap) (c tk:Nat),St 0 h3->(∀ b o,b≠S->h2.get? b=some o->h3.get? b=some o)->h3.get? S=some (seqObj "list" #[] c) ->
   codeAny (model P w) A (.builtin "list.extend.loop" ⟨[.ref S,.ref I,.ref S],[]⟩) (λq s'=>∃ (h':Heap) (tk:Nat) (acc:Array Value) (c':Nat),q = .ok (.ret (.ref S))/\s' = { s with heap:=h',toks:=tk,drawn:=d }/\(∀ b o,s.heap.get? b=some o->h'.get? b=some o)/\h'.get? S=some (seqObj "list" acc c')/\acc.toList=vs) { s with heap:=h3,toks:=tk,drawn:=d }:=λh3 c tk st3 k3 o3=>by
  refine codeAny_extend_loopS W.toS (by rw [hvl];exact hn) S hSf (.ref S) vs.length 0 _ #[] c rfl (NW _) st3 o3 (ItemsOf.nil _) λs' acc c' hm oS' cf=>?_;rw [Moved.eq_with hm];refine ⟨s'.heap,s'.toks,acc,c',rfl,rfl,λb o e=>?_,oS',?_⟩
  ·have hbl:b<S:=by rw [<-hd1];exact Heap.lt_size e
   refine hm.heap b o (λz=>?_) (k3 b o (N3 hbl) (k2 b o (k1 b o e)));rcases NZ.mp z with z | z
   ·exact absurd z (N3 hbl)
   ·exact absurd (NQ.mp z) (N3 (Pj hbl hSI))
  ·apply List.ext_getElem?;intro i;rw [Oz];cases q:acc[i]? with
   | none=>
    have:=Array.getElem?_eq_none_iff.mp q;rw [cf.1] at this;exact (Ou this).symm
   | some v=>exact (cf.2 i v q).symm
 refine wpAny_bind (wpAny_holding (Eb ⟨o,k2 a o (k1 a o ho),hex.1⟩ ?_));rw [if_pos (by decide)];refine wpAny_bind (wpAny_rule ?_);have u1:=get?_update_seq oS2 λ(xs:Array Value)=>xs.push Value.none;have u2:=get?_update_seq u1 λ(xs:Array Value)=>xs.pop;refine wpAny_bind (m:=Builtin.List.listTouch _) ?_;unfold Builtin.List.listTouch;refine wpAny_bind (listUpdate_at oS2 rfl ?_ (NW _) (by show 1<=_;rw [sizeLine_eq];lia));refine listUpdate_at u1 rfl ?_ (by show 1<=_;rw [sizeLine_eq];lia) (NW _);have k3:∀ b o,b≠S->h2.get? b=some o->((h2.update S (Obj.mapSeq λxs=>xs.push Value.none)).update S (Obj.mapSeq λxs=>xs.pop)).get? b=some o:=λb o hb e=>(Heap.get?_update_other _ _ (Ne.symm hb)).trans ((Heap.get?_update_other _ _ (Ne.symm hb)).trans e);refine wpAny_pure ⟨plainId_quiet PySem.F.plain_extend_loop _,codeAny_mono (key _ _ s.toks (W.frame 0 _ _ st λb hb o e=>k3 b o (λz=>hSf (z ▸ hb)) e) k3 u2) λq s' hq=>?_⟩;obtain ⟨h',tk,acc,c',rfl,rfl,hk,hoS,hv⟩:=hq;refine wpAny_bind (wpAny_load hoS (wpAny_pure ?_));subst hv;exact h h' tk d acc.toList us' hk hp' hv'
end
def UpS (ms:List Str):Prop:=ms.Pairwise λx y=>ltv (.str y) (.str x)=false
def Eo (X:Cx) (f:Value) (r:List Str->Hp->VK->Prop):Prop:=
 ∀ (pins:List (Addr×Obj)) (s:Shared) (σ:St) (H:Hp) (D:Addr) (us:List Str) (Q:VK),Inv X pins σ H s->ka X.prog X.w (iF X.w) s.heap D us->r us H Q->wpAny (model X.prog X.w) X.A (call f [.ref D]) (EP X pins σ Q) X.xe s
def tFS (r:List Str->Hp->VK->Prop) (t:TA):TE:=λσ H Q=>t σ H λvs H1=>∃ a zs,vs=[.ref a]/\Rd H1 a (.lst (zs.map V.str))/\zs.length<4000/\r (bI [] zs) H1 Q
section
variable {X:Cx}{x y:Str}{p q pos Ci:Pos}{e:Expr}{t:TA}{id:String}{r:List Str->Hp->VK->Prop}
theorem Inv.G7 {pins:List (Addr×Obj)}{σ:St}{H:Hp}{s:Shared}{h':Heap}{tk:Nat}{d:Drawn} (I:Inv X pins σ H s) (k:∀ b o,s.heap.get? b=some o->h'.get? b=some o):Inv X pins σ H { s with heap:=h',toks:=tk,drawn:=d }:=by
 have J:=I.kept (t':=tk) k;exact ⟨J.ok,J.os,J.bare,J.base,J.loc,J.cell,J.free,J.j8,J.pin,J.hok,J.len⟩
theorem ng (hc:Eo X (.builtin id) r) (hh:X.calm=true) (hg:Gl X x) (hm:X.mg x=none) (hv:bootBuiltins x=some (.builtin id)) (hg2:Gl X y) (hm2:X.mg y=none) (hv2:bootBuiltins y=some (.type "set")) (ha:PA X [e] t)
  (hn:x ≠ "__name__" :=by decide) (hdb:(x == ("__debug__" : Str))=false:=by decide) (hn2:y ≠ "__name__" :=by decide) (MG:(y == ("__debug__" : Str))=false:=by decide)
  (he:starEach [Expr.Call (.Name y q) [e] [] Ci] X.env=(false,eval (Expr.Call (.Name y q) [e] [] Ci) X.env)::starEach [] X.env:=by rfl) (he2:starEach [e] X.env=(false,eval e X.env)::starEach [] X.env:=by rfl) :
  PE X (.Call (.Name x p) [.Call (.Name y q) [e] [] Ci] [] pos) (tFS r t):=by
 intro pins s σ H Q I h;refine wpAny_Call_Name_kw (eR I hg hm hv ?_ hn hdb);refine PyProof.Rows.callWith_builtin1 ?_ he rfl;rw [he];refine Calls.spliced_cons (thn (Q:=λv s'=>∃ D us H1,v = .ref D/\Inv X pins σ H1 s'/\ka X.prog X.w (iF X.w) s'.heap D us/\r us H1 Q) ?_ λv s' ⟨D,us,H1,ev,I1,hS,q1⟩=>?_)
 ·refine wpAny_Call_Name_kw (eR I hg2 hm2 hv2 ?_ hn2 MG);refine PyProof.Rows.callWith_type1 (thn (ha Ci pins s σ H _ I h) λus s1 ⟨vs,H1,I1,r1,q1⟩=>?_) he2 rfl;obtain ⟨a,zs,rfl,hr,hl,q1⟩:=q1;obtain ⟨u,rfl,ru⟩:=r1.one;cases ru;obtain ⟨_,its,n,vv,ho⟩:=hr.ok I1.hok;have vl:=vv.length;rw [NE] at vl;refine sO (I1.ok.hd hh) ⟨_,ho,rfl,n,rfl⟩ vv (by rw [NO];unfold scanBound;lia) λh' tk hS k=>?_;exact ⟨_,_,H1,rfl,I1.G7 k,hS,q1⟩
 ·subst ev;exact Calls.spliced_nil (hc pins s' σ H1 D us Q I1 hS q1)
end
theorem qF:∀ {ns:List Str}{us:List Value},aY (ns.map V.str) us->∀ v∈us,∃ i t,v=Value.str i t
 | [],_,r,v,hv=>by rw [OU] at r;cases r;cases hv
 | n::ns,_,r,v,hv=>by
  rw [N1] at r;cases r with
  | cons h t=>
   obtain ⟨tk,rfl⟩:=h;rcases NZ.mp hv with e | e
   ·exact ⟨n,tk,e⟩
   ·exact qF t v e
theorem yL {P:Program}{w:World}{A:Around}{ns:List Str}{us:List Value} (hv:aY (ns.map V.str) us) (s':Shared) (G:Array Nat->Shared->Prop) (h2:2<=us.length)
  (h:∀ p:Array Nat,p.toList.Perm (List.range us.length)->(∀ i j,i<=j->j<us.length->ltv ((ns.map PyData.str).getD (p.getD j 0) .none) ((ns.map PyData.str).getD (p.getD i 0) .none)=false)->G p s') :
  wpAny (model P w) A (keyKind' us.toArray) (λκ s''=>(kas_sort us.length).kasWp (kas_ask P w A κ us) G s'') (λ_ _=>False) s':=by
 refine kas_kind (T:=.type "str") h2 (λv hm=>?_) (by decide) (by decide) ?_
 ·obtain ⟨i,t,rfl⟩:=qF hv v hm;exact .of_pure rfl
 have l1:us.length=ns.length:=by rw [<-hv.length,NE]
 have o:=Sh.ok .str;have lY:∀ i,i<us.length->(ns.map PyData.str).getD i .none = .str (ns.getD i Str.empty):=λi hi=>by
  have hi':i<ns.length:=by lia
  simp [NU,hi']
 have hgs:∀ i,i<us.length->Sh.str.has ((ns.map PyData.str).getD i .none):=λi hi=>⟨_,lY i hi⟩;refine zx (n:=us.length) (lt:=λi j=>ltv ((ns.map PyData.str).getD i .none) ((ns.map PyData.str).getD j .none)) (P:=λs''=>s'' = s') ⟨λi hi=>o.irr _ (hgs i hi),λi j k hi hj hk q=>o.neg (hgs i hi) (hgs j hj) (hgs k hk) q,λi j hi hj q=>o.asymm (hgs i hi) (hgs j hj) q⟩
  (λi j C s'' hi hj e q=>?_) (by lia) rfl λp s'' e hp up=>by subst e;exact h p hp up
 subst e;show wpAny (model P w) A (keyLt' oneType' (us.getD i .none) (us.getD j .none)) C (λ_ _=>False) s'';have ri:=iR hv i;have rj:=iR hv j;have qq:=q s'' rfl;rw [lY i hi,lY j hj] at qq;have gi:∀ i,i<us.length->(ns.map V.str).getD i .non = .str (ns.getD i Str.empty):=λi hi=>by
  have hi':i<ns.length:=by lia
  simp [NU,hi']
 rw [gi i hi] at ri;rw [gi j hj] at rj;obtain ⟨ti,ei⟩:=ri;obtain ⟨tj,ej⟩:=rj;rw [ei,ej,keyLt'_oneType];exact oneLt_str qq
theorem Cw {ns:List Str}{p:List Nat} (h:p.Perm (List.range ns.length)):(p.map λi=>ns.getD i Str.empty).Perm ns:=by
 have e:=dD ns Str.empty;exact (h.map λi=>ns.getD i Str.empty).trans (by rw [e])
def Lh:List Str->Hp->VK->Prop:=λus H Q=>us.length<64/\∀ (D:Addr) (ms:List Str),H D=none->ms.Perm us->UpS ms->Q (.ref D) (upd H D (.lst (ms.map V.str)))
section
variable {X:Cx}
theorem gm {k:Nat} (hc:X.calm=true) (hr:cn k X.A):Eo X (.builtin "sorted") Lh:=by
 intro pins s σ H S us Q I hS h;obtain ⟨h64,q⟩:=h
 (refine Calls.call_function_entry kind_sorted plain_sorted entry_sorted (args_sorted1 _) ?_)
 unfold Builtin.«sorted»
 (refine wpAny_bind (m:=checkCount "sorted" 1 1 _) (wpAny_pure ?_))
 refine wpAny_bind (xH (A:=X.A.in1) (show X.A.in1.handled=none from I.ok.hd hc) hS (by rw [sizeLine_eq];lia) λh1 tk d acc us' hk hp hv=>?_);have hul:us'.length=us.length:=hp.length_eq;have hal:acc.length=us'.length:=by rw [<-hv.length,NE]
 (refine wpAny_bind (wpAny_newList ?_ (by rw [hal,hul,sizeLine_eq];lia)))
 have I1:Inv X pins σ H { s with heap:=h1,toks:=tk,drawn:=d }:=I.G7 hk;have hoL:(h1.push (seqObj "list" acc.toArray 0)).get? h1.objs.size=some (seqObj "list" acc.toArray 0):=Heap.get?_push_size _ rfl;have keep:∀ b o,s.heap.get? b=some o->(h1.push (seqObj "list" acc.toArray 0)).get? b=some o:=λb o e=>Heap.get?_push_of_some _ (hk b o e);show wpAny _ _ (_ >>= λ_=>_) _ _ { s with heap:=h1.push (seqObj "list" acc.toArray 0),toks:=tk,drawn:=d };generalize h1.push (seqObj "list" acc.toArray 0)=h2 at hoL keep ⊢;have I2:Inv X pins σ H { s with heap:=h2,toks:=tk,drawn:=d }:=I.G7 keep;have hDn:H h1.objs.size=none:=I1.hok.fresh (NH _);have fD:bY X pins H h1.objs.size:=I1.mR (NH _) hDn;generalize h1.objs.size=D at hoL hDn fD ⊢
 (refine wpAny_bind (wpAny_holding (wpAny_call_entry slot_list_sort ⟨_,hoL,rfl⟩ entry_list_sort ?body (args_list_sort _))))
 case body=>
  refine xp (s:={ s with heap:=h2,toks:=tk,drawn:=d }) (ds:=us'.map PyData.str) I2 hoL fD hv (λs' G _ h2 hG=>yL hv s' G h2 hG) (by lia) λp h' hp2 fQ I'=>?_;refine ⟨_,rfl,wpAny_pure ⟨_,rfl,?_⟩⟩;rw [NE] at hp2;have hlt:∀ i∈p,i<us'.length:=λi hi=>by have:=hp2.mem_iff.mp hi;simpa using this
  have e1:picked (us'.map V.str) p=(p.map λi=>us'.getD i Str.empty).map V.str:=by
   unfold picked;rw [Ow];refine Og λi hi=>?_;simp [NU,hlt i hi]
  have e2:(p.map λi=>(us'.map PyData.str).getD i .none)=(p.map λi=>us'.getD i Str.empty).map PyData.str:=by
   rw [Ow];refine Og λi hi=>?_;simp [NU,hlt i hi]
  have so:UpS (p.map λi=>us'.getD i Str.empty):=by
   unfold dG at fQ;rw [e2,Oq] at fQ;exact fQ
  rw [e1] at I';exact ⟨.ref _,_,I',rfl,q _ _ hDn ((Cw hp2).trans hp) so⟩
def KY:List Str->Hp->VK->Prop:=λus H Q=>Q (.int us.length) H
theorem AI:Eo X (.builtin "len") KY:=by
 intro pins s σ H S us Q I hS h;obtain ⟨o,es,ep,t,ho,hex,hd,_,hb,hf,_,_,_,hm⟩:=id hS;have e:=hm.length_eq;rw [NE,N2] at e;exact call_len_set ho hex hd hf (by unfold scanBound at hb;lia) ⟨.int us.length,H,I.tok _,⟨_,by rw [e]⟩,h⟩
end
end L2
namespace L2
open PySem PySem.Spec PyProof.Rows
section
variable {P:Program}{w:World}{A:Around}{E:Value->Shared->Prop}{s:Shared}{kf:Addr->Int×Str}
end
end L2
namespace L2
open PySem PySem.Spec PyProof.Rows PySem.W
section
variable {P:Program}{w:World}{A:Around}{E:Value->Shared->Prop}{s:Shared}
end
end L2
namespace L2
open PySem PySem.Spec PyProof.Rows
section
variable {X:Cx}{x y:Str}{p q pos Ci:Pos}{e:Expr}{t:TA}
end
end L2
namespace LG
open PySem L2 PySem.Builtin PySem.Builtin.Str
structure Mx (P N:List (List Pt)):Prop where
 nd:N.Nodup
 ko:qM N
 mem:∀ p,p∈N↔p∈P/\∀ q∈P,tu p q=true->q=p
def G5 (pss:List (List Pt)):PyData:=.list (pss.map br)
def kyD (n:Nat) (one other:List (List Pt)):PyData:=.list [.int n,G5 one,G5 other]
structure M5 (P Q:List (List Pt)) (l:List Str):Prop where
 wd:∀ x∈l,d5 x=true/\Bd x
 up:l.Pairwise λa b=>wlt b a=false
 all:∀ y,d5 y=true->∃ x∈l,wlt y x=false/\lz P x=lz P y/\lz Q x=lz Q y
def dr (n:Nat) (P:List (List Pt)):List (List Pt):=P.map (List.drop n)
def at_ (n:Nat) (w:Str) (P:List (List Pt)):List (List Pt):=P.filter λps=>(ps.getD n (.hole 2)).takes w
def ky (n:Nat) (P Q:List (List Pt)):Key:=.inr (Mj (kyD n P Q))
structure Base (m:Nat) (P0 Q0:List (List Pt)):Prop where
 m12:m<=12
 p:∀ ps∈P0,PW ps/\ps.length=m
 q:∀ ps∈Q0,PW ps/\ps.length=m
 lp:P0.length<=7
 lq:Q0.length<=8
structure KnK (P0 Q0:List (List Pt)) (kvs:List (Key×V)):Prop where
 nd:(kvs.map (·.1)).Nodup
 of:∀ k∈kvs.map (·.1),∃ n P Q,n<13/\P.Sublist P0/\Q.Sublist Q0/\k=ky n P Q
end LG
namespace LG
open PySem L2
section
variable {K:PySem.W.Frag}
def ptV:Pt->List V
 | .word w=>[.str "word",.str w]
 | .hole k=>[.str "hole",.str (bq k)]
def Fi (H:Hp) (v:V) (p:Pt):Prop:=∃ t,v = .ref t/\H t=some (.tup (ptV p))
def NL (o:HO):Prop:=∀ xs,o ≠ .lst xs
def tO (H:Hp):Hp:=λa=>match H a with
 | some (.lst _)=>none
 | o=>o
theorem pZ {H:Hp}{a:Addr}{o:HO} (h:tO H a=some o):NL o/\H a=some o:=by
 unfold tO at h
 split at h
 ·cases h
 ·rename_i n;exact ⟨λxs e=>n xs (by rw [h,e]),h⟩
theorem qa {H:Hp}{a:Addr}{o:HO} (h:H a=some o) (n:NL o):tO H a=some o:=by
 unfold tO
 split
 ·rename_i xs e;rw [h] at e;cases e;exact (n xs rfl).elim
 ·exact h
theorem zD {H H':Hp} (k:∀ a o,NL o->H a=some o->H' a=some o):ae (tO H) (tO H'):=λa o h=>by
 obtain ⟨n,e⟩:=pZ h;exact qa (k a o n e) n
theorem vz {xs:List V}:NL (.tup xs):=λys e=>by cases e
theorem B9 {o:Obj}{u:HO}:NL (.frz o u):=λys e=>by cases e
inductive PL (K:PySem.W.Frag) (H:Hp):List Addr->List (List Pt)->Prop
 | nil:PL K H [] []
 | cons {a:Addr}{ys:List V}{as:List Addr}{ps:List Pt}{pss:List (List Pt)} (h1:H a=some (.lst ys)) (h2:aB K (tO H) ys (ps.map Pt.dat)) (h3:a∉as) (t:PL K H as pss):PL K H (a::as) (ps::pss)
theorem Fi.den {H:Hp}{v:V}{p:Pt} (h:Fi H v p) (ok:PtW p):Den K (tO H) v p.dat:=by
 obtain ⟨t,rfl,h⟩:=h;cases p with
 | word w=>exact .tup (.of (qa h vz)) (.cons (.str (by decide +kernel)) (.cons (.str ok.2.2) .nil))
 | hole k=>exact .tup (.of (qa h vz)) (.cons (.str (by decide +kernel)) (.cons (.str qo) .nil))
theorem GC {H H':Hp} (s:ae H H'):ae (tO H) (tO H'):=zD λa o _ h=>s a _ h
theorem Ej {H:Hp}{a:Addr}{xs ys:List V} (h:H a=some (.lst xs)):ae (tO H) (tO (upd H a (.lst ys))):=zD λc o n hc=>by
 have:c≠a:=λz=>by rw [z,h] at hc;cases hc;exact n _ rfl
 rw [aw this];exact hc
theorem Hh {H:Hp}{v:V}{p:Pt} (h:Den K H v p.dat):Den K (tO H) v p.dat:=by
 have Ly:∀ {xs:List V}{ss:List Str},aB K H xs (ss.map PyData.str)->aB K (tO H) xs (ss.map PyData.str):=λ{xs ss}=>by
  induction ss generalizing xs with
  | nil=>intro h;cases h;exact .nil
  | cons s ss ih=>
   intro h;cases h with
   | cons a t=>
    cases a with
    | str ok=>exact .cons (.str ok) (ih t)
 have two:∀ {xs:List V}{a b:Str},aB K H xs [.str a,.str b]->aB K (tO H) xs [.str a,.str b]:=λ{xs a b} h=>Ly (ss:=[a,b]) h;cases p with
 | word w=>
  cases h with
  | tup hq t=>
   refine .tup ?_ (two t);rcases hq with (hq | ⟨o,hq⟩) | hq
   ·exact .inl (.inl (qa hq vz))
   ·exact .inl (.inr ⟨o,qa hq B9⟩)
   ·exact .inr hq
 | hole k=>
  cases h with
  | tup hq t=>
   refine .tup ?_ (two t);rcases hq with (hq | ⟨o,hq⟩) | hq
   ·exact .inl (.inl (qa hq vz))
   ·exact .inl (.inr ⟨o,qa hq B9⟩)
   ·exact .inr hq
theorem z5 {H:Hp}:∀ {ps:List Pt}{xs:List V},aB K H xs (ps.map Pt.dat)->aB K (tO H) xs (ps.map Pt.dat)
 | [],_,h=>by cases h;exact .nil
 | p::ps,_,h=>by
  cases h with
  | cons a t=>exact .cons (Hh a) (z5 t)
theorem Dc {ws:List Str}{ps:List Pt} (hw:∀ w∈ws,WOk w) (h:lh ws ps):PW ps:=λp hp=>by
 obtain ⟨i,hi⟩:=OR hp;have hl:=aG hi;obtain ⟨w,e⟩:=at_of (l:=ws) (i:=i) (by rw [<-h.1];exact hl);have hwo:=hw w (NF e);rcases h.2 i w p e hi with rfl | ⟨rfl,hk⟩ | rfl
 ·exact ⟨hwo.word,NM hwo.len (by decide),hwo.ok⟩
 ·show bZ w.cps.toList<3;lia
 ·exact (by decide:2<3)
end
end LG
namespace L2
open PySem PySem.Spec PyProof.Rows PySem.W
abbrev HD (X:Cx) (qual:Str) (scope:Scope) (q:Addr) (cd:Value) (L:Addr):Env:=envX qual scope L q cd (fL X.env.cells scope.names [])
def z7 (X:Cx) (N':List Str) (qual:Str) (scope:Scope) (q:Addr) (cd:Value) (s:Shared) (H:Hp):Cx where
 prog:=X.prog
 w:=X.w
 K:=X.K
 mg:=X.mg
 base:=X.base
 A:=X.A.in1.deeper (HD X qual scope q cd s.heap.objs.size)
 N:=N'
 s₀:=s
 H₀:=H
 env:=HD X qual scope q cd s.heap.objs.size
 outer:=X.stack
 stack:=HD X qual scope q cd s.heap.objs.size::X.stack
 ex:=[]
 calm:=true
 fn:=λ_=>false
 pn:=[]
 xe:=λ_ _=>False
structure vn (X:Cx) (scope:Scope) (N':List Str) (y:Str) (fi:List Nat):Prop where
 kind:scope.kind = .function
 co:scope.isCoroutine=false
 gen:scope.isGenerator=false
 CK:∀ x∈scope.names,x.2 ≠ .cell
 par:scope.names.lookup y=some .local
 free:∀ z∈scope.names,z.2 = .free->X.env.kindOf z.1=some .cell\/X.env.kindOf z.1=some .free
 hd:N'[0]? = some y
 len:N'.length=fi.length+1
 at':∀ (j:Nat) (k:Nat),fi[j]? = some k->∃ x,N'[j+1]? = some x/\X.N[k]? = some x/\scope.names.lookup x=some .free
def FQ (v:V) (fi:List Nat) (σ:St):St:=some v::fi.map λk=>(σ[k]?).join
theorem kT {x:Str}:∀ {l:List (Str×NameKind)},l.lookup x=some .free->(x,NameKind.free)∈l
 | [],e=>by cases e
 | (n',q)::r,e=>by
  rw [OL] at e;cases hb:x == n' with
  | true=>rw [hb] at e;cases e;rw [beq_iff_eq.mp hb];exact NT
  | false=>rw [hb] at e;exact NN _ (kT e)
section
variable {X:Cx}{pins:List (Addr×Obj)}{σ:St}{H:Hp}{s:Shared}{scope:Scope}{N':List Str}{y:Str}{fi:List Nat}{h':Heap}{qual:Str}{q:Addr}{cd:Value}{v:V}{u:Value}{tk:Tok}
theorem Fh (I:Inv X pins σ H s) (hc:X.calm=true) (S:vn X scope N' y fi) (rv:RelV v u) (hns:h'.Ns s.heap.objs.size (λx=>[(y,u)].reverse.lookup x)) (hk:∀ b o,s.heap.get? b=some o->h'.get? b=some o) :
  Inv (z7 X N' qual scope q cd s H) [] (FQ v fi σ) H { s with heap:=h',toks:=tk }:=by
 have e0:=I.Fs.in1;have sub:∀ {x:Str}{c:Addr},(fL X.env.cells scope.names []).lookup x=some c->X.env.cells.lookup x=some c:=λ{x c} h=>nq _ _ (λ_ _ z=>by cases z) h;have has:∀ {x:Str},(x,NameKind.free)∈scope.names->∃ d,(fL X.env.cells scope.names []).lookup x=some d:=λ{x} hm=>mV _ _ (.inr ⟨hm,I.ok.has _ (S.free _ hm rfl)⟩);have noA:∀ b:Addr,b∉(z7 X N' qual scope q cd s H).ex:=λb z=>absurd (show b∈([]:List Addr) from z) (by simp);refine ⟨⟨e0.mod,S.kind,rfl,rfl,NH _,λx z c h1 h2=>?_,λx hx=>?_,λx c hx _=>?_,λ_=>I.ok.hd hc,Around.frames_deeper e0.frames,.inr ⟨rfl,rfl⟩,λb z=>absurd z (noA b),e0.bs,e0.bsz,λb _ _=>noA b,λb z=>absurd z (noA b),e0.oB,e0.frf⟩,
  rfl,e0.bare,Un.kept hk,⟨_,hns,λi x w h1 h2 h3=>?_⟩,λx c h=>?_,e0.hok.fresh (NH _),λx c h=>?_,λp hp=>absurd (show p∈([]:List (Addr×Obj)) from hp) (by simp),e0.hok.kept hk,?_⟩
 ·exact I.ok.inj x z c (sub h1) (sub h2)
 ·have hx:scope.names.lookup x=some .cell\/scope.names.lookup x=some .free:=hx;rcases hx with hx | hx
  ·exact absurd rfl (S.CK _ (PySem.mem_of_lookup hx))
  ·exact has (kT hx)
 ·have hx:false=true:=hx;cases hx
 ·cases i with
  | zero=>
   have h1':N'[0]? = some x:=h1;rw [S.hd] at h1';cases h1';have h2':some (some v)=some (some w):=h2;cases h2';exact ⟨u,rv,.inl ⟨S.par,by simp⟩⟩
  | succ j=>
   have h2':(fi.map λk=>(σ[k]?).join)[j]? = some (some w):=h2;rw [NK] at h2';cases ek:fi[j]? with
   | none=>rw [ek] at h2';cases h2'
   | some k=>
    rw [ek] at h2';have uX:(σ[k]?).join=some w:=Option.some.inj h2';have hσ:σ[k]? = some (some w):=by
     cases z:σ[k]? with
     | none=>rw [z] at uX;cases uX
     | some w'=>rw [z] at uX;exact congrArg some uX
    obtain ⟨x',e1,e2,e3⟩:=S.at' j k ek;have h1':N'[j+1]? = some x:=h1;rw [e1] at h1';cases h1';have hm:=kT e3;have kx:=S.free _ hm rfl;have vis:Vis X.env.scope x:=kx.elim (λz=>.inr (.inl z)) λz=>.inr (.inr z);obtain ⟨m0,hn0,hl0⟩:=I.loc;obtain ⟨u',ru,lk⟩:=hl0 k x w e2 hσ vis;refine ⟨u',ru,.inr ⟨.inr e3,?_⟩⟩;rcases lk with ⟨kl,_⟩ | ⟨_,c,ec,uC⟩
    ·rcases kx with z | z <;> (rw [show X.env.kindOf x=_ from kl] at z;cases z)
    ·obtain ⟨d,hd⟩:=has hm;have:=sub hd;rw [ec] at this;cases this;exact ⟨c,hd,uC.keeps hk⟩
 ·obtain ⟨z,hz⟩:=I.cell x c (sub h);exact ⟨z,hz.keeps hk⟩
 ·exact I.j8 x c (sub h)
 ·show (FQ v fi σ).length=N'.length;rw [S.len];simp [FQ]
def pA (c:Addr) (qual:Str):HO:=.ext λh=>h.CodeRec (.ref c) qual
def Ep (te:TE) (fi:List Nat) (σ:St) (c:Addr) (qual:Str):Sp:=λvs H Q _=>∃ v,vs=[v]/\H c=some (pA c qual)/\te (FQ v fi σ) H Q
theorem AM {k:Nat}{name:Str}{params:Arguments}{body:Expr}{pm ctv:Value}{c':Addr}{te:TE} (hc:X.calm=true) (hr:cn (k+1) X.A) (S:vn X scope N' y fi)
  (hq:(q,kla_obj name qual params body scope (fL X.env.cells scope.names []) pm c' ctv)∈pins)
  (hb:∀ w,bindArgs (kla_fn name qual params body scope (fL X.env.cells scope.names []) pm (.ref c') ctv) ⟨[w],[]⟩=pure [(y,w)])
  (iW:∀ s H,PE (z7 X N' qual scope q (.ref c') s H) body te):tI X pins σ q (Ep te fi σ c' qual):=by
 intro more H s x u Q I rx h;obtain ⟨v,e,hcx,h⟩:=h;cases e;have pin:=λp hp=>(I.pin p (Ob _ (Pa _ hp))).1;refine kla_callFunE hr.in1.depth (pin _ hq) rfl S.co S.gen rfl (I.hok _ _ hcx).1 ?_;show wpAny _ _ (bindArgs (kla_fn name qual params body scope (fL X.env.cells scope.names []) pm (.ref c') ctv) ⟨[u],[]⟩) _ _ _;rw [hb];refine wpAny_pure (wpAny_newFunctionEnv S.CK (λz hz=>by rw [NQ.mp hz];exact S.par) (λh₁ hns hsb=>?_) S.kind);have hk₁:∀ b o,s.heap.get? b=some o->h₁.get? b=some o:=λb o e=>hsb.extBut b o (N3 (Heap.lt_size e)) (Heap.get?_push_of_some _ e);refine ⟨I.nolimit.keeps hk₁,?_⟩;refine kla_codeExpr (wpAny_mono (iW s H [] _ _ H Q (Fh (pins:=pins++more) (σ:=σ) I hc S rx hns hk₁) h) (λv' s' z=>?_) λ_ _ z=>z.elim);obtain ⟨w,H',J,rw',qw⟩:=z;exact ⟨w,H',J.os,J.bare,J.base,J.hok,rw',qw⟩
theorem DM {P:Program}{w:World}{H:Hp}{h:Heap}{c:Addr} (x:h.CodeRec (.ref c) qual):b8 P w H h c (pA c qual):=by
 refine ⟨x,?_,λh1 h2 a k=>?_⟩
 ·obtain ⟨c0,o,vs,t,e,g,r⟩:=x;cases e;exact ⟨o,g⟩
 ·obtain ⟨c0,o,vs,t,e,g,r⟩:=a;cases e;exact ⟨c,o,vs,t,rfl,k _ g,r⟩
theorem Inv.grown {P c':Addr}{ps more:Array Value}{t':Tok} (I:Inv X pins σ H s) (hP:H P=some (.tbl ps)) (hk:Heap.ExtBut P s.heap h') (hc:s.heap.objs.size<=c') (ht:h'.get? P=some (tabObj (ps++more))) (hr:h'.CodeRec (.ref c') qual) :
  Inv X pins σ (upd (upd H P (.tbl (ps++more))) c' (pA c' qual)) { s with heap:=h',toks:=t' }:=by
 have hn:H c' = none:=I.hok.fresh hc;have hPc:P≠c':=ao hP hn;have hPl:P≠X.env.locals:=ao hP I.free;have at_:∀ b,b≠P->b≠c'->upd (upd H P (.tbl (ps++more))) c' (pA c' qual) b=H b:=λb h1 h2=>by rw [aw h2,aw h1]
 have lt:∀ {b:Addr}{o:Obj},s.heap.get? b=some o->b≠c':=λ{b o} e z=>by
  have:=Heap.lt_size e;rw [z] at this;exact absurd (N9 this hc) (Oy _)
 have nP:∀ {b:Addr},H b=none->b≠P:=λ{b} e z=>by rw [z,hP] at e;cases e
 refine I.step (g':=s.gens) (d':=s.drawn) (ch:=[]) (λb z=>absurd z (by simp)) (λb o _ _ _ e n=>hk b o (nP n) e) (λb o _ _ _ e n=>⟨o.slots,hk b o (nP n) e⟩) (λb o _ e n=>?_) (λb o _ e=>?_) (λb xs e=>?_) (λb o u e=>?_) (λb qs e=>?_) (λm hm=>?_) ?_ I.bare
 ·rw [at_ b (nP n) (lt e)];exact n
 ·by_cases hb:b=P
  ·exact ⟨_,by rw [hb];exact ht⟩
  ·exact ⟨o,hk b o hb e⟩
 ·have h1:b≠P:=λz=>by rw [z,hP] at e;cases e
  rw [at_ b h1 (ao e hn)];exact e
 ·have h1:b≠P:=λz=>by rw [z,hP] at e;cases e
  rw [at_ b h1 (ao e hn)];exact e
 ·by_cases hb:b=P
  ·subst hb;rw [hP] at e;cases e;exact ⟨more,by rw [aw hPc,ab]⟩
  ·exact ⟨#[],by rw [at_ b hb (ao e hn),e];simp⟩
 ·obtain ⟨o,es,ep,e,r⟩:=hm;exact ⟨o,es,ep,hk _ _ (Ne.symm hPl) e,r⟩
 ·intro b u e;by_cases hb:b=c'
  ·subst hb;rw [ab] at e;cases e;exact DM hr
  ·rw [aw hb] at e;by_cases hp:b=P
   ·subst hp;rw [ab] at e;cases e;exact ht
   ·rw [aw hp] at e;refine (I.hok b u e).vp (λc o hc' q=>hk c o ?_ q) (λc q=>?_) λc xs q=>?_
    ·rintro rfl;rcases hc' with z | z
     ·exact hp z.symm
     ·rw [hP] at z;cases z
    ·have h1:c≠P:=λz=>by rw [z,hP] at q;cases q
     rw [at_ c h1 (ao q hn)];exact q
    ·have h1:c≠P:=λz=>by rw [z,hP] at q;cases q
     rw [at_ c h1 (ao q hn)];exact q
end
def o5 (P:Addr) (pos:Pos) (qual:Str) (H:Hp):Prop:=∃ ps,H P=some (.tbl ps)/\TriplesOk ps.toList/\(codeAmong pos ps.toList=none\/∃ c,codeAmong pos ps.toList=some (.ref c)/\H c=some (pA c qual))
def Kw (K:PySem.W.Frag) (P:Addr) (rU:Pos) (qual:Str) (te:TE) (fi:List Nat) (ta:TA):TE:=λσ H Q=>ta σ H λvs H1=>∃ x,vs=[x]/\o5 P rU qual H1 /\
 ∀ c H2,(H2=H1\/∃ ps,H1 P=some (.tbl ps)/\H1 c=none/\H2=upd (upd H1 P (.tbl (ps ++ #[rawInt rU.line,rawInt rU.col,.ref c]))) c (pA c qual))->o5 P rU qual H2->H2 c=some (pA c qual)->tq K (Ep te fi σ c qual) x H2 Q
section
variable {X:Cx}
def ME (X:Cx):Prop:=∃ bm o,X.mg "__builtins__" = some (.ref bm)/\bm≠builtinsNs/\bm≠mainGlobals/\X.K.lookup bm=some o/\o.cls = .type "module" /\ o.dict=some builtinsNs/\o.data = .plain
theorem nc {a b:Int}{c:Value}:∀ {l:List Value},TriplesOk l->TriplesOk (l++[.int a 0,.int b 0,c])
 | [],_=>trivial
 | .int _ _ :: .int _ _::_::r,h=>nc (l:=r) h
 | .int _ _ :: .int _ _::[],h=>h.elim
 | .int _ _::[],h=>h.elim
theorem FZ {k:Nat}{c P:Addr}{y:Str}{e:Expr}{ta:TA}{te:TE}{kn:Nat}{p rU pos kp pd kp2:Pos}{params:Arguments}{body:Expr}{scope:Scope}{N':List Str}{fi:List Nat} (hc:X.calm=true) (hr:cn (k+1) X.A) (S:vn X scope N' y fi)
  (GX:X.env.code = .ref c) (hC:∀ h:Heap,X.K.In h->CodeHd h c P) (hB:ME X)
  (iW:∀ q c' s H,PE (z7 X N' (X.env.qual ++ "<lambda>") scope q (.ref c') s H) body te)
  (hg:Gl X "min") (hm:X.mg "min" = none) (ha:PA X [e] ta)
  (hb:∀ cl pm c' ctv w,bindArgs (kla_fn "<lambda>" (X.env.qual ++ "<lambda>") params body scope cl pm (.ref c') ctv) ⟨[w],[]⟩=pure [(y,w)]:=by intros;rfl) (MQ:defaultsOf params X.env=([],[]):=by rfl)
  (he:backTo pos (starEach [e] X.env)=(false,eval e X.env)::backTo pos (starEach [] X.env):=by rfl) (jG:(backTo pos (starEach [e] X.env)).any (·.1)=false:=by rfl)
  (fU:(backToKw pos (keywordEach [⟨some "key",.Lambda params body scope rU,kp⟩,⟨some "default",.Constant .none kn pd,kp2⟩] X.env)).all (·.1.isSome)=true:=by rfl) (hkw:(backToKw pos (keywordEach [⟨some "key",.Lambda params body scope rU,kp⟩,⟨some "default",.Constant .none kn pd,kp2⟩] X.env)).any (·.1.isNone)=false:=by rfl) :
  PE X (.Call (.Name "min" p) [e] [⟨some "key",.Lambda params body scope rU,kp⟩,⟨some "default",.Constant .none kn pd,kp2⟩] pos) (Kw X.K P rU (X.env.qual ++ "<lambda>") te fi ta):=by
 intro pins s σ H Q I h;refine wpAny_Call_Name_kw (eR I hg hm rh ?_);refine callWith_kw (thn (ha pos pins s σ H _ I h) λus s1 ⟨vs,H1,I1,r1,q1⟩=>?_) he jG fU hkw;obtain ⟨x,rfl,la,q⟩:=q1;obtain ⟨u,rfl,ru⟩:=r1.one;obtain ⟨ps,hP,ht,hcs⟩:=id la;have hPg:s1.heap.get? P=some (tabObj ps):=I1.hok P _ hP;have hcl:closureFor scope X.env=pure (fL X.env.cells scope.names []):=qO λz hz hk=>I1.ok.has _ (S.free z hz hk);have hgl:s1.heap.Ns mainGlobals X.mg:=I1.mod.glob.keeps I1.bk;have gN:H1 mainGlobals=none:=by
  obtain ⟨o,es,ep,e',_⟩:=I1.mod.glob;exact (I1.bs _ _ e').2
 have hgP:mainGlobals≠P:=λz=>by rw [z,hP] at gN;cases gN
 have hbu:s1.heap.BuiltinsAt X.mg P:=by
  obtain ⟨bm,o,b1,b2,b3,b4,b5⟩:=hB;have hb4:=I1.mod.kin bm o b4;have:=(I1.bs _ _ hb4).2;exact ⟨bm,o,b1,b2,b3,(λz=>by rw [z,hP] at this;cases this),(I1.bs _ _ hb4).1,b5⟩
 have fin:∀ (c':Addr) (ctv:Value) (h':Heap) (tk:Tok) (H2:Hp),Inv X pins σ H2 { s1 with heap:=h',toks:=tk }->tq X.K (Ep te fi σ c' (X.env.qual ++ "<lambda>")) x H2 Q ->
   wpAny (model X.prog X.w) X.A (evalAll ((backToKw pos (keywordEach [⟨some "default",.Constant .none kn pd,kp2⟩] X.env)).map (·.2))) (λkvs s₂=>wpAny (model X.prog X.w) X.A (call (.builtin "min") [u] (((backToKw pos (keywordEach [⟨some "key",.Lambda params body scope rU,kp⟩,⟨some "default",.Constant .none kn pd,kp2⟩] X.env)).filterMap (·.1)).zip (.ref h'.objs.size::kvs))) (EP X pins σ Q) X.xe s₂) X.xe
    { s1 with heap:=h'.push (kla_obj "<lambda>" (X.env.qual ++ "<lambda>") params body scope (fL X.env.cells scope.names []) ((X.mg "__name__").getD .none) c' ctv),toks:=tk }:=λc' ctv h' tk H2 I2 q2=>by
  refine kws_cons (Constant_none (kws_nil ?_));have hn:H2 h'.objs.size=none:=I2.hok.fresh (NH _);have I3:Inv X pins σ H2 { s1 with heap:=h'.push (kla_obj "<lambda>" (X.env.qual ++ "<lambda>") params body scope (fL X.env.cells scope.names []) ((X.mg "__name__").getD .none) c' ctv),toks:=tk }:=I2.kept (s:={ s1 with heap:=h',toks:=tk }) (t':=tk) λb o e=>Heap.get?_push_of_some _ e;have I4:Inv X (pins++[(h'.objs.size,kla_obj "<lambda>" (X.env.qual ++ "<lambda>") params body scope (fL X.env.cells scope.names []) ((X.mg "__name__").getD .none) c' ctv)]) σ H2 { s1 with heap:=h'.push (kla_obj "<lambda>" (X.env.qual ++ "<lambda>") params body scope (fL X.env.cells scope.names []) ((X.mg "__name__").getD .none) c' ctv),toks:=tk }:=I3.nK λz hz=>by
   rcases Oa.mp hz with w | w
   ·exact I3.pin z (Ob _ w)
   ·rw [NQ.mp w];exact ⟨Heap.get?_push_size _ rfl,hn,Nat.ne_of_gt I2.lt,I2.K0 (NH _),λv z=>by cases z⟩
  exact thn (qd (AM (k:=k) hc hr S (Ob _ (NQ.mpr rfl)) (hb _ _ _ _) (iW _ _)) hr hc I4 ru q2) λv s' ⟨w,H',J,rw',qw⟩=>⟨w,H',J.gO,rw',qw⟩
 refine kws_cons (kla_eval MQ ?_);rcases hcs with hnf | ⟨c',hf,hcx⟩
 ·refine kla_makeFunction hcl I1.ok.glob hgl GX (hC _ I1.kIn) hPg ht hnf hgP hbu λc' ctv h' tk hk h1 h2 h3 h4=>?_;have hn:H1 c' = none:=I1.hok.fresh h1;have hPc:P≠c':=ao hP hn;have I2:=I1.grown (t':=tk) hP hk h1 h4 h3;refine fin c' ctv h' tk _ I2 (q c' _ (.inr ⟨ps,hP,hn,rfl⟩) ⟨_,by rw [aw hPc,ab],?_,.inr ⟨c',?_,ab⟩⟩ ab)
  ·rw [Px];exact nc ht
  ·rw [Px];exact codeAmong_snoc _ ht hnf
 ·refine kla_makeFunctionHit hcl I1.ok.glob hgl GX (hC _ I1.kIn) hPg ht hf hbu λctv h' tk hk h1=>?_;have I2:Inv X pins σ H1 { s1 with heap:=h',toks:=tk }:=I1.kept (t':=tk) hk;exact fin c' ctv h' tk _ I2 (q c' _ (.inl rfl) la hcx)
end
def Kf (sc osc:Scope) (N N':List Str) (y:Str) (fi:List Nat):Bool:=
 decide (sc.kind = .function) && decide (sc.isCoroutine=false) && decide (sc.isGenerator=false) && decide (∀ x∈sc.names,x.2 ≠ .cell) && decide (sc.names.lookup y=some .local)
 && decide (∀ z∈sc.names,z.2 = .free->osc.names.lookup z.1=some .cell\/osc.names.lookup z.1=some .free)
 && decide (N'[0]? = some y) && decide (N'.length=fi.length+1)
 && (List.range fi.length).all λj=>match fi[j]? with
  | some k=>match N'[j+1]? with
   | some x=>decide (N[k]? = some x) && decide (sc.names.lookup x=some .free)
   | none=>false
  | none=>false
theorem HI {X:Cx}{sc:Scope}{N':List Str}{y:Str}{fi:List Nat} (osc:Scope) (N:List Str) (h:Kf sc osc N N' y fi=true) (e1:X.env.scope=osc:=by rfl) (e2:X.N=N:=by rfl):vn X sc N' y fi:=by
 subst e1 e2;simp only [Kf,Om,decide_eq_true_eq] at h;obtain ⟨⟨⟨⟨⟨⟨⟨⟨h1,h2⟩,h3⟩,h4⟩,h5⟩,h6⟩,h7⟩,h8⟩,h9⟩:=h;refine ⟨h1,h2,h3,h4,h5,h6,h7,h8,λj k hj=>?_⟩;have hlt:j<fi.length:=by
  rcases Oi j fi.length with q | q
  ·exact q
  ·rw [Ou q] at hj;cases hj
 have g:=Od.mp h9 j (Oh.mpr hlt);rw [hj] at g;dsimp only at g;cases e:N'[j+1]? with
 | none=>rw [e] at g;cases g
 | some x=>
  rw [e] at g;simp only [Om,decide_eq_true_eq] at g;exact ⟨x,rfl,g.1,g.2⟩
structure IX (K:PySem.W.Frag) (mg:Str->Option Value) (fd:FuncData) (c P:Addr):Prop where
 code:fd.code = .ref c
 hd:∀ h:Heap,K.In h->CodeHd h c P
 bm:∃ bm o,mg "__builtins__" = some (.ref bm)/\bm≠builtinsNs/\bm≠mainGlobals/\K.lookup bm=some o/\o.cls = .type "module" /\ o.dict=some builtinsNs/\o.data = .plain
structure Je (K:PySem.W.Frag) (x qual:Str) (st:Stmt) (f:Addr) (fd:FuncData):Prop where
 ex:∃ (oc:Value) (od:Option Addr) (dV kV doc pm:Value) (an:Option Addr) (cdv ct:Value) (osl:Array (Option Value)),
  fd=PySem.W.fnOf x qual (d8 st) (c5 st) (ah st) dV kV doc pm an cdv ct/\K.lookup f=some ⟨oc,od,.func fd,osl⟩/\PySem.W.codeIn K cdv qual=true
 kp:PySem.W.keepIn K (.ref f)=true
structure ya (K:PySem.W.Frag) (mg:Str->Option Value) (x:Str) (st:Stmt) (ps:List Str) (f:Addr) (fd:FuncData):Prop where
 fn:Je K x x st f fd
 bd:Binds K fd ps []
 mg:mg x=some (.ref f)
section
variable {P:Program}{w:World}{K:PySem.W.Frag}{mg:Str->Option Value}{base:Heap}
theorem Fun.okC {x qual:Str}{st:Stmt}{f c:Addr}{fd:FuncData}{N ps:List Str}{k:Nat}{sp:Sp} (F:Fun K x qual st f fd) (hcc:fd.code = .ref c) (S:aE N ps (ah st)) (len:∀ vs H Q E,sp vs H Q E->vs.length=ps.length)
  (iW:∀ (A:Around) (outer:List Env) (s:Shared) (H:Hp) (vs:List V) (Q:VK) (E:XK),cn k (A.deeper (envOfC qual (ah st) s.heap.objs.size f (.ref c)))->sp vs H Q E ->
   ∃ t,PSs (xA CX0 P w K mg base N qual (ah st) f (.ref c) A outer s H E).nox (c5 st) t/\t { nx:=λ_ H'=>Q .non H',rt:=Q } (start N vs) H):aA P w K mg base CX0 (k+1) f fd ps sp:=by
 obtain ⟨oc,od,kV,doc,pm,an,cdv,ct,osl,rfl,lk,hcd⟩:=F.ex;obtain rfl:cdv = .ref c:=hcc;refine B8 lk hcd S len λA outer s H vs Q E hr hsp=>?_;obtain ⟨t,h,q⟩:=iW A outer s H vs Q E hr hsp;exact ⟨t,h.nox,q⟩
theorem Je.ok {x qual:Str}{st:Stmt}{f:Addr}{fd:FuncData}{N ps:List Str}{k:Nat}{sp:Sp} (F:Je K x qual st f fd) (S:aE N ps (ah st)) (len:∀ vs H Q E,sp vs H Q E->vs.length=ps.length)
  (iW:∀ (cdv:Value) (A:Around) (outer:List Env) (s:Shared) (H:Hp) (vs:List V) (Q:VK) (E:XK),cn k (A.deeper (envOfC qual (ah st) s.heap.objs.size f cdv))->sp vs H Q E ->
   ∃ t,PSs (xA CX0 P w K mg base N qual (ah st) f cdv A outer s H E).nox (c5 st) t/\t { nx:=λ_ H'=>Q .non H',rt:=Q } (start N vs) H):aA P w K mg base CX0 (k+1) f fd ps sp:=by
 obtain ⟨oc,od,dV,kV,doc,pm,an,cdv,ct,osl,rfl,lk,hcd⟩:=F.ex;refine B8 lk hcd S len λA outer s H vs Q E hr hsp=>?_;obtain ⟨t,h,q⟩:=iW cdv A outer s H vs Q E hr hsp;exact ⟨t,h.nox,q⟩
end
end L2
namespace LG
open PySem L2
def bN {α:Type} (st:List (Key×List α)) (k:Key) (x:α):List (Key×List α):=
 if (st.any λp=>decide (p.1=k))=true then st.map (λp=>if p.1=k then (p.1,p.2++[x]) else p) else st++[(k,[x])]
def bU {α:Type} (l:List (Key×α)):List (Key×List α):=l.foldl (λst p=>bN st p.1 p.2) []
def grp {α:Type} (ks:List Key) (xs:List α):List (List α):=(bU (ks.zip xs)).map (·.2)
theorem wH {α:Type}{l:List (Key×α)}{i:Nat}{p:Key×α} (h:l[i]? = some p):bU (l.take (i+1))=bN (bU (l.take i)) p.1 p.2:=by
 unfold bU;rw [NY,h,List.foldl_append];rfl
inductive fE {α β:Type} (R:α->β->Prop):List α->List β->Prop
 | nil:fE R [] []
 | cons {a:α}{b:β}{l:List α}{m:List β} (h:R a b) (t:fE R l m):fE R (a::l) (b::m)
theorem fE.len {α β:Type}{R:α->β->Prop}{l:List α}{m:List β} (h:fE R l m):l.length=m.length:=by
 induction h with
 | nil=>rfl
 | cons _ _ ih=>rw [N4,N4,ih]
theorem fE.mono {α β:Type}{R S:α->β->Prop} (f:∀ a b,R a b->S a b) {l:List α}{m:List β} (h:fE R l m):fE S l m:=by
 induction h with
 | nil=>exact .nil
 | cons h _ ih=>exact .cons (f _ _ h) ih
theorem fE.snoc {α β:Type}{R:α->β->Prop}{l:List α}{m:List β}{a:α}{b:β} (h:fE R l m) (r:R a b):fE R (l++[a]) (m++[b]):=by
 induction h with
 | nil=>exact .cons r .nil
 | cons h _ ih=>exact .cons h ih
theorem fE.at {α β:Type}{R:α->β->Prop}{l:List α}{m:List β} (h:fE R l m):∀ {i:Nat}{a:α},l[i]? = some a->∃ b,m[i]? = some b/\R a b:=by
 induction h with
 | nil=>intro i a e;cases e
 | cons h _ ih=>
  intro i a e;cases i with
  | zero=>cases e;exact ⟨_,rfl,h⟩
  | succ i=>exact ih e
def Ef {α β:Type} (R:α->β->Prop) (p:Key×List α) (q:Key×List β):Prop:=p.1=q.1/\fE R p.2 q.2
theorem F9 {α β:Type}{R:α->β->Prop}{st:List (Key×List α)}{tt:List (Key×List β)}{k:Key}{x:α}{y:β} (h:fE (Ef R) st tt) (r:R x y):fE (Ef R) (bN st k x) (bN tt k y):=by
 have ea:(st.any λp=>decide (p.1=k))=(tt.any λp=>decide (p.1=k)):=by
  induction h with
  | nil=>rfl
  | cons h _ ih=>rw [OP,OP,ih,h.1]
 unfold bN;rw [ea]
 split
 ·rename_i hh;clear ea hh
  induction h with
  | nil=>exact .nil
  | @cons a b l m h _ ih=>
   refine .cons ?_ ih;show Ef R (if a.1=k then (a.1,a.2++[x]) else a) (if b.1=k then (b.1,b.2++[y]) else b);rw [h.1]
   split
   ·exact ⟨rfl,h.2.snoc r⟩
   ·exact h
 ·exact h.snoc ⟨rfl,.cons r .nil⟩
theorem zB {α β:Type}{R:α->β->Prop}{xs:List α}{ys:List β} (h:fE R xs ys) (ks:List Key):fE (fE R) (grp ks xs) (grp ks ys):=by
 have go:∀ (ks:List Key) {xs:List α}{ys:List β}{st:List (Key×List α)}{tt:List (Key×List β)},fE R xs ys->fE (Ef R) st tt->fE (Ef R) ((ks.zip xs).foldl (λst p=>bN st p.1 p.2) st) ((ks.zip ys).foldl (λst p=>bN st p.1 p.2) tt):=λks=>by
  induction ks with
  | nil=>intro xs ys st tt _ h;simpa using h
  | cons k ks ih=>
   intro xs ys st tt h1 h2;cases h1 with
   | nil=>simpa using h2
   | cons r t=>exact ih t (F9 h2 r)
 have z:=go ks h (st:=[]) (tt:=[]) .nil;unfold grp bU;generalize (ks.zip xs).foldl (λst p=>bN st p.1 p.2) []=a at z;generalize (ks.zip ys).foldl (λst p=>bN st p.1 p.2) []=b at z
 induction z with
 | nil=>exact .nil
 | cons h _ ih=>exact .cons h.2 ih
inductive GL (H0 H:Hp) (D:Addr):List Addr->List (Key×V)->List (Key×List V)->Prop
 | nil:GL H0 H D [] [] []
 | cons {a:Addr}{k:Key}{g:List V}{as:List Addr}{kvs:List (Key×V)}{st:List (Key×List V)} (h:H a=some (.lst g)) (hn:H0 a=none) (hD:a≠D) (ha:a∉as) (hk:k∉kvs.map (·.1)) (hs:st.map (·.1)=kvs.map (·.1)) (t:GL H0 H D as kvs st):GL H0 H D (a::as) ((k,.ref a)::kvs) ((k,g)::st)
theorem GL.keys {H0 H:Hp}{D:Addr}{as:List Addr}{kvs:List (Key×V)}{st:List (Key×List V)} (h:GL H0 H D as kvs st):st.map (·.1)=kvs.map (·.1):=by
 cases h with
 | nil=>rfl
 | cons _ _ _ _ _ hs _=>simp [hs]
theorem GL.vals {H0 H:Hp}{D:Addr}{as:List Addr}{kvs:List (Key×V)}{st:List (Key×List V)} (h:GL H0 H D as kvs st):kvs.map (·.2)=as.map V.ref:=by
 induction h with
 | nil=>rfl
 | cons _ _ _ _ _ _ _ ih=>simp [ih]
theorem GL.lists {H0 H:Hp}{D:Addr}{as:List Addr}{kvs:List (Key×V)}{st:List (Key×List V)} (h:GL H0 H D as kvs st):fE (λa g=>H a=some (.lst g)) as (st.map (·.2)):=by
 induction h with
 | nil=>exact .nil
 | cons h _ _ _ _ _ _ ih=>exact .cons h ih
theorem GL.mem {H0 H:Hp}{D:Addr}{as:List Addr}{kvs:List (Key×V)}{st:List (Key×List V)} (h:GL H0 H D as kvs st):∀ a∈as,(∃ g,H a=some (.lst g))/\H0 a=none/\a≠D:=by
 induction h with
 | nil=>intro a ha;cases ha
 | cons h hn hD _ _ _ _ ih=>
  intro a ha;rcases NZ.mp ha with e | ha
  ·rw [e];exact ⟨⟨_,h⟩,hn,hD⟩
  ·exact ih a ha
theorem GL.keep {H0 H H':Hp}{D:Addr}{as:List Addr}{kvs:List (Key×V)}{st:List (Key×List V)} (h:GL H0 H D as kvs st) (k:∀ a∈as,H' a=H a):GL H0 H' D as kvs st:=by
 induction h with
 | nil=>exact .nil
 | cons h hn hD ha hk hs t ih=>exact .cons ((k _ (.head _)).trans h) hn hD ha hk hs (ih λa z=>k a (.tail _ z))
theorem GL.snoc {H0 H:Hp}{D L:Addr}{k:Key}{g:List V}{as:List Addr}{kvs:List (Key×V)}{st:List (Key×List V)} (h:GL H0 H D as kvs st) (hL:H L=some (.lst g)) (hn:H0 L=none) (hD:L≠D) (ha:L∉as) (hk:k∉kvs.map (·.1)) :
  GL H0 H D (as++[L]) (kvs++[(k,.ref L)]) (st++[(k,g)]):=by
 induction h with
 | nil=>exact .cons hL hn hD (by simp) (by simp) rfl .nil
 | @cons a k' g' as kvs st h hn' hD' ha' hk' hs t ih=>
  rw [NZ,not_or] at ha;simp only [N1,NZ,not_or] at hk;refine .cons h hn' hD' ?_ ?_ (by simp [hs]) (ih ha.2 hk.2)
  ·show a∉as++[L];rw [Oa,not_or];exact ⟨ha',λz=>ha.1 (NQ.mp z).symm⟩
  ·show k'∉(kvs++[(k,V.ref L)]).map (·.1)
   rw [NS,Oa,not_or];exact ⟨hk',λz=>hk.1 (NQ.mp z).symm⟩
theorem BO {kvs:List (Key×V)}{k:Key} (h:dY kvs k=none):k∉kvs.map (·.1)/\(kvs.any λkv=>decide (kv.1=k))=false:=by
 induction kvs with
 | nil=>exact ⟨by simp,rfl⟩
 | cons p r ih=>
  by_cases e:p.1=k
  ·rw [kF e] at h;cases h
  ·have h':dY r k=none:=by
    unfold dY at h ⊢;rw [OW,decide_eq_false e] at h;exact h
   obtain ⟨h1,h2⟩:=ih h';refine ⟨λz=>?_,by rw [OP,decide_eq_false e,h2];rfl⟩;rcases NZ.mp z with w | w
   ·exact e w.symm
   ·exact h1 w
theorem any_keys {α β:Type}{st:List (Key×α)}{kvs:List (Key×β)} (h:st.map (·.1)=kvs.map (·.1)) (k:Key):(st.any λp=>decide (p.1=k))=(kvs.any λp=>decide (p.1=k)):=by
 have a:∀ {γ:Type} (l:List (Key×γ)),(l.any λp=>decide (p.1=k))=(l.map (·.1)).any λx=>decide (x=k):=λl=>by
  rw [List.any_map];rfl
 rw [a,a,h]
theorem GL.grow {H0 H:Hp}{D:Addr}{as:List Addr}{kvs:List (Key×V)}{st:List (Key×List V)}{k:Key}{v x:V} (h:GL H0 H D as kvs st):dY kvs k=some v->∃ a g,v = .ref a/\a∈as/\H a=some (.lst g)/\g∈st.map (·.2)/\GL H0 (upd H a (.lst (g++[x]))) D as kvs (bN st k x):=by
 have key:∀ {as kvs st},GL H0 H D as kvs st->dY kvs k=some v->∃ a g,v = .ref a/\a∈as/\H a=some (.lst g)/\g∈st.map (·.2)/\(st.any λp=>decide (p.1=k))=true/\GL H0 (upd H a (.lst (g++[x]))) D as kvs (st.map λp=>if p.1=k then (p.1,p.2++[x]) else p):=λ{as kvs st} h=>by
  induction h with
  | nil=>intro e;cases e
  | @cons a k' g as kvs st h hn hD ha hk hs t ih=>
   intro e;by_cases ek:k' = k
   ·rw [kF ek] at e;cases e;refine ⟨a,g,rfl,.head _,h,by simp,by rw [OP,decide_eq_true ek];rfl,?_⟩;have em:(st.map λp=>if p.1=k then (p.1,p.2++[x]) else p)=st:=by
     have e1:∀ p∈st,(if p.1=k then (p.1,p.2++[x]) else p)=p:=λp hp=>if_neg λz=>hk (by rw [<-hs,ek,<-z];exact OM hp);exact (Og e1).trans (List.map_id' st)
    rw [N1,if_pos ek,em];exact .cons ab hn hD ha hk hs (t.keep λb hb=>aw λ(z:b=a)=>ha (z ▸ hb))
   ·have e':dY kvs k=some v:=by
     unfold dY at e ⊢;rw [OW,decide_eq_false ek] at e;exact e
    obtain ⟨b,g',e1,e2,e3,e4,e5,e6⟩:=ih e';refine ⟨b,g',e1,.tail _ e2,e3,NN _ e4,by rw [OP,e5,Bool.or_true],?_⟩;rw [N1,if_neg ek];have hba:a≠b:=λz=>ha (z ▸ e2);refine .cons (by rw [aw hba];exact h) hn hD ha hk ?_ e6;rw [Ow,<-hs];exact Og λp _=>by show (if p.1=k then (p.1,p.2++[x]) else p).1=p.1;split <;> rfl
 intro e;obtain ⟨a,g,e1,e2,e3,e4,e5,e6⟩:=key h e;refine ⟨a,g,e1,e2,e3,e4,?_⟩;unfold bN;rw [if_pos e5];exact e6
theorem GL.more {H0 H:Hp}{D L:Addr}{as:List Addr}{kvs:List (Key×V)}{st:List (Key×List V)}{k:Key}{x:V} (h:GL H0 H D as kvs st) (e:dY kvs k=none) (hL:H L=some (.lst [x])) (hn:H0 L=none) (hD:L≠D) (ha:L∉as) :
  putK kvs k (.ref L)=kvs++[(k,.ref L)]/\GL H0 H D (as++[L]) (kvs++[(k,.ref L)]) (bN st k x):=by
 obtain ⟨h1,h2⟩:=BO e;refine ⟨by unfold putK;rw [h2];rfl,?_⟩;unfold bN;rw [any_keys h.keys k,h2];exact h.snoc hL hn hD ha h1
end LG
namespace K39
open PySem L2 LG
set_option genSizeOf false in
set_option genInjectivity false in
structure Ad where
 jt:Addr
 jd:FuncData
 ou:Addr
 oA:FuncData
 lK:Addr
 lE:FuncData
 gU:Addr
 gC:FuncData
 jK:Addr
 ja:FuncData
 me:Addr
 mD:FuncData
 mM:Addr
 mx:FuncData
 eO:Addr
 fc:FuncData
 jR:Addr
 jM:FuncData
 ie:Addr
 g6:FuncData
 qS:Addr
 rn:FuncData
 qA:Addr
 qu:FuncData
 cV:Addr
 cW:FuncData
 iO:Addr
 iG:FuncData
 nt:Addr
 nG:FuncData
 mh:Addr
 mi:FuncData
 iz:Addr
 iE:FuncData
 i3:Addr
 i5:FuncData
 lC:Addr
 lL:FuncData
 gE:Addr
 gB:FuncData
 eX:Addr
 eV:FuncData
 dH:Addr
 dO:FuncData
 d3:Addr
 cF:FuncData
 iS:Addr
 iZ:FuncData
 dZ:Addr
 dW:FuncData
 js:Addr
 jr:FuncData
 dN:Addr
 dJ:FuncData
 kX:Addr
 kR:FuncData
 iA:Addr
 iy:FuncData
 n5:Addr
 nX:FuncData
 yb:Addr
 yK:FuncData
 kD:Addr
 kq:FuncData
 df:Addr
 dh:FuncData
 fG:Addr
 fq:FuncData
 eQ:Addr
 eY:FuncData
 g8:Addr
 ik:FuncData
 gY:Addr
 hJ:FuncData
 gZ:Addr
 g5:FuncData
 jx:Addr
 jU:FuncData
 gR:Addr
 gz:FuncData
 gq:Addr
 gb:FuncData
 eG:Addr
 d7:FuncData
 fg:Addr
 fh:FuncData
 cR:Addr
 cO:FuncData
 fP:Addr
 fW:FuncData
 jP:Addr
 jE:FuncData
 jH:Addr
 jL:FuncData
 jq:Addr
 jQ:FuncData
 jT:Addr
 jN:FuncData
 GQ:Addr
 GS:FuncData
 cH:Addr
 iH:Addr
 K1:Addr
 aD:Addr
structure Tx (K:PySem.W.Frag) (mg:Str->Option Value) (A:Ad):Prop where
 Cn:mg "all" = none
 GI:mg "any" = none
 kC:mg "enumerate" = none
 G4:mg "int" = none
 vP:mg "isinstance" = none
 b7:mg "len" = none
 oE:mg "list" = none
 wA:mg "min" = none
 eC:mg "range" = none
 xc:mg "set" = none
 fB:mg "sorted" = none
 JG:mg "str" = none
 Ct:mg "zip" = none
 Bb:∃ t,mg "FIGURES" = some (.str Al t)
 pF:∃ t,mg "SMALL_LETTERS" = some (.str Aq t)
 vq:∃ t,mg "WORD_SIGNS" = some (.str uw t)
 m3:mg "HOLE_KINDS" = some (.ref A.cH)
 m8:∀ H,SqT K H A.cH [.str "number",.str "name",.str "any"]
 uQ:∃ o,K.lookup A.cH=some o/\o.cls = .type "tuple" /\ o.dict=none
 Et:mg "PLAIN_SIEVE" = some (.ref A.iH)
 Es:∀ H,SqT K H A.iH [.int 3,.int 2]
 Er:∃ o,K.lookup A.iH=some o/\o.cls = .type "tuple" /\ o.dict=none
 dS:bh K mg "has_only" (top 8) ["text","signs"] A.jt A.jd
 pW:bh K mg "is_word" (top 9) ["thing"] A.ou A.oA
 jO:bh K mg "kind_of" (top 10) ["word"] A.lK A.lE
 words_of:bh K mg "words_of" (top 11) ["line"] A.gU A.gC
 gL:bh K mg "word_key" (top 12) ["word"] A.jK A.ja
 qL:bh K mg "line_key" (top 13) ["line"] A.me A.mD
 nh:bh K mg "in_order" (top 14) ["lines"] A.mM A.mx
 bO:bh K mg "is_hole" (top 17) ["part"] A.eO A.fc
 jm:bh K mg "part_takes" (top 18) ["part","word"] A.jR A.jM
 eZ:bh K mg "all_taken" (top 19) ["parts","words"] A.ie A.g6
 fits:bh K mg "fits" (top 20) ["pattern","line"] A.qS A.rn
 filled:bh K mg "filled" (top 21) ["pattern","words"] A.qA A.qu
 cv:bh K mg "kind_of_hole_around" (top 22) ["part"] A.cV A.cW
 ia:bh K mg "joined_part" (top 23) ["parts"] A.iO A.iG
 joined:bh K mg "joined" (top 24) ["patterns"] A.nt A.nG
 nv:bh K mg "part_key" (top 25) ["part"] A.mh A.mi
 kh:bh K mg "pattern_key" (top 26) ["pattern"] A.iz A.iE
 ordered:bh K mg "ordered" (top 27) ["patterns"] A.i3 A.i5
 i9:bh K mg "grouped" (top 30) ["rows","keys"] A.lC A.lL
 dR:bh K mg "words_at" (top 31) ["group","place"] A.gE A.gB
 eD:bh K mg "many_unlike_at" (top 32) ["group","place"] A.eX A.eV
 cZ:bh K mg "is_fit_to_part_at" (top 33) ["group","place","sieve"] A.dH A.dO
 dz:bh K mg "place_to_part_at" (top 34) ["group","sieve"] A.d3 A.cF
 parted:bh K mg "parted" (top 35) ["group","sieve"] A.iS A.iZ
 dF:bh K mg "pattern_of_group" (top 36) ["group"] A.dZ A.dW
 gathered:ya K mg "gathered" (top 37) ["lines","sieve"] A.js A.jr
 c6:bh K mg "looseness_of_part" (top 39) ["part"] A.dN A.dJ
 oN:bh K mg "looseness" (top 40) ["pattern"] A.kX A.kR
 ij:bh K mg "falls_under" (top 41) ["line","patterns"] A.iA A.iy
 pV:bh K mg "is_news" (top 42) ["line","lines","sieve"] A.n5 A.nX
 news:ya K mg "news" (top 43) ["lines","sieve"] A.yb A.yK
 lP:bh K mg "_law_deck" (top 45) ["cell","turn"] A.kD A.kq
 av:bh K mg "_law_pick" (top 46) ["deck","many"] A.df A.dh
 cS:bh K mg "_law_kind" (top 47) ["word"] A.fG A.fq
 eF:bh K mg "_law_fits_part" (top 48) ["part","word"] A.eQ A.eY
 e7:bh K mg "_law_fits" (top 49) ["pattern","line"] A.g8 A.ik
 eU:bh K mg "_law_word" (top 50) ["deck"] A.gY A.hJ
 eT:bh K mg "_law_line" (top 51) ["deck","most"] A.gZ A.g5
 ju:bh K mg "_law_lines" (top 52) ["deck","most"] A.jx A.jU
 gh:bh K mg "_law_pattern" (top 53) ["deck","line"] A.gR A.gz
 d4:bh K mg "_law_place" (top 54) ["pattern"] A.gq A.gb
 cJ:bh K mg "_law_ordered" (top 55) ["patterns"] A.eG A.d7
 c7:bh K mg "_law_joined" (top 56) ["patterns"] A.fg A.fh
 dc:bh K mg "_law_groups" (top 57) ["rows","sieve"] A.cR A.cO
 cu:bh K mg "_law_gathered" (top 58) ["lines","sieve"] A.fP A.fW
 jF:bh K mg "_law_sieve" (top 59) ["deck"] A.jP A.jE
 jS:bh K mg "_law_loose" (top 60) ["pattern"] A.jH A.jL
 jI:bh K mg "_law_falls" (top 61) ["line","patterns"] A.jq A.jQ
 jX:bh K mg "_law_sixty" (top 62) ["deck"] A.jT A.jN
 lam:IX K mg A.cF A.K1 A.aD
section
variable {P:Program}{w:World}{K:PySem.W.Frag}{mg:Str->Option Value}{base:Heap}{A:Ad}
theorem wW:aE ["text","signs"] ["text","signs"] (ah (top 8)):=⟨rfl,rfl,rfl,by decide +kernel,rfl,by decide +kernel,by decide +kernel⟩
set_option maxHeartbeats 8000000 in
theorem oZ (T:Tx K mg A):aA P w K mg base CX0 1 A.jt A.jd ["text","signs"] (kj K):=by
 refine T.dS.fn.ok wW (λvs H Q E h=>?_) (λcdv Ar outer s H vs Q E hr h=>?_)
 ·obtain ⟨z,y,rfl,_⟩:=h;rfl
 ·obtain ⟨z,y,rfl,hz,k⟩:=h;refine ⟨_,ak (ax (yO (cy (m6) (pv 0) (ay) (aJ _)) (yV (cy (ef) (b6 PySem.F.plainAttrs_str PySem.F.slot_str_strip PySem.F.type_str_strip BH (pv 0) (aa (pv 1) (af))) (ay) (aJ _))))),?_⟩;refine ⟨_,rfl,rfl,_,rfl,?_⟩;have e:=F3 z y;by_cases hn:z.cps.toList.isEmpty=true
  ·have e1:(!decide (V.str z=V.str ""))=false:=by rw [m4,hn];rfl
   rw [e1,Bool.false_and] at e;rw [e1,if_neg NV,e];exact k
  ·have e1:(!decide (V.str z=V.str ""))=true:=by rw [m4,N5.mpr hn];rfl
   rw [e1,Pd] at e;rw [e1,if_pos rfl];refine ⟨_,rfl,rfl,_,rfl,z,y,rfl,rfl,hz.s,rfl,?_⟩;rw [e];exact k
theorem yH:aE ["thing"] ["thing"] (ah (top 9)):=⟨rfl,rfl,rfl,by decide +kernel,rfl,by decide +kernel,by decide +kernel⟩
set_option maxHeartbeats 8000000 in
theorem y7 (T:Tx K mg A):aA P w K mg base CX0 2 A.ou A.oA ["thing"] (qg K):=by
 have jy:aA P w K mg base CX0 1 A.jt A.jd ["text","signs"] (kj K):=(oZ T).mono (by decide);refine T.pW.fn.ok yH (λvs H Q E h=>?_) (λcdv Ar outer s H vs Q E hr h=>?_)
 ·obtain ⟨z,rfl,_⟩:=h;rfl
 ·obtain ⟨z,rfl,hz,k⟩:=h;refine ⟨_,ak (ax (yO (aI (r:=Kh K) DK (by rfl) T.vP sH (aa (pv 0) (aa (F2 (v:=.ty "str") (by rfl) T.JG IQ rfl) (af)))) (yV (aq jy hr (by rfl) T.dS.mg T.dS.fn.kp T.dS.bd .nil aC (aa (pv 0) (aa (nu (v:=.str uw) (by rfl) (Exists.choose_spec T.vq) ⟨_,rfl⟩) (af))))))),?_⟩;refine ⟨_,rfl,_,"str",_,true,rfl,.str z,by rfl,_,rfl,bL ?_⟩;refine ⟨_,rfl,z,uw,rfl,hz,?_⟩;rw [Av];exact k
theorem yW:aE ["word"] ["word"] (ah (top 10)):=⟨rfl,rfl,rfl,by decide +kernel,rfl,by decide +kernel,by decide +kernel⟩
set_option maxHeartbeats 8000000 in
theorem qD (T:Tx K mg A):aA P w K mg base CX0 2 A.lK A.lE ["word"] (mN K):=by
 have jy:aA P w K mg base CX0 1 A.jt A.jd ["text","signs"] (kj K):=(oZ T).mono (by decide);refine T.jO.fn.ok yW (λvs H Q E h=>?_) (λcdv Ar outer s H vs Q E hr h=>?_)
 ·obtain ⟨z,rfl,_⟩:=h;rfl
 ·obtain ⟨z,rfl,hz,k⟩:=h;refine ⟨_,aj (bA (cD (aq jy hr (by rfl) T.dS.mg T.dS.fn.kp T.dS.bd .nil aC (aa (b6 PySem.F.plainAttrs_str PySem.F.slot_str_removeprefix PySem.F.type_str_removeprefix Dz (pv 0) (aa (ay) (af))) (aa (nu (v:=.str Al) (by rfl) (Exists.choose_spec T.Bb) ⟨_,rfl⟩) (af))))) (ak (ax (ay))) (aZ))
   (aj (bA (cD (aq jy hr (by rfl) T.dS.mg T.dS.fn.kp T.dS.bd .nil aC (aa (pv 0) (aa (nu (v:=.str Aq) (by rfl) (Exists.choose_spec T.pF) ⟨_,rfl⟩) (af))))) (ak (ax (ay))) (aZ))
   (ak (ax (ay)))),?_⟩
  refine ⟨_,rfl,rfl,z,"-",rfl,rfl,hz.s,_,Al,rfl,NM (Bz z) hz,_,rfl,?_⟩;rw [Cy,wc];have e:bD z=if cB dig (bB z.cps.toList)=true then 0 else if cB low z.cps.toList=true then 1 else 2:=rfl;rw [e] at k;by_cases h1:cB dig (bB z.cps.toList)=true
  ·rw [h1,if_pos rfl] at k;rw [h1];exact bL k
  ·rw [if_neg h1] at k;rw [N5.mpr h1];refine bf ?_;refine ⟨_,rfl,z,Aq,rfl,hz,_,rfl,?_⟩;rw [BN];by_cases h2:cB low z.cps.toList=true
   ·rw [if_pos h2] at k;rw [h2];exact bL k
   ·rw [if_neg h2] at k;rw [N5.mpr h2];exact bf k
theorem wF:aE ["line"] ["line"] (ah (top 11)):=⟨rfl,rfl,rfl,by decide +kernel,rfl,by decide +kernel,by decide +kernel⟩
set_option maxHeartbeats 8000000 in
theorem k7 (T:Tx K mg A):aA P w K mg base CX0 1 A.gU A.gC ["line"] (g9 K):=by
 refine T.words_of.fn.ok wF (λvs H Q E h=>?_) (λcdv Ar outer s H vs Q E hr h=>?_)
 ·obtain ⟨z,rfl,_⟩:=h;rfl
 ·obtain ⟨z,rfl,hz,k⟩:=h;refine ⟨_,ak (ax (b6 PySem.F.plainAttrs_str PySem.F.slot_str_split PySem.F.type_str_split fF (pv 0) (aa (ay) (af)))),?_⟩;exact ⟨_,rfl,rfl,z," ",rfl,rfl,by decide +kernel,NM (OJ hz 2) (by decide),λl hl=>k l hl⟩
theorem yS:aE ["part"] ["part"] (ah (top 17)):=⟨rfl,rfl,rfl,by decide +kernel,rfl,by decide +kernel,by decide +kernel⟩
set_option maxHeartbeats 8000000 in
theorem gA (T:Tx K mg A):aA P w K mg base CX0 1 A.eO A.fc ["part"] (eW K):=by
 refine T.bO.fn.ok yS (λvs H Q E h=>?_) (λcdv Ar outer s H vs Q E hr h=>?_)
 ·obtain ⟨v,pt,rfl,_⟩:=h;rfl
 ·obtain ⟨v,pt,rfl,hd,k⟩:=h;obtain ⟨a,x,y,rfl,hq,_,_,hx⟩:=iK hd;refine ⟨_,ak (ax (cy (ef) (aR (r:=eL K) bH (pv 0) (ap) (λ_ _=>rfl)) (ay) (aJ _))),?_⟩;refine ⟨_,rfl,a,_,0,_,rfl,rfl,hq,rfl,rfl,?_⟩;cases pt with
  | word w=>
   obtain ⟨rfl,_⟩:=hx;rw [decide_eq_false (by decide)];exact k
  | hole m=>
   obtain ⟨rfl,_⟩:=hx;rw [decide_eq_true rfl];exact k
theorem rZ:aE ["part","word"] ["part","word"] (ah (top 18)):=⟨rfl,rfl,rfl,by decide +kernel,rfl,by decide +kernel,by decide +kernel⟩
set_option maxHeartbeats 8000000 in
theorem rX (T:Tx K mg A):aA P w K mg base CX0 3 A.jR A.jM ["part","word"] (l9 K):=by
 have cQ:aA P w K mg base CX0 2 A.eO A.fc ["part"] (eW K):=(gA T).mono (by decide);have BE:aA P w K mg base CX0 2 A.ou A.oA ["thing"] (qg K):=(y7 T).mono (by decide);have nQ:aA P w K mg base CX0 2 A.lK A.lE ["word"] (mN K):=(qD T).mono (by decide);refine T.jm.fn.ok rZ (λvs H Q E h=>?_) (λcdv Ar outer s H vs Q E hr h=>?_)
 ·obtain ⟨v,x,p,rfl,_⟩:=h;rfl
 ·obtain ⟨v,x,p,rfl,hd,hok,hw,k⟩:=h;obtain ⟨a,x1,y1,ev,hq,_,_,hx⟩:=iK hd;refine ⟨_,aj (bA (lg (cD (aq cQ hr (by rfl) T.bO.mg T.bO.fn.kp T.bO.bd .nil aC (aa (pv 0) (af))))) (ak (ax (cy (ef) (pv 1) (aR (r:=eL K) bH (pv 0) (ap) (λ_ _=>rfl)) (aJ _)))) (aZ))
   (aj (bA (aK (ef) (aR (r:=eL K) bH (pv 0) (ap) (λ_ _=>rfl)) (ay) (aJ _)) (ak (ax (aq BE hr (by rfl) T.pW.mg T.pW.fn.kp T.pW.bd .nil aC (aa (pv 1) (af))))) (aZ))
   (ak (ax (cy (ef) (aq nQ hr (by rfl) T.jO.mg T.jO.fn.kp T.jO.bd .nil aC (aa (pv 1) (af))) (aR (r:=eL K) bH (pv 0) (ap) (λ_ _=>rfl)) (aJ _))))),?_⟩
  refine ⟨_,rfl,v,p,rfl,hd,_,rfl,?_⟩;subst ev;cases p with
  | word y=>
   obtain ⟨rfl,rfl⟩:=hx;refine bL ⟨_,rfl,_,rfl,a,_,1,_,rfl,rfl,hq,rfl,rfl,?_⟩;have e:decide (V.str x=V.str y1)=(Pt.word y1).takes x:=by
    rw [N7];simp [Pt.takes]
   rw [e];exact k
  | hole m=>
   obtain ⟨rfl,rfl⟩:=hx;have hm:m<3:=hok;refine bf ?_;refine ⟨_,rfl,a,_,1,_,rfl,rfl,hq,rfl,rfl,_,rfl,?_⟩;rw [xR hm];by_cases h2:m=2
   ·rw [decide_eq_true h2];refine bL ?_;subst h2;exact ⟨_,rfl,x,rfl,hw,k⟩
   ·rw [decide_eq_false h2];refine bf ?_;refine ⟨_,rfl,x,rfl,hw,_,rfl,a,_,1,_,rfl,rfl,hq,rfl,rfl,?_⟩;have e:(Pt.hole m).takes x=decide (bD x=m):=by
     have:m=0\/m=1:=by lia
     rcases this with rfl | rfl <;> rfl
    rw [AN (k:=m) (by lia),<-e];exact k
end
end K39
namespace L2
open PySem PySem.Spec PyProof.Rows PySem.W
def JB (T:Addr) (H:Hp):Prop:=∀ b,H b=none\/(∃ o xs,H b=some (.frz o (.lst xs)))\/(b=T/\H b=some (.tbl #[]))
theorem AW {P:Program}{w:World}{K:PySem.W.Frag}{mg mb:Str->Option Value}{k:Nat}{fa a c T:Addr}{fd:FuncData}{x:Str}{sp:Sp}{s₁:Shared}{vs:List Value}{ns:List Int}
  (KX:K.In s₁.heap) (hT:s₁.heap.get? T=some (tabObj #[])) (hc:CodeHd s₁.heap c T) (hKT:K.lookup T=none)
  (hns:s₁.heap.Ns mainGlobals mg) (hb:s₁.heap.Ns builtinsNs mb) (hbb:∀ x:Str,x ≠ "__name__" -> mb x=bootBuiltins x) (MF:s₁.heap.NoLimit) (hg:s₁.gens = #[])
  (ha:s₁.heap.get? a=some { cls:=.type "list",data:=.seq vs.toArray }) (hi:IntsAre vs ns) (hl:ns.length<=sizeLine) (hr:cn k callerA)
  (F:∀ base:Heap,aA P w K mg base CX0 k fa fd [x] sp) (JQ:∀ (s:Shared) (u:Value),BindsTo s fd ⟨[u],[]⟩ [(x,u)])
  (hsp:∀ H:Hp,H T=some (.tbl #[])->SqL K H a (ns.map V.int)->sp [.ref a] H (λv _=>v = .bl true) λ_ _ _=>False) :
  codeAny (model P w) callerA (.call (.ref fa) ⟨[.ref a],[]⟩) (λr s'=>r = .ok (.ret (.bool true))/\OldK s₁.heap s'.heap/\s'.os=s₁.os/\AllBare s'.gens) s₁:=by
 have rv:=um hi;have LI:=hi.length;have haT:a≠T:=λe=>by rw [e,hT] at ha;cases ha
 have core:∀ H:Hp,JB T H->H T=some (.tbl #[])->SqL K H a (ns.map V.int)->HOk P w H s₁.heap->(∀ b,H b≠none->b=a\/b=T)->(H a≠none->K.lookup a=none) ->
   codeAny (model P w) callerA (.call (.ref fa) ⟨[.ref a],[]⟩) (λr s'=>r = .ok (.ret (.bool true))/\OldK s₁.heap s'.heap/\s'.os=s₁.os/\AllBare s'.gens) s₁:=by
  intro H hO hHT hS hok hA hK;have nsK:∀ {b:Addr}{m:Str->Option Value},s₁.heap.Ns b m->(xM s₁.heap H).Ns b m:=λ{b m} ⟨o,es,ep,e,d,r⟩=>⟨o,es,ep,xy e (by
   cases q:H b with
   | none=>rfl
   | some u=>
    rcases hA b (by rw [q];simp) with rfl | rfl
    ·rw [ha] at e;cases e;have d':Data.seq vs.toArray _=Data.dict es ep:=d;cases d'
    ·rw [hT] at e;cases e;have d':Data.fields #[]=Data.dict es ep:=d;cases d'),d,r⟩
  have hKb:K.In (xM s₁.heap H):=λb o e=>xy (KX b o e) (by
   cases q:H b with
   | none=>rfl
   | some u=>
    rcases hA b (by rw [q];simp) with rfl | rfl
    ·rw [hK (by rw [q];simp)] at e;cases e
    ·rw [hKT] at e;cases e)
  have hM:Mod K mg (xM s₁.heap H):=⟨hKb,nsK hns,⟨mb,nsK hb,hbb⟩,let ⟨mc,h1,h2⟩:=MF;⟨mc,nsK h1,h2⟩⟩;have e0:yu P w K mg (xM s₁.heap H) callerA [] s₁ H:=⟨rfl,hM,λb o e=>ES e,Nat.le_of_eq (Ay _ _),trivial,λb hb=>absurd (show b∈([]:List Addr) from hb) (by simp),hok,.of_eq hg⟩;refine codeAny_mono ((F _).run callerA [] s₁ H ⟨[.ref a],[]⟩ [.ref a] [.ref a] _ _ hr e0 (JQ s₁ (.ref a)) (.cons rfl .nil) (hsp H hHT hS)) λr s' h=>?_;cases r with
  | error e=>exact False.elim h
  | ok fl=>
   cases fl with
   | next=>exact False.elim h
   | brk=>exact False.elim h
   | cont=>exact False.elim h
   | ret u=>
    obtain ⟨v,H',os,bare,un,Jy,r',q⟩:=h;have q':v = .bl true:=q;subst q';obtain rfl:u=Value.bool true:=r';refine ⟨rfl,⟨λb o e=>?_,λb o e=>un.there b o e (by simp)⟩,os,bare⟩;rcases hO b with z | ⟨ob,xs,z⟩ | ⟨rfl,z⟩
    ·exact .inl (un.keep b o e z (by intro z;exact absurd (show b∈([]:List Addr) from z) (by simp)) (by simp))
    ·have z2:=un.pC b ob _ z;obtain ⟨e1,_⟩:=hok b _ z;obtain ⟨e2,_⟩:=Jy b _ z2;rw [e] at e1;cases e1;exact .inl e2
    ·obtain ⟨more,z2⟩:=un.pH b _ z;have e2:=Jy b _ z2;rw [hT] at e;cases e;obtain ⟨oc,fs,file,tf,flags,tg,inF,text,tt,c1,c2,c3,c4,_⟩:=hc;have ht:s₁.heap.TableAt c b #[]:=⟨⟨oc,fs,c1,c2,c3,c4⟩,hT⟩;exact .inr (.inl ⟨ht.isCodeTable,rfl,#[],more,rfl,e2⟩)
 cases hk:K.lookup a with
 | some o=>
  have e:=KX a o hk;rw [ha] at e;cases e;refine core (λb=>if b=T then some (.tbl #[]) else none) (λb=>?_) (if_pos rfl) (.inr ⟨_,vs.toArray,_,hk,rfl,rfl,rfl,by rw [NO,LI];exact hl,by simpa using rv⟩) (λb u z=>?_) (λb z=>?_) λz=>absurd (if_neg haT) z
  ·by_cases hb:b=T
   ·exact .inr (.inr ⟨hb,if_pos hb⟩)
   ·exact .inl (if_neg hb)
  ·by_cases hb:b=T
   ·have z':=(if_pos hb).symm.trans z;cases z';subst hb;exact hT
   ·have z':=(if_neg hb).symm.trans z;cases z'
  ·by_cases hb:b=T
   ·exact .inr hb
   ·exact absurd (if_neg hb) z
 | none=>
  refine core (λb=>if b=T then some (.tbl #[]) else if b=a then some (.frz { cls:=.type "list",data:=.seq vs.toArray } (.lst (ns.map V.int))) else none) (λb=>?_) (if_pos rfl)
   (.inl (.inr ⟨{ cls:=.type "list",data:=.seq vs.toArray },(if_neg haT).trans (if_pos rfl)⟩)) (λb u z=>?_) (λb z=>?_) λ_=>hk
  ·by_cases hb:b=T
   ·exact .inr (.inr ⟨hb,if_pos hb⟩)
   ·by_cases hb2:b=a
    ·exact .inr (.inl ⟨_,_,(if_neg hb).trans (if_pos hb2)⟩)
    ·exact .inl ((if_neg hb).trans (if_neg hb2))
  ·by_cases hb:b=T
   ·have z':=(if_pos hb).symm.trans z;cases z';subst hb;exact hT
   ·by_cases hb2:b=a
    ·have z':=((if_neg hb).trans (if_pos hb2)).symm.trans z;cases z';subst hb2;exact ⟨ha,by rw [NE];exact hl,vs,_,rv,ha⟩
    ·have z':=((if_neg hb).trans (if_neg hb2)).symm.trans z;cases z'
  ·by_cases hb:b=T
   ·exact .inr hb
   ·by_cases hb2:b=a
    ·exact .inl hb2
    ·exact absurd ((if_neg hb).trans (if_neg hb2)) z
theorem B0 {l:PySem.W.OpenLaw}{n k:Nat}{q:Program}{loose:List Str}{XP:(Str->Option Value)->Heap->Prop}{YP:World->Heap->Prop}{d:DefRec}{K:Params->PySem.W.Frag}{sp:World->Sp}{x:Str}{c T:Addr}
  (hn:l.most=some n) (hn2:n<=sizeLine) (hdf:d.params.defaults=[]) (hr:cn k callerA)
  (hY:∀ (w:World) (h:Heap),YP w h->(K w.params).In h/\h.get? T=some (tabObj #[])) (hc:∀ (w:World) (h:Heap),(K w.params).In h->CodeHd h c T) (hKT:∀ w:World,(K w.params).lookup T=none)
  (F:∀ (w:World) (mg:Str->Option Value) (fa:Addr) (h:Heap),(K w.params).In h->h.Ns mainGlobals mg->mg d.name=some (.ref fa) ->
   ∃ fd:FuncData,(∀ (s:Shared) (u:Value),BindsTo s fd ⟨[u],[]⟩ [(x,u)])/\∀ base:Heap,aA l.prog w (K w.params) mg base CX0 k fa fd [x] (sp w))
  (hsp:∀ (w:World) (H:Hp) (a:Addr) (ns:List Int),ns.length<=n->H T=some (.tbl #[])->SqL (K w.params) H a (ns.map V.int)->sp w [.ref a] H (λv _=>v = .bl true) λ_ _ _=>False) :
  PySem.W.WalkO q loose XP YP l.row.toRowW d [] (λf vs=>PySem.call f vs):=by
 refine Att.xj hn hdf λw s₀ s₁ mg mb fa o pm cd doc a vs ns G Y ho hd hcd hmg HA CM hlen hg=>?_;obtain ⟨KX,hT⟩:=hY w _ Y;obtain ⟨fd,hb,hF⟩:=F w mg fa _ KX G.T.g hmg;exact AW KX hT (hc w _ KX) (hKT w) G.T.g G.T.b G.T.builtins G.T.nolimit hg HA CM (NM hlen hn2) hr hF hb (λH hO hS=>hsp w H a ns hlen hO hS)
end L2
namespace K39
open PySem L2 LG
section
variable {P:Program}{w:World}{K:PySem.W.Frag}{mg:Str->Option Value}{base:Heap}{A:Ad}
def mL (K:PySem.W.Frag):Sp:=λvs H Q _=>∃ (a b:Addr) (xs:List V) (ks:List Key),vs=[.ref a,.ref b]/\SqL K H a xs/\SqL K H b (ks.map kV)/\ks.length=xs.length/\xs.length<=1000 /\
 ∀ (D:Addr) (as:List Addr) H',H D=none->ae H H'->H' D=some (.lst (as.map V.ref))->(∀ a∈as,H a=none)->fE (λa g=>H' a=some (.lst g)) as (grp ks xs)->Q (.ref D) H'
theorem jB:aE ["rows","keys","groups","row","key"] ["rows","keys"] (ah (top 30)):=⟨rfl,rfl,rfl,by decide +kernel,rfl,by decide +kernel,by decide +kernel⟩
set_option maxHeartbeats 8000000 in
theorem qr (T:Tx K mg A):aA P w K mg base CX0 1 A.lC A.lL ["rows","keys"] (mL K):=by
 refine T.i9.fn.ok jB (λvs H Q E h=>?_) (λcdv Ar outer s H vs Q E hr h=>?_)
 ·obtain ⟨a,b,xs,ks,rfl,_⟩:=h;rfl
 ·obtain ⟨a,b,xs,ks,rfl,hqa,hqb,hl,hle,k⟩:=h;refine ⟨_,aj (aQ (i:=2) jB.nd rfl (Or.inl rfl) (wM))
   (aj (cs PassesOwn.never rfl (yw (by rfl) T.Ct (aa (pv 0) (aa (pv 1) (af)))) (iM rfl (bw (au (i:=3) jB.nd rfl (Or.inl rfl)) (bw (au (i:=4) jB.nd rfl (Or.inl rfl)) (fj)))) (ak (cx (b6 PySem.F.plainAttrs_list PySem.F.slot_list_append PySem.F.type_list_append bG (Eu (pv 2) (pv 4) (be (af)) ⟨rfl,rfl,rfl,rfl⟩) (aa (pv 3) (af))))))
   (ak (ax (BU rfl (by rfl) T.oE lG (pv 2))))),?_⟩
  intro G hG;have sG:ae H (upd H G (.dK [])):=ae.new hG;have hGG:(upd H G (.dK [])) G=some (.dK []):=ab;refine ⟨_,rfl,_,rfl,a,b,rfl,⟨_,sG.seq hqa⟩,⟨_,sG.seq hqb⟩,?_⟩;generalize upd H G (.dK [])=H1 at sG hGG ⊢;refine zT (K:=K) (xs:=xs) (ys:=ks.map kV) (λi σ H2=>(∃ u v,σ=[some (.ref a),some (.ref b),some (.ref G),u,v])/\ae H H2/\∃ (as:List Addr) (kvs:List (Key×V)),H2 G=some (.dK kvs)/\GL H H2 G as kvs (bU ((ks.zip xs).take i))/\kvs.length<=i/\∀ g∈(bU ((ks.zip xs).take i)).map (·.2),g.length<=i)
   ⟨⟨_,_,rfl⟩,sG,[],[],hGG,.nil,NH _,λg hg=>by cases hg⟩ (λi σ H2 q=>⟨q.2.1.seq hqa,q.2.1.seq hqb⟩) (λi x y σ H2 p hx hy q hp=>?_) (λσ H2 q=>?_)
  ·obtain ⟨q0,s2,as,kvs,hG2,gl,hkl,hgl⟩:=q;apply su q0;clear q0;intro u v;have hi:=aG hx;rw [NK] at hy;obtain ⟨ky,hky,rfl⟩:∃ ky,ks[i]? = some ky/\y=kV ky:=by
    cases e:ks[i]? with
    | none=>rw [e] at hy;cases hy
    | some ky=>rw [e] at hy;cases hy;exact ⟨ky,rfl,rfl⟩
   have hz:(ks.zip xs)[i]? = some (ky,x):=by rw [O6];exact ⟨hky,hx⟩
   have sp:ae H2 (upd H2 p (.tup [x,kV ky])):=ae.new hp;have hpp:(upd H2 p (.tup [x,kV ky])) p=some (.tup [x,kV ky]):=ab;have hGp:G≠p:=ao hG2 hp;have s3:=s2.trans sp;have hG3:=sp _ _ hG2;have gl3:GL H (upd H2 p (.tup [x,kV ky])) G as kvs (bU ((ks.zip xs).take i)):=gl.keep λc hc=>by
    obtain ⟨⟨g,e⟩,_⟩:=gl.mem c hc;exact aw (ao e hp)
   generalize upd H2 p (.tup [x,kV ky])=H3 at sp hpp s3 hG3 gl3 ⊢;refine ⟨p,_,rfl,.of hpp,rfl,_,_,rfl,_,_,rfl,rfl,?_⟩;refine ⟨_,rfl,G,rfl,.inl ⟨kvs,.of hG3⟩,_,rfl,NW _,λL hL=>?_⟩;have sL:ae H3 (upd H3 L (.lst [])):=ae.new hL;have hLL:(upd H3 L (.lst [])) L=some (.lst []):=ab;have hGL:L≠G:=(ao hG3 hL).symm;have Kv:L∉as:=λz=>by
    obtain ⟨⟨g,e⟩,_⟩:=gl3.mem L z;rw [hL] at e;cases e
   have hL0:H L=none:=s3.free hL;have s4:=s3.trans sL;have hG4:=sL _ _ hG3;have gl4:GL H (upd H3 L (.lst [])) G as kvs (bU ((ks.zip xs).take i)):=gl3.keep λc hc=>by
    obtain ⟨⟨g,e⟩,_⟩:=gl3.mem c hc;exact aw (ao e hL)
   generalize upd H3 L (.lst [])=H4 at sL hLL s4 hG4 gl4 ⊢;have hex:bU ((ks.zip xs).take (i+1))=bN (bU ((ks.zip xs).take i)) ky x:=wH hz;have hlen:∀ g∈(bN (bU ((ks.zip xs).take i)) ky x).map (·.2),g.length<=i+1:=λg hg=>by
    obtain ⟨q,hq,rfl⟩:=NJ.mp hg;unfold bN at hq
    split at hq
    ·obtain ⟨q',hq',rfl⟩:=NJ.mp hq;have:=hgl q'.2 (OM hq')
     split
     ·show (q'.2++[x]).length<=_;rw [NX,OF];lia
     ·lia
    ·rcases Oa.mp hq with z | z
     ·have:=hgl q.2 (OM z);lia
     ·rw [NQ.mp z];show 1<=_;lia
   refine ⟨kvs,ky,hG4,rfl,small (by lia),λv' hv'=>?_,λhn=>?_⟩
   ·obtain ⟨c,g,rfl,hc,hcg,hgm,glN⟩:=gl4.grow (x:=x) hv';have hcm:=gl4.mem c hc;refine ⟨.inl ⟨rfl,_,.of hcg⟩,_,rfl,c,g,_,rfl,rfl,hcg,small (by have:=hgl g hgm;lia),?_⟩;refine ⟨⟨_,_,rfl⟩,ar hcm.2.1 s4,as,kvs,by rw [aw hcm.2.2.symm];exact hG4,by rw [hex];exact glN,by lia,by rw [hex];exact hlen⟩
   ·have hGn:H G=none:=hG;have hLu:(upd H4 G (.dK (putK kvs ky (.ref L)))) L=some (.lst []):=by rw [aw hGL];exact hLL
    refine ⟨.inl ⟨rfl,_,.of hLu⟩,_,rfl,L,[],_,rfl,rfl,hLu,small (by decide),?_⟩;have hL6:(upd (upd H4 G (.dK (putK kvs ky (.ref L)))) L (.lst ([]++[x]))) L=some (.lst [x]):=ab;have gl6:GL H (upd (upd H4 G (.dK (putK kvs ky (.ref L)))) L (.lst ([]++[x]))) G as kvs (bU ((ks.zip xs).take i)):=gl4.keep λc hc=>by
     have:=gl4.mem c hc;rw [aw (λ(z:c=L)=>Kv (z ▸ hc)),aw this.2.2]
    obtain ⟨e1,glN⟩:=gl6.more hn hL6 hL0 hGL Kv;refine ⟨⟨_,_,rfl⟩,ar hL0 (ar hGn s4),as++[L],kvs++[(ky,.ref L)],by rw [aw hGL.symm,ab,e1],by rw [hex];exact glN,by rw [NX,OF];lia,by rw [hex];exact hlen⟩
  ·obtain ⟨q0,s2,as,kvs,hG2,gl,hkl,hgl⟩:=q;apply su q0;clear q0;intro u v;have hm:min xs.length (ks.map kV).length=(ks.zip xs).length:=by rw [NE,List.length_zip,Nat.min_comm]
   rw [hm,NI (NH _)] at gl;refine ⟨_,rfl,G,kvs,rfl,.of hG2,λD hD=>?_⟩;rw [gl.vals];have sD:ae H2 (upd H2 D (.lst (as.map V.ref))):=ae.new hD;exact k D as _ (s2.free hD) (s2.trans sD) ab (λc hc=>(gl.mem c hc).2.1) (gl.lists.mono λc g e=>sD _ _ e)
end
end K39
namespace L2
open PySem PySem.Spec PyProof.Rows PySem.W
structure PAi (X:Cx) (es:List Expr) (t:TA):Prop where
 go:PA X es t
structure PSi (X:Cx) (st:Stmt) (t:TS):Prop where
 go:PS X st t
structure Nn (X:Cx) (st:List Stmt) (t:TS):Prop where
 go:PSs X st t
section
variable {X:Cx}
theorem qb:bootBuiltins "set" = some (.type "set"):=by decide +kernel
end
end L2
namespace LG
open PySem L2
def wsD (ws:List Str):PyData:=.list (ws.map PyData.str)
def gD (wss:List (List Str)):PyData:=.list (wss.map wsD)
structure GOk (n:Nat) (wss:List (List Str)):Prop where
 ne:wss≠[]
 le:wss.length<64
 Bx:n<=12
 pos:0<n
 row:∀ ws∈wss,ws.length=n/\∀ w∈ws,PtW (.word w)
def wAt (wss:List (List Str)) (p:Nat):List Str:=wss.map λws=>ws.getD p Str.empty
def uAt (wss:List (List Str)) (p:Nat):List Str:=bI [] (wAt wss p)
def cg (wss:List (List Str)) (p:Nat) (s l:Int):Bool:=decide (2<=((uAt wss p).length:Int)) && (decide (((uAt wss p).length:Int)<=s) && (uAt wss p).all λw=>decide (l<=((wAt wss p).countP λz=>decide (z=w):Nat)))
section
variable {K:PySem.W.Frag}{H:Hp}
theorem nO:∀ {ws:List Str}{ys:List V},aB K H ys (ws.map PyData.str)->ys=ws.map V.str
 | [],_,h=>by cases h;rfl
 | w::ws,_,h=>by
  cases h with
  | cons a t=>
   cases a;rw [nO t];rfl
theorem IS {x:V}{ws:List Str} (h:Den K H x (wsD ws)):∃ r,x = .ref r/\SqL K H r (ws.map V.str):=by
 cases h with
 | lst hq t=>
  rw [nO t] at hq;exact ⟨_,rfl,hq⟩
theorem xm {x:V}{wss:List (List Str)} (h:Den K H x (gD wss)):∃ a xs,x = .ref a/\SqL K H a xs/\aB K H xs (wss.map wsD):=by
 cases h with
 | lst hq t=>exact ⟨_,_,rfl,hq,t⟩
theorem gg {xs:List V}{wss:List (List Str)}{i:Nat}{x:V} (h:aB K H xs (wss.map wsD)) (hx:xs[i]? = some x):∃ ws r,wss[i]? = some ws/\x = .ref r/\SqL K H r (ws.map V.str):=by
 obtain ⟨d,hd,hn⟩:=h.get hx;rw [NK] at hd;cases e:wss[i]? with
 | none=>rw [e] at hd;cases hd
 | some ws=>
  rw [e] at hd;cases hd;obtain ⟨r,rfl,hq⟩:=IS hn;exact ⟨ws,r,rfl,rfl,hq⟩
end
theorem rD {wss:List (List Str)}{ws:List Str}{i p:Nat} (h:wss[i]? = some ws):wAt (wss.take (i+1)) p=wAt (wss.take i) p++[ws.getD p Str.empty]:=by
 unfold wAt;rw [NY,h];simp
theorem kW (zs:List Str):(bI [] zs).length<=zs.length:=by
 have:=zv zs [];simpa using this
theorem GOk.Fl {n:Nat}{wss:List (List Str)} (h:GOk n wss) (p:Nat):(wAt wss p).length<64:=by unfold wAt;rw [NE];exact h.le
theorem GOk.FY {n:Nat}{wss:List (List Str)} (h:GOk n wss) (p:Nat):(uAt wss p).length<64:=Ot (kW _) (h.Fl p)
end LG
namespace K39
open PySem L2 LG
section
variable {P:Program}{w:World}{K:PySem.W.Frag}{mg:Str->Option Value}{base:Heap}{A:Ad}
def g7 (K:PySem.W.Frag):Sp:=λvs H Q _=>∃ (u:V) (p n:Nat) (wss:List (List Str)),vs=[u,.int p]/\Den K H u (gD wss)/\GOk n wss/\p<n /\
 ∀ (D:Addr) H',H D=none->ae H H'->H' D=some (.lst ((wAt wss p).map V.str))->Q (.ref D) H'
def ic (K:PySem.W.Frag):Sp:=λvs H Q _=>∃ (u:V) (p n:Nat) (wss:List (List Str)),vs=[u,.int p]/\Den K H u (gD wss)/\GOk n wss/\p<n /\
 ∀ H',ae H H'->Q (.int (uAt wss p).length) H'
def fM (K:PySem.W.Frag):Sp:=λvs H Q _=>∃ (u:V) (p n:Nat) (wss:List (List Str)) (t:Addr) (s l:Int),vs=[u,.int p,.ref t]/\Den K H u (gD wss)/\GOk n wss/\p<n/\SqT K H t [.int s,.int l] /\
 ∀ H',ae H H'->Q (.bl (cg wss p s l)) H'
theorem xF:aE ["group","place"] ["group","place"] (ah (top 31)):=⟨rfl,rfl,rfl,by decide +kernel,rfl,by decide +kernel,by decide +kernel⟩
set_option maxHeartbeats 8000000 in
theorem kL (T:Tx K mg A):aA P w K mg base CX0 1 A.gE A.gB ["group","place"] (g7 K):=by
 refine T.dR.fn.ok xF (λvs H Q E h=>?_) (λcdv Ar outer s H vs Q E hr h=>?_)
 ·obtain ⟨u,p,n,wss,rfl,_⟩:=h;rfl
 ·obtain ⟨u,p,n,wss,rfl,hd,ok,hp,k⟩:=h;obtain ⟨a,xs,rfl,hq,hds⟩:=xm hd;have hxl:xs.length=wss.length:=by rw [hds.length,NE]
  refine ⟨_,ak (ax (aP (N':=["words","place"]) (n:=1) (fi:=[1]) (g:=aU 0) rfl (aX (ah (top 31)) ["group","place"] (by decide +kernel)) (aH (pv 0)) (λs H fp=>au (i:=0) (show (["words","place"]:List Str).Nodup by decide +kernel) rfl (Or.inl rfl) (.inr rfl)) (λs H fp=>aO) (λs H fp=>aR (r:=cE K) aT (pv 0) (pv 1) (λ_ _=>rfl)))),?_⟩;refine ⟨_,rfl,a,rfl,⟨_,hq⟩,λD hD=>?_⟩;refine aF (K:=K) (xs:=xs) (λi acc σ H4=>(∃ u,σ=[u,some (.int p)])/\ae H H4/\acc=(wAt (wss.take i) p).map V.str) ab ⟨⟨_,rfl⟩,ae.new hD,rfl⟩ (λi acc σ H4 _ _ q=>q.2.1.seq hq) (λi x acc σ H4 hx hDx q=>?_) (λacc σ H4 hD4 q=>?_)
  ·obtain ⟨q0,s4,rfl⟩:=q;apply bP q0;clear q0;intro u;have hi:=aG hx;obtain ⟨ws,r,hw,rfl,hqr⟩:=gg hds hx;have mv:=ok.row ws (NF hw);have hpw:p<ws.length:=by lia
   have hat:(ws.map V.str)[p]? = some (.str (ws.getD p Str.empty)):=by rw [NK,NU,NG hpw];rfl
   have hle:=ok.le;refine bV ⟨_,rfl,_,rfl,r,_,_,_,rfl,rfl,s4.seq hqr,bo hat,_,hDx,small (by unfold wAt;rw [NE,NE,NR];lia),_,ab,⟨_,rfl⟩,ar hD s4,?_⟩;rw [rD hw,NS];rfl
  ·obtain ⟨_,s4,rfl⟩:=q;rw [hxl,NI (NH _)] at hD4;exact k D H4 hD s4 hD4
theorem nM:aE ["group","place"] ["group","place"] (ah (top 32)):=⟨rfl,rfl,rfl,by decide +kernel,rfl,by decide +kernel,by decide +kernel⟩
set_option maxHeartbeats 8000000 in
theorem nE (T:Tx K mg A):aA P w K mg base CX0 2 A.eX A.eV ["group","place"] (ic K):=by
 have gP:aA P w K mg base CX0 1 A.gE A.gB ["group","place"] (g7 K):=(kL T).mono (by decide);refine T.eD.fn.ok nM (λvs H Q E h=>?_) (λcdv Ar outer s H vs Q E hr h=>?_)
 ·obtain ⟨u,p,n,wss,rfl,_⟩:=h;rfl
 ·obtain ⟨u,p,n,wss,rfl,hd,ok,hp,k⟩:=h;refine ⟨_,ak (ax (ng AI rfl (by rfl) T.b7 PySem.boot_len (by rfl) T.xc qb (aa (aq gP hr (by rfl) T.dR.mg T.dR.fn.kp T.dR.bd .nil aC (aa (pv 0) (aa (pv 1) (af)))) (af)))),?_⟩;refine ⟨_,rfl,_,rfl,u,p,n,wss,rfl,hd,ok,hp,λD H1 hD s1 hDD=>⟨D,_,rfl,.of hDD,Pj (ok.Fl p) (by decide),k H1 s1⟩⟩
theorem B6 {α:Type}{l m:List α}{f:α->Bool} (h:l.Perm m):l.all f=m.all f:=by
 rw [N7,Od,Od];exact ⟨λq x hx=>q x (h.mem_iff.mpr hx),λq x hx=>q x (h.mem_iff.mp hx)⟩
theorem Bf (ws:List Str):(ws.map V.str).all fX=true:=by
 rw [Od];intro x hx;obtain ⟨w,_,rfl⟩:=NJ.mp hx;rfl
theorem zd (ws:List Str) (w:Str):(ws.map V.str).countP (λz=>eqV z (.str w))=ws.countP λz=>decide (z=w):=by
 rw [List.countP_map];rfl
theorem bM:aE ["group","place","sieve","spread","least","words","unlike"] ["group","place","sieve"] (ah (top 33)):=⟨rfl,rfl,rfl,by decide +kernel,rfl,by decide +kernel,by decide +kernel⟩
set_option maxHeartbeats 8000000 in
theorem kK (T:Tx K mg A):aA P w K mg base CX0 2 A.dH A.dO ["group","place","sieve"] (fM K):=by
 have gP:aA P w K mg base CX0 1 A.gE A.gB ["group","place"] (g7 K):=(kL T).mono (by decide);refine T.cZ.fn.ok bM (λvs H Q E h=>?_) (λcdv Ar outer s H vs Q E hr h=>?_)
 ·obtain ⟨u,p,n,wss,t,s,l,rfl,_⟩:=h;rfl
 ·obtain ⟨u,p,n,wss,t,s,l,rfl,hd,ok,hp,hqt,k⟩:=h;refine ⟨_,aj (rC (pv 2) (iM rfl (bw (au (i:=3) bM.nd rfl (Or.inl rfl)) (bw (au (i:=4) bM.nd rfl (Or.inr rfl)) (fj)))))
   (aj (aQ (i:=5) bM.nd rfl (Or.inr rfl) (aq gP hr (by rfl) T.dR.mg T.dR.fn.kp T.dR.bd .nil aC (aa (pv 0) (aa (pv 1) (af)))))
   (aj (aQ (i:=6) bM.nd rfl (Or.inl rfl) (ng (gm rfl hr) rfl (by rfl) T.fB gu (by rfl) T.xc qb (aa (pv 5) (af))))
   (ak (ax (yO (DE De De (ap) (aI (r:=dq K) ba (by rfl) T.b7 PySem.boot_len (aa (pv 6) (af))) (pv 3)) (yV (aI (r:=EX K) (p8 rfl) (by rfl) T.Cn zi (aa (aP (N':=["word","least","words"]) (n:=1) (fi:=[4,5]) (g:=aU 0) rfl (aX (ah (top 33)) ["group","place","sieve","spread","least","words","unlike"] (by decide +kernel)) (aH (pv 6)) (λs H fp=>au (i:=0) (show (["word","least","words"]:List Str).Nodup by decide +kernel) rfl (Or.inl rfl) (.inr rfl)) (λs H fp=>aO) (λs H fp=>cy (Ee) (vO (K:=K) rfl (r:=Eg K) PySem.F.plainAttrs_list PySem.F.slot_list_count PySem.F.type_list_count DN (pv 2) (aa (pv 0) (af))) (pv 1) (aJ _))) (af))))))))),?_⟩
  refine ⟨_,rfl,t,_,rfl,hqt,rfl,_,_,rfl,_,_,rfl,rfl,?_⟩;refine ⟨_,rfl,_,rfl,u,p,n,wss,rfl,hd,ok,hp,λW H1 hW s1 hWW=>?_⟩;refine ⟨_,rfl,W,_,rfl,.of hWW,Pj (ok.Fl p) (by decide),ok.FY p,λU ms hU a9 hup=>?_⟩;have sU:ae H1 (upd H1 U (.lst (ms.map V.str))):=ae.new hU;have hUU:(upd H1 U (.lst (ms.map V.str))) U=some (.lst (ms.map V.str)):=ab;have hW2:=sU _ _ hWW;have s2:=s1.trans sU;generalize upd H1 U (.lst (ms.map V.str))=H2 at sU hUU hW2 s2 ⊢;have hml:ms.length=(uAt wss p).length:=a9.length_eq;have hlen:((ms.map V.str).length:Int)=((uAt wss p).length:Int):=by rw [NE,hml]
  refine ⟨_,rfl,U,_,rfl,.inl (.of hUU),_,_,rfl,rfl,_,rfl,?_⟩;rw [hlen];cases c1:decide ((2:Int)<=((uAt wss p).length:Int)) with
  | false=>
   refine bf ⟨_,rfl,bf ?_⟩;have e:cg wss p s l=false:=by unfold cg;rw [c1];rfl
   rw [<-e];exact k H2 s2
  | true=>
   refine bL ⟨_,rfl,_,_,rfl,rfl,_,rfl,?_⟩;cases c2:decide (((uAt wss p).length:Int)<=s) with
   | false=>
    refine bf ?_;have e:cg wss p s l=false:=by unfold cg;rw [c1,c2];rfl
    show Q (.bl false) H2;rw [<-e];exact k H2 s2
   | true=>
    refine bL ⟨_,rfl,U,rfl,⟨_,.of hUU⟩,λB hB=>?_⟩;refine aF (K:=K) (xs:=ms.map V.str) (λi acc σ H4=>(∃ u,σ=[u,some (.int l),some (.ref W)])/\ae H2 H4/\acc=((ms.take i).map λw=>decide (l<=((wAt wss p).countP λz=>decide (z=w):Nat))).map V.bl) ab ⟨⟨_,rfl⟩,ae.new hB,rfl⟩ (λi acc σ H4 _ _ q=>.of (q.2.1 _ _ hUU)) (λi x acc σ H4 hx hBx q=>?_) (λacc σ H4 hB4 q=>?_)
    ·obtain ⟨q0,s4,rfl⟩:=q;apply bP q0;clear q0;intro u';obtain ⟨w',hw,rfl⟩:=b0 hx;have hi:=aG hw;have hu:=ok.FY p;have hW4:=s4 _ _ hW2;refine bV ⟨_,rfl,.inl ⟨rfl,_,.of hW4⟩,_,rfl,W,_,_,rfl,rfl,.of hW4,rfl,Bf _,_,rfl,_,_,rfl,rfl,?_⟩;refine ⟨_,hBx,small (by rw [NE,NE,NR];lia),_,ab,⟨_,rfl⟩,ar hB s4,?_⟩;rw [zd,NY,hw];simp
    ·obtain ⟨_,s4,rfl⟩:=q;rw [NE,NI (NH _)] at hB4;refine ⟨B,_,rfl,.of hB4,?_⟩;have e:cg wss p s l=((ms.map λw=>decide (l<=((wAt wss p).countP λz=>decide (z=w):Nat))).all id):=by
      unfold cg;rw [c1,c2,List.all_map,Pd,Pd];exact (B6 a9).symm
     rw [<-e];exact k H4 (s2.trans s4)
end
end K39
namespace LG
open PySem L2
section
variable {K:PySem.W.Frag}{H H':Hp}{P:Addr}
theorem rL {ps:Array Value}{a:Addr}{o:HO} (h:H P=some (.tbl ps)) (e:H a=some o) (n:∀ qs,o ≠ .tbl qs):a≠P:=λz=>by
 rw [z,h] at e;cases e;exact n _ rfl
theorem BQ {ps:Array Value}{a:Addr}{o:HO} (h:H P=some (.tbl ps)) (r:Rd H a o) (n:∀ qs,o ≠ .tbl qs):Rd (wo P H) a o:=by
 rcases r with r | ⟨ob,r⟩
 ·exact .inl (by rw [aS (rL h r n)];exact r)
 ·exact .inr ⟨ob,by rw [aS (rL h r λqs e=>by cases e)];exact r⟩
theorem vD {ps:Array Value}{a:Addr}{xs:List V} (h:H P=some (.tbl ps)) (r:SqL K H a xs):SqL K (wo P H) a xs:=by
 rcases r with r | r
 ·exact .inl (BQ h r λqs e=>by cases e)
 ·exact .inr r
theorem lA {ps:Array Value}{a:Addr}{xs:List V} (h:H P=some (.tbl ps)) (r:SqT K H a xs):SqT K (wo P H) a xs:=by
 rcases r with r | r
 ·exact .inl (BQ h r λqs e=>by cases e)
 ·exact .inr r
theorem z6 {ps:Array Value}{v:V}{d:PyData} (h:H P=some (.tbl ps)) (r:Den K H v d):Den K (wo P H) v d:=r.keep (λ_ _ q=>vD h q) λ_ _ q=>lA h q
theorem qK {ps:Array Value}{v:List V}{d:List PyData} (h:H P=some (.tbl ps)) (r:aB K H v d):aB K (wo P H) v d:=r.keep (λ_ _ q=>vD h q) λ_ _ q=>lA h q
theorem dE {pos:Pos}{qual:Str} (h:o5 P pos qual H):∃ ps,H P=some (.tbl ps):=let ⟨ps,e,_⟩:=h;⟨ps,e⟩
theorem a8 {pos:Pos}{qual:Str} (h:o5 P pos qual H) (s:ae H H'):o5 P pos qual H':=by
 obtain ⟨ps,h1,h2,h3⟩:=h;refine ⟨ps,s _ _ h1,h2,h3.imp id λ⟨c,a,b⟩=>⟨c,a,s _ _ b⟩⟩
theorem Dx {c:Addr}{qual:Str}{H1 H2:Hp}{u v:Value} (h:H2=H1\/∃ ps,H1 P=some (.tbl ps)/\H1 c=none/\H2=upd (upd H1 P (.tbl (ps ++ #[u,v,.ref c]))) c (pA c qual)):ae (wo P H1) H2:=by
 rcases h with rfl | ⟨ps,h1,h2,rfl⟩
 ·exact bc
 ·refine ar ?_ (ar cX bc);by_cases e:c=P
  ·rw [e,cX]
  ·rw [aS e];exact h2
theorem pR {a:Addr}{o:HO}{ps:Array Value} (s:ae (wo P H) H') (h:H P=some (.tbl ps)) (e:H a=some o) (n:∀ qs,o ≠ .tbl qs):H' a=some o:=s _ _ (by rw [aS (rL h e n)];exact e)
end
def eA (wss:List (List Str)) (n:Nat) (s l:Int):List Nat:=(List.range n).filter λp=>cg wss p s l
def plc (wss:List (List Str)) (n:Nat) (s l:Int):Option Nat:=if eA wss n s l=[] then none else some ((eA wss n s l).getD (bb ((eA wss n s l).map λp=>.int (uAt wss p).length)) 0)
def LK:Option Nat->V
 | none=>.non
 | some p=>.int p
theorem AF {wss:List (List Str)}{i:Nat}{s l:Int}:eA wss (i+1) s l=eA wss i s l++[i].filter λp=>cg wss p s l:=by
 unfold eA;rw [OV,Oe]
theorem Dq {wss:List (List Str)}{i:Nat}{s l:Int}:(eA wss i s l).length<=i:=by
 unfold eA;exact NM (N8 _ _) (by rw [OB];exact NH _)
theorem p9 {wss:List (List Str)}{n p:Nat}{s l:Int} (h:p∈eA wss n s l):p<n/\cg wss p s l=true:=by
 unfold eA at h;obtain ⟨h1,h2⟩:=Oc.mp h;exact ⟨Oh.mp h1,h2⟩
theorem xJ (wss:List (List Str)) (ps:List Nat) (h:ps≠[]):bb (ps.map λp=>PyData.int (uAt wss p).length)<ps.length:=by
 obtain ⟨d,h1,_⟩:=jv (all:=ps.map λp=>PyData.int (uAt wss p).length) (Sh.ok .int) (λd hd=>by
  obtain ⟨p,_,rfl⟩:=NJ.mp hd;exact ⟨_,rfl⟩) (λe=>h (Ol.mp e))
 have:=aG h1
 rwa [NE] at this
theorem IH {wss:List (List Str)}{n p:Nat}{s l:Int} (h:plc wss n s l=some p):p<n/\cg wss p s l=true:=by
 unfold plc at h
 split at h
 ·cases h
 ·rename_i hne;have hl:=xJ wss _ hne;rw [NU,NG hl] at h;cases h;exact p9 (Ov hl)
theorem EC (i:Int):(PyData.int i).depth<=100:=NW _
end LG
namespace K39
open PySem L2 LG
section
variable {P:Program}{w:World}{K:PySem.W.Frag}{mg:Str->Option Value}{base:Heap}{A:Ad}
def My:Str:=("place_to_part_at" : Str) ++ ".<locals>." ++ "<lambda>"
def bC (P:Addr) (H:Hp):Prop:=o5 P ⟨104,27,104,69⟩ My H
def f9 (K:PySem.W.Frag) (P:Addr):Sp:=λvs H Q _=>∃ (u:V) (n:Nat) (wss:List (List Str)) (t:Addr) (s l:Int),vs=[u,.ref t]/\Den K H u (gD wss)/\GOk n wss/\SqT K H t [.int s,.int l]/\bC P H /\
 ∀ H',ae (wo P H) H'->bC P H'->Q (LK (plc wss n s l)) H'
theorem f7:aE ["group","sieve","places"] ["group","sieve"] (ah (top 34)):=⟨rfl,rfl,rfl,by decide +kernel,rfl,by decide +kernel,by decide +kernel⟩
set_option maxHeartbeats 8000000 in
theorem lU (T:Tx K mg A):aA P w K mg base CX0 5 A.d3 A.cF ["group","sieve"] (f9 K A.aD):=by
 have lX:aA P w K mg base CX0 4 A.dH A.dO ["group","place","sieve"] (fM K):=(kK T).mono (by decide);have mS:aA P w K mg base CX0 2 A.eX A.eV ["group","place"] (ic K):=(nE T).mono (by decide);refine T.dz.fn.okC T.lam.code f7 (λvs H Q E h=>?_) (λAr outer s H vs Q E hr h=>?_)
 ·obtain ⟨u,n,wss,t,s,l,rfl,_⟩:=h;rfl
 ·obtain ⟨u,n,wss,t,s',l,rfl,hd,ok,hqt,hla,k⟩:=h;obtain ⟨a,xs,rfl,hq,hds⟩:=xm hd;have hxl:xs.length=wss.length:=by rw [hds.length,NE]
  have hlen:0<wss.length:=ON.mpr ok.ne;have hx0:xs[0]? = some xs[0]:=NG (by lia);obtain ⟨ws0,r0,hw0,er0,Hl⟩:=gg hds hx0;have K8:=ok.row ws0 (NF hw0);have h12:=ok.Bx;refine ⟨_,aj (jf (i:=2) (N':=["place","group","sieve"]) (n:=1) (fi:=[0,1]) (g:=aU 0) f7.nd rfl (Or.inl rfl) rfl (aX (ah (top 34)) ["group","sieve","places"] (by decide +kernel)) (dB (by rfl) T.eC (aa (aI (r:=dq K) ba (by rfl) T.b7 PySem.boot_len (aa (aR (r:=cE K) aT (pv 0) (ap) (λ_ _=>rfl)) (af))) (af))) (λs H fp=>au (i:=0) (show (["place","group","sieve"]:List Str).Nodup by decide +kernel) rfl (Or.inl rfl) (.inr rfl)) (λs H fp=>cq (cD (aq lX hr (by rfl) T.cZ.mg T.cZ.fn.kp T.cZ.bd .nil aC (aa (pv 1) (aa (pv 0) (aa (pv 2) (af))))))) (λs H fp=>pv 0))
   (ak (ax (FZ (P:=A.aD) (y:= "place") (N':=["place","group"]) (fi:=[0]) rfl hr (HI (ah (top 34)) ["group","sieve","places"] (by decide +kernel)) rfl T.lam.hd T.lam.bm (λq c' s H=>aq mS (hr.in1.deeper _) (by rfl) T.eD.mg T.eD.fn.kp T.eD.bd .nil aC (aa (pv 1) (aa (pv 0) (af)))) (by rfl) T.wA (aa (pv 2) (af))))),?_⟩
  rw [er0] at hx0;refine ⟨_,rfl,a,xs,0,_,rfl,rfl,hq,bo (j:=0) hx0,r0,_,rfl,.inl Hl,(n:Int),?_,by lia,by lia,λD hD=>?_⟩
  ·rw [NE,K8.1]
  refine gw (λi acc σ H4=>(∃ u,σ=[u,some (.ref a),some (.ref t)])/\ae H H4/\acc=(eA wss i s' l).map λp=>V.int (p:Nat)) ab ⟨⟨_,rfl⟩,ae.new hD,rfl⟩ (λi acc σ H4 hi hDx q=>?_) (λacc σ H4 hD4 q=>?_)
  ·obtain ⟨q0,s4,rfl⟩:=q;apply bP q0;clear q0;intro u';have hi':i<n:=by lia
   have hpl:=Dq (wss:=wss) (i:=i) (s:=s') (l:=l);have e0:((0:Int)+(i:Int))=((i:Nat):Int):=by lia
   refine ⟨_,rfl,_,rfl,_,rfl,.ref a,i,n,wss,t,s',l,?_,hd.same s4,ok,hi',s4.fV hqt,λH5 s5=>⟨_,rfl,?_⟩⟩
   ·rw [e0];rfl
   rw [AF];cases hf:cg wss i s' l with
   | true=>
    refine bL ⟨_,rfl,_,s5 _ _ hDx,small (by rw [NE];lia),_,ab,⟨_,rfl⟩,ar hD (s4.trans s5),?_⟩;have e2:[i].filter (λp=>cg wss p s' l)=[i]:=by simp [hf]
    rw [e2,NS,e0];rfl
   | false=>
    refine bf ⟨_,s5 _ _ hDx,⟨_,rfl⟩,s4.trans s5,?_⟩;have e2:[i].filter (λp=>cg wss p s' l)=[]:=by simp [hf]
    rw [e2,N6]
  ·obtain ⟨_,s4,rfl⟩:=q;have la4:bC A.aD H4:=a8 hla s4;refine ⟨_,rfl,.ref D,rfl,la4,λc H5 hn la5 hcx=>?_⟩;have sw:ae (wo A.aD H4) H5:=Dx hn;obtain ⟨ps,htb⟩:=dE la4;have hd5:Den K H5 (.ref a) (gD wss):=(z6 htb (hd.same s4)).same sw;have hD5:H5 D=_:=pR sw htb hD4 λqs e=>by cases e
   have s05:ae (wo A.aD H) H5:=(ck s4).trans sw;have en:(n:Int).toNat=n:=by lia
   refine tX (kds:=(eA wss n s' l).map λp=>.int (uAt wss p).length) (Sh.ok .int) (.of hD5) (by rw [NE,NE,en]) (λd hd=>?_) (λm x d H6 Q6 hx hd s6 kk=>?_) (λJc=>?_) (λhnn H6 s6=>?_)
   ·obtain ⟨p,_,rfl⟩:=NJ.mp hd;exact ⟨⟨_,rfl⟩,EC _⟩
   ·rw [en,NK] at hx;rw [NK] at hd;cases e:(eA wss n s' l)[m]? with
    | none=>rw [e] at hx;cases hx
    | some p=>
     rw [e] at hx hd;cases hx;cases hd;have hp:=(p9 (NF e)).1;exact ⟨_,rfl,s6 _ _ hcx,_,rfl,_,rfl,.ref a,p,n,wss,rfl,hd5.same s6,ok,hp,λH7 s7=>kk _ H7 s7 (.int _)⟩
   ·have e:plc wss n s' l=none:=by
     unfold plc;rw [if_pos];have:=Ol.mp Jc
     rwa [en] at this
    have:=k H5 s05 la5;rw [e] at this;exact this
   ·rw [en] at hnn ⊢;have hne:eA wss n s' l≠[]:=λe=>hnn (by rw [e];rfl);have hl:=xJ wss _ hne;have e:plc wss n s' l=some ((eA wss n s' l).getD (bb ((eA wss n s' l).map λp=>.int (uAt wss p).length)) 0):=by unfold plc;rw [if_neg hne]
    have:=k H6 (s05.trans s6) (a8 la5 s6);rw [e] at this;have e2:((eA wss n s' l).map λp=>V.int (p:Nat)).getD (bb ((eA wss n s' l).map λp=>.int (uAt wss p).length)) .non=V.int ((eA wss n s' l).getD (bb ((eA wss n s' l).map λp=>.int (uAt wss p).length)) 0:Nat):=by
     rw [NU,NK,NU,NG hl];rfl
    rw [e2];exact this
end
end K39
namespace LG
open PySem L2
structure BG {α:Type} (l:List (Key×α)) (p:Key×List α):Prop where
 ne:p.2≠[]
 of:∀ x∈p.2,(p.1,x)∈l
 le:p.2.length<=l.length
theorem Ih {α:Type}{l:List (Key×α)}{st:List (Key×List α)}{k:Key}{x:α} (h:∀ p∈st,BG l p):∀ p∈bN st k x,BG (l++[(k,x)]) p:=λp hp=>by
 have up:∀ q∈st,BG (l++[(k,x)]) q:=λq hq=>⟨(h q hq).ne,λy hy=>Pa _ ((h q hq).of y hy),by rw [NX];exact NM (h q hq).le (Nat.le_add_right _ _)⟩;unfold bN at hp
 split at hp
 ·obtain ⟨q,hq,rfl⟩:=NJ.mp hp;by_cases e:q.1=k
  ·rw [if_pos e];refine ⟨by simp,λy hy=>?_,?_⟩
   ·rcases Oa.mp hy with z | z
    ·exact (up q hq).of y z
    ·rw [NQ.mp z];show (q.1,x)∈_;rw [e];simp
   ·show (q.2++[x]).length<=_;rw [NX,NX,OF,OF];exact Nat.succ_le_succ (h q hq).le
  ·rw [if_neg e];exact up q hq
 ·rcases Oa.mp hp with z | z
  ·exact up p z
  ·rw [NQ.mp z];refine ⟨by simp,λy hy=>?_,by simp⟩;rw [NQ.mp hy];simp
theorem ue {α:Type} (l:List (Key×α)):∀ p∈bU l,BG l p:=by
 have go:∀ (r pre:List (Key×α)) (st:List (Key×List α)),(∀ p∈st,BG pre p)->∀ p∈r.foldl (λst p=>bN st p.1 p.2) st,BG (pre++r) p:=λr=>by
  induction r with
  | nil=>intro pre st h p hp;rw [N6];exact h p hp
  | cons q r ih=>
   intro pre st h p hp;have:=ih (pre++[q]) (bN st q.1 q.2) (Ih h) p hp
   rwa [Pc,List.singleton_append] at this
 exact go l [] [] (λp hp=>by cases hp)
def byW (wss:List (List Str)) (p:Nat):List (List (List Str)):=grp ((wAt wss p).map Sum.inr) wss
theorem zip_map {α β:Type} (f:α->β):∀ l:List α,(l.map f).zip l=l.map λx=>(f x,x)
 | []=>rfl
 | a::l=>by rw [N1,List.zip_cons_cons,zip_map f l];rfl
theorem og {wss g:List (List Str)}{p:Nat} (h:g∈byW wss p):g≠[]/\g.length<=wss.length/\(∀ ws∈g,ws∈wss)/\∃ w:Str,∀ ws∈g,ws.getD p Str.empty=w:=by
 unfold byW grp at h;obtain ⟨q,hq,rfl⟩:=NJ.mp h;have ez:((wAt wss p).map (Sum.inr:Str->Key)).zip wss=wss.map λws=>(Sum.inr (ws.getD p Str.empty),ws):=by
  unfold wAt;rw [Ow];exact zip_map _ wss
 rw [ez] at hq;have ok:=ue _ q hq;have key:∀ ws∈q.2,ws∈wss/\(Sum.inr (ws.getD p Str.empty):Key)=q.1:=λws hws=>by
  obtain ⟨v,hv,e⟩:=NJ.mp (ok.of ws hws);injection e with e1 e2;rw [<-e2];exact ⟨hv,e1⟩
 refine ⟨ok.ne,?_,λws hws=>(key ws hws).1,?_⟩
 ·have:=ok.le
  rwa [NE] at this
 ·cases e:q.1 with
  | inl i=>
   obtain ⟨ws,hws⟩:=Pr _ ok.ne;have:=(key ws hws).2;rw [e] at this;cases this
  | inr w=>
   refine ⟨w,λws hws=>?_⟩;have:=(key ws hws).2;rw [e] at this;exact Sum.inr.inj this
theorem GOk.sub {n p:Nat}{wss g:List (List Str)} (h:GOk n wss) (hg:g∈byW wss p):GOk n g:=by
 obtain ⟨h1,h2,h3,_⟩:=og hg;exact ⟨h1,Ot h2 h.le,h.Bx,h.pos,λws hws=>h.row ws (h3 ws hws)⟩
theorem gf {x:Str}:∀ {zs us:List Str},x∈bI us zs↔x∈us\/x∈zs
 | [],us=>by simp [bI]
 | z::zs,us=>by
  unfold bI;rw [gf];by_cases h:z∈us
  ·rw [if_pos h,NZ];constructor
   ·rintro (a | a)
    ·exact .inl a
    ·exact .inr (.inr a)
   ·rintro (a | a | a)
    ·exact .inl a
    ·rw [a];exact .inl h
    ·exact .inr a
  ·rw [if_neg h,Oa,NQ,NZ];constructor
   ·rintro ((a | a) | a)
    ·exact .inl a
    ·exact .inr (.inl a)
    ·exact .inr (.inr a)
   ·rintro (a | a | a)
    ·exact .inl (.inl a)
    ·exact .inl (.inr a)
    ·exact .inr a
theorem dC:∀ {zs us:List Str},us.Nodup->(bI us zs).Nodup
 | [],us,h=>h
 | z::zs,us,h=>by
  unfold bI;refine dC ?_;by_cases e:z∈us
  ·rw [if_pos e];exact h
  ·rw [if_neg e,List.nodup_append];refine ⟨h,by simp,λa ha b hb=>?_⟩;rw [NQ.mp hb];exact λz'=>e (z' ▸ ha)
def two (wss:List (List Str)) (p:Nat):Bool:=decide (2<=(uAt wss p).length)
theorem B1 {wss:List (List Str)}{p:Nat} (h:two wss p=true):∃ x y,x≠y/\x∈wAt wss p/\y∈wAt wss p:=by
 have h2:2<=(uAt wss p).length:=of_decide_eq_true h;have nd:(uAt wss p).Nodup:=dC (by simp);have hm:∀ z∈uAt wss p,z∈wAt wss p:=λz hz=>(gf.mp hz).resolve_left (by simp)
 match e:uAt wss p,h2,nd,hm with
 | x::y::r,_,nd,hm=>exact ⟨x,y,λz=>(Pl.mp nd).1 (by rw [z];simp),hm x (by simp),hm y (by simp)⟩
theorem HC {wss:List (List Str)}{p:Nat}{x y:Str} (hne:x≠y) (hx:x∈wAt wss p) (hy:y∈wAt wss p):two wss p=true:=by
 have hx':x∈uAt wss p:=gf.mpr (.inr hx);have hy':y∈uAt wss p:=gf.mpr (.inr hy);refine decide_eq_true ?_
 match e:uAt wss p,hx',hy' with
 | [z],hx',hy'=>exact (hne ((NQ.mp hx').trans (NQ.mp hy').symm)).elim
 | _::_::r,_,_=>simp
def mu (n:Nat) (wss:List (List Str)):Nat:=(List.range n).countP (two wss)
theorem GV (n:Nat) (wss:List (List Str)):mu n wss<=n:=by
 unfold mu;exact NM List.countP_le_length (by rw [OB];exact NH _)
theorem AS {l:List Nat}{f g:Nat->Bool}{p:Nat} (h:∀ q,f q=true->g q=true) (hp:p∈l) (h1:f p=false) (h2:g p=true):l.countP f<l.countP g:=by
 induction l with
 | nil=>cases hp
 | cons a l ih=>
  have mono:l.countP f<=l.countP g:=List.countP_mono_left λq _=>h q;rw [Pf,Pf];rcases NZ.mp hp with e | e
  ·rw [<-e,h1,h2];simp;lia
  ·have:=ih e;have hs:(if f a=true then 1 else 0)<=(if g a=true then 1 else 0):=by
    cases hf:f a with
    | false=>simp
    | true=>rw [h a hf];simp
   lia
theorem GR {n p:Nat}{wss g:List (List Str)} (hp:p<n) (ht:two wss p=true) (hg:g∈byW wss p):mu n g<mu n wss:=by
 obtain ⟨_,_,h3,w,h4⟩:=og hg;refine AS (p:=p) (λq hq=>?_) (Oh.mpr hp) ?_ ht
 ·obtain ⟨x,y,hne,hx,hy⟩:=B1 hq;have up:∀ z∈wAt g q,z∈wAt wss q:=λz hz=>by
   obtain ⟨ws,hws,rfl⟩:=NJ.mp hz;exact OM (h3 ws hws)
  exact HC hne (up x hx) (up y hy)
 ·rw [N5];intro z;obtain ⟨x,y,hne,hx,hy⟩:=B1 z;obtain ⟨a,ha,rfl⟩:=NJ.mp hx;obtain ⟨b,hb,rfl⟩:=NJ.mp hy;exact hne ((h4 a ha).trans (h4 b hb).symm)
theorem zS {wss:List (List Str)}{p:Nat}{s l:Int} (h:cg wss p s l=true):two wss p=true:=by
 unfold cg at h;have:=of_decide_eq_true (Bool.and_eq_true_iff.mp h).1;exact decide_eq_true (by lia)
def prt (n:Nat) (s l:Int):Nat->List (List Str)->List (List (List Str))
 | 0,g=>[g]
 | N+1,g=>match plc g n s l with
  | none=>[g]
  | some p=>(byW g p).flatMap (prt n s l N)
theorem ve {n:Nat}{s l:Int}:∀ {N:Nat}{wss:List (List Str)},GOk n wss->∀ g∈prt n s l N wss,GOk n g
 | 0,wss,h,g,hg=>by rw [NQ.mp hg];exact h
 | N+1,wss,h,g,hg=>by
  unfold prt at hg
  split at hg
  ·rw [NQ.mp hg];exact h
  ·rename_i p _;obtain ⟨g',h1,h2⟩:=List.mem_flatMap.mp hg;exact ve (h.sub h1) g h2
theorem tT {K:PySem.W.Frag}{H:Hp}{xs:List V}{wss:List (List Str)}:aB K H xs (wss.map wsD)->fE (λx ws=>Den K H x (wsD ws)) xs wss:=by
 induction wss generalizing xs with
 | nil=>intro h;cases h;exact .nil
 | cons ws wss ih=>
  intro h;cases h with
  | cons a t=>exact .cons a (ih t)
theorem uo {K:PySem.W.Frag}{H:Hp}{xs:List V}{wss:List (List Str)} (h:fE (λx ws=>Den K H x (wsD ws)) xs wss):aB K H xs (wss.map wsD):=by
 induction h with
 | nil=>exact .nil
 | cons h _ ih=>exact .cons h ih
def tot {α:Type} (st:List (Key×List α)):Nat:=(st.map λp=>p.2.length).sum
theorem As {α:Type}{st:List (Key×List α)}{k:Key}{x:α} (h:(st.map (·.1)).Nodup):((bN st k x).map (·.1)).Nodup/\tot (bN st k x)=tot st+1:=by
 unfold bN
 split
 ·rename_i ha;have e:(st.map λp=>if p.1=k then (p.1,p.2++[x]) else p).map (·.1)=st.map (·.1):=by
   rw [Ow];exact Og λp _=>by show (if p.1=k then (p.1,p.2++[x]) else p).1=p.1;split <;> rfl
  refine ⟨by rw [e];exact h,?_⟩;have key:∀ l:List (Key×List α),(l.map (·.1)).Nodup->(l.any λp=>decide (p.1=k))=true->tot (l.map λp=>if p.1=k then (p.1,p.2++[x]) else p)=tot l+1:=λl=>by
   induction l with
   | nil=>intro _ h;cases h
   | cons a l ih=>
    intro hn ha;have hn':=Pl.mp hn;by_cases e:a.1=k
    ·have em:(l.map λp=>if p.1=k then (p.1,p.2++[x]) else p)=l:=by
      have:∀ p∈l,(if p.1=k then (p.1,p.2++[x]) else p)=p:=λp hp=>if_neg λz=>hn'.1 (by show a.1∈_;rw [e,<-z];exact OM hp);exact (Og this).trans (List.map_id' l)
     rw [N1,if_pos e,em];simp [tot];lia
    ·have ha':(l.any λp=>decide (p.1=k))=true:=by
      rw [OP,decide_eq_false e] at ha;simpa using ha
     have:=ih hn'.2 ha';rw [N1,if_neg e];simp only [tot,N1,O0] at this ⊢;lia
  exact key st h ha
 ·rename_i ha;refine ⟨?_,by simp [tot]⟩;rw [NS,List.nodup_append];refine ⟨h,by simp,λa hm b hb e=>?_⟩;apply ha;rw [N1,OU,NQ] at hb;obtain ⟨p,hp,rfl⟩:=NJ.mp hm;rw [OA];exact ⟨p,hp,decide_eq_true (e.trans hb)⟩
theorem q9 {α:Type} (l:List (Key×α)):tot (bU l)=l.length:=by
 have go:∀ (r:List (Key×α)) (st:List (Key×List α)),(st.map (·.1)).Nodup->tot (r.foldl (λst p=>bN st p.1 p.2) st)=tot st+r.length:=λr=>by
  induction r with
  | nil=>intro st _;rfl
  | cons q r ih=>
   intro st h;have:=As (k:=q.1) (x:=q.2) h;rw [List.foldl_cons,ih _ this.1,this.2,N4];lia
 have:=go l [] (by simp);simpa [bU,tot] using this
def gW {α:Type} (gs:List (List α)):Nat:=(gs.map List.length).sum
theorem wO (wss:List (List Str)) (p:Nat):gW (byW wss p)=wss.length:=by
 have h:=q9 (((wAt wss p).map (Sum.inr:Str->Key)).zip wss);have e:gW (byW wss p)=tot (bU (((wAt wss p).map (Sum.inr:Str->Key)).zip wss)):=by
  unfold gW byW grp tot;rw [Ow];rfl
 rw [e,h,List.length_zip,NE];unfold wAt;rw [NE,Nat.min_self]
theorem iq {n:Nat}{s l:Int}:∀ {N:Nat}{wss:List (List Str)},wss≠[]->(prt n s l N wss).length<=wss.length
 | 0,wss,h=>by
  show 1<=_;exact ON.mpr h
 | N+1,wss,h=>by
  unfold prt
  split
  ·show 1<=_;exact ON.mpr h
  ·rename_i p _;have key:∀ gs:List (List (List Str)),(∀ g∈gs,g≠[])->(gs.flatMap (prt n s l N)).length<=gW gs:=λgs=>by
    induction gs with
    | nil=>intro _;exact NH _
    | cons g gs ih=>
     intro hg;rw [OO,NX];have h1:=iq (n:=n) (s:=s) (l:=l) (N:=N) (hg g (by simp));have h2:=ih λg' hg'=>hg g' (by simp [hg']);simp only [gW,N1,O0] at h2 ⊢;lia
   have:=key (byW wss p) λg hg=>(og hg).1;rw [wO] at this;exact this
theorem Ew {n:Nat}{s l:Int}{N:Nat}{wss:List (List Str)}{p:Nat} (i:Nat):(((byW wss p).take i).flatMap (prt n s l N)).length<=wss.length:=by
 have key:∀ gs:List (List (List Str)),(∀ g∈gs,g≠[])->(gs.flatMap (prt n s l N)).length<=gW gs:=λgs=>by
  induction gs with
  | nil=>intro _;exact NH _
  | cons g gs ih=>
   intro hg;rw [OO,NX];have h1:=iq (n:=n) (s:=s) (l:=l) (N:=N) (hg g (by simp));have h2:=ih λg' hg'=>hg g' (by simp [hg']);simp only [gW,N1,O0] at h2 ⊢;lia
 have mono:∀ (gs:List (List (List Str))) (i:Nat),gW (gs.take i)<=gW gs:=λgs=>by
  induction gs with
  | nil=>intro i;simp [gW]
  | cons g gs ih=>
   intro i;cases i with
   | zero=>simp [gW]
   | succ i=>
    have:=ih i;simp only [gW,List.take_succ_cons,N1,O0] at this ⊢;lia
 have h1:=key ((byW wss p).take i) λg hg=>(og (OQ hg)).1;have h2:=mono (byW wss p) i;rw [wO] at h2;lia
def hU (A B:Hp):Hp:=λb=>match A b with
 | some o=>some o
 | none=>B b
section
variable {A B H:Hp}
theorem FP:ae A (hU A B):=λb o e=>by unfold hU;rw [e]
theorem Jn (a:ae A H) (b:ae B H):ae B (hU A B):=λc o e=>by
 unfold hU;cases q:A c with
 | none=>exact e
 | some o'=>
  have h1:=a c o' q;have h2:=b c o e;rw [h1] at h2;exact h2
theorem Gw (a:ae A H) (b:ae B H):ae (hU A B) H:=λc o e=>by
 unfold hU at e
 split at e
 ·rename_i o' q;cases e;exact a c _ q
 ·exact b c o e
theorem uN {c:Addr} (a:A c=none) (b:B c=none):hU A B c=none:=by unfold hU;rw [a];exact b
theorem Gx {c:Addr} (h:hU A B c≠none):A c≠none\/B c≠none:=by
 unfold hU at h
 split at h
 ·rename_i o q;exact .inl (by rw [q];simp)
 ·exact .inr h
end
theorem vo {P G:Addr}{pos:Pos}{qual:Str}{H:Hp}{xs ys:List V} (h:o5 P pos qual H) (hG:H G=some (.lst xs)):o5 P pos qual (upd H G (.lst ys)):=by
 obtain ⟨ps,h1,h2,h3⟩:=h;have a:P≠G:=λe=>by rw [e,hG] at h1;cases h1
 refine ⟨ps,by rw [aw a];exact h1,h2,h3.imp id λ⟨c,x,y⟩=>⟨c,x,?_⟩⟩;have b:c≠G:=λe=>by rw [e,hG] at y;cases y
 rw [aw b];exact y
end LG
namespace K39
open PySem L2 LG
section
variable {P:Program}{w:World}{K:PySem.W.Frag}{mg:Str->Option Value}{base:Heap}{A:Ad}
def pT (N:Nat) (K:PySem.W.Frag) (P:Addr):Sp:=λvs H Q _=>∃ (B:Hp) (u:V) (n:Nat) (wss:List (List Str)) (t:Addr) (s l:Int),vs=[u,.ref t]/\ae B H/\B P=none/\Den K B u (gD wss)/\GOk n wss/\SqT K H t [.int s,.int l]/\bC P H/\mu n wss<N /\
 ∀ (D:Addr) (ys:List V) (C H':Hp),H D=none->ae (wo P H) H'->bC P H'->H' D=some (.lst ys)->ae B C->ae C H'->(∀ b,C b≠none->B b≠none\/H b=none)->C P=none->aB K C ys ((prt n s l N wss).map gD)->Q (.ref D) H'
def tV (K:PySem.W.Frag) (P:Addr):Sp:=pT 13 K P
theorem lQ:aE ["group","sieve","place","groups","smaller"] ["group","sieve"] (ah (top 35)):=⟨rfl,rfl,rfl,by decide +kernel,rfl,by decide +kernel,by decide +kernel⟩
set_option maxHeartbeats 8000000 in
theorem zA (T:Tx K mg A):∀ N,aA P w K mg base CX0 (6+N) A.iS A.iZ ["group","sieve"] (pT N K A.aD)
 | 0=>⟨λvs H Q E h=>by obtain ⟨B,u,n,wss,t,s,l,rfl,_⟩:=h;rfl,λ_ _ _ _ _ _ _ _ _ _ _ _ _ h=>by obtain ⟨B,u,n,wss,t,s,l,_,_,_,_,_,_,_,h1,_⟩:=h;lia⟩
 | N+1=>by
  have ml:aA P w K mg base CX0 (6+N) A.d3 A.cF ["group","sieve"] (f9 K A.aD):=(lU T).mono (by lia);have nZ:aA P w K mg base CX0 (6+N) A.lC A.lL ["rows","keys"] (mL K):=(qr T).mono (by lia);have gP:aA P w K mg base CX0 (6+N) A.gE A.gB ["group","place"] (g7 K):=(kL T).mono (by lia);have rJ:aA P w K mg base CX0 (6+N) A.iS A.iZ ["group","sieve"] (pT N K A.aD):=zA T N;show aA P w K mg base CX0 ((6+N)+1) A.iS A.iZ ["group","sieve"] (pT (N+1) K A.aD);refine T.parted.fn.ok lQ (λvs H Q E h=>?_) (λcdv Ar outer s H vs R E hr h=>?_)
  ·obtain ⟨B,u,n,wss,t,s,l,rfl,_⟩:=h;rfl
  ·obtain ⟨B,u,n,wss,t,s',l,rfl,hBH,hBP,hdB,ok,hqt,hla,hmu,k⟩:=h;refine ⟨_,aj (aQ (i:=2) lQ.nd rfl (Or.inl rfl) (aq ml hr (by rfl) T.dz.mg T.dz.fn.kp T.dz.bd .nil aC (aa (pv 0) (aa (pv 1) (af)))))
   (aj (bA (aK (Ds) (pv 2) (qJ) (aJ _)) (ak (ax (be (aa (pv 0) (af))))) (aZ))
   (aj (aQ (i:=3) lQ.nd rfl (Or.inl rfl) (be (af)))
   (aj (cs PassesOwn.never rfl (aH (aq nZ hr (by rfl) T.i9.mg T.i9.fn.kp T.i9.bd .nil aC (aa (pv 0) (aa (aq gP hr (by rfl) T.dR.mg T.dR.fn.kp T.dR.bd .nil aC (aa (pv 0) (aa (pv 2) (af)))) (af))))) (au (i:=4) lQ.nd rfl (Or.inl rfl)) (ak (cx (b6 PySem.F.plainAttrs_list PySem.F.slot_list_extend PySem.F.type_list_extend tR (pv 3) (aa (aq rJ hr (by rfl) T.parted.mg T.parted.fn.kp T.parted.bd .nil aC (aa (pv 4) (aa (pv 1) (af)))) (af))))))
   (ak (ax (pv 3)))))),?_⟩
   obtain ⟨a,xs,rfl,hqB,A9⟩:=xm hdB;have hxl:xs.length=wss.length:=by rw [A9.length,NE]
   obtain ⟨tb,htb⟩:=dE hla;have hBw:ae B (wo A.aD H):=cY hBP hBH;refine ⟨_,rfl,_,rfl,.ref a,n,wss,t,s',l,rfl,hdB.same hBH,ok,hqt,hla,λH1 s1 la1=>?_⟩;have hB1:ae B H1:=hBw.trans s1;have MS:SqT K H1 t [.int s',.int l]:=s1.fV (lA htb hqt);obtain ⟨tb1,K3⟩:=dE la1;have old:∀ {b:Addr}{H':Hp},ae (wo A.aD H) H'->H' b=none->b≠A.aD->H b=none:=λ{b H'} s' e ne=>by
    have:=s'.free e
    rwa [aS ne] at this
   refine ⟨_,rfl,rfl,_,rfl,?_⟩;cases hpl:plc wss n s' l with
   | none=>
    refine bL ⟨_,rfl,(by show 1<=sizeLine;decide),λD hD=>?_⟩;have sD:ae H1 (upd H1 D (.lst [.ref a])):=ae.new hD;have e:prt n s' l (N+1) wss=[wss]:=by unfold prt;rw [hpl]
    exact k D _ B _ (old s1 hD (ao K3 hD).symm) (s1.trans sD) (a8 la1 sD) ab (ae.refl B) (hB1.trans sD) (λb h=>.inl h) hBP (by rw [e];exact .cons hdB .nil)
   | some p=>
    obtain ⟨hp,uF⟩:=IH hpl;have epr:prt n s' l (N+1) wss=(byW wss p).flatMap (prt n s' l N):=by
     conv=>lhs;unfold prt
     rw [hpl]
    refine bf ?_;refine ⟨NW _,λG hG=>?_⟩;have sG:ae H1 (upd H1 G (.lst [])):=ae.new hG;have hGG:(upd H1 G (.lst [])) G=some (.lst []):=ab;have hGP:G≠A.aD:=(ao K3 hG).symm;have la2:=a8 la1 sG;have s2:ae (wo A.aD H) (upd H1 G (.lst [])):=s1.trans sG;generalize upd H1 G (.lst [])=H2 at sG hGG la2 s2 ⊢;refine ⟨_,rfl,_,rfl,_,rfl,.ref a,p,n,wss,rfl,hdB.same (hB1.trans sG),ok,hp,λW H3 hW s3 hWW=>?_⟩;have s13:=sG.trans s3;have ek:((wAt wss p).map V.str)=((wAt wss p).map (Sum.inr:Str->Key)).map kV:=by rw [Ow];rfl
    rw [ek] at hWW;have hwl:=ok.le;refine ⟨a,W,xs,(wAt wss p).map Sum.inr,rfl,(hB1.trans s13).seq hqB,.of hWW,by rw [NE];unfold wAt;rw [NE,hxl],by lia,λD as H4 hD s4 hDD has fU=>⟨D,rfl,⟨_,.of hDD⟩,?_⟩⟩;have s14:=s13.trans s4;have hG3:=s3 _ _ hGG;have hG4:=s4 _ _ hG3;have la4:bC A.aD H4:=a8 la2 (s3.trans s4);have s04:ae (wo A.aD H) H4:=s2.trans (s3.trans s4);obtain ⟨tb4,wj⟩:=dE la4;have hB4:ae B H4:=hB1.trans s14;have Nf:=s14.fV MS;have hGH:H G=none:=old s1 hG hGP;have hBG:B G=none:=by
     cases e:B G with
     | none=>rfl
     | some o=>rw [hBH _ _ e] at hGH;cases hGH
    have hC:∃ C4:Hp,ae B C4/\ae C4 H4/\C4 G=none/\C4 A.aD=none/\(∀ b,C4 b≠none->B b≠none\/H b=none)/\∀ c∈as,(∀ g,H4 c=some (.lst g)->g≠[]->C4 c=H4 c):=by
     refine ⟨λb=>if b=G\/b=A.aD then none else if B b≠none\/b∈as then H4 b else none,λb o e=>?_,λb o e=>?_,by simp,by simp,λb hb=>?_,λc hc g hg hne=>?_⟩
     ·have h1:b≠G:=λz=>by rw [z,hBG] at e;cases e
      have h2:b≠A.aD:=λz=>by rw [z,hBP] at e;cases e
      show (if b=G\/b=A.aD then none else _)=_;rw [if_neg (by rintro (z | z) <;> contradiction),if_pos (.inl (by rw [e];simp))];exact hB4 _ _ e
     ·dsimp only at e
      split at e
      ·cases e
      ·split at e
       ·exact e
       ·cases e
     ·dsimp only at hb
      split at hb
      ·exact absurd rfl hb
      ·rename_i hn
       split at hb
       ·rename_i hor;rcases hor with z | z
        ·exact .inl z
        ·refine .inr (old (s2.trans s3) (has b z) λw=>hn (.inr w))
       ·exact absurd rfl hb
     ·have h1:c≠G:=λz=>by rw [z,hG4] at hg;cases hg;exact hne rfl
      have h2:c≠A.aD:=λz=>by rw [z,wj] at hg;cases hg
      show (if c=G\/c=A.aD then none else _)=_;rw [if_neg (by rintro (z | z) <;> contradiction),if_pos (.inr hc)]
    obtain ⟨C4,hBC,hC4,hCG,hCP,hCb,hCa⟩:=hC;have Cr:=zB (tT (A9.same hBC)) ((wAt wss p).map Sum.inr);refine cM (K:=K) (xs:=as.map V.ref) (λi σ H5=>(∃ v,σ=[some (.ref a),some (.ref t),some (.int p),some (.ref G),v])/\ae (wo A.aD (wo G H4)) H5/\bC A.aD H5/\∃ (acc:List V) (C:Hp),H5 G=some (.lst acc)/\ae C4 C/\ae C H5/\C G=none/\C A.aD=none/\(∀ b,C b≠none->B b≠none\/H b=none)/\aB K C acc ((((byW wss p).take i).flatMap (prt n s' l N)).map gD))
     ⟨⟨_,rfl⟩,bc.trans bc,la4,[],C4,hG4,ae.refl _,hC4,hCG,hCP,hCb,.nil⟩ (λi σ H5 _ q=>.of (q.2.1 _ _ (by
      have h1:D≠G:=λz=>by rw [z,hG3] at hD;cases hD
      have h2:D≠A.aD:=λz=>by rw [z,wj] at hDD;cases hDD
      rw [aS h2,aS h1];exact hDD))) (λi x σ H5 hx q=>?_) (λσ H5 q=>?_)
    ·obtain ⟨q0,s5,la5,acc,C,hG5,sC,sC5,cG,cP,cb,dn⟩:=q;apply bP q0;clear q0;intro v;rw [NK] at hx;obtain ⟨c,hci,rfl⟩:∃ c,as[i]? = some c/\x = .ref c:=by
      cases e:as[i]? with
      | none=>rw [e] at hx;cases hx
      | some c=>rw [e] at hx;cases hx;exact ⟨c,rfl,rfl⟩
     obtain ⟨g,hgi,hcg⟩:=fU.at hci;obtain ⟨wg,hwi,hgw⟩:=Cr.at hgi;have hwm:wg∈byW wss p:=NF hwi;have Cm:=(og hwm).1;have HS:g≠[]:=λe=>by
      have:=hgw.len;rw [e] at this;exact Cm (Pe.mp this.symm)
     have hcC:C4 c=some (.lst g):=(hCa c (NF hci) g hcg HS).trans hcg;have hdc:Den K C4 (.ref c) (gD wg):=.lst (.of hcC) (uo hgw);have hC5:ae C4 H5:=sC.trans sC5;have s05:ae (wo A.aD H) H5:=λb o e=>by
      by_cases h1:b=G
      ·rw [h1,aS hGP,hGH] at e;cases e
      ·have h2:=(gH e).1;exact s5 b o (by rw [aS h2,aS h1];exact s04 b o e)
     have EY:SqT K H5 t [.int s',.int l]:=s05.fV (lA htb hqt);refine ⟨_,rfl,.inl ⟨rfl,_,.of hG5⟩,_,rfl,_,rfl,C4,.ref c,n,wg,t,s',l,rfl,hC5,hCP,hdc,ok.sub hwm,EY,la5,by have:=GR hp (zS uF) hwm;lia,λD2 ys C' H6 hD2 s6 la6 vQ sC' Lf cb' cP' dn'=>?_⟩;obtain ⟨tb5,Cc⟩:=dE la5;have hG6:H6 G=some (.lst acc):=pR s6 Cc hG5 λqs e=>by cases e
     have sC6:ae C H6:=(cY cP sC5).trans s6;have cG':C' G=none:=by
      cases e:C' G with
      | none=>rfl
      | some o=>
       rcases cb' G (by rw [e];simp) with z | z
       ·exact absurd hCG z
       ·rw [hG5] at z;cases z
     have hal:acc.length<=wss.length:=by rw [dn.length,NE];exact Ew i
     have hyl:ys.length<=wg.length:=by rw [dn'.length,NE];exact iq Cm
     have hgl:=(og hwm).2.1;refine ⟨G,D2,acc,ys,rfl,rfl,hG6,vQ,NM (show _<=1000 by lia) (by decide),?_⟩;refine ⟨⟨_,rfl⟩,ar (by rw [aS hGP,cX]) (bp s5 s6),vo la6 hG6,acc++ys,hU C C',ab,sC.trans FP,ar (uN cG cG') (Gw sC6 Lf),uN cG cG',uN cP cP',λb hb=>?_,?_⟩
     ·rcases Gx hb with z | z
      ·exact cb b z
      ·rcases cb' b z with w | w
       ·exact hCb b w
       ·refine .inr (old s05 w λe=>z (by rw [e];exact cP'))
     ·rw [NY,show (byW wss p)[i]? = some wg from hwi];simp only [Option.toList,OX,NS,OO,List.flatMap_nil,N6];exact (dn.same FP).append (dn'.same (Jn sC6 Lf))
    ·obtain ⟨q0,s5,la5,acc,C,hG5,sC,sC5,cG,cP,cb,dn⟩:=q;apply bP q0;clear q0;intro v;have hbl:as.length=(byW wss p).length:=by rw [fU.len,Cr.len];rfl
     rw [NE,hbl,NI (NH _)] at dn;have s05:ae (wo A.aD H) H5:=λb o e=>by
      by_cases h1:b=G
      ·rw [h1,aS hGP,hGH] at e;cases e
      ·have h2:=(gH e).1;exact s5 b o (by rw [aS h2,aS h1];exact s04 b o e)
     refine ⟨_,rfl,k G acc C H5 hGH s05 la5 hG5 (hBC.trans sC) sC5 cb cP ?_⟩;rw [epr];exact dn
theorem Bp (T:Tx K mg A):aA P w K mg base CX0 19 A.iS A.iZ ["group","sieve"] (tV K A.aD):=zA T 13
theorem jk:aE ["parts","words","part","word"] ["parts","words"] (ah (top 19)):=⟨rfl,rfl,rfl,by decide +kernel,rfl,by decide +kernel,by decide +kernel⟩
set_option maxHeartbeats 8000000 in
theorem nz (T:Tx K mg A):aA P w K mg base CX0 4 A.ie A.g6 ["parts","words"] (jA K):=by
 have vI:aA P w K mg base CX0 3 A.jR A.jM ["part","word"] (l9 K):=(rX T).mono (by decide);refine T.eZ.fn.ok jk (λvs H Q E h=>?_) (λcdv Ar outer s H vs Q E hr h=>?_)
 ·obtain ⟨a,b,xs,ps,ws,rfl,_⟩:=h;rfl
 ·obtain ⟨a,b,xs,ps,ws,rfl,hq,hds,hok,hqb,hws,k⟩:=h;have hxl:xs.length=ps.length:=by rw [hds.length,NE]
  refine ⟨_,aj (bA (aK (m6) (aI (r:=dq K) ba (by rfl) T.b7 PySem.boot_len (aa (pv 0) (af))) (aI (r:=dq K) ba (by rfl) T.b7 PySem.boot_len (aa (pv 1) (af))) (aJ _)) (ak (ax (jZ))) (aZ))
   (aj (cs PassesOwn.never rfl (yw (by rfl) T.Ct (aa (pv 0) (aa (pv 1) (af)))) (iM rfl (bw (au (i:=2) jk.nd rfl (Or.inl rfl)) (bw (au (i:=3) jk.nd rfl (Or.inl rfl)) (fj)))) (ak (bA (lg (cD (aq vI hr (by rfl) T.jm.mg T.jm.fn.kp T.jm.bd .nil aC (aa (pv 2) (aa (pv 3) (af)))))) (ak (ax (jZ))) (aZ))))
   (ak (ax (jZ)))),?_⟩
  refine ⟨_,rfl,a,xs,rfl,.inl hq,_,rfl,b,_,rfl,.inl hqb,rfl,_,rfl,?_⟩;rw [NE];by_cases hl:ps.length=ws.length
  ·have e:decide (V.int (xs.length:Int)=V.int (ws.length:Int))=true:=decide_eq_true (by rw [hxl,hl]);rw [e];refine bf ?_;refine ⟨_,rfl,_,rfl,a,b,rfl,⟨_,hq⟩,⟨_,hqb⟩,?_⟩;refine zT (K:=K) (xs:=xs) (ys:=ws.map V.str) (λi σ H2=>(∃ u v,σ=[some (.ref a),some (.ref b),u,v])/\ae H H2/\∀ (j:Nat) p x,j<i->ps[j]? = some p->ws[j]? = some x->p.takes x=true) ⟨⟨_,_,rfl⟩,ae.refl _,λj p x hj=>absurd hj (Nat.not_lt_zero _)⟩ (λi σ H2 q=>⟨q.2.1.seq hq,q.2.1.seq hqb⟩) (λi x y σ H2 t hx hy q ht=>?_) (λσ H2 q=>?_)
   ·obtain ⟨q0,s2,fU⟩:=q;apply su q0;clear q0;intro u v;obtain ⟨p,hp,fR⟩:=fk hds hx;obtain ⟨x',hw',rfl⟩:=b0 hy;have st:ae H2 (upd H2 t (.tup [x,.str x'])):=ae.new ht;refine ⟨t,_,rfl,.of ab,rfl,_,_,rfl,_,_,rfl,rfl,?_⟩;refine ⟨_,rfl,_,rfl,x,x',p,rfl,fR.same (s2.trans st),hok p (NF hp),hws x' (NF hw'),_,rfl,?_⟩;by_cases ht':p.takes x' = true
    ·rw [ht'];refine bf ⟨⟨_,_,rfl⟩,s2.trans st,λj p2 x2 hj hp2 hx2=>?_⟩;rcases Oi j i with q | q
     ·exact fU j p2 x2 q hp2 hx2
     ·have:j=i:=by lia
      subst this;rw [hp] at hp2;cases hp2;rw [hw'] at hx2;cases hx2;exact ht'
    ·rw [N5.mpr ht'];refine bL ?_;have e2:aM ps ws=false:=by
      unfold aM;rw [Dd hp hw' (N5.mpr ht'),Bool.and_false]
     have:=k _ (s2.trans st);rw [e2] at this;exact this
   ·obtain ⟨q0,s2,fU⟩:=q;apply su q0;clear q0;intro u v;have e2:aM ps ws=true:=by
     unfold aM;rw [decide_eq_true hl,Pd];refine Aa λi p x hi hp hx=>fU i p x ?_ hp hx;rw [NE,hxl];exact hi
    have:=k _ s2;rw [e2] at this;exact this
  ·have e:decide (V.int (xs.length:Int)=V.int (ws.length:Int))=false:=decide_eq_false (λq=>hl (by rw [hxl] at q;injection q with q;lia));rw [e];refine bL ?_;have:=k H (ae.refl _);rw [Au hl] at this;exact this
theorem FA:aE ["pattern","line"] ["pattern","line"] (ah (top 20)):=⟨rfl,rfl,rfl,by decide +kernel,rfl,by decide +kernel,by decide +kernel⟩
set_option maxHeartbeats 8000000 in
theorem vf (T:Tx K mg A):aA P w K mg base CX0 5 A.qS A.rn ["pattern","line"] (pP K):=by
 have k5:aA P w K mg base CX0 4 A.ie A.g6 ["parts","words"] (jA K):=(nz T).mono (by decide);have gy:aA P w K mg base CX0 4 A.gU A.gC ["line"] (g9 K):=(k7 T).mono (by decide);refine T.fits.fn.ok FA (λvs H Q E h=>?_) (λcdv Ar outer s H vs Q E hr h=>?_)
 ·obtain ⟨v,z,ps,rfl,_⟩:=h;rfl
 ·obtain ⟨v,z,ps,rfl,hd,hok,hz,hzs,k⟩:=h;obtain ⟨a,xs,ev,hq,hds⟩:=cw hd;refine ⟨_,ak (ax (aq k5 hr (by rfl) T.eZ.mg T.eZ.fn.kp T.eZ.bd .nil aC (aa (pv 0) (aa (aq gy hr (by rfl) T.words_of.mg T.words_of.fn.kp T.words_of.bd .nil aC (aa (pv 1) (af))) (af))))),?_⟩;subst ev;have hz':LOk z:=hz;refine ⟨_,rfl,_,rfl,z,rfl,hz,λl hl=>?_⟩;have sl:ae H (upd H l (.lst ((Txt.split z " ").map V.str))):=ae.new hl;exact ⟨a,l,xs,ps,Txt.split z " ",rfl,sl.seq hq,hds.same sl,hok,.of ab,λx hx=>NM (nr hzs x hx).2 hz',λH' s'=>k H' (sl.trans s')⟩
theorem eh:aE ["part","kind"] ["part"] (ah (top 22)):=⟨rfl,rfl,rfl,by decide +kernel,rfl,by decide +kernel,by decide +kernel⟩
set_option maxHeartbeats 8000000 in
theorem i8 (T:Tx K mg A):aA P w K mg base CX0 3 A.cV A.cW ["part"] (eE K):=by
 have cQ:aA P w K mg base CX0 2 A.eO A.fc ["part"] (eW K):=(gA T).mono (by decide);have nQ:aA P w K mg base CX0 2 A.lK A.lE ["word"] (mN K):=(qD T).mono (by decide);refine T.cv.fn.ok eh (λvs H Q E h=>?_) (λcdv Ar outer s H vs Q E hr h=>?_)
 ·obtain ⟨v,p,rfl,_⟩:=h;rfl
 ·obtain ⟨v,p,rfl,hd,hok,k⟩:=h;obtain ⟨a,x1,y1,ev,hq,_,_,hx⟩:=iK hd;refine ⟨_,aj (bA (cD (aq cQ hr (by rfl) T.bO.mg T.bO.fn.kp T.bO.bd .nil aC (aa (pv 0) (af)))) (ak (ax (aR (r:=eL K) bH (pv 0) (ap) (λ_ _=>rfl)))) (aZ))
   (aj (aQ (i:=1) eh.nd rfl (Or.inl rfl) (aq nQ hr (by rfl) T.jO.mg T.jO.fn.kp T.jO.bd .nil aC (aa (aR (r:=eL K) bH (pv 0) (ap) (λ_ _=>rfl)) (af))))
   (ak (ax (d9 (aK (r:=rIn K false) (lF) (pv 1) (nu (v:=.ref A.cH) (by rfl) T.m3 rfl) (by rfl)) (pv 1) (ay))))),?_⟩
  refine ⟨_,rfl,v,p,rfl,hd,_,rfl,?_⟩;cases p with
  | hole m=>
   obtain ⟨rfl,rfl⟩:=hx;subst ev;exact bL ⟨_,rfl,a,_,1,_,rfl,rfl,hq,rfl,k⟩
  | word y=>
   obtain ⟨rfl,rfl⟩:=hx;subst ev;refine bf ?_;have hy:TOk y1:=hok;refine ⟨_,rfl,a,_,1,_,rfl,rfl,hq,rfl,y1,rfl,hy.1,?_⟩;refine ⟨_,rfl,A.cH,_,rfl,.inr (T.m8 _),rfl,rfl,_,rfl,?_⟩;have hk:∀ i<3,(inV (.str (eJ i)) [.str "number",.str "name",.str "any"])=decide (i<2):=by decide +kernel
   rw [if_neg NV,hk _ (i0 _)];dsimp only;by_cases h2:bD y1<2
   ·rw [decide_eq_true h2];refine bL ⟨_,rfl,?_⟩;have e:eJ (bD y1)=bq (Pt.word y1).around:=by
     show eJ (bD y1)=bq (bD y1);have:bD y1=0\/bD y1=1:=by lia
     rcases this with e | e <;> rw [e] <;> rfl
    rw [e];exact k
   ·rw [decide_eq_false h2];refine bf ?_;have e:bq (Pt.word y1).around = "any" :=by
     show bq (bD y1) = "any";have h3:=i0 y1;have:bD y1=2:=by lia
     rw [this];rfl
    rw [e] at k;exact k
theorem k8:aE ["part"] ["part"] (ah (top 39)):=⟨rfl,rfl,rfl,by decide +kernel,rfl,by decide +kernel,by decide +kernel⟩
set_option maxHeartbeats 8000000 in
theorem kP (T:Tx K mg A):aA P w K mg base CX0 2 A.dN A.dJ ["part"] (fw K):=by
 have cQ:aA P w K mg base CX0 1 A.eO A.fc ["part"] (eW K):=(gA T).mono (by decide);refine T.c6.fn.ok k8 (λvs H Q E h=>?_) (λcdv Ar outer s H vs Q E hr h=>?_)
 ·obtain ⟨v,p,rfl,_⟩:=h;rfl
 ·obtain ⟨v,p,rfl,hd,hok,k⟩:=h;obtain ⟨a,x1,y1,ev,hq,_,_,hx⟩:=iK hd;refine ⟨_,aj (bA (lg (cD (aq cQ hr (by rfl) T.bO.mg T.bO.fn.kp T.bO.bd .nil aC (aa (pv 0) (af))))) (ak (ax (ap))) (aZ))
   (ak (ax (d9 (aK (ef) (aR (r:=eL K) bH (pv 0) (ap) (λ_ _=>rfl)) (ay) (aJ _)) (ap) (ap)))),?_⟩
  refine ⟨_,rfl,v,p,rfl,hd,_,rfl,?_⟩;cases p with
  | word y=>exact bL k
  | hole m=>
   obtain ⟨rfl,rfl⟩:=hx;subst ev;refine bf ?_;have hm:m<3:=hok;refine ⟨_,rfl,a,_,1,_,rfl,rfl,hq,rfl,rfl,_,rfl,?_⟩;rw [xR hm];by_cases h2:m=2
   ·rw [decide_eq_true h2];subst h2;exact bL k
   ·rw [decide_eq_false h2];refine bf ?_;have e:(Pt.hole m).loose=1:=by
     have:m=0\/m=1:=by lia
     rcases this with rfl | rfl <;> rfl
    rw [e] at k;exact k
theorem vc:aE ["pattern"] ["pattern"] (ah (top 40)):=⟨rfl,rfl,rfl,by decide +kernel,rfl,by decide +kernel,by decide +kernel⟩
set_option maxHeartbeats 8000000 in
theorem uZ (T:Tx K mg A):aA P w K mg base CX0 3 A.kX A.kR ["pattern"] (nN K):=by
 have lS:aA P w K mg base CX0 2 A.dN A.dJ ["part"] (fw K):=(kP T).mono (by decide);refine T.oN.fn.ok vc (λvs H Q E h=>?_) (λcdv Ar outer s H vs Q E hr h=>?_)
 ·obtain ⟨v,ps,rfl,_⟩:=h;rfl
 ·obtain ⟨v,ps,rfl,hd,hok,k⟩:=h;obtain ⟨a,xs,ev,hq,hds⟩:=cw hd;have hxl:xs.length=ps.length:=by rw [hds.length,NE]
  have hpl:=hok.1;refine ⟨_,ak (ax (aP (N':=["part"]) (n:=1) (fi:=[]) (g:=aU 0) rfl (aX (ah (top 40)) ["pattern"] (by decide +kernel)) (aH (pv 0)) (λs H fp=>au (i:=0) (show (["part"]:List Str).Nodup by decide +kernel) rfl (Or.inl rfl) (.inr rfl)) (λs H fp=>aO) (λs H fp=>aq lS hr (by rfl) T.c6.mg T.c6.fn.kp T.c6.bd .nil aC (aa (pv 0) (af))))),?_⟩;subst ev;refine ⟨_,rfl,a,rfl,⟨_,hq⟩,λD hD=>?_⟩;refine aF (K:=K) (xs:=xs) (λi acc σ H2=>(∃ u,σ=[u])/\ae H H2/\acc=(ps.take i).map λp=>V.int p.loose) ab ⟨⟨_,rfl⟩,ae.new hD,rfl⟩ (λi acc σ H2 _ _ q=>q.2.1.seq hq) (λi x acc σ H2 hx hDx q=>?_) (λacc σ H2 hDx q=>?_)
  ·obtain ⟨q0,s2,rfl⟩:=q;apply bP q0;clear q0;intro u;obtain ⟨p,hpi,hdp⟩:=fk hds hx;have hi:=aG hpi;refine bV ⟨_,rfl,x,p,rfl,hdp.same s2,hok.2 p (NF hpi),?_⟩;refine ⟨_,hDx,small (by simp only [NE,NR];lia),_,ab,⟨_,rfl⟩,ar hD s2,?_⟩;rw [bj hpi]
  ·obtain ⟨_,s2,rfl⟩:=q;rw [NI (by lia)] at hDx;exact k D H2 hD s2 hDx
theorem kY:aE ["parts","kinds"] ["parts"] (ah (top 23)):=⟨rfl,rfl,rfl,by decide +kernel,rfl,by decide +kernel,by decide +kernel⟩
set_option maxHeartbeats 8000000 in
theorem rQ (T:Tx K mg A):aA P w K mg base CX0 4 A.iO A.iG ["parts"] (li K):=by
 have j9:aA P w K mg base CX0 3 A.cV A.cW ["part"] (eE K):=(i8 T).mono (by decide);refine T.ia.fn.ok kY (λvs H Q E h=>?_) (λcdv Ar outer s H vs Q E hr h=>?_)
 ·obtain ⟨a,xs,ps,rfl,_⟩:=h;rfl
 ·obtain ⟨a,xs,ps,rfl,hq,hds,hne,hok,k⟩:=h;have hxl:xs.length=ps.length:=by rw [hds.length,NE]
  have hpl:=hok.1;obtain ⟨p0,pr,rfl⟩:∃ p0 pr,ps=p0::pr:=by
   cases ps with
   | nil=>exact (hne rfl).elim
   | cons p r=>exact ⟨p,r,rfl⟩
  obtain ⟨x0,xr,rfl⟩:∃ x0 xr,xs=x0::xr:=by
   cases xs with
   | nil=>simp at hxl
   | cons x r=>exact ⟨x,r,rfl⟩
  have hd0:Den K H x0 p0.dat:=by cases hds with | cons h1 _=>exact h1
  have CT:p0.ok:=hok.2 p0 (NT ..);refine ⟨_,aj (bA (cD (aI (r:=EX K) (p8 rfl) (by rfl) T.Cn zi (aa (aP (N':=["part","parts"]) (n:=1) (fi:=[0]) (g:=aU 0) rfl (aX (ah (top 23)) ["parts","kinds"] (by decide +kernel)) (aH (pv 0)) (λs H fp=>au (i:=0) (show (["part","parts"]:List Str).Nodup by decide +kernel) rfl (Or.inl rfl) (.inr rfl)) (λs H fp=>aO) (λs H fp=>cy (r:=rV K) (mK hr) (pv 0) (aR (r:=cE K) aT (pv 1) (ap) (λ_ _=>rfl)) (aJ _))) (af)))) (ak (ax (aR (r:=cE K) aT (pv 0) (ap) (λ_ _=>rfl)))) (aZ))
   (aj (aQ (i:=1) kY.nd rfl (Or.inr rfl) (aP (N':=["part"]) (n:=1) (fi:=[]) (g:=aU 0) rfl (aX (ah (top 23)) ["parts","kinds"] (by decide +kernel)) (aH (pv 0)) (λs H fp=>au (i:=0) (show (["part"]:List Str).Nodup by decide +kernel) rfl (Or.inl rfl) (.inr rfl)) (λs H fp=>aO) (λs H fp=>aq j9 hr (by rfl) T.cv.mg T.cv.fn.kp T.cv.bd .nil aC (aa (pv 0) (af)))))
   (aj (bA (cD (aI (r:=EX K) (p8 rfl) (by rfl) T.Cn zi (aa (aP (N':=["kind","kinds"]) (n:=1) (fi:=[1]) (g:=aU 0) rfl (aX (ah (top 23)) ["parts","kinds"] (by decide +kernel)) (aH (pv 1)) (λs H fp=>au (i:=0) (show (["kind","kinds"]:List Str).Nodup by decide +kernel) rfl (Or.inl rfl) (.inr rfl)) (λs H fp=>aO) (λs H fp=>cy (ef) (pv 0) (aR (r:=cE K) aT (pv 1) (ap) (λ_ _=>rfl)) (aJ _))) (af)))) (ak (ax (bJ (aa (ay) (aa (aR (r:=cE K) aT (pv 1) (ap) (λ_ _=>rfl)) (af)))))) (aZ))
   (ak (ax (bJ (aa (ay) (aa (ay) (af)))))))),?_⟩
  refine ⟨_,rfl,a,rfl,⟨_,hq⟩,λD hD=>?_⟩;refine aF (K:=K) (xs:=x0::xr) (λi acc σ H2=>(∃ u,σ=[u,some (.ref a)])/\ae H H2/\acc=(((p0::pr).take i).map λp=>decide (p=p0)).map V.bl) ab ⟨⟨_,rfl⟩,ae.new hD,rfl⟩ (λi acc σ H2 _ _ q=>q.2.1.seq hq) (λi x acc σ H2 hx hDx q=>?_) (λacc σ H2 hDx q=>?_)
  ·obtain ⟨q0,s2,rfl⟩:=q;apply bP q0;clear q0;intro u;obtain ⟨p,hpi,hdp⟩:=fk hds hx;have hi:=aG hpi;refine bV ⟨_,rfl,_,rfl,a,_,0,x0,rfl,rfl,s2.seq hq,bo (j:=0) rfl,_,_,hdp.same s2,hd0.same s2,NM (vb _) (by decide),?_⟩;rw [DZ (hok.2 p (NF hpi)) CT];refine ⟨_,hDx,small (by simp only [NE,NR];lia),_,ab,⟨_,rfl⟩,ar hD s2,?_⟩;rw [bj hpi,NS];rfl
  ·obtain ⟨_,s2,rfl⟩:=q;rw [NI (by lia)] at hDx;refine ⟨D,_,rfl,.of hDx,_,rfl,?_⟩;have e1:(((p0::pr).map λp=>decide (p=p0)).all id)=pr.all λq=>decide (q=p0):=by
    rw [List.all_map,Py];simp
   rw [e1];have ej:kO (p0::pr)=if pr.all (λq=>decide (q=p0))=true then p0 else if pr.all (λq=>decide (q.around=p0.around))=true then .hole p0.around else .hole 2:=rfl;by_cases ha:pr.all (λq=>decide (q=p0))=true
   ·rw [ha];refine bL ⟨_,rfl,a,_,0,x0,rfl,rfl,s2.seq hq,bo (j:=0) rfl,k x0 H2 s2 ?_⟩;rw [ej,if_pos ha];exact hd0.same s2
   ·rw [N5.mpr ha];refine bf ?_;refine ⟨_,rfl,a,rfl,⟨_,s2.seq hq⟩,λD2 hD2=>?_⟩;refine aF (K:=K) (xs:=x0::xr) (λi acc σ H3=>(∃ u,σ=[u])/\ae H2 H3/\acc=((p0::pr).take i).map λp=>V.str (bq p.around)) ab ⟨⟨_,rfl⟩,ae.new hD2,rfl⟩ (λi acc σ H3 _ _ q=>(s2.trans q.2.1).seq hq) (λi x acc σ H3 hx pE q=>?_) (λacc σ H3 pE q=>?_)
    ·obtain ⟨q0,s3,rfl⟩:=q;apply bP q0;clear q0;intro u;obtain ⟨p,hpi,hdp⟩:=fk hds hx;have hi:=aG hpi;refine bV ⟨_,rfl,x,p,rfl,hdp.same (s2.trans s3),hok.2 p (NF hpi),?_⟩;refine ⟨_,pE,small (by simp only [NE,NR];lia),_,ab,⟨_,rfl⟩,ar hD2 s3,?_⟩;rw [bj hpi]
    ·obtain ⟨_,s3,rfl⟩:=q;rw [NI (by lia)] at pE;have s23:=s2.trans s3;refine ⟨_,rfl,D2,rfl,⟨_,.of pE⟩,λD4 hD4=>?_⟩;refine aF (K:=K) (xs:=(p0::pr).map λp=>V.str (bq p.around)) (λi acc σ H4=>(∃ u,σ=[u,some (.ref D2)])/\ae H3 H4/\acc=(((p0::pr).take i).map λp=>decide (p.around=p0.around)).map V.bl) ab ⟨⟨_,rfl⟩,ae.new hD4,rfl⟩ (λi acc σ H4 _ _ q=>.of (q.2.1 _ _ pE)) (λi x acc σ H4 hx EA q=>?_) (λacc σ H4 EA q=>?_)
     ·obtain ⟨q0,s4,rfl⟩:=q;apply bP q0;clear q0;intro u;rw [NK] at hx;cases hpi:(p0::pr)[i]? with
      | none=>rw [hpi] at hx;cases hx
      | some p=>
       rw [hpi] at hx;cases hx;have hi:=aG hpi;refine bV ⟨_,rfl,_,rfl,D2,_,0,V.str (bq p0.around),rfl,rfl,.of (s4 _ _ pE),bo (j:=0) rfl,rfl,?_⟩;have e2:decide (V.str (bq p.around)=V.str (bq p0.around))=decide (p.around=p0.around):=by
        rw [N7,decide_eq_true_eq,decide_eq_true_eq];exact ⟨λh=>oM (nY (hok.2 p (NF hpi))) (nY CT) (by injection h),λh=>by rw [h]⟩
       rw [e2];refine ⟨_,EA,small (by simp only [NE,NR];lia),_,ab,⟨_,rfl⟩,ar hD4 s4,?_⟩;rw [bj hpi,NS];rfl
     ·obtain ⟨_,s4,rfl⟩:=q;have hl5:((p0::pr).map λp=>V.str (bq p.around)).length=(p0::pr).length:=by rw [NE]
      rw [hl5,NI (NH _)] at EA;refine ⟨D4,_,rfl,.of EA,_,rfl,?_⟩;have e3:(((p0::pr).map λp=>decide (p.around=p0.around)).all id)=pr.all λq=>decide (q.around=p0.around):=by
       rw [List.all_map,Py];simp
      rw [e3];have s24:=s23.trans s4;by_cases hb:pr.all (λq=>decide (q.around=p0.around))=true
      ·rw [hb];refine bL ⟨_,rfl,D2,_,0,V.str (bq p0.around),rfl,rfl,.of (s4 _ _ pE),bo (j:=0) rfl,(by show 2<=sizeLine;decide),λt ht=>?_⟩;refine k _ _ (s24.trans (ae.new ht)) ?_;rw [ej,if_neg ha,if_pos hb];exact .tup (.of ab) (.cons (.str (by decide +kernel)) (.cons (.str qo) .nil))
      ·rw [N5.mpr hb];refine bf ⟨(by show 2<=sizeLine;decide),λt ht=>?_⟩;refine k _ _ (s24.trans (ae.new ht)) ?_;rw [ej,if_neg ha,if_neg hb];exact .tup (.of ab) (.cons (.str (by decide +kernel)) (.cons (.str (by decide +kernel)) .nil))
theorem tG:aE ["patterns","width"] ["patterns"] (ah (top 24)):=⟨rfl,rfl,rfl,by decide +kernel,rfl,by decide +kernel,by decide +kernel⟩
set_option maxHeartbeats 8000000 in
theorem ux (T:Tx K mg A):aA P w K mg base CX0 5 A.nt A.nG ["patterns"] (oP K):=by
 have sV:aA P w K mg base CX0 4 A.iO A.iG ["parts"] (li K):=(rQ T).mono (by decide);refine T.joined.fn.ok tG (λvs H Q E h=>?_) (λcdv Ar outer s H vs Q E hr h=>?_)
 ·obtain ⟨a,xs,pss,n,rfl,_⟩:=h;rfl
 ·obtain ⟨a,xs,pss,n,rfl,hq,hds,hne,hpl,hok,k⟩:=h;have hxl:xs.length=pss.length:=by rw [hds.length,NE]
  have CC:0<pss.length:=ON.mpr hne;obtain ⟨x0,hx0⟩:∃ x0,xs[0]? = some x0:=⟨_,NG (by lia)⟩;obtain ⟨ps0,B7,hd0⟩:=cm hds hx0;obtain ⟨a0,ys0,rfl,hq0,F1⟩:=cw hd0;have hn0:ys0.length=n:=by rw [F1.length,NE];exact (hok ps0 (NF B7)).2
  have hn1:n<=10000:=by rw [<-(hok ps0 (NF B7)).2];exact (hok ps0 (NF B7)).1.1
  refine ⟨_,aj (bA (aK (ef) (aI (r:=dq K) ba (by rfl) T.b7 PySem.boot_len (aa (pv 0) (af))) (ap) (aJ _)) (ak (mT)) (aZ))
   (aj (aQ (i:=1) tG.nd rfl (Or.inr rfl) (aI (r:=dq K) ba (by rfl) T.b7 PySem.boot_len (aa (aR (r:=cE K) aT (pv 0) (ap) (λ_ _=>rfl)) (af))))
   (aj (bA (cD (aI (r:=HU K) (wy rfl) (by rfl) T.GI D8 (aa (aP (N':=["pattern","width"]) (n:=1) (fi:=[1]) (g:=aU 0) rfl (aX (ah (top 24)) ["patterns","width"] (by decide +kernel)) (aH (pv 0)) (λs H fp=>au (i:=0) (show (["pattern","width"]:List Str).Nodup by decide +kernel) rfl (Or.inl rfl) (.inr rfl)) (λs H fp=>aO) (λs H fp=>cy (m6) (aI (r:=dq K) ba (by rfl) T.b7 PySem.boot_len (aa (pv 0) (af))) (pv 1) (aJ _))) (af)))) (ak (mT)) (aZ))
   (ak (ax (aP (N':=["at","patterns"]) (n:=1) (fi:=[0]) (g:=aU 0) rfl (aX (ah (top 24)) ["patterns","width"] (by decide +kernel)) (dB (by rfl) T.eC (aa (pv 1) (af))) (λs H fp=>au (i:=0) (show (["at","patterns"]:List Str).Nodup by decide +kernel) rfl (Or.inr rfl) (.inl rfl)) (λs H fp=>aO) (λs H fp=>aq sV hr (by rfl) T.ia.mg T.ia.fn.kp T.ia.bd .nil aC (aa (aP (wi:=zr K (pN 1)) (N':=["pattern","at"]) (n:=1) (fi:=[0]) (g:=aU 0) rfl (uG (ah (top 24)) (by decide +kernel)) (aH (pv 1)) (λs H fp=>au (i:=0) (show (["pattern","at"]:List Str).Nodup by decide +kernel) rfl (Or.inl rfl) (.inr rfl)) (λs H fp=>aO) (λs H fp=>aR (r:=cE K) aT (pv 0) (pv 1) (λ_ _=>rfl))) (af)))))))),?_⟩
  refine ⟨_,rfl,a,xs,rfl,.inl hq,rfl,_,rfl,?_⟩;have e0:decide (V.int (xs.length:Int)=V.int 0)=false:=decide_eq_false (λq=>by injection q with q;lia);rw [e0];refine bf ?_;refine ⟨_,rfl,a,xs,0,_,rfl,rfl,hq,bo (j:=0) hx0,a0,ys0,rfl,.inl hq0,?_⟩;rw [hn0];refine ⟨_,rfl,a,rfl,⟨_,hq⟩,λD hD=>?_⟩;refine aF (K:=K) (xs:=xs) (λi acc σ H2=>(∃ u,σ=[u,some (.int n)])/\ae H H2/\acc=((pss.take i).map λ_=>false).map V.bl) ab ⟨⟨_,rfl⟩,ae.new hD,rfl⟩ (λi acc σ H2 _ _ q=>q.2.1.seq hq) (λi x acc σ H2 hx hDx q=>?_) (λacc σ H2 hDx q=>?_)
  ·obtain ⟨q0,s2,rfl⟩:=q;apply bP q0;clear q0;intro u;obtain ⟨ps,hpi,hdp⟩:=cm hds hx;obtain ⟨ai,yi,rfl,hqi,hdi⟩:=cw hdp;have hi:=aG hpi;have hyl:yi.length=n:=by rw [hdi.length,NE];exact (hok ps (NF hpi)).2
   refine bV ⟨_,rfl,ai,yi,rfl,.inl (s2.seq hqi),_,rfl,rfl,?_⟩;rw [hyl,decide_eq_true rfl];refine ⟨_,hDx,small (by simp only [NE,NR];lia),_,ab,⟨_,rfl⟩,ar hD s2,?_⟩;rw [bj hpi,NS];rfl
  ·obtain ⟨_,s2,rfl⟩:=q;refine ⟨D,_,rfl,.of hDx,_,rfl,?_⟩;have e1:(((pss.take xs.length).map λ_=>false).any id)=false:=by
    rw [N5];intro q;obtain ⟨b,hb,hb2⟩:=OA.mp q;obtain ⟨_,_,rfl⟩:=NJ.mp hb;cases hb2
   rw [e1];refine bf ?_;refine ⟨_,rfl,n,rfl,by lia,by lia,λD3 hD3=>?_⟩;have hs3:ae H2 (upd H2 D3 (.lst [])):=ae.new hD3;refine gw (λi acc σ H4=>(∃ u,σ=[u,some (.ref a)])/\ae H2 H4/\aB K (lim (upd H2 D3 (.lst [])) H4) acc ((bi pss i).map Pt.dat)) ab ⟨⟨_,rfl⟩,hs3,.nil⟩ (λi acc σ H4 hi hD4 q=>?_) (λacc σ H4 hD4 q=>?_)
   ·obtain ⟨q0,s4,dn⟩:=q;apply bP q0;clear q0;intro u;have hin:i<n:=by simpa using hi
    have hal:acc.length=i:=by rw [dn.length,NE];simp [bi]
    have s24:=s2.trans s4;refine bV ?_;refine ⟨_,rfl,a,rfl,⟨_,s24.seq hq⟩,λD5 hD5=>?_⟩;refine aF (K:=K) (xs:=xs) (λm kA σ H5=>(∃ u,σ=[u,some (.int (0+(i:Int)))])/\ae H4 H5/\aB K H kA (((pss.take m).map λps=>ps.getD i (.hole 2)).map Pt.dat)) ab ⟨⟨_,rfl⟩,ae.new hD5,.nil⟩ (λm kA σ H5 _ _ q=>(s24.trans q.2.1).seq hq) (λm x kA σ H5 hx r6 q=>?_) (λkA σ H5 r6 q=>?_)
    ·obtain ⟨q0,s5,dn5⟩:=q;apply bP q0;clear q0;intro u;obtain ⟨ps,hpi,hdp⟩:=cm hds hx;obtain ⟨ai,yi,rfl,hqi,hdi⟩:=cw hdp;have hm:=aG hpi;have hpn:=(hok ps (NF hpi)).2;have hpe:ps[i]? = some (ps.getD i (.hole 2)):=by
      rw [NG (by lia)];simp [List.getD,NG (show i<ps.length by lia)]
     obtain ⟨y,hy,hyd⟩:=hdi.getD (i:=i) (d:=(ps.getD i (.hole 2)).dat) (by rw [NK,hpe];rfl);have Mz:kA.length=m:=by rw [dn5.length,NE,NE,NR];lia
     refine bV ⟨_,rfl,_,rfl,ai,yi,_,y,rfl,rfl,(s24.trans s5).seq hqi,?_,kA,r6,small (by lia),_,ab,⟨_,rfl⟩,ar hD5 s5,?_⟩
     ·rw [Int.zero_add];exact bo hy
     ·rw [bj hpi,NS];exact dn5.append (.cons hyd .nil)
    ·obtain ⟨_,s5,dn5⟩:=q;rw [NI (by lia)] at dn5;have s25:=s24.trans s5;refine ⟨D5,kA,pss.map (λps=>ps.getD i (.hole 2)),rfl,.of r6,dn5.same s25,by intro z;exact hne (Ol.mp z),⟨by rw [NE];exact hpl,λp hp=>?_⟩,λr H6 s6 dr=>?_⟩
     ·obtain ⟨ps,hps,rfl⟩:=NJ.mp hp;have hpn:=hok ps hps;have hlt:i<ps.length:=by lia
      have:ps.getD i (.hole 2)∈ps:=by simp [List.getD,NG hlt]
      exact hpn.1.2 _ this
     ·have s56:=s5.trans s6;have hD6:H6 D3=some (.lst acc):=s56 _ _ hD4;refine ⟨acc,hD6,small (by lia),_,ab,⟨_,rfl⟩,ar hD3 (s4.trans s56),?_⟩;rw [dA (ys:=[]) ab,jh,NS];exact (dn.same (bF s56)).append (.cons (Fb (vw (s4.trans s56) hD6) (ae.refl _) dr) .nil)
   ·obtain ⟨_,s4,dn⟩:=q;refine k D3 acc H4 (s2.free hD3) (s2.trans s4) hD4 ?_;have e3:(n:Int).toNat=n:=OG n;rw [e3] at dn;exact dn.same (bW (s2.trans hs3).ll)
theorem xS:aE ["word"] ["word"] (ah (top 12)):=⟨rfl,rfl,rfl,by decide +kernel,rfl,by decide +kernel,by decide +kernel⟩
set_option maxHeartbeats 8000000 in
theorem pB (T:Tx K mg A):aA P w K mg base CX0 1 A.jK A.ja ["word"] (kI K):=by
 refine T.gL.fn.ok xS (λvs H Q E h=>?_) (λcdv Ar outer s H vs Q E hr h=>?_)
 ·obtain ⟨x,rfl,_⟩:=h;rfl
 ·obtain ⟨x,rfl,hw,k⟩:=h;refine ⟨_,ak (ax (bJ (aa (aI gc (by rfl) T.b7 PySem.boot_len (aa (pv 0) (af))) (aa (pv 0) (af))))),?_⟩;exact ⟨_,rfl,x,rfl,hw.s,_,rfl,(by show 2<=sizeLine;decide),λp hp=>k p hp⟩
theorem kz:aE ["part","length","text"] ["part"] (ah (top 25)):=⟨rfl,rfl,rfl,by decide +kernel,rfl,by decide +kernel,by decide +kernel⟩
set_option maxHeartbeats 8000000 in
theorem xX (T:Tx K mg A):aA P w K mg base CX0 2 A.mh A.mi ["part"] (pj K):=by
 have cQ:aA P w K mg base CX0 1 A.eO A.fc ["part"] (eW K):=(gA T).mono (by decide);have mj:aA P w K mg base CX0 1 A.jK A.ja ["word"] (kI K):=(pB T).mono (by decide);refine T.nv.fn.ok kz (λvs H Q E h=>?_) (λcdv Ar outer s H vs Q E hr h=>?_)
 ·obtain ⟨v,pt,rfl,_⟩:=h;rfl
 ·obtain ⟨v,pt,rfl,hd,hok,k⟩:=h;obtain ⟨a,x,y,ev,hq,_,_,hx⟩:=iK hd;refine ⟨_,aj (bA (cD (aq cQ hr (by rfl) T.bO.mg T.bO.fn.kp T.bO.bd .nil aC (aa (pv 0) (af)))) (ak (ax (bJ (aa (ap) (aa (b6 (r:=CF K) PySem.F.plainAttrs_tuple PySem.F.slot_tuple_index PySem.F.type_tuple_index Cj (nu (v:=.ref A.cH) (by rfl) T.m3 rfl) (aa (aR (r:=eL K) bH (pv 0) (ap) (λ_ _=>rfl)) (af))) (aa (ay) (af))))))) (aZ))
   (aj (rC (aq mj hr (by rfl) T.gL.mg T.gL.fn.kp T.gL.bd .nil aC (aa (aR (r:=eL K) bH (pv 0) (ap) (λ_ _=>rfl)) (af))) (iM rfl (bw (au (i:=1) kz.nd rfl (Or.inl rfl)) (bw (au (i:=2) kz.nd rfl (Or.inl rfl)) (fj)))))
   (ak (ax (bJ (aa (ap) (aa (pv 1) (aa (pv 2) (af)))))))),?_⟩
  refine ⟨_,rfl,v,pt,rfl,hd,_,rfl,?_⟩;cases pt with
  | hole m=>
   obtain ⟨rfl,rfl⟩:=hx;refine bL ?_;subst ev;have hm:m<3:=hok;refine ⟨.inr (.inl ⟨rfl,T.uQ⟩),_,rfl,a,_,1,_,rfl,rfl,hq,rfl,A.cH,_,_,m,rfl,rfl,T.m8 _,rfl,Fm,hm,Ij hm,Ka hm,(by show 3<=sizeLine;decide),λp hp=>?_⟩;exact k _ _ (ae.new hp) (.tup (.of ((bQ hp).trans ab)) (.cons (.int 1) (.cons (.int _) (.cons (.str (by decide +kernel)) .nil))))
  | word z=>
   obtain ⟨rfl,rfl⟩:=hx;refine bf ?_;subst ev;have hw:TOk y:=hok;refine ⟨_,rfl,a,_,1,_,rfl,rfl,hq,rfl,y,rfl,hw.1,λp hp=>?_⟩;refine ⟨p,_,rfl,.of ab,rfl,_,_,rfl,_,_,rfl,rfl,?_⟩;refine ⟨_,rfl,_,rfl,(by show 3<=sizeLine;decide),λp2 hp2=>?_⟩;exact k _ _ ((ae.new hp).trans (ae.new hp2)) (.tup (.of ((bQ ((ae.new hp).free hp2)).trans ab)) (.cons (.int 0) (.cons (.int _) (.cons (.str hw.2) .nil))))
theorem qh:aE ["pattern"] ["pattern"] (ah (top 26)):=⟨rfl,rfl,rfl,by decide +kernel,rfl,by decide +kernel,by decide +kernel⟩
set_option maxHeartbeats 8000000 in
theorem qR (T:Tx K mg A):aA P w K mg base CX0 3 A.iz A.iE ["pattern"] (lm K):=by
 have y6:aA P w K mg base CX0 2 A.mh A.mi ["part"] (pj K):=(xX T).mono (by decide);refine T.kh.fn.ok qh (λvs H Q E h=>?_) (λcdv Ar outer s H vs Q E hr h=>?_)
 ·obtain ⟨v,ps,rfl,_⟩:=h;rfl
 ·obtain ⟨v,ps,rfl,hd,hok,k⟩:=h;obtain ⟨a,xs,ev,hq,hds⟩:=cw hd;refine ⟨_,ak (ax (bJ (aa (aI (r:=dq K) ba (by rfl) T.b7 PySem.boot_len (aa (pv 0) (af))) (aa (aP (N':=["part"]) (n:=1) (fi:=[]) (g:=aU 0) rfl (aX (ah (top 26)) ["pattern"] (by decide +kernel)) (aH (pv 0)) (λs H fp=>au (i:=0) (show (["part"]:List Str).Nodup by decide +kernel) rfl (Or.inl rfl) (.inr rfl)) (λs H fp=>aO) (λs H fp=>aq y6 hr (by rfl) T.nv.mg T.nv.fn.kp T.nv.bd .nil aC (aa (pv 0) (af)))) (af))))),?_⟩;subst ev;have hlen:xs.length=ps.length:=by rw [hds.length,NE]
  have hpl:=hok.1;refine ⟨_,rfl,a,xs,rfl,.inl hq,?_⟩;refine ⟨_,rfl,a,rfl,⟨_,hq⟩,λD hD=>?_⟩;refine aF (K:=K) (xs:=xs) (λi acc σ H2=>(∃ u,σ=[u])/\ae H H2/\aB K (lim (upd H D (.lst [])) H2) acc ((ps.take i).map Pt.key)) ab ⟨⟨_,rfl⟩,ae.new hD,.nil⟩ (λi acc σ H2 _ _ p=>p.2.1.seq hq) (λi x acc σ H2 hx hDx p=>?_) (λacc σ H2 hDx p=>?_)
  ·obtain ⟨⟨u,rfl⟩,p⟩:=p;obtain ⟨pt,e,fR⟩:=fk hds hx;have hi:i<ps.length:=aG e;have hal:acc.length=i:=by rw [p.2.length,NE,NR];lia
   refine bV ⟨_,rfl,x,pt,rfl,fR.same p.1,hok.2 pt (NF e),λr H4 s4 dr=>⟨acc,s4 _ _ hDx,small (by lia),_,ab,⟨_,rfl⟩,ar hD (p.1.trans s4),?_⟩⟩;rw [dA (ys:=[]) ab,bj e];exact (p.2.same (bF s4)).append (.cons (dr.same (bW (vw p.1 hDx))) .nil)
  ·obtain ⟨_,p⟩:=p;refine ⟨(by show 2<=sizeLine;decide),λt ht=>?_⟩;have hs:ae H (upd H2 t (.tup [.int xs.length,.ref D])):=p.1.trans (ae.new ht);rw [NI (by lia)] at p;refine k _ _ hs ?_;have e:fm ps = .tuple [.int xs.length,.list (ps.map Pt.key)]:=by rw [hlen];rfl
   rw [e];have hDt:(upd H2 t (.tup [.int xs.length,.ref D])) D=some (.lst acc):=by rw [aw (ao hDx ht)];exact hDx
   refine .tup (.of ((bQ (p.1.free ht)).trans ab)) (.cons (.int _) (.cons (.lst (.of ((bQ hD).trans hDt)) ?_) .nil));exact (p.2.same (bF (ae.new ht))).same (bW (ae.new hD).ll)
theorem yf:aE ["patterns"] ["patterns"] (ah (top 27)):=⟨rfl,rfl,rfl,by decide +kernel,rfl,by decide +kernel,by decide +kernel⟩
set_option maxHeartbeats 8000000 in
theorem mo (T:Tx K mg A):aA P w K mg base CX0 6 A.i3 A.i5 ["patterns"] (jg K):=by
 have qI:aA P w K mg base CX0 3 A.iz A.iE ["pattern"] (lm K):=(qR T).mono (by decide);refine T.ordered.fn.ok yf (λvs H Q E h=>?_) (λcdv Ar outer s H vs Q E hr h=>?_)
 ·obtain ⟨a,xs,pss,rfl,_⟩:=h;rfl
 ·obtain ⟨a,xs,pss,rfl,hq,hlen,hds,hok,k⟩:=h;refine ⟨_,ak (ax (aP (N':=["pattern"]) (n:=1) (fi:=[]) (g:=aU 0) rfl (aX (ah (top 27)) ["patterns"] (by decide +kernel)) (aH (w9 (a:=.int) (r:=xv) .int qI hr T.kh.bd (by rfl) T.fB (by rfl) T.kh.mg (aa (pv 0) (af)))) (λs H fp=>au (i:=0) (show (["pattern"]:List Str).Nodup by decide +kernel) rfl (Or.inl rfl) (.inr rfl)) (λs H fp=>aO) (λs H fp=>e9 (r:=lD K) gx (by rfl) T.oE lG (aa (pv 0) (af))))),?_⟩;have hxl:xs.length=pss.length:=by rw [hds.length,NE]
  refine ⟨_,rfl,_,rfl,a,xs,rfl,hq,hlen,?_⟩;refine oh (K:=K) (H0:=H) xs (pss.map fm) [] [] H (by rw [NE];exact hxl) (ae.refl H) .nil (λi x d H2 Q2 hx hd s2 kk=>?_) (λks H1 s1 d1=>?_)
  ·obtain ⟨ps,e,fR⟩:=cm hds hx;rw [NK,e] at hd;cases hd;exact ⟨x,ps,rfl,fR.same s2,hok ps (NF e),λr H' sr dr=>kk r H' sr (dr.same bt)⟩
  ·have d1':aB K H1 ks (pss.map fm):=by simpa using d1
   refine ⟨pss.map fm,d1',λd hd=>?_,λd hd=>?_,λD0 p hD0 hp ho=>?_⟩
   ·obtain ⟨ps,_,rfl⟩:=NJ.mp hd;exact rl ps
   ·obtain ⟨ps,_,rfl⟩:=NJ.mp hd;exact DH ps
   ·refine ⟨D0,rfl,⟨_,.of ab⟩,λD hD=>?_⟩;have hpl:p.length=xs.length:=by rw [hp.length_eq,OB]
    have hp2:p.Perm (List.range pss.length):=by rw [<-hxl];exact hp
    have hsl:(sel pss p).length=xs.length:=by unfold sel;rw [NE,hpl]
    have sb:ae H (upd H1 D0 (.lst (picked xs p))):=s1.trans (ae.new hD0);generalize hHb:upd H1 D0 (HO.lst (picked xs p))=Hb at sb hD;have FK:Hb D0=some (.lst (picked xs p)):=by rw [<-hHb];exact ab
    have hsD:ae Hb (upd Hb D (.lst [])):=ae.new hD;refine aF (K:=K) (xs:=picked xs p) (λi acc σ H2=>(∃ u,σ=[u])/\ae Hb H2/\C5 (upd Hb D (.lst [])) H2 acc/\aB K (lim (upd Hb D (.lst [])) H2) acc (((sel pss p).take i).map br)) ab ⟨⟨_,rfl⟩,hsD,(λx hx=>by cases hx),.nil⟩ (λi acc σ H2 _ _ q=>.of (q.2.1 _ _ FK)) (λi x acc σ H2 hx hDx q=>?_) (λacc σ H2 hDx q=>?_)
    ·obtain ⟨q0,s2,fr,dn⟩:=q;apply bP q0;clear q0;intro u;obtain ⟨ps,hps,yA,fR⟩:=E7 hds hp2 hx;obtain ⟨a',ys',rfl,hq',hd'⟩:=cw fR;have hal:acc.length=i:=by rw [dn.length,NE,NR];have:=aG hps;lia
     have hil:i<xs.length:=by rw [<-hsl];exact aG hps
     refine bV ⟨_,rfl,a',ys',rfl,.inl ((sb.trans s2).seq hq'),λl hl=>?_⟩;have hlD:l≠D:=(ao hDx hl).symm;have hlb:(upd Hb D (.lst [])) l=none:=by rw [aw hlD];exact s2.free hl
     have sl:ae H2 (upd H2 l (.lst ys')):=ae.new hl;refine ⟨acc,sl _ _ hDx,small (by lia),_,ab,⟨_,rfl⟩,ar hD (s2.trans sl),?_,?_⟩
     ·intro x hx;rcases Oa.mp hx with hx | hx
      ·obtain ⟨t,ys,rfl,h1,h2,h3⟩:=fr x hx;have htD:t≠D:=λe=>by subst e;rw [ab] at h1;cases h1
       exact ⟨t,ys,rfl,h1,by rw [aw htD];exact sl _ _ h2,h3⟩
      ·simp only [NQ] at hx;subst hx;exact ⟨l,ys',rfl,hlb,by rw [aw hlD];exact ab,by rw [hd'.length,NE];exact (hok ps yA).1⟩
     ·rw [dA (ys:=[]) ab,bj hps];exact (dn.same (bF sl)).append (.cons (.lst (.of ((bQ hlb).trans ab)) (pY (sb.trans hsD) ((sb.trans s2).trans sl) hd')) .nil)
    ·obtain ⟨_,s2,fr,dn⟩:=q;have hpk:(picked xs p).length=xs.length:=by rw [jn,hpl]
     rw [NI (by lia)] at dn;refine k D acc H2 (sel pss p) (sb.free hD) (sb.trans s2) hDx (xf hp2) (yp hp2 ho) (λx hx=>?_) (λx hx=>?_) (dn.same (bW (sb.trans hsD).ll))
     ·obtain ⟨t,ys,rfl,h1,h2,h3⟩:=fr x hx;exact ⟨t,ys,rfl,(sb.trans hsD).free h1,h2,h3⟩
     ·obtain ⟨t,ys,rfl,h1,h2,h3⟩:=fr x hx;intro e;cases e;rw [ab] at h1;cases h1
end
end K39
namespace LG
open PySem L2
def kc (ws:List Str):List Pt:=ws.map Pt.word
def byL (rss:List (List Str)):List (List (List Str)):=grp (rss.map λws=>(Sum.inl (ws.length:Int):Key)) rss
theorem zh {rss g:List (List Str)} (h:g∈byL rss):g≠[]/\g.length<=rss.length/\(∀ ws∈g,ws∈rss)/\∃ n:Nat,∀ ws∈g,ws.length=n:=by
 unfold byL grp at h;obtain ⟨q,hq,rfl⟩:=NJ.mp h;rw [zip_map] at hq;have ok:=ue _ q hq;have key:∀ ws∈q.2,ws∈rss/\(Sum.inl (ws.length:Int):Key)=q.1:=λws hws=>by
  obtain ⟨v,hv,e⟩:=NJ.mp (ok.of ws hws);injection e with e1 e2;rw [<-e2];exact ⟨hv,e1⟩
 refine ⟨ok.ne,?_,λws hws=>(key ws hws).1,?_⟩
 ·have:=ok.le
  rwa [NE] at this
 ·obtain ⟨w0,hw0⟩:=Pr _ ok.ne;refine ⟨w0.length,λws hws=>?_⟩;have:=(key ws hws).2.trans (key w0 hw0).2.symm;have:=Sum.inl.inj this;lia
theorem DF (rss:List (List Str)):gW (byL rss)=rss.length:=by
 have h:=q9 ((rss.map λws=>(Sum.inl (ws.length:Int):Key)).zip rss);have e:gW (byL rss)=tot (bU ((rss.map λws=>(Sum.inl (ws.length:Int):Key)).zip rss)):=by
  unfold gW byL grp tot;rw [Ow];rfl
 rw [e,h,List.length_zip,NE,Nat.min_self]
def kE (rss:List (List Str)):Prop:=rss.length<64/\∀ ws∈rss,0<ws.length/\ws.length<=12/\∀ w∈ws,PtW (.word w)
def gn (g:List (List Str)):Nat:=(g.headD []).length
theorem GH {rss g:List (List Str)} (h:kE rss) (hg:g∈byL rss):GOk (gn g) g:=by
 obtain ⟨h1,h2,h3,n,h4⟩:=zh hg;obtain ⟨w0,r,rfl⟩:∃ w r,g=w::r:=by
  cases g with
  | nil=>exact (h1 rfl).elim
  | cons w r=>exact ⟨w,r,rfl⟩
 have e:gn (w0::r)=n:=h4 w0 (by simp);have:=h.2 w0 (h3 w0 (by simp));have e0:=h4 w0 (by simp);refine ⟨h1,Ot h2 h.1,by lia,by lia,λws hws=>⟨by rw [e];exact h4 ws hws,(h.2 ws (h3 ws hws)).2.2⟩⟩
def rm (s l:Int) (g:List (List Str)):List (List Pt):=(prt (gn g) s l 13 g).map λg'=>bi (g'.map kc) (gn g)
def gth (s l:Int) (rss:List (List Str)):List (List Pt):=(byL rss).flatMap (rm s l)
theorem qC (s l:Int) (rss:List (List Str)) (i:Nat):(((byL rss).take i).flatMap (rm s l)).length<=rss.length:=by
 have key:∀ gs:List (List (List Str)),(∀ g∈gs,g≠[])->(gs.flatMap (rm s l)).length<=gW gs:=λgs=>by
  induction gs with
  | nil=>intro _;exact NH _
  | cons g gs ih=>
   intro hg;rw [OO,NX];have h1:(rm s l g).length<=g.length:=by unfold rm;rw [NE];exact iq (hg g (by simp))
   have h2:=ih λg' hg'=>hg g' (by simp [hg']);simp only [gW,N1,O0] at h2 ⊢;lia
 have mono:∀ (gs:List (List (List Str))) (i:Nat),gW (gs.take i)<=gW gs:=λgs=>by
  induction gs with
  | nil=>intro i;simp [gW]
  | cons g gs ih=>
   intro i;cases i with
   | zero=>simp [gW]
   | succ i=>
    have:=ih i;simp only [gW,List.take_succ_cons,N1,O0] at this ⊢;lia
 have h1:=key ((byL rss).take i) λg hg=>(zh (OQ hg)).1;have h2:=mono (byL rss) i;rw [DF] at h2;lia
theorem EL {ps:List Pt} (hne:ps≠[]) (h:∀ p∈ps,PtW p):PtW (kO ps):=by
 cases ps with
 | nil=>exact (hne rfl).elim
 | cons p r=>
  have hp:=h p (by simp);show PtW (if r.all (λq=>decide (q=p))=true then p else if r.all (λq=>decide (q.around=p.around))=true then .hole p.around else .hole 2)
  split
  ·exact hp
  ·split
   ·exact nY hp.ok
   ·exact (by decide:2<3)
theorem x9 {n:Nat}{g:List (List Str)} (h:GOk n g):PW (bi (g.map kc) n)/\bi (g.map kc) n≠[]/\(bi (g.map kc) n).length<=12:=by
 have hl:(bi (g.map kc) n).length=n:=by unfold bi;rw [NE,OB]
 refine ⟨λp hp=>?_,λe=>?_,by rw [hl];exact h.Bx⟩
 ·unfold bi at hp;obtain ⟨i,hi,rfl⟩:=NJ.mp hp;have hin:=Oh.mp hi;refine EL (λe=>h.ne (Ol.mp (Ol.mp e))) λq hq=>?_;obtain ⟨ps,hps,rfl⟩:=NJ.mp hq;obtain ⟨ws,hws,rfl⟩:=NJ.mp hps;have mv:=h.row ws hws;have hiw:i<ws.length:=by lia
  unfold kc;rw [NU,NK,NG hiw];exact mv.2 _ (Ov hiw)
 ·have:=congrArg List.length e;rw [hl] at this;have h0:=h.pos;simp at this;lia
theorem FF {s l:Int}{g:List (List Str)} (h:GOk (gn g) g):AU (rm s l g):=λps hps=>by
 unfold rm at hps;obtain ⟨g',hg',rfl⟩:=NJ.mp hps;exact x9 (ve h g' hg')
theorem Dw {s l:Int}{rss:List (List Str)} (h:kE rss):AU (gth s l rss):=λps hps=>by
 obtain ⟨g,hg,hp⟩:=List.mem_flatMap.mp hps;exact FF (GH h hg) ps hp
end LG
namespace K39
open PySem L2 LG
section
variable {P:Program}{w:World}{K:PySem.W.Frag}{mg:Str->Option Value}{base:Heap}{A:Ad}
def fY (K:PySem.W.Frag):Sp:=λvs H Q _=>∃ (u:V) (n:Nat) (wss:List (List Str)),vs=[u]/\Den K H u (gD wss)/\GOk n wss /\
 ∀ D acc H',H D=none->ae H H'->H' D=some (.lst acc)->aB K (lim H H') acc ((bi (wss.map kc) n).map Pt.dat)->Q (.ref D) H'
theorem KH {H:Hp}{M:Addr}{xs:List V} (h:H M=some (.lst xs)):ae (tO H) (wo M H):=λb o e=>by
 obtain ⟨n,e⟩:=pZ e;have:b≠M:=λz=>by rw [z,h] at e;cases e;exact n _ rfl
 rw [aS this];exact e
theorem lT:aE ["group"] ["group"] (ah (top 36)):=⟨rfl,rfl,rfl,by decide +kernel,rfl,by decide +kernel,by decide +kernel⟩
set_option maxHeartbeats 8000000 in
theorem lV (T:Tx K mg A):aA P w K mg base CX0 6 A.dZ A.dW ["group"] (fY K):=by
 have rA:aA P w K mg base CX0 5 A.nt A.nG ["patterns"] (oP K):=(ux T).mono (by decide);refine T.dF.fn.ok lT (λvs H Q E h=>?_) (λcdv Ar outer s H vs Q E hr h=>?_)
 ·obtain ⟨u,n,wss,rfl,_⟩:=h;rfl
 ·obtain ⟨u,n,wss,rfl,hd,ok,k⟩:=h;obtain ⟨a,xs,rfl,hq,hds⟩:=xm hd;have hxl:xs.length=wss.length:=by rw [hds.length,NE]
  have hle:=ok.le;have h12:=ok.Bx;refine ⟨_,ak (ax (aq rA hr (by rfl) T.joined.mg T.joined.fn.kp T.joined.bd .nil aC (aa (aP (N':=["words"]) (n:=1) (fi:=[]) (g:=aU 0) rfl (aX (ah (top 36)) ["group"] (by decide +kernel)) (aH (pv 0)) (λs H fp=>au (i:=0) (show (["words"]:List Str).Nodup by decide +kernel) rfl (Or.inl rfl) (.inr rfl)) (λs H fp=>aO) (λs H fp=>aP (wi:=zr K (pN 0)) (N':=["word"]) (n:=1) (fi:=[]) (g:=aU 0) rfl (uG (ah (top 36)) (by decide +kernel)) (aH (pv 0)) (λs H fp=>au (i:=0) (show (["word"]:List Str).Nodup by decide +kernel) rfl (Or.inl rfl) (.inr rfl)) (λs H fp=>aO) (λs H fp=>bJ (aa (ay) (aa (pv 0) (af)))))) (af)))),?_⟩;refine ⟨_,rfl,a,rfl,⟨_,hq⟩,λM hM=>?_⟩;refine aF (K:=K) (xs:=xs) (λi acc σ H2=>(∃ u,σ=[u])/\ae H H2/\aB K (wo M H2) acc (((wss.take i).map kc).map br)) ab ⟨⟨_,rfl⟩,ae.new hM,.nil⟩ (λi acc σ H2 _ _ q=>q.2.1.seq hq) (λi x acc σ H2 hx hMx q=>?_) (λacc σ H2 hM2 q=>?_)
  ·obtain ⟨q0,s2,dn2⟩:=q;apply bP q0;clear q0;intro u;obtain ⟨ws,r,hw,rfl,hqr⟩:=gg hds hx;have hi:=aG hw;have mv:=ok.row ws (NF hw);have hal:acc.length<=64:=by rw [dn2.length,NE,NE,NR];lia
   refine bV ⟨_,rfl,r,rfl,⟨_,s2.seq hqr⟩,λI hI=>?_⟩;have hIM:I≠M:=(ao hMx hI).symm;refine aF (K:=K) (xs:=ws.map V.str) (λj aV σ2 H3=>(∃ u,σ2=[u])/\ae H2 H3/\aB K (tO H3) aV (((ws.take j).map Pt.word).map Pt.dat)) ab ⟨⟨_,rfl⟩,ae.new hI,.nil⟩ (λj aV σ2 H3 _ _ q=>(s2.trans q.2.1).seq hqr) (λj y aV σ2 H3 hy hIx q=>?_) (λaV σ2 H3 hI3 q=>?_)
   ·obtain ⟨q0,s3,dn3⟩:=q;apply bP q0;clear q0;intro u;obtain ⟨w',hw',rfl⟩:=b0 hy;have hj:=aG hw';have hwk:=mv.2 w' (NF hw');have Jz:aV.length+1<=20:=by rw [dn3.length,NE,NE,NR];lia
    refine bV ⟨_,rfl,(by show 2<=sizeLine;decide),λt ht=>?_⟩;have st:ae H3 (upd H3 t (.tup [.str "word",.str w'])):=ae.new ht;have pt:Fi (upd H3 t (.tup [.str "word",.str w'])) (.ref t) (.word w'):=⟨t,rfl,ab⟩;have hI4:=st _ _ hIx;refine ⟨_,hI4,small (by lia),_,ab,⟨_,rfl⟩,ar hI (s3.trans st),?_⟩;have et:(ws.take (j+1)).map Pt.word=(ws.take j).map Pt.word++[.word w']:=by rw [NY,hw'];simp
    rw [et,NS];have tt:=Ej (ys:=aV++[.ref t]) hI4;exact (dn3.same ((GC st).trans tt)).append (.cons ((pt.den hwk).same tt) .nil)
   ·obtain ⟨_,s3,dn3⟩:=q;rw [NE,NI (NH _)] at dn3;have hM3:=s3 _ _ hMx;refine ⟨_,hM3,small (by lia),_,ab,⟨_,rfl⟩,ar hM (s2.trans s3),?_⟩;rw [iD,NY,hw];simp only [Option.toList,NS,N1,OU];refine (dn2.same (ck s3)).append (.cons (.lst (xs:=aV) (.of (by rw [aS hIM];exact hI3)) (dn3.same (KH hM3))) .nil)
  ·obtain ⟨_,s2,dn2⟩:=q;rw [hxl,NI (NH _)] at dn2;refine ⟨M,acc,wss.map kc,n,rfl,.of hM2,dn2.same bc,λe=>ok.ne (Ol.mp e),by rw [NE];lia,λps hps=>?_,λD Mi H3 hD s3 hDD dn3=>?_⟩
   ·obtain ⟨ws,hws,rfl⟩:=NJ.mp hps;have mv:=ok.row ws hws;refine ⟨⟨by unfold kc;rw [NE];lia,λp hp=>?_⟩,by unfold kc;rw [NE];exact mv.1⟩;obtain ⟨w',hw',rfl⟩:=NJ.mp hp;exact (mv.2 w' hw').ok
   ·exact k D Mi H3 (s2.free hD) (s2.trans s3) hDD (dn3.same (bW s2.ll))
def jW (K:PySem.W.Frag) (P:Addr):Sp:=λvs H Q _=>∃ (a t:Addr) (zs:List Str) (s l:Int),vs=[.ref a,.ref t]/\Rd H a (.lst (zs.map V.str))/\zs.length<64/\(∀ z∈zs,∃ ws,jV 12 z ws)/\SqT K H t [.int s,.int l]/\bC P H /\
 ∀ (D:Addr) (ms:List Str) (acc:List V) (H':Hp) (ps:List (List Pt)),ms.Perm (bI [] zs)->UpS ms->H D=none->ae (wo P H) H'->bC P H'->H' D=some (.lst acc)->ps.Perm (gth s l (ms.map λz=>Txt.split z " "))->qM ps->AU ps->ps.length<64->C5 H H' acc->(∀ x∈acc,x ≠ .ref D)->aB K (lim H H') acc (ps.map br)->Q (.ref D) H'
theorem yc {ms:List Str}{z:Str}{i:Nat} (h:ms[i]? = some z):(ms.take (i+1)).map (λz=>Txt.split z " ")=(ms.take i).map (λz=>Txt.split z " ")++[Txt.split z " "]:=by
 rw [NY,h];simp
theorem ir:aE ["lines","sieve","rows","patterns","group"] ["lines","sieve"] (ah (top 37)):=⟨rfl,rfl,rfl,by decide +kernel,rfl,by decide +kernel,by decide +kernel⟩
set_option maxHeartbeats 8000000 in
theorem oV (T:Tx K mg A):aA P w K mg base CX0 20 A.js A.jr ["lines","sieve"] (jW K A.aD):=by
 have nZ:aA P w K mg base CX0 19 A.lC A.lL ["rows","keys"] (mL K):=(qr T).mono (by decide);have iT:aA P w K mg base CX0 19 A.i3 A.i5 ["patterns"] (jg K):=(mo T).mono (by decide);have gy:aA P w K mg base CX0 19 A.gU A.gC ["line"] (g9 K):=(k7 T).mono (by decide);have mH:aA P w K mg base CX0 19 A.dZ A.dW ["group"] (fY K):=(lV T).mono (by decide);have rJ:aA P w K mg base CX0 19 A.iS A.iZ ["group","sieve"] (tV K A.aD):=(Bp T).mono (by decide);refine T.gathered.fn.ok ir (λvs H Q E h=>?_) (λcdv Ar outer s H vs Q E hr h=>?_)
 ·obtain ⟨a,t,zs,s,l,rfl,_⟩:=h;rfl
 ·obtain ⟨a,t,zs,s',l,rfl,hqa,h64,hzs,hqt,hla,k⟩:=h;refine ⟨_,aj (jf (i:=2) (N':=["line"]) (n:=1) (fi:=[]) (g:=aU 0) ir.nd rfl (Or.inl rfl) rfl (aX (ah (top 37)) ["lines","sieve","rows","patterns","group"] (by decide +kernel)) (aH (ng (gm rfl hr) rfl (by rfl) T.fB gu (by rfl) T.xc qb (aa (pv 0) (af)))) (λs H fp=>au (i:=0) (show (["line"]:List Str).Nodup by decide +kernel) rfl (Or.inl rfl) (.inr rfl)) (λs H fp=>aO) (λs H fp=>aq gy hr (by rfl) T.words_of.mg T.words_of.fn.kp T.words_of.bd .nil aC (aa (pv 0) (af))))
   (aj (aQ (i:=3) ir.nd rfl (Or.inl rfl) (be (af)))
   (aj (cs PassesOwn.never rfl (aH (aq nZ hr (by rfl) T.i9.mg T.i9.fn.kp T.i9.bd .nil aC (aa (pv 2) (aa (aP (N':=["words"]) (n:=1) (fi:=[]) (g:=aU 0) rfl (aX (ah (top 37)) ["lines","sieve","rows","patterns","group"] (by decide +kernel)) (aH (pv 2)) (λs H fp=>au (i:=0) (show (["words"]:List Str).Nodup by decide +kernel) rfl (Or.inl rfl) (.inr rfl)) (λs H fp=>aO) (λs H fp=>aI (r:=dq K) ba (by rfl) T.b7 PySem.boot_len (aa (pv 0) (af)))) (af))))) (au (i:=4) ir.nd rfl (Or.inl rfl)) (ak (cx (b6 PySem.F.plainAttrs_list PySem.F.slot_list_extend PySem.F.type_list_extend tR (pv 3) (aa (aP (N':=["smaller"]) (n:=1) (fi:=[]) (g:=aU 0) rfl (aX (ah (top 37)) ["lines","sieve","rows","patterns","group"] (by decide +kernel)) (aH (aq rJ hr (by rfl) T.parted.mg T.parted.fn.kp T.parted.bd .nil aC (aa (pv 4) (aa (pv 1) (af))))) (λs H fp=>au (i:=0) (show (["smaller"]:List Str).Nodup by decide +kernel) rfl (Or.inl rfl) (.inr rfl)) (λs H fp=>aO) (λs H fp=>aq mH hr (by rfl) T.dF.mg T.dF.fn.kp T.dF.bd .nil aC (aa (pv 0) (af)))) (af))))))
   (ak (ax (aq iT hr (by rfl) T.ordered.mg T.ordered.fn.kp T.ordered.bd .nil aC (aa (pv 3) (af))))))),?_⟩
  have hdl:=kW zs;refine ⟨_,rfl,a,zs,rfl,hqa,by lia,by lia,λS ms hS a9 hup=>⟨S,rfl,⟨_,.of ab⟩,λR hR=>?_⟩⟩;have hml:=a9.length_eq;have hmz:∀ z∈ms,∃ ws,jV 12 z ws:=λz hz=>hzs z ((gf.mp (a9.mem_iff.mp hz)).resolve_left (by simp));obtain ⟨tb,htb⟩:=dE hla;have sS:ae H (upd H S (.lst (ms.map V.str))):=ae.new hS;have hSS:(upd H S (.lst (ms.map V.str))) S=some (.lst (ms.map V.str)):=ab;generalize upd H S (.lst (ms.map V.str))=H1 at sS hSS hR ⊢;refine aF (K:=K) (xs:=ms.map V.str) (λi acc σ H2=>(∃ u,σ=[u])/\ae H1 H2/\aB K (wo R H2) acc (((ms.take i).map λz=>Txt.split z " ").map wsD)) ab ⟨⟨_,rfl⟩,ae.new hR,.nil⟩ (λi acc σ H2 _ _ q=>.of (q.2.1 _ _ hSS)) (λi x acc σ H2 hx hRx q=>?_) (λacc σ H2 hR2 q=>?_)
  ·obtain ⟨q0,s2,dn2⟩:=q;apply bP q0;clear q0;intro u;obtain ⟨z,hz,rfl⟩:=b0 hx;have hi:=aG hz;obtain ⟨ws,hln⟩:=hmz z (NF hz);have hlo:=hln.ok (by decide);have hal:acc.length<=64:=by rw [dn2.length,NE,NE,NR];lia
   refine bV ⟨_,rfl,z,rfl,NM hlo.2 (by decide),λL hL=>?_⟩;have sL:ae H2 (upd H2 L (.lst ((Txt.split z " ").map V.str))):=ae.new hL;have hLR:L≠R:=(ao hRx hL).symm;refine ⟨_,sL _ _ hRx,small (by lia),_,ab,⟨_,rfl⟩,ar hR (s2.trans sL),?_⟩;rw [iD,yc hz,NS];refine (dn2.same (ck sL)).append (.cons (.lst (xs:=(Txt.split z " ").map V.str) (.of (by rw [aS hLR];exact ab)) ?_) .nil);rw [hln.split];exact d6 λw hw=>(hln.wd w hw).ok
  ·obtain ⟨_,s2,dn2⟩:=q;rw [NE,NI (NH _)] at dn2;have dnR:aB K H2 acc ((ms.map λz=>Txt.split z " ").map wsD):=dn2.same bc;have rok:kE (ms.map λz=>Txt.split z " "):=⟨by rw [NE];lia,λws hws=>by
    obtain ⟨z,hz,rfl⟩:=NJ.mp hws;obtain ⟨ws,hln⟩:=hmz z hz;rw [hln.split];exact ⟨hln.pos,hln.le,λw hw=>⟨(hln.wd w hw).word,NM (hln.wd w hw).len (by decide),(hln.wd w hw).ok⟩⟩⟩
   have hrl:(ms.map λz=>Txt.split z " ").length=ms.length:=NE _;have kk:=k;generalize hrs:(ms.map λz=>Txt.split z " ")=rss at dnR rok hrl;have DD:acc.length=rss.length:=by rw [dnR.length,NE]
   have s02:=sS.trans s2;refine ⟨NW _,λG hG=>?_⟩;have sG:ae H2 (upd H2 G (.lst [])):=ae.new hG;have hGG:(upd H2 G (.lst [])) G=some (.lst []):=ab;have s03:=s02.trans sG;have hR3:=sG _ _ hR2;generalize upd H2 G (.lst [])=H3 at sG hGG s03 hR3 ⊢;refine ⟨_,rfl,_,rfl,R,rfl,⟨_,.of hR3⟩,λKL hKL=>?_⟩;refine aF (K:=K) (xs:=acc) (λi aV σ H4=>(∃ u,σ=[u])/\ae H3 H4/\aV=((rss.take i).map λws=>(Sum.inl (ws.length:Int):Key)).map kV) ab ⟨⟨_,rfl⟩,ae.new hKL,rfl⟩ (λi aV σ H4 _ _ q=>.of (q.2.1 _ _ hR3)) (λi x aV σ H4 hx hKx q=>?_) (λaV σ H4 hK4 q=>?_)
   ·obtain ⟨q0,s4,rfl⟩:=q;apply bP q0;clear q0;intro u;have hi:=aG hx;obtain ⟨ws,r,hw,rfl,hqr⟩:=gg dnR hx;refine bV ⟨_,rfl,r,_,rfl,.inl ((sG.trans s4).seq hqr),_,hKx,small (by rw [NE,NE,NR];lia),_,ab,⟨_,rfl⟩,ar hKL s4,?_⟩;rw [NY,hw];simp [kV]
   ·obtain ⟨_,s4,rfl⟩:=q;rw [DD,NI (NH _)] at hK4;refine ⟨R,KL,acc,_,rfl,.of (s4 _ _ hR3),.of hK4,by rw [NE];lia,by lia,λD as H5 hD s5 hDD has fU=>⟨D,rfl,⟨_,.of hDD⟩,?_⟩⟩;have s25:ae H2 H5:=sG.trans (s4.trans s5);have s05:ae H H5:=s02.trans s25;have hG5:=(s4.trans s5) _ _ hGG;have la5:bC A.aD H5:=a8 hla s05;have Cc:=s05 _ _ htb;have hGP:G≠A.aD:=λe=>by rw [e,Cc] at hG5;cases hG5
    have hGH:H G=none:=s02.free hG;have hDG:D≠G:=λe=>by rw [e,s4 _ _ hGG] at hD;cases hD
    have hDP:D≠A.aD:=λe=>by rw [e,Cc] at hDD;cases hDD
    have dn5:aB K (wo G H5) acc (rss.map wsD):=dnR.same (cY hG s25);have Cr:=zB (tT dn5) (rss.map λws=>(Sum.inl (ws.length:Int):Key));have htG:(wo G H5) A.aD=some (.tbl tb):=by rw [aS hGP.symm];exact Cc
    refine cM (K:=K) (xs:=as.map V.ref) (λi σ H6=>(∃ v,σ=[some (.ref a),some (.ref t),some (.ref R),some (.ref G),v])/\ae (wo A.aD (wo G H5)) H6/\bC A.aD H6/\∃ qZ:List V,H6 G=some (.lst qZ)/\aB K (wo G H6) qZ ((((byL rss).take i).flatMap (rm s' l)).map br))
     ⟨⟨_,rfl⟩,bc.trans bc,la5,[],hG5,.nil⟩ (λi σ H6 _ q=>.of (q.2.1 _ _ (by rw [aS hDP,aS hDG];exact hDD))) (λi x σ H6 hx q=>?_) (λσ H6 q=>?_)
    ·obtain ⟨q0,s6,la6,qZ,hG6,dnp⟩:=q;apply bP q0;clear q0;intro v;rw [NK] at hx;obtain ⟨c,hci,rfl⟩:∃ c,as[i]? = some c/\x = .ref c:=by
      cases e:as[i]? with
      | none=>rw [e] at hx;cases hx
      | some c=>rw [e] at hx;cases hx;exact ⟨c,rfl,rfl⟩
     obtain ⟨g,hgi,hcg⟩:=fU.at hci;obtain ⟨wg,hwi,hgw⟩:=Cr.at hgi;have hwm:wg∈byL rss:=NF hwi;have Cm:=(zh hwm).1;have HS:g≠[]:=λe=>by
      have:=hgw.len;rw [e] at this;exact Cm (Pe.mp this.symm)
     have hcG:c≠G:=λz=>by rw [z,hG5] at hcg;cases hcg;exact HS rfl
     have hdc:Den K (wo A.aD (wo G H5)) (.ref c) (gD wg):=z6 htG (.lst (.of (by rw [aS hcG];exact hcg)) (uo hgw));have gok:=GH rok hwm;have Dn:SqT K H6 t [.int s',.int l]:=s6.fV (lA htG ((cY hGH s05).fV hqt));refine ⟨_,rfl,.inl ⟨rfl,_,.of hG6⟩,_,rfl,_,rfl,wo A.aD (wo G H5),.ref c,gn wg,wg,t,s',l,rfl,s6,cX,hdc,gok,Dn,la6,by have:=GV (gn wg) wg;have:=gok.Bx;lia,λD2 ys C H7 hD2 s7 la7 vQ sBC sC7 cb cP dn7=>⟨D2,rfl,⟨_,.of vQ⟩,λM hM=>?_⟩⟩;obtain ⟨tb6,FJ⟩:=dE la6;obtain ⟨tb7,Ng⟩:=dE la7;have hG7:H7 G=some (.lst qZ):=pR s7 FJ hG6 λqs e=>by cases e
     have hMG:M≠G:=(ao hG7 hM).symm;have hyl:ys.length=(prt (gn wg) s' l 13 wg).length:=by rw [dn7.length,NE]
     have hpl:=iq (n:=gn wg) (s:=s') (l:=l) (N:=13) Cm;have hgl:=gok.le;have hHM:(upd H7 M (.lst [])) M=some (.lst []):=ab;refine aF (K:=K) (xs:=ys) (λj aV σ H8=>(∃ u,σ=[u])/\ae H7 H8/\aB K (lim (upd H7 M (.lst [])) H8) aV ((((prt (gn wg) s' l 13 wg).take j).map λg'=>bi (g'.map kc) (gn wg)).map br)) ab ⟨⟨_,rfl⟩,ae.new hM,.nil⟩ (λj aV σ H8 _ _ q=>.of (q.2.1 _ _ vQ)) (λj y aV σ H8 hy hMx q=>?_) (λaV σ H8 hM8 q=>?_)
     ·obtain ⟨q0,s8,dn8⟩:=q;apply bP q0;clear q0;intro u;have hj:=aG hy;obtain ⟨d,hdj,hdy⟩:=dn7.get hy;rw [NK] at hdj;obtain ⟨g',hg',rfl⟩:∃ g',(prt (gn wg) s' l 13 wg)[j]? = some g'/\d=gD g':=by
       cases e:(prt (gn wg) s' l 13 wg)[j]? with
       | none=>rw [e] at hdj;cases hdj
       | some g'=>rw [e] at hdj;cases hdj;exact ⟨g',rfl,rfl⟩
      have hal:aV.length<=64:=by rw [dn8.length,NE,NE,NR];lia
      refine bV ⟨_,rfl,y,gn wg,g',rfl,hdy.same (sC7.trans s8),ve gok g' (NF hg'),λDp MA H9 hDp s9 MU dnq=>?_⟩;have hM9:=s9 _ _ hMx;have LX:Dp≠M:=(ao hMx hDp).symm;refine ⟨_,hM9,small (by lia),_,ab,⟨_,rfl⟩,ar hM (s8.trans s9),?_⟩;rw [dA hHM,NY,hg'];simp only [Option.toList,NS,N1,OU];have hll:LL (upd H7 M (.lst [])) H8:=λb zs e=>by
       by_cases hb:b=M
       ·exact ⟨aV,by rw [hb];exact hMx⟩
       ·rw [aw hb] at e;exact ⟨zs,s8 _ _ e⟩
      have hnD:(upd H7 M (.lst [])) Dp=none:=by rw [aw LX];exact s8.free hDp
      exact (dn8.same (bF s9)).append (.cons (.lst (xs:=MA) (.of ((bQ hnD).trans MU)) (dnq.same (bW hll))) .nil)
     ·obtain ⟨_,s8,dn8⟩:=q;rw [hyl,NI (NH _)] at dn8;have hG8:=s8 _ _ hG7;have JJ:qZ.length<=rss.length:=by rw [dnp.length,NE];exact qC s' l rss i
      have hal:aV.length<=64:=by rw [dn8.length,NE,NE];lia
      have Mm:=rok.1;refine ⟨G,M,qZ,aV,rfl,rfl,hG8,hM8,NM (show _<=1000 by lia) (by decide),?_⟩;have hBG:(wo A.aD (wo G H5)) G=none:=by rw [aS hGP,cX]
      refine ⟨⟨_,rfl⟩,ar hBG ((bp s6 s7).trans s8),vo (a8 la7 s8) hG8,qZ++aV,ab,?_⟩;rw [iD,NY,show (byL rss)[i]? = some wg from hwi];simp only [Option.toList,OX,NS,OO,List.flatMap_nil,N6];have ht6:(wo G H6) A.aD=some (.tbl tb6):=by rw [aS hGP.symm];exact FJ
      have sa:ae (wo A.aD (wo G H6)) (wo G H8):=λb o e=>by
       obtain ⟨h1,e⟩:=gH e;obtain ⟨h2,e⟩:=gH e;rw [aS h2];exact s8 _ _ (s7 _ _ (by rw [aS h1];exact e))
      have hMl:(upd H7 M (.lst [])) G=some (.lst qZ):=by rw [aw hMG.symm];exact hG7
      exact ((qK ht6 dnp).same sa).append (dn8.same (yM hMl))
    ·obtain ⟨q0,s6,la6,qZ,hG6,dnp⟩:=q;apply bP q0;clear q0;intro v;have hbl:as.length=(byL rss).length:=by rw [fU.len,Cr.len];rfl
     rw [NE,hbl,NI (NH _)] at dnp;have hgl:(gth s' l rss).length<=rss.length:=by
      have:=qC s' l rss (byL rss).length
      rwa [NI (NH _)] at this
     have hpl:qZ.length=(gth s' l rss).length:=by rw [dnp.length,NE];rfl
     have Mm:=rok.1;have gok:AU (gth s' l rss):=Dw rok;have s06:ae (wo A.aD H) H6:=λb o e=>by
      obtain ⟨h1,e⟩:=gH e;have h2:b≠G:=λz=>by rw [z,hGH] at e;cases e
      exact s6 b o (by rw [aS h1,aS h2];exact s05 b o e)
     refine ⟨_,rfl,G,qZ,gth s' l rss,rfl,.of hG6,by lia,dnp.same bc,λps hps=>⟨NM (gok ps hps).2.2 (by decide),λp hp=>((gok ps hps).1 p hp).ok⟩,λD9 AA H9 ps hD9 s9 KI zo fQ fr hne dn9=>?_⟩;obtain ⟨tb6,FJ⟩:=dE la6;have ht9:=s9 _ _ FJ;have old:∀ {b:Addr}{zs:List V},H6 b=none->H9 b=some (.lst zs)->H b=none:=λ{b zs} e1 e2=>by
      have h1:b≠A.aD:=λz=>by rw [z,ht9] at e2;cases e2
      have:=s06.free e1
      rwa [aS h1] at this
     refine k D9 ms AA H9 ps a9 hup (old hD9 KI) (s06.trans s9) (a8 la6 s9) KI (by rw [hrs];exact zo) fQ (λq hq=>gok q (zo.mem_iff.mp hq)) (by rw [zo.length_eq];lia) (λx hx=>?_) hne (dn9.same (bW λb zs e=>?_))
     ·obtain ⟨t',ys,e1,e2,e3,e4⟩:=fr x hx;exact ⟨t',ys,e1,old e2 e3,e3,e4⟩
     ·have h1:b≠A.aD:=λz=>by rw [z,htb] at e;cases e
      exact ⟨zs,s06 _ _ (by rw [aS h1];exact e)⟩
theorem vE:aE ["cell","turn"] ["cell","turn"] (ah (top 45)):=⟨rfl,rfl,rfl,by decide +kernel,rfl,by decide +kernel,by decide +kernel⟩
set_option maxHeartbeats 8000000 in
theorem vd (T:Tx K mg A):aA P w K mg base CX0 1 A.kD A.kq ["cell","turn"] (nD K):=by
 refine T.lP.fn.ok vE (λvs H Q E h=>?_) (λcdv Ar outer s H vs Q E hr h=>?_)
 ·obtain ⟨c,rfl,_⟩:=h;rfl
 ·obtain ⟨c,rfl,k⟩:=h;refine ⟨_,aj (bA (aK (Ee) (pv 0) (bX vB (ap) (ap)) (aJ _)) (ak (ax (be (aa (bX C0 (pv 0) (bX vB (ap) (ap))) (aa (bX ow (pv 0) (ap)) (aa (pv 1) (af))))))) (aZ))
   (ak (ax (be (aa (ap) (aa (bX ow (pv 0) (ap)) (aa (pv 1) (af))))))),?_⟩
  refine ⟨_,rfl,_,_,rfl,rfl,⟨by decide,by decide,by decide⟩,_,_,rfl,rfl,_,rfl,?_⟩;refine xn (λhc=>?_) (λhc=>?_)
  ·refine ⟨_,rfl,_,_,rfl,rfl,⟨by decide,by decide,by decide⟩,_,_,rfl,rfl,_,rfl,_,_,rfl,rfl,(by show (0:Int)<2147483579;decide),_,rfl,(by show 3<=sizeLine;decide),λd hd=>?_⟩;have hc':(10:Int) ^ (18:Int).toNat<=c:=of_decide_eq_true hc;exact k d _ hd (ae.new hd) ⟨_,_,_,ab,by lia,Int.emod_nonneg _ (by decide),Pk _ (by decide),by decide,by decide⟩
  ·refine ⟨_,rfl,_,_,rfl,rfl,(by show (0:Int)<2147483579;decide),_,rfl,(by show 3<=sizeLine;decide),λd hd=>?_⟩;exact k d _ hd (ae.new hd) ⟨_,_,_,ab,by decide,Int.emod_nonneg _ (by decide),Pk _ (by decide),by decide,by decide⟩
theorem gp:aE ["deck","many","found","number"] ["deck","many"] (ah (top 46)):=⟨rfl,rfl,rfl,by decide +kernel,rfl,by decide +kernel,by decide +kernel⟩
set_option maxHeartbeats 8000000 in
theorem eu (T:Tx K mg A):aA P w K mg base CX0 1 A.df A.dh ["deck","many"] (dw K):=by
 refine T.av.fn.ok gp (λvs H Q E h=>?_) (λcdv Ar outer s H vs Q E hr h=>?_)
 ·obtain ⟨d,m,n,rfl,_⟩:=h;rfl
 ·obtain ⟨d,m,n,rfl,hdk,hn,hm0,hm1,k⟩:=h;refine ⟨_,aj (bA (aK (G0) (aR (r:=cE K) aT (pv 0) (ap) (λ_ _=>rfl)) (ap) (aJ _)) (aj (aQ (i:=2) gp.nd rfl (Or.inl rfl) (bX ow (aR (r:=cE K) aT (pv 0) (ap) (λ_ _=>rfl)) (pv 1)))
   (aj (rC (bX zG (aR (r:=cE K) aT (pv 0) (ap) (λ_ _=>rfl)) (pv 1)) (yF (pv 0) (ap) set_list))
   (ak (ax (pv 2))))) (aZ))
   (aj (rC (bX gQ (aR (r:=cE K) aT (pv 0) (ap) (λ_ _=>rfl)) (ap)) (yF (pv 0) (ap) set_list))
   (aj (aQ (i:=3) gp.nd rfl (Or.inl rfl) (bX ow (bX vB (bX gQ (aR (r:=cE K) aT (pv 0) (ap) (λ_ _=>rfl)) (bX DS (ap) (aR (r:=cE K) aT (pv 0) (ap) (λ_ _=>rfl)))) (ap)) (ap)))
   (aj (aQ (i:=2) gp.nd rfl (Or.inl rfl) (bX zG (bX ow (bX vB (bX gQ (pv 3) (bX DS (ap) (aR (r:=cE K) aT (pv 0) (ap) (λ_ _=>rfl)))) (ap)) (ap)) (ap)))
   (aj (bA (aK (G0) (pv 1) (ap) (aJ _)) (ak mT) (aZ))
   (ak (ax (bX ow (pv 2) (pv 1)))))))),?_⟩
  obtain ⟨a,b,c,hd,ha,hb,hb2,hc,hc2⟩:=hdk;have hq:SqL K H d [.int a,.int b,.int c]:=.of hd;refine ⟨_,rfl,d,_,0,_,rfl,rfl,hq,rfl,_,_,rfl,rfl,_,rfl,?_⟩;refine xn (λh1=>?_) (λh1=>?_)
  ·refine ⟨_,rfl,d,_,0,_,rfl,rfl,hq,rfl,_,rfl,_,_,rfl,rfl,hm0,?_⟩;refine ⟨_,rfl,d,_,0,_,rfl,rfl,hq,rfl,_,rfl,_,_,rfl,rfl,⟨hm0,by lia⟩,?_⟩;refine ⟨_,rfl,d,_,0,0,rfl,rfl,hd,rfl,?_⟩;refine ⟨_,rfl,?_⟩;exact k _ _ wz ⟨_,_,_,ab,Int.ediv_nonneg ha (by lia),hb,hb2,hc,by lia⟩ (Int.emod_nonneg _ (by lia)) (Pk _ hm0)
  ·refine ⟨_,rfl,d,_,2,_,rfl,rfl,hq,rfl,_,_,rfl,rfl,?_⟩;refine ⟨_,rfl,d,_,2,2,rfl,rfl,hd,rfl,?_⟩;have hq2:SqL K (upd H d (.lst [.int a,.int b,.int (c+1)])) d [.int a,.int b,.int (c+1)]:=.of ab;refine ⟨_,rfl,d,_,1,_,rfl,rfl,hq2,rfl,_,rfl,d,_,2,_,rfl,rfl,hq2,rfl,_,_,rfl,rfl,.inl ⟨by decide,by decide⟩,_,_,rfl,rfl,_,_,rfl,rfl,⟨by decide,by decide,by lia⟩,_,_,rfl,rfl,(by show (0:Int)<2147483647;decide),?_⟩;refine ⟨_,rfl,_,rfl,d,_,2,_,rfl,rfl,hq2,rfl,_,_,rfl,rfl,.inl ⟨by decide,by decide⟩,_,_,rfl,rfl,_,_,rfl,rfl,⟨by decide,by decide,?_⟩,_,_,rfl,rfl,(by show (0:Int)<2147483629;decide),_,_,rfl,rfl,⟨by decide,by decide⟩,?_⟩
   ·have h2:=Int.emod_nonneg ((b+15485867 * (c+1)) ^ (5:Int).toNat) (show (2147483647:Int)≠0 by decide);have h3:=Pk ((b+15485867 * (c+1)) ^ (5:Int).toNat) (show (0:Int)<2147483647 by decide);lia
   ·refine ⟨_,rfl,_,_,rfl,rfl,_,rfl,?_⟩;rw [decide_eq_false (show ¬ (1000000:Int)<m by lia)];refine bf ?_;refine ⟨_,rfl,_,rfl,_,_,rfl,rfl,hm0,?_⟩;exact k _ _ wz ⟨_,_,_,ab,ha,hb,hb2,by lia,by lia⟩ (Int.emod_nonneg _ (by lia)) (Pk _ hm0)
theorem m5:aE ["word","figures"] ["word"] (ah (top 47)):=⟨rfl,rfl,rfl,by decide +kernel,rfl,by decide +kernel,by decide +kernel⟩
set_option maxHeartbeats 8000000 in
theorem jz (T:Tx K mg A):aA P w K mg base CX0 1 A.fG A.fq ["word"] (gj K):=by
 refine T.cS.fn.ok m5 (λvs H Q E h=>?_) (λcdv Ar outer s H vs Q E hr h=>?_)
 ·obtain ⟨z,rfl,_⟩:=h;rfl
 ·obtain ⟨z,rfl,hz,k⟩:=h;refine ⟨_,aj (aQ (i:=1) m5.nd rfl (Or.inl rfl) (d9 (aK (ef) (fC Dr (pv 0) (ip) (ig (ap))) (ay) (aJ _)) (fC Dr (pv 0) (ig (ap)) (ip)) (pv 0)))
   (aj (bA ((pw_and (aK (m6) (pv 1) (ay) (aJ _)) (pw_and1 (aK (r:=rV K) (mK hr) (aP (N':=["sign"]) (n:=1) (fi:=[]) (g:=aU 0) rfl (aX (ah (top 47)) ["word","figures"] (by decide +kernel)) (Cb (pv 1)) (λs H fp=>au (i:=0) (show (["sign"]:List Str).Nodup by decide +kernel) rfl (Or.inl rfl) (.inr rfl)) (λs H fp=>cq (lg (rc lR lR (ay) (pv 0) (ay)))) (λs H fp=>pv 0)) (be (af)) (aJ _)))).pt) (ak (ax (ay))) (aZ))
   (ak (ax (d9 (aK (r:=rV K) (mK hr) (aP (N':=["sign"]) (n:=1) (fi:=[]) (g:=aU 0) rfl (aX (ah (top 47)) ["word","figures"] (by decide +kernel)) (Cb (pv 0)) (λs H fp=>au (i:=0) (show (["sign"]:List Str).Nodup by decide +kernel) rfl (Or.inl rfl) (.inr rfl)) (λs H fp=>cq (lg (rc lR lR (ay) (pv 0) (ay)))) (λs H fp=>pv 0)) (be (af)) (aJ _)) (ay) (ay))))),?_⟩
  have hl:z.length<=sizeLine:=NM hz.1 (by decide);have hf:=Em (z:=z) (l:=some 1) (u:=none) hz.2;have c0:("0" : Str)=⟨#[48]⟩:=by decide +kernel
  have c9:("9" : Str)=⟨#[57]⟩:=by decide +kernel
  have ca:("a" : Str)=⟨#[97]⟩:=by decide +kernel
  have cz:("z" : Str)=⟨#[122]⟩:=by decide +kernel
  have ek:bZ z.cps.toList=if cB dig (bB z.cps.toList)=true then 0 else if z.cps.toList.all low=true then 1 else 2:=rfl;rw [ek] at k;refine ⟨_,rfl,_,rfl,z,rfl,hl,rfl,_,rfl,?_⟩;rw [Bn];have LJ:∃ f:Str,f.cps.toList=bB z.cps.toList/\PyData.strOk f=true/\f.length<=10000/\(f=if z.cps.toList.head? = some 45 then Txt.slice z (some 1) none else z):=by
   by_cases hd:z.cps.toList.head? = some 45
   ·exact ⟨_,by rw [if_pos hd,yk];exact xQ hd,by rw [if_pos hd];exact hf.1,by rw [if_pos hd];exact NM hf.2 hz.1,rfl⟩
   ·exact ⟨_,by rw [if_neg hd];exact y8 hd,by rw [if_neg hd];exact hz.2,by rw [if_neg hd];exact hz.1,rfl⟩
  obtain ⟨f,f1,f2,f3,f4⟩:=LJ;have tail:∀ H2,ae H H2->cB dig (bB z.cps.toList)=false->Jm (tIf (tN (tOp (rV K) (xh (Ik (pN 0)) (aU 0) (IE (tN (vG (λx y H Q=>∃ i j,x = .str i/\y = .str j/\Q (.bl (!decide (j.cps.toList<i.cps.toList))) H) (λx y H Q=>∃ i j,x = .str i/\y = .str j/\Q (.bl (!decide (j.cps.toList<i.cps.toList))) H) (tC (.str "a")) (pN 0) (tC (.str "z"))))) (pN 0) 1 []) (HZ Io))) (tC (.str "name")) (tC (.str "other"))) { nx:=λ_ H'=>Q .non H',rt:=Q } [some (.str z),some (.str f)] H2:=λH2 s2 hno=>by
   refine nR (λc=>!(decide (97<=c) && decide (c<=122))) rfl hz.2 (NM hz.1 (by decide)) (λc H2 R h=>jb ca cz h) λH3 s3=>?_;have e:(z.cps.toList.all λc=>!(!(decide (97<=c) && decide (c<=122))))=z.cps.toList.all low:=by
    congr 1
    funext c
    simp [low]
   rw [e];have kk:=k H3 (s2.trans s3);rw [hno,if_neg NV] at kk;by_cases hb:z.cps.toList.all low=true
   ·rw [if_pos hb] at kk;rw [hb];exact bL kk
   ·rw [if_neg hb] at kk;rw [N5.mpr hb];exact bf kk
  by_cases hd:z.cps.toList.head? = some 45
  ·rw [decide_eq_true hd];rw [if_pos hd] at f4;subst f4;refine bL ⟨_,rfl,_,rfl,z,rfl,hl,?_⟩;refine ⟨_,rfl,rfl,_,rfl,?_⟩;rw [m4,f1];by_cases he:(bB z.cps.toList).isEmpty=true
   ·rw [he];refine bf ?_;refine bf ?_;exact tail H (ae.refl _) (by unfold cB;rw [he];rfl)
   ·rw [N5.mpr he];refine bL ?_;refine nR (λc=>!(decide (48<=c) && decide (c<=57))) rfl f2 (NM f3 (by decide)) (λc H2 R h=>jb c0 c9 h) λH2 s2=>?_;have e:((Txt.slice z (some 1) none).cps.toList.all λc=>!(!(decide (48<=c) && decide (c<=57))))=(bB z.cps.toList).all dig:=by
     rw [f1]
     congr 1
     funext c
     simp [dig]
    rw [e];by_cases hb:(bB z.cps.toList).all dig=true
    ·rw [hb];refine bL ?_;have ho:cB dig (bB z.cps.toList)=true:=by unfold cB;rw [N5.mpr he,hb];rfl
     have kk:=k H2 s2;rw [ho,if_pos rfl] at kk;exact kk
    ·rw [N5.mpr hb];refine bf ?_;exact tail H2 s2 (by unfold cB;rw [N5.mpr hb,Bool.and_false])
  ·rw [decide_eq_false hd];rw [if_neg hd] at f4;subst f4;refine bf ⟨_,rfl,?_⟩;refine ⟨_,rfl,rfl,_,rfl,?_⟩;rw [m4,f1];by_cases he:(bB f.cps.toList).isEmpty=true
   ·rw [he];refine bf ?_;refine bf ?_;exact tail H (ae.refl _) (by unfold cB;rw [he];rfl)
   ·rw [N5.mpr he];refine bL ?_;refine nR (λc=>!(decide (48<=c) && decide (c<=57))) rfl f2 (NM f3 (by decide)) (λc H2 R h=>jb c0 c9 h) λH2 s2=>?_;have e:(f.cps.toList.all λc=>!(!(decide (48<=c) && decide (c<=57))))=(bB f.cps.toList).all dig:=by
     rw [<-f1]
     congr 1
     funext c
     simp [dig]
    rw [e];by_cases hb:(bB f.cps.toList).all dig=true
    ·rw [hb];refine bL ?_;have ho:cB dig (bB f.cps.toList)=true:=by unfold cB;rw [N5.mpr he,hb];rfl
     have kk:=k H2 s2;rw [ho,if_pos rfl] at kk;exact kk
    ·rw [N5.mpr hb];refine bf ?_;exact tail H2 s2 (by unfold cB;rw [N5.mpr hb,Bool.and_false])
theorem jw:aE ["deck","way","some"] ["deck"] (ah (top 50)):=⟨rfl,rfl,rfl,by decide +kernel,rfl,by decide +kernel,by decide +kernel⟩
set_option maxHeartbeats 8000000 in
theorem nA (T:Tx K mg A):aA P w K mg base CX0 2 A.gY A.hJ ["deck"] (je K):=by
 have aN:aA P w K mg base CX0 1 A.df A.dh ["deck","many"] (dw K):=(eu T).mono (by decide);refine T.eU.fn.ok jw (λvs H Q E h=>?_) (λcdv Ar outer s H vs Q E hr h=>?_)
 ·obtain ⟨d,n,rfl,_⟩:=h;rfl
 ·obtain ⟨d,n,rfl,hdk,hn,k⟩:=h;refine ⟨_,aj (aQ (i:=1) jw.nd rfl (Or.inl rfl) (aq aN hr (by rfl) T.av.mg T.av.fn.kp T.av.bd .nil aC (aa (pv 0) (aa (ap) (af)))))
   (aj (bA (aK (qB) (pv 1) (ap) (aJ _)) (ak (ax (aR (r:=cE K) aT (be (aa (ay) (aa (ay) (aa (ay) (af))))) (aq aN hr (by rfl) T.av.mg T.av.fn.kp T.av.bd .nil aC (aa (pv 0) (aa (ap) (af)))) (λ_ _=>rfl)))) (aZ))
   (aj (bA (aK (qB) (pv 1) (ap) (aJ _)) (ak (ax (aR (r:=cE K) aT (be (aa (ay) (aa (ay) (aa (ay) (aa (ay) (aa (ay) (af))))))) (aq aN hr (by rfl) T.av.mg T.av.fn.kp T.av.bd .nil aC (aa (pv 0) (aa (ap) (af)))) (λ_ _=>rfl)))) (aZ))
   (aj (bA (aK (qB) (pv 1) (ap) (aJ _)) (ak (ax (aR (r:=cE K) aT (be (aa (ay) (aa (ay) (aa (ay) (aa (ay) (aa (ay) (aa (ay) (aa (ay) (aa (ay) (af)))))))))) (aq aN hr (by rfl) T.av.mg T.av.fn.kp T.av.bd .nil aC (aa (pv 0) (aa (ap) (af)))) (λ_ _=>rfl)))) (aZ))
   (aj (aQ (i:=2) jw.nd rfl (Or.inr rfl) (aR (r:=cE K) aT (be (aa (ay) (aa (ay) (aa (ay) (aa (ay) (af)))))) (bX C0 (pv 1) (ap)) (λ_ _=>rfl)))
   (ak (ax (b6 (r:=rJoin K) PySem.F.plainAttrs_str PySem.F.slot_str_join PySem.F.type_str_join pU (ay) (aa (aP (N':=["k","some","deck"]) (n:=1) (fi:=[2,0]) (g:=aU 0) rfl (aX (ah (top 50)) ["deck","way","some"] (by decide +kernel)) (dB (by rfl) T.eC (aa (bX gQ (ap) (aq aN hr (by rfl) T.av.mg T.av.fn.kp T.av.bd .nil aC (aa (pv 0) (aa (ap) (af))))) (af))) (λs H fp=>au (i:=0) (show (["k","some","deck"]:List Str).Nodup by decide +kernel) rfl (Or.inl rfl) (.inr rfl)) (λs H fp=>aO) (λs H fp=>aR Ie (pv 1) (aq aN hr (by rfl) T.av.mg T.av.fn.kp T.av.bd .nil aC (aa (pv 2) (aa (aI gc (by rfl) T.b7 PySem.boot_len (aa (pv 1) (af))) (af)))) (λ_ _=>rfl))) (af))))))))),?_⟩
  refine ⟨_,rfl,d,12,n,rfl,hdk,by lia,by decide,by decide,λway H1 s1 dk1 w0 w12=>?_⟩;refine ⟨_,rfl,_,_,rfl,rfl,_,rfl,?_⟩;refine xn (λ_=>?_) (λ_=>?_)
  ·refine ⟨(by show 3<=sizeLine;decide),λp hp=>⟨_,rfl,d,3,n+1,rfl,dk1.same (ae.new hp),by lia,by decide,by decide,λr H2 s2 dk2 r0 r1=>?_⟩⟩;obtain ⟨x,hx,ha⟩:=mX (l:=yZ) r0 r1;have hp2:H2 p=some (.lst (yZ.map V.str)):=bT s2 ab (dk1.ne hp);have hw:=w1 x hx;exact ⟨p,_,r,_,rfl,rfl,.of hp2,ha,k x H2 (bp (s1.trans (ae.new hp)) s2) (dk2.mono (by lia)) ⟨hw.1,hw.2.1,hw.2.2⟩⟩
  ·refine ⟨_,rfl,_,_,rfl,rfl,_,rfl,?_⟩;refine xn (λ_=>?_) (λ_=>?_)
   ·refine ⟨(by show 5<=sizeLine;decide),λp hp=>⟨_,rfl,d,5,n+1,rfl,dk1.same (ae.new hp),by lia,by decide,by decide,λr H2 s2 dk2 r0 r1=>?_⟩⟩;obtain ⟨x,hx,ha⟩:=mX (l:=zg) r0 r1;have hp2:H2 p=some (.lst (zg.map V.str)):=bT s2 ab (dk1.ne hp);have hw:=w2 x hx;exact ⟨p,_,r,_,rfl,rfl,.of hp2,ha,k x H2 (bp (s1.trans (ae.new hp)) s2) (dk2.mono (by lia)) ⟨hw.1,hw.2.1,hw.2.2⟩⟩
   ·refine ⟨_,rfl,_,_,rfl,rfl,_,rfl,?_⟩;refine xn (λ_=>?_) (λh8=>?_)
    ·refine ⟨(by show 8<=sizeLine;decide),λp hp=>⟨_,rfl,d,8,n+1,rfl,dk1.same (ae.new hp),by lia,by decide,by decide,λr H2 s2 dk2 r0 r1=>?_⟩⟩;obtain ⟨x,hx,ha⟩:=mX (l:=yl) r0 r1;have hp2:H2 p=some (.lst (yl.map V.str)):=bT s2 ab (dk1.ne hp);have hw:=w3 x hx;exact ⟨p,_,r,_,rfl,rfl,.of hp2,ha,k x H2 (bp (s1.trans (ae.new hp)) s2) (dk2.mono (by lia)) ⟨hw.1,hw.2.1,hw.2.2⟩⟩
    ·have h8':¬ way<8:=λh=>h8 (decide_eq_true h);obtain ⟨x,hx,ha⟩:=mX (l:=yY) (r:=way - 8) (by lia) (by show way - 8<4;lia);have hxx:=w4 x hx;refine ⟨(by show 4<=sizeLine;decide),λp hp=>⟨_,rfl,_,_,rfl,rfl,p,_,way - 8,_,rfl,rfl,.of ab,ha,?_⟩⟩;have dkp:Dk (upd H1 p (.lst (yY.map V.str))) d (n+1):=dk1.same (ae.new hp);refine ⟨rfl,_,rfl,d,4,n+1,rfl,dkp,by lia,by decide,by decide,λr4 H2 s2 dk2 r0 r1=>?_⟩;refine ⟨_,_,rfl,rfl,1+r4,rfl,by lia,by lia,λD hD=>?_⟩;have hdD:d≠D:=dk2.ne hD;refine gw (λi acc σ H3=>(∃ u,σ=[u,some (.str x),some (.ref d)])/\ae (wo d H2) H3/\Dk H3 d (n+2+i)/\∃ l:List Str,acc=l.map V.str/\l.length=i/\∀ y∈l,PyData.strOk y=true/\y.length<=1/\∃ c,y=⟨#[c]⟩/\sgn c=true) ab ⟨⟨_,rfl⟩,bc.trans (ae.new hD),dk2.same (ae.new hD),[],rfl,rfl,λy hy=>by cases hy⟩ (λi acc σ H3 hi hD3 q=>?_) (λacc σ H3 hD3 q=>?_)
     ·obtain ⟨q0,s3,dk3,l,rfl,hl,hok⟩:=q;apply bP q0;clear q0;intro u;refine bV ⟨_,rfl,_,rfl,_,rfl,x,rfl,NM hxx.2.1 (by decide),d,x.length,n+2+i,rfl,dk3,by lia,by lia,by lia,λr H4 s4 dk4 q0 q1=>?_⟩;obtain ⟨c,j,hc,hj⟩:=Fz q0 q1;have hsc:sgn c=true:=Od.mp hxx.2.2.2 c (by simpa using Array.mem_of_getElem? hj);refine ⟨x,r,c,rfl,rfl,NM hxx.2.1 (by decide),hc,_,bT s4 hD3 hdD,small (by simp only [NE];lia),_,ab,⟨_,rfl⟩,ar (by rw [aS hdD.symm];exact hD) (bp s3 s4),dk4.upd hdD,l++[⟨#[c]⟩],by simp,by simp [hl],λy hy=>?_⟩;rcases Oa.mp hy with hy | hy
      ·exact hok y hy
      ·simp only [NQ] at hy;subst hy;exact ⟨Gp hxx.1 hj,NH _,c,rfl,hsc⟩
     ·obtain ⟨_,s3,dk3,l,rfl,hl,hok⟩:=q;have hl4:l.length<=4:=by lia
      refine ⟨"",D,l,rfl,rfl,.of hD3,lr (λy hy=>(hok y hy).2.1) ?_,?_⟩
      ·have:(("" : Str)).length=0:=rfl;rw [this];lia
      ·exact k _ H3 (bp (bp (s1.trans (ae.new hp)) s2) s3) (dk3.mono (by lia)) (Bh (by lia) hl4 hok)
theorem vL:aE ["deck","most"] ["deck","most"] (ah (top 51)):=⟨rfl,rfl,rfl,by decide +kernel,rfl,by decide +kernel,by decide +kernel⟩
set_option maxHeartbeats 8000000 in
theorem nH (T:Tx K mg A):aA P w K mg base CX0 3 A.gZ A.g5 ["deck","most"] (jD K):=by
 have k6:aA P w K mg base CX0 2 A.gY A.hJ ["deck"] (je K):=(nA T).mono (by decide);have aN:aA P w K mg base CX0 2 A.df A.dh ["deck","many"] (dw K):=(eu T).mono (by decide);refine T.eT.fn.ok vL (λvs H Q E h=>?_) (λcdv Ar outer s H vs Q E hr h=>?_)
 ·obtain ⟨d,m,n,rfl,_⟩:=h;rfl
 ·obtain ⟨d,m,n,rfl,hdk,hn,hm0,hm1,k⟩:=h;refine ⟨_,ak (ax (b6 (r:=rJoin K) PySem.F.plainAttrs_str PySem.F.slot_str_join PySem.F.type_str_join pU (ay) (aa (aP (N':=["k","deck"]) (n:=1) (fi:=[0]) (g:=aU 0) rfl (aX (ah (top 51)) ["deck","most"] (by decide +kernel)) (dB (by rfl) T.eC (aa (bX gQ (ap) (aq aN hr (by rfl) T.av.mg T.av.fn.kp T.av.bd .nil aC (aa (pv 0) (aa (pv 1) (af))))) (af))) (λs H fp=>au (i:=0) (show (["k","deck"]:List Str).Nodup by decide +kernel) rfl (Or.inl rfl) (.inr rfl)) (λs H fp=>aO) (λs H fp=>aq k6 hr (by rfl) T.eU.mg T.eU.fn.kp T.eU.bd .nil aC (aa (pv 1) (af)))) (af)))),?_⟩;refine ⟨rfl,_,rfl,_,rfl,d,m,n,rfl,hdk,by lia,hm0,by lia,λr4 H2 s2 dk2 r0 r1=>?_⟩;refine ⟨_,_,rfl,rfl,1+r4,rfl,by lia,by lia,λD hD=>?_⟩;have hdD:d≠D:=dk2.ne hD;refine gw (λi acc σ H3=>(∃ u,σ=[u,some (.ref d)])/\ae (wo d H2) H3/\Dk H3 d (n+1+6 * i)/\∃ l:List Str,acc=l.map V.str/\l.length=i/\∀ y∈l,WOk y) ab ⟨⟨_,rfl⟩,bc.trans (ae.new hD),dk2.same (ae.new hD),[],rfl,rfl,λy hy=>by cases hy⟩ (λi acc σ H3 hi hD3 q=>?_) (λacc σ H3 hD3 q=>?_)
  ·obtain ⟨q0,s3,dk3,l,rfl,hl,hok⟩:=q;apply bP q0;clear q0;intro u;refine bV ⟨_,rfl,d,n+1+6 * i,rfl,dk3,by lia,λx H4 s4 dk4 hx=>?_⟩;refine ⟨_,bT s4 hD3 hdD,small (by simp only [NE];lia),_,ab,⟨_,rfl⟩,ar (by rw [aS hdD.symm];exact hD) (bp s3 s4),(dk4.upd hdD).mono (by lia),l++[x],by simp,by simp [hl],λy hy=>?_⟩;rcases Oa.mp hy with hy | hy
   ·exact hok y hy
   ·simp only [NQ] at hy;subst hy;exact hx
  ·obtain ⟨_,s3,dk3,l,rfl,hl,hok⟩:=q;have h1:((" " : Str)).length=1:=rfl;refine ⟨" ",D,l,rfl,rfl,.of hD3,lr (λy hy=>(hok y hy).len) ?_,?_⟩
   ·rw [h1];lia
   ·exact k _ l H3 (bp s2 s3) (dk3.mono (by lia)) ⟨rfl,by lia,by lia,hok⟩
def il (K:PySem.W.Frag):Sp:=λvs H Q _=>∃ (v:V) (x:Str) (p:Pt),vs=[v,.str x]/\Den K H v p.dat/\p.ok/\d5 x=true/\TOk x/\∀ H',ae H H'->Q (.bl (p.takes x)) H'
theorem HW {m:Nat}{x:Str} (hm:m<3) (hx:d5 x=true):inV (V.str (bq m)) [V.str "any",V.str (eJ (bZ x.cps.toList))]=(Pt.hole m).takes x:=by
 have hne:x.cps.toList≠[]:=by
  intro e;unfold d5 cB at hx;rw [e] at hx;cases hx
 rw [mm hne];show (eqV (.str "any") (.str (bq m)) || (eqV (.str (eJ (bD x))) (.str (bq m)) || false))=_;have hk:=i0 x;have c:bD x=0\/bD x=1\/bD x=2:=by lia
 have d:m=0\/m=1\/m=2:=by lia
 rcases d with rfl | rfl | rfl
 ·rcases c with e | e | e <;> (show _=decide (bD x=0);rw [e];decide +kernel)
 ·rcases c with e | e | e <;> (show _=decide (bD x=1);rw [e];decide +kernel)
 ·show _=d5 x;rw [hx];rcases c with e | e | e <;> (rw [e];decide +kernel)
theorem nk:aE ["part","word"] ["part","word"] (ah (top 48)):=⟨rfl,rfl,rfl,by decide +kernel,rfl,by decide +kernel,by decide +kernel⟩
set_option maxHeartbeats 8000000 in
theorem nI (T:Tx K mg A):aA P w K mg base CX0 2 A.eQ A.eY ["part","word"] (il K):=by
 have fu:aA P w K mg base CX0 1 A.fG A.fq ["word"] (gj K):=(jz T).mono (by decide);refine T.eF.fn.ok nk (λvs H Q E h=>?_) (λcdv Ar outer s H vs Q E hr h=>?_)
 ·obtain ⟨v,x,p,rfl,_⟩:=h;rfl
 ·obtain ⟨v,x,p,rfl,hd,hok,hw,hto,k⟩:=h;obtain ⟨a,x1,y1,ev,hq,_,_,hx⟩:=iK hd;refine ⟨_,aj (bA (aK (ef) (aR (r:=eL K) bH (pv 0) (ap) (λ_ _=>rfl)) (ay) (aJ _)) (ak (ax (cy (ef) (aR (r:=eL K) bH (pv 0) (ap) (λ_ _=>rfl)) (pv 1) (aJ _)))) (aZ))
   (ak (ax (cy (r:=rIn K false) (lF) (aR (r:=eL K) bH (pv 0) (ap) (λ_ _=>rfl)) (bJ (aa (ay) (aa (aq fu hr (by rfl) T.cS.mg T.cS.fn.kp T.cS.bd .nil aC (aa (pv 1) (af))) (af)))) (by rfl)))),?_⟩
  subst ev;refine ⟨_,rfl,a,_,0,_,rfl,rfl,hq,rfl,rfl,_,rfl,?_⟩;cases p with
  | word y=>
   obtain ⟨rfl,rfl⟩:=hx;rw [decide_eq_true rfl];refine bL ⟨_,rfl,a,_,1,_,rfl,rfl,hq,rfl,_,rfl,rfl,?_⟩;have e:decide (V.str y1=V.str x)=(Pt.word y1).takes x:=by
    rw [N7];simp [Pt.takes,eq_comm]
   show Q (V.bl (decide (V.str y1=V.str x))) H;rw [e];exact k H (ae.refl _)
  | hole m=>
   obtain ⟨rfl,rfl⟩:=hx;rw [decide_eq_false (by decide)];refine bf ⟨_,rfl,a,_,1,_,rfl,rfl,hq,rfl,?_⟩;refine ⟨_,rfl,x,rfl,hto,λH1 s1=>⟨(by show 2<=sizeLine;decide),λt ht=>⟨t,_,rfl,.inr (.of ab),rfl,rfl,?_⟩⟩⟩;show Q (V.bl (inV (V.str (bq m)) [V.str "any",V.str (eJ (bZ x.cps.toList))])) _;rw [HW hok hw];exact k _ (s1.trans (ae.new ht))
theorem CO (ds:List PyData):PyData.eqv (.list ds) (.list [])=ds.isEmpty:=by
 cases ds with
 | nil=>rfl
 | cons p r=>rfl
def A3 (ps:List Pt) (ws:List Str):List (Pt×Str):=(ps.zip ws).filter λq=>!q.1.takes q.2
theorem EZ {ps:List Pt}{ws:List Str} (h:ps.length=ws.length):(A3 ps ws).isEmpty=aM ps ws:=by
 unfold A3 aM;rw [decide_eq_true h,Pd,N7,O3,OE,Od];constructor
 ·intro q x hx;simpa using q x hx
 ·intro q x hx;simpa using q x hx
theorem uA {K:PySem.W.Frag}{H:Hp}:∀ n:Nat,aB K H (List.replicate n (V.int 1)) (List.replicate n (PyData.int 1))
 | 0=>.nil
 | n+1=>.cons (.int 1) (uA n)
theorem C9 (n:Nat):(PyData.list (List.replicate n (PyData.int 1))).depth<=100:=by
 have h:PyData.depthAll (List.replicate n (PyData.int 1))<=90:=bE _ λd hd=>by
  rw [(List.mem_replicate.mp hd).2];simp [PyData.depth]
 simp only [PyData.depth];lia
def yJ (ps:List Pt) (ws:List Str) (i:Nat):List (Pt×Str):=((ps.zip ws).take i).filter λq=>!q.1.takes q.2
theorem C1 (ps:List Pt) (ws:List Str) (i:Nat):(yJ ps ws i).length<=i:=NM (N8 _ _) (by rw [NR];lia)
def jY (K:PySem.W.Frag):Sp:=λvs H Q _=>∃ (v:V) (z:Str) (ps:List Pt),vs=[v,.str z]/\Den K H v (br ps)/\POk ps/\LOk z/\PyData.strOk z=true/\Words (Txt.split z " ")/\∀ H',ae H H'->Q (.bl (aM ps (Txt.split z " "))) H'
theorem mP:aE ["pattern","line","words"] ["pattern","line"] (ah (top 49)):=⟨rfl,rfl,rfl,by decide +kernel,rfl,by decide +kernel,by decide +kernel⟩
set_option maxHeartbeats 8000000 in
theorem m9 (T:Tx K mg A):aA P w K mg base CX0 3 A.g8 A.ik ["pattern","line"] (jY K):=by
 have oC:aA P w K mg base CX0 2 A.eQ A.eY ["part","word"] (il K):=(nI T).mono (by decide);refine T.e7.fn.ok mP (λvs H Q E h=>?_) (λcdv Ar outer s H vs Q E hr h=>?_)
 ·obtain ⟨v,z,ps,rfl,_⟩:=h;rfl
 ·obtain ⟨v,z,ps,rfl,hd,hok,hz,hzs,hws,k⟩:=h;obtain ⟨a,xs,ev,hq,hds⟩:=cw hd;have hxl:xs.length=ps.length:=by rw [hds.length,NE]
  have hz':z.length<=10000:=hz;refine ⟨_,aj (aQ (i:=2) mP.nd rfl (Or.inl rfl) (b6 PySem.F.plainAttrs_str PySem.F.slot_str_split PySem.F.type_str_split fF (pv 1) (aa (ay) (af))))
   (aj (bA (aK (m6) (aI (r:=dq K) ba (by rfl) T.b7 PySem.boot_len (aa (pv 2) (af))) (aI (r:=dq K) ba (by rfl) T.b7 PySem.boot_len (aa (pv 0) (af))) (aJ _)) (ak (ax (jZ))) (aZ))
   (ak (ax (cy (r:=rV K) (mK hr) (aP (N':=["part","word"]) (n:=2) (fi:=[]) (g:=xI K 2 (fH (aU 0) (fH (aU 1) (xW)))) rfl (aX (ah (top 49)) ["pattern","line","words"] (by decide +kernel)) (yw (by rfl) T.Ct (aa (pv 0) (aa (pv 2) (af)))) (λs H fp=>iM rfl (bw (au (i:=0) (show (["part","word"]:List Str).Nodup by decide +kernel) rfl (Or.inl rfl) (.inr rfl)) (bw (au (i:=1) (show (["part","word"]:List Str).Nodup by decide +kernel) rfl (Or.inl rfl) (.inr rfl)) (fj)))) (λs H fp=>cq (lg (cD (aq oC hr (by rfl) T.eF.mg T.eF.fn.kp T.eF.bd .nil aC (aa (pv 0) (aa (pv 1) (af))))))) (λs H fp=>ap)) (be (af)) (aJ _))))),?_⟩
  subst ev;refine ⟨_,rfl,rfl,z,_,rfl,rfl,by decide +kernel,by show z.length+2<=16777216;lia,λl hl=>?_⟩;have sl:ae H (upd H l (.lst ((Txt.split z " ").map V.str))):=ae.new hl;have hlen:((Txt.split z " ").map V.str).length=(Txt.split z " ").length:=by rw [NE]
  refine ⟨_,rfl,l,_,rfl,.inl (.of ab),_,rfl,a,xs,rfl,.inl (sl.seq hq),rfl,_,rfl,?_⟩;by_cases he:ps.length=(Txt.split z " ").length
  ·have e:decide (V.int (((Txt.split z " ").map V.str).length:Int)=V.int (xs.length:Int))=true:=decide_eq_true (by rw [hlen,hxl,he]);rw [e];refine bf ?_;refine ⟨_,rfl,_,rfl,a,l,rfl,⟨_,sl.seq hq⟩,⟨_,.of ab⟩,λD hD=>?_⟩;refine CB (K:=K) (xs:=xs) (ys:=(Txt.split z " ").map V.str) (λi acc σ H2=>(∃ u v,σ=[u,v])/\ae (upd H l (.lst ((Txt.split z " ").map V.str))) H2/\acc=List.replicate (yJ ps (Txt.split z " ") i).length (V.int 1)) ab ⟨⟨_,_,rfl⟩,ae.new hD,rfl⟩ (λi acc σ H2 _ q=>⟨(sl.trans q.2.1).seq hq,.of (q.2.1 _ _ ab)⟩) (λi x y acc σ H2 t hx hy hDx q ht=>?_) (λacc σ H2 hDx q=>?_)
   ·obtain ⟨q0,s2,rfl⟩:=q;apply su q0;clear q0;intro u v;obtain ⟨p,hpi,hdp⟩:=fk hds hx;rw [NK] at hy;cases hwi:(Txt.split z " ")[i]? with
    | none=>rw [hwi] at hy;cases hy
    | some x1=>
     rw [hwi] at hy;cases hy;have st:ae H2 (upd H2 t (.tup [x,.str x1])):=ae.new ht;have yA:x1∈Txt.split z " " :=NF hwi;have hsp:=nr hzs x1 yA;have hi:=aG hpi;have hpl:=hok.1;have eb:yJ ps (Txt.split z " ") (i+1)=yJ ps (Txt.split z " ") i++(if p.takes x1=true then [] else [(p,x1)]):=by
      unfold yJ;rw [NY,show (ps.zip (Txt.split z " "))[i]? = some (p,x1) by rw [O6];exact ⟨hpi,hwi⟩];rw [Oe]
      congr 1
      by_cases ht:p.takes x1=true
      ·rw [if_pos ht];simp [ht]
      ·rw [if_neg ht];simp [ht]
     refine ⟨t,_,rfl,.of ab,rfl,_,_,rfl,_,_,rfl,rfl,?_⟩;refine ⟨_,rfl,_,rfl,x,x1,p,rfl,hdp.same ((sl.trans s2).trans st),hok.2 p (NF hpi),hws x1 yA,⟨NM hsp.2 hz',hsp.1⟩,λH4 s4=>⟨_,rfl,?_⟩⟩;have hbl:=C1 ps (Txt.split z " ") i;by_cases htk:p.takes x1=true
     ·rw [htk];refine bf ⟨_,s4 _ _ (st _ _ hDx),⟨_,_,rfl⟩,(s2.trans st).trans s4,?_⟩;rw [eb,if_pos htk,N6]
     ·rw [N5.mpr htk];refine bL ⟨_,s4 _ _ (st _ _ hDx),small (by simp only [List.length_replicate];lia),_,ab,⟨_,_,rfl⟩,ar hD ((s2.trans st).trans s4),?_⟩;rw [eb,if_neg htk,NX,OF,List.replicate_succ']
   ·obtain ⟨_,s2,rfl⟩:=q;refine ⟨NW _,λL hL=>?_⟩;have sL:ae H2 (upd H2 L (.lst [])):=ae.new hL;refine ⟨_,_,.lst (.of (sL _ _ hDx)) (uA _),.lst (.of ab) .nil,C9 _,?_⟩;have eb:yJ ps (Txt.split z " ") (min xs.length ((Txt.split z " ").map V.str).length)=A3 ps (Txt.split z " "):=by
     unfold yJ A3;rw [NI (by rw [List.length_zip,hlen];lia)]
    rw [CO,eb];have ei:(List.replicate (A3 ps (Txt.split z " ")).length (PyData.int 1)).isEmpty=aM ps (Txt.split z " "):=by
     rw [<-EZ he];cases A3 ps (Txt.split z " ") <;> rfl
    rw [ei];exact k _ ((sl.trans s2).trans sL)
  ·have e:decide (V.int (((Txt.split z " ").map V.str).length:Int)=V.int (xs.length:Int))=false:=decide_eq_false (λq=>he (by rw [hlen,hxl] at q;injection q with q;lia));rw [e];refine bL ?_;have e2:aM ps (Txt.split z " ")=false:=by unfold aM;rw [decide_eq_false he];rfl
   have:=k _ sl;rw [e2] at this;exact this
def wq (K:PySem.W.Frag) (Hk:Hp) (a kd F:Addr) (n:Nat) (ps:List Pt) (i:Nat) (σ:St) (H3:Hp):Prop:=
 (∃ u,σ=[some (.ref a),some (.ref kd),some (.ref F),u])/\ae Hk H3/\∃ acc:List V,H3 F=some (.lst (.int n::acc))/\aB K (lim (upd Hk F (.lst [])) H3) acc ((ps.take i).map Pt.place)
theorem wq.step {Hk H3:Hp}{a kd F t:Addr}{n i:Nat}{ps:List Pt}{pt:Pt}{σ:St}{acc ts:List V}{ds:List PyData} (hσ:∃ u,σ=[some (.ref a),some (.ref kd),some (.ref F),u]) (hF:Hk F=none) (s3:ae Hk H3) (hF3:H3 F=some (.lst (.int n::acc)))
  (dn:aB K (lim (upd Hk F (.lst [])) H3) acc ((ps.take i).map Pt.place)) (e:ps[i]? = some pt) (ht:H3 t=none) (ep:pt.place = .tuple ds) (dt:∀ H,aB K H ts ds) :
  wq K Hk a kd F n ps (i+1) σ (upd (upd H3 t (.tup ts)) F (.lst ((.int n::acc)++[.ref t]))):=by
 have st:ae H3 (upd H3 t (.tup ts)):=ae.new ht;have hFt:F≠t:=ao hF3 ht;refine ⟨hσ,ar hF (s3.trans st),acc++[.ref t],ab,?_⟩;rw [dA (ys:=[]) ab,bj e];refine (dn.same (bF st)).append (.cons ?_ .nil);have hn:(upd Hk F (.lst [])) t=none:=by rw [aw hFt.symm];exact s3.free ht
 rw [ep];exact .tup (.of ((bQ hn).trans ab)) (dt _)
theorem ff:aE ["pattern","kinds","found","part"] ["pattern"] (ah (top 54)):=⟨rfl,rfl,rfl,by decide +kernel,rfl,by decide +kernel,by decide +kernel⟩
set_option maxHeartbeats 8000000 in
theorem l7 (T:Tx K mg A):aA P w K mg base CX0 1 A.gq A.gb ["pattern"] (iB K):=by
 refine T.d4.fn.ok ff (λvs H Q E h=>?_) (λcdv Ar outer s H vs Q E hr h=>?_)
 ·obtain ⟨v,ps,rfl,_⟩:=h;rfl
 ·obtain ⟨v,ps,rfl,hd,hok,k⟩:=h;obtain ⟨a,xs,ev,hq,hds⟩:=cw hd;refine ⟨_,aj (aQ (i:=1) ff.nd rfl (Or.inl rfl) (EV (qy (ay) (ap) (qy (ay) (ap) (qy (ay) (ap) (E1)))) rfl rfl (by intro h;cases h) (by decide)))
   (aj (aQ (i:=2) ff.nd rfl (Or.inl rfl) (be (aa (aI (r:=dq K) ba (by rfl) T.b7 PySem.boot_len (aa (pv 0) (af))) (af))))
   (aj (cs PassesOwn.never rfl (aH (pv 0)) (au (i:=3) ff.nd rfl (Or.inl rfl)) (ak (cx (b6 PySem.F.plainAttrs_list PySem.F.slot_list_append PySem.F.type_list_append bG (pv 2) (aa (d9 (aK (ef) (aR (r:=eL K) bH (pv 3) (ap) (λ_ _=>rfl)) (ay) (aJ _)) (bJ (aa (ap) (aa (aI gc (by rfl) T.b7 PySem.boot_len (aa (aR (r:=eL K) bH (pv 3) (ap) (λ_ _=>rfl)) (af))) (aa (aR (r:=eL K) bH (pv 3) (ap) (λ_ _=>rfl)) (af))))) (bJ (aa (zP (Ah hr) (pv 1) (aR (r:=eL K) bH (pv 3) (ap) (λ_ _=>rfl)) (λ_ _=>rfl)) (aa (ap) (aa (ay) (af)))))) (af))))))
   (ak (ax (bJ (aa (aR (r:=cE K) aT (pv 2) (ap) (λ_ _=>rfl)) (aa (fC (r:=yB K) lI (pv 2) (ig (ap)) (ip)) (af)))))))),?_⟩
  subst ev;have hlen:xs.length=ps.length:=by rw [hds.length,NE]
  intro kd hkd;refine ⟨ab,oF,rfl,by decide,?_⟩;have sk:ae H (upd (upd H kd (.dK [])) kd (.dK (iN [] oF))):=ar hkd (ae.new hkd);have hk1:(upd (upd H kd (.dK [])) kd (.dK (iN [] oF))) kd=some (.dK (iN [] oF)):=ab;generalize (upd (upd H kd (HO.dK [])) kd (HO.dK (iN [] oF)))=Hk at sk hk1;refine ⟨_,rfl,a,xs,rfl,.inl (sk.seq hq),(by show 1<=sizeLine;decide),λF hF=>?_⟩;have sF:ae Hk (upd Hk F (.lst [.int xs.length])):=ae.new hF;refine ⟨_,rfl,a,rfl,⟨_,(sk.trans sF).seq hq⟩,?_⟩;refine cM (K:=K) (xs:=xs) (wq K Hk a kd F xs.length ps) ⟨⟨_,rfl⟩,sF,[],ab,.nil⟩ (λi σ H3 _ q=>(sk.trans q.2.1).seq hq) (λi x σ H3 hx q=>?_) (λσ H3 q=>?_)
  ·obtain ⟨q0,s3,acc,hF3,dn⟩:=q;apply bP q0;clear q0;intro u;obtain ⟨d,hd,fR⟩:=hds.get hx;rw [NK] at hd;cases e:ps[i]? with
   | none=>rw [e] at hd;cases hd
   | some pt=>
    rw [e] at hd;cases hd;have hpt:pt.ok:=hok.2 pt (NF e);have hi:i<ps.length:=aG e;have hal:acc.length=i:=by rw [dn.length,NE,NR];lia
    have hps:=hok.1;obtain ⟨b,x1,y1,rfl,hqb,_,_,hxy⟩:=iK fR;have hqt:SqT K H3 b [.str x1,.str y1]:=(sk.trans s3).fV hqb;refine ⟨_,rfl,.inl ⟨rfl,_,.of hF3⟩,?_⟩;refine ⟨_,rfl,b,_,0,_,rfl,rfl,hqt,rfl,rfl,_,rfl,?_⟩;cases pt with
    | word wd=>
     obtain ⟨rfl,rfl⟩:=hxy;rw [decide_eq_true rfl];refine bL ?_;have hw:TOk y1:=hpt;refine ⟨_,rfl,b,_,1,_,rfl,rfl,hqt,rfl,y1,rfl,NM hw.1 (by decide),_,rfl,b,_,1,_,rfl,rfl,hqt,rfl,(by show 3<=sizeLine;decide),λt ht=>⟨F,_,_,rfl,rfl,ae.new ht _ _ hF3,small (by simp only [N4];lia),?_⟩⟩;exact wq.step (ts:=[.int 0,.int y1.length,.str y1]) ⟨_,rfl⟩ hF s3 hF3 dn e ht rfl λH=>.cons (.int _) (.cons (.int _) (.cons (.str hw.2) .nil))
    | hole m=>
     obtain ⟨rfl,rfl⟩:=hxy;rw [decide_eq_false (by decide)];refine bf ?_;have hm:m<3:=hpt;have hg:sJ H3 kd (.str (bq m)) (some (.int (m+1))):=by
      have:=sJ.k (k:=Sum.inr (bq m)) (s3 _ _ hk1);rw [Co hm] at this;exact this
     refine ⟨_,rfl,_,rfl,b,_,1,_,rfl,rfl,hqt,rfl,kd,_,rfl,hg,(by show 3<=sizeLine;decide),λt ht=>⟨F,_,_,rfl,rfl,ae.new ht _ _ hF3,small (by simp only [N4];lia),?_⟩⟩;exact wq.step (ts:=[.int (m+1),.int 0,.str ""]) ⟨_,rfl⟩ hF s3 hF3 dn e ht rfl λH=>.cons (.int _) (.cons (.int _) (.cons (.str (by decide +kernel)) .nil))
  ·obtain ⟨q0,s3,acc,hF3,dn⟩:=q;apply bP q0;clear q0;intro u;rw [NI (by lia)] at dn;refine ⟨_,rfl,F,_,0,_,rfl,rfl,.of hF3,Gg,_,rfl,1,rfl,F,_,rfl,.of hF3,λL hL=>?_⟩;refine ⟨(by show 2<=sizeLine;decide),λt ht=>?_⟩;rw [Cp] at ht ⊢;have sL:ae H3 (upd H3 L (.lst acc)):=ae.new hL;have st:ae (upd H3 L (.lst acc)) (upd (upd H3 L (.lst acc)) t (.tup [.int xs.length,.ref L])):=ae.new ht;have hH3:=sk.trans s3;refine k _ _ ((hH3.trans sL).trans st) ?_;have e:du ps = .tuple [.int xs.length,.list (ps.map Pt.place)]:=by rw [hlen];rfl
   rw [e];have hFH:H F=none:=sk.free hF;refine .tup (.of ((bQ ((hH3.trans sL).free ht)).trans ab)) (.cons (.int _) (.cons (.lst (.of ((bQ (hH3.free hL)).trans (st _ _ ab))) ?_) .nil));refine (dn.same (bF (sL.trans st))).same (bW λb ys q=>?_);have hb:b≠F:=ao q hFH;exact ⟨ys,by rw [aw hb];exact sk b _ q⟩
theorem j7:aE ["patterns","some"] ["patterns"] (ah (top 55)):=⟨rfl,rfl,rfl,by decide +kernel,rfl,by decide +kernel,by decide +kernel⟩
set_option maxHeartbeats 8000000 in
theorem j4 (T:Tx K mg A):aA P w K mg base CX0 2 A.eG A.d7 ["patterns"] (fN K):=by
 have jJ:aA P w K mg base CX0 1 A.gq A.gb ["pattern"] (iB K):=(l7 T).mono (by decide);refine T.cJ.fn.ok j7 (λvs H Q E h=>?_) (λcdv Ar outer s H vs Q E hr h=>?_)
 ·obtain ⟨a,xs,pss,rfl,_⟩:=h;rfl
 ·obtain ⟨a,xs,pss,rfl,hq,hlen,hds,hok,k⟩:=h;refine ⟨_,aj (aQ (i:=1) j7.nd rfl (Or.inl rfl) (aI (o4 (a:=jl) (r:=.bg .int .ix) (.bg _ _) hr) (by rfl) T.fB gu (aa (aP (N':=["number","pattern"]) (n:=2) (fi:=[]) (g:=xI K 2 (fH (aU 0) (fH (aU 1) (xW)))) rfl (aX (ah (top 55)) ["patterns","some"] (by decide +kernel)) (va (by rfl) T.kC (aa (pv 0) (af))) (λs H fp=>iM rfl (bw (au (i:=0) (show (["number","pattern"]:List Str).Nodup by decide +kernel) rfl (Or.inl rfl) (.inr rfl)) (bw (au (i:=1) (show (["number","pattern"]:List Str).Nodup by decide +kernel) rfl (Or.inl rfl) (.inr rfl)) (fj)))) (λs H fp=>aO) (λs H fp=>bJ (aa (aq jJ hr (by rfl) T.d4.mg T.d4.fn.kp T.d4.bd .nil aC (aa (pv 1) (af))) (aa (pv 0) (af))))) (af))))
   (ak (ax (aP (N':=["place","number","patterns"]) (n:=2) (fi:=[0]) (g:=xI K 2 (fH (aU 0) (fH (aU 1) (xW)))) rfl (aX (ah (top 55)) ["patterns","some"] (by decide +kernel)) (aH (pv 1)) (λs H fp=>iM rfl (bw (au (i:=0) (show (["place","number","patterns"]:List Str).Nodup by decide +kernel) rfl (Or.inl rfl) (.inr rfl)) (bw (au (i:=1) (show (["place","number","patterns"]:List Str).Nodup by decide +kernel) rfl (Or.inl rfl) (.inr rfl)) (fj)))) (λs H fp=>aO) (λs H fp=>e9 (r:=lD K) gx (by rfl) T.oE lG (aa (aR (r:=cE K) aT (pv 2) (pv 1) (λ_ _=>rfl)) (af)))))),?_⟩
  have hxl:xs.length=pss.length:=by rw [hds.length,NE]
  refine ⟨_,rfl,a,rfl,⟨_,hq⟩,λD hD=>?_⟩;refine tS (K:=K) (xs:=xs) (λi acc σ H2=>(∃ u v,σ=[u,v])/\ae H H2/\aB K (lim (upd H D (.lst [])) H2) acc (eS pss i)) ab ⟨⟨_,_,rfl⟩,ae.new hD,.nil⟩ (λi acc σ H2 _ _ q=>q.2.1.seq hq) (λi x acc σ H2 p hx hDx q hp=>?_) (λacc σ H2 hDx q=>?_)
  ·obtain ⟨q0,s2,dn⟩:=q;apply su q0;clear q0;intro u v;obtain ⟨d,hd,fR⟩:=hds.get hx;rw [NK] at hd;cases e:pss[i]? with
   | none=>rw [e] at hd;cases hd
   | some ps=>
    rw [e] at hd;cases hd;have hi:i<pss.length:=aG e;have hal:acc.length=i:=by rw [dn.length];simp [eS]
    have sp:ae H2 (upd H2 p (.tup [.int i,x])):=ae.new hp;have s2p:=s2.trans sp;refine Dj (.of ab) ⟨_,rfl,x,ps,rfl,fR.same s2p,hok ps (NF e),λr H4 s4 dr=>⟨_,rfl,(by show 2<=sizeLine;decide),λt ht=>?_⟩⟩;have st:ae H4 (upd H4 t (.tup [r,.int i])):=ae.new ht;have Ho:(upd H2 p (.tup [.int i,x])) D=some (.lst acc):=sp _ _ hDx;have hD5:(upd H4 t (.tup [r,.int i])) D=some (.lst acc):=st _ _ (s4 _ _ Ho);have htD:t≠D:=(ao (s4 _ _ Ho) ht).symm;refine ⟨acc,hD5,small (by lia),_,ab,⟨_,_,rfl⟩,ar hD ((s2p.trans s4).trans st),?_⟩;rw [dA (ys:=[]) ab,wa];refine (dn.same (bF ((sp.trans s4).trans st))).append (.cons ?_ .nil);have hn:(upd H D (.lst [])) t=none:=by rw [aw htD];exact (s2p.trans s4).free ht
    have ee:pairD pss i = .tuple [du ps,.int i]:=by simp [pairD,List.getD,e]
    rw [ee];exact .tup (.of ((bQ hn).trans ab)) (.cons ((dr.same (bF st)).same (bW (vw s2p Ho))) (.cons (.int _) .nil))
  ·obtain ⟨_,s2,dn⟩:=q;have hal:acc.length=pss.length:=by rw [dn.length,hxl];simp [eS]
   rw [hxl] at dn;refine ⟨D,acc,eS pss pss.length,rfl,.of hDx,by lia,dn.same bt,λd hd=>?_,λd hd=>?_,λD0 p hD0 hp ho=>?_⟩
   ·obtain ⟨i,_,rfl⟩:=NJ.mp hd;exact ⟨_,_,rfl,gJ _,_,_,rfl,⟨_,rfl⟩,rfl⟩
   ·obtain ⟨i,_,rfl⟩:=NJ.mp hd;have:=qf (pss.getD i []);simp only [pairD,PyData.depth,PyData.depthAll];lia
   ·rw [hal] at hp;refine ⟨_,rfl,D0,rfl,⟨_,.of ab⟩,λD2 hD2=>?_⟩;have hpl:p.length=pss.length:=by rw [hp.length_eq,OB]
    have hsl:(sel pss p).length=pss.length:=by unfold sel;rw [NE,hpl]
    have sb0:ae H2 (upd H2 D0 (.lst (picked acc p))):=ae.new hD0;have sb:ae H (upd H2 D0 (.lst (picked acc p))):=s2.trans sb0;have FK:(upd H2 D0 (.lst (picked acc p))) D0=some (.lst (picked acc p)):=ab;have dnb:aB K (upd H2 D0 (.lst (picked acc p))) acc (eS pss pss.length):=(dn.same bt).same sb0;generalize (upd H2 D0 (HO.lst (picked acc p)))=Hb at sb FK dnb hD2;have hsD:ae Hb (upd Hb D2 (.lst [])):=ae.new hD2;refine aF (K:=K) (xs:=picked acc p) (λi aV σ H3=>(∃ u v,σ=[u,v,some (.ref a)])/\ae Hb H3/\aB K (lim (upd Hb D2 (.lst [])) H3) aV (((sel pss p).take i).map br)) ab ⟨⟨_,_,rfl⟩,hsD,.nil⟩ (λi aV σ H3 _ _ q=>.of (q.2.1 _ _ FK)) (λi x aV σ H3 hx pE q=>?_) (λaV σ H3 pE q=>?_)
    ·obtain ⟨q0,s3,dn3⟩:=q;apply su q0;clear q0;intro u v;obtain ⟨j,b,v1,hpj,hj,rfl,hqb⟩:=EQ dnb hp hx;have ej:(pss.map br)[j]? = some (br pss[j]):=by rw [NK,NG hj];rfl
     obtain ⟨y,hy,hyd⟩:=hds.getD ej;obtain ⟨a',ys',rfl,hq',hd'⟩:=cw hyd;have hsi:(sel pss p)[i]? = some pss[j]:=by unfold sel;rw [NK,hpj];simp [List.getD,NG hj]
     have hil:i<pss.length:=by rw [<-hsl];exact aG hsi
     have Jz:aV.length=i:=by rw [dn3.length,NE,NR];lia
     refine Dj (s3.fV hqb) ⟨_,rfl,_,rfl,a,xs,j,_,rfl,rfl,(sb.trans s3).seq hq,bo hy,a',ys',rfl,.inl ((sb.trans s3).seq hq'),λl hl=>?_⟩;have hlD:l≠D2:=(ao pE hl).symm;have hlb:(upd Hb D2 (.lst [])) l=none:=by rw [aw hlD];exact s3.free hl
     have sl:ae H3 (upd H3 l (.lst ys')):=ae.new hl;refine ⟨aV,sl _ _ pE,small (by lia),_,ab,⟨_,_,rfl⟩,ar hD2 (s3.trans sl),?_⟩;rw [dA (ys:=[]) ab,bj hsi];exact (dn3.same (bF sl)).append (.cons (.lst (.of ((bQ hlb).trans ab)) (pY (sb.trans hsD) ((sb.trans s3).trans sl) hd')) .nil)
    ·obtain ⟨_,s3,dn3⟩:=q;have hpk:(picked acc p).length=pss.length:=by rw [jn,hpl]
     rw [NI (by lia)] at dn3;exact k D2 aV H3 (sel pss p) (sb.free hD2) (sb.trans s3) pE (xf hp) (Bc (uW hp ho)) (dn3.same (bW (sb.trans hsD).ll))
end
end K39
namespace L2
open PySem PySem.Spec PyProof.Rows PySem.W
section
variable {X:Cx}{pins:List (Addr×Obj)}{σ:St}{H:Hp}{s:Shared}
def GN (K:PySem.W.Frag) (S:PyData->Prop):List V->Hp->VK->Prop:=λvs H Q=>∃ (p:Addr) (xs:List V) (ds:List PyData),vs=[.ref p]/\SqL K H p xs/\aB K H xs ds/\ds≠[]/\(∀ d∈ds,S d/\d.depth<=100)/\Q (xs.getD (bb ds) .non) H
theorem Aj {k:Nat}{I S l:Addr}{Sd:PyData->Prop}{xs:List V}{ds:List PyData}{kw:List (Str×Value)}{R:Result->Shared->Prop} (o:mI Sd) (hr:cn k X.A) (hc:X.calm=true)
  (hlI:l≠I) (hSI:S≠I) (hq:SqL X.K H l xs) (dn:aB X.K H xs ds) (hS:∀ d∈ds,Sd d/\d.depth<=100) (hR:∀ v u s',xs[bb ds]? = some v->Inv X pins σ H s'->RelV v u->R (.ok (.ret u)) s') :
  ∀ (r:List PyData) (j i:Nat) (b:V) (db:PyData) (s:Shared) (ub:Value) (c:Nat),r=ds.drop j->j<=ds.length->xs[i]? = some b->Den X.K H b db->Sd db->cK db i j r=bb ds->RelV b ub->Inv X pins σ H s->bY X pins H I->bY X pins H S->s.heap.get? S=some (seqObj "list" #[ub,ub] c)->s.heap.IsListIter I l j ->
   codeAny (model X.prog X.w) X.A (.builtin "min.loop" ⟨[.ref I,.none,.ref S],kw⟩) R s:=by
 have eN:(toString "min" ++ toString ".loop" : String) = "min.loop" :=by decide
 have hxd:xs.length=ds.length:=dn.length;intro r
 induction r with
 | nil=>
  intro j i b db s ub c hr' hj hi hdb sdb hlg rb Iv fI fS gS hit;obtain ⟨its,rv,pl,_⟩:=Iv.list hq;have hlen:=rv.length;have hjl:ds.length<=j:=Pb.mp hr'.symm;have W:=Walks.list (prog:=X.prog) (w:=X.w) (A:=X.A.in1) (show X.A.in1.handled=none from Iv.ok.hd hc) I l hlI its.toArray;refine codeAny_builtin PySem.F.entry_min_loop ?_;rw [Around.under_plainId PySem.F.plain_min_loop _];show wpAny _ X.A.in1 (seqItems? (.ref S) >>= _) _ _ _;refine wpAny_bind (wpAny_seqItems gS rfl ?_);show wpAny _ X.A.in1 (tryCatch (pyNext (.ref I)) _ >>= _) _ _ _;refine wpAny_bind (wpAny_tryCatch (W.done _ _ _ ⟨by rw [NO,show its.length=j by lia];exact hit,pl.isList⟩ λh' tk' hk'=>?_));have gS':=hk' S _ (by simpa using hSI) gS;have sb:=Heap.SameBut.update h' S (Obj.mapSeq λ_=>(#[]:Array Value));show wpAny _ X.A.in1 (updateSeq S (λ_=>#[]) >>= _) _ _ _;refine wpAny_bind (wpAny_updateSeq gS' rfl (wpAny_bind (wpAny_letGo (wpAny_pure ?_))));have I1:Inv X pins σ H { s with heap:=h',toks:=tk' }:=Iv.bz (wr:=[I]) (λc hc=>by rw [show c=I by simpa using hc];exact fI) λc o hc e=>hk' c o hc e;have hi':i=bb ds:=hlg;rw [hi'] at hi;exact hR b ub _ hi (I1.bz (t':=tk') (wr:=[S]) (λc hc=>by rw [show c=S by simpa using hc];exact fS) λc o hc e=>(sb.2 c (by simpa using hc)).trans e) rb
 | cons d r ih=>
  intro j i b db s ub c hr' hj hi hdb sdb hlg rb Iv fI fS gS hit;obtain ⟨its,rv,pl,_⟩:=Iv.list hq;have hlen:=rv.length;have hjl:j<ds.length:=by
   rcases Oi j ds.length with z | z
   ·exact z
   ·rw [Ox z] at hr';cases hr'
  have hdr:=hr';rw [Of hjl] at hdr;injection hdr with e1 e2;have hdj:ds[j]? = some d:=by rw [NG hjl,<-e1]
  have hxj:xs[j]? = some xs[j]:=NG (by lia);obtain ⟨d',hd',hdx⟩:=dn.get hxj;rw [hdj] at hd';cases hd';have sd:=hS d (NF hdj);have W:=Walks.list (prog:=X.prog) (w:=X.w) (A:=X.A.in1) (show X.A.in1.handled=none from Iv.ok.hd hc) I l hlI its.toArray;refine codeAny_builtin PySem.F.entry_min_loop ?_;rw [Around.under_plainId PySem.F.plain_min_loop _];show wpAny _ X.A.in1 (seqItems? (.ref S) >>= _) _ _ _;refine wpAny_bind (wpAny_seqItems gS rfl ?_);show wpAny _ X.A.in1 (tryCatch (pyNext (.ref I)) _ >>= _) _ _ _;refine wpAny_bind (wpAny_tryCatch (W.item j _ _ _ (by rw [NO];lia) ⟨hit,pl.isList⟩ λv h' tk' hP mG hk'=>?_));obtain ⟨u,hu,ru⟩:=rv.get hxj;have hv:v=u:=by
   have:its[j]? = some v:=by simpa using hP
   rw [hu] at this;cases this;rfl
  subst hv;have gS':=hk' S _ (by simpa using hSI) gS;have I1:Inv X pins σ H { s with heap:=h',toks:=tk' }:=Iv.bz (wr:=[I]) (λc hc=>by rw [show c=I by simpa using hc];exact fI) λc o hc e=>hk' c o hc e;obtain ⟨as1,rd1⟩:=I1.reads hdx ru;obtain ⟨as2,rd2⟩:=I1.reads hdb rb;have hu2:X.A.in1.units+d.depth<cLine:=by show X.A.units+1+d.depth<cLine;have:=hr.un;have:=sd.2;lia
  show wpAny _ X.A.in1 (tryCatch (holding [v,v] (richCompare .Lt v ub >>= _)) _ >>= _) _ _ _;refine wpAny_bind (wpAny_tryCatch (wpAny_holding (wpAny_bind (ji 100 d db sd.2 (o.cmp d db sd.1 sdb) X.A.in1 _ v ub as1 as2 rd1 rd2 hdx.lay hdb.lay hu2 _ _ _ _ ?_))));refine wpAny_bind (wpAny_holding (wpAny_truthy_bool ?_));refine wpAny_bind (wpAny_letGo (wpAny_pure ?_));unfold cK at hlg;cases hb':ltv d db with
  | true=>
   rw [hb',if_pos rfl] at hlg;have sb:=Heap.SameBut.update h' S (Obj.mapSeq λ_=>#[v,v]);obtain ⟨c2,hc2⟩:∃ c2,(h'.update S (Obj.mapSeq λ_=>#[v,v])).get? S=some (seqObj "list" #[v,v] c2):=⟨_,get?_update_seq gS' λ_=>#[v,v]⟩;simp only [if_true];refine wpAny_bind (wpAny_updateSeq gS' rfl (wpAny_bind (wpAny_letGo ?_)));rw [eN];have I3:Inv X pins σ H { s with heap:=h'.update S (Obj.mapSeq λ_=>#[v,v]),toks:=tk' }:=Inv.bz (s:={ s with heap:=h',toks:=tk' }) I1 (t':=tk') (wr:=[S]) (λc hc=>by rw [show c=S by simpa using hc];exact fS) λc o hc e=>(sb.2 c (by simpa using hc)).trans e;obtain ⟨oI,eI,cI,dI⟩:=mG.1;exact wpAny_pure ⟨plainId_quiet PySem.F.plain_min_loop _,ih (j+1) j xs[j] d _ v c2 e2 hjl hxj hdx sd.1 hlg ru I3 fI fS hc2 ⟨oI,(sb.2 I hSI.symm).trans eI,cI,dI⟩⟩
  | false=>
   rw [hb',if_neg (by decide)] at hlg;simp only [Oo,if_false];refine wpAny_bind (wpAny_letGo ?_);rw [eN];exact wpAny_pure ⟨plainId_quiet PySem.F.plain_min_loop _,ih (j+1) i b db _ ub c e2 hjl hi hdb sdb hlg rb I1 fI fS gS' mG.1⟩
theorem Bu {k:Nat}{Sd:PyData->Prop} (o:mI Sd) (hc:X.calm=true) (hr:cn k X.A):fZ X (.builtin "min") (GN X.K Sd):=by
 have eN:(toString "min" ++ toString ".loop" : String) = "min.loop" :=by decide
 intro pins s σ H vs us Q Iv rx h;obtain ⟨l,xs,ds,rfl,hq,dn,hne,hS,q⟩:=h;obtain ⟨u,rfl,ry⟩:=vals1 rx;obtain rfl:u=Value.ref l:=ry;have hxd:xs.length=ds.length:=dn.length;have CC:0<ds.length:=ON.mpr hne;obtain ⟨its,rv,pl,_⟩:=Iv.list hq;have hlen:=rv.length;have hll:l<s.heap.objs.size:=by obtain ⟨_,e,_⟩:=pl.isList;exact Heap.lt_size e
 refine call_function_tree PySem.F.kind_min PySem.F.plain_min PySem.F.entry_min (PySem.F.args_min1 _) ?_;show wpAny _ X.A.in1 (Builtin.Builtins.bindParams "min" ["key","default"] 0 ⟨[],[]⟩ >>= _) _ _ s;refine wpAny_bind (wpAny_of_eq (show Builtin.Builtins.bindParams "min" ["key","default"] 0 ⟨[],[]⟩=pure [none,none] from rfl) ?_);refine wpAny_bind (wpAny_pure ?_);refine wpAny_bind (wpAny_pyIter_list pl.isList ?_);refine wpAny_bind (wpAny_newList ?_ (NW _):wpAny _ _ _ _ _ _);rw [eN];have two:=xq (X:=X) (l:=l) Iv hll;generalize (s.heap.push { cls:=.type "list_iterator",data:=.fields #[.ref l,.int 0 0] }).push (seqObj "list" #[] 0)=h0 at two ⊢;generalize (s.heap.push { cls:=.type "list_iterator",data:=.fields #[.ref l,.int 0 0] }).objs.size=Sa at two ⊢;generalize s.heap.objs.size=Ia at two ⊢;obtain ⟨gI,gS,hkp,I0,fI,fS,hlI,hSI⟩:=two;have pl0:h0.IsList l its.toArray:=pl.isList.at λo e=>hkp l o e;refine wpAny_pure ⟨plainId_quiet PySem.F.plain_min_loop _,?_⟩;have W:=Walks.list (prog:=X.prog) (w:=X.w) (A:=X.A.in1) (show X.A.in1.handled=none from I0.ok.hd hc) Ia l hlI its.toArray;refine codeAny_builtin PySem.F.entry_min_loop ?_;rw [Around.under_plainId PySem.F.plain_min_loop _];show wpAny _ X.A.in1 (seqItems? (.ref Sa) >>= _) _ _ _;refine wpAny_bind (wpAny_seqItems gS rfl ?_);show wpAny _ X.A.in1 (tryCatch (pyNext (.ref Ia)) _ >>= _) _ _ _;refine wpAny_bind (wpAny_tryCatch (W.item 0 _ _ _ (by rw [NO];lia) ⟨⟨_,gI,rfl,rfl⟩,pl0⟩ λv h' tk' hP mG hk'=>?_));have hx0:xs[0]? = some xs[0]:=NG (by lia);obtain ⟨u,hu,ru⟩:=rv.get hx0;have hv:v=u:=by
  have:its[0]? = some v:=by simpa using hP
  rw [hu] at this;cases this;rfl
 subst hv;obtain ⟨d,hd0,hdx⟩:=dn.get hx0;have gS':=hk' Sa _ (by simpa using hSI) gS;have I1:Inv X pins σ H { s with heap:=h',toks:=tk' }:=Inv.bz (s:={ s with heap:=h0 }) (t':=tk') (wr:=[Ia]) I0 (λc hc=>by rw [show c=Ia by simpa using hc];exact fI) λc o hc e=>hk' c o hc e;have sb:=Heap.SameBut.update h' Sa (Obj.mapSeq λ_=>#[v,v]);obtain ⟨c2,hc2⟩:∃ c2,(h'.update Sa (Obj.mapSeq λ_=>#[v,v])).get? Sa=some (seqObj "list" #[v,v] c2):=⟨_,get?_update_seq gS' λ_=>#[v,v]⟩;show wpAny _ X.A.in1 (updateSeq Sa (λ_=>#[v,v]) >>= _) _ _ _;refine wpAny_bind (wpAny_updateSeq gS' rfl ?_);rw [eN];have I3:Inv X pins σ H { s with heap:=h'.update Sa (Obj.mapSeq λ_=>#[v,v]),toks:=tk' }:=Inv.bz (s:={ s with heap:=h',toks:=tk' }) I1 (t':=tk') (wr:=[Sa]) (λc hc=>by rw [show c=Sa by simpa using hc];exact fS) λc o hc e=>(sb.2 c (by simpa using hc)).trans e;obtain ⟨oI,eI,cI,dI⟩:=mG.1;have hlg:cK d 0 1 (ds.drop 1)=bb ds:=by
  cases ds with
  | nil=>exact (hne rfl).elim
  | cons d0 r=>cases hd0;rfl
 refine wpAny_pure ⟨plainId_quiet PySem.F.plain_min_loop _,Aj o hr hc hlI hSI hq dn hS (λw' u' s' hx I' r'=>?_) (ds.drop 1) 1 0 xs[0] d _ v c2 rfl CC hx0 hdx (hS d (NF hd0)).1 hlg ru I3 fI fS hc2 ⟨oI,(sb.2 Ia hSI.symm).trans eI,cI,dI⟩⟩;refine ⟨w',H,I',r',?_⟩;have:xs.getD (bb ds) .non=w':=by rw [NU,hx];rfl
 rw [<-this];exact q
end
end L2
namespace K39
open PySem L2 LG
section
variable {P:Program}{w:World}{K:PySem.W.Frag}{mg:Str->Option Value}{base:Heap}{A:Ad}
def l5 (K:PySem.W.Frag):Sp:=λvs H Q _=>∃ v ps,vs=[v]/\Den K H v (br ps)/\POk ps/\∀ D H',H D=none->ae H H'->H' D=some (.lst (ps.map λp=>V.int p.loose))->Q (.ref D) H'
def lZ (K:PySem.W.Frag):Sp:=λvs H Q _=>∃ (d:Addr) (n:Nat),vs=[.ref d]/\Dk H d n/\n<900000/\∀ (t:Addr) (s l:Int) H',H t=none->ae (wo d H) H'->Dk H' d (n+3)->H' t=some (.tup [.int s,.int l])->Q (.ref t) H'
theorem IJ {k:Nat} (h:k<3):decide (V.str (bq k)=V.str "any")=decide (k=2):=by
 have:k=0\/k=1\/k=2:=by lia
 rcases this with rfl | rfl | rfl <;> decide +kernel
theorem iL:aE ["pattern","found","part"] ["pattern"] (ah (top 60)):=⟨rfl,rfl,rfl,by decide +kernel,rfl,by decide +kernel,by decide +kernel⟩
set_option maxHeartbeats 8000000 in
theorem sX (T:Tx K mg A):aA P w K mg base CX0 1 A.jH A.jL ["pattern"] (l5 K):=by
 refine T.jS.fn.ok iL (λvs H Q E h=>?_) (λcdv Ar outer s H vs Q E hr h=>?_)
 ·obtain ⟨v,ps,rfl,_⟩:=h;rfl
 ·obtain ⟨v,ps,rfl,hd,hok,k⟩:=h;obtain ⟨a,xs,rfl,hq,hds⟩:=cw hd;have hxl:xs.length=ps.length:=by rw [hds.length,NE]
  have hpl:=hok.1;refine ⟨_,aj (aQ (i:=1) iL.nd rfl (Or.inl rfl) (be (af)))
   (aj (cs PassesOwn.never rfl (aH (pv 0)) (au (i:=2) iL.nd rfl (Or.inl rfl)) (ak (cx (b6 PySem.F.plainAttrs_list PySem.F.slot_list_append PySem.F.type_list_append bG (pv 1) (aa (aR (r:=cE K) aT (be (aa (ap) (aa (bX gQ (ap) (e9 tw (by rfl) T.G4 Eh (aa (cy (ef) (aR (r:=eL K) bH (pv 2) (ap) (λ_ _=>rfl)) (ay) (aJ _)) (af)))) (af)))) (e9 tw (by rfl) T.G4 Eh (aa (cy (ef) (aR (r:=eL K) bH (pv 2) (ap) (λ_ _=>rfl)) (ay) (aJ _)) (af))) (λ_ _=>rfl)) (af))))))
   (ak (ax (pv 1)))),?_⟩
  refine ⟨NW _,λF hF=>?_⟩;refine ⟨_,rfl,a,rfl,⟨_,(ae.new hF).seq hq⟩,?_⟩;refine cM (K:=K) (xs:=xs) (λi σ H3=>(∃ u,σ=[some (.ref a),some (.ref F),u])/\ae H H3/\H3 F=some (.lst ((ps.take i).map λp=>V.int p.loose))) ⟨⟨_,rfl⟩,ae.new hF,ab⟩ (λi σ H3 _ q=>q.2.1.seq hq) (λi x σ H3 hx q=>?_) (λσ H3 q=>?_)
  ·obtain ⟨q0,s3,hF3⟩:=q;apply bP q0;clear q0;intro u;have hi:=aG hx;obtain ⟨d,hd,fR⟩:=hds.get hx;rw [NK] at hd;obtain ⟨p,hp,rfl⟩:∃ p,ps[i]? = some p/\d=p.dat:=by
    cases e:ps[i]? with
    | none=>rw [e] at hd;cases hd
    | some p=>rw [e] at hd;cases hd;exact ⟨p,rfl,rfl⟩
   have hpo:=hok.2 p (NF hp);obtain ⟨b,x1,y1,rfl,hqb,_,_,hxy⟩:=iK fR;have hqt:SqT K H3 b [.str x1,.str y1]:=s3.fV hqb;have hat:atI [V.int 0,V.int (1+if decide (V.str y1=V.str "any")=true then 1 else 0)] (if decide (V.str x1=V.str "hole")=true then 1 else 0)=some (.int p.loose):=by
    cases p with
    | word w=>
     obtain ⟨rfl,rfl⟩:=hxy;rw [decide_eq_false (show V.str "word" ≠ V.str "hole" by decide +kernel)];rfl
    | hole m=>
     obtain ⟨rfl,rfl⟩:=hxy;rw [decide_eq_true rfl,IJ hpo];have:m=0\/m=1\/m=2:=by have:m<3:=hpo;lia
     rcases this with rfl | rfl | rfl <;> rfl
   refine ⟨_,rfl,.inl ⟨rfl,_,.of hF3⟩,_,rfl,b,_,1,_,rfl,rfl,hqt,rfl,rfl,.inr ⟨_,rfl,_,_,rfl,rfl,(by show 2<=sizeLine;decide),λL hL=>?_⟩⟩;have sL:=ae.new (o:=.lst [.int 0,.int (1+if decide (V.str y1=V.str "any")=true then 1 else 0)]) hL;refine ⟨_,rfl,b,_,0,_,rfl,rfl,sL.fV hqt,rfl,rfl,.inr ⟨_,rfl,L,_,_,.int p.loose,rfl,rfl,.of ab,hat,F,_,_,rfl,rfl,sL _ _ hF3,small (by rw [NE,NR];lia),⟨_,rfl⟩,ar hF (s3.trans sL),?_⟩⟩;rw [ab,NY,hp];simp
  ·obtain ⟨q0,s3,hF3⟩:=q;apply bP q0;clear q0;intro u;rw [hxl,NI (NH _)] at hF3;exact ⟨_,rfl,k F H3 hF s3 hF3⟩
theorem Ir {r:Int} (h0:0<=r) (h1:r<3):∃ v:Int,atI [V.int 3,V.int 3,V.int 9] r=some (.int v)/\0<v/\v<10:=by
 have:r=0\/r=1\/r=2:=by lia
 rcases this with rfl | rfl | rfl
 ·exact ⟨3,rfl,by decide,by decide⟩
 ·exact ⟨3,rfl,by decide,by decide⟩
 ·exact ⟨9,rfl,by decide,by decide⟩
theorem sj:aE ["deck"] ["deck"] (ah (top 59)):=⟨rfl,rfl,rfl,by decide +kernel,rfl,by decide +kernel,by decide +kernel⟩
set_option maxHeartbeats 8000000 in
theorem sQ (T:Tx K mg A):aA P w K mg base CX0 2 A.jP A.jE ["deck"] (lZ K):=by
 have aN:aA P w K mg base CX0 1 A.df A.dh ["deck","many"] (dw K):=(eu T).mono (by decide);refine T.jF.fn.ok sj (λvs H Q E h=>?_) (λcdv Ar outer s H vs Q E hr h=>?_)
 ·obtain ⟨d,n,rfl,_⟩:=h;rfl
 ·obtain ⟨d,n,rfl,hdk,hn,k⟩:=h;refine ⟨_,ak (ax (bJ (aa (bX gQ (ap) (aq aN hr (by rfl) T.av.mg T.av.fn.kp T.av.bd .nil aC (aa (pv 0) (aa (ap) (af))))) (aa (bX gQ (ap) (aq aN hr (by rfl) T.av.mg T.av.fn.kp T.av.bd .nil aC (aa (pv 0) (aa (aR (r:=cE K) aT (be (aa (ap) (aa (ap) (aa (ap) (af))))) (aq aN hr (by rfl) T.av.mg T.av.fn.kp T.av.bd .nil aC (aa (pv 0) (aa (ap) (af)))) (λ_ _=>rfl)) (af))))) (af))))),?_⟩;refine ⟨_,rfl,d,8,n,rfl,hdk,by lia,by decide,by decide,λr1 H1 s1 dk1 _ _=>⟨_,_,rfl,rfl,?_⟩⟩;refine ⟨_,rfl,(by show 3<=sizeLine;decide),λp hp=>⟨_,rfl,d,3,_,rfl,dk1.same (ae.new hp),by lia,by decide,by decide,λr2 H2 s2 dk2 q0 q1=>?_⟩⟩;obtain ⟨v,hv,hv0,hv1⟩:=Ir q0 q1;have hp2:H2 p=some (.lst [.int 3,.int 3,.int 9]):=bT s2 ab (dk1.ne hp);refine ⟨p,_,r2,_,rfl,rfl,.of hp2,hv,d,v,_,rfl,dk2,by lia,hv0,by lia,λr3 H3 s3 dk3 _ _=>⟨_,_,rfl,rfl,(by show 2<=sizeLine;decide),λt ht=>?_⟩⟩;have s03:ae (wo d H) H3:=bp (bp s1 (bc.trans (ae.new hp))) (by exact bp (by exact s2) s3);have st:=ae.new (o:=.tup [.int (2+r1),.int (1+r3)]) ht;have hdt:=dk3.ne ht;refine k t _ _ _ ?_ (s03.trans st) ((dk3.same st).mono (by lia)) ab;have:=s03.free ht
  rwa [aS hdt.symm] at this
def eB (ps:List Pt):PyData:=.tuple [looseD ps,du ps,br ps]
def rP:Sh:=.bg (.list .int) (.bg jl (.bg (.list (.bg .str (.bg .str .ix))) .ix))
theorem Fy (ps:List Pt):rP.has (eB ps):=by
 refine ⟨_,_,rfl,c8 ps,_,_,rfl,gJ ps,_,_,rfl,⟨_,rfl,λx hx=>?_⟩,rfl⟩;obtain ⟨p,_,rfl⟩:=NJ.mp hx;cases p <;> exact ⟨_,_,rfl,⟨_,rfl⟩,_,_,rfl,⟨_,rfl⟩,rfl⟩
theorem wt (ps:List Pt):(eB ps).depth<=95:=by
 have h1:=tW ps;have h2:=qf ps;have h3:=kQ ps;have h1':(looseD ps).depth<=2:=by
  have:PyData.depthAll (ps.map λp=>PyData.int p.loose)<=0:=bE _ λd hd=>by
   obtain ⟨p,_,rfl⟩:=NJ.mp hd;exact NH _
  simp only [looseD,PyData.depth];lia
 simp only [eB,PyData.depth,PyData.depthAll];lia
theorem Gj {ps qs:List Pt} (h:ltv (eB qs) (eB ps)=false):ltv (looseD qs) (looseD ps)=false/\(looseD qs=looseD ps->ltv (fm qs) (fm ps)=false):=by
 have h2:aL [looseD qs,du qs,br qs] [looseD ps,du ps,br ps]=false:=h;rw [a7] at h2;have o:=Sh.ok (Sh.list .int);by_cases e:PyData.eqv (looseD qs) (looseD ps)=true
 ·have e1:=(o.eqv _ _ (c8 qs) (c8 ps)).mp e;rw [if_pos e,a7] at h2;refine ⟨by rw [e1];exact o.irr _ (c8 ps),λ_=>?_⟩;rw [C7];have o2:=Sh.ok jl;by_cases e2:PyData.eqv (du qs) (du ps)=true
  ·rw [(o2.eqv _ _ (gJ qs) (gJ ps)).mp e2];exact o2.irr _ (gJ ps)
  ·rw [if_neg e2] at h2;exact h2
 ·rw [if_neg e] at h2;exact ⟨h2,λz=>absurd ((o.eqv _ _ (c8 qs) (c8 ps)).mpr z) e⟩
def l0 (K:PySem.W.Frag):Sp:=λvs H Q _=>∃ (z:Str) (a:Addr) (xs:List V) (pss:List (List Pt)),vs=[.str z,.ref a]/\SqL K H a xs/\xs.length<64/\aB K H xs (pss.map br)/\(∀ ps∈pss,POk ps)/\LOk z/\PyData.strOk z=true/\Words (Txt.split z " ") /\
 ∀ r H',ae H H'->Cg K H H' (pss.filter (f6 z)) r->Q r H'
theorem Hy {H H3 H4:Hp} (s:ae H H3) (s':ae H3 H4):ae (tO H3) (lim H H4):=λb o e=>by
 obtain ⟨n,e⟩:=pZ e;rw [i7 λzs z=>by have:=s _ _ z;rw [e] at this;cases this;exact n _ rfl];exact s' _ _ e
theorem Be (l:List (List Pt)):PyData.eqv (.list (l.map eB)) (.list [])=l.isEmpty:=by
 cases l with
 | nil=>rfl
 | cons p r=>rfl
theorem Bm (l:List (List Pt)):(PyData.list (l.map eB)).depth<=100:=by
 have:PyData.depthAll (l.map eB)<=95:=bE _ λd hd=>by
  obtain ⟨p,_,rfl⟩:=NJ.mp hd;exact wt p
 simp only [PyData.depth];lia
theorem DT {H:Hp}{x:V}{ps:List Pt} (h:Den K H x (eB ps)):∃ t r q u,x = .ref t/\SqT K H t [r,q,u]/\Den K H u (br ps):=by
 cases h with
 | tup hq ds=>
  cases ds with
  | cons a t1=>
   cases t1 with
   | cons b t2=>
    cases t2 with
    | cons c t3=>
     cases t3;exact ⟨_,_,_,_,rfl,hq,c⟩
theorem l3:aE ["line","patterns","some"] ["line","patterns"] (ah (top 61)):=⟨rfl,rfl,rfl,by decide +kernel,rfl,by decide +kernel,by decide +kernel⟩
set_option maxHeartbeats 8000000 in
theorem sm (T:Tx K mg A):aA P w K mg base CX0 4 A.jq A.jQ ["line","patterns"] (l0 K):=by
 have vk:aA P w K mg base CX0 3 A.jH A.jL ["pattern"] (l5 K):=(sX T).mono (by decide);have jJ:aA P w K mg base CX0 3 A.gq A.gb ["pattern"] (iB K):=(l7 T).mono (by decide);have lj:aA P w K mg base CX0 3 A.g8 A.ik ["pattern","line"] (jY K):=(m9 T).mono (by decide);refine T.jI.fn.ok l3 (λvs H Q E h=>?_) (λcdv Ar outer s H vs Q E hr h=>?_)
 ·obtain ⟨z,a,xs,pss,rfl,_⟩:=h;rfl
 ·obtain ⟨z,a,xs,pss,rfl,hq,h64,hds,hok,hz,hzs,hwd,k⟩:=h;have hxl:xs.length=pss.length:=by rw [hds.length,NE]
  refine ⟨_,aj (jf (i:=2) (N':=["pattern","line"]) (n:=1) (fi:=[0]) (g:=aU 0) l3.nd rfl (Or.inl rfl) rfl (aX (ah (top 61)) ["line","patterns","some"] (by decide +kernel)) (aH (pv 1)) (λs H fp=>au (i:=0) (show (["pattern","line"]:List Str).Nodup by decide +kernel) rfl (Or.inl rfl) (.inr rfl)) (λs H fp=>cq (cD (aq lj hr (by rfl) T.e7.mg T.e7.fn.kp T.e7.bd .nil aC (aa (pv 0) (aa (pv 1) (af)))))) (λs H fp=>bJ (aa (aq vk hr (by rfl) T.jS.mg T.jS.fn.kp T.jS.bd .nil aC (aa (pv 0) (af))) (aa (aq jJ hr (by rfl) T.d4.mg T.d4.fn.kp T.d4.bd .nil aC (aa (pv 0) (af))) (aa (pv 0) (af))))))
   (ak (ax (d9 (aK (r:=qt K) (iJ hr) (pv 2) (be (af)) (aJ _)) (e9 (r:=lD K) gx (by rfl) T.oE lG (aa (aR (r:=eL K) bH (aI (r:=GN K rP.has) (Bu (Sh.ok rP) rfl hr) (by rfl) T.wA rh (aa (pv 2) (af))) (ap) (λ_ _=>rfl)) (af))) (qJ)))),?_⟩
  refine ⟨_,rfl,a,rfl,⟨_,hq⟩,λM hM=>?_⟩;refine aF (K:=K) (xs:=xs) (λi acc σ H2=>(∃ u,σ=[u,some (.str z)])/\ae H H2/\aB K (wo M H2) acc (((pss.take i).filter (f6 z)).map eB)) ab ⟨⟨_,rfl⟩,ae.new hM,.nil⟩ (λi acc σ H2 _ _ q=>q.2.1.seq hq) (λi x acc σ H2 hx hMx q=>?_) (λacc σ H2 hM2 q=>?_)
  ·obtain ⟨q0,s2,dn⟩:=q;apply bP q0;clear q0;intro u;obtain ⟨ps,hpi,hdp⟩:=cm hds hx;have hi:=aG hpi;have hpo:=hok ps (NF hpi);have hal:acc.length<=i:=by
    rw [dn.length,NE];exact NM (N8 _ _) (by rw [NR];lia)
   have et:pss.take (i+1)=pss.take i++[ps]:=by rw [NY,hpi];rfl
   refine ⟨_,rfl,_,rfl,x,z,ps,rfl,hdp.same s2,hpo,hz,hzs,hwd,λH4 s4=>⟨_,rfl,?_⟩⟩;cases hf:aM ps (Txt.split z " ") with
   | true=>
    have s24:=s2.trans s4;refine bL ⟨_,rfl,x,ps,rfl,hdp.same s24,hpo,λL H5 hL s5 hLL=>?_⟩;have hM5:=(s4.trans s5) _ _ hMx;have s25:=s24.trans s5;refine ⟨_,rfl,x,ps,rfl,hdp.same s25,hpo,λr H6 s6 dr=>⟨_,rfl,(by show 3<=sizeLine;decide),λt ht=>?_⟩⟩;have st:ae H6 (upd H6 t (.tup [.ref L,r,x])):=ae.new ht;have hM6:=s6 _ _ hM5;have hM7:=st _ _ hM6;have hLM:L≠M:=(ao (s4 _ _ hMx) hL).symm;have htM:t≠M:=(ao hM6 ht).symm;have hL7:=st _ _ (s6 _ _ hLL);refine ⟨_,hM7,small (by lia),_,ab,⟨_,rfl⟩,ar hM (s25.trans (s6.trans st)),?_⟩;have e2:[ps].filter (f6 z)=[ps]:=by simp [f6,hf]
    rw [iD,et,Oe,NS,e2];refine (dn.same (ck ((s4.trans s5).trans (s6.trans st)))).append (.cons (.tup (xs:=[.ref L,r,x]) (.of (by rw [aS htM];exact ab)) (.cons (.lst (.of (by rw [aS hLM];exact hL7)) oe) (.cons ((dr.same (yM hM5)).same (ck st)) (.cons (hdp.same (cY hM (s25.trans (s6.trans st)))) .nil)))) .nil)
   | false=>
    refine bf ⟨_,s4 _ _ hMx,⟨_,rfl⟩,s2.trans s4,?_⟩;have e2:[ps].filter (f6 z)=[]:=by simp [f6,hf]
    rw [et,Oe,e2,N6];exact dn.same (ck s4)
  ·obtain ⟨_,s2,dn⟩:=q;rw [NI (by lia)] at dn;have dnM:aB K H2 acc ((pss.filter (f6 z)).map eB):=dn.same bc;refine ⟨_,rfl,NW _,λE hE=>?_⟩;have sE:ae H2 (upd H2 E (.lst [])):=ae.new hE;refine ⟨_,_,.lst (.of (sE _ _ hM2)) (dnM.same sE),.lst (.of ab) .nil,Bm _,_,rfl,?_⟩;rw [Be];have s3:=s2.trans sE;have hM3:=sE _ _ hM2;have dn3:=dnM.same sE;generalize upd H2 E (.lst [])=H3 at sE s3 hM3 dn3 ⊢;generalize hl:pss.filter (f6 z)=l at dn3;cases hle:l.isEmpty with
   | true=>
    have:l=[]:=O3.mp hle;exact bf (k .non H3 s3 (.inl ⟨by rw [hl,this],rfl⟩))
   | false=>
    have hne:l≠[]:=λe=>by rw [e] at hle;cases hle
    have Kr:l.map eB≠[]:=λe=>hne (Ol.mp e);have hsh:∀ d∈l.map eB,rP.has d/\d.depth<=100:=λd hd=>by
     obtain ⟨p,_,rfl⟩:=NJ.mp hd;exact ⟨Fy p,NM (wt p) (by decide)⟩
    obtain ⟨d,hd1,hd2,_⟩:=jv (Sh.ok rP) (λd hd=>(hsh d hd).1) Kr;obtain ⟨x,hx,hdx⟩:=dn3.getD hd1;rw [NK] at hd1;obtain ⟨ps,hps,rfl⟩:∃ p,l[bb (l.map eB)]? = some p/\d=eB p:=by
     cases e:l[bb (l.map eB)]? with
     | none=>rw [e] at hd1;cases hd1
     | some p=>rw [e] at hd1;cases hd1;exact ⟨p,rfl,rfl⟩
    have hpm:=NF hps;obtain ⟨t,r,q,u,rfl,hqt,hdu⟩:=DT hdx;obtain ⟨c,ys,rfl,hqc,hdc⟩:=cw hdu;have lY:acc.getD (bb (l.map eB)) .non = .ref t:=by rw [NU,hx];rfl
    refine bL ⟨_,rfl,M,acc,l.map eB,rfl,.of hM3,dn3,Kr,hsh,?_⟩;rw [lY];refine ⟨t,_,2,_,rfl,rfl,hqt,rfl,c,ys,rfl,.inl hqc,λD hD=>?_⟩;have sD:ae H3 (upd H3 D (.lst ys)):=ae.new hD;have hDH:=s3.free hD;have uH:t8 l ps:=⟨hpm,λq hq=>by
     obtain ⟨j,hj⟩:=OR hq;exact Gj (hd2 j (eB q) (by rw [NK,hj];rfl))⟩
    refine k (.ref D) _ (s3.trans sD) (.inr ⟨D,ys,ps,rfl,hDH,ab,by rw [hl];exact uH,.lst (xs:=ys) (.of ((bQ hDH).trans ab)) ?_⟩);exact (z5 hdc).same (Hy s3 sD)
end
end K39
namespace LG
open PySem L2
def bR {α:Type} (l:List (Key×α)):List Key:=l.foldl (λks p=>if (ks.any λq=>decide (q=p.1))=true then ks else ks++[p.1]) []
theorem JU {k:Key}{ks:List Key}:(ks.any λq=>decide (q=k))=true↔k∈ks:=by
 rw [OA];constructor
 ·rintro ⟨q,hq,e⟩;rw [<-of_decide_eq_true e];exact hq
 ·exact λh=>⟨k,h,decide_eq_true rfl⟩
theorem qz {α:Type}{l:List (Key×α)}{p:Key×α} (h:p.1∈bR l):bR (l++[p])=bR l:=by
 have e:bR (l++[p])=if ((bR l).any λq=>decide (q=p.1))=true then bR l else bR l++[p.1]:=by
  unfold bR;rw [List.foldl_append];rfl
 rw [e,if_pos (JU.mpr h)]
theorem oG {α:Type}{l:List (Key×α)}{p:Key×α} (h:p.1∉bR l):bR (l++[p])=bR l++[p.1]:=by
 have e:bR (l++[p])=if ((bR l).any λq=>decide (q=p.1))=true then bR l else bR l++[p.1]:=by
  unfold bR;rw [List.foldl_append];rfl
 rw [e,if_neg (λz=>h (JU.mp z))]
theorem snoc_ind {α:Type}{C:List α->Prop} (h0:C []) (hs:∀ l x,C l->C (l++[x])) (l:List α):C l:=by
 have:∀ r:List α,C r.reverse:=λr=>by
  induction r with
  | nil=>exact h0
  | cons x r ih=>rw [List.reverse_cons];exact hs _ _ ih
 have e:=this l.reverse
 rwa [List.reverse_reverse] at e
theorem o9 {α:Type} (l:List (Key×α)):(bR l).Nodup:=by
 refine snoc_ind (C:=λl=>(bR l).Nodup) Pm (λl p ih=>?_) l;by_cases hn:p.1∈bR l
 ·rw [qz hn];exact ih
 ·rw [oG hn,List.nodup_append];refine ⟨ih,by simp,λa ha b hb=>?_⟩;rw [NQ.mp hb];exact λe=>hn (e ▸ ha)
theorem oo {α:Type}{k:Key} (l:List (Key×α)):k∈bR l↔∃ x,(k,x)∈l:=by
 refine snoc_ind (C:=λl=>k∈bR l↔∃ x,(k,x)∈l) (by simp [bR]) (λl p ih=>?_) l;have e:k∈bR (l++[p])↔k∈bR l\/k=p.1:=by
  by_cases hn:p.1∈bR l
  ·rw [qz hn];exact ⟨.inl,λh=>h.elim id λz=>z ▸ hn⟩
  ·rw [oG hn,Oa,NQ]
 rw [e,ih];constructor
 ·rintro (⟨x,hx⟩ | rfl)
  ·exact ⟨x,Pa _ hx⟩
  ·exact ⟨p.2,Ob _ (NQ.mpr rfl)⟩
 ·rintro ⟨x,hx⟩;rcases Oa.mp hx with hx | hx
  ·exact .inl ⟨x,hx⟩
  ·exact .inr (by rw [<-NQ.mp hx])
def ofK {α:Type} (l:List (Key×α)) (k:Key):List α:=(l.filter λp=>decide (p.1=k)).map (·.2)
theorem qN {α:Type} (l:List (Key×α)) (p:Key×α) (k:Key):ofK (l++[p]) k=if p.1=k then ofK l k++[p.2] else ofK l k:=by
 unfold ofK;rw [Oe,NS];by_cases h:p.1=k
 ·rw [if_pos h];simp [h]
 ·rw [if_neg h];simp [h]
theorem DV {α:Type}{l:List (Key×α)}{k:Key} (h:k∉bR l):ofK l k=[]:=by
 unfold ofK;rw [Ol,OE];intro p hp e;have e':=of_decide_eq_true e;exact h ((oo l).mpr ⟨p.2,by rw [<-e'];exact hp⟩)
theorem BF {α:Type} (l:List (Key×α)):bU l=(bR l).map λk=>(k,ofK l k):=by
 refine snoc_ind (C:=λl=>bU l=(bR l).map λk=>(k,ofK l k)) rfl (λl p ih=>?_) l;have e:bU (l++[p])=bN (bU l) p.1 p.2:=by
  unfold bU;rw [List.foldl_append];rfl
 rw [e,ih];unfold bN;by_cases h:p.1∈bR l
 ·rw [qz h];have h2:(((bR l).map λk=>(k,ofK l k)).any λq=>decide (q.1=p.1))=true:=by
   rw [OA];exact ⟨_,NJ.mpr ⟨_,h,rfl⟩,decide_eq_true rfl⟩
  rw [if_pos h2,Ow];refine Og λk hk=>?_;show (if k=p.1 then (k,ofK l k++[p.2]) else (k,ofK l k))=(k,ofK (l++[p]) k);rw [qN];by_cases e:k=p.1
  ·rw [if_pos e,if_pos e.symm]
  ·rw [if_neg e,if_neg (Ne.symm e)]
 ·rw [oG h];have h2:¬ (((bR l).map λk=>(k,ofK l k)).any λq=>decide (q.1=p.1))=true:=by
   intro z;obtain ⟨q,hq,eq⟩:=OA.mp z;obtain ⟨k,hk,rfl⟩:=NJ.mp hq;have:=of_decide_eq_true eq;exact h (this ▸ hk)
  rw [if_neg h2,NS]
  congr 1
  ·refine Og λk hk=>?_;show (k,ofK l k)=(k,ofK (l++[p]) k);rw [qN,if_neg (λe:p.1=k=>h (e ▸ hk))]
  ·show [(p.1,[p.2])]=[(p.1,ofK (l++[p]) p.1)];rw [qN,if_pos rfl,DV h];rfl
theorem zH {α:Type} (f:α->Key) (xs:List α):grp (xs.map f) xs=(bR (xs.map λx=>(f x,x))).map λk=>xs.filter λx=>decide (f x=k):=by
 unfold grp;rw [zip_map,BF,Ow];refine Og λk hk=>?_;show ofK (xs.map λx=>(f x,x)) k=_;unfold ofK;rw [List.filter_map,Ow];simp [Function.comp_def]
theorem CL (wss:List (List Str)) (p:Nat):∃ ks:List Key,ks.Nodup/\(∀ k,k∈ks↔∃ ws∈wss,(Sum.inr (ws.getD p Str.empty):Key)=k)/\byW wss p=ks.map λk=>wss.filter λws=>decide ((Sum.inr (ws.getD p Str.empty):Key)=k):=by
 refine ⟨_,o9 (wss.map λws=>((Sum.inr (ws.getD p Str.empty):Key),ws)),λk=>?_,?_⟩
 ·rw [oo];constructor
  ·rintro ⟨x,hx⟩;obtain ⟨ws,hw,e⟩:=NJ.mp hx;injection e with e1 e2;exact ⟨ws,hw,e1⟩
  ·rintro ⟨ws,hw,rfl⟩;exact ⟨ws,NJ.mpr ⟨ws,hw,rfl⟩⟩
 ·unfold byW wAt;rw [Ow];exact zH (λws:List Str=>(Sum.inr (ws.getD p Str.empty):Key)) wss
theorem Iy (rss:List (List Str)):∃ ks:List Key,ks.Nodup/\(∀ k,k∈ks↔∃ ws∈rss,(Sum.inl (ws.length:Int):Key)=k)/\byL rss=ks.map λk=>rss.filter λws=>decide ((Sum.inl (ws.length:Int):Key)=k):=by
 refine ⟨_,o9 (rss.map λws=>((Sum.inl (ws.length:Int):Key),ws)),λk=>?_,?_⟩
 ·rw [oo];constructor
  ·rintro ⟨x,hx⟩;obtain ⟨ws,hw,e⟩:=NJ.mp hx;injection e with e1 e2;exact ⟨ws,hw,e1⟩
  ·rintro ⟨ws,hw,rfl⟩;exact ⟨ws,NJ.mpr ⟨ws,hw,rfl⟩⟩
 ·exact zH (λws:List Str=>(Sum.inl (ws.length:Int):Key)) rss
theorem mr {a b:List Str} (hp:a.Perm b) (h:UpS a) (h':UpS b):a=b:=by
 refine map_inj (f:=PyData.str) (λx y e=>by injection e) ?_;refine iC (Sh.ok .str) (λx hx=>?_) (hp.map _) ?_ ?_
 ·obtain ⟨z,_,rfl⟩:=NJ.mp hx;exact ⟨z,rfl⟩
 ·rw [Oq];exact h
 ·rw [Oq];exact h'
theorem Ec {zs zs' a b:List Str} (ha:a.Perm (bI [] zs)) (hb:b.Perm (bI [] zs')) (ua:UpS a) (ub:UpS b) (h:∀ z,z∈zs↔z∈zs'):a=b:=by
 refine mr ((O4 (ha.nodup_iff.mpr (dC Pm)) (hb.nodup_iff.mpr (dC Pm))).mpr λz=>?_) ua ub;rw [ha.mem_iff,hb.mem_iff,gf,gf,h z]
end LG
namespace L2
open PySem
theorem CI {K:PySem.W.Frag}{a:Addr}{xs:List V}{g:TG}{tb:TS}{D:Ends}{σ:St}{H:Hp} (Pv:Nat->St->Hp->Prop) (h0:Pv 0 σ H) (hl:∀ i σ H,Pv i σ H->SqL K H a xs)
  (hs:∀ i x σ H p,xs[i]? = some x->Pv i σ H->H p=none->g (.ref p) σ (upd H p (.tup [.int i,x])) λσ2 H2=>tb { D with nx:=Pv (i+1),ct:=Pv (i+1),bk:=D.nx } σ2 H2) (hd:∀ σ H,Pv xs.length σ H->D.nx σ H) :
  ∃ W:Nat->Nat->St->Hp->Prop,(∃ m,W 0 m σ H)/\∀ i m σ H,W i m σ H ->
   ((Ite K a).stop i H/\D.nx σ H)\/((Ite K a).go i H/\∃ N:St->Hp->Prop,(∀ σ' H',N σ' H'->∃ m',m' < m/\W (i+1) m' σ' H')/\∀ x H',(Ite K a).yld i H x H'->g x σ H' λσ2 H2=>tb { D with nx:=N,ct:=N,bk:=D.nx } σ2 H2):=by
 refine ⟨λi m σ H=>m+i=xs.length/\Pv i σ H,⟨xs.length,Nat.add_zero _,h0⟩,?_⟩;rintro i m σ H ⟨em,p⟩;have q:=hl i σ H p;cases m with
 | zero=>
  have e:i=xs.length:=by lia
  subst e;exact .inl ⟨⟨xs,q,NH _⟩,hd σ H p⟩
 | succ m=>
  have hlt:i<xs.length:=by lia
  refine .inr ⟨⟨xs,xs[i],q,NG hlt⟩,Pv (i+1),λσ' H' p'=>⟨m,by lia,by lia,p'⟩,λx H' y=>?_⟩;obtain ⟨t,v,hn,hv,e1,e2⟩:=y;rw [e1,e2];exact hs i v σ H t (hv xs q) p hn
end L2
namespace LG
open PySem L2
theorem uT {zs ms:List Str} (hp:ms.Perm (bI [] zs)) {z:Str}:z∈ms↔z∈zs:=by
 rw [hp.mem_iff,gf];simp
theorem Ic {zs ms:List Str} (hp:ms.Perm (bI [] zs)):ms.length<=zs.length:=by
 rw [hp.length_eq];exact kW zs
theorem EN {zs ms:List Str} (hp:ms.Perm (bI [] zs)) (h64:zs.length<64) (hz:∀ z∈zs,∃ ws,jV 12 z ws):kE (ms.map λz=>Txt.split z " "):=by
 have:=Ic hp;refine ⟨by rw [NE];lia,λws hws=>?_⟩;obtain ⟨z,hz',rfl⟩:=NJ.mp hws;obtain ⟨ws,hln⟩:=hz z ((uT hp).mp hz');rw [hln.split];exact ⟨hln.pos,hln.le,λw hw=>⟨(hln.wd w hw).word,NM (hln.wd w hw).len (by decide),(hln.wd w hw).ok⟩⟩
section
variable {s l:Int}{zs ms:List Str}{g:List (List Str)}
theorem qW {ms' zs':List Str} (hp:ms.Perm (bI [] zs)) (hu:UpS ms) (hp':ms'.Perm (bI [] zs')) (hu':UpS ms') (h:∀ z,z∈zs'↔z∈zs):ms' = ms:=Ec hp' hp hu' hu h
end
end LG
namespace L2
open PySem PySem.Spec PyProof.Rows PySem.W
section
variable {X:Cx}{pins:List (Addr×Obj)}{σ:St}{H:Hp}{s:Shared}
def Ce (K:PySem.W.Frag) (S:PyData->Prop):List V->Hp->VK->Prop:=λvs H Q=>∃ (x y:V) (d e:PyData),vs=[x,y]/\Den K H x d/\Den K H y e/\S d/\S e/\d.depth<=100/\e.depth<=100/\∀ p,H p=none->Q (if ltv e d=true then y else x) (upd H p (.tup [x,y]))
theorem BL {k:Nat}{I S l:Addr}{Sd:PyData->Prop}{xs:List V}{ds:List PyData}{kw:List (Str×Value)}{R:Result->Shared->Prop} (o:mI Sd) (hr:cn k X.A) (hc:X.calm=true)
  (hlI:l≠I) (hSI:S≠I) (hq:SqT X.K H l xs) (dn:aB X.K H xs ds) (hS:∀ d∈ds,Sd d/\d.depth<=100) (hR:∀ v u s',xs[bb ds]? = some v->Inv X pins σ H s'->RelV v u->R (.ok (.ret u)) s') :
  ∀ (r:List PyData) (j i:Nat) (b:V) (db:PyData) (s:Shared) (ub:Value) (c:Nat),r=ds.drop j->j<=ds.length->xs[i]? = some b->Den X.K H b db->Sd db->cK db i j r=bb ds->RelV b ub->Inv X pins σ H s->bY X pins H I->bY X pins H S->s.heap.get? S=some (seqObj "list" #[ub,ub] c)->s.heap.IsTupleIter I l j ->
   codeAny (model X.prog X.w) X.A (.builtin "min.loop" ⟨[.ref I,.none,.ref S],kw⟩) R s:=by
 have eN:(toString "min" ++ toString ".loop" : String) = "min.loop" :=by decide
 have hxd:xs.length=ds.length:=dn.length;intro r
 induction r with
 | nil=>
  intro j i b db s ub c hr' hj hi hdb sdb hlg rb Iv fI fS gS hit;obtain ⟨its,rv,pl,_⟩:=Iv.tuple hq;have hlen:=rv.length;have hjl:ds.length<=j:=Pb.mp hr'.symm;have W:=Walks.tuple (prog:=X.prog) (w:=X.w) (A:=X.A.in1) (show X.A.in1.handled=none from Iv.ok.hd hc) I l hlI its.toArray;refine codeAny_builtin PySem.F.entry_min_loop ?_;rw [Around.under_plainId PySem.F.plain_min_loop _];show wpAny _ X.A.in1 (seqItems? (.ref S) >>= _) _ _ _;refine wpAny_bind (wpAny_seqItems gS rfl ?_);show wpAny _ X.A.in1 (tryCatch (pyNext (.ref I)) _ >>= _) _ _ _;refine wpAny_bind (wpAny_tryCatch (W.done _ _ _ ⟨by rw [NO,show its.length=j by lia];exact hit,pl⟩ λh' tk' hk'=>?_));have gS':=hk' S _ (by simpa using hSI) gS;have sb:=Heap.SameBut.update h' S (Obj.mapSeq λ_=>(#[]:Array Value));show wpAny _ X.A.in1 (updateSeq S (λ_=>#[]) >>= _) _ _ _;refine wpAny_bind (wpAny_updateSeq gS' rfl (wpAny_bind (wpAny_letGo (wpAny_pure ?_))));have I1:Inv X pins σ H { s with heap:=h',toks:=tk' }:=Iv.bz (wr:=[I]) (λc hc=>by rw [show c=I by simpa using hc];exact fI) λc o hc e=>hk' c o hc e;have hi':i=bb ds:=hlg;rw [hi'] at hi;exact hR b ub _ hi (I1.bz (t':=tk') (wr:=[S]) (λc hc=>by rw [show c=S by simpa using hc];exact fS) λc o hc e=>(sb.2 c (by simpa using hc)).trans e) rb
 | cons d r ih=>
  intro j i b db s ub c hr' hj hi hdb sdb hlg rb Iv fI fS gS hit;obtain ⟨its,rv,pl,_⟩:=Iv.tuple hq;have hlen:=rv.length;have hjl:j<ds.length:=by
   rcases Oi j ds.length with z | z
   ·exact z
   ·rw [Ox z] at hr';cases hr'
  have hdr:=hr';rw [Of hjl] at hdr;injection hdr with e1 e2;have hdj:ds[j]? = some d:=by rw [NG hjl,<-e1]
  have hxj:xs[j]? = some xs[j]:=NG (by lia);obtain ⟨d',hd',hdx⟩:=dn.get hxj;rw [hdj] at hd';cases hd';have sd:=hS d (NF hdj);have W:=Walks.tuple (prog:=X.prog) (w:=X.w) (A:=X.A.in1) (show X.A.in1.handled=none from Iv.ok.hd hc) I l hlI its.toArray;refine codeAny_builtin PySem.F.entry_min_loop ?_;rw [Around.under_plainId PySem.F.plain_min_loop _];show wpAny _ X.A.in1 (seqItems? (.ref S) >>= _) _ _ _;refine wpAny_bind (wpAny_seqItems gS rfl ?_);show wpAny _ X.A.in1 (tryCatch (pyNext (.ref I)) _ >>= _) _ _ _;refine wpAny_bind (wpAny_tryCatch (W.item j _ _ _ (by rw [NO];lia) ⟨hit,pl⟩ λv h' tk' hP mG hk'=>?_));obtain ⟨u,hu,ru⟩:=rv.get hxj;have hv:v=u:=by
   have:its[j]? = some v:=by simpa using hP
   rw [hu] at this;cases this;rfl
  subst hv;have gS':=hk' S _ (by simpa using hSI) gS;have I1:Inv X pins σ H { s with heap:=h',toks:=tk' }:=Iv.bz (wr:=[I]) (λc hc=>by rw [show c=I by simpa using hc];exact fI) λc o hc e=>hk' c o hc e;obtain ⟨as1,rd1⟩:=I1.reads hdx ru;obtain ⟨as2,rd2⟩:=I1.reads hdb rb;have hu2:X.A.in1.units+d.depth<cLine:=by show X.A.units+1+d.depth<cLine;have:=hr.un;have:=sd.2;lia
  show wpAny _ X.A.in1 (tryCatch (holding [v,v] (richCompare .Lt v ub >>= _)) _ >>= _) _ _ _;refine wpAny_bind (wpAny_tryCatch (wpAny_holding (wpAny_bind (ji 100 d db sd.2 (o.cmp d db sd.1 sdb) X.A.in1 _ v ub as1 as2 rd1 rd2 hdx.lay hdb.lay hu2 _ _ _ _ ?_))));refine wpAny_bind (wpAny_holding (wpAny_truthy_bool ?_));refine wpAny_bind (wpAny_letGo (wpAny_pure ?_));unfold cK at hlg;cases hb':ltv d db with
  | true=>
   rw [hb',if_pos rfl] at hlg;have sb:=Heap.SameBut.update h' S (Obj.mapSeq λ_=>#[v,v]);obtain ⟨c2,hc2⟩:∃ c2,(h'.update S (Obj.mapSeq λ_=>#[v,v])).get? S=some (seqObj "list" #[v,v] c2):=⟨_,get?_update_seq gS' λ_=>#[v,v]⟩;simp only [if_true];refine wpAny_bind (wpAny_updateSeq gS' rfl (wpAny_bind (wpAny_letGo ?_)));rw [eN];have I3:Inv X pins σ H { s with heap:=h'.update S (Obj.mapSeq λ_=>#[v,v]),toks:=tk' }:=Inv.bz (s:={ s with heap:=h',toks:=tk' }) I1 (t':=tk') (wr:=[S]) (λc hc=>by rw [show c=S by simpa using hc];exact fS) λc o hc e=>(sb.2 c (by simpa using hc)).trans e;obtain ⟨oI,eI,cI,dI⟩:=mG.1;exact wpAny_pure ⟨plainId_quiet PySem.F.plain_min_loop _,ih (j+1) j xs[j] d _ v c2 e2 hjl hxj hdx sd.1 hlg ru I3 fI fS hc2 ⟨oI,(sb.2 I hSI.symm).trans eI,cI,dI⟩⟩
  | false=>
   rw [hb',if_neg (by decide)] at hlg;simp only [Oo,if_false];refine wpAny_bind (wpAny_letGo ?_);rw [eN];exact wpAny_pure ⟨plainId_quiet PySem.F.plain_min_loop _,ih (j+1) i b db _ ub c e2 hjl hi hdb sdb hlg rb I1 fI fS gS' mG.1⟩
theorem FU {l:Addr} (I:Inv X pins σ H s) (hl:l<s.heap.objs.size) (h1:Heap) (e1:s.heap.push { cls:=.type "tuple_iterator",data:=.fields #[.ref l,.int 0 0] }=h1) :
  (h1.push (seqObj "list" #[] 0)).get? s.heap.objs.size=some { cls:=.type "tuple_iterator",data:=.fields #[.ref l,.int 0 0] }/\(h1.push (seqObj "list" #[] 0)).get? h1.objs.size=some (seqObj "list" #[] 0) /\
   (∀ b o,s.heap.get? b=some o->(h1.push (seqObj "list" #[] 0)).get? b=some o)/\Inv X pins σ H { s with heap:=h1.push (seqObj "list" #[] 0) }/\bY X pins H s.heap.objs.size/\bY X pins H h1.objs.size/\l≠s.heap.objs.size/\h1.objs.size≠s.heap.objs.size:=by
 have size:h1.objs.size=s.heap.objs.size+1:=by rw [<-e1];exact size_push' s.heap _
 have tL:∀ b o,s.heap.get? b=some o->h1.get? b=some o:=λb o e=>by rw [<-e1];exact Heap.get?_push_of_some _ e
 have first:h1.get? s.heap.objs.size=some { cls:=.type "tuple_iterator",data:=.fields #[.ref l,.int 0 0] }:=by rw [<-e1];exact Heap.get?_push_size _ rfl
 have up:s.heap.objs.size<=h1.objs.size:=by lia
 have kp:∀ b o,s.heap.get? b=some o->(h1.push (seqObj "list" #[] 0)).get? b=some o:=λb o e=>Heap.get?_push_of_some _ (tL b o e);exact ⟨Heap.get?_push_of_some _ first,Heap.get?_push_size _ rfl,kp,I.kept (t':=s.toks) kp,I.mR (NH _) (I.hok.fresh (NH _)),I.mR up (I.hok.fresh up),N3 hl,by lia⟩
theorem yq {k:Nat}{Sd:PyData->Prop} (o:mI Sd) (hc:X.calm=true) (hr:cn k X.A):fZ X (.builtin "min") (Ce X.K Sd):=by
 have eN:(toString "min" ++ toString ".loop" : String) = "min.loop" :=by decide
 intro pins s σ H vs us Q Iv rx h;obtain ⟨x,y,dx,dy,rfl,hx,hy,sx,sy,ex,ey,q⟩:=h;obtain ⟨u,v,rfl,ru,rv2⟩:=vals2 rx;refine call_function_tree PySem.F.kind_min PySem.F.plain_min PySem.F.entry_min (PySem.F.args_min2 _ _) ?_;show wpAny _ X.A.in1 (Builtin.Builtins.bindParams "min" ["key","default"] 0 ⟨[],[]⟩ >>= _) _ _ s;refine wpAny_bind (wpAny_of_eq (show Builtin.Builtins.bindParams "min" ["key","default"] 0 ⟨[],[]⟩=pure [none,none] from rfl) ?_);show wpAny _ X.A.in1 (newTuple [u,v] >>= _) _ _ s;refine wpAny_bind (wpAny_newObj_type ?_);have hf:H s.heap.objs.size=none:=Iv.hok.fresh (NH _);have IT:Inv X pins σ (upd H s.heap.objs.size (.tup [x,y])) { s with heap:=s.heap.push { cls:=.type "tuple",data:=.seq #[u,v] } }:=Iv.laid (t':=s.toks) (λb u e=>Heap.get?_push_of_some _ e) (NH _) ⟨by show 2<=sizeLine;decide,[u,v],.cons ru (.cons rv2 .nil),⟨_,Heap.get?_push_size _ rfl,rfl,_,rfl⟩⟩;have hqT:SqT X.K (upd H s.heap.objs.size (.tup [x,y])) s.heap.objs.size [x,y]:=.of ab;have dn:aB X.K (upd H s.heap.objs.size (.tup [x,y])) [x,y] [dx,dy]:=.cons (hx.same (ae.new hf)) (.cons (hy.same (ae.new hf)) .nil);have qq:=q s.heap.objs.size hf;have hlt:s.heap.objs.size<(s.heap.push { cls:=.type "tuple",data:=.seq #[u,v] }).objs.size:=by rw [size_push'];exact O1 _
 clear q hx hy Iv;generalize upd H s.heap.objs.size (.tup [x,y])=H' at IT hqT dn qq;generalize s.heap.objs.size=l at hqT hlt ⊢;generalize s.heap.push { cls:=.type "tuple",data:=.seq #[u,v] }=hp at IT hlt;obtain ⟨its,rv,pl,_⟩:=IT.tuple hqT;have hlen:2=its.length:=rv.length;refine wpAny_bind (wpAny_pyIter_tuple pl ?_);refine wpAny_bind (wpAny_newList ?_ (NW _):wpAny _ _ _ _ _ _);rw [eN];have two:=FU (X:=X) (l:=l) IT hlt _ rfl;generalize (hp.push { cls:=.type "tuple_iterator",data:=.fields #[.ref l,.int 0 0] }).push (seqObj "list" #[] 0)=h0 at two ⊢;generalize (hp.push { cls:=.type "tuple_iterator",data:=.fields #[.ref l,.int 0 0] }).objs.size=Sa at two ⊢;generalize hp.objs.size=Ia at two ⊢;obtain ⟨gI,gS,hkp,I0,fI,fS,hlI,hSI⟩:=two;have pl0:h0.IsTuple l its.toArray:=let ⟨o,e,r⟩:=pl;⟨o,hkp l o e,r⟩;refine wpAny_pure ⟨plainId_quiet PySem.F.plain_min_loop _,?_⟩;have W:=Walks.tuple (prog:=X.prog) (w:=X.w) (A:=X.A.in1) (show X.A.in1.handled=none from I0.ok.hd hc) Ia l hlI its.toArray;refine codeAny_builtin PySem.F.entry_min_loop ?_;rw [Around.under_plainId PySem.F.plain_min_loop _];show wpAny _ X.A.in1 (seqItems? (.ref Sa) >>= _) _ _ _;refine wpAny_bind (wpAny_seqItems gS rfl ?_);show wpAny _ X.A.in1 (tryCatch (pyNext (.ref Ia)) _ >>= _) _ _ _;refine wpAny_bind (wpAny_tryCatch (W.item 0 _ _ _ (by rw [NO];lia) ⟨⟨_,gI,rfl,rfl⟩,pl0⟩ λv h' tk' hP mG hk'=>?_));obtain ⟨u0,hu0,ru0⟩:=rv.get (show [x,y][0]? = some x from rfl);have hv:v=u0:=by
  have:its[0]? = some v:=by simpa using hP
  rw [hu0] at this;cases this;rfl
 subst hv;have gS':=hk' Sa _ (by simpa using hSI) gS;have I1:Inv X pins σ H' { s with heap:=h',toks:=tk' }:=Inv.bz (s:={ s with heap:=h0 }) (t':=tk') (wr:=[Ia]) I0 (λc hc=>by rw [show c=Ia by simpa using hc];exact fI) λc o hc e=>hk' c o hc e;have sb:=Heap.SameBut.update h' Sa (Obj.mapSeq λ_=>#[v,v]);obtain ⟨c2,hc2⟩:∃ c2,(h'.update Sa (Obj.mapSeq λ_=>#[v,v])).get? Sa=some (seqObj "list" #[v,v] c2):=⟨_,get?_update_seq gS' λ_=>#[v,v]⟩;show wpAny _ X.A.in1 (updateSeq Sa (λ_=>#[v,v]) >>= _) _ _ _;refine wpAny_bind (wpAny_updateSeq gS' rfl ?_);rw [eN];have I3:Inv X pins σ H' { s with heap:=h'.update Sa (Obj.mapSeq λ_=>#[v,v]),toks:=tk' }:=Inv.bz (s:={ s with heap:=h',toks:=tk' }) I1 (t':=tk') (wr:=[Sa]) (λc hc=>by rw [show c=Sa by simpa using hc];exact fS) λc o hc e=>(sb.2 c (by simpa using hc)).trans e;obtain ⟨oI,eI,cI,dI⟩:=mG.1;refine wpAny_pure ⟨plainId_quiet PySem.F.plain_min_loop _,BL (xs:=[x,y]) (ds:=[dx,dy]) o hr hc hlI hSI hqT dn (λd hd=>?_) (λw' u' s' hx I' r'=>?_) [dy] 1 0 x dx _ v c2 rfl (OS 1) rfl (by cases dn;assumption) sx rfl ru0 I3 fI fS hc2 ⟨oI,(sb.2 Ia hSI.symm).trans eI,cI,dI⟩⟩
 ·rcases NZ.mp hd with e | hd
  ·rw [e];exact ⟨sx,ex⟩
  ·rw [NQ.mp hd];exact ⟨sy,ey⟩
 ·refine ⟨w',H',I',r',?_⟩;have e:bb [dx,dy]=if ltv dy dx=true then 1 else 0:=rfl;have:(if ltv dy dx=true then y else x)=w':=by
   rw [e] at hx;cases hb:ltv dy dx with
   | true=>rw [hb] at hx;exact Option.some.inj hx
   | false=>rw [hb] at hx;exact Option.some.inj hx
  rw [<-this];exact qq
def z9:List V->Hp->VK->Prop:=λxs H Q=>∃ p kvs,xs=[.ref p]/\Rd H p (.dK kvs)/\Q (.int kvs.length) H
theorem oK:fZ X (.builtin "len") z9:=by
 intro pins s σ H xs us Q I r h;obtain ⟨p,kvs,rfl,e,q⟩:=h;obtain ⟨u,rfl,ru⟩:=vals1 r;obtain rfl:u=Value.ref p:=ru;exact Kg I e λt s' I'=>⟨.int kvs.length,H,I',⟨_,rfl⟩,q⟩
end
theorem A1 {g:TG}{tt:TT}{te:TE}{D:Addr}{Q:VK}{σ:St}{H:Hp}{a:Addr}{o:Obj}{kvs:List (Key×V)} (Pv:Nat->List V->St->Hp->Prop) (hD:H D=some (.lst [])) (h0:Pv 0 [] σ H) (hl:∀ i acc σ H,H D=some (.lst acc)->Pv i acc σ H->H a=some (.frz o (.dK kvs)))
  (hs:∀ i k v acc σ H,kvs[i]? = some (k,v)->H D=some (.lst acc)->Pv i acc σ H->g (kV k) σ H λσ2 H2=>tt σ2 H2 λb H3=>if b=true then te σ2 H3 λv H4=>∃ ys,H4 D=some (.lst ys)/\ys.length<sizeLine/\CN D (Pv (i+1)) σ2 (upd H4 D (.lst (ys++[v]))) else CN D (Pv (i+1)) σ2 H3)
  (hd:∀ acc σ H,H D=some (.lst acc)->Pv kvs.length acc σ H->Q (.ref D) H):ma g tt te (Itk a o kvs) D Q σ H:=by
 refine iV kvs.length Pv hD h0 (λi acc σ H hi cf p=>⟨hi,hl i acc σ H cf p⟩) (λacc σ H cf p=>⟨NH _,hl _ acc σ H cf p⟩) (λi acc σ H x H' hi cf p y=>?_) hd;obtain ⟨e,y⟩:=y;subst e;have ek:kvs[i]? = some (kvs[i].1,kvs[i].2):=NG hi;rw [ek] at y;have y':kV kvs[i].1=x:=Option.some.inj y;rw [<-y'];exact hs i _ _ acc σ _ ek cf p
end L2
namespace LG
open PySem L2
def nU (wss:List (List Str)) (s l:Int) (n:Nat):Option Nat->Prop
 | none=>∀ q,q<n->cg wss q s l=false
 | some p=>p<n/\cg wss p s l=true/\∀ q,q<n->cg wss q s l=true->(uAt wss p).length<=(uAt wss q).length/\(q<p->(uAt wss p).length<(uAt wss q).length)
section
variable {wss:List (List Str)}{s l:Int}{n:Nat}
theorem vU {o o':Option Nat} (h:nU wss s l n o) (h':nU wss s l n o'):o=o':=by
 cases o with
 | none=>
  cases o' with
  | none=>rfl
  | some p=>have:=h p h'.1;rw [h'.2.1] at this;cases this
 | some p=>
  cases o' with
  | none=>have:=h' p h.1;rw [h.2.1] at this;cases this
  | some q=>
   have a:=h.2.2 q h'.1 h'.2.1;have b:=h'.2.2 p h.1 h.2.1;rcases Nat.lt_trichotomy p q with e | e | e
   ·have:=b.2 e;lia
   ·rw [e]
   ·have:=a.2 e;lia
theorem BR:nU wss s l n (plc wss n s l):=by
 unfold plc;by_cases he:eA wss n s l=[]
 ·rw [if_pos he];intro q hq;cases hf:cg wss q s l with
  | false=>rfl
  | true=>
   have:q∈eA wss n s l:=by unfold eA;exact Oc.mpr ⟨Oh.mpr hq,hf⟩
   rw [he] at this;cases this
 ·rw [if_neg he];have srt:(eA wss n s l).Pairwise (· < ·):=by unfold eA;exact List.pairwise_lt_range.sublist Pu
  have yA:∀ q,q<n->cg wss q s l=true->q∈eA wss n s l:=λq hq hf=>by unfold eA;exact Oc.mpr ⟨Oh.mpr hq,hf⟩
  have hin:∀ q∈eA wss n s l,q<n/\cg wss q s l=true:=λq hq=>p9 hq;generalize eA wss n s l=ps at he srt yA hin;obtain ⟨d,h1,h2,h3⟩:=jv (all:=ps.map λp=>PyData.int (uAt wss p).length) (Sh.ok .int) (λd hd=>by
   obtain ⟨p,_,rfl⟩:=NJ.mp hd;exact ⟨_,rfl⟩) (λe=>he (Ol.mp e))
  generalize bb (ps.map λp=>PyData.int (uAt wss p).length)=m at h1 h3;rw [NK] at h1;cases hm:ps[m]? with
  | none=>rw [hm] at h1;cases h1
  | some p=>
   rw [hm] at h1;have ed:PyData.int ((uAt wss p).length:Int)=d:=Option.some.inj h1;have egd:ps.getD m 0=p:=by rw [NU,hm];rfl
   rw [egd];have hp:=hin p (NF hm);refine ⟨hp.1,hp.2,λq hq hf=>?_⟩;obtain ⟨i,hi⟩:=OR (yA q hq hf);have hiq:(ps.map λp=>PyData.int (uAt wss p).length)[i]? = some (.int (uAt wss q).length):=by rw [NK,hi];rfl
   have a:=h2 i _ hiq;rw [<-ed] at a;have a':=of_decide_eq_false (show decide (((uAt wss q).length:Int)<(uAt wss p).length)=false from a);refine ⟨by lia,λhlt=>?_⟩;have him:i<m:=by
    rcases Oi i m with z | z
    ·exact z
    ·obtain ⟨hi',ei⟩:=OD.mp hi;obtain ⟨hm',em⟩:=OD.mp hm;rcases Oi m i with y | y
     ·have:=Pp.mp srt m i hm' hi' y;rw [ei,em] at this;lia
     ·have:i=m:=by lia
      subst this;rw [hi] at hm;have:=Option.some.inj hm;lia
   have b:=h3 i _ him hiq;rw [<-ed] at b;have b':=of_decide_eq_true (show decide (((uAt wss p).length:Int)<(uAt wss q).length)=true from b);lia
theorem Fp {o:Option Nat} (h:nU wss s l n o) (hf:cg wss n s l=false):nU wss s l (n+1) o:=by
 cases o with
 | none=>
  intro q hq;rcases OT.mp hq with e | e
  ·exact h q e
  ·rw [e];exact hf
 | some p=>
  refine ⟨O8 h.1,h.2.1,λq hq hq'=>?_⟩;rcases OT.mp hq with e | e
  ·exact h.2.2 q e hq'
  ·rw [e,hf] at hq';cases hq'
theorem zq (h:nU wss s l n none) (hf:cg wss n s l=true):nU wss s l (n+1) (some n):=by
 refine ⟨O1 _,hf,λq hq hq'=>?_⟩;rcases OT.mp hq with e | e
 ·rw [h q e] at hq';cases hq'
 ·rw [e];exact ⟨NH _,λz=>absurd z (Oy _)⟩
theorem BK {p:Nat} (h:nU wss s l n (some p)) (hf:cg wss n s l=true) (hl:(uAt wss n).length<(uAt wss p).length):nU wss s l (n+1) (some n):=by
 refine ⟨O1 _,hf,λq hq hq'=>?_⟩;rcases OT.mp hq with e | e
 ·have:=h.2.2 q e hq';exact ⟨by lia,λ_=>by lia⟩
 ·rw [e];exact ⟨NH _,λz=>absurd z (Oy _)⟩
theorem Ba {p:Nat} (h:nU wss s l n (some p)) (hl:¬ (uAt wss n).length<(uAt wss p).length):nU wss s l (n+1) (some p):=by
 refine ⟨O8 h.1,h.2.1,λq hq hq'=>?_⟩;rcases OT.mp hq with e | e
 ·exact h.2.2 q e hq'
 ·rw [e];have:=h.1;exact ⟨by lia,λz=>by lia⟩
end
theorem p6 (w:Str):∀ (zs us:List Str),bI us (zs++[w])=if w∈bI us zs then bI us zs else bI us zs++[w]
 | [],us=>rfl
 | z::zs,us=>by
  show bI _ (zs++[w])=if w∈bI _ zs then bI _ zs else bI _ zs++[w];exact p6 w zs _
def fO (zs:List Str) (w:Str):Nat:=zs.countP λz=>decide (z=w)
def cntK (zs:List Str):List (Key×V):=(bI [] zs).map λw=>((Sum.inr w:Key),V.int (fO zs w))
theorem fA {w:Str}{zs:List Str}:w∈bI [] zs↔w∈zs:=by rw [gf];simp
theorem Br (zs:List Str) (w x:Str):fO (zs++[w]) x=if w=x then fO zs x+1 else fO zs x:=by
 unfold fO;rw [List.countP_append];by_cases h:w=x
 ·rw [if_pos h];simp [h]
 ·rw [if_neg h];simp [h]
theorem AK {zs:List Str}{w:Str} (h:w∉zs):fO zs w=0:=by
 unfold fO;rw [List.countP_eq_zero];intro z hz e;rw [of_decide_eq_true e] at hz;exact h hz
theorem Ac (zs:List Str) (w:Str):(dY (cntK zs) (Sum.inr w)).getD (.int 0) = .int (fO zs w):=by
 unfold dY cntK;rw [List.find?_map];by_cases h:w∈zs
 ·obtain ⟨x,hx⟩:∃ x,(bI [] zs).find? ((λkv:Key×V=>decide (kv.1=Sum.inr w)) ∘ λw=>((Sum.inr w:Key),V.int (fO zs w)))=some x:=by
   cases e:(bI [] zs).find? ((λkv:Key×V=>decide (kv.1=Sum.inr w)) ∘ λw=>((Sum.inr w:Key),V.int (fO zs w))) with
   | some x=>exact ⟨x,rfl⟩
   | none=>
    have:=List.find?_eq_none.mp e w (fA.mpr h);simp at this
  have hxw:=List.find?_some hx;have:x=w:=Sum.inr.inj (of_decide_eq_true hxw);rw [hx,this];rfl
 ·have:(bI [] zs).find? ((λkv:Key×V=>decide (kv.1=Sum.inr w)) ∘ λw=>((Sum.inr w:Key),V.int (fO zs w)))=none:=by
   refine List.find?_eq_none.mpr λx hx e=>?_;have:x=w:=Sum.inr.inj (of_decide_eq_true e);rw [this] at hx;exact h (fA.mp hx)
  rw [this,AK h];rfl
theorem Gm (zs:List Str) (w:Str):putK (cntK zs) (Sum.inr w) (.int ((fO zs w:Int)+1))=cntK (zs++[w]):=by
 have key:∀ x,fO (zs++[w]) x=if w=x then fO zs x+1 else fO zs x:=Br zs w;have any:((cntK zs).any λkv=>decide (kv.1=(Sum.inr w:Key)))=true↔w∈bI [] zs:=by
  unfold cntK;rw [List.any_map,OA];constructor
  ·rintro ⟨x,hx,e⟩;have:x=w:=Sum.inr.inj (of_decide_eq_true e);rw [<-this];exact hx
  ·exact λh=>⟨w,h,decide_eq_true rfl⟩
 unfold putK;by_cases h:w∈bI [] zs
 ·rw [if_pos (any.mpr h)];unfold cntK;rw [p6,if_pos h,Ow];refine Og λx hx=>?_;show (if (Sum.inr x:Key)=Sum.inr w then ((Sum.inr x:Key),V.int ((fO zs w:Int)+1)) else ((Sum.inr x:Key),V.int (fO zs x)))=((Sum.inr x:Key),V.int (fO (zs++[w]) x));rw [key x];by_cases e:w=x
  ·rw [if_pos (by rw [e]),if_pos e,e];rfl
  ·rw [if_neg (λz=>e (Sum.inr.inj z).symm),if_neg e]
 ·rw [if_neg (λz=>h (any.mp z))];unfold cntK;rw [p6,if_neg h,NS]
  congr 1
  ·refine Og λx hx=>?_;have e:¬ w=x:=λe=>h (by rw [e];exact hx);rw [key x,if_neg e]
  ·show [((Sum.inr w:Key),V.int ((fO zs w:Int)+1))]=[((Sum.inr w:Key),V.int (fO (zs++[w]) w))];rw [key w,if_pos rfl];rfl
def uR (zs:List Str):List Int:=(bI [] zs).map λw=>(fO zs w:Int)
theorem Ey {wss:List (List Str)}{p:Nat}{s l m:Int} (hm:m∈uR (wAt wss p)) (hle:∀ x∈uR (wAt wss p),m<=x):cg wss p s l=(decide ((1:Int)<((uAt wss p).length:Int)) && (decide (((uAt wss p).length:Int)<=s) && decide (l<=m))):=by
 have e1:decide (2<=((uAt wss p).length:Int))=decide ((1:Int)<((uAt wss p).length:Int)):=by
  rw [decide_eq_decide];lia
 have e2:((uAt wss p).all λw=>decide (l<=((wAt wss p).countP λz=>decide (z=w):Nat)))=decide (l<=m):=by
  rw [N7,Od,decide_eq_true_iff];constructor
  ·intro h;obtain ⟨w,hw,rfl⟩:=NJ.mp hm;exact of_decide_eq_true (h w hw)
  ·intro h w hw;have:=hle (fO (wAt wss p) w) (NJ.mpr ⟨w,hw,rfl⟩);exact decide_eq_true (Int.le_trans h this)
 unfold cg;rw [e1,e2]
theorem vA {β:Type}{wss:List (List Str)}{p:Nat}{ms:List Str} (hp:ms.Perm (bI [] (wAt wss p))) (f:List (List Str)->List β):(ms.flatMap λw=>f (wss.filter λws=>decide (ws.getD p Str.empty=w))).Perm ((byW wss p).flatMap f):=by
 obtain ⟨ks,nd,hk,e⟩:=CL wss p;rw [e,List.flatMap_map];have a9:(ms.map (Sum.inr:Str->Key)).Perm ks:=by
  refine (O4 ?_ nd).mpr λk=>?_
  ·rw [List.nodup_iff_pairwise_ne,Oq];exact (hp.nodup_iff.mpr (dC Pm)).imp λh z=>h (Sum.inr.inj z)
  ·rw [hk,NJ];constructor
   ·rintro ⟨w,hw,rfl⟩;obtain ⟨ws,h1,h2⟩:=NJ.mp (fA.mp (hp.mem_iff.mp hw));exact ⟨ws,h1,by rw [<-h2]⟩
   ·rintro ⟨ws,h1,rfl⟩;exact ⟨_,hp.mem_iff.mpr (fA.mpr (NJ.mpr ⟨ws,h1,rfl⟩)),rfl⟩
 have:=a9.flatMap_right (λk=>f (wss.filter λws=>decide ((Sum.inr (ws.getD p Str.empty):Key)=k)));rw [List.flatMap_map] at this;refine List.Perm.trans (List.Perm.of_eq ?_) this
 congr 1
 funext w
 congr 2
 funext ws
 rw [decide_eq_decide];exact ⟨λz=>by rw [z],λz=>Sum.inr.inj z⟩
theorem zJ {α β:Type} (P:α->Bool) (g:α->List β):∀ l:List α,(l.flatMap λm=>if P m=true then g m else [])=(l.filter P).flatMap g
 | []=>rfl
 | a::l=>by
  rw [OO,zJ P g l];by_cases h:P a=true
  ·rw [if_pos h,OH h,OO]
  ·rw [if_neg h,OI h];rfl
def ofL (rss:List (List Str)) (m:Nat):List (List Str):=rss.filter λws=>decide (ws.length=m)
theorem yX {β:Type}{rss:List (List Str)} (h:kE rss) (f:List (List Str)->List β):((List.range 12).flatMap λm=>if !(ofL rss (m+1)).isEmpty then f (ofL rss (m+1)) else []).Perm ((byL rss).flatMap f):=by
 obtain ⟨ks,nd,hk,e⟩:=Iy rss;rw [zJ (λm=>!(ofL rss (m+1)).isEmpty) (λm=>f (ofL rss (m+1))),e,List.flatMap_map];have a9:(((List.range 12).filter λm=>!(ofL rss (m+1)).isEmpty).map λm=>(Sum.inl ((m+1:Nat):Int):Key)).Perm ks:=by
  refine (O4 ?_ nd).mpr λk=>?_
  ·rw [List.nodup_iff_pairwise_ne,Oq];exact (List.nodup_range.sublist Pu).imp λh z=>h (by have:=Sum.inl.inj z;lia)
  ·rw [hk,NJ];constructor
   ·rintro ⟨m,hm,rfl⟩;have h2:=(Oc.mp hm).2;have hne:ofL rss (m+1)≠[]:=λz=>by rw [z] at h2;cases h2
    obtain ⟨ws,hw⟩:=Pr _ hne;obtain ⟨h1,h3⟩:=Oc.mp hw;exact ⟨ws,h1,by rw [of_decide_eq_true h3]⟩
   ·rintro ⟨ws,h1,rfl⟩;have:=h.2 ws h1;refine ⟨ws.length - 1,Oc.mpr ⟨Oh.mpr (by lia),?_⟩,by congr 2;lia⟩;have hin:ws∈ofL rss (ws.length - 1+1):=Oc.mpr ⟨h1,decide_eq_true (by lia)⟩;cases q:ofL rss (ws.length - 1+1) with
    | nil=>rw [q] at hin;cases hin
    | cons a b=>rfl
 have:=a9.flatMap_right (λk=>f (rss.filter λws=>decide ((Sum.inl (ws.length:Int):Key)=k)));rw [List.flatMap_map] at this;refine List.Perm.trans (List.Perm.of_eq ?_) this
 congr 1
 funext m
 unfold ofL
 congr 2
 funext ws
 rw [decide_eq_decide];exact ⟨λz=>by rw [z],λz=>by have:=Sum.inl.inj z;lia⟩
theorem Bw {zs ms rows:List Str}{m:Nat} (hp:ms.Perm (bI [] zs)) (hu:UpS ms) (hr:rows.Perm (bI [] (zs.filter λz=>decide ((Txt.split z " ").length=m)))) (hur:UpS rows):rows.map (λz=>Txt.split z " ")=ofL (ms.map λz=>Txt.split z " ") m:=by
 have nd:ms.Nodup:=hp.nodup_iff.mpr (dC Pm);have nd':rows.Nodup:=hr.nodup_iff.mpr (dC Pm);have e:rows=ms.filter λz=>decide ((Txt.split z " ").length=m):=by
  refine mr ((O4 nd' (nd.sublist Pu)).mpr λz=>?_) hur (hu.sublist Pu);rw [uT hr,Oc,Oc,uT hp]
 rw [e];unfold ofL;rw [List.filter_map];rfl
end LG
namespace K39
open PySem L2 LG
section
variable {P:Program}{w:World}{K:PySem.W.Frag}{mg:Str->Option Value}{base:Heap}{A:Ad}
def lk:Pt->Str
 | .word w=>eJ (bD w)
 | .hole k=>bq k
theorem tz {p:Pt} (hp:p.ok):(p.around<2->lk p=bq p.around)/\(2<=p.around->lk p ≠ "number" /\ lk p ≠ "name"):=by
 cases p with
 | word w=>
  show (bD w<2->eJ (bD w)=bq (bD w))/\(2<=bD w->eJ (bD w) ≠ "number" /\ eJ (bD w) ≠ "name");have h:=i0 w;generalize bD w=k at h ⊢;have:k=0\/k=1\/k=2:=by lia
  rcases this with rfl | rfl | rfl
  ·exact ⟨λ_=>rfl,λz=>absurd z (by decide)⟩
  ·exact ⟨λ_=>rfl,λz=>absurd z (by decide)⟩
  ·exact ⟨λz=>absurd z (by decide),λ_=>⟨by decide +kernel,by decide +kernel⟩⟩
 | hole k=>
  show (k<2->bq k=bq k)/\(2<=k->bq k ≠ "number" /\ bq k ≠ "name");have h:k<3:=hp;have:k=0\/k=1\/k=2:=by lia
  rcases this with rfl | rfl | rfl
  ·exact ⟨λ_=>rfl,λz=>absurd z (by decide)⟩
  ·exact ⟨λ_=>rfl,λz=>absurd z (by decide)⟩
  ·exact ⟨λz=>absurd z (by decide),λ_=>⟨by decide +kernel,by decide +kernel⟩⟩
theorem DR {p:Pt} (hp:p.ok):(lk p = "number" \/ lk p = "name")↔p.around<2:=by
 constructor
 ·intro h;rcases Oi p.around 2 with z | z
  ·exact z
  ·have:=(tz hp).2 z;exact absurd h (by rintro (e | e);exact this.1 e;exact this.2 e)
 ·intro h;rw [(tz hp).1 h];have:p.around=0\/p.around=1:=by lia
  rcases this with e | e
  ·rw [e];exact .inl rfl
  ·rw [e];exact .inr rfl
theorem FN {p0:Pt}{pr:List Pt} (h:((p0::pr).filter λp=>!decide (p=p0))=[]):kO (p0::pr)=p0:=by
 have:pr.all (λq=>decide (q=p0))=true:=Od.mpr λq hq=>by
  have:=OE.mp h q (NN _ hq);simpa using this
 show (if pr.all (λq=>decide (q=p0))=true then p0 else _)=p0;rw [if_pos this]
theorem Ai {p0:Pt}{pr:List Pt} (h:((p0::pr).filter λp=>!decide (p=p0))≠[]):kO (p0::pr)=if pr.all (λq=>decide (q.around=p0.around))=true then .hole p0.around else .hole 2:=by
 have:¬ pr.all (λq=>decide (q=p0))=true:=λz=>h (OE.mpr λq hq=>by
  rcases NZ.mp hq with e | e
  ·rw [e];simp
  ·have:=Od.mp z q e;simpa using this)
 show (if pr.all (λq=>decide (q=p0))=true then p0 else _)=_;rw [if_neg this]
theorem E8 {p0:Pt}{pr:List Pt} (ok:∀ p∈p0::pr,p.ok) (h1:((p0::pr).filter λp=>!decide (p=p0))≠[]) (h2:(((p0::pr).map lk).filter λk=>!decide (k=lk p0))=[]) (h3:lk p0 = "number" \/ lk p0 = "name"):kO (p0::pr) = .hole p0.around/\bq p0.around=lk p0:=by
 have ok0:=ok p0 (NT ..);have hlt:=(DR ok0).mp h3;have e0:=(tz ok0).1 hlt;refine ⟨?_,e0.symm⟩;rw [Ai h1,if_pos];refine Od.mpr λq hq=>decide_eq_true ?_;have okq:=ok q (NN _ hq);have eq:lk q=lk p0:=by
  have:=OE.mp h2 (lk q) (OM (NN _ hq));simpa using this
 have hq2:q.around<2:=(DR okq).mp (by rw [eq];exact h3);have:=(tz okq).1 hq2;exact oM (by lia) (by lia) (by rw [<-this,eq,e0])
theorem zY {p0:Pt}{pr:List Pt} (ok:∀ p∈p0::pr,p.ok) (h1:((p0::pr).filter λp=>!decide (p=p0))≠[]) (h2:¬ ((((p0::pr).map lk).filter λk=>!decide (k=lk p0))=[]/\(lk p0 = "number" \/ lk p0 = "name"))):kO (p0::pr) = .hole 2:=by
 have ok0:=ok p0 (NT ..);rw [Ai h1];by_cases ha:pr.all (λq=>decide (q.around=p0.around))=true
 ·rw [if_pos ha];have hge:¬ p0.around<2:=λhlt=>h2 ⟨OE.mpr λk hk=>by
   obtain ⟨q,hq,rfl⟩:=NJ.mp hk;have okq:=ok q hq;have eq:q.around=p0.around:=by
    rcases NZ.mp hq with e | e
    ·rw [e]
    ·exact of_decide_eq_true (Od.mp ha q e)
   have:lk q=lk p0:=by rw [(tz okq).1 (by rw [eq];exact hlt),(tz ok0).1 hlt,eq]
   simp [this],(DR ok0).mpr hlt⟩
  have h3:p0.around<3:=by
   cases p0 with
   | word w=>exact i0 w
   | hole k=>exact ok0
  have:p0.around=2:=by lia
  rw [this]
 ·rw [if_neg ha]
theorem Lo (x:Str):inV (V.str x) [V.str "number",V.str "name"]=(decide (x = "number") || decide (x = "name")):=by
 show (eqV (.str "number") (.str x) || (eqV (.str "name") (.str x) || false))=_;rw [Bool.or_false];have:∀ a b:Str,eqV (.str a) (.str b)=decide (b=a):=λa b=>by
  show decide (a=b)=decide (b=a);rw [decide_eq_decide];exact eq_comm
 rw [this,this]
theorem mQ (ds:List PyData):PyData.eqv (.list ds) (.list [])=ds.isEmpty:=by
 cases ds <;> rfl
theorem Cu (ps:List Pt):(PyData.list (ps.map Pt.dat)).depth<=100:=NM (kQ ps) (by decide)
theorem uJ (l:List Str):(PyData.list (l.map PyData.str)).depth<=100:=by
 have:∀ l:List Str,PyData.depthAll (l.map PyData.str)=0:=λl=>by
  induction l with
  | nil=>rfl
  | cons a l ih=>simp only [N1,PyData.depthAll,PyData.depth,ih];rfl
 rw [PyData.depth,this];decide
def l4 (pss:List (List Pt)) (i:Nat):List Pt:=pss.map λps=>ps.getD i (.hole 2)
theorem jh (pss:List (List Pt)) (i:Nat):bi pss (i+1)=bi pss i++[kO (l4 pss i)]:=by
 unfold bi l4;rw [OV,NS];rfl
theorem GO {p:Pt} (hp:p.ok):PyData.strOk (lk p)=true:=by
 cases p with
 | word w=>
  show PyData.strOk (eJ (bD w))=true;have h:=i0 w;generalize bD w=k at h ⊢;have:k=0\/k=1\/k=2:=by lia
  rcases this with rfl | rfl | rfl <;> decide +kernel
 | hole k=>
  show PyData.strOk (bq k)=true;have h:k<3:=hp;have:k=0\/k=1\/k=2:=by lia
  rcases this with rfl | rfl | rfl <;> decide +kernel
def gT (K:PySem.W.Frag):Sp:=λvs H Q _=>∃ (a:Addr) (xs:List V) (pss:List (List Pt)) (n:Nat),vs=[.ref a]/\SqL K H a xs/\aB K H xs (pss.map br)/\pss≠[]/\pss.length<=64/\(∀ ps∈pss,PW ps/\ps.length=n)/\n<=12 /\
 ∀ D acc H',H D=none->ae H H'->H' D=some (.lst acc)->acc.length<=12->aB K (wo D H') acc ((bi pss n).map Pt.dat)->Q (.ref D) H'
theorem dg:aE ["patterns","found","at","parts","kinds"] ["patterns"] (ah (top 56)):=⟨rfl,rfl,rfl,by decide +kernel,rfl,by decide +kernel,by decide +kernel⟩
set_option maxHeartbeats 8000000 in
theorem ke (T:Tx K mg A):aA P w K mg base CX0 2 A.fg A.fh ["patterns"] (gT K):=by
 have fu:aA P w K mg base CX0 1 A.fG A.fq ["word"] (gj K):=(jz T).mono (by decide);refine T.c7.fn.ok dg (λvs H Q E h=>?_) (λcdv Ar outer s H vs Q E hr h=>?_)
 ·obtain ⟨a,xs,pss,n,rfl,_⟩:=h;rfl
 ·obtain ⟨a,xs,pss,n,rfl,hq,hds,hne,hpl,hok,h12,k⟩:=h;have hxl:xs.length=pss.length:=by rw [hds.length,NE]
  have CC:0<pss.length:=ON.mpr hne;obtain ⟨x0,hx0⟩:∃ x0,xs[0]? = some x0:=⟨_,NG (by lia)⟩;obtain ⟨ps0,B7,hd0⟩:=cm hds hx0;obtain ⟨a0,ys0,rfl,hq0,F1⟩:=cw hd0;have hn0:ys0.length=n:=by rw [F1.length,NE];exact (hok ps0 (NF B7)).2
  refine ⟨_,aj (aQ (i:=1) dg.nd rfl (Or.inl rfl) (be (af)))
   (aj (cs PassesOwn.never rfl (dB (by rfl) T.eC (aa (aI (r:=dq K) ba (by rfl) T.b7 PySem.boot_len (aa (aR (r:=cE K) aT (pv 0) (ap) (λ_ _=>rfl)) (af))) (af))) (au (i:=2) dg.nd rfl (Or.inr rfl)) (aj (aQ (i:=3) dg.nd rfl (Or.inr rfl) (aP (N':=["pattern","at"]) (n:=1) (fi:=[2]) (g:=aU 0) rfl (aX (ah (top 56)) ["patterns","found","at","parts","kinds"] (by decide +kernel)) (aH (pv 0)) (λs H fp=>au (i:=0) (show (["pattern","at"]:List Str).Nodup by decide +kernel) rfl (Or.inl rfl) (.inr rfl)) (λs H fp=>aO) (λs H fp=>aR (r:=cE K) aT (pv 0) (pv 1) (λ_ _=>rfl))))
   (aj (aQ (i:=4) dg.nd rfl (Or.inr rfl) (aP (N':=["part"]) (n:=1) (fi:=[]) (g:=aU 0) rfl (aX (ah (top 56)) ["patterns","found","at","parts","kinds"] (by decide +kernel)) (aH (pv 3)) (λs H fp=>au (i:=0) (show (["part"]:List Str).Nodup by decide +kernel) rfl (Or.inl rfl) (.inr rfl)) (λs H fp=>aO) (λs H fp=>d9 (aK (ef) (aR (r:=eL K) bH (pv 0) (ap) (λ_ _=>rfl)) (ay) (aJ _)) (aq fu hr (by rfl) T.cS.mg T.cS.fn.kp T.cS.bd .nil aC (aa (aR (r:=eL K) bH (pv 0) (ap) (λ_ _=>rfl)) (af))) (aR (r:=eL K) bH (pv 0) (ap) (λ_ _=>rfl)))))
   (ak (bA (aK (r:=rV K) (mK hr) (aP (N':=["part","parts"]) (n:=1) (fi:=[3]) (g:=aU 0) rfl (aX (ah (top 56)) ["patterns","found","at","parts","kinds"] (by decide +kernel)) (aH (pv 3)) (λs H fp=>au (i:=0) (show (["part","parts"]:List Str).Nodup by decide +kernel) rfl (Or.inl rfl) (.inr rfl)) (λs H fp=>cq (aK (r:=qt K) (iJ hr) (pv 0) (aR (r:=cE K) aT (pv 1) (ap) (λ_ _=>rfl)) (aJ _))) (λs H fp=>pv 0)) (be (af)) (aJ _)) (ak (cx (b6 PySem.F.plainAttrs_list PySem.F.slot_list_append PySem.F.type_list_append bG (pv 1) (aa (aR (r:=cE K) aT (pv 3) (ap) (λ_ _=>rfl)) (af))))) (ak (bA ((pw_and (aK (r:=rV K) (mK hr) (aP (N':=["kind","kinds"]) (n:=1) (fi:=[4]) (g:=aU 0) rfl (aX (ah (top 56)) ["patterns","found","at","parts","kinds"] (by decide +kernel)) (aH (pv 4)) (λs H fp=>au (i:=0) (show (["kind","kinds"]:List Str).Nodup by decide +kernel) rfl (Or.inl rfl) (.inr rfl)) (λs H fp=>cq (aK (m6) (pv 0) (aR (r:=cE K) aT (pv 1) (ap) (λ_ _=>rfl)) (aJ _))) (λs H fp=>pv 0)) (be (af)) (aJ _)) (pw_and1 (aK (r:=rIn K false) (lF) (aR (r:=cE K) aT (pv 4) (ap) (λ_ _=>rfl)) (bJ (aa (ay) (aa (ay) (af)))) (by rfl)))).pt) (ak (cx (b6 PySem.F.plainAttrs_list PySem.F.slot_list_append PySem.F.type_list_append bG (pv 1) (aa (bJ (aa (ay) (aa (aR (r:=cE K) aT (pv 4) (ap) (λ_ _=>rfl)) (af)))) (af))))) (ak (cx (b6 PySem.F.plainAttrs_list PySem.F.slot_list_append PySem.F.type_list_append bG (pv 1) (aa (bJ (aa (ay) (aa (ay) (af)))) (af))))))))))))
   (ak (ax (pv 1)))),?_⟩
  refine ⟨NW _,λF hF=>?_⟩;have sF:ae H (upd H F (.lst [])):=ae.new hF;have hFF:(upd H F (.lst [])) F=some (.lst []):=ab;generalize upd H F (.lst [])=H1 at sF hFF ⊢;refine ⟨_,rfl,a,xs,0,_,rfl,rfl,sF.seq hq,bo (j:=0) hx0,a0,ys0,rfl,.inl (sF.seq hq0),?_⟩;rw [hn0];refine ⟨n,rfl,by lia,by lia,?_⟩;refine gr (λi σ H2=>(∃ u2 u3 u4,σ=[some (.ref a),some (.ref F),u2,u3,u4])/\ae H H2/\∃ acc:List V,H2 F=some (.lst acc)/\aB K (wo F H2) acc ((bi pss i).map Pt.dat)) ⟨⟨_,_,_,rfl⟩,sF,[],hFF,.nil⟩ (λi σ H2 hi q=>?_) (λσ H2 q=>?_)
  ·obtain ⟨q0,s2,acc,hF2,dn⟩:=q;apply wD q0;clear q0;intro u2 u3 u4;have hin:i<n:=by simpa using hi
   have hal:acc.length<=12:=by rw [dn.length,NE];simp only [bi,NE,OB];lia
   refine ⟨_,rfl,a,rfl,⟨_,s2.seq hq⟩,λD5 hD5=>?_⟩;refine aF (K:=K) (xs:=xs) (λm kA σ H5=>(∃ u,σ=[u,some (.int (0+(i:Int)))])/\ae H2 H5/\aB K H kA ((l4 (pss.take m) i).map Pt.dat)) ab ⟨⟨_,rfl⟩,ae.new hD5,.nil⟩ (λm kA σ H5 _ _ q=>(s2.trans q.2.1).seq hq) (λm x kA σ H5 hx r6 q=>?_) (λkA σ H5 r6 q=>?_)
   ·obtain ⟨q0,s5,dn5⟩:=q;apply bP q0;clear q0;intro u;obtain ⟨ps,hpi,hdp⟩:=cm hds hx;obtain ⟨ai,yi,rfl,hqi,hdi⟩:=cw hdp;have hm:=aG hpi;have hpn:=(hok ps (NF hpi)).2;have hpe:ps[i]? = some (ps.getD i (.hole 2)):=by
     rw [NG (by lia)];simp [List.getD,NG (show i<ps.length by lia)]
    obtain ⟨y,hy,hyd⟩:=hdi.getD (i:=i) (d:=(ps.getD i (.hole 2)).dat) (by rw [NK,hpe];rfl);have Mz:kA.length<=64:=by rw [dn5.length,NE];unfold l4;rw [NE,NR];lia
    refine bV ⟨_,rfl,_,rfl,ai,yi,_,y,rfl,rfl,(s2.trans s5).seq hqi,?_,kA,r6,small (by lia),_,ab,⟨_,rfl⟩,ar hD5 s5,?_⟩
    ·rw [Int.zero_add];exact bo hy
    ·unfold l4 at dn5 ⊢;rw [bj hpi,NS];exact dn5.append (.cons hyd .nil)
   ·obtain ⟨_,s5,dn5⟩:=q;rw [hxl,NI (NH _)] at dn5;have EK:l4 pss i≠[]:=λe=>hne (Ol.mp e);have FX:∀ p∈l4 pss i,PtW p:=λp hp=>by
     obtain ⟨ps,hps,rfl⟩:=NJ.mp hp;have h:=hok ps hps;have hlt:i<ps.length:=by rw [h.2];exact hin
     refine h.1 _ ?_;rw [NU,NG hlt];exact Ov hlt
    have hcl:(l4 pss i).length<=64:=by unfold l4;rw [NE];exact hpl
    have ejn:=jh pss i;generalize l4 pss i=col at dn5 EK FX hcl ejn;obtain ⟨p0,pr,rfl⟩:∃ p0 pr,col=p0::pr:=by
     cases col with
     | nil=>exact (EK rfl).elim
     | cons p r=>exact ⟨p,r,rfl⟩
    have s05:ae H H5:=s2.trans s5;have hF5:=s5 _ _ hF2;have hDF:D5≠F:=(ao hF2 hD5).symm;have DD:kA.length=(p0::pr).length:=by rw [dn5.length,NE]
    obtain ⟨y0,yr,rfl⟩:∃ y0 yr,kA=y0::yr:=by
     cases kA with
     | nil=>simp at DD
     | cons y r=>exact ⟨y,r,rfl⟩
    have Lb:Den K H y0 p0.dat:=by cases dn5 with | cons h1 _=>exact h1
    have CT:p0.ok:=(FX p0 (NT ..)).ok;have wY:∀ p∈p0::pr,p.ok:=λp hp=>(FX p hp).ok;clear F1 hq0 hd0 hx0;refine ⟨_,rfl,D5,rfl,⟨_,.of r6⟩,λD6 hD6=>?_⟩;refine aF (K:=K) (xs:=y0::yr) (λm EF σ H6=>(∃ u,σ=[u])/\ae H5 H6/\EF=(((p0::pr).take m).map lk).map V.str) ab ⟨⟨_,rfl⟩,ae.new hD6,rfl⟩ (λm EF σ H6 _ _ q=>.of (q.2.1 _ _ r6)) (λm x EF σ H6 hx Bg q=>?_) (λEF σ H6 Bg q=>?_)
    ·obtain ⟨q0,s6,rfl⟩:=q;apply bP q0;clear q0;intro u;obtain ⟨p,hpi,hdp⟩:=fk dn5 hx;have hm:=aG hpi;have hpw:=FX p (NF hpi);obtain ⟨at1,x1,y1,ex,hqt,_,_,hxx⟩:=iK hdp;subst ex;have Dn:=(s05.trans s6).fV hqt;have hl6:((((p0::pr).take m).map lk).map V.str).length<=64:=by rw [NE,NE,NR];lia
     refine bV ⟨_,rfl,at1,_,0,_,rfl,rfl,Dn,rfl,rfl,_,rfl,?_⟩;have en:(((p0::pr).take (m+1)).map lk).map V.str=(((p0::pr).take m).map lk).map V.str++[.str (lk p)]:=by rw [bj hpi,NS];rfl
     cases p with
     | word w=>
      obtain ⟨rfl,rfl⟩:=hxx;rw [decide_eq_true rfl];have Mh:y1.cps.toList≠[]:=by
       intro e;have hx:=hpw.1;unfold d5 cB at hx;rw [e] at hx;cases hx
      have hto:TOk y1:=hpw.ok;refine bL ⟨_,rfl,at1,_,1,_,rfl,rfl,Dn,rfl,y1,rfl,hto,λH7 s7=>?_⟩;refine ⟨_,s7 _ _ Bg,small (by lia),_,ab,⟨_,rfl⟩,ar hD6 (s6.trans s7),?_⟩;rw [en,mm Mh];rfl
     | hole m'=>
      obtain ⟨rfl,rfl⟩:=hxx;rw [decide_eq_false (by decide)];refine bf ⟨_,rfl,at1,_,1,_,rfl,rfl,Dn,rfl,?_⟩;refine ⟨_,Bg,small (by lia),_,ab,⟨_,rfl⟩,ar hD6 s6,?_⟩;rw [en];rfl
    ·obtain ⟨_,s6,rfl⟩:=q;rw [DD,NI (NH _)] at Bg;have s06:ae H H6:=s05.trans s6;have hF6:=s6 _ _ hF5;have Ed:=s6 _ _ r6;have h26:ae H2 H6:=s5.trans s6;clear hF5 r6 s05 s5 s6;refine ⟨_,rfl,D5,rfl,⟨_,.of Ed⟩,λD7 hD7=>?_⟩;refine aF (K:=K) (xs:=y0::yr) (λm Cs σ H7=>(∃ u,σ=[u,some (.ref D5)])/\ae H6 H7/\aB K H Cs ((((p0::pr).take m).filter λp=>!decide (p=p0)).map Pt.dat)) ab ⟨⟨_,rfl⟩,ae.new hD7,.nil⟩ (λm Cs σ H7 _ _ q=>.of (q.2.1 _ _ Ed)) (λm x Cs σ H7 hx B5 q=>?_) (λCs σ H7 B5 q=>?_)
     ·obtain ⟨q0,s7,dn7⟩:=q;apply bP q0;clear q0;intro u;obtain ⟨p,hpi,hdp⟩:=fk dn5 hx;have hm:=aG hpi;have hl7:Cs.length<=64:=by
       rw [dn7.length,NE];exact NM (N8 _ _) (by rw [NR];lia)
      have s07:=s06.trans s7;have et:(p0::pr).take (m+1)=(p0::pr).take m++[p]:=by rw [NY,hpi];rfl
      refine ⟨_,rfl,_,rfl,D5,_,0,y0,rfl,rfl,.of (s7 _ _ Ed),bo (j:=0) rfl,_,_,hdp.same s07,Lb.same s07,NM (vb _) (by decide),_,rfl,?_⟩;rw [DZ (wY p (NF hpi)) CT,et,Oe];by_cases e:p=p0
      ·have e2:[p].filter (λp=>!decide (p=p0))=[]:=by simp [e]
       rw [e2,N6,decide_eq_true e];exact bf ⟨_,B5,⟨_,rfl⟩,s7,dn7⟩
      ·have e2:[p].filter (λp=>!decide (p=p0))=[p]:=by simp [e]
       rw [e2,NS,decide_eq_false e];exact bL ⟨_,rfl,_,B5,small (by lia),_,ab,⟨_,rfl⟩,ar hD7 s7,dn7.append (.cons hdp .nil)⟩
     ·obtain ⟨_,s7,dn7⟩:=q;rw [DD,NI (NH _)] at dn7;refine ⟨NW _,λE hE=>?_⟩;have sE:ae H7 (upd H7 E (.lst [])):=ae.new hE;refine ⟨_,_,.lst (.of (sE _ _ B5)) (dn7.same ((s06.trans s7).trans sE)),.lst (.of ab) .nil,Cu _,_,rfl,?_⟩;rw [mQ,Po];have s6E:=s7.trans sE;generalize upd H7 E (.lst [])=H8 at s6E ⊢;have s08:=s06.trans s6E;have h28:=h26.trans s6E;have hF8:=s6E _ _ hF6;have K5:=s6E _ _ Ed;have DX:=s6E _ _ Bg;have dn8:aB K (wo F H8) acc ((bi pss i).map Pt.dat):=dn.same (ck h28);have sHw:ae H (wo F H8):=cY hF s08;clear sE s7 dn7 B5 hF6 Ed Bg s06 s6E hE;cases hb1:((p0::pr).filter λp=>!decide (p=p0)).isEmpty with
      | true=>
       have hc:=O3.mp hb1;refine bL ⟨_,rfl,.inl ⟨rfl,_,.of hF8⟩,_,rfl,D5,_,0,y0,rfl,rfl,.of K5,bo (j:=0) rfl,F,_,_,rfl,rfl,hF8,small (by lia),⟨_,_,_,rfl⟩,ar hF s08,_,ab,?_⟩;rw [iD,ejn,NS,FN hc];exact dn8.append (.cons (Lb.same sHw) .nil)
      | false=>
       have hc:((p0::pr).filter λp=>!decide (p=p0))≠[]:=λe=>by rw [e] at hb1;cases hb1
       refine bf ?_;refine ⟨_,rfl,D6,rfl,⟨_,.of DX⟩,λD9 hD9=>?_⟩;refine aF (K:=K) (xs:=((p0::pr).map lk).map V.str) (λm AA σ H9=>(∃ u,σ=[u,some (.ref D6)])/\ae H8 H9/\AA=((((p0::pr).map lk).take m).filter λk=>!decide (k=lk p0)).map V.str) ab ⟨⟨_,rfl⟩,ae.new hD9,rfl⟩ (λm AA σ H9 _ _ q=>.of (q.2.1 _ _ DX)) (λm x AA σ H9 hx An q=>?_) (λAA σ H9 An q=>?_)
       ·obtain ⟨q0,s9,rfl⟩:=q;apply bP q0;clear q0;intro u;obtain ⟨kk,hk,rfl⟩:=b0 hx;have hm:=aG hk;rw [NE] at hm;have hl9:(((((p0::pr).map lk).take m).filter λk=>!decide (k=lk p0)).map V.str).length<=64:=by
         rw [NE];exact NM (N8 _ _) (by rw [NR,NE];lia)
        have et:((p0::pr).map lk).take (m+1)=((p0::pr).map lk).take m++[kk]:=by rw [NY,hk];rfl
        refine ⟨_,rfl,_,rfl,D6,_,0,.str (lk p0),rfl,rfl,.of (s9 _ _ DX),bo (j:=0) rfl,rfl,_,rfl,?_⟩;rw [et,Oe];by_cases e:kk=lk p0
        ·have e2:[kk].filter (λk=>!decide (k=lk p0))=[]:=by simp [e]
         rw [e2,N6,decide_eq_true (by rw [e])];exact bf ⟨_,An,⟨_,rfl⟩,s9,rfl⟩
        ·have e2:[kk].filter (λk=>!decide (k=lk p0))=[kk]:=by simp [e]
         rw [e2,NS,decide_eq_false (λz=>e (by injection z))];exact bL ⟨_,rfl,_,An,small (by lia),_,ab,⟨_,rfl⟩,ar hD9 s9,rfl⟩
       ·obtain ⟨_,s9,rfl⟩:=q;rw [NE,NI (NH _)] at An;refine ⟨NW _,λE hE=>?_⟩;have sE:ae H9 (upd H9 E (.lst [])):=ae.new hE;have LR:∀ k∈((p0::pr).map lk).filter (λk=>!decide (k=lk p0)),PyData.strOk k=true:=λk hk=>by
         obtain ⟨p,hp,rfl⟩:=NJ.mp (Oc.mp hk).1;exact GO (wY p hp)
        refine ⟨_,_,.lst (.of (sE _ _ An)) (d6 LR),.lst (.of ab) .nil,uJ _,_,rfl,?_⟩;rw [mQ,Po];have s8E:=s9.trans sE;generalize upd H9 E (.lst [])=H10 at s8E ⊢;have Jd:=s08.trans s8E;have rG:=s8E _ _ hF8;have GF:=s8E _ _ DX;have vY:aB K (wo F H10) acc ((bi pss i).map Pt.dat):=dn8.same (ck s8E);clear sE s9 An hF8 K5 DX s08 h28 s8E hE dn8;have Ko:kO (p0::pr) = .hole 2->∀ Hz,ae H10 Hz->∀ t,Hz t=none->∃ sf,(upd (upd Hz t (.tup [.str "hole",.str "any"])) F (.lst (acc++[.ref t]))) F=some (.lst sf)/\aB K (wo F (upd (upd Hz t (.tup [.str "hole",.str "any"])) F (.lst (acc++[.ref t])))) sf ((bi pss (i+1)).map Pt.dat):=λej Hz sz t ht=>by
         have st:ae Hz (upd Hz t (.tup [.str "hole",.str "any"])):=ae.new ht;have htF:t≠F:=(ao (sz _ _ rG) ht).symm;refine ⟨_,ab,?_⟩;rw [iD,ejn,NS,ej];refine (vY.same (ck (sz.trans st))).append (.cons (show Den K _ (.ref t) (Pt.hole 2).dat from .tup (.of (by rw [aS htF];exact ab)) (.cons (.str (by decide +kernel)) (.cons (.str (by decide +kernel)) .nil))) .nil)
        cases hb2:(((p0::pr).map lk).filter λk=>!decide (k=lk p0)).isEmpty with
        | false=>
         have ej:=zY wY hc λz=>by rw [z.1] at hb2;cases hb2
         refine bf (bf ⟨_,rfl,.inl ⟨rfl,_,.of rG⟩,(by show 2<=sizeLine;decide),λt ht=>?_⟩);obtain ⟨sf,h1,h2⟩:=Ko ej H10 (ae.refl _) t ht;exact ⟨F,_,_,rfl,rfl,(ae.new ht) _ _ rG,small (by lia),⟨_,_,_,rfl⟩,ar hF (Jd.trans (ae.new ht)),sf,h1,h2⟩
        | true=>
         have hc2:=O3.mp hb2;refine bL ⟨_,rfl,D6,_,0,.str (lk p0),rfl,rfl,.of GF,bo (j:=0) rfl,(by show 2<=sizeLine;decide),λt ht=>⟨t,_,rfl,.inr (.of ab),rfl,rfl,_,rfl,?_⟩⟩;rw [if_neg NV,Lo];have st:ae H10 (upd H10 t (.tup [.str "number",.str "name"])):=ae.new ht;generalize upd H10 t (.tup [.str "number",.str "name"])=H11 at st ⊢;by_cases h3:lk p0 = "number" \/ lk p0 = "name"
         ·have e3:(decide (lk p0 = "number") || decide (lk p0 = "name"))=true:=by simpa using h3
          rw [e3];obtain ⟨ej,ek⟩:=E8 wY hc hc2 h3;refine bL ⟨_,rfl,.inl ⟨rfl,_,.of (st _ _ rG)⟩,_,rfl,D6,_,0,.str (lk p0),rfl,rfl,.of (st _ _ GF),bo (j:=0) rfl,(by show 2<=sizeLine;decide),λt2 ht2=>?_⟩;have st2:ae H11 (upd H11 t2 (.tup [.str "hole",.str (lk p0)])):=ae.new ht2;have htF:t2≠F:=(ao (st _ _ rG) ht2).symm;refine ⟨F,_,_,rfl,rfl,st2 _ _ (st _ _ rG),small (by lia),⟨_,_,_,rfl⟩,ar hF ((Jd.trans st).trans st2),_,ab,?_⟩;rw [iD,ejn,NS,ej];refine (vY.same (ck (st.trans st2))).append (.cons (show Den K _ (.ref t2) (Pt.hole p0.around).dat from .tup (.of (by rw [aS htF,ab])) (.cons (.str (by decide +kernel)) (.cons ?_ .nil))) .nil);rw [ek];exact .str (GO CT)
         ·have e3:(decide (lk p0 = "number") || decide (lk p0 = "name"))=false:=by simpa using h3
          rw [e3];have ej:=zY wY hc λz=>h3 z.2;refine bf ⟨_,rfl,.inl ⟨rfl,_,.of (st _ _ rG)⟩,(by show 2<=sizeLine;decide),λt2 ht2=>?_⟩;obtain ⟨sf,h1,h2⟩:=Ko ej H11 st t2 ht2;exact ⟨F,_,_,rfl,rfl,(ae.new ht2) _ _ (st _ _ rG),small (by lia),⟨_,_,_,rfl⟩,ar hF ((Jd.trans st).trans (ae.new ht2)),sf,h1,h2⟩
  ·obtain ⟨q0,s2,acc,hF2,dn⟩:=q;apply wD q0;clear q0;intro u2 u3 u4;refine ⟨_,rfl,?_⟩;exact k F acc H2 hF s2 hF2 (by rw [dn.length,NE];simp only [bi,NE,OB];lia) dn
theorem CS {zs:List Str}{w:Str} (h:w∈zs):dY (cntK zs) (Sum.inr w)=some (.int (fO zs w)):=by
 have e:=Ac zs w;cases q:dY (cntK zs) (Sum.inr w) with
 | some v=>rw [q] at e;rw [<-e];rfl
 | none=>
  unfold dY cntK at q;rw [Option.map_eq_none_iff,List.find?_eq_none] at q;have:=q _ (OM (fA.mpr h));simp at this
theorem qv (zs:List Str):(cntK zs).length=(bI [] zs).length:=by unfold cntK;rw [NE]
def HK:Sh:=.bg .int (.bg .int .ix)
theorem Dh (a b:Int):HK.has (.tuple [.int a,.int b]):=⟨_,_,rfl,⟨_,rfl⟩,_,_,rfl,⟨_,rfl⟩,rfl⟩
theorem Hr {a b:Int}{p q:Nat} (h:p<q):ltv (.tuple [.int a,.int q]) (.tuple [.int b,.int p])=decide (a<b):=by
 show (if PyData.eqv (.int a) (.int b)=true then aL [.int q] [.int p] else ltv (.int a) (.int b))=decide (a<b);by_cases e:a=b
 ·have e1:PyData.eqv (.int a) (.int b)=true:=by rw [e];show decide (b=b)=true;exact decide_eq_true rfl
  rw [if_pos e1];show (if PyData.eqv (.int q) (.int p)=true then aL [] [] else ltv (.int q) (.int p))=_;have e2:¬ PyData.eqv (.int q) (.int p)=true:=λz=>by have:(q:Int)=p:=of_decide_eq_true z;lia
  rw [if_neg e2];show decide ((q:Int)<p)=_;rw [decide_eq_decide];lia
 ·have e1:¬ PyData.eqv (.int a) (.int b)=true:=λz=>e (of_decide_eq_true z);rw [if_neg e1];rfl
theorem Gf {wss:List (List Str)}{p:Nat}{w:Str} (h:w∈wAt wss p):(wss.filter λws=>decide (ws.getD p Str.empty=w))∈byW wss p:=by
 obtain ⟨ks,_,hk,e⟩:=CL wss p;rw [e,NJ];obtain ⟨ws,h1,h2⟩:=NJ.mp h;refine ⟨Sum.inr w,(hk _).mpr ⟨ws,h1,by rw [<-h2]⟩,?_⟩
 congr 1
 funext v
 rw [decide_eq_decide];exact ⟨λz=>Sum.inr.inj z,λz=>by rw [z]⟩
def q8 (K:PySem.W.Frag) (H:Hp) (wss:List (List Str)) (bv:V):Option Nat->Prop
 | none=>bv = .non
 | some p=>∃ tb,bv = .ref tb/\SqT K H tb [.int (uAt wss p).length,.int p]
theorem q8.same {K:PySem.W.Frag}{H H':Hp}{wss:List (List Str)}{bv:V}{o:Option Nat} (h:q8 K H wss bv o) (s:ae H H'):q8 K H' wss bv o:=by
 cases o with
 | none=>exact h
 | some p=>obtain ⟨tb,e,q⟩:=h;exact ⟨tb,e,s.fV q⟩
def vK (N:Nat) (K:PySem.W.Frag):Sp:=λvs H Q _=>∃ (B:Hp) (a:Addr) (xs:List V) (n:Nat) (wss:List (List Str)) (t:Addr) (s l:Int),vs=[.ref a,.ref t]/\ae B H/\SqL K B a xs/\aB K B xs (wss.map wsD)/\GOk n wss/\SqT K H t [.int s,.int l]/\mu n wss<N /\
 ∀ (D:Addr) (ys:List V) (gs:List (List (List Str))) (C H':Hp),H D=none->ae H H'->H' D=some (.lst ys)->gs.Perm (prt n s l N wss)->ae B C->ae C H'->(∀ b,C b≠none->B b≠none\/H b=none)->aB K C ys (gs.map gD)->Q (.ref D) H'
def km (K:PySem.W.Frag):Sp:=vK 13 K
theorem bx:aE ["rows","sieve","best","at","counts","row","few","found","word"] ["rows","sieve"] (ah (top 57)):=⟨rfl,rfl,rfl,by decide +kernel,rfl,by decide +kernel,by decide +kernel⟩
set_option maxHeartbeats 8000000 in
theorem Dl (T:Tx K mg A):∀ N,aA P w K mg base CX0 (1+N) A.cR A.cO ["rows","sieve"] (vK N K)
 | 0=>⟨λvs H Q E h=>by obtain ⟨B,a,xs,n,wss,t,s,l,rfl,_⟩:=h;rfl,λ_ _ _ _ _ _ _ _ _ _ _ _ _ h=>by obtain ⟨B,a,xs,n,wss,t,s,l,_,_,_,_,_,_,h1,_⟩:=h;lia⟩
 | N+1=>by
  have iI:aA P w K mg base CX0 (1+N) A.cR A.cO ["rows","sieve"] (vK N K):=Dl T N;show aA P w K mg base CX0 ((1+N)+1) A.cR A.cO ["rows","sieve"] (vK (N+1) K);refine T.dc.fn.ok bx (λvs H Q E h=>?_) (λcdv Ar outer s H vs R E hr h=>?_)
  ·obtain ⟨B,a,xs,n,wss,t,s,l,rfl,_⟩:=h;rfl
  ·obtain ⟨B,a,xs,n,wss,t,s',l,rfl,hBH,hqB,A9,ok,hqt,hmu,k⟩:=h;have hq:=hBH.seq hqB;have hds:=A9.same hBH;have hxl:xs.length=wss.length:=by rw [hds.length,NE]
   have CC:0<wss.length:=ON.mpr ok.ne;have hle:=ok.le;have h12:=ok.Bx;obtain ⟨x0,hx0⟩:∃ x0,xs[0]? = some x0:=⟨_,NG (by lia)⟩;obtain ⟨ws0,r0,hw0,rfl,Hl⟩:=gg hds hx0;have hn0:(ws0.map V.str).length=n:=by rw [NE];exact (ok.row ws0 (NF hw0)).1
   refine ⟨_,aj (aQ (i:=2) bx.nd rfl (Or.inr rfl) (qJ))
   (aj (cs PassesOwn.never rfl (dB (by rfl) T.eC (aa (aI (r:=dq K) ba (by rfl) T.b7 PySem.boot_len (aa (aR (r:=cE K) aT (pv 0) (ap) (λ_ _=>rfl)) (af))) (af))) (au (i:=3) bx.nd rfl (Or.inl rfl)) (aj (aQ (i:=4) bx.nd rfl (Or.inr rfl) (wM))
   (aj (cs PassesOwn.never rfl (aH (pv 0)) (au (i:=5) bx.nd rfl (Or.inl rfl)) (ak (ED (Ah hr) (pv 4) (aR (r:=cE K) aT (pv 5) (pv 3) (λ_ _=>rfl)) (bX gQ (BZ (Ah hr) (pv 4) (aR (r:=cE K) aT (pv 5) (pv 3) (λ_ _=>rfl)) (ap) ⟨rfl,rfl,rfl,rfl⟩) (ap)) rfl)))
   (aj (aQ (i:=6) bx.nd rfl (Or.inl rfl) (aI (r:=GJ K) (AY rfl) (by rfl) T.wA rh (aa (aP (N':=["word","counts"]) (n:=1) (fi:=[4]) (g:=aU 0) rfl (aX (ah (top 57)) ["rows","sieve","best","at","counts","row","few","found","word"] (by decide +kernel)) (EG (pv 4)) (λs H fp=>au (i:=0) (show (["word","counts"]:List Str).Nodup by decide +kernel) rfl (Or.inl rfl) (.inr rfl)) (λs H fp=>aO) (λs H fp=>zP (Ah hr) (pv 1) (pv 0) (λ_ _=>rfl))) (af))))
   (ak (bA ((pw_and (rc qB De (ap) (aI (r:=z9) oK (by rfl) T.b7 PySem.boot_len (aa (pv 4) (af))) (aR (r:=eL K) bH (pv 1) (ap) (λ_ _=>rfl))) (pw_and1 (aK (Ee) (pv 6) (aR (r:=eL K) bH (pv 1) (ap) (λ_ _=>rfl)) (aJ _)))).pt) (ak (aQ (i:=2) bx.nd rfl (Or.inr rfl) (d9 (aK (Gi) (pv 2) (qJ) (aJ _)) (aI (r:=Ce K HK.has) (yq (Sh.ok HK) rfl hr) (by rfl) T.wA rh (aa (pv 2) (aa (bJ (aa (aI (r:=z9) oK (by rfl) T.b7 PySem.boot_len (aa (pv 4) (af))) (aa (pv 3) (af)))) (af)))) (bJ (aa (aI (r:=z9) oK (by rfl) T.b7 PySem.boot_len (aa (pv 4) (af))) (aa (pv 3) (af))))))) (aZ)))))))
   (aj (bA (aK (Ds) (pv 2) (qJ) (aJ _)) (ak (ax (be (aa (pv 0) (af))))) (aZ))
   (aj (aQ (i:=7) bx.nd rfl (Or.inl rfl) (be (af)))
   (aj (cs PassesOwn.never rfl (aH (ng (gm rfl hr) rfl (by rfl) T.fB gu (by rfl) T.xc qb (aa (aP (N':=["row","best"]) (n:=1) (fi:=[2]) (g:=aU 0) rfl (aX (ah (top 57)) ["rows","sieve","best","at","counts","row","few","found","word"] (by decide +kernel)) (aH (pv 0)) (λs H fp=>au (i:=0) (show (["row","best"]:List Str).Nodup by decide +kernel) rfl (Or.inl rfl) (.inr rfl)) (λs H fp=>aO) (λs H fp=>aR (r:=cE K) aT (pv 0) (aR (r:=eL K) bH (pv 1) (ap) (λ_ _=>rfl)) (λ_ _=>rfl))) (af)))) (au (i:=8) bx.nd rfl (Or.inr rfl)) (ak (aQ (i:=7) bx.nd rfl (Or.inl rfl) (bX (r:=vV K) pX (pv 7) (aq iI hr (by rfl) T.dc.mg T.dc.fn.kp T.dc.bd .nil aC (aa (aP (N':=["row","word","best"]) (n:=1) (fi:=[8,2]) (g:=aU 0) rfl (aX (ah (top 57)) ["rows","sieve","best","at","counts","row","few","found","word"] (by decide +kernel)) (aH (pv 0)) (λs H fp=>au (i:=0) (show (["row","word","best"]:List Str).Nodup by decide +kernel) rfl (Or.inl rfl) (.inr rfl)) (λs H fp=>cq (aK (ef) (aR (r:=cE K) aT (pv 0) (aR (r:=eL K) bH (pv 2) (ap) (λ_ _=>rfl)) (λ_ _=>rfl)) (pv 1) (aJ _))) (λs H fp=>pv 0)) (aa (pv 1) (af))))))))
   (ak (ax (pv 7))))))),?_⟩
   refine ⟨_,rfl,a,xs,0,_,rfl,rfl,hq,bo (j:=0) hx0,r0,_,rfl,.inl Hl,?_⟩;rw [hn0];refine ⟨n,rfl,by lia,by lia,?_⟩;refine gr (λi σ H2=>(∃ bv v3 v4 v5 v6 v7 v8,σ=[some (.ref a),some (.ref t),some bv,v3,v4,v5,v6,v7,v8]/\∃ o,nU wss s' l i o/\q8 K H2 wss bv o)/\ae H H2) ⟨⟨_,_,_,_,_,_,_,rfl,none,λq hq=>absurd hq (Nat.not_lt_zero _),rfl⟩,ae.refl _⟩ (λi σ H2 hi q=>?_) (λσ H2 q=>?_)
   ·obtain ⟨⟨bv,v3,v4,v5,v6,v7,v8,rfl,o,hpc,tY⟩,s2⟩:=q;have hin:i<n:=by simpa using hi
    have e0:((0:Int)+(i:Int))=(i:Int):=Int.zero_add _;rw [e0];refine λC hC=>?_;have sC:ae H2 (upd H2 C (.dK [])):=ae.new hC;refine ⟨_,rfl,a,rfl,⟨_,(s2.trans sC).seq hq⟩,?_⟩;refine cM (K:=K) (xs:=xs) (λj σ H3=>(∃ v5 v6 v7 v8,σ=[some (.ref a),some (.ref t),some bv,some (.int i),some (.ref C),v5,v6,v7,v8])/\ae H2 H3/\H3 C=some (.dK (cntK (wAt (wss.take j) i)))) ⟨⟨_,_,_,_,rfl⟩,sC,ab⟩ (λj σ H3 _ q=>(s2.trans q.2.1).seq hq) (λj x σ H3 hx q=>?_) (λσ H3 q=>?_)
    ·obtain ⟨q0,s3,hC3⟩:=q;apply KJ q0;clear q0;intro v5 v6 v7 v8;obtain ⟨ws,r,hw,rfl,hqr⟩:=gg hds hx;have hj:=aG hw;have mv:=ok.row ws (NF hw);have hwi:(ws.map V.str)[i]? = some (.str (ws.getD i Str.empty)):=by
      rw [NK,NG (by lia)];simp [List.getD,NG (show i<ws.length by lia)]
     have JV:=(s2.trans s3).seq hqr;refine ⟨_,rfl,C,rfl,.inl ⟨_,.inl hC3⟩,_,rfl,_,rfl,r,_,(i:Int),_,rfl,rfl,JV,bo hwi,_,sJ.k (k:=Sum.inr (ws.getD i Str.empty)) hC3,?_⟩;rw [Ac];refine ⟨_,_,rfl,rfl,_,rfl,_,rfl,_,rfl,r,_,(i:Int),_,rfl,rfl,JV,bo hwi,C,_,rfl,Cf.k (k:=Sum.inr (ws.getD i Str.empty)) hC3 ?_,⟨_,_,_,_,rfl⟩,ar hC s3,?_⟩
     ·refine small ?_;rw [qv];have:=kW (wAt (wss.take j) i);unfold wAt at this;rw [NE,NR] at this;unfold wAt;lia
     ·rw [ab,Gm,rD hw]
    ·obtain ⟨q0,s3,hC3⟩:=q;apply KJ q0;clear q0;intro v5 v6 v7 v8;rw [hxl,NI (NH _)] at hC3;have hul:=ok.FY i;refine ⟨_,rfl,C,_,rfl,hC3,λfo L hL=>?_⟩;have hCz:(upd H3 C (.frz fo (.dK (cntK (wAt wss i))))) C=some (.frz fo (.dK (cntK (wAt wss i)))):=ab;have s3z:ae H2 (upd H3 C (.frz fo (.dK (cntK (wAt wss i))))):=ar hC s3;generalize upd H3 C (.frz fo (.dK (cntK (wAt wss i))))=H4 at hCz s3z hL ⊢;refine A1 (kvs:=cntK (wAt wss i)) (λj acc σ H5=>(∃ u,σ=[u,some (.ref C)])/\ae H4 H5/\acc=((uR (wAt wss i)).take j).map V.int) ab ⟨⟨_,rfl⟩,ae.new hL,rfl⟩ (λj acc σ H5 _ q=>q.2.1 _ _ hCz) (λj ky v acc σ H5 hx hLx q=>?_) (λacc σ H5 hL5 q=>?_)
     ·obtain ⟨q0,s5,rfl⟩:=q;apply bP q0;clear q0;intro u;have hj:=aG hx;rw [qv] at hj;obtain ⟨w,hwj,ew⟩:∃ w,(bI [] (wAt wss i))[j]? = some w/\((Sum.inr w:Key),V.int (fO (wAt wss i) w))=(ky,v):=by
       unfold cntK at hx;rw [NK] at hx;cases e:(bI [] (wAt wss i))[j]? with
       | none=>rw [e] at hx;cases hx
       | some w=>rw [e] at hx;exact ⟨w,rfl,Option.some.inj hx⟩
      injection ew with ek ev;subst ek ev;have hwm:w∈wAt wss i:=fA.mp (NF hwj);have hcl:((uR (wAt wss i)).take j).length<=64:=by
       have:(uAt wss i).length=(bI [] (wAt wss i)).length:=rfl;rw [NR];lia
      refine bV ⟨_,rfl,_,rfl,C,_,rfl,.inl ⟨_,Sum.inr w,.inr ⟨_,s5 _ _ hCz⟩,rfl,(CS hwm).symm⟩,_,hLx,small (by rw [NE];lia),_,ab,⟨_,rfl⟩,ar hL s5,?_⟩;have hcj:(uR (wAt wss i))[j]? = some (fO (wAt wss i) w:Int):=by unfold uR;rw [NK,hwj];rfl
      rw [bj hcj]
     ·obtain ⟨_,s5,rfl⟩:=q;have ecl:(cntK (wAt wss i)).length=(uR (wAt wss i)).length:=by unfold cntK uR;rw [NE,NE]
      rw [ecl,NI (NH _)] at hL5;have EK:uR (wAt wss i)≠[]:=λe=>by
       have h1:=Ol.mp e;have h2:ws0.getD i Str.empty∈bI [] (wAt wss i):=fA.mpr (OM (NF hw0));rw [h1] at h2;cases h2
      refine ⟨L,_,rfl,.of hL5,EK,λm hm L6=>?_⟩;have uF:=Ey (s:=s') (l:=l) hm L6;have s25:ae H2 H5:=s3z.trans s5;have hC5:=s5 _ _ hCz;have eul:(cntK (wAt wss i)).length=(uAt wss i).length:=qv _;have s05:=s2.trans s25;have EY:=s05.fV hqt;have no:cg wss i s' l=false->(∃ bv' w3 w4 w5 w6 w7 w8,[some (.ref a),some (.ref t),some bv,some (.int i),some (.ref C),v5,some (.int m),v7,v8]=[some (.ref a),some (.ref t),some bv',w3,w4,w5,w6,w7,w8]/\∃ o,nU wss s' l (i+1) o/\q8 K H5 wss bv' o)/\ae H H5:=λhf=>⟨⟨_,_,_,_,_,_,_,rfl,o,Fp hpc hf,tY.same s25⟩,s05⟩;refine ⟨_,rfl,C,_,rfl,.inr ⟨_,hC5⟩,_,_,rfl,rfl,_,rfl,?_⟩;rw [eul];cases h1:decide ((1:Int)<((uAt wss i).length:Int)) with
      | false=>exact bf ⟨_,rfl,bf (bf (no (by rw [uF,h1];rfl)))⟩
      | true=>
       refine bL ⟨_,rfl,t,_,0,_,rfl,rfl,EY,rfl,_,_,rfl,rfl,_,rfl,?_⟩;cases h2:decide (((uAt wss i).length:Int)<=s') with
       | false=>exact bf (bf (no (by rw [uF,h1,h2];rfl)))
       | true=>
        refine bL ⟨_,rfl,_,rfl,t,_,1,_,rfl,rfl,EY,rfl,_,_,rfl,rfl,_,rfl,?_⟩;cases h3:decide (l<=m) with
        | false=>exact bf (no (by rw [uF,h1,h2,h3];rfl))
        | true=>
         have hf:cg wss i s' l=true:=by rw [uF,h1,h2,h3];rfl
         refine bL ⟨_,rfl,rfl,_,rfl,?_⟩;cases o with
         | none=>
          obtain rfl:bv = .non:=tY;rw [decide_eq_true rfl];refine bf ⟨_,rfl,C,_,rfl,.inr ⟨_,hC5⟩,_,rfl,(by show 2<=sizeLine;decide),λt2 ht2=>?_⟩;rw [eul];exact ⟨⟨_,_,_,_,_,_,_,rfl,some i,zq hpc hf,t2,rfl,.of ab⟩,s05.trans (ae.new ht2)⟩
         | some p=>
          obtain ⟨tb,rfl,hqb⟩:=tY;rw [decide_eq_false (by intro z;cases z)];refine bL ⟨_,rfl,_,rfl,C,_,rfl,.inr ⟨_,hC5⟩,_,rfl,(by show 2<=sizeLine;decide),λt2 ht2=>?_⟩;rw [eul];have st2:ae H5 (upd H5 t2 (.tup [.int (uAt wss i).length,.int i])):=ae.new ht2;have hq2:SqT K (upd H5 t2 (.tup [.int (uAt wss i).length,.int i])) t2 [.int (uAt wss i).length,.int i]:=.of ab;generalize upd H5 t2 (.tup [.int (uAt wss i).length,.int i])=H6 at st2 hq2 ⊢;have Jl:=(s25.trans st2).fV hqb;refine ⟨.ref tb,.ref t2,.tuple [.int (uAt wss p).length,.int p],.tuple [.int (uAt wss i).length,.int i],rfl,.tup Jl (.cons (.int _) (.cons (.int _) .nil)),.tup hq2 (.cons (.int _) (.cons (.int _) .nil)),Dh _ _,Dh _ _,by simp [PyData.depth,PyData.depthAll],by simp [PyData.depth,PyData.depthAll],λz hz=>?_⟩;have sz:=ae.new (o:=.tup [.ref tb,.ref t2]) hz;rw [Hr hpc.1];by_cases hlt:(uAt wss i).length<(uAt wss p).length
          ·rw [decide_eq_true (by lia),if_pos rfl];exact ⟨⟨_,_,_,_,_,_,_,rfl,some i,BK hpc hf hlt,t2,rfl,sz.fV hq2⟩,s05.trans (st2.trans sz)⟩
          ·rw [decide_eq_false (by lia),if_neg NV];exact ⟨⟨_,_,_,_,_,_,_,rfl,some p,Ba hpc hlt,tb,rfl,sz.fV Jl⟩,s05.trans (st2.trans sz)⟩
   ·obtain ⟨⟨bv,v3,v4,v5,v6,v7,v8,rfl,o,hpc,tY⟩,s2⟩:=q;have eo:plc wss n s' l=o:=vU BR hpc;refine ⟨_,rfl,rfl,_,rfl,?_⟩;cases o with
    | none=>
     obtain rfl:bv = .non:=tY;rw [decide_eq_true rfl];refine bL ⟨_,rfl,(by show 1<=sizeLine;decide),λD hD=>?_⟩;have sD:ae H2 (upd H2 D (.lst [.ref a])):=ae.new hD;have s0D:=s2.trans sD;have e:prt n s' l (N+1) wss=[wss]:=by unfold prt;rw [eo]
     exact k D _ [wss] B _ (s2.free hD) s0D ab (by rw [e]) (ae.refl B) (hBH.trans s0D) (λb h=>.inl h) (.cons (.lst hqB A9) .nil)
    | some p=>
     obtain ⟨tb,rfl,hqb⟩:=tY;rw [decide_eq_false (by intro z;cases z)];have hpn:=hpc.1;have LO:=zS hpc.2.1;refine bf ⟨NW _,λF hF=>?_⟩;have sF:ae H2 (upd H2 F (.lst [])):=ae.new hF;have hFF:(upd H2 F (.lst [])) F=some (.lst []):=ab;generalize upd H2 F (.lst [])=H3 at sF hFF ⊢;have s03:=s2.trans sF;refine ⟨_,rfl,a,rfl,⟨_,s03.seq hq⟩,λL hL=>?_⟩;refine aF (K:=K) (xs:=xs) (λj acc σ H4=>(∃ u,σ=[u,some (.ref tb)])/\ae H3 H4/\acc=(wAt (wss.take j) p).map V.str) ab ⟨⟨_,rfl⟩,ae.new hL,rfl⟩ (λj acc σ H4 _ _ q=>(s03.trans q.2.1).seq hq) (λj x acc σ H4 hx hLx q=>?_) (λacc σ H4 hL4 q=>?_)
     ·obtain ⟨q0,s4,rfl⟩:=q;apply bP q0;clear q0;intro u;obtain ⟨ws,r,hw,rfl,hqr⟩:=gg hds hx;have hj:=aG hw;have mv:=ok.row ws (NF hw);have hwi:(ws.map V.str)[p]? = some (.str (ws.getD p Str.empty)):=by
       rw [NK,NG (by lia)];simp [List.getD,NG (show p<ws.length by lia)]
      refine bV ⟨_,rfl,_,rfl,tb,_,1,_,rfl,rfl,(sF.trans s4).fV hqb,rfl,r,_,(p:Int),_,rfl,rfl,(s03.trans s4).seq hqr,bo hwi,_,hLx,small ?_,_,ab,⟨_,rfl⟩,ar hL s4,?_⟩
      ·unfold wAt;rw [NE,NE,NR];lia
      ·rw [rD hw,NS];rfl
     ·obtain ⟨_,s4,rfl⟩:=q;rw [hxl,NI (NH _)] at hL4;have hul:=ok.FY p;refine ⟨L,wAt wss p,rfl,.inl hL4,Pj (ok.Fl p) (by decide),hul,λS ms hS hms hup=>⟨S,rfl,⟨_,.of ab⟩,?_⟩⟩;have sS:ae H4 (upd H4 S (.lst (ms.map V.str))):=ae.new hS;have hSS:(upd H4 S (.lst (ms.map V.str))) S=some (.lst (ms.map V.str)):=ab;generalize upd H4 S (.lst (ms.map V.str))=H5 at sS hSS ⊢;have s35:=s4.trans sS;have s05:=s03.trans s35;have hF5:=s35 _ _ hFF;have LY:=(sF.trans s35).fV hqb;have hwg:=vA hms (prt n s' l N);have Js:prt n s' l (N+1) wss=(byW wss p).flatMap (prt n s' l N):=by
       show (match plc wss n s' l with | none=>[wss] | some p=>(byW wss p).flatMap (prt n s' l N))=_
       rw [eo]
      have L0:(ms.flatMap λw=>prt n s' l N (wss.filter λws=>decide (ws.getD p Str.empty=w))).length<64:=by
       rw [hwg.length_eq,<-Js];exact Ot (iq ok.ne) hle
      have Bj:∀ i,((ms.take i).flatMap λw=>prt n s' l N (wss.filter λws=>decide (ws.getD p Str.empty=w))).length<64:=λi=>by
       have e:ms.take i++ms.drop i=ms:=List.take_append_drop i ms;rw [<-e,OX,NX] at L0;lia
      refine cM (K:=K) (xs:=ms.map V.str) (λi σ H6=>(∃ Fc u8,σ=[some (.ref a),some (.ref t),some (.ref tb),v3,v4,v5,v6,some (.ref Fc),u8]/\∃ acc gs C,H6 Fc=some (.lst acc)/\H Fc=none/\gs.Perm ((ms.take i).flatMap λw=>prt n s' l N (wss.filter λws=>decide (ws.getD p Str.empty=w)))/\ae B C/\ae C H6/\(∀ b,C b≠none->B b≠none\/H b=none)/\aB K C acc (gs.map gD))/\ae H5 H6) ⟨⟨F,_,rfl,[],[],B,hF5,s2.free hF,.nil,ae.refl B,hBH.trans s05,λb h=>.inl h,.nil⟩,ae.refl _⟩ (λi σ H6 _ q=>.of (q.2 _ _ hSS)) (λi x σ H6 hx q=>?_) (λσ H6 q=>?_)
      ·obtain ⟨⟨Fc,u8,rfl,acc,gs,C,hFc,hFn,hgs,hBC,hC6,hCn,dn⟩,s6⟩:=q;obtain ⟨w',hw',rfl⟩:=b0 hx;have hwm:w'∈wAt wss p:=fA.mp (hms.mem_iff.mp (NF hw'));have hgm:=Gf hwm;have gok:=ok.sub hgm;have LB:mu n (wss.filter λws=>decide (ws.getD p Str.empty=w'))<N:=N9 (GR hpn LO hgm) (Nat.le_of_lt_succ hmu);have s06:=s05.trans s6;refine ⟨_,rfl,_,rfl,a,rfl,⟨_,s06.seq hq⟩,λM hM=>?_⟩;refine aF (K:=K) (xs:=xs) (λj aV σ H7=>(∃ u,σ=[u,some (.str w'),some (.ref tb)])/\ae H6 H7/\aB K B aV (((wss.take j).filter λws=>decide (ws.getD p Str.empty=w')).map wsD)) ab ⟨⟨_,rfl⟩,ae.new hM,.nil⟩ (λj aV σ H7 _ _ q=>(s06.trans q.2.1).seq hq) (λj x aV σ H7 hx hMx q=>?_) (λaV σ H7 hM7 q=>?_)
       ·obtain ⟨q0,s7,dn2⟩:=q;apply bP q0;clear q0;intro u;obtain ⟨d,hd,hdx⟩:=A9.get hx;obtain ⟨ws,r,hw,rfl,hqr⟩:=gg hds hx;rw [NK,hw] at hd;obtain rfl:wsD ws=d:=Option.some.inj hd;have hj:=aG hw;have mv:=ok.row ws (NF hw);have hwi:(ws.map V.str)[p]? = some (.str (ws.getD p Str.empty)):=by
         rw [NK,NG (by lia)];simp [List.getD,NG (show p<ws.length by lia)]
        have hl2:aV.length<=64:=by
         rw [dn2.length,NE];exact NM (N8 _ _) (by rw [NR];lia)
        have et:wss.take (j+1)=wss.take j++[ws]:=by rw [NY,hw];rfl
        refine ⟨_,rfl,_,rfl,tb,_,1,_,rfl,rfl,(s6.trans s7).fV LY,rfl,r,_,(p:Int),_,rfl,rfl,(s06.trans s7).seq hqr,bo hwi,_,rfl,rfl,_,rfl,?_⟩;rw [et,Oe];by_cases e:ws.getD p Str.empty=w'
        ·have e2:[ws].filter (λws=>decide (ws.getD p Str.empty=w'))=[ws]:=OH (decide_eq_true e);rw [e2,NS,decide_eq_true (by rw [e])];exact bL ⟨_,rfl,_,hMx,small (by lia),_,ab,⟨_,rfl⟩,ar hM s7,dn2.append (.cons hdx .nil)⟩
        ·have e2:[ws].filter (λws=>decide (ws.getD p Str.empty=w'))=[]:=OI (λz=>e (of_decide_eq_true z));rw [e2,N6,decide_eq_false (λz=>e (by injection z))];exact bf ⟨_,hMx,⟨_,rfl⟩,s7,dn2⟩
       ·obtain ⟨_,s7,dn2⟩:=q;rw [hxl,NI (NH _)] at dn2;have s07:=s06.trans s7;have hBM:B M=none:=(hBH.trans s06).free hM;have sBM:ae B (upd B M (.lst aV)):=ae.new hBM;have hB7:ae (upd B M (.lst aV)) H7:=λb u e=>by
         by_cases z:b=M
         ·rw [z,ab] at e;cases e;rw [z];exact hM7
         ·rw [aw z] at e;exact s07 _ _ (hBH _ _ e)
        refine ⟨_,rfl,upd B M (.lst aV),M,aV,n,_,t,s',l,rfl,hB7,.of ab,dn2.same sBM,gok,s07.fV hqt,LB,λD2 ys2 gs2 C2 H8 hD2 s8 vQ Jx Nc Kz M3 dn8=>?_⟩;have s68:=s7.trans s8;have hl1:acc.length<64:=by rw [dn.length,NE,hgs.length_eq];exact Bj i
        have hl2:ys2.length<64:=by
         rw [dn8.length,NE,Jx.length_eq];exact Ot (iq gok.ne) gok.le
        refine ⟨Fc,D2,_,_,rfl,rfl,.of (s68 _ _ hFc),.of vQ,NM (show acc.length+ys2.length<=128 by lia) (by decide),λG hG=>?_⟩;have sG:ae H8 (upd H8 G (.lst (acc++ys2))):=ae.new hG;have hC8:ae C H8:=hC6.trans s68;refine ⟨⟨G,_,rfl,acc++ys2,gs++gs2,hU C C2,ab,(s06.trans s68).free hG,?_,hBC.trans FP,(Gw hC8 Kz).trans sG,λb h=>?_,?_⟩,s6.trans (s68.trans sG)⟩
        ·rw [NY,hw',OX];refine hgs.append ?_;show gs2.Perm (([w']:List Str).flatMap _);rw [OO,List.flatMap_nil,N6];exact Jx
        ·rcases Gx h with h | h
         ·exact hCn b h
         ·rcases M3 b h with h | h
          ·by_cases z:b=M
           ·rw [z];exact .inr (s06.free hM)
           ·rw [aw z] at h;exact .inl h
          ·exact .inr (s07.free h)
        ·rw [NS];exact (dn.same FP).append (dn8.same (Jn hC8 Kz))
      ·obtain ⟨⟨Fc,u8,rfl,acc,gs,C,hFc,hFn,hgs,hBC,hC6,hCn,dn⟩,s6⟩:=q;rw [NE,NI (NH _)] at hgs;refine ⟨_,rfl,k Fc acc gs C H6 hFn (s05.trans s6) hFc ?_ hBC hC6 hCn dn⟩;rw [Js];exact hgs.trans hwg
theorem qX (T:Tx K mg A):aA P w K mg base CX0 14 A.cR A.cO ["rows","sieve"] (km K):=Dl T 13
end
end K39
namespace LG
open PySem L2
theorem my (us:List Str):∃ ms:List Str,ms.Perm us/\UpS ms:=by
 have o:=Sh.ok .str;have hs:∀ x:Str,Sh.str.has (.str x):=λx=>⟨x,rfl⟩;refine ⟨us.mergeSort λx y=>!ltv (.str y) (.str x),List.mergeSort_perm _ _,?_⟩;refine (List.pairwise_mergeSort (λa b c h1 h2=>?_) (λa b=>?_) us).imp λ{a b} h=>by simpa using h
 ·cases q:ltv (.str c) (.str a) with
  | false=>rfl
  | true=>
   rcases o.neg (hs c) (hs b) (hs a) q with e | e
   ·rw [e] at h2;cases h2
   ·rw [e] at h1;cases h1
 ·cases q:ltv (.str b) (.str a) with
  | false=>rfl
  | true=>rw [o.asymm (hs b) (hs a) q];rfl
theorem HH {K:PySem.W.Frag}{H:Hp}{F:Addr}{ys xs:List V}{ps:List Pt} (hF:H F=some (.lst ys)) (h:aB K H xs (ps.map Pt.dat)):aB K (wo F H) xs (ps.map Pt.dat):=(pY (ae.refl H) (ae.refl H) h).same (yM hF)
theorem HF {rss:List (List Str)}{m:Nat} (h:kE rss) (hm:0<m) (hm2:m<=12) (hne:ofL rss m≠[]):GOk m (ofL rss m):=
 ⟨hne,Ot (N8 _ _) h.1,hm2,hm,λws hw=>by
  obtain ⟨h1,h2⟩:=Oc.mp hw;exact ⟨of_decide_eq_true h2,(h.2 ws h1).2.2⟩⟩
def pM (s l:Int) (rss:List (List Str)) (m:Nat):List (List Pt):=if !(ofL rss m).isEmpty then (prt m s l 13 (ofL rss m)).map λg'=>bi (g'.map kc) m else []
theorem Fq {s l:Int}{rss:List (List Str)}{m:Nat}:pM s l rss m=if !(ofL rss m).isEmpty then rm s l (ofL rss m) else []:=by
 unfold pM;cases e:ofL rss m with
 | nil=>rfl
 | cons a b=>
  have:gn (a::b)=m:=by
   show a.length=m;have ha:a∈ofL rss m:=by rw [e];exact NT ..
   exact of_decide_eq_true (Oc.mp ha).2
  unfold rm;rw [this]
theorem wU {s l:Int}{rss:List (List Str)} (h:kE rss):((List.range 12).flatMap λm=>pM s l rss (m+1)).Perm (gth s l rss):=by
 have:=yX h (rm s l);refine List.Perm.trans (List.Perm.of_eq ?_) this
 congr 1
 funext m
 exact Fq
theorem zN {s l:Int}{rss:List (List Str)}:(gth s l rss).length<=rss.length:=by
 have:=qC s l rss (byL rss).length
 rwa [NI (NH _)] at this
theorem CP {s l:Int}{rss:List (List Str)} (h:kE rss) {i:Nat} (hi:i<=12):((List.range i).flatMap λm=>pM s l rss (m+1)).length<=rss.length:=by
 have e:((List.range 12).take i)=List.range i:=by rw [List.take_range,Pz hi]
 have t:=List.take_append_drop i (List.range 12);have hp:=(wU (s:=s) (l:=l) h).length_eq;rw [<-t,OX,NX,e] at hp;have:=zN (s:=s) (l:=l) (rss:=rss);lia
theorem tU {s l:Int}{rss:List (List Str)}{i:Nat}:((List.range (i+1)).flatMap λm=>pM s l rss (m+1))=((List.range i).flatMap λm=>pM s l rss (m+1))++pM s l rss (i+1):=by
 rw [OV,OX,OO,List.flatMap_nil,N6]
theorem EO {α β:Type} (f:α->β) (l:List α):(l.map f).isEmpty=l.isEmpty:=by cases l <;> rfl
end LG
namespace K39
open PySem L2 LG
section
variable {P:Program}{w:World}{K:PySem.W.Frag}{mg:Str->Option Value}{base:Heap}{A:Ad}
theorem HR {H:Hp}{M:Addr}{xs:List V} (h:H M=some (.lst xs)):ae (tO H) (wo M H):=λb o e=>by
 obtain ⟨n,e⟩:=pZ e;have:b≠M:=λz=>by rw [z,h] at e;cases e;exact n _ rfl
 rw [aS this];exact e
theorem DA {ms:List Str}{z:Str}{i:Nat} (h:ms[i]? = some z):(ms.take (i+1)).map (λz=>Txt.split z " ")=(ms.take i).map (λz=>Txt.split z " ")++[Txt.split z " "]:=by
 rw [NY,h];simp
def iQ (K:PySem.W.Frag):Sp:=λvs H Q _=>∃ (a t:Addr) (zs:List Str) (s l:Int),vs=[.ref a,.ref t]/\SqL K H a (zs.map V.str)/\zs.length<64/\(∀ z∈zs,∃ ws,jV 12 z ws)/\SqT K H t [.int s,.int l] /\
 ∀ (D:Addr) (ms:List Str) (acc:List V) (H':Hp) (ps:List (List Pt)),ms.Perm (bI [] zs)->UpS ms->H D=none->ae H H'->H' D=some (.lst acc)->ps.Perm (gth s l (ms.map λz=>Txt.split z " "))->qM ps->AU ps->ps.length<64->aB K (lim H H') acc (ps.map br)->Q (.ref D) H'
theorem cA:aE ["lines","sieve","found","many","rows","group"] ["lines","sieve"] (ah (top 58)):=⟨rfl,rfl,rfl,by decide +kernel,rfl,by decide +kernel,by decide +kernel⟩
set_option maxHeartbeats 8000000 in
theorem n6 (T:Tx K mg A):aA P w K mg base CX0 15 A.fP A.fW ["lines","sieve"] (iQ K):=by
 have gM:aA P w K mg base CX0 14 A.eG A.d7 ["patterns"] (fN K):=(j4 T).mono (by decide);have iI:aA P w K mg base CX0 14 A.cR A.cO ["rows","sieve"] (km K):=(qX T).mono (by decide);have iw:aA P w K mg base CX0 14 A.fg A.fh ["patterns"] (gT K):=(ke T).mono (by decide);refine T.cu.fn.ok cA (λvs H Q E h=>?_) (λcdv Ar outer s H vs Q E hr h=>?_)
 ·obtain ⟨a,t,zs,s,l,rfl,_⟩:=h;rfl
 ·obtain ⟨a,t,zs,s',l,rfl,hqa,h64,hzs,hqt,k⟩:=h;obtain ⟨ms,a9,hup⟩:=my (bI [] zs);have rok:=EN a9 h64 hzs;refine ⟨_,aj (aQ (i:=2) cA.nd rfl (Or.inl rfl) (be (af)))
   (aj (cs PassesOwn.never rfl (uy (by rfl) T.eC (aa (ap) (aa (ap) (af)))) (au (i:=3) cA.nd rfl (Or.inr rfl)) (aj (aQ (i:=4) cA.nd rfl (Or.inl rfl) (ng (gm rfl hr) rfl (by rfl) T.fB gu (by rfl) T.xc qb (aa (aP (N':=["line","many"]) (n:=1) (fi:=[3]) (g:=aU 0) rfl (aX (ah (top 58)) ["lines","sieve","found","many","rows","group"] (by decide +kernel)) (aH (pv 0)) (λs H fp=>au (i:=0) (show (["line","many"]:List Str).Nodup by decide +kernel) rfl (Or.inl rfl) (.inr rfl)) (λs H fp=>cq (aK (ef) (aI (r:=dq K) ba (by rfl) T.b7 PySem.boot_len (aa (vO (K:=K) rfl PySem.F.plainAttrs_str PySem.F.slot_str_split PySem.F.type_str_split fF (pv 0) (aa (ay) (af))) (af))) (pv 1) (aJ _))) (λs H fp=>pv 0)) (af))))
   (ak (bA (aK (r:=qt K) (iJ hr) (pv 4) (be (af)) (aJ _)) (ak (cs PassesOwn.never rfl (aH (aq iI hr (by rfl) T.dc.mg T.dc.fn.kp T.dc.bd .nil aC (aa (aP (N':=["row"]) (n:=1) (fi:=[]) (g:=aU 0) rfl (aX (ah (top 58)) ["lines","sieve","found","many","rows","group"] (by decide +kernel)) (aH (pv 4)) (λs H fp=>au (i:=0) (show (["row"]:List Str).Nodup by decide +kernel) rfl (Or.inl rfl) (.inr rfl)) (λs H fp=>aO) (λs H fp=>vO (K:=K) rfl PySem.F.plainAttrs_str PySem.F.slot_str_split PySem.F.type_str_split fF (pv 0) (aa (ay) (af)))) (aa (pv 1) (af))))) (au (i:=5) cA.nd rfl (Or.inl rfl)) (ak (cx (b6 PySem.F.plainAttrs_list PySem.F.slot_list_append PySem.F.type_list_append bG (pv 2) (aa (aq iw hr (by rfl) T.c7.mg T.c7.fn.kp T.c7.bd .nil aC (aa (aP (N':=["row"]) (n:=1) (fi:=[]) (g:=aU 0) rfl (aX (ah (top 58)) ["lines","sieve","found","many","rows","group"] (by decide +kernel)) (aH (pv 5)) (λs H fp=>au (i:=0) (show (["row"]:List Str).Nodup by decide +kernel) rfl (Or.inl rfl) (.inr rfl)) (λs H fp=>aO) (λs H fp=>aP (wi:=zr K (pN 0)) (N':=["word"]) (n:=1) (fi:=[]) (g:=aU 0) rfl (uG (ah (top 58)) (by decide +kernel)) (aH (pv 0)) (λs H fp=>au (i:=0) (show (["word"]:List Str).Nodup by decide +kernel) rfl (Or.inl rfl) (.inr rfl)) (λs H fp=>aO) (λs H fp=>bJ (aa (ay) (aa (pv 0) (af)))))) (af))) (af))))))) (aZ)))))
   (ak (ax (aq gM hr (by rfl) T.cJ.mg T.cJ.fn.kp T.cJ.bd .nil aC (aa (pv 2) (af)))))),?_⟩
  refine ⟨NW _,λF hF=>?_⟩;have sF:ae H (upd H F (.lst [])):=ae.new hF;have hFF:(upd H F (.lst [])) F=some (.lst []):=ab;generalize upd H F (.lst [])=H1 at sF hFF ⊢;refine ⟨1,13,rfl,⟨by decide,by decide,by decide,by decide⟩,?_⟩;refine gr (λi σ H2=>(∃ u3 u4 u5,σ=[some (.ref a),some (.ref t),some (.ref F),u3,u4,u5])/\ae H H2/\∃ (sI:List V) (fs:List (List Pt)),H2 F=some (.lst sI)/\fs.Perm ((List.range i).flatMap λm=>pM s' l (ms.map λz=>Txt.split z " ") (m+1))/\aB K (wo F H2) sI (fs.map br)) ⟨⟨_,_,_,rfl⟩,sF,[],[],hFF,.nil,.nil⟩ (λi σ H2 hi q=>?_) (λσ H2 q=>?_)
  ·obtain ⟨q0,s2,sI,fs,hF2,hfs,dnf⟩:=q;apply wD q0;clear q0;intro u3 u4 u5;have Iu:i<12:=hi;have hfl:sI.length<64:=by
    rw [dnf.length,NE,hfs.length_eq];exact Ot (CP rok (by lia)) rok.1
   have e1:((1:Int)+(i:Int))=((i+1:Nat):Int):=by lia
   rw [e1];refine ⟨_,rfl,a,rfl,⟨_,s2.seq hqa⟩,λM hM=>?_⟩;refine aF (K:=K) (xs:=zs.map V.str) (λj acc σ H3=>(∃ u,σ=[u,some (.int ((i+1:Nat):Int))])/\ae H2 H3/\acc=((zs.take j).filter λz=>decide ((Txt.split z " ").length=i+1)).map V.str) ab ⟨⟨_,rfl⟩,ae.new hM,rfl⟩ (λj acc σ H3 _ _ q=>(s2.trans q.2.1).seq hqa) (λj x acc σ H3 hx hMx q=>?_) (λacc σ H3 hM3 q=>?_)
   ·obtain ⟨q0,s3,rfl⟩:=q;apply bP q0;clear q0;intro u;obtain ⟨z,hz,rfl⟩:=b0 hx;have hj:=aG hz;obtain ⟨ws,hln⟩:=hzs z (NF hz);have hsz:=(hln.ok (by decide)).2;have hl3:((zs.take j).filter λz=>decide ((Txt.split z " ").length=i+1)).length<=64:=NM (N8 _ _) (by rw [NR];lia);have et:zs.take (j+1)=zs.take j++[z]:=by rw [NY,hz];rfl
    refine ⟨_,rfl,rfl,z," ",rfl,rfl,(by decide),NM (OJ hsz 2) (by decide),λL hL=>⟨L,_,rfl,.inl (.of ab),_,rfl,rfl,_,rfl,?_⟩⟩;have sL:ae H3 (upd H3 L (.lst ((Txt.split z " ").map V.str))):=ae.new hL;have hM4:=sL _ _ hMx;rw [et,Oe,NE];by_cases e:(Txt.split z " ").length=i+1
    ·have e2:[z].filter (λz=>decide ((Txt.split z " ").length=i+1))=[z]:=OH (decide_eq_true e);rw [e2,NS,decide_eq_true (by rw [e])];exact bL ⟨_,rfl,_,hM4,small (by rw [NE];lia),_,ab,⟨_,rfl⟩,ar hM (s3.trans sL),rfl⟩
    ·have e2:[z].filter (λz=>decide ((Txt.split z " ").length=i+1))=[]:=OI (λz=>e (of_decide_eq_true z));rw [e2,N6,decide_eq_false (λz=>e (by injection z with z;lia))];exact bf ⟨_,hM4,⟨_,rfl⟩,s3.trans sL,rfl⟩
   ·obtain ⟨_,s3,rfl⟩:=q;rw [NE,NI (NH _)] at hM3;have hfz:(zs.filter λz=>decide ((Txt.split z " ").length=i+1)).length<64:=Ot (N8 _ _) h64;have hdl:=kW (zs.filter λz=>decide ((Txt.split z " ").length=i+1));refine ⟨M,_,rfl,.inl hM3,by lia,by lia,λS rows hS hrp hru=>?_⟩;have hol:=Bw (m:=i+1) a9 hup hrp hru;have hrz:∀ z∈rows,∃ ws,jV 12 z ws:=λz hz=>hzs z (Oc.mp ((uT hrp).mp hz)).1;have hrl:rows.length<64:=by rw [hrp.length_eq];lia
    have E9:rows.isEmpty=(ofL (ms.map λz=>Txt.split z " ") (i+1)).isEmpty:=by rw [<-hol,EO]
    have sS:ae H3 (upd H3 S (.lst (rows.map V.str))):=ae.new hS;have hSS:(upd H3 S (.lst (rows.map V.str))) S=some (.lst (rows.map V.str)):=ab;generalize upd H3 S (.lst (rows.map V.str))=H4 at sS hSS ⊢;have s24:=s3.trans sS;refine ⟨_,rfl,NW _,λE hE=>?_⟩;have sE:ae H4 (upd H4 E (.lst [])):=ae.new hE;refine ⟨_,_,.lst (.of (sE _ _ hSS)) (d6 λz hz=>by obtain ⟨ws,h⟩:=hrz z hz;exact (h.ok (by decide)).1),.lst (.of ab) .nil,uJ _,_,rfl,?_⟩;rw [mQ,Po];have s25:=s24.trans sE;have hS5:=sE _ _ hSS;generalize upd H4 E (.lst [])=H5 at s25 hS5 ⊢;have s05:=s2.trans s25;have hF5:=s25 _ _ hF2;have dn5:aB K (wo F H5) sI (fs.map br):=dnf.same (ck s25);clear sE hE s24 hSS sS hS hM3 s3 hM;cases hem:rows.isEmpty with
    | true=>
     refine bf ⟨⟨_,_,_,rfl⟩,s05,sI,fs,hF5,?_,dn5⟩;have:pM s' l (ms.map λz=>Txt.split z " ") (i+1)=[]:=by
      unfold pM;rw [<-E9,hem];rfl
     rw [tU,this,N6];exact hfs
    | false=>
     have eM:pM s' l (ms.map λz=>Txt.split z " ") (i+1)=(prt (i+1) s' l 13 (ofL (ms.map λz=>Txt.split z " ") (i+1))).map λg'=>bi (g'.map kc) (i+1):=by
      unfold pM;rw [<-E9,hem];rfl
     have MK:ofL (ms.map λz=>Txt.split z " ") (i+1)≠[]:=λe=>by rw [e,hem] at E9;cases E9
     have gok:=HF rok (Nat.succ_pos i) Iu MK;refine bL ?_;refine ⟨_,rfl,S,rfl,⟨_,.of hS5⟩,λRw hRw=>?_⟩;refine aF (K:=K) (xs:=rows.map V.str) (λj acc σ H6=>(∃ u,σ=[u])/\ae H5 H6/\aB K (wo F (wo Rw H6)) acc (((rows.take j).map λz=>Txt.split z " ").map wsD)) ab ⟨⟨_,rfl⟩,ae.new hRw,.nil⟩ (λj acc σ H6 _ _ q=>.of (q.2.1 _ _ hS5)) (λj x acc σ H6 hx hRx q=>?_) (λIC σ H6 hR6 q=>?_)
     ·obtain ⟨q0,s6,dn6⟩:=q;apply bP q0;clear q0;intro u;obtain ⟨z,hz,rfl⟩:=b0 hx;have hj:=aG hz;obtain ⟨ws,hln⟩:=hrz z (NF hz);have hlo:=hln.ok (by decide);have hal:acc.length<=64:=by rw [dn6.length,NE,NE,NR];lia
      refine bV ⟨_,rfl,rfl,z," ",rfl,rfl,(by decide),NM (OJ hlo.2 2) (by decide),λL hL=>?_⟩;have sL:ae H6 (upd H6 L (.lst ((Txt.split z " ").map V.str))):=ae.new hL;have hLR:L≠Rw:=(ao hRx hL).symm;have hLF:L≠F:=(ao (s6 _ _ hF5) hL).symm;refine ⟨_,sL _ _ hRx,small (by lia),_,ab,⟨_,rfl⟩,ar hRw (s6.trans sL),?_⟩;rw [iD,DA hz,NS];refine (dn6.same (ck (ck sL))).append (.cons (.lst (xs:=(Txt.split z " ").map V.str) (.of (by rw [aS hLF,aS hLR];exact ab)) ?_) .nil);rw [hln.split];exact d6 λw hw=>(hln.wd w hw).ok
     ·obtain ⟨_,s6,dn6⟩:=q;rw [NE,NI (NH _),hol] at dn6;have hRF:Rw≠F:=(ao hF5 hRw).symm;have s06:=s05.trans s6;have hF6:=s6 _ _ hF5;have hB6:ae (wo F H6) H6:=bc;have hqB:SqL K (wo F H6) Rw IC:=.of (by rw [aS hRF];exact hR6);have hdB:aB K (wo F H6) IC ((ofL (ms.map λz=>Txt.split z " ") (i+1)).map wsD):=dn6.same (ck bc);have hmu:mu (i+1) (ofL (ms.map λz=>Txt.split z " ") (i+1))<13:=Ot (GV _ _) (by lia);refine ⟨_,rfl,wo F H6,Rw,IC,i+1,_,t,s',l,rfl,hB6,hqB,hdB,gok,s06.fV hqt,hmu,λG ys gs C H7 hG s7 hGG hgs hBC hC7 hCn dnC=>⟨G,rfl,⟨_,.of hGG⟩,?_⟩⟩;have hCF:C F=none:=by
       cases e:C F with
       | none=>rfl
       | some o=>
        rcases hCn F (by rw [e];simp) with z | z
        ·exact absurd cX z
        ·rw [hF6] at z;cases z
      have s57:=s6.trans s7;have s07:=s06.trans s7;have hF7:=s7 _ _ hF6;have hGF:G≠F:=(ao hF6 hG).symm;have Lx:aB K (wo F H7) sI (fs.map br):=dn5.same (ck s57);have hyl:ys.length=gs.length:=by rw [dnC.length,NE]
      have hgl:gs.length<64:=by
       rw [hgs.length_eq];exact Ot (iq gok.ne) gok.le
      have Ml:∀ g∈gs,GOk (i+1) g:=λg hg=>ve gok g (hgs.mem_iff.mp hg);refine cM (K:=K) (xs:=ys) (λj σ H8=>(∃ u3 u4 u5,σ=[some (.ref a),some (.ref t),some (.ref F),u3,u4,u5])/\ae (wo F H7) H8/\∃ fa:List V,H8 F=some (.lst fa)/\aB K (wo F H8) fa ((fs++(gs.take j).map λg'=>bi (g'.map kc) (i+1)).map br)) ⟨⟨_,_,_,rfl⟩,bc,sI,hF7,by rw [List.take_zero,OU,N6];exact Lx⟩ (λj σ H8 _ q=>.of (q.2.1 _ _ (by rw [aS hGF];exact hGG))) (λj x σ H8 hx q=>?_) (λσ H8 q=>?_)
      ·obtain ⟨⟨w3,w4,w5,rfl⟩,s8,fa,hF8,AR⟩:=q;have hC8:ae C H8:=(cY hCF hC7).trans s8;obtain ⟨d,hd,hdx⟩:=dnC.get hx;rw [NK] at hd;obtain ⟨g,hg,rfl⟩:∃ g,gs[j]? = some g/\d=gD g:=by
        cases e:gs[j]? with
        | none=>rw [e] at hd;cases hd
        | some g=>rw [e] at hd;cases hd;exact ⟨g,rfl,rfl⟩
       have hj:=aG hg;have ok:=Ml g (NF hg);have hle:=ok.le;obtain ⟨ag,xg,rfl,hqg,hdg⟩:=xm hdx;have hxg:xg.length=g.length:=by rw [hdg.length,NE]
       have NC:fa.length<=128:=by
        rw [AR.length,NE,NX,NE,NR,<-NE (f:=br),<-dn5.length];lia
       refine ⟨_,rfl,.inl ⟨rfl,_,.of hF8⟩,_,rfl,ag,rfl,⟨_,hC8.seq hqg⟩,λM hM=>?_⟩;refine aF (K:=K) (xs:=xg) (λm acc σ H9=>(∃ u,σ=[u])/\ae H8 H9/\aB K (wo M H9) acc (((g.take m).map kc).map br)) ab ⟨⟨_,rfl⟩,ae.new hM,.nil⟩ (λm acc σ H9 _ _ q=>(hC8.trans q.2.1).seq hqg) (λm x acc σ H9 hx hMx q=>?_) (λacc σ H9 hM9 q=>?_)
       ·obtain ⟨q0,s9,dn9⟩:=q;apply bP q0;clear q0;intro u;obtain ⟨ws,r,hw,rfl,hqr⟩:=gg hdg hx;have hi:=aG hw;have mv:=ok.row ws (NF hw);have hal:acc.length<=64:=by rw [dn9.length,NE,NE,NR];lia
        refine bV ⟨_,rfl,r,rfl,⟨_,(hC8.trans s9).seq hqr⟩,λI hI=>?_⟩;have hIM:I≠M:=(ao hMx hI).symm;refine aF (K:=K) (xs:=ws.map V.str) (λn aV σ2 H10=>(∃ u,σ2=[u])/\ae H9 H10/\aB K (tO H10) aV (((ws.take n).map Pt.word).map Pt.dat)) ab ⟨⟨_,rfl⟩,ae.new hI,.nil⟩ (λn aV σ2 H10 _ _ q=>((hC8.trans s9).trans q.2.1).seq hqr) (λn y aV σ2 H10 hy hIx q=>?_) (λaV σ2 H10 MC q=>?_)
        ·obtain ⟨q0,s10,vY⟩:=q;apply bP q0;clear q0;intro u;obtain ⟨w',hw',rfl⟩:=b0 hy;have hn:=aG hw';have hwk:=mv.2 w' (NF hw');have Jz:aV.length+1<=20:=by rw [vY.length,NE,NE,NR];lia
         refine bV ⟨_,rfl,(by show 2<=sizeLine;decide),λt ht=>?_⟩;have st:ae H10 (upd H10 t (.tup [.str "word",.str w'])):=ae.new ht;have pt:Fi (upd H10 t (.tup [.str "word",.str w'])) (.ref t) (.word w'):=⟨t,rfl,ab⟩;have hI4:=st _ _ hIx;refine ⟨_,hI4,small (by lia),_,ab,⟨_,rfl⟩,ar hI (s10.trans st),?_⟩;have et:(ws.take (n+1)).map Pt.word=(ws.take n).map Pt.word++[.word w']:=by rw [NY,hw'];simp
         rw [et,NS];have tt:=Ej (ys:=aV++[.ref t]) hI4;exact (vY.same ((GC st).trans tt)).append (.cons ((pt.den hwk).same tt) .nil)
        ·obtain ⟨_,s10,vY⟩:=q;rw [NE,NI (NH _)] at vY;have Ll:=s10 _ _ hMx;refine ⟨_,Ll,small (by lia),_,ab,⟨_,rfl⟩,ar hM (s9.trans s10),?_⟩;rw [iD,NY,hw];simp only [Option.toList,NS,N1,OU];refine (dn9.same (ck s10)).append (.cons (.lst (xs:=aV) (.of (by rw [aS hIM];exact MC)) (vY.same (HR Ll))) .nil)
       ·obtain ⟨_,s9,dn9⟩:=q;rw [hxg,NI (NH _)] at dn9;refine ⟨M,acc,g.map kc,i+1,rfl,.of hM9,dn9.same bc,λe=>ok.ne (Ol.mp e),by rw [NE];lia,λps hps=>?_,Iu,λD Me H10 hD s10 hDD hDl dnD=>?_⟩
        ·obtain ⟨ws,hws,rfl⟩:=NJ.mp hps;have mv:=ok.row ws hws;refine ⟨λp hp=>?_,by unfold kc;rw [NE];exact mv.1⟩;obtain ⟨w',hw',rfl⟩:=NJ.mp hp;exact mv.2 w' hw'
        ·have IK:=s9.trans s10;have rG:=IK _ _ hF8;have hDF:D≠F:=(ao (s9 _ _ hF8) hD).symm;refine ⟨F,fa,.ref D,rfl,rfl,rG,small (by lia),⟨_,_,_,rfl⟩,ar cX (s8.trans IK),_,ab,?_⟩;rw [iD,NY,hg];simp only [Option.toList,NS,N1,OU,<-Pc];rw [NS] at AR;exact (AR.same (ck IK)).append (.cons (.lst (xs:=Me) (.of (by rw [aS hDF];exact hDD)) (HH rG (dnD.same bc))) .nil)
      ·obtain ⟨⟨w3,w4,w5,rfl⟩,s8,fa,hF8,AR⟩:=q;rw [hyl,NI (NH _)] at AR;have s08:ae H H8:=(cY hF s07).trans s8;refine ⟨⟨_,_,_,rfl⟩,s08,fa,_,hF8,?_,AR⟩;rw [tU,eM];exact hfs.append (hgs.map _)
  ·obtain ⟨q0,s2,sI,fs,hF2,hfs,dnf⟩:=q;apply wD q0;clear q0;intro u3 u4 u5;have hfg:fs.Perm (gth s' l (ms.map λz=>Txt.split z " ")):=hfs.trans (wU rok);have qV:AU fs:=λps hp=>Dw rok ps (hfg.mem_iff.mp hp);have hfl:fs.length<64:=by rw [hfg.length_eq];exact Ot zN rok.1
   refine ⟨_,rfl,F,sI,fs,rfl,.of hF2,by rw [dnf.length,NE];exact hfl,dnf.same bc,λps hps=>⟨NM (qV ps hps).2.2 (by decide),λp hp=>((qV ps hps).1 p hp).ok⟩,λD acc H3 ps hD s3 hDD hp fQ dn=>?_⟩;exact k D ms acc H3 ps a9 hup (s2.free hD) (s2.trans s3) hDD (hp.trans hfg) fQ (λq hq=>qV q (hp.mem_iff.mp hq)) (by rw [hp.length_eq];exact hfl) (dn.same (bW s2.ll))
theorem cU:aE ["deck","most","shapes","found","k","words","turn"] ["deck","most"] (ah (top 52)):=⟨rfl,rfl,rfl,by decide +kernel,rfl,by decide +kernel,by decide +kernel⟩
set_option maxHeartbeats 8000000 in
theorem rY (T:Tx K mg A):aA P w K mg base CX0 4 A.jx A.jU ["deck","most"] (l8 K):=by
 have aN:aA P w K mg base CX0 3 A.df A.dh ["deck","many"] (dw K):=(eu T).mono (by decide);have k6:aA P w K mg base CX0 3 A.gY A.hJ ["deck"] (je K):=(nA T).mono (by decide);have kJ:aA P w K mg base CX0 3 A.gZ A.g5 ["deck","most"] (jD K):=(nH T).mono (by decide);refine T.ju.fn.ok cU (λvs H Q E h=>?_) (λcdv Ar outer s H vs Q E hr h=>?_)
 ·obtain ⟨d,m,n,rfl,_⟩:=h;rfl
 ·obtain ⟨d,m,n,rfl,hdk,hn,hm0,hm1,k⟩:=h;refine ⟨_,aj (jf (i:=2) (N':=["k","deck"]) (n:=1) (fi:=[0]) (g:=aU 0) cU.nd rfl (Or.inl rfl) rfl (aX (ah (top 52)) ["deck","most","shapes","found","k","words","turn"] (by decide +kernel)) (dB (by rfl) T.eC (aa (bX gQ (ap) (aq aN hr (by rfl) T.av.mg T.av.fn.kp T.av.bd .nil aC (aa (pv 0) (aa (ap) (af))))) (af))) (λs H fp=>au (i:=0) (show (["k","deck"]:List Str).Nodup by decide +kernel) rfl (Or.inl rfl) (.inr rfl)) (λs H fp=>aO) (λs H fp=>vO (K:=K) rfl PySem.F.plainAttrs_str PySem.F.slot_str_split PySem.F.type_str_split fF (aq kJ hr (by rfl) T.eT.mg T.eT.fn.kp T.eT.bd .nil aC (aa (pv 1) (aa (aR (r:=cE K) aT (be (aa (ap) (aa (ap) (aa (ap) (af))))) (aq aN hr (by rfl) T.av.mg T.av.fn.kp T.av.bd .nil aC (aa (pv 1) (aa (ap) (af)))) (λ_ _=>rfl)) (af)))) (aa (ay) (af))))
   (aj (aQ (i:=3) cU.nd rfl (Or.inl rfl) (be (af)))
   (aj (cs PassesOwn.never rfl (dB (by rfl) T.eC (aa (aq aN hr (by rfl) T.av.mg T.av.fn.kp T.av.bd .nil aC (aa (pv 0) (aa (bX gQ (pv 1) (ap)) (af)))) (af))) (au (i:=4) cU.nd rfl (Or.inl rfl)) (aj (aQ (i:=5) cU.nd rfl (Or.inl rfl) (e9 (r:=lD K) gx (by rfl) T.oE lG (aa (aR (r:=cE K) aT (pv 2) (aq aN hr (by rfl) T.av.mg T.av.fn.kp T.av.bd .nil aC (aa (pv 0) (aa (aI (r:=dq K) ba (by rfl) T.b7 PySem.boot_len (aa (pv 2) (af))) (af)))) (λ_ _=>rfl)) (af))))
   (aj (cs PassesOwn.never rfl (dB (by rfl) T.eC (aa (aq aN hr (by rfl) T.av.mg T.av.fn.kp T.av.bd .nil aC (aa (pv 0) (aa (ap) (af)))) (af))) (au (i:=6) cU.nd rfl (Or.inl rfl)) (ak (rC (aq k6 hr (by rfl) T.eU.mg T.eU.fn.kp T.eU.bd .nil aC (aa (pv 0) (af))) (yF (pv 5) (aq aN hr (by rfl) T.av.mg T.av.fn.kp T.av.bd .nil aC (aa (pv 0) (aa (aI (r:=dq K) ba (by rfl) T.b7 PySem.boot_len (aa (pv 5) (af))) (af)))) set_list))))
   (aj (cx (b6 PySem.F.plainAttrs_list PySem.F.slot_list_append PySem.F.type_list_append bG (pv 3) (aa (b6 (r:=rJoin K) PySem.F.plainAttrs_str PySem.F.slot_str_join PySem.F.type_str_join pU (ay) (aa (pv 5) (af))) (af))))
   (ak (bA (aK (ef) (aq aN hr (by rfl) T.av.mg T.av.fn.kp T.av.bd .nil aC (aa (pv 0) (aa (ap) (af)))) (ap) (aJ _)) (ak (cx (b6 PySem.F.plainAttrs_list PySem.F.slot_list_append PySem.F.type_list_append bG (pv 3) (aa (aR (r:=cE K) aT (pv 3) (aq aN hr (by rfl) T.av.mg T.av.fn.kp T.av.bd .nil aC (aa (pv 0) (aa (aI (r:=dq K) ba (by rfl) T.b7 PySem.boot_len (aa (pv 3) (af))) (af)))) (λ_ _=>rfl)) (af))))) (aZ)))))))
   (ak (ax (fC (r:=yB K) lI (pv 3) (ip) (ig (pv 1))))))),?_⟩
  have h1:((" " : Str)).length=1:=rfl;refine ⟨_,rfl,d,3,n,rfl,hdk,by lia,by decide,by decide,λr H1 s1 dk1 r0 r1=>⟨_,_,rfl,rfl,1+r,rfl,by lia,by lia,λSH hSH=>?_⟩⟩;have E2:d≠SH:=dk1.ne hSH;refine gw (λi acc σ H3=>(∃ u,σ=[u,some (.ref d)])/\ae (wo d H1) H3/\Dk H3 d (n+1+81 * i)/\acc.length=i/\∀ x∈acc,∃ (s:Addr) (ws:List Str),x = .ref s/\s≠d/\s≠SH/\H3 s=some (.lst (ws.map V.str))/\wL ws) ab ⟨⟨_,rfl⟩,bc.trans (ae.new hSH),dk1.same (ae.new hSH),rfl,λx hx=>by cases hx⟩ (λi acc σ H3 hi hD3 q=>?_) (λacc σ H3 hD3 q=>?_)
  ·obtain ⟨q0,s3,dk3,hal,hsh⟩:=q;apply bP q0;clear q0;intro u;refine bV ?_;refine ⟨_,rfl,(by show 3<=sizeLine;decide),λp hp=>⟨_,rfl,d,3,_,rfl,dk3.same (ae.new hp),by lia,by decide,by decide,λr3 H4 s4 dk4 q0 q1=>?_⟩⟩;have hp4:H4 p=some (.lst [.int 3,.int 6,.int 12]):=bT s4 ab (dk3.ne hp);obtain ⟨v,hv,hv0,hv1⟩:=F5 q0 q1;refine ⟨p,_,r3,_,rfl,rfl,.of hp4,hv,d,v,_,rfl,dk4,by lia,hv0,hv1,λx ws H5 s5 dk5 hln=>?_⟩;have hlo:=hln.ok (by lia);have Hc:ae (wo d H3) H5:=bp (bp (bc.trans (ae.new hp)) s4) s5;have Kl:H5 SH=some (.lst acc):=bT Hc hD3 E2;refine ⟨rfl,x," ",rfl,rfl,by rw [h1];decide,NM (OJ hlo.2 2) (by decide),λl hl=>?_⟩;have sl:ae H5 (upd H5 l (.lst ((Txt.split x " ").map V.str))):=ae.new hl;have Ls:l≠SH:=(ao Kl hl).symm;have hld:l≠d:=(dk5.ne hl).symm;refine ⟨acc,sl _ _ Kl,small (by lia),_,ab,⟨_,rfl⟩,ar (by rw [aS E2.symm];exact hSH) (bp s3 (Hc.trans sl)),((dk5.same sl).upd E2).mono (by lia),by rw [NX,hal];rfl,λy hy=>?_⟩;rcases Oa.mp hy with hy | hy
   ·obtain ⟨s,ws',rfl,g1,g2,g3,g4⟩:=hsh y hy;exact ⟨s,ws',rfl,g1,g2,by rw [aw g2];exact sl _ _ (bT Hc g3 g1.symm),g4⟩
   ·simp only [NQ] at hy;subst hy;refine ⟨l,ws,rfl,hld,Ls,by rw [aw Ls,ab,hln.split],hln.pos,NM hln.le (by lia),hln.wd⟩
  ·obtain ⟨_,s3,dk3,hal,hsh⟩:=q;have EU:ae (wo d H) (wo d H3):=cY cX (bp s1 s3);have IV:(wo d H3) SH=some (.lst acc):=by rw [aS E2.symm];exact hD3
   have Kj:Ib (wo d H3) acc:=λx hx=>by
    obtain ⟨s,ws,rfl,g1,g2,g3,g4⟩:=hsh x hx;exact ⟨s,ws,rfl,by rw [aS g1];exact g3,g4⟩
   have hds:(wo d H3) d=none:=cX;have Hq:ae (wo d H3) H3:=bc;refine ⟨NW _,λF hF=>?_⟩;have hdF:d≠F:=dk3.ne hF;have hFs:(wo d H3) F=none:=Hq.free hF;have hFH:H F=none:=by
    have:=EU.free hFs
    rwa [aS hdF.symm] at this
   generalize wo d H3=Hs at EU IV Kj hds Hq hFs;have sF:ae H3 (upd H3 F (.lst [])):=ae.new hF;refine ⟨_,rfl,_,rfl,_,_,rfl,rfl,d,_,_,rfl,dk3.same sF,by lia,by lia,by lia,λr2 H4 s4 dk4 q0 q1=>⟨r2,rfl,by lia,by lia,?_⟩⟩;have Na:1<=acc.length:=by lia
   refine gr (λi σ H5=>(∃ u4 u5 u6,σ=[some (.ref d),some (.int m),some (.ref SH),some (.ref F),u4,u5,u6])/\ae Hs H5/\Dk H5 d (n+400+20 * i)/\∃ ls:List Str,H5 F=some (.lst (ls.map V.str))/\ls.length<=2 * i/\∀ x∈ls,∃ ws,jV 12 x ws)
    ⟨⟨_,_,_,rfl⟩,λb o e=>s4 b o (by rw [aS (ao e hds)];exact sF b o (Hq b o e)),dk4.mono (by lia),[],bT s4 ab hdF,NH _,λx hx=>by cases hx⟩ (λi σ H5 hi q=>?_) (λσ H5 q=>?_)
   ·obtain ⟨q0,s5,dk5,ls,hF5,hll,Hf⟩:=q;apply wD q0;clear q0;intro u4 u5 u6;have t9:∀ {Ha Hb:Hp},ae Hs Ha->ae (wo d Ha) Hb->ae Hs Hb:=λsa sb b o e=>sb b o (by rw [aS (ao e hds)];exact sa b o e);refine ⟨_,rfl,_,rfl,_,rfl,SH,_,rfl,.inl (.of (s5 _ _ IV)),d,_,_,rfl,dk5,by lia,by lia,by lia,λrk H6 s6 dk6 k0 k1=>?_⟩;have s6':=t9 s5 s6;have hF6:=bT s6 hF5 hdF;obtain ⟨jj,rfl⟩:=Pg (k0:(0:Int)<=rk);have hjj:jj<acc.length:=by lia
    have hxj:acc[jj]? = some acc[jj]:=NG hjj;obtain ⟨sA,ws,ex,hsA,hws⟩:=Kj acc[jj] (NF hxj);refine ⟨SH,acc,_,_,rfl,rfl,.of (s6' _ _ IV),bo hxj,sA,_,by rw [ex],.inl (.of (s6' _ _ hsA)),λW hW=>?_⟩;have sW:ae H6 (upd H6 W (.lst (ws.map V.str))):=ae.new hW;have hdW:d≠W:=dk6.ne hW;have hFW:F≠W:=ao hF6 hW;have hWs:Hs W=none:=s6'.free hW;refine ⟨_,rfl,d,3,_,rfl,dk6.same sW,by lia,by decide,by decide,λr3 H8 s8 dk8 g0 g1=>⟨r3,rfl,by lia,by lia,?_⟩⟩;refine gr (λj σ H9=>(∃ u4 u6,σ=[some (.ref d),some (.int m),some (.ref SH),some (.ref F),u4,some (.ref W),u6])/\ae Hs H9/\Dk H9 d (n+400+20 * i+2+7 * j)/\H9 F=some (.lst (ls.map V.str))/\∃ l:List Str,H9 W=some (.lst (l.map V.str))/\wL l)
     ⟨⟨_,_,rfl⟩,t9 (s6'.trans sW) s8,dk8.mono (by lia),bT s8 (sW _ _ hF6) hdF,ws,bT s8 ab hdW,hws⟩ (λj σ H9 hj q=>?_) (λσ H9 q=>?_)
    ·obtain ⟨q0,s9,dk9,hF9,l,hW9,hl9⟩:=q;apply su q0;clear q0;intro u4 u6;have hlp:=hl9.pos;have hlq:=hl9.le;refine ⟨_,rfl,d,_,rfl,dk9,by lia,λx H10 s10 L4 hx=>?_⟩;have K7:=bT s10 hW9 hdW;refine ⟨_,rfl,_,rfl,_,rfl,W,_,rfl,.inl (.of K7),d,_,_,rfl,L4,by lia,by rw [NE];lia,by rw [NE];lia,λrj H11 s11 Mg j0 j1=>?_⟩;have L3:=bT s11 K7 hdW;exact ⟨W,_,rj,_,rfl,rfl,L3,Iz j0 j1,⟨_,_,rfl⟩,ar hWs (t9 (t9 s9 s10) s11),(Mg.upd hdW).mono (by lia),by rw [aw hFW];exact bT s11 (bT s10 hF9 hdF) hdF,l.set rj.toNat x,by rw [ab,List.map_set],hl9.set hx⟩
    ·obtain ⟨q0,s9,dk9,hF9,l,hW9,hl9⟩:=q;apply su q0;clear q0;intro u4 u6;have hlp:=hl9.pos;have hlq:=hl9.le;refine ⟨_,rfl,.inl ⟨rfl,_,.of hF9⟩,rfl,_,rfl," ",W,l,rfl,rfl,.of hW9,lr (λy hy=>(hl9.wd y hy).len) (by rw [h1];lia),F,_,_,rfl,rfl,hF9,small (by rw [NE];lia),?_⟩;have L8:(upd H9 F (.lst (ls.map V.str++[.str (Txt.join " " l)]))) F=some (.lst ((ls++[Txt.join " " l]).map V.str)):=by rw [ab];simp
     have Cv:∀ x∈ls++[Txt.join " " l],∃ ws,jV 12 x ws:=λx hx=>by
      rcases Oa.mp hx with hx | hx
      ·exact Hf x hx
      ·simp only [NQ] at hx;subst hx;exact ⟨l,hl9.line⟩
     refine ⟨_,rfl,d,6,_,rfl,dk9.upd hdF,by lia,by decide,by decide,λr5 H13 s13 JS t0 t1=>⟨rfl,_,rfl,?_⟩⟩;have Fu:=bT s13 L8 hdF;have J4:=t9 (ar (D:=F) (o:=.lst (ls.map V.str++[.str (Txt.join " " l)])) hFs s9) s13;have IY:(ls++[Txt.join " " l]).length=ls.length+1:=by simp
     refine xn (λ_=>?_) (λ_=>?_)
     ·refine ⟨_,rfl,.inl ⟨rfl,_,.of Fu⟩,_,rfl,_,rfl,_,rfl,F,_,rfl,.inl (.of Fu),d,_,_,rfl,JS,by lia,by rw [NE];lia,by rw [NE];lia,λrq H14 s14 Mu z0 z1=>?_⟩;rw [NE] at z1;obtain ⟨x,hx,hat⟩:=mX z0 z1;have K2:=bT s14 Fu hdF;refine ⟨F,_,_,_,rfl,rfl,.of K2,hat,F,_,_,rfl,rfl,K2,small (by rw [NE];lia),⟨_,_,_,rfl⟩,ar hFs (t9 J4 s14),(Mu.upd hdF).mono (by lia),(ls++[Txt.join " " l])++[x],by rw [ab];simp,by rw [NX,IY];simp;lia,λy hy=>?_⟩;rcases Oa.mp hy with hy | hy
      ·exact Cv y hy
      ·simp only [NQ] at hy;subst hy;exact Cv y hx
     ·exact ⟨⟨_,_,_,rfl⟩,J4,JS.mono (by lia),ls++[Txt.join " " l],Fu,by lia,Cv⟩
   ·obtain ⟨q0,s5,dk5,ls,hF5,hll,Hf⟩:=q;apply wD q0;clear q0;intro u4 u5 u6;refine ⟨_,rfl,_,rfl,m,rfl,F,_,rfl,.of hF5,λD hD=>?_⟩;rw [kZ hm0,<-List.map_take];have hdD:d≠D:=dk5.ne hD;have hDH:H D=none:=by
     have:=(EU.trans s5).free hD
     rwa [aS hdD.symm] at this
    exact k D (ls.take m.toNat) _ hDH ((EU.trans s5).trans (ae.new hD)) ((dk5.same (ae.new hD)).mono (by lia)) ab (λx hx=>Hf x (OQ hx)) (by rw [NR];lia)
end
end K39
namespace LG
open PySem L2
def nV (i:Nat):V:=V.int (i:Int)
noncomputable def EB (zs:List Str):List Str:=(my (bI [] zs)).choose
theorem zy (zs:List Str):(EB zs).Perm (bI [] zs)/\UpS (EB zs):=(my (bI [] zs)).choose_spec
theorem JN {zs ms:List Str} (hp:ms.Perm (bI [] zs)) (hu:UpS ms):ms=EB zs:=mr (hp.trans (zy zs).1.symm) hu (zy zs).2
noncomputable def Le (s l:Int) (zs:List Str):List (List Pt):=gth s l ((EB zs).map λz=>Txt.split z " ")
noncomputable def iY (s l:Int) (zs:List Str) (z:Str):Bool:=!((Le s l zs).any λp=>aM p (Txt.split z " "))
noncomputable def ki (s l:Int) (zs:List Str) (n:Nat):List Nat:=(List.range n).filter λi=>iY s l (zs.take i) (zs.getD i Str.empty)
theorem Di {α:Type}{f:α->Bool}{a b:List α} (h:a.Perm b):a.any f=b.any f:=by
 rw [N7,OA,OA];exact ⟨λ⟨x,h1,h2⟩=>⟨x,h.mem_iff.mp h1,h2⟩,λ⟨x,h1,h2⟩=>⟨x,h.mem_iff.mpr h1,h2⟩⟩
theorem wQ {s l:Int}{zs ms:List Str}{z:Str}{ps:List (List Pt)} (hp:ms.Perm (bI [] zs)) (hu:UpS ms) (hps:ps.Perm (gth s l (ms.map λz=>Txt.split z " "))):iY s l zs z = !(ps.any λp=>aM p (Txt.split z " ")):=by
 unfold iY Le;rw [<-JN hp hu,Di hps]
theorem yG {α:Type}{f:α->Bool} (l:List α):(l.filter f).isEmpty = !(l.any f):=by
 induction l with
 | nil=>rfl
 | cons a l ih=>
  rw [OP];cases h:f a with
  | true=>rw [OH h];rfl
  | false=>rw [OI (by rw [h];decide),ih];rfl
theorem zk {s l:Int}{zs:List Str}{n:Nat}:ki s l zs (n+1)=ki s l zs n++[n].filter λi=>iY s l (zs.take i) (zs.getD i Str.empty):=by
 unfold ki;rw [OV,Oe]
theorem Bi {s l:Int}{zs:List Str}{n:Nat}:(ki s l zs n).length<=n:=by
 unfold ki;exact NM (N8 _ _) (by rw [OB];exact NH _)
theorem tP {s l:Int}{zs:List Str}{n i:Nat}:i∈ki s l zs n↔i<n/\iY s l (zs.take i) (zs.getD i Str.empty)=true:=by
 unfold ki;rw [Oc,Oh]
end LG
namespace K39
open PySem L2 LG
section
variable {P:Program}{w:World}{K:PySem.W.Frag}{mg:Str->Option Value}{base:Heap}{A:Ad}
def qP (K:PySem.W.Frag) (P:Addr):Sp:=λvs H Q _=>∃ (z:Str) (a t:Addr) (zs:List Str) (s l:Int),vs=[.str z,.ref a,.ref t]/\Rd H a (.lst (zs.map V.str))/\zs.length<64/\(∀ z∈zs,∃ ws,jV 12 z ws)/\LOk z/\PyData.strOk z=true/\SqT K H t [.int s,.int l]/\bC P H /\
 ∀ H',ae (wo P H) H'->bC P H'->Q (.bl (iY s l zs z)) H'
theorem yx:aE ["line","lines","sieve"] ["line","lines","sieve"] (ah (top 42)):=⟨rfl,rfl,rfl,by decide +kernel,rfl,by decide +kernel,by decide +kernel⟩
set_option maxHeartbeats 8000000 in
theorem zj (T:Tx K mg A):aA P w K mg base CX0 21 A.n5 A.nX ["line","lines","sieve"] (qP K A.aD):=by
 have qx:aA P w K mg base CX0 20 A.qS A.rn ["pattern","line"] (pP K):=(vf T).mono (by decide);have jC:aA P w K mg base CX0 20 A.js A.jr ["lines","sieve"] (jW K A.aD):=(oV T).mono (by decide);refine T.pV.fn.ok yx (λvs H Q E h=>?_) (λcdv Ar outer s H vs Q E hr h=>?_)
 ·obtain ⟨z,a,t,zs,s,l,rfl,_⟩:=h;rfl
 ·obtain ⟨z,a,t,zs,s',l,rfl,hqa,h64,hzs,hz,hzk,hqt,hla,k⟩:=h;refine ⟨_,ak (ax (IM (aI (r:=HU K) (wy rfl) (by rfl) T.GI D8 (aa (aP (N':=["pattern","line"]) (n:=1) (fi:=[0]) (g:=aU 0) rfl (aX (ah (top 42)) ["line","lines","sieve"] (by decide +kernel)) (aH (aq jC hr (by rfl) T.gathered.mg T.gathered.fn.kp T.gathered.bd .nil aC (aa (pv 1) (aa (pv 2) (af))))) (λs H fp=>au (i:=0) (show (["pattern","line"]:List Str).Nodup by decide +kernel) rfl (Or.inl rfl) (.inr rfl)) (λs H fp=>aO) (λs H fp=>aq qx hr (by rfl) T.fits.mg T.fits.fn.kp T.fits.bd .nil aC (aa (pv 0) (aa (pv 1) (af))))) (af))))),?_⟩;refine ⟨_,rfl,_,rfl,a,t,zs,s',l,rfl,hqa,h64,hzs,hqt,hla,λD ms acc H1 ps a9 hup hD s1 la1 hDD hps fQ qV hpl fr hne dn=>⟨D,rfl,⟨_,.of hDD⟩,λM hM=>?_⟩⟩;have dn1:aB K H1 acc (ps.map br):=dn.same bt;have hal:acc.length=ps.length:=by rw [dn1.length,NE]
  refine aF (K:=K) (xs:=acc) (λj aV σ H2=>(∃ u,σ=[u,some (.str z)])/\ae H1 H2/\aV=((ps.take j).map λp=>aM p (Txt.split z " ")).map V.bl) ab ⟨⟨_,rfl⟩,ae.new hM,rfl⟩ (λj aV σ H2 _ _ q=>.of (q.2.1 _ _ hDD)) (λj x aV σ H2 hx hMx q=>?_) (λaV σ H2 hM2 q=>?_)
  ·obtain ⟨q0,s2,rfl⟩:=q;apply bP q0;clear q0;intro u;obtain ⟨p,hpj,hdp⟩:=cm dn1 hx;have hj:=aG hpj;have hl2:(((ps.take j).map λp=>aM p (Txt.split z " ")).map V.bl).length<=64:=by rw [NE,NE,NR];lia
   refine bV ⟨_,rfl,_,rfl,x,z,p,rfl,hdp.same s2,λq hq=>((qV p (NF hpj)).1 q hq).ok,hz,hzk,λH3 s3=>⟨_,s3 _ _ hMx,small (by lia),_,ab,⟨_,rfl⟩,ar hM (s2.trans s3),?_⟩⟩;rw [bj hpj,NS];rfl
  ·obtain ⟨_,s2,rfl⟩:=q;rw [hal,NI (NH _)] at hM2;refine ⟨M,_,rfl,.of hM2,_,rfl,?_⟩;have e:iY s' l zs z = !((ps.map λp=>aM p (Txt.split z " ")).any id):=by
    rw [wQ a9 hup hps,List.any_map];rfl
   have kk:=k H2 (s1.trans s2) (a8 la1 s2);rw [e] at kk;exact kk
def zX (K:PySem.W.Frag) (P:Addr):Sp:=λvs H Q _=>∃ (a t:Addr) (zs:List Str) (s l:Int),vs=[.ref a,.ref t]/\SqL K H a (zs.map V.str)/\zs.length<64/\(∀ z∈zs,∃ ws,jV 12 z ws)/\SqT K H t [.int s,.int l]/\bC P H /\
 ∀ D H',H D=none->ae (wo P H) H'->bC P H'->H' D=some (.lst ((ki s l zs zs.length).map nV))->Q (.ref D) H'
theorem Gn:aE ["lines","sieve"] ["lines","sieve"] (ah (top 43)):=⟨rfl,rfl,rfl,by decide +kernel,rfl,by decide +kernel,by decide +kernel⟩
set_option maxHeartbeats 8000000 in
theorem F7 (T:Tx K mg A):aA P w K mg base CX0 22 A.yb A.yK ["lines","sieve"] (zX K A.aD):=by
 have A0:aA P w K mg base CX0 21 A.n5 A.nX ["line","lines","sieve"] (qP K A.aD):=(zj T).mono (by decide);refine T.news.fn.ok Gn (λvs H Q E h=>?_) (λcdv Ar outer s H vs Q E hr h=>?_)
 ·obtain ⟨a,t,zs,s,l,rfl,_⟩:=h;rfl
 ·obtain ⟨a,t,zs,s',l,rfl,hqa,h64,hzs,hqt,hla,k⟩:=h;obtain ⟨tb,htb⟩:=dE hla;have hBa:SqL K (wo A.aD H) a (zs.map V.str):=vD htb hqa;have hBt:SqT K (wo A.aD H) t [.int s',.int l]:=lA htb hqt;have hBP:(wo A.aD H) A.aD=none:=cX;refine ⟨_,ak (ax (aP (N':=["number","line","sieve","lines"]) (n:=2) (fi:=[1,0]) (g:=xI K 2 (fH (aU 0) (fH (aU 1) (xW)))) rfl (aX (ah (top 43)) ["lines","sieve"] (by decide +kernel)) (va (by rfl) T.kC (aa (pv 0) (af))) (λs H fp=>iM rfl (bw (au (i:=0) (show (["number","line","sieve","lines"]:List Str).Nodup by decide +kernel) rfl (Or.inl rfl) (.inr rfl)) (bw (au (i:=1) (show (["number","line","sieve","lines"]:List Str).Nodup by decide +kernel) rfl (Or.inl rfl) (.inr rfl)) (fj)))) (λs H fp=>cq (cD (aq A0 hr (by rfl) T.pV.mg T.pV.fn.kp T.pV.bd .nil aC (aa (pv 1) (aa (fC (r:=yB K) lI (pv 3) (ip) (ig (pv 0))) (aa (pv 2) (af))))))) (λs H fp=>pv 0))),?_⟩;refine ⟨_,rfl,a,rfl,⟨_,hqa⟩,λD hD=>?_⟩;have hDP:D≠A.aD:=λe=>by rw [e,htb] at hD;cases hD
  have hDB:(wo A.aD H) D=none:=by rw [aS hDP];exact hD
  have kk:=k D;have laD:bC A.aD (upd H D (.lst [])):=a8 hla (ae.new hD);have sB0:ae (wo A.aD H) (upd H D (.lst [])):=bc.trans (ae.new hD);generalize wo A.aD H=B at hBa hBt hBP hDB kk sB0;refine tS (K:=K) (xs:=zs.map V.str) (λi acc σ H2=>(∃ u v,σ=[u,v,some (.ref t),some (.ref a)])/\ae B H2/\bC A.aD H2/\acc=(ki s' l zs i).map nV) ab ⟨⟨_,_,rfl⟩,sB0,laD,rfl⟩ (λi acc σ H2 _ _ q=>q.2.1.seq hBa) (λi x acc σ H2 p hx hDx q hp=>?_) (λacc σ H2 hD2 q=>?_)
  ·obtain ⟨q0,s2,la2,rfl⟩:=q;apply su q0;clear q0;intro u v;obtain ⟨z,hz,rfl⟩:=b0 hx;have hi:=aG hz;have hzm:=NF hz;obtain ⟨ws,hln⟩:=hzs z hzm;have hlo:=hln.ok (by decide);have hnl:=Bi (s:=s') (l:=l) (zs:=zs) (n:=i);have sp:ae H2 (upd H2 p (.tup [.int i,.str z])):=ae.new hp;refine ⟨p,_,rfl,.of ab,rfl,_,_,rfl,_,_,rfl,rfl,?_⟩;have hD3:=sp _ _ hDx;have s3:=s2.trans sp;have la3:bC A.aD (upd H2 p (.tup [.int i,.str z])):=a8 la2 sp;generalize upd H2 p (.tup [.int i,.str z])=H3 at hD3 s3 la3 ⊢;refine ⟨_,rfl,_,rfl,_,rfl,(i:Int),rfl,a,_,rfl,s3.seq hBa,λS hS=>?_⟩;rw [kZ (Int.natCast_nonneg i),OG,<-List.map_take];have sS:ae H3 (upd H3 S (.lst ((zs.take i).map V.str))):=ae.new hS;have hSS:(upd H3 S (.lst ((zs.take i).map V.str))) S=some (.lst ((zs.take i).map V.str)):=ab;generalize upd H3 S (.lst ((zs.take i).map V.str))=H4 at sS hSS ⊢;have s4:=s3.trans sS;have hD4:=sS _ _ hD3;have la4:bC A.aD H4:=a8 la3 sS;obtain ⟨tb4,wj⟩:=dE la4;refine ⟨_,rfl,z,S,t,zs.take i,s',l,rfl,.of hSS,by rw [NR];lia,λz h=>hzs z (OQ h),NM hlo.2 (by decide),hlo.1,s4.fV hBt,la4,λH5 s5 la5=>⟨_,rfl,?_⟩⟩;have s05:ae B H5:=(cY hBP s4).trans s5;have hD5:H5 D=_:=pR s5 wj hD4 λqs e=>by cases e
   have eg:zs.getD i Str.empty=z:=by rw [NU,hz];rfl
   rw [zk];cases hb:iY s' l (zs.take i) z with
   | true=>
    have e2:[i].filter (λi=>iY s' l (zs.take i) (zs.getD i Str.empty))=[i]:=OH (by rw [eg];exact hb);rw [e2,NS];exact bL ⟨_,rfl,_,hD5,small (by rw [NE];lia),_,ab,⟨_,_,rfl⟩,ar hDB s05,vo la5 hD5,rfl⟩
   | false=>
    have e2:[i].filter (λi=>iY s' l (zs.take i) (zs.getD i Str.empty))=[]:=OI (by rw [eg,hb];decide);rw [e2,N6];exact bf ⟨_,hD5,⟨_,_,rfl⟩,s05,la5,rfl⟩
  ·obtain ⟨_,s2,la2,rfl⟩:=q;rw [NE] at hD2;exact kk H2 hD s2 la2 hD2
theorem ku:aE ["line","patterns","fitting"] ["line","patterns"] (ah (top 41)):=⟨rfl,rfl,rfl,by decide +kernel,rfl,by decide +kernel,by decide +kernel⟩
set_option maxHeartbeats 8000000 in
theorem qm (T:Tx K mg A):aA P w K mg base CX0 7 A.iA A.iy ["line","patterns"] (kU K):=by
 have iT:aA P w K mg base CX0 6 A.i3 A.i5 ["patterns"] (jg K):=(mo T).mono (by decide);have vC:aA P w K mg base CX0 5 A.kX A.kR ["pattern"] (nN K):=(uZ T).mono (by decide);have qx:aA P w K mg base CX0 6 A.qS A.rn ["pattern","line"] (pP K):=(vf T).mono (by decide);refine T.ij.fn.ok ku (λvs H Q E h=>?_) (λcdv Ar outer s H vs Q E hr h=>?_)
 ·obtain ⟨z,a,xs,pss,rfl,_⟩:=h;rfl
 ·obtain ⟨z,a,xs,pss,rfl,hq,h64,hds,hok,hz,hzs,k⟩:=h;have hxl:xs.length=pss.length:=by rw [hds.length,NE]
  refine ⟨_,aj (aQ (i:=2) ku.nd rfl (Or.inl rfl) (aq iT hr (by rfl) T.ordered.mg T.ordered.fn.kp T.ordered.bd .nil aC (aa (aP (N':=["pattern","line"]) (n:=1) (fi:=[0]) (g:=aU 0) rfl (aX (ah (top 41)) ["line","patterns","fitting"] (by decide +kernel)) (aH (pv 1)) (λs H fp=>au (i:=0) (show (["pattern","line"]:List Str).Nodup by decide +kernel) rfl (Or.inl rfl) (.inr rfl)) (λs H fp=>cq (cD (aq qx hr (by rfl) T.fits.mg T.fits.fn.kp T.fits.bd .nil aC (aa (pv 0) (aa (pv 1) (af)))))) (λs H fp=>pv 0)) (af))))
   (ak (ax (Fg vC hr T.oN.bd rfl (by rfl) T.wA (by rfl) T.oN.mg (aa (pv 2) (af))))),?_⟩
  refine ⟨_,rfl,a,rfl,⟨_,hq⟩,λD hD=>?_⟩;refine aF (K:=K) (xs:=xs) (λi acc σ H2=>(∃ u,σ=[u,some (.str z)])/\ae H H2/\aB K H acc (((pss.take i).filter (f6 z)).map br)) ab ⟨⟨_,rfl⟩,ae.new hD,.nil⟩ (λi acc σ H2 _ _ q=>q.2.1.seq hq) (λi x acc σ H2 hx hDx q=>?_) (λacc σ H2 hDx q=>?_)
  ·obtain ⟨q0,s2,dn⟩:=q;apply bP q0;clear q0;intro u;obtain ⟨ps,hpi,hdp⟩:=cm hds hx;have hi:=aG hpi;have hal:acc.length<=i:=by
    rw [dn.length,NE];exact NM (N8 _ _) (by rw [NR];lia)
   have et:pss.take (i+1)=pss.take i++[ps]:=by rw [NY,hpi];rfl
   refine ⟨_,rfl,_,rfl,x,z,ps,rfl,hdp.same s2,(hok ps (NF hpi)).2,hz,hzs,λH4 s4=>⟨_,rfl,?_⟩⟩;by_cases hf:f6 z ps=true
   ·have hf':aM ps (Txt.split z " ")=true:=hf;rw [hf'];refine bL ?_;refine ⟨_,rfl,acc,s4 _ _ hDx,small (by lia),_,ab,⟨_,rfl⟩,ar hD (s2.trans s4),?_⟩;rw [et,Oe,NS];have e2:[ps].filter (f6 z)=[ps]:=by simp [hf]
    rw [e2];exact dn.append (.cons hdp .nil)
   ·have hf':aM ps (Txt.split z " ")=false:=N5.mpr hf;rw [hf'];refine bf ⟨acc,s4 _ _ hDx,⟨_,rfl⟩,s2.trans s4,?_⟩;have e2:[ps].filter (f6 z)=[]:=by simp [hf]
    rw [et,Oe,e2,N6];exact dn
  ·obtain ⟨_,s2,dn⟩:=q;rw [NI (by lia)] at dn;have hfl:(pss.filter (f6 z)).length<=pss.length:=N8 _ _;have hal:acc.length=(pss.filter (f6 z)).length:=by rw [dn.length,NE]
   refine ⟨D,acc,pss.filter (f6 z),rfl,.of hDx,by lia,dn.same s2,λps hps=>hok ps ((Oc.mp hps).1),λD2 aV H5 l hD2 s5 Mn a9 fQ fr hne dn2=>?_⟩;have hl2:aV.length=l.length:=by rw [dn2.length,NE]
   have qV:∀ ps∈l,POk ps:=λps hps=>hok ps ((Oc.mp (a9.mem_iff.mp hps)).1);refine ⟨_,rfl,_,rfl,?_⟩;refine tX (kds:=l.map looseD) (Sh.ok (.list .int)) (.of Mn) (by rw [NE];exact hl2) (λd hd=>?_) (λm x d H6 Q6 hx hd s6 kk=>?_) (λJc=>?_) (λhnn H6 s6=>?_)
   ·obtain ⟨ps,_,rfl⟩:=NJ.mp hd;exact ⟨c8 ps,tW ps⟩
   ·obtain ⟨ps,hpm,fR⟩:=cm dn2 hx;rw [NK,hpm] at hd;cases hd;exact ⟨x,ps,rfl,(fR.same bt).same s6,qV ps (NF hpm),λD7 H7 hD7 s7 LS=>kk (.ref D7) H7 s7 (.lst (.of LS) oe)⟩
   ·subst Jc;have hln:l=[]:=OC (by rw [<-hl2];rfl);subst hln;exact k .non H5 (s2.trans s5) (.inl ⟨a9.symm.eq_nil,rfl⟩)
   ·have hln:l≠[]:=λe=>hnn (OC (by rw [hl2,e];rfl));obtain ⟨ps,hps,uH⟩:=Dy hln fQ;have hlt:bb (l.map looseD)<aV.length:=by rw [hl2];exact aG hps
    have hx:aV[bb (l.map looseD)]? = some aV[bb (l.map looseD)]:=NG hlt;have lY:aV.getD (bb (l.map looseD)) .non=aV[bb (l.map looseD)]:=by simp [List.getD,hx]
    rw [lY];obtain ⟨t,ys,ht,h1,h2,h3⟩:=fr _ (NF hx);obtain ⟨ps',Lm,fR⟩:=cm dn2 hx;rw [hps] at Lm;cases Lm;refine k _ H6 ((s2.trans s5).trans s6) (.inr ⟨t,ys,ps,ht,s2.free h1,s6 _ _ h2,⟨a9.mem_iff.mp uH.1,λq hq=>uH.2 q (a9.mem_iff.mpr hq)⟩,?_⟩);exact (fR.same (bF s6)).same (bW s2.ll)
theorem oR:aE ["line","words"] ["line"] (ah (top 13)):=⟨rfl,rfl,rfl,by decide +kernel,rfl,by decide +kernel,by decide +kernel⟩
set_option maxHeartbeats 8000000 in
theorem wZ (T:Tx K mg A):aA P w K mg base CX0 2 A.me A.mD ["line"] (oY K):=by
 have gy:aA P w K mg base CX0 1 A.gU A.gC ["line"] (g9 K):=(k7 T).mono (by decide);have mj:aA P w K mg base CX0 1 A.jK A.ja ["word"] (kI K):=(pB T).mono (by decide);refine T.qL.fn.ok oR (λvs H Q E h=>?_) (λcdv Ar outer s H vs Q E hr h=>?_)
 ·obtain ⟨z,rfl,_⟩:=h;rfl
 ·obtain ⟨z,rfl,hz,hzs,k⟩:=h;refine ⟨_,aj (aQ (i:=1) oR.nd rfl (Or.inl rfl) (aq gy hr (by rfl) T.words_of.mg T.words_of.fn.kp T.words_of.bd .nil aC (aa (pv 0) (af))))
   (ak (ax (bJ (aa (aI (r:=dq K) ba (by rfl) T.b7 PySem.boot_len (aa (pv 1) (af))) (aa (aP (N':=["word"]) (n:=1) (fi:=[]) (g:=aU 0) rfl (aX (ah (top 13)) ["line","words"] (by decide +kernel)) (aH (pv 1)) (λs H fp=>au (i:=0) (show (["word"]:List Str).Nodup by decide +kernel) rfl (Or.inl rfl) (.inr rfl)) (λs H fp=>aO) (λs H fp=>aq mj hr (by rfl) T.gL.mg T.gL.fn.kp T.gL.bd .nil aC (aa (pv 0) (af)))) (af)))))),?_⟩
  have hz':z.length<=10000:=hz;refine ⟨_,rfl,z,rfl,hz,λl hl=>?_⟩;have sl:ae H (upd H l (.lst ((Txt.split z " ").map V.str))):=ae.new hl;have hsz:=(L2.mJ (z:=z) (y:= " ")).2;have hws:=nr (y:= " ") hzs;generalize Txt.split z " " = ws at sl k hsz hws;have hq:SqL K (upd H l (.lst (ws.map V.str))) l (ws.map V.str):=.of ab;refine ⟨_,rfl,l,_,rfl,.inl hq,?_⟩;rw [NE];refine ⟨_,rfl,l,rfl,⟨_,hq⟩,λD hD=>?_⟩;generalize upd H l (.lst (ws.map V.str))=H1 at sl hq hD;refine aF (K:=K) (xs:=ws.map V.str) (λi acc σ H2=>(∃ u,σ=[u])/\ae H1 H2/\aB K (lim (upd H1 D (.lst [])) H2) acc ((ws.take i).map wkD)) ab ⟨⟨_,rfl⟩,ae.new hD,.nil⟩ (λi acc σ H2 _ _ p=>p.2.1.seq hq) (λi x acc σ H2 hx hDx p=>?_) (λacc σ H2 hDx p=>?_)
  ·obtain ⟨⟨u,rfl⟩,s2,dn⟩:=p;obtain ⟨w,hw,rfl⟩:=b0 hx;have hi:=aG hw;have hal:acc.length=i:=by rw [dn.length,NE,NR];lia
   have hwo:=hws w (NF hw);refine bV ⟨_,rfl,w,rfl,NM hwo.2 hz,λp hp=>⟨acc,(ae.new hp) _ _ hDx,small (by lia),_,ab,⟨_,rfl⟩,ar hD (s2.trans (ae.new hp)),?_⟩⟩;rw [dA (ys:=[]) ab,bj hw];exact (dn.same (bF (ae.new hp))).append (.cons (.tup (.of ((bQ (by rw [aw (ao hDx hp).symm];exact s2.free hp)).trans ab)) (.cons (.int _) (.cons (.str hwo.1) .nil))) .nil)
  ·obtain ⟨_,s2,dn⟩:=p;refine ⟨(by show 2<=sizeLine;decide),λt ht=>?_⟩;rw [NE,NI (NH _)] at dn;refine k _ _ ((sl.trans s2).trans (ae.new ht)) ?_;exact .tup (.of ab) (.cons (.int _) (.cons (.lst (.of ((ae.new ht) _ _ hDx)) ((dn.same bt).same (ae.new ht))) .nil))
def Fj (l:List Str):Prop:=l.Pairwise λa b=>ltv (lkD (Txt.split b " ")) (lkD (Txt.split a " "))=false
theorem xl {l l':List Str} (hp:l.Perm l') (h:Fj l) (h':Fj l'):l=l':=by
 refine map_inj (f:=λz=>lkD (Txt.split z " ")) (λa b e=>?_) ?_
 ·have:=Jb e;rw [<-o6 a,<-o6 b,this]
 ·refine iC (Sh.ok Km) (λx hx=>?_) (hp.map _) ?_ ?_
  ·obtain ⟨z,_,rfl⟩:=NJ.mp hx;exact GW _
  ·rw [Oq];exact h
  ·rw [Oq];exact h'
def p3D (z:Str):PyData:=.tuple [.int (Txt.split z " ").length,.list ((Txt.split z " ").map wkD),.str z]
def ML:Sh:=.bg .int (.bg (.list Bq) (.bg .str .ix))
theorem KD (z:Str):ML.has (p3D z):=⟨_,_,rfl,⟨_,rfl⟩,_,_,rfl,CH _,_,_,rfl,⟨_,rfl⟩,rfl⟩
theorem HV (z:Str):(p3D z).depth<=100:=by
 have h:PyData.depthAll ((Txt.split z " ").map wkD)<=5:=bE _ λd hd=>by
  obtain ⟨w,_,rfl⟩:=NJ.mp hd;exact Ei w
 simp only [p3D,PyData.depth,PyData.depthAll];lia
theorem Lc {a b:Str} (h:ltv (p3D b) (p3D a)=false):ltv (lkD (Txt.split b " ")) (lkD (Txt.split a " "))=false:=by
 unfold p3D at h;unfold lkD;rw [ltv,a7,a7] at h;rw [ltv,a7,a7]
 split
 ·rename_i h1;rw [if_pos h1] at h
  split
  ·rfl
  ·rename_i h2;rw [if_neg h2] at h;exact h
 ·rename_i h1;rw [if_neg h1] at h;exact h
def vm:Pt->Bool
 | .hole _=>true
 | .word _=>false
def o7 (K:PySem.W.Frag):Sp:=λvs H Q _=>∃ (a:Addr) (zs:List Str),vs=[.ref a]/\SqL K H a (zs.map V.str)/\zs.length<64/\(∀ z∈zs,LOk z/\PyData.strOk z=true) /\
 ∀ (D:Addr) (l:List Str) H',H D=none->ae H H'->l.Perm zs->Fj l->H' D=some (.lst (l.map V.str))->Q (.ref D) H'
def mO:List Pt->List Str->List Str
 | .word x::ps,ws=>x::mO ps ws
 | .hole _::ps,w::ws=>w::mO ps ws
 | _,_=>[]
def uD (K:PySem.W.Frag):Sp:=λvs H Q _=>∃ (v:V) (b:Addr) (ps:List Pt) (ws:List Str),vs=[v,.ref b]/\Den K H v (br ps)/\(∀ p∈ps,p.ok)/\ps.length<=100/\SqL K H b (ws.map V.str)/\(∀ w∈ws,LOk w)/\aM (ps.filter vm) ws=true/\(∀ w∈mO ps ws,w.length<=500) /\
 ∀ H',ae H H'->Q (.str (Txt.join " " (mO ps ws))) H'
theorem xx:aE ["lines"] ["lines"] (ah (top 14)):=⟨rfl,rfl,rfl,by decide +kernel,rfl,by decide +kernel,by decide +kernel⟩
set_option maxHeartbeats 8000000 in
theorem vW (T:Tx K mg A):aA P w K mg base CX0 5 A.mM A.mx ["lines"] (o7 K):=by
 have wB:aA P w K mg base CX0 2 A.me A.mD ["line"] (oY K):=(wZ T).mono (by decide);refine T.nh.fn.ok xx (λvs H Q E h=>?_) (λcdv Ar outer s H vs Q E hr h=>?_)
 ·obtain ⟨a,zs,rfl,_⟩:=h;rfl
 ·obtain ⟨a,zs,rfl,hq,hlen,hok,k⟩:=h;refine ⟨_,ak (ax (w9 (a:=.int) (r:=.bg (.list Bq) .ix) .int wB hr T.qL.bd (by rfl) T.fB (by rfl) T.qL.mg (aa (pv 0) (af)))),?_⟩;refine ⟨_,rfl,_,rfl,a,zs.map V.str,rfl,hq,by rw [NE];exact hlen,?_⟩;refine oh (K:=K) (H0:=H) (zs.map V.str) (zs.map λz=>lkD (Txt.split z " ")) [] [] H (by rw [NE,NE]) (ae.refl H) .nil (λi x d H2 Q2 hx hd s2 kk=>?_) (λks H1 s1 d1=>?_)
  ·obtain ⟨z,e,rfl⟩:=b0 hx;rw [NK,e] at hd;cases hd;have hz:=hok z (NF e);exact ⟨z,rfl,hz.1,hz.2,λr H' sr dr=>kk r H' sr dr⟩
  ·have d1':aB K H1 ks (zs.map λz=>lkD (Txt.split z " ")):=by simpa using d1
   refine ⟨zs.map λz=>lkD (Txt.split z " "),d1',λd hd=>?_,λd hd=>?_,λD0 p hD0 hp ho=>?_⟩
   ·obtain ⟨z,_,rfl⟩:=NJ.mp hd;exact GW _
   ·obtain ⟨z,_,rfl⟩:=NJ.mp hd;exact Hd _
   ·rw [NE] at hp;have hlt:∀ i∈p,i<zs.length:=λi hi=>by have:=hp.mem_iff.mp hi;simpa using this
    have e1:picked (zs.map V.str) p=(p.map λi=>zs.getD i Str.empty).map V.str:=by
     unfold picked;rw [Ow];refine Og λi hi=>?_;simp [NU,hlt i hi]
    have e2:(p.map λi=>(zs.map λz=>lkD (Txt.split z " ")).getD i .none)=(p.map λi=>zs.getD i Str.empty).map λz=>lkD (Txt.split z " "):=by
     rw [Ow];refine Og λi hi=>?_;simp [NU,hlt i hi]
    rw [e1];refine k D0 _ _ (s1.free hD0) (s1.trans (ae.new hD0)) ((hp.map λi=>zs.getD i Str.empty).trans (by rw [dD])) ?_ ab;unfold dG at ho;rw [e2,Oq] at ho;exact ho
def NFl (K:PySem.W.Frag) (a b R T:Addr) (ps:List Pt) (ws:List Str) (H3:Hp) (i:Nat) (σ:St) (H5:Hp):Prop:=(∃ u,σ=[some (.ref a),some (.ref b),some (.ref R),some (.ref T),u])/\ae H3 H5/\∃ ws' dn:List Str,H5 R=some (.lst (ws'.map V.str))/\H5 T=some (.lst (dn.map V.str))/\((ps.drop i).filter vm).length=ws'.length/\dn++mO (ps.drop i) ws' = mO ps ws/\dn.length=i
theorem lM:aE ["pattern","words","rest","told","part"] ["pattern","words"] (ah (top 21)):=⟨rfl,rfl,rfl,by decide +kernel,rfl,by decide +kernel,by decide +kernel⟩
set_option maxHeartbeats 8000000 in
theorem BI (T:Tx K mg A):aA P w K mg base CX0 5 A.qA A.qu ["pattern","words"] (uD K):=by
 have k5:aA P w K mg base CX0 4 A.ie A.g6 ["parts","words"] (jA K):=(nz T).mono (by decide);have cQ:aA P w K mg base CX0 4 A.eO A.fc ["part"] (eW K):=(gA T).mono (by decide);refine T.filled.fn.ok lM (λvs H Q E h=>?_) (λcdv Ar outer s H vs Q E hr h=>?_)
 ·obtain ⟨v,b,ps,ws,rfl,_⟩:=h;rfl
 ·obtain ⟨v,b,ps,ws,rfl,hd,hok,hl,hq,hw,ht,hfl,k⟩:=h;obtain ⟨a,xs,ev,hqa,hda⟩:=cw hd;have hxl:xs.length=ps.length:=by rw [hda.length,NE]
  refine ⟨_,aj (bA (lg (cD (aq k5 hr (by rfl) T.eZ.mg T.eZ.fn.kp T.eZ.bd .nil aC (aa (aP (N':=["part"]) (n:=1) (fi:=[]) (g:=aU 0) rfl (aX (ah (top 21)) ["pattern","words","rest","told","part"] (by decide +kernel)) (aH (pv 0)) (λs H fp=>au (i:=0) (show (["part"]:List Str).Nodup by decide +kernel) rfl (Or.inl rfl) (.inr rfl)) (λs H fp=>cq (cD (aq cQ hr (by rfl) T.bO.mg T.bO.fn.kp T.bO.bd .nil aC (aa (pv 0) (af))))) (λs H fp=>pv 0)) (aa (pv 1) (af)))))) (ak (mT)) (aZ))
   (aj (aQ (i:=2) lM.nd rfl (Or.inl rfl) (e9 (r:=lD K) gx (by rfl) T.oE lG (aa (pv 1) (af))))
   (aj (aQ (i:=3) lM.nd rfl (Or.inl rfl) (be (af)))
   (aj (cs PassesOwn.never rfl (aH (pv 0)) (au (i:=4) lM.nd rfl (Or.inl rfl)) (ak (cx (b6 PySem.F.plainAttrs_list PySem.F.slot_list_append PySem.F.type_list_append bG (pv 3) (aa (d9 (cD (aq cQ hr (by rfl) T.bO.mg T.bO.fn.kp T.bO.bd .nil aC (aa (pv 4) (af)))) (b6 PySem.F.plainAttrs_list PySem.F.slot_list_pop PySem.F.type_list_pop F6 (pv 2) (aa (ap) (af))) (aR (r:=eL K) bH (pv 4) (ap) (λ_ _=>rfl))) (af))))))
   (ak (ax (b6 (r:=rJoin K) PySem.F.plainAttrs_str PySem.F.slot_str_join PySem.F.type_str_join pU (ay) (aa (pv 3) (af)))))))),?_⟩
  subst ev;refine ⟨_,rfl,a,rfl,⟨_,hqa⟩,λD hD=>?_⟩;refine aF (K:=K) (xs:=xs) (λi acc σ H2=>(∃ u,σ=[u])/\ae H H2/\aB K H acc (((ps.take i).filter vm).map Pt.dat)) ab ⟨⟨_,rfl⟩,ae.new hD,.nil⟩ (λi acc σ H2 _ _ q=>q.2.1.seq hqa) (λi x acc σ H2 hx hDx q=>?_) (λacc σ H2 hDx q=>?_)
  ·obtain ⟨q0,s2,dn⟩:=q;apply bP q0;clear q0;intro u;obtain ⟨p,hpi,hdp⟩:=fk hda hx;have hi:=aG hpi;have hal:acc.length<=i:=by
    rw [dn.length,NE];exact NM (N8 _ _) (by rw [NR];lia)
   have et:ps.take (i+1)=ps.take i++[p]:=by rw [NY,hpi];rfl
   refine ⟨_,rfl,x,p,rfl,hdp.same s2,_,rfl,?_⟩;cases p with
   | hole m=>
    refine bL ⟨_,rfl,acc,hDx,small (by lia),_,ab,⟨_,rfl⟩,ar hD s2,?_⟩;rw [et,Oe,NS];exact dn.append (.cons hdp .nil)
   | word y=>
    refine bf ⟨acc,hDx,⟨_,rfl⟩,s2,?_⟩;have e2:[Pt.word y].filter vm=[]:=rfl;rw [et,Oe,e2,N6];exact dn
  ·obtain ⟨_,s2,dn⟩:=q;rw [NI (by lia)] at dn;refine ⟨_,rfl,D,b,acc,ps.filter vm,ws,rfl,.of hDx,dn.same s2,λp hp=>hok p (Oc.mp hp).1,s2.seq hq,hw,λH3 s3=>⟨_,rfl,?_⟩⟩;rw [ht];refine bf ?_;have s13:=s2.trans s3;refine ⟨_,rfl,b,_,rfl,.inl (s13.seq hq),λR hR=>?_⟩;refine ⟨NW _,λT' hT=>?_⟩;have hRT:R≠T':=λe=>by rw [<-e,ab] at hT;cases hT
   have hT3:H3 T' = none:=by rw [aw hRT.symm] at hT;exact hT
   have hRR:(upd (upd H3 R (.lst (ws.map V.str))) T' (.lst [])) R=some (.lst (ws.map V.str)):=by rw [aw hRT];exact ab
   have hTT:(upd (upd H3 R (.lst (ws.map V.str))) T' (.lst [])) T' = some (.lst []):=ab;have s4:ae H3 (upd (upd H3 R (.lst (ws.map V.str))) T' (.lst [])):=ar hT3 (ar hR (ae.refl _));generalize upd (upd H3 R (.lst (ws.map V.str))) T' (.lst [])=H4 at hRR hTT s4 ⊢;refine ⟨_,rfl,a,rfl,⟨_,(s13.trans s4).seq hqa⟩,?_⟩;have hlen:=yN ht;refine cM (K:=K) (xs:=xs) (NFl K a b R T' ps ws H3) ⟨⟨_,rfl⟩,s4,ws,[],hRR,hTT,hlen,rfl,rfl⟩ (λi σ H5 _ q=>(s13.trans q.2.1).seq hqa) (λi x σ H5 hx q=>?_) (λσ H5 q=>?_)
   ·obtain ⟨q0,s5,ws',dn',hR5,hT5,hl5,hf5,hd5⟩:=q;apply bP q0;clear q0;intro u;obtain ⟨p,hpi,hdp⟩:=fk hda hx;have hi:=aG hpi;have ed:ps.drop i=p::ps.drop (i+1):=by
     rw [Of hi];rw [NG hi] at hpi;rw [Option.some.inj hpi]
    rw [ed] at hl5 hf5;obtain ⟨a',x1,y1,rfl,hq',_,_,hxy⟩:=iK hdp;have DP:H5 T' = some (.lst (dn'.map V.str)):=hT5;refine ⟨_,rfl,.inl ⟨rfl,_,.of DP⟩,_,rfl,.ref a',p,rfl,hdp.same (s13.trans s5),_,rfl,?_⟩;cases p with
    | hole m=>
     cases ws' with
     | nil=>simp [vm] at hl5
     | cons w ws''=>
      refine bL ⟨_,rfl,.inl ⟨rfl,_,.of hR5⟩,R,.str w,ws''.map V.str,rfl,rfl,hR5,T',_,_,rfl,rfl,(by rw [aw hRT.symm];exact DP),small (by rw [NE];lia),?_⟩;refine ⟨⟨_,rfl⟩,ar hT3 (ar hR s5),ws'',dn'++[w],by rw [aw hRT];exact ab,by rw [ab,NS];rfl,by rw [List.filter_cons,if_pos (show vm (.hole m)=true from rfl),N4,N4] at hl5;lia,?_,by rw [NX,hd5];rfl⟩;rw [<-hf5,Pc];rfl
    | word y=>
     obtain ⟨rfl,rfl⟩:=hxy;refine bf ⟨_,rfl,a',_,1,_,rfl,rfl,(s13.trans s5).fV hq',rfl,T',_,_,rfl,rfl,DP,small (by rw [NE];lia),?_⟩;refine ⟨⟨_,rfl⟩,ar hT3 s5,ws',dn'++[y1],by rw [aw hRT];exact hR5,by rw [ab,NS];rfl,by simpa [vm] using hl5,?_,by rw [NX,hd5];rfl⟩;rw [<-hf5,Pc];rfl
   ·obtain ⟨q0,s5,ws',dn',hR5,hT5,hl5,hf5,hd5⟩:=q;apply bP q0;clear q0;intro u;rw [Ox (by lia)] at hf5 hl5;have e0:mO [] ws' = []:=by cases ws' <;> rfl
    rw [e0,N6] at hf5;have DP:H5 T' = some (.lst (dn'.map V.str)):=hT5;have h1:((" " : Str)).length=1:=rfl;refine ⟨rfl,_,rfl," ",T',dn',rfl,rfl,.of DP,lr (m:=500) (λy hy=>hfl y (by rw [<-hf5];exact hy)) (by rw [h1,hd5];lia),?_⟩;rw [hf5];exact k H5 (s13.trans s5)
def l6 (K:PySem.W.Frag):Sp:=λvs H Q _=>∃ (d:Addr) (n:Nat),vs=[.ref d]/\Dk H d n/\n<100000 /\
 ∀ D (ls:List Str) H',H D=none->ae (wo d H) H'->Dk H' d (n+210000)->H' D=some (.lst (ls.map V.str))->(∀ x∈ls,∃ ws,jV 12 x ws)->ls.length=60->Q (.ref D) H'
def Lu (H:Hp) (d:Addr) (n:Nat) (m:Nat) (σ:St) (H':Hp):Prop:=∃ (F:Addr) (ls:List Str),σ=[some (.ref d),some (.ref F)]/\H F=none/\ae (wo d H) H'/\Dk H' d (n+2080 * ls.length)/\H' F=some (.lst (ls.map V.str))/\(∀ x∈ls,∃ ws,jV 12 x ws)/\ls.length<=100/\m=60 - ls.length
theorem iP:aE ["deck","found"] ["deck"] (ah (top 62)):=⟨rfl,rfl,rfl,by decide +kernel,rfl,by decide +kernel,by decide +kernel⟩
set_option maxHeartbeats 8000000 in
theorem rS (T:Tx K mg A):aA P w K mg base CX0 5 A.jT A.jN ["deck"] (l6 K):=by
 have uM:aA P w K mg base CX0 4 A.jx A.jU ["deck","most"] (l8 K):=(rY T).mono (by decide);have kJ:aA P w K mg base CX0 4 A.gZ A.g5 ["deck","most"] (jD K):=(nH T).mono (by decide);refine T.jX.fn.ok iP (λvs H Q E h=>?_) (λcdv Ar outer s H vs Q E hr h=>?_)
 ·obtain ⟨d,n,rfl,_⟩:=h;rfl
 ·obtain ⟨d,n,rfl,hdk,hn,k⟩:=h;refine ⟨_,aj (aQ (i:=1) iP.nd rfl (Or.inl rfl) (be (af)))
   (aj (Ek PassesOwn.never (aK (qB) (aI (r:=dq K) ba (by rfl) T.b7 PySem.boot_len (aa (pv 1) (af))) (ap) (aJ _)) (ak (aQ (i:=1) iP.nd rfl (Or.inl rfl) (bX (r:=vV K) pX (bX (r:=vV K) pX (pv 1) (aq uM hr (by rfl) T.ju.mg T.ju.fn.kp T.ju.bd .nil aC (aa (pv 0) (aa (ap) (af))))) (be (aa (aq kJ hr (by rfl) T.eT.mg T.eT.fn.kp T.eT.bd .nil aC (aa (pv 0) (aa (ap) (af)))) (af)))))))
   (ak (ax (fC (r:=yB K) lI (pv 1) (ip) (ig (ap)))))),?_⟩
  refine ⟨NW _,λF0 hF0=>?_⟩;have sF:ae H (upd H F0 (.lst [])):=ae.new hF0;have hFF:(upd H F0 (.lst [])) F0=some (.lst []):=ab;generalize upd H F0 (.lst [])=H1 at sF hFF ⊢;refine ⟨Lu H d n,⟨60,F0,[],rfl,hF0,bc.trans sF,hdk.same sF,hFF,(λx h=>by cases h),by decide,rfl⟩,?_⟩;rintro m σ H2 ⟨F,ls,rfl,hF,s2,dk2,hF2,hls,hll,rfl⟩;refine ⟨_,rfl,F,_,rfl,.inl (.of hF2),_,_,rfl,rfl,_,rfl,?_⟩;rw [NE];by_cases hlt:ls.length<60
  ·rw [decide_eq_true (show (ls.length:Int)<60 by lia)];refine bL ⟨λσ' H'=>∃ m',m' < 60 - ls.length/\Lu H d n m' σ' H',λσ' H' q=>q,?_⟩;obtain ⟨ys2,hd2⟩:=dk2.lst;have hdF:d≠F:=λe=>by rw [<-e] at hF;obtain ⟨ys,h⟩:=hdk.lst;rw [hF] at h;cases h
   refine ⟨_,rfl,_,rfl,d,40,_,rfl,dk2,by lia,by decide,by decide,λD1 l1 H3 hD1 s3 dk3 Ex hl1 hn1=>?_⟩;have Nh:l1.length<=40:=hn1;have hF3:H3 F=_:=bT s3 hF2 hdF;have hdD:d≠D1:=λe=>by rw [<-e,hd2] at hD1;cases hD1
   refine ⟨F,D1,_,_,rfl,rfl,.of hF3,.of Ex,?_,λM1 hM1=>?_⟩
   ·rw [NE,NE];exact NM (show ls.length+l1.length<=200 by lia) (by decide)
   rw [<-NS];have sM:ae H3 (upd H3 M1 (.lst ((ls++l1).map V.str))):=ae.new hM1;have hMM:(upd H3 M1 (.lst ((ls++l1).map V.str))) M1=some (.lst ((ls++l1).map V.str)):=ab;generalize upd H3 M1 (.lst ((ls++l1).map V.str))=H4 at sM hMM ⊢;have dk4:=dk3.same sM;have hdM:d≠M1:=dk3.ne hM1;refine ⟨_,rfl,d,12,_,rfl,dk4,by lia,by decide,by decide,λz ws H5 s5 dk5 hln=>⟨(by show 1<=sizeLine;decide),λL1 hL1=>?_⟩⟩;have hM5:H5 M1=_:=bT s5 hMM hdM;have sL:ae H5 (upd H5 L1 (.lst [.str z])):=ae.new hL1;have hLL:(upd H5 L1 (.lst [.str z])) L1=some (.lst [.str z]):=ab;generalize upd H5 L1 (.lst [.str z])=H6 at sL hLL ⊢;refine ⟨M1,L1,_,_,rfl,rfl,.of (sL _ _ hM5),.of hLL,?_,λM2 hM2=>?_⟩
   ·rw [NE,NX];exact NM (show ls.length+l1.length+1<=200 by lia) (by decide)
   have e6:(ls++l1).map V.str++[V.str z]=(ls++l1++[z]).map V.str:=(NS (l₁:=ls++l1) (l₂:=[z])).symm;rw [e6];have sN:ae H6 (upd H6 M2 (.lst ((ls++l1++[z]).map V.str))):=ae.new hM2;have s26:ae (wo d H) H6:=(bp (bp (bp s2 s3) (bc.trans sM)) s5).trans sL;have hlen:(ls++l1++[z]).length=ls.length+l1.length+1:=by rw [NX,NX];rfl
   refine ⟨_,(by lia:60 - (ls.length+l1.length+1)<60 - ls.length),M2,ls++l1++[z],rfl,?_,s26.trans sN,?_,ab,λx hx=>?_,by lia,by rw [hlen]⟩
   ·have:=s26.free hM2
    rwa [aS ((dk5.same sL).ne hM2).symm] at this
   ·rw [hlen];exact (((dk5.same sL).same sN).mono (by lia))
   ·rcases Oa.mp hx with h | h
    ·rcases Oa.mp h with h | h
     ·exact hls x h
     ·exact hl1 x h
    ·rw [NQ.mp h];exact ⟨ws,hln⟩
  ·rw [decide_eq_false (show ¬ (ls.length:Int)<60 by lia)];refine bf ⟨_,rfl,60,rfl,F,_,rfl,.of hF2,λD hD=>?_⟩;rw [kZ (by decide),<-List.map_take];have sD:ae H2 (upd H2 D (.lst ((ls.take (60:Int).toNat).map V.str))):=ae.new hD;refine k D _ _ ?_ (s2.trans sD) ((dk2.same sD).mono (by lia)) ab (λx h=>hls x (OQ h)) ?_
   ·have:=s2.free hD
    rwa [aS (dk2.ne hD).symm] at this
   ·rw [NR];exact Pz (by show 60<=ls.length;lia)
theorem cN:aE ["deck","line","found","word","kind","way"] ["deck","line"] (ah (top 53)):=⟨rfl,rfl,rfl,by decide +kernel,rfl,by decide +kernel,by decide +kernel⟩
set_option maxHeartbeats 8000000 in
theorem pG (T:Tx K mg A):aA P w K mg base CX0 2 A.gR A.gz ["deck","line"] (j5 K):=by
 have fu:aA P w K mg base CX0 1 A.fG A.fq ["word"] (gj K):=(jz T).mono (by decide);have aN:aA P w K mg base CX0 1 A.df A.dh ["deck","many"] (dw K):=(eu T).mono (by decide);refine T.gh.fn.ok cN (λvs H Q E h=>?_) (λcdv Ar outer s H vs Q E hr h=>?_)
 ·obtain ⟨d,z,n,rfl,_⟩:=h;rfl
 ·obtain ⟨d,z,n,rfl,hdk,hn,hzl,hzs,k⟩:=h;refine ⟨_,aj (aQ (i:=2) cN.nd rfl (Or.inl rfl) (be (af)))
   (aj (cs PassesOwn.never rfl (aH (b6 PySem.F.plainAttrs_str PySem.F.slot_str_split PySem.F.type_str_split fF (pv 1) (aa (ay) (af)))) (au (i:=3) cN.nd rfl (Or.inl rfl)) (aj (aQ (i:=4) cN.nd rfl (Or.inl rfl) (aq fu hr (by rfl) T.cS.mg T.cS.fn.kp T.cS.bd .nil aC (aa (pv 3) (af))))
   (aj (aQ (i:=5) cN.nd rfl (Or.inl rfl) (aq aN hr (by rfl) T.av.mg T.av.fn.kp T.av.bd .nil aC (aa (pv 0) (aa (ap) (af)))))
   (ak (bA (aK (qB) (pv 5) (ap) (aJ _)) (ak (cx (b6 PySem.F.plainAttrs_list PySem.F.slot_list_append PySem.F.type_list_append bG (pv 2) (aa (bJ (aa (ay) (aa (pv 3) (af)))) (af))))) (ak (bA ((pw_and (aK (qB) (pv 5) (ap) (aJ _)) (pw_and1 (aK (m6) (pv 4) (ay) (aJ _)))).pt) (ak (cx (b6 PySem.F.plainAttrs_list PySem.F.slot_list_append PySem.F.type_list_append bG (pv 2) (aa (bJ (aa (ay) (aa (pv 4) (af)))) (af))))) (ak (cx (b6 PySem.F.plainAttrs_list PySem.F.slot_list_append PySem.F.type_list_append bG (pv 2) (aa (bJ (aa (ay) (aa (ay) (af)))) (af))))))))))))
   (ak (ax (pv 2)))),?_⟩
  have h1:((" " : Str)).length≠0:=by decide +kernel
  obtain ⟨ys0,hd0⟩:=hdk.lst;refine ⟨NW _,λF hF=>?_⟩;have hdF:d≠F:=hdk.ne hF;refine ⟨_,rfl,rfl,z," ",rfl,rfl,h1,NM (OJ hzl 2) (by decide),λL hL=>⟨L,rfl,⟨_,.of ab⟩,?_⟩⟩;have hLF:F≠L:=ao (ab (H:=H)) hL;have sF:ae H (upd H F (.lst [])):=ae.new hF;have sL:ae (upd H F (.lst [])) (upd (upd H F (.lst [])) L (.lst ((Txt.split z " ").map V.str))):=ae.new hL;have hdL:d≠L:=(hdk.same sF).ne hL;have hsp:=nr (z:=z) (y:= " ") hzs;have hsl:=(mJ (z:=z) (y:= " ")).2;refine cM (K:=K) (xs:=(Txt.split z " ").map V.str) (mz K H d z F L n) ⟨⟨_,_,_,rfl⟩,bc.trans (sF.trans sL),hdk.same (sF.trans sL),ab,[],[],sL _ _ ab,rfl,(λp hp=>by cases hp),(λj w p _ hp=>by simp at hp),.nil⟩ (λi σ H3 _ q=>.of q.2.2.2.1) (λi x σ H3 hx q=>?_) (λσ H3 q=>?_)
  ·obtain ⟨q0,s3,dk3,hL3,acc,ps,hF3,hps,hok,hdr,dn⟩:=q;apply wD q0;clear q0;intro u1 u2 u3;obtain ⟨wd,e,rfl⟩:=b0 hx;have hil:i<(Txt.split z " ").length:=aG e;have hw:=hsp wd (NF e);have hwt:TOk wd:=⟨NM hw.2 (NM hzl (by decide)),hw.1⟩;refine ⟨_,rfl,wd,rfl,hwt,λH4 s4=>?_⟩;refine ⟨_,rfl,d,6,n+i,rfl,dk3.same s4,by lia,by decide,by decide,λway H5 s5 dk5 _ _=>?_⟩;have hL5:H5 L=some (.lst ((Txt.split z " ").map V.str)):=bT s5 (s4 _ _ hL3) hdL;have hF5:H5 F=some (.lst acc):=bT s5 (s4 _ _ hF3) hdF;have dn5:aB K (lim (upd H F (.lst [])) H5) acc (ps.map Pt.dat):=(dn.same (bF s4)).same (oW (sF _ _ hd0) s5);have hs5:ae (wo d H) H5:=bp (s3.trans s4) s5;have hal:acc.length=i:=by rw [dn.length,NE,hps]
   have hk3:=yP wd.cps.toList;refine ⟨_,rfl,_,_,rfl,rfl,_,rfl,?_⟩;refine xn (λ_=>?_) (λ_=>?_)
   ·refine ⟨_,rfl,.inl ⟨rfl,_,.of hF5⟩,_,rfl,(by show 2<=sizeLine;decide),λt ht=>⟨F,acc,_,rfl,rfl,ae.new ht _ _ hF5,small (by lia),?_⟩⟩;exact mz.step (pt:=.word wd) hdF hLF hF ⟨_,_,_,rfl⟩ hs5 dk5 hL5 hF5 hps hok hdr dn5 e (.inl rfl) rfl hwt (by decide +kernel) hw.1 ht
   ·have Kt:∀ (t:Addr) (ht:H5 t=none) (σ:St),(∃ u1 u2 u3,σ=[some (.ref d),some (.str z),some (.ref F),u1,u2,u3])->mz K H d z F L n (i+1) σ (upd (upd H5 t (.tup [.str "hole",.str "any"])) F (.lst (acc++[.ref t]))):=λt ht σ hσ=>
     mz.step (pt:=.hole 2) hdF hLF hF hσ hs5 dk5 hL5 hF5 hps hok hdr dn5 e (.inr (.inr rfl)) rfl (by decide:2<3) (by decide +kernel) (by decide +kernel) ht
    refine ⟨_,rfl,_,_,rfl,rfl,_,rfl,?_⟩;refine xn (λ_=>?_) (λ_=>?_)
    ·refine ⟨_,rfl,rfl,_,rfl,?_⟩;rw [AJ hk3];by_cases h2:bZ wd.cps.toList=2
     ·rw [decide_eq_true h2];refine bf ?_;exact ⟨_,rfl,.inl ⟨rfl,_,.of hF5⟩,(by show 2<=sizeLine;decide),λt ht=>⟨F,acc,_,rfl,rfl,ae.new ht _ _ hF5,small (by lia),Kt t ht _ ⟨_,_,_,rfl⟩⟩⟩
     ·rw [decide_eq_false h2];refine bL ?_;refine ⟨_,rfl,.inl ⟨rfl,_,.of hF5⟩,_,rfl,(by show 2<=sizeLine;decide),λt ht=>⟨F,acc,_,rfl,rfl,ae.new ht _ _ hF5,small (by lia),?_⟩⟩;have hk2:bZ wd.cps.toList<2:=by lia
      rw [E3 hk2];exact mz.step (pt:=.hole (bZ wd.cps.toList)) hdF hLF hF ⟨_,_,_,rfl⟩ hs5 dk5 hL5 hF5 hps hok hdr dn5 e (.inr (.inl ⟨rfl,hk2⟩)) rfl hk3 (by decide +kernel) qo ht
    ·refine bf ?_;exact ⟨_,rfl,.inl ⟨rfl,_,.of hF5⟩,(by show 2<=sizeLine;decide),λt ht=>⟨F,acc,_,rfl,rfl,ae.new ht _ _ hF5,small (by lia),Kt t ht _ ⟨_,_,_,rfl⟩⟩⟩
  ·obtain ⟨q0,s3,dk3,hL3,acc,ps,hF3,hps,hok,hdr,dn⟩:=q;apply wD q0;clear q0;intro u1 u2 u3;rw [NE] at hps dk3;refine ⟨_,rfl,k F H3 ps hF s3 (dk3.mono (by lia)) ⟨by lia,hok⟩ ⟨hps,hdr⟩ ⟨acc,hF3⟩ ?_⟩;exact .lst (.of ((bQ hF).trans hF3)) (dn.same (bW sF.ll))
def uK (K:PySem.W.Frag) (P:Addr):Sp:=λvs H Q _=>∃ (a:Addr) (ns:List Int),vs=[.ref a]/\SqL K H a (ns.map V.int)/\ns.length<=63/\bC P H/\∀ H',Q (.bl true) H'
theorem rB {P d:Addr}{H H':Hp}{ys:List V} (h:bC P H) (hd:H d=some (.lst ys)) (s:ae (wo d H) H'):bC P H':=by
 obtain ⟨ps,h1,h2,h3⟩:=h;have a:P≠d:=λe=>by rw [e,hd] at h1;cases h1
 refine ⟨ps,s _ _ (by rw [aS a];exact h1),h2,h3.imp id λ⟨c,x,y⟩=>⟨c,x,?_⟩⟩;have b:c≠d:=λe=>by rw [e,hd] at y;cases y
 exact s _ _ (by rw [aS b];exact y)
def Kp:Sh:=.list (.list (.bg .str (.bg .str .ix)))
theorem Af (pss:List (List Pt)):Kp.has (.list (pss.map br)):=⟨_,rfl,λx hx=>by
 obtain ⟨ps,_,rfl⟩:=NJ.mp hx;exact ⟨_,rfl,λy hy=>by
  obtain ⟨p,_,rfl⟩:=NJ.mp hy;cases p <;> exact ⟨_,_,rfl,⟨_,rfl⟩,_,_,rfl,⟨_,rfl⟩,rfl⟩⟩⟩
theorem oO (pss:List (List Pt)):PyData.eqv (.list (pss.map br)) (.list (pss.map br))=true:=((Sh.ok Kp).eqv _ _ (Af pss) (Af pss)).mpr rfl
theorem AL (l:List Str):PyData.eqv (.list (l.map PyData.str)) (.list (l.map PyData.str))=true:=by
 have h:(Sh.list .str).has (.list (l.map PyData.str)):=⟨_,rfl,λx hx=>by
  obtain ⟨z,_,rfl⟩:=NJ.mp hx;exact ⟨z,rfl⟩⟩
 exact ((Sh.ok (.list .str)).eqv _ _ h h).mpr rfl
theorem En (ps:List Pt):PyData.eqv (.list (ps.map Pt.dat)) (.list (ps.map Pt.dat))=true:=by
 have h:(Sh.list (.bg .str (.bg .str .ix))).has (.list (ps.map Pt.dat)):=⟨_,rfl,λy hy=>by
  obtain ⟨p,_,rfl⟩:=NJ.mp hy;cases p <;> exact ⟨_,_,rfl,⟨_,rfl⟩,_,_,rfl,⟨_,rfl⟩,rfl⟩⟩
 exact ((Sh.ok _).eqv _ _ h h).mpr rfl
theorem E4 {x:V} (h:x∈[V.int 0,V.int 7,V.int 30,V.int 58,V.int 59]):∃ m:Nat,x = .int (m:Int)/\m<60:=by
 simp only [NZ,O2,or_false] at h;rcases h with rfl | rfl | rfl | rfl | rfl
 ·exact ⟨0,rfl,by decide⟩
 ·exact ⟨7,rfl,by decide⟩
 ·exact ⟨30,rfl,by decide⟩
 ·exact ⟨58,rfl,by decide⟩
 ·exact ⟨59,rfl,by decide⟩
theorem FG (l:List Nat):(l.map nV).all fX=true:=by
 rw [Od];intro x hx;obtain ⟨i,_,rfl⟩:=NJ.mp hx;rfl
theorem Gs {s l:Int}{zs:List Str}{m:Nat} (h:m<zs.length):inV (.int (m:Int)) ((ki s l zs zs.length).map nV)=iY s l (zs.take m) (zs.getD m Str.empty):=by
 rw [N7];constructor
 ·intro z;obtain ⟨x,hx,e⟩:=OA.mp z;obtain ⟨i,hi,rfl⟩:=NJ.mp hx;have e':((i:Int) == (m:Int))=true:=e;have:i=m:=by have:=of_decide_eq_true e';lia
  rw [this] at hi;exact (tP.mp hi).2
 ·intro z;exact OA.mpr ⟨nV m,NJ.mpr ⟨m,tP.mpr ⟨h,z⟩,rfl⟩,(by show ((m:Int) == (m:Int))=true;exact decide_eq_true rfl)⟩
theorem He {K:PySem.W.Frag}{H:Hp}{x:V}{z:Str} (h:Den K H x (p3D z)):∃ t r1 r2,x = .ref t/\SqT K H t [r1,r2,.str z]:=by
 cases h with
 | tup hs ds=>
  cases ds with
  | cons h1 t1=>
   cases t1 with
   | cons h2 t2=>
    cases t2 with
    | cons h3 t3=>
     cases h3;cases t3;exact ⟨_,_,_,rfl,hs⟩
theorem Hj {K:PySem.W.Frag}{a:Addr}{x y z:V}{σ:St}{H:Hp}{F G:St->Hp->Prop} (hq:SqT K H a [x,y,z]) (h:F (((σ.set 0 (some x)).set 1 (some y)).set 2 (some z)) H) :
  xI K 3 (fH (aU 0) (fH (aU 1) (fH (aU 2) xW))) (.ref a) σ H λσ2 H2=>FR σ2 H2 λb H3=>if b=true then F σ2 H3 else G σ2 H3:=by
 refine ⟨a,_,rfl,hq,rfl,_,_,rfl,_,_,rfl,_,_,rfl,rfl,?_⟩;show (if true=true then F (((σ.set 0 (some x)).set 1 (some y)).set 2 (some z)) H else G (((σ.set 0 (some x)).set 1 (some y)).set 2 (some z)) H);rw [if_pos rfl];exact h
def FD (zs:List Str) (pss:List (List Pt)):Prop:=∀ (i:Nat) z ps,zs[i]? = some z->pss[i]? = some ps->POk ps/\lh (Txt.split z " ") ps
def NP (K:PySem.W.Frag) (d:Addr) (zs:List Str) (H3 Hb:Hp) (j:Nat) (acc:List V) (σ:St) (H4:Hp):Prop:=(∃ u,σ=[u,some (.ref d)])/\ae (wo d H3) H4/\Dk H4 d (300000+100 * j)/\∃ pss:List (List Pt),pss.length=j/\FD zs pss/\aB K (lim Hb H4) acc (pss.map br)
def L39 (P Z:Addr) (cells:List V) (i:Nat) (σ:St) (H:Hp):Prop:=(∃ u0 u1 u2 u3 u4 u5 u6 u7 u8 u9 u10 u11 u12 u13 u14,σ=[u0,u1,u2,u3,u4,u5,u6,u7,u8,u9,u10,u11,u12,u13,u14])/\H Z=some (.lst cells)/\bC P H
theorem cL:aE ["script","cell","deck","sieve","lines","patterns","many","some","number","line","told","due","known","places","words"] ["script"] (ah (top 63)):=⟨rfl,rfl,rfl,by decide +kernel,rfl,by decide +kernel,by decide +kernel⟩
set_option maxHeartbeats 8000000 in
theorem Hg (F:Fun K "law" "law" (top 63) A.GQ A.GS) (T:Tx K mg A):aA P w K mg base CX0 23 A.GQ A.GS ["script"] (uK K A.aD):=by
 have vT:aA P w K mg base CX0 22 A.kD A.kq ["cell","turn"] (nD K):=(vd T).mono (by decide);have vN:aA P w K mg base CX0 22 A.jP A.jE ["deck"] (lZ K):=(sQ T).mono (by decide);have uV:aA P w K mg base CX0 22 A.jT A.jN ["deck"] (l6 K):=(rS T).mono (by decide);have j3:aA P w K mg base CX0 22 A.fP A.fW ["lines","sieve"] (iQ K):=(n6 T).mono (by decide);have G6:aA P w K mg base CX0 22 A.yb A.yK ["lines","sieve"] (zX K A.aD):=(F7 T).mono (by decide);have rK:aA P w K mg base CX0 22 A.gR A.gz ["deck","line"] (j5 K):=(pG T).mono (by decide);have iT:aA P w K mg base CX0 22 A.i3 A.i5 ["patterns"] (jg K):=(mo T).mono (by decide);have gM:aA P w K mg base CX0 22 A.eG A.d7 ["patterns"] (fN K):=(j4 T).mono (by decide);have r9:aA P w K mg base CX0 22 A.iA A.iy ["line","patterns"] (kU K):=(qm T).mono (by decide);have yd:aA P w K mg base CX0 22 A.mM A.mx ["lines"] (o7 K):=(vW T).mono (by decide);have CY:aA P w K mg base CX0 22 A.qA A.qu ["pattern","words"] (uD K):=(BI T).mono (by decide);have jC:aA P w K mg base CX0 22 A.js A.jr ["lines","sieve"] (jW K A.aD):=(oV T).mono (by decide);have rA:aA P w K mg base CX0 22 A.nt A.nG ["patterns"] (oP K):=(ux T).mono (by decide);have iw:aA P w K mg base CX0 22 A.fg A.fh ["patterns"] (gT K):=(ke T).mono (by decide);have vM:aA P w K mg base CX0 22 A.jq A.jQ ["line","patterns"] (l0 K):=(sm T).mono (by decide);have qx:aA P w K mg base CX0 22 A.qS A.rn ["pattern","line"] (pP K):=(vf T).mono (by decide);have lj:aA P w K mg base CX0 22 A.g8 A.ik ["pattern","line"] (jY K):=(m9 T).mono (by decide);refine F.ok cL (λvs H Q E h=>?_) (λcdv Ar outer s H vs Q E hr h=>?_)
 ·obtain ⟨a,ns,rfl,_⟩:=h;rfl
 ·obtain ⟨a,ns,rfl,Jw,hn,hla,k⟩:=h;refine ⟨_,aj (cs PassesOwn.never rfl (aH (fC (r:=yB K) lI (bX (r:=vV K) pX (pv 0) (be (aa (ap) (af)))) (ip) (ig (ap)))) (au (i:=1) cL.nd rfl (Or.inl rfl)) (aj (aQ (i:=2) cL.nd rfl (Or.inr rfl) (aq vT hr (by rfl) T.lP.mg T.lP.fn.kp T.lP.bd .nil aC (aa (pv 1) (aa (ap) (af)))))
   (aj (aQ (i:=3) cL.nd rfl (Or.inl rfl) (aq vN hr (by rfl) T.jF.mg T.jF.fn.kp T.jF.bd .nil aC (aa (pv 2) (af))))
   (aj (aQ (i:=4) cL.nd rfl (Or.inr rfl) (aq uV hr (by rfl) T.jX.mg T.jX.fn.kp T.jX.bd .nil aC (aa (pv 2) (af))))
   (aj (jf (i:=5) (N':=["line","deck"]) (n:=1) (fi:=[2]) (g:=aU 0) cL.nd rfl (Or.inl rfl) rfl (aX (ah (top 63)) ["script","cell","deck","sieve","lines","patterns","many","some","number","line","told","due","known","places","words"] (by decide +kernel)) (aH (pv 4)) (λs H fp=>au (i:=0) (show (["line","deck"]:List Str).Nodup by decide +kernel) rfl (Or.inl rfl) (.inr rfl)) (λs H fp=>aO) (λs H fp=>aq rK hr (by rfl) T.gh.mg T.gh.fn.kp T.gh.bd .nil aC (aa (pv 1) (aa (pv 0) (af)))))
   (aj (bA (aK (r:=qt K) (iJ hr) (aq iT hr (by rfl) T.ordered.mg T.ordered.fn.kp T.ordered.bd .nil aC (aa (pv 5) (af))) (aq gM hr (by rfl) T.cJ.mg T.cJ.fn.kp T.cJ.bd .nil aC (aa (pv 5) (af))) (aJ _)) (ak (ax (jZ))) (aZ))
   (aj (cs PassesOwn.never rfl (uy (by rfl) T.eC (aa (ap) (aa (ap) (af)))) (au (i:=6) cL.nd rfl (Or.inr rfl)) (aj (jf (i:=7) (N':=["pattern","many"]) (n:=1) (fi:=[6]) (g:=aU 0) cL.nd rfl (Or.inl rfl) rfl (aX (ah (top 63)) ["script","cell","deck","sieve","lines","patterns","many","some","number","line","told","due","known","places","words"] (by decide +kernel)) (aH (pv 5)) (λs H fp=>au (i:=0) (show (["pattern","many"]:List Str).Nodup by decide +kernel) rfl (Or.inl rfl) (.inr rfl)) (λs H fp=>cq (aK (ef) (aI (r:=dq K) ba (by rfl) T.b7 PySem.boot_len (aa (pv 0) (af))) (pv 1) (aJ _))) (λs H fp=>pv 0))
   (ak (bA ((pw_and (aK (r:=qt K) (iJ hr) (pv 7) (be (af)) (aJ _)) (pw_and1 (aK (r:=qt K) (iJ hr) (aq rA hr (by rfl) T.joined.mg T.joined.fn.kp T.joined.bd .nil aC (aa (pv 7) (af))) (aq iw hr (by rfl) T.c7.mg T.c7.fn.kp T.c7.bd .nil aC (aa (pv 7) (af))) (aJ _)))).pt) (ak (ax (jZ))) (aZ)))))
   (aj (cs PassesOwn.never rfl (va (by rfl) T.kC (aa (pv 4) (af))) (iM rfl (bw (au (i:=8) cL.nd rfl (Or.inr rfl)) (bw (au (i:=9) cL.nd rfl (Or.inl rfl)) (fj)))) (aj (aQ (i:=10) cL.nd rfl (Or.inl rfl) (aq r9 hr (by rfl) T.ij.mg T.ij.fn.kp T.ij.bd .nil aC (aa (pv 9) (aa (pv 5) (af)))))
   (aj (bA ((pw_or (aK (r:=qt K) (iJ hr) (pv 10) (aq vM hr (by rfl) T.jI.mg T.jI.fn.kp T.jI.bd .nil aC (aa (pv 9) (aa (pv 5) (af)))) (aJ _)) (pw_or1 (lg (cD (aq qx hr (by rfl) T.fits.mg T.fits.fn.kp T.fits.bd .nil aC (aa (aR (r:=cE K) aT (pv 5) (pv 8) (λ_ _=>rfl)) (aa (pv 9) (af)))))))).pt) (ak (ax (jZ))) (aZ))
   (ak (bA (aK (m6) (aq CY hr (by rfl) T.filled.mg T.filled.fn.kp T.filled.bd .nil aC (aa (aP (N':=["word"]) (n:=1) (fi:=[]) (g:=aU 0) rfl (aX (ah (top 63)) ["script","cell","deck","sieve","lines","patterns","many","some","number","line","told","due","known","places","words"] (by decide +kernel)) (aH (b6 PySem.F.plainAttrs_str PySem.F.slot_str_split PySem.F.type_str_split fF (pv 9) (aa (ay) (af)))) (λs H fp=>au (i:=0) (show (["word"]:List Str).Nodup by decide +kernel) rfl (Or.inl rfl) (.inr rfl)) (λs H fp=>aO) (λs H fp=>bJ (aa (ay) (aa (pv 0) (af))))) (aa (be (af)) (af)))) (pv 9) (aJ _)) (ak (ax (jZ))) (aZ))))))
   (aj (aQ (i:=11) cL.nd rfl (Or.inl rfl) (aq j3 hr (by rfl) T.cu.mg T.cu.fn.kp T.cu.bd .nil aC (aa (pv 4) (aa (pv 3) (af)))))
   (aj (bA ((pw_or (aK (r:=qt K) (iJ hr) (aq jC hr (by rfl) T.gathered.mg T.gathered.fn.kp T.gathered.bd .nil aC (aa (pv 4) (aa (pv 3) (af)))) (pv 11) (aJ _)) (pw_or1 (aK (r:=qt K) (iJ hr) (aq jC hr (by rfl) T.gathered.mg T.gathered.fn.kp T.gathered.bd .nil aC (aa (IG (pv 4)) (aa (pv 3) (af)))) (pv 11) (aJ _)))).pt) (ak (ax (jZ))) (aZ))
   (aj (aQ (i:=10) cL.nd rfl (Or.inl rfl) (aq G6 hr (by rfl) T.news.mg T.news.fn.kp T.news.bd .nil aC (aa (pv 4) (aa (pv 3) (af)))))
   (aj (cs PassesOwn.never rfl (aH (be (aa (ap) (aa (ap) (aa (ap) (aa (ap) (aa (ap) (af)))))))) (au (i:=8) cL.nd rfl (Or.inr rfl)) (aj (aQ (i:=7) cL.nd rfl (Or.inl rfl) (aq j3 hr (by rfl) T.cu.mg T.cu.fn.kp T.cu.bd .nil aC (aa (fC (r:=yB K) lI (pv 4) (ip) (ig (pv 8))) (aa (pv 3) (af)))))
   (aj (jf (i:=12) (N':=["one","lines","number"]) (n:=1) (fi:=[4,8]) (g:=aU 0) cL.nd rfl (Or.inl rfl) rfl (aX (ah (top 63)) ["script","cell","deck","sieve","lines","patterns","many","some","number","line","told","due","known","places","words"] (by decide +kernel)) (aH (pv 7)) (λs H fp=>au (i:=0) (show (["one","lines","number"]:List Str).Nodup by decide +kernel) rfl (Or.inl rfl) (.inr rfl)) (λs H fp=>cq (cD (aq lj hr (by rfl) T.e7.mg T.e7.fn.kp T.e7.bd .nil aC (aa (pv 0) (aa (aR (r:=cE K) aT (pv 1) (pv 2) (λ_ _=>rfl)) (af)))))) (λs H fp=>pv 0))
   (ak (bA (aK (m6) (cy (r:=rIn K false) (lF) (pv 8) (pv 10) (by rfl)) (cy (r:=rV K) (mK hr) (pv 12) (be (af)) (aJ _)) (aJ _)) (ak (ax (jZ))) (aZ))))))
   (aj (aQ (i:=13) cL.nd rfl (Or.inl rfl) (be (af)))
   (aj (cs PassesOwn.never rfl (aH (pv 4)) (au (i:=9) cL.nd rfl (Or.inl rfl)) (aj (aQ (i:=14) cL.nd rfl (Or.inl rfl) (b6 PySem.F.plainAttrs_str PySem.F.slot_str_split PySem.F.type_str_split fF (pv 9) (aa (ay) (af))))
   (ak (cx (b6 PySem.F.plainAttrs_list PySem.F.slot_list_append PySem.F.type_list_append bG (pv 13) (aa (bJ (aa (aI (r:=dq K) ba (by rfl) T.b7 PySem.boot_len (aa (pv 14) (af))) (aa (aP (N':=["word"]) (n:=1) (fi:=[]) (g:=aU 0) rfl (aX (ah (top 63)) ["script","cell","deck","sieve","lines","patterns","many","some","number","line","told","due","known","places","words"] (by decide +kernel)) (aH (pv 14)) (λs H fp=>au (i:=0) (show (["word"]:List Str).Nodup by decide +kernel) rfl (Or.inl rfl) (.inr rfl)) (λs H fp=>aO) (λs H fp=>bJ (aa (aI gc (by rfl) T.b7 PySem.boot_len (aa (pv 0) (af))) (aa (pv 0) (af))))) (aa (pv 9) (af))))) (af)))))))
   (ak (bA (aK (r:=qt K) (iJ hr) (aq yd hr (by rfl) T.nh.mg T.nh.fn.kp T.nh.bd .nil aC (aa (pv 4) (af))) (aP (N':=["many","words","line"]) (n:=3) (fi:=[]) (g:=xI K 3 (fH (aU 0) (fH (aU 1) (fH (aU 2) (xW))))) rfl (aX (ah (top 63)) ["script","cell","deck","sieve","lines","patterns","many","some","number","line","told","due","known","places","words"] (by decide +kernel)) (aH (aI (o4 (a:=.int) (r:=.bg (.list Bq) (.bg .str .ix)) .int hr) (by rfl) T.fB gu (aa (pv 13) (af)))) (λs H fp=>iM rfl (bw (au (i:=0) (show (["many","words","line"]:List Str).Nodup by decide +kernel) rfl (Or.inl rfl) (.inr rfl)) (bw (au (i:=1) (show (["many","words","line"]:List Str).Nodup by decide +kernel) rfl (Or.inl rfl) (.inr rfl)) (bw (au (i:=2) (show (["many","words","line"]:List Str).Nodup by decide +kernel) rfl (Or.inl rfl) (.inr rfl)) (fj))))) (λs H fp=>aO) (λs H fp=>pv 2)) (aJ _)) (ak (ax (jZ))) (aZ)))))))))))))))))
   (ak (ax (jZ))),?_⟩
  refine ⟨_,rfl,(by show 1<=sizeLine;decide),λp hp=>⟨a,p,_,_,rfl,rfl,(ae.new hp).seq Jw,.of ab,?_,λq hq=>⟨2,rfl,q,_,rfl,.of ab,λZ hZ=>⟨Z,rfl,⟨_,.of ab⟩,?_⟩⟩⟩⟩
  ·rw [NE];exact NM (OJ hn 1) (by decide)
  have yy:∀ i x,(qH (ns.map V.int++[V.int 0]) none (some 2))[i]? = some x->∃ c:Int,x=V.int c:=λi x hx=>by
   rw [kZ (by decide)] at hx;rcases Oa.mp (OQ (NF hx)) with hm | hm
   ·obtain ⟨c,_,rfl⟩:=NJ.mp hm;exact ⟨c,rfl⟩
   ·exact ⟨0,NQ.mp hm⟩
  have laZ:=a8 (a8 (a8 hla (ae.new (o:=.lst [.int 0]) hp)) (ae.new (o:=.lst (ns.map V.int++[V.int 0])) hq)) (ae.new (o:=.lst (qH (ns.map V.int++[V.int 0]) none (some 2))) hZ);generalize qH (ns.map V.int++[V.int 0]) none (some 2)=cells at yy laZ;refine cM (K:=K) (xs:=cells) (L39 A.aD Z cells) ⟨⟨_,_,_,_,_,_,_,_,_,_,_,_,_,_,_,rfl⟩,ab,laZ⟩ (λi σ H _ q=>.of q.2.1) (λi x σ H0 hx q=>?_) (λσ H q=>?_)
  ·obtain ⟨c,rfl⟩:=yy i x hx;obtain ⟨q0,hZ0,la0⟩:=q;apply J3 q0;clear q0;intro u0 u1 u2 u3 u4 u5 u6 u7 u8 u9 u10 u11 u12 u13 u14;clear laZ hla Jw hx;refine ⟨_,rfl,c,rfl,λd H1 hd s1 dk1=>?_⟩;have hdZ:d≠Z:=(ao hZ0 hd).symm;have hZ1:=s1 _ _ hZ0;have la1:bC A.aD H1:=a8 la0 s1;obtain ⟨zs1,hd1⟩:=dk1.lst;refine ⟨_,rfl,d,_,rfl,dk1,by decide,λSV sv lv H2 hSV s2 dk2 hS2=>?_⟩;have la2:bC A.aD H2:=rB la1 hd1 s2;have hZ2:H2 Z=_:=bT s2 hZ1 hdZ;have hdS:d≠SV:=dk1.ne hSV;obtain ⟨zs2,hd2⟩:=dk2.lst;refine ⟨_,rfl,d,_,rfl,dk2,by decide,λD zs H3 hD s3 dk3 hDl hls hll=>?_⟩;have la3:bC A.aD H3:=rB la2 hd2 s3;have hZ3:H3 Z=_:=bT s3 hZ2 hdZ;have hS3:H3 SV=_:=bT s3 hS2 hdS;have hdD:d≠D:=dk2.ne hD;obtain ⟨zs3,hd3⟩:=dk3.lst;have hzo:∀ z∈zs,LOk z/\PyData.strOk z=true/\Words (Txt.split z " "):=λz hz=>by
    obtain ⟨ws,hln⟩:=hls z hz;have:=hln.ok (by decide);refine ⟨NM this.2 (by decide),this.1,?_⟩;rw [hln.split];exact λw h=>(hln.wd w h).word
   refine ⟨_,rfl,D,rfl,⟨_,.of hDl⟩,λPL hPL=>?_⟩;have hdP:d≠PL:=dk3.ne hPL;have hbd:(upd H3 PL (.lst [])) d=some (.lst zs3):=by rw [aw hdP];exact hd3
   refine aF (K:=K) (xs:=zs.map V.str) (NP K d zs H3 (upd H3 PL (.lst []))) ab ⟨⟨_,rfl⟩,bc.trans (ae.new hPL),(dk3.same (ae.new hPL)).mono (by decide),[],rfl,(λi z ps _ h=>by cases h),.nil⟩ (λj acc σ H4 _ _ q=>.of (bT q.2.1 hDl hdD)) (λj x acc σ H4 hx hPx q=>?_) (λacc σ H4 hP4 q=>?_)
   ·obtain ⟨q0,s4,dk4,pss,hpl,hdr,dn⟩:=q;apply bP q0;clear q0;intro u;obtain ⟨z,hz,rfl⟩:=b0 hx;have hj:=aG hz;obtain ⟨ws,hln⟩:=hls z (NF hz);have hzl:=(hln.ok (by decide)).2;have hal:acc.length=j:=by rw [dn.length,NE];exact hpl
    refine bV ⟨_,rfl,_,rfl,d,z,_,rfl,dk4,by lia,by lia,(hzo z (NF hz)).2.1,λF H5 ps hF s5 dk5 hpo hda hys fR=>?_⟩;have hPF:PL≠d:=hdP.symm;have hP5:H5 PL=some (.lst acc):=bT s5 hPx hdP;have ll4:LL (upd H3 PL (.lst [])) H4:=λb ys e=>by
     by_cases q:b=d
     ·rw [q];exact dk4.lst
     ·by_cases q2:b=PL
      ·rw [q2];exact ⟨_,hPx⟩
      ·rw [aw q2] at e;exact ⟨_,bT s4 e (Ne.symm q)⟩
    refine ⟨acc,hP5,small (by lia),_,ab,⟨_,rfl⟩,?_,(dk5.upd hdP).mono (by lia),pss++[ps],by rw [NX,hpl];rfl,λi z' ps' h1 h2=>?_,?_⟩
    ·refine ar ?_ (bp s4 s5);rw [aS hPF];exact hPL
    ·by_cases hi:i<pss.length
     ·rw [O7 hi] at h2;exact hdr i z' ps' h1 h2
     ·have hi2:=aG h2;rw [NX,OF] at hi2;have ei:i=j:=by lia
      subst ei;rw [O5 (by lia),hpl,Nat.sub_self] at h2;cases h2;rw [hz] at h1;cases h1;exact ⟨hpo,hda⟩
    ·rw [dA (ys:=[]) ab,NS];exact (dn.same (oW hbd s5)).append (.cons (fR.same (bW ll4)) .nil)
   obtain ⟨_,s4,dk4,pss,hpl,hdr,dn⟩:=q;rw [NE,hll] at hpl;have la4:bC A.aD H4:=rB la3 hd3 s4;have hZ4:H4 Z=_:=bT s4 hZ3 hdZ;have hS4:H4 SV=_:=bT s4 hS3 hdS;have hD4:H4 D=_:=bT s4 hDl hdD;obtain ⟨tb4,wj⟩:=dE la4;have hBP:(wo A.aD H4) A.aD=none:=cX;have toB:∀ {b:Addr}{o:HO},H4 b=some o->(∀ qs,o ≠ .tbl qs)->(wo A.aD H4) b=some o:=λ{b o} e n=>by rw [aS (rL wj e n)];exact e
   have hBD:=toB hD4 λqs e=>by cases e
   have hBS:=toB hS4 λqs e=>by cases e
   have hBZ:=toB hZ4 λqs e=>by cases e
   have hBL:=toB hP4 λqs e=>by cases e
   have dsB:aB K (wo A.aD H4) acc (pss.map br):=qK wj (dn.same bt);have sB4:ae (wo A.aD H4) H4:=bc;generalize wo A.aD H4=B at hBP hBD hBS hBZ hBL dsB sB4;clear toB wj hD4 hS4 hZ4 hP4 dn dk4 s4 hbd hdP hPL hd3 hdD hDl hS3 hZ3 la3 dk3 s3 hD hd2 hdS hZ2 la2 hS2 dk2 s2 hSV hd1 la1 hZ1 hdZ dk1 s1 hd la0 hZ0 yy;have hal:acc.length=60:=by rw [dsB.length,NE];exact hpl
   have hat:∀ {i:Nat}{ps:List Pt},pss[i]? = some ps->∃ z ws,zs[i]? = some z/\jV 12 z ws/\POk ps/\lh ws ps:=λ{i ps} h=>by
    have hi:=aG h;obtain ⟨z,hz⟩:=at_of (l:=zs) (i:=i) (by lia);obtain ⟨ws,hln⟩:=hls z (NF hz);obtain ⟨h1,h2⟩:=hdr i z ps hz h;rw [hln.split] at h2;exact ⟨z,ws,hz,hln,h1,h2⟩
   have hpo:∀ ps∈pss,POk ps:=λps h=>by
    obtain ⟨i,hi⟩:=OR h;obtain ⟨z,ws,_,_,h1,_⟩:=hat hi;exact h1
   have hpw:∀ ps∈pss,PW ps/\ps.length<=12:=λps h=>by
    obtain ⟨i,hi⟩:=OR h;obtain ⟨z,ws,_,hln,_,h2⟩:=hat hi;exact ⟨Dc hln.wd h2,by rw [h2.1];exact hln.le⟩
   refine ⟨_,rfl,PL,acc,pss,rfl,.of (sB4 _ _ hBL),by lia,dsB.same sB4,hpo,λD1 Nr H5 l1 hD1 s5 Ex hp1 ho1 fr1 ne1 dn1=>?_⟩;have sB5:=sB4.trans s5;refine ⟨_,rfl,PL,acc,pss,rfl,.of (sB5 _ _ hBL),by lia,dsB.same sB5,hpo,λD2 aV H6 l2 hD2 s6 vQ hp2 ho2 dn2=>?_⟩;have el:l1=l2:=kG (hp1.trans hp2.symm) ho1 ho2;subst el;refine ⟨_,_,.lst (.of (s6 _ _ Ex)) ((dn1.same bt).same s6),.lst (.of vQ) (dn2.same bt),kN _,_,rfl,?_⟩;rw [oO];have sB6:=sB5.trans s6;have la6:bC A.aD H6:=a8 la4 (s5.trans s6);clear dn2 dn1 vQ Ex hp1 hp2 ho1 ho2 fr1 ne1 hD1 hD2 s5 s6 sB5 sB4 la4;refine bf ?_;refine ⟨1,13,rfl,⟨by decide,by decide,by decide,by decide⟩,?_⟩;refine gr (λi σ H7=>(∃ v6 v7 v8 v9 v10 v11 v12 v13 v14,σ=[u0,some (.int c),some (.ref d),some (.ref SV),some (.ref D),some (.ref PL),v6,v7,v8,v9,v10,v11,v12,v13,v14])/\ae B H7/\bC A.aD H7) ⟨⟨_,_,_,_,_,_,_,_,_,rfl⟩,sB6,la6⟩ (λi σ H7 hi q=>?_) (λσ H7 q=>?_)
   ·obtain ⟨q0,s7,la7⟩:=q;apply Gq q0;clear q0;intro v6 v7 v8 v9 v10 v11 v12 v13 v14;have Iu:i<12:=hi;have e1:((1:Int)+(i:Int))=((i+1:Nat):Int):=by lia
    rw [e1];refine ⟨_,rfl,PL,rfl,⟨_,.of (s7 _ _ hBL)⟩,λM hM=>?_⟩;refine aF (K:=K) (xs:=acc) (λj aV σ H8=>(∃ u,σ=[u,some (.int ((i+1:Nat):Int))])/\ae H7 H8/\aB K B aV (((pss.take j).filter λp=>decide (p.length=i+1)).map br)) ab ⟨⟨_,rfl⟩,ae.new hM,.nil⟩ (λj aV σ H8 _ _ q=>.of ((s7.trans q.2.1) _ _ hBL)) (λj x aV σ H8 hx hMx q=>?_) (λaV σ H8 hM8 q=>?_)
    ·obtain ⟨q0,s8,dn⟩:=q;apply bP q0;clear q0;intro u;obtain ⟨p,hpj,hdp⟩:=cm dsB hx;have hj:=aG hpj;obtain ⟨b,ys,rfl,hqb,hdb⟩:=cw hdp;have hyl:ys.length=p.length:=by rw [hdb.length,NE]
     have hl2:aV.length<=64:=by
      rw [dn.length,NE];exact NM (N8 _ _) (by rw [NR];lia)
     have et:pss.take (j+1)=pss.take j++[p]:=by rw [NY,hpj];rfl
     refine ⟨_,rfl,b,ys,rfl,.inl ((s7.trans s8).seq hqb),_,rfl,rfl,_,rfl,?_⟩;rw [et,Oe,hyl];by_cases e:p.length=i+1
     ·have e2:[p].filter (λp=>decide (p.length=i+1))=[p]:=OH (decide_eq_true e);rw [e2,NS,decide_eq_true (by rw [e])];exact bL ⟨_,rfl,_,hMx,small (by lia),_,ab,⟨_,rfl⟩,ar hM s8,dn.append (.cons hdp .nil)⟩
     ·have e2:[p].filter (λp=>decide (p.length=i+1))=[]:=OI (λz=>e (of_decide_eq_true z));rw [e2,N6,decide_eq_false (λz=>e (by injection z with z;lia))];exact bf ⟨_,hMx,⟨_,rfl⟩,s8,dn⟩
    ·obtain ⟨_,s8,dn⟩:=q;rw [hal,<-hpl,List.take_length] at dn;have hqs:∀ ps∈pss.filter (λp=>decide (p.length=i+1)),ps∈pss/\ps.length=i+1:=λps h=>⟨(Oc.mp h).1,of_decide_eq_true (Oc.mp h).2⟩;have hqn:(pss.filter λp=>decide (p.length=i+1)).length<=60:=NM (N8 _ _) (by lia);generalize pss.filter (λp=>decide (p.length=i+1))=qss at dn hqs hqn;have sB8:=s7.trans s8;refine ⟨_,rfl,NW _,λE hE=>?_⟩;have sE:ae H8 (upd H8 E (.lst [])):=ae.new hE;have hM9:=sE _ _ hM8;have sB9:=sB8.trans sE;have la9:bC A.aD (upd H8 E (.lst [])):=a8 la7 (s8.trans sE);refine ⟨_,_,.lst (.of hM9) (dn.same sB9),.lst (.of ab) .nil,kN _,_,rfl,?_⟩;rw [mQ,Po];generalize upd H8 E (.lst [])=H9 at hM9 sB9 la9 ⊢;clear sE hE hM8 s8 sB8 hM;cases hem:qss.isEmpty with
     | true=>exact bf (bf ⟨⟨_,_,_,_,_,_,_,_,_,rfl⟩,sB9,la9⟩)
     | false=>
      have hne:qss≠[]:=λe=>by rw [e] at hem;cases hem
      refine bL ⟨_,rfl,M,aV,qss,i+1,rfl,.of hM9,dn.same sB9,hne,by lia,λps h=>⟨hpo ps (hqs ps h).1,(hqs ps h).2⟩,λJ1 ac1 H10 hJ1 s10 MV dj1=>?_⟩;have zl:=sB9.trans s10;refine ⟨_,rfl,M,aV,qss,i+1,rfl,.of (s10 _ _ hM9),dn.same zl,hne,by lia,λps h=>⟨(hpw ps (hqs ps h).1).1,(hqs ps h).2⟩,by lia,λJ2 ac2 H11 hJ2 s11 MO _ dj2=>?_⟩;refine ⟨_,_,.lst (.of (s11 _ _ MV)) ((dj1.same bt).same s11),.lst (.of MO) (dj2.same bc),NM (kQ _) (by decide),_,rfl,?_⟩;rw [En];exact bf ⟨⟨_,_,_,_,_,_,_,_,_,rfl⟩,zl.trans s11,a8 la9 (s10.trans s11)⟩
   ·obtain ⟨q0,s7,la7⟩:=q;apply Gq q0;clear q0;intro v6 v7 v8 v9 v10 v11 v12 v13 v14;clear sB6 la6;refine ⟨_,rfl,D,rfl,⟨_,.of (s7 _ _ hBD)⟩,?_⟩;refine CI (K:=K) (xs:=zs.map V.str) (λi σ H8=>(∃ v6 v7 v8 v9 v10 v11 v12 v13 v14,σ=[u0,some (.int c),some (.ref d),some (.ref SV),some (.ref D),some (.ref PL),v6,v7,v8,v9,v10,v11,v12,v13,v14])/\ae B H8/\bC A.aD H8) ⟨⟨_,_,_,_,_,_,_,_,_,rfl⟩,s7,la7⟩ (λi σ H8 q=>.of (q.2.1 _ _ hBD)) (λi x σ H8 p hx q hp=>?_) (λσ H8 q=>?_)
    ·obtain ⟨q0,s8,la8⟩:=q;apply Gq q0;clear q0;intro v6 v7 v8 v9 v10 v11 v12 v13 v14;obtain ⟨z,hz,rfl⟩:=b0 hx;have hi:=aG hz;have hzm:=NF hz;have sp:ae H8 (upd H8 p (.tup [.int i,.str z])):=ae.new hp;have hpp:(upd H8 p (.tup [.int i,.str z])) p=some (.tup [.int i,.str z]):=ab;have la9:bC A.aD (upd H8 p (.tup [.int i,.str z])):=a8 la8 sp;have s9:=s8.trans sp;generalize upd H8 p (.tup [.int i,.str z])=H9 at sp hpp la9 s9 ⊢;refine ⟨p,_,rfl,.of hpp,rfl,_,_,rfl,_,_,rfl,rfl,?_⟩;have hzz:=hzo z hzm;obtain ⟨ws,hln⟩:=hls z hzm;refine ⟨_,rfl,_,rfl,z,PL,acc,pss,rfl,.of (s9 _ _ hBL),by lia,dsB.same s9,hpo,hzz.1,hzz.2.1,λNz H10 s10 hft=>?_⟩;have zl:=s9.trans s10;refine ⟨_,rfl,_,rfl,_,rfl,z,PL,acc,pss,rfl,.of (zl _ _ hBL),by lia,dsB.same zl,hpo,hzz.1,hzz.2.1,hzz.2.2,λdue H11 s11 hfd=>?_⟩;have FO:=zl.trans s11;obtain ⟨od,hod,hfo,hnd⟩:=zz hfd;obtain ⟨ot,hot,M0,hnt⟩:=zz hft;have eo:ot=od:=si M0 hfo λq=>Iff.rfl;subst eo;have JW:OOk ot:=by
      cases ot with
      | none=>trivial
      | some ps=>exact λx hx=>(hpo ps (Oc.mp (hfo.least ps rfl).1).1).2 x hx
     refine ⟨_,_,hot.same s11,hod,HN _,_,rfl,?_⟩;rw [Kx JW JW,decide_eq_true rfl];obtain ⟨xi,hxi⟩:=at_of (l:=acc) (i:=i) (by lia);obtain ⟨ps,hpi,hdp⟩:=cm dsB hxi;have hpm:=NF hpi;obtain ⟨z',ws',hz',Kb,qV,Ky⟩:=hat hpi;rw [hz] at hz';cases hz';have uF:aM ps (Txt.split z " ")=true:=by
      rw [Kb.split];exact (xK.drawn qV Kb.wd Ky).all
     refine bf ⟨_,rfl,_,rfl,PL,acc,_,_,rfl,rfl,.of (FO _ _ hBL),bo (j:=i) hxi,_,rfl,xi,z,ps,rfl,hdp.same FO,qV.2,hzz.1,hzz.2.1,λH12 s12=>⟨_,rfl,?_⟩⟩;rw [uF];refine bf ?_;have MP:=FO.trans s12;have Gb:bC A.aD H12:=a8 la9 ((s10.trans s11).trans s12);clear uF hdp hod hot hfd hft FO zl s12 s11 s10 la9 s9 hpp sp la8 s8 hp;have hzl:=(hln.ok (by decide)).2;refine ⟨_,rfl,rfl,z," ",rfl,rfl,(by decide),NM (OJ hzl 2) (by decide),λL hL=>⟨L,rfl,⟨_,.of ab⟩,λC hC=>?_⟩⟩;rw [hln.split] at hC ⊢;have sL:ae H12 (upd H12 L (.lst (ws.map V.str))):=ae.new hL;have hLL:(upd H12 L (.lst (ws.map V.str))) L=some (.lst (ws.map V.str)):=ab;generalize upd H12 L (.lst (ws.map V.str))=H13 at sL hLL hC ⊢;refine aF (K:=K) (xs:=ws.map V.str) (λj aV σ H14=>(∃ u,σ=[u])/\ae H13 H14/\aB K (lim (upd H13 C (.lst [])) H14) aV ((ws.take j).map λw=>Pt.dat (.word w))) ab ⟨⟨_,rfl⟩,ae.new hC,.nil⟩ (λj aV σ H14 _ _ q=>.of (q.2.1 _ _ hLL)) (λj x aV σ H14 hx hCx q=>?_) (λaV σ H14 hCC q=>?_)
     ·obtain ⟨q0,s14,dn⟩:=q;apply bP q0;clear q0;intro u;obtain ⟨w,hw,rfl⟩:=b0 hx;have hj:=aG hw;have hwl:=hln.le;have LQ:aV.length=j:=by rw [dn.length,NE,NR];lia
      refine bV ⟨_,rfl,(by show 2<=sizeLine;decide),λt ht=>?_⟩;have st:ae H14 (upd H14 t (.tup [.str "word",.str w])):=ae.new ht;refine ⟨aV,st _ _ hCx,small (by lia),_,ab,⟨_,rfl⟩,ar hC (s14.trans st),?_⟩;rw [dA (ys:=[]) ab,bj hw];exact (dn.same (bF st)).append (.cons (.tup (.of ((bQ (by rw [aw (ao hCx ht).symm];exact s14.free ht)).trans ab)) (.cons (.str (by decide +kernel)) (.cons (.str (hln.wd w (NF hw)).ok) .nil))) .nil)
     ·obtain ⟨_,s14,dn⟩:=q;rw [NE,NI (NH _)] at dn;have dn2:aB K H14 aV ((ws.map Pt.word).map Pt.dat):=by rw [Ow];exact dn.same bt
      refine ⟨NW _,λE hE=>?_⟩;have sE:ae H14 (upd H14 E (.lst [])):=ae.new hE;have hfp:∀ l:List Str,mO (l.map Pt.word) []=l:=λl=>by
       induction l with
       | nil=>rfl
       | cons w l ih=>rw [N1,mO,ih]
      have hft:(ws.map Pt.word).filter vm=[]:=by
       rw [OE];intro p hp;obtain ⟨w,_,rfl⟩:=NJ.mp hp;exact NV
      refine ⟨.ref C,E,ws.map Pt.word,[],rfl,.lst (.of (sE _ _ hCC)) (dn2.same sE),λp hp=>?_,?_,.of ab,(λw h=>by cases h),by rw [hft];rfl,λw hw=>?_,λH15 s15=>?_⟩
      ·obtain ⟨w,hw,rfl⟩:=NJ.mp hp;exact ⟨NM (hln.wd w hw).len (by decide),(hln.wd w hw).ok⟩
      ·rw [NE];exact NM hln.le (by decide)
      ·rw [hfp] at hw;exact NM (hln.wd w hw).len (by decide)
      rw [hfp,<-hln.eq];refine ⟨_,rfl,rfl,_,rfl,?_⟩;rw [decide_eq_true rfl];exact bf ⟨⟨_,_,_,_,_,_,_,_,_,rfl⟩,MP.trans ((sL.trans s14).trans (sE.trans s15)),a8 Gb ((sL.trans s14).trans (sE.trans s15))⟩
    ·obtain ⟨q0,s8,la8⟩:=q;apply Gq q0;clear q0;intro v6 v7 v8 v9 v10 v11 v12 v13 v14;clear s7 la7;refine ⟨_,rfl,_,rfl,D,SV,zs,sv,lv,rfl,.of (s8 _ _ hBD),by lia,hls,.of (s8 _ _ hBS),λDU ms Jv H9 ps a9 hup hDU s9 hUU hps fQ qV Nq dnU=>?_⟩;have sB9:ae B H9:=s8.trans s9;have la9:bC A.aD H9:=a8 la8 s9;obtain ⟨tb9,Ht⟩:=dE la9;have h2P:(wo A.aD H9) A.aD=none:=cX;have h2U:(wo A.aD H9) DU=some (.lst Jv):=by rw [aS (rL Ht hUU λqs e=>by cases e)];exact hUU
     have s2B:ae B (wo A.aD H9):=cY hBP sB9;have dnB:aB K (wo A.aD H9) Jv (ps.map br):=qK Ht (dnU.same bt);have s29:ae (wo A.aD H9) H9:=bc;generalize wo A.aD H9=B2 at h2P h2U s2B dnB s29;clear dnU hUU hDU Ht s9 sB9 s8 la8;have h2D:=s2B _ _ hBD;have h2S:=s2B _ _ hBS;refine ⟨_,rfl,_,rfl,D,SV,zs,sv,lv,rfl,.of (s29 _ _ h2D),by lia,hls,.of (s29 _ _ h2S),la9,λTD ms2 ac2 H10 ps2 qU JY hTD s10 KA hTT JD GK _ JJ fr hne dn2=>?_⟩;have em:ms2=ms:=qW a9 hup qU JY λ_=>Iff.rfl;subst em;have ep:ps2=ps:=kG (JD.trans hps.symm) GK fQ;subst ep;have BS:ae B2 H10:=(cY h2P s29).trans s10;refine ⟨_,rfl,_,_,.lst (.of hTT) (dn2.same bt),.lst (.of (BS _ _ h2U)) (dnB.same BS),kN _,_,rfl,?_⟩;rw [oO];refine bf ?_;clear dn2 fr hne JJ GK JD hTT s10 hTD JY qU la9 s29;refine ⟨_,rfl,D,_,rfl,.of (BS _ _ h2D),λRV hRV=>?_⟩;rw [<-List.map_reverse];have sR:ae H10 (upd H10 RV (.lst (zs.reverse.map V.str))):=ae.new hRV;have hRR:(upd H10 RV (.lst (zs.reverse.map V.str))) RV=some (.lst (zs.reverse.map V.str)):=ab;generalize upd H10 RV (.lst (zs.reverse.map V.str))=H11 at sR hRR ⊢;have Im:=BS.trans sR;have KC:bC A.aD H11:=a8 KA sR;refine ⟨_,rfl,RV,SV,zs.reverse,sv,lv,rfl,.of hRR,by rw [List.length_reverse];lia,λz h=>hls z (List.mem_reverse.mp h),.of (Im _ _ h2S),KC,λTD ms3 ac3 H12 ps3 DJ Jo hTD s12 Gb hTT J0 GG _ L5 fr hne dn3=>?_⟩;have em:ms3=ms2:=qW a9 hup DJ Jo λ_=>List.mem_reverse;subst em;have ep:ps3=ps2:=kG (J0.trans hps.symm) GG fQ;subst ep;have Bs:ae B2 H12:=(cY h2P Im).trans s12;refine ⟨_,rfl,_,_,.lst (.of hTT) (dn3.same bt),.lst (.of (Bs _ _ h2U)) (dnB.same Bs),kN _,_,rfl,?_⟩;rw [oO];refine bf ?_;clear dn3 fr hne L5 GG J0 hTT s12 hTD Jo DJ KC Im sR hRR hRV KA BS;refine ⟨_,rfl,_,rfl,D,SV,zs,sv,lv,rfl,.of (Bs _ _ h2D),by lia,hls,.of (Bs _ _ h2S),Gb,λTN H13 hTN s13 Lk hNN=>?_⟩;have J9:ae B2 H13:=(cY h2P Bs).trans s13;refine ⟨(by show 5<=sizeLine;decide),λTT hTT=>⟨TT,rfl,⟨_,.of ab⟩,?_⟩⟩;have sT:ae H13 (upd H13 TT (.lst [.int 0,.int 7,.int 30,.int 58,.int 59])):=ae.new hTT;have hT':(upd H13 TT (.lst [.int 0,.int 7,.int 30,.int 58,.int 59])) TT=some (.lst [.int 0,.int 7,.int 30,.int 58,.int 59]):=ab;generalize upd H13 TT (.lst [.int 0,.int 7,.int 30,.int 58,.int 59])=H14 at sT hT' ⊢;have Lj:bC A.aD H14:=a8 Lk sT;have Ke:=sT _ _ hNN;have Lv:=J9.trans sT;have Hi:=s2B.trans Lv;clear sT hTT J9 hNN Lk s13 hTN Gb Bs Lv s2B dnB h2U h2P h2D h2S;refine cM (K:=K) (xs:=[V.int 0,V.int 7,V.int 30,V.int 58,V.int 59]) (λi σ H15=>(∃ v6 v7 v8 v9 v12 v13 v14,σ=[u0,some (.int c),some (.ref d),some (.ref SV),some (.ref D),some (.ref PL),v6,v7,v8,v9,some (.ref TN),some (.ref DU),v12,v13,v14])/\ae H14 H15) ⟨⟨_,_,_,_,_,_,_,rfl⟩,ae.refl _⟩ (λi σ H15 _ q=>.of (q.2 _ _ hT')) (λi x σ H15 hx q=>?_) (λσ H15 q=>?_)
     ·obtain ⟨q0,s15⟩:=q;apply JK q0;clear q0;intro v6 v7 v8 v9 v12 v13 v14;obtain ⟨m,rfl,hm⟩:=E4 (NF hx);have AQ:=Hi.trans s15;have hin:m<zs.length:=by lia
      have hz:zs[m]? = some zs[m]:=NG hin;obtain ⟨h1,h2,hWs⟩:=hzo zs[m] (Ov hin);have eg:zs.getD m Str.empty=zs[m]:=by rw [NU,hz];rfl
      have hzv:(zs.map V.str)[m]? = some (.str zs[m]):=by rw [NK,hz];rfl
      refine ⟨_,rfl,_,rfl,(m:Int),rfl,D,_,rfl,.of (AQ _ _ hBD),λS hS=>?_⟩;rw [kZ (Int.natCast_nonneg m),OG,<-List.map_take];have sS:ae H15 (upd H15 S (.lst ((zs.take m).map V.str))):=ae.new hS;have hSS:(upd H15 S (.lst ((zs.take m).map V.str))) S=some (.lst ((zs.take m).map V.str)):=ab;generalize upd H15 S (.lst ((zs.take m).map V.str))=H16 at sS hSS ⊢;have JR:=AQ.trans sS;refine ⟨_,rfl,S,SV,zs.take m,sv,lv,rfl,.of hSS,by rw [NR];lia,λz h=>hls z (OQ h),.of (JR _ _ hBS),λGD ms4 ac4 H17 ps4 Iw MD hGD s17 hGG Lz Nb G3 Nk Mc=>?_⟩;have EH:=JR.trans s17;have dn4:aB K H17 ac4 (ps4.map br):=Mc.same bt;have MM:ac4.length=ps4.length:=by rw [dn4.length,NE]
      refine ⟨_,rfl,GD,rfl,⟨_,.of hGG⟩,λC hC=>?_⟩;refine aF (K:=K) (xs:=ac4) (λj aV σ H18=>(∃ u,σ=[u,some (.ref D),some (.int m)])/\ae H17 H18/\aB K H17 aV (((ps4.take j).filter λp=>aM p (Txt.split zs[m] " ")).map br)) ab ⟨⟨_,rfl⟩,ae.new hC,.nil⟩ (λj aV σ H18 _ _ q=>.of (q.2.1 _ _ hGG)) (λj y aV σ H18 hy hCx q=>?_) (λaV σ H18 hC5 q=>?_)
      ·obtain ⟨q0,s5,dn5⟩:=q;apply bP q0;clear q0;intro u;obtain ⟨p,hpj,hdp⟩:=cm dn4 hy;have hpm:=NF hpj;have hj:=aG hpj;have hl2:aV.length<=64:=by
        rw [dn5.length,NE];exact NM (N8 _ _) (by rw [NR];lia)
       have et:ps4.take (j+1)=ps4.take j++[p]:=by rw [NY,hpj];rfl
       have Md:POk p:=⟨NM (G3 p hpm).2.2 (by decide),λq hq=>((G3 p hpm).1 q hq).ok⟩;refine ⟨_,rfl,_,rfl,_,rfl,D,_,(m:Int),_,rfl,rfl,.of ((EH.trans s5) _ _ hBD),bo hzv,y,zs[m],p,rfl,hdp.same s5,Md,h1,h2,hWs,λH6 s6=>⟨_,rfl,?_⟩⟩;rw [et,Oe];cases hf:aM p (Txt.split zs[m] " ") with
       | true=>
        have e2:[p].filter (λp=>aM p (Txt.split zs[m] " "))=[p]:=OH hf;rw [e2,NS];exact bL ⟨_,rfl,_,s6 _ _ hCx,small (by lia),_,ab,⟨_,rfl⟩,ar hC (s5.trans s6),dn5.append (.cons hdp .nil)⟩
       | false=>
        have e2:[p].filter (λp=>aM p (Txt.split zs[m] " "))=[]:=OI (by rw [hf];decide);rw [e2,N6];exact bf ⟨_,s6 _ _ hCx,⟨_,rfl⟩,s5.trans s6,dn5⟩
      ·obtain ⟨_,s5,dn5⟩:=q;rw [MM,NI (NH _)] at dn5;have eb:iY sv lv (zs.take m) zs[m]=(ps4.filter λp=>aM p (Txt.split zs[m] " ")).isEmpty:=by rw [yG,wQ Iw MD Lz]
       have GU:=(s15.trans sS).trans (s17.trans s5);have ein:inV (.int (m:Int)) ((ki sv lv zs zs.length).map nV)=iY sv lv (zs.take m) zs[m]:=by rw [Gs hin,eg]
       refine ⟨_,rfl,_,rfl,TN,_,rfl,.inl (.of (GU _ _ Ke)),rfl,FG _,?_⟩;rw [if_neg NV,ein];refine ⟨_,rfl,NW _,λE hE=>?_⟩;have sE:ae H18 (upd H18 E (.lst [])):=ae.new hE;refine ⟨_,_,.lst (.of (sE _ _ hC5)) (dn5.same (s5.trans sE)),.lst (.of ab) .nil,kN _,?_⟩;rw [mQ,Po,<-eb];refine ⟨rfl,_,rfl,?_⟩;rw [decide_eq_true rfl];exact bf ⟨⟨_,_,_,_,_,_,_,rfl⟩,GU.trans sE⟩
     ·obtain ⟨q0,s15⟩:=q;apply JK q0;clear q0;intro v6 v7 v8 v9 v12 v13 v14;have AQ:=Hi.trans s15;have L7:bC A.aD H15:=a8 Lj s15;clear Ke hT' Lj s15 Hi;refine ⟨NW _,λPS hPS=>?_⟩;have sP:ae H15 (upd H15 PS (.lst [])):=ae.new hPS;have hPP:(upd H15 PS (.lst [])) PS=some (.lst []):=ab;refine ⟨_,rfl,D,rfl,⟨_,.of ((AQ.trans sP) _ _ hBD)⟩,?_⟩;refine cM (K:=K) (xs:=zs.map V.str) (λi σ H17=>(∃ v6 v7 v8 v9 v12 v14,σ=[u0,some (.int c),some (.ref d),some (.ref SV),some (.ref D),some (.ref PL),v6,v7,v8,v9,some (.ref TN),some (.ref DU),v12,some (.ref PS),v14])/\ae H15 H17/\∃ i6:List V,H17 PS=some (.lst i6)/\aB K (lim (upd H15 PS (.lst [])) H17) i6 ((zs.take i).map p3D)) ⟨⟨_,_,_,_,_,_,rfl⟩,sP,[],hPP,.nil⟩ (λi σ H17 _ q=>.of ((AQ.trans q.2.1) _ _ hBD)) (λi x σ H17 hx q=>?_) (λσ H17 q=>?_)
      ·obtain ⟨q0,s17,i6,hPx,dn⟩:=q;apply KR q0;clear q0;intro v6 v7 v8 v9 v12 v14;obtain ⟨z,hz,rfl⟩:=b0 hx;have hi:=aG hz;obtain ⟨ws,hln⟩:=hls z (NF hz);have hzl:=(hln.ok (by decide)).2;have hwl:=hln.le;have Li:i6.length=i:=by rw [dn.length,NE,NR];lia
       refine ⟨_,rfl,rfl,z," ",rfl,rfl,(by decide),NM (OJ hzl 2) (by decide),λL hL=>?_⟩;have sL:ae H17 (upd H17 L (.lst ((Txt.split z " ").map V.str))):=ae.new hL;have hLL:(upd H17 L (.lst ((Txt.split z " ").map V.str))) L=some (.lst (ws.map V.str)):=by rw [ab,hln.split]
       generalize upd H17 L (.lst ((Txt.split z " ").map V.str))=H18 at sL hLL ⊢;have Dm:=sL _ _ hPx;refine ⟨_,rfl,.inl ⟨rfl,_,.of Dm⟩,_,rfl,L,_,rfl,.inl (.of hLL),_,rfl,L,rfl,⟨_,.of hLL⟩,λC hC=>?_⟩;have hCP:C≠PS:=(ao Dm hC).symm;refine aF (K:=K) (xs:=ws.map V.str) (λj aV σ H19=>(∃ u,σ=[u])/\ae H18 H19/\aB K (lim (upd H18 C (.lst [])) H19) aV ((ws.take j).map wkD)) ab ⟨⟨_,rfl⟩,ae.new hC,.nil⟩ (λj aV σ H19 _ _ q=>.of (q.2.1 _ _ hLL)) (λj x aV σ H19 hx hCx q=>?_) (λaV σ H19 hCC q=>?_)
       ·obtain ⟨q0,s19,dn2⟩:=q;apply bP q0;clear q0;intro u;obtain ⟨w,hw,rfl⟩:=b0 hx;have hj:=aG hw;have LQ:aV.length=j:=by rw [dn2.length,NE,NR];lia
        have hwo:=hln.wd w (NF hw);refine bV ⟨_,rfl,w,rfl,(show LOk w from NM hwo.len (by decide)).s,_,rfl,(by show 2<=sizeLine;decide),λt ht=>?_⟩;have st:=ae.new (o:=.tup [.int w.length,.str w]) ht;refine ⟨aV,st _ _ hCx,small (by lia),_,ab,⟨_,rfl⟩,ar hC (s19.trans st),?_⟩;rw [dA (ys:=[]) ab,bj hw];exact (dn2.same (bF st)).append (.cons (.tup (.of ((bQ (by rw [aw (ao hCx ht).symm];exact s19.free ht)).trans ab)) (.cons (.int _) (.cons (.str hwo.ok) .nil))) .nil)
       ·obtain ⟨_,s19,dn2⟩:=q;rw [NE,NI (NH _)] at dn2;refine ⟨_,rfl,(by show 3<=sizeLine;decide),λt ht=>?_⟩;have st:=ae.new (o:=.tup [.int (ws.map V.str).length,.ref C,.str z]) ht;have Du:=sL.trans s19;have Mq:=st _ _ (s19 _ _ Dm);refine ⟨PS,_,_,rfl,rfl,Mq,small (by lia),⟨_,_,_,_,_,_,rfl⟩,ar hPS (s17.trans (Du.trans st)),_,ab,?_⟩;rw [dA (ys:=[]) ab,bj hz];refine (dn.same (bF (Du.trans st))).append (.cons ?_ .nil);have hnt:(upd H15 PS (.lst [])) t=none:=by
         rw [aw (ao (s19 _ _ Dm) ht).symm];exact (s17.trans Du).free ht
        have hnC:(upd H15 PS (.lst [])) C=none:=by
         rw [aw hCP];exact (s17.trans sL).free hC
        have ll:LL (upd H15 PS (.lst [])) (upd H18 C (.lst [])):=(vw (s17.trans sL) Dm).trans (ae.new hC).ll;have ed:p3D z = .tuple [.int (ws.map V.str).length,.list (ws.map wkD),.str z]:=by unfold p3D;rw [hln.split,NE]
        rw [ed];refine .tup (.of ((bQ hnt).trans ab)) (.cons (.int _) (.cons (.lst (.of ((bQ hnC).trans (st _ _ hCC))) ?_) (.cons (.str (hzo z (NF hz)).2.1) .nil)));exact (dn2.same (bF st)).same (bW ll)
      ·obtain ⟨q0,s17,i6,hPx,dn⟩:=q;apply KR q0;clear q0;intro v6 v7 v8 v9 v12 v14;rw [NE,List.take_length] at dn;have Li:i6.length=zs.length:=by rw [dn.length,NE]
       have EH:=AQ.trans s17;have HJ:aB K H17 i6 (zs.map p3D):=dn.same bt;refine ⟨_,rfl,D,zs,rfl,.of (EH _ _ hBD),by lia,λz h=>⟨(hzo z h).1,(hzo z h).2.1⟩,λIO l1 H18 hIO s18 hp1 ho1 Lg=>?_⟩;refine ⟨_,rfl,PS,i6,zs.map p3D,rfl,.of (s18 _ _ hPx),by lia,HJ.same s18,λe he=>?_,λe he=>?_,λD0 p hD0 hp ho=>?_⟩
       ·obtain ⟨y,_,rfl⟩:=NJ.mp he;exact KD y
       ·obtain ⟨y,_,rfl⟩:=NJ.mp he;exact HV y
       rw [Li] at hp;have Kq:∀ i∈p,i<zs.length:=λi hi=>by have:=hp.mem_iff.mp hi;simpa using this
       have e2:(p.map λi=>(zs.map p3D).getD i .none)=(p.map λi=>zs.getD i Str.empty).map p3D:=by
        rw [Ow];refine Og λi hi=>?_;simp [NU,Kq i hi]
       have Gy:Fj (p.map λi=>zs.getD i Str.empty):=by
        unfold dG at ho;rw [e2,Oq] at ho;exact ho.imp λh=>Lc h
       have DQ:(p.map λi=>zs.getD i Str.empty).Perm zs:=(hp.map λi=>zs.getD i Str.empty).trans (by rw [dD]);have el:l1=p.map λi=>zs.getD i Str.empty:=xl (hp1.trans DQ.symm) ho1 Gy;have s0:ae H18 (upd H18 D0 (.lst (picked i6 p))):=ae.new hD0;have ER:(upd H18 D0 (.lst (picked i6 p))) D0=some (.lst (picked i6 p)):=ab;have KO:=(HJ.same s18).same s0;have B3:∀ (j:Nat) (x:V),(picked i6 p)[j]? = some x->∃ y,l1[j]? = some y/\Den K (upd H18 D0 (.lst (picked i6 p))) x (p3D y):=λj x hx=>by
        unfold picked at hx;rw [NK] at hx;cases hj:p[j]? with
        | none=>rw [hj] at hx;cases hx
        | some i=>
         rw [hj] at hx;have hi:=Kq i (NF hj);have hxi:i6[i]? = some x:=by
          have:i6[i]? = some i6[i]:=NG (by lia);simp [NU,this] at hx;rw [this,hx]
         obtain ⟨dd,h1,h2⟩:=KO.get hxi;rw [NK,NG hi] at h1;cases h1;refine ⟨zs[i],?_,h2⟩;rw [el,NK,hj];simp [NU,hi]
       have hpl:(picked i6 p).length=l1.length:=by rw [el];unfold picked;rw [NE,NE]
       have Nt:l1.length=zs.length:=hp1.length_eq;have hI0:=s0 _ _ Lg;have sBn:=(EH.trans s18).trans s0;have lan:bC A.aD (upd H18 D0 (.lst (picked i6 p))):=a8 L7 (s17.trans (s18.trans s0));generalize upd H18 D0 (.lst (picked i6 p))=H19 at ER B3 hI0 sBn lan;generalize picked i6 p=pk at ER B3 hpl;have Jp:∀ x∈l1,PyData.strOk x=true:=λx hx=>(hzo x (hp1.mem_iff.mp hx)).2.1;clear el Gy DQ e2 KO s0 HJ dn s18 ho1 Lg;refine ⟨D0,rfl,⟨_,.of ER⟩,λC hC=>?_⟩;refine aF (K:=K) (xs:=pk) (λj aV σ H20=>(∃ u v w,σ=[u,v,w])/\ae H19 H20/\aV=(l1.take j).map V.str) ab ⟨⟨_,_,_,rfl⟩,ae.new hC,rfl⟩ (λj aV σ H20 _ _ q=>.of (q.2.1 _ _ ER)) (λj x aV σ H20 hx hCx q=>?_) (λaV σ H20 hCx q=>?_)
       ·obtain ⟨⟨u,v,w,rfl⟩,s20,rfl⟩:=q;obtain ⟨y,hy,fR⟩:=B3 j x hx;obtain ⟨t,r1,r2,rfl,hsq⟩:=He (fR.same s20);have hj:=aG hy;refine Hj hsq ⟨_,rfl,_,hCx,small (by rw [NE,NR];lia),_,ab,⟨_,_,_,rfl⟩,ar hC s20,?_⟩;rw [bj hy]
       ·obtain ⟨_,s20,rfl⟩:=q;rw [hpl,List.take_length] at hCx;refine ⟨_,_,.lst (.of (s20 _ _ hI0)) (d6 Jp),.lst (.of hCx) (d6 Jp),uJ _,_,rfl,?_⟩;rw [AL];exact bf ⟨⟨_,_,_,_,_,_,_,_,_,_,_,_,_,_,_,rfl⟩,(sBn.trans s20) _ _ hBZ,a8 lan s20⟩
  ·exact k H
end
theorem hX1 {s:Shared} (e:hX s=true):PySem.W.xlAt hV [] s=true:=by unfold hX at e;exact (Bool.and_eq_true_iff.mp e).1
theorem hX2 {s:Shared} (e:hX s=true):PySem.W.recOk (PySem.W.RowW.records (PySem.W.OpenRow.toRowW (PySem.W.OpenLaw.row PySem.Challenge.rw_loggather_k39_sixty_patterns_and_lines))) s=true:=by unfold hX at e;exact (Bool.and_eq_true_iff.mp e).2
theorem hS:PySem.Challenge.rw_loggather_k39_sixty_patterns_and_lines.wellSaid=true:=by kernel_rfl
abbrev hFo (i:Nat) (x:Str) (m:Value) (c:Nat):FuncData:=PySem.W.fnOf x x (d8 (top i)) (c5 (top i)) (ah (top i)) .none .none .none m none (.ref c) .none
theorem hDf {P:Params}{h:Heap}{mg:Str->Option Value}{i f c:Nat}{x:Str}{m:Value} (X:(hK P).In h) (G:h.Ns mainGlobals mg) (ps:List Str) (l:(hK P).lookup f=some (hFn i x m c)) (d:PySem.W.codeIn (hK P) (.ref c) x=true) (k:PySem.W.keepIn (hK P) (.ref f)=true) (a:PySem.W.nsIn (hK P) mainGlobals x=some (some (.ref f)))
  (b:∀ (kV doc pm:Value) (an:Option Addr) (cdv ct:Value) (us:List Value),us.length=ps.length->bindArgs (PySem.W.fnOf x x (d8 (top i)) (c5 (top i)) (ah (top i)) .none kV doc pm an cdv ct) ⟨us,[]⟩=pure (ps.zip us)):bh (hK P) mg x (top i) ps f (hFo i x m c):=
 have F:Fun (hK P) x x (top i) f (hFo i x m c):=DL l d k
 ⟨F,F.binds b,PySem.W.mg_of X G a⟩
abbrev wV (i:Nat) (x:Str) (m:Value) (c D:Nat):FuncData:=PySem.W.fnOf x x (d8 (top i)) (c5 (top i)) (ah (top i)) (.ref D) .none .none m none (.ref c) .none
theorem Jk {P:Params}{h:Heap}{mg:Str->Option Value}{i f c D:Nat}{x:Str}{m:Value} (X:(hK P).In h) (G:h.Ns mainGlobals mg) (ps:List Str) (l:(hK P).lookup f=some (hFd i x m c D)) (d:PySem.W.codeIn (hK P) (.ref c) x=true) (k:PySem.W.keepIn (hK P) (.ref f)=true) (a:PySem.W.nsIn (hK P) mainGlobals x=some (some (.ref f)))
  (b:Binds (hK P) (wV i x m c D) ps []):ya (hK P) mg x (top i) ps f (wV i x m c D):=
 ⟨⟨⟨_,_,_,_,_,_,_,_,_,_,rfl,l,d⟩,k⟩,b,PySem.W.mg_of X G a⟩
theorem on1 {C:List Value->Prop} (h:∀ a0,C [a0]):∀ us:List Value,us.length=1->C us
 | [a0],_=>h a0
theorem on2 {C:List Value->Prop} (h:∀ a0 a1,C [a0,a1]):∀ us:List Value,us.length=2->C us
 | [a0,a1],_=>h a0 a1
theorem on3 {C:List Value->Prop} (h:∀ a0 a1 a2,C [a0,a1,a2]):∀ us:List Value,us.length=3->C us
 | [a0,a1,a2],_=>h a0 a1 a2
theorem rR {P:Params}{s:Shared} (X:(hK P).In s.heap) (us:List Value) (hl:us.length=2):BindsTo s (wV 37 "gathered" (.str "loggather.gathering" 382) 213 209) ⟨us,[]⟩ ((["lines","sieve"]:List Str).zip (us++[])):=by
 rw [N6];exact on2 (C:=λus=>BindsTo s (wV 37 "gathered" (.str "loggather.gathering" 382) 213 209) ⟨us,[]⟩ ((["lines","sieve"]:List Str).zip us)) (λa0 a1=>BindsTo.of_defaults rfl (X 209 _ rfl) rfl rfl rfl) us hl
theorem Aw {P:Params}{s:Shared} (X:(hK P).In s.heap) (us:List Value) (hl:us.length=2):BindsTo s (wV 43 "news" (.str "loggather.falling" 447) 241 237) ⟨us,[]⟩ ((["lines","sieve"]:List Str).zip (us++[])):=by
 rw [N6];exact on2 (C:=λus=>BindsTo s (wV 43 "news" (.str "loggather.falling" 447) 241 237) ⟨us,[]⟩ ((["lines","sieve"]:List Str).zip us)) (λa0 a1=>BindsTo.of_defaults rfl (X 237 _ rfl) rfl rfl rfl) us hl
def hA:Ad:=⟨58,hFo 8 "has_only" (.str "loggather.words" 239) 57,65,hFo 9 "is_word" (.str "loggather.words" 239) 64,72,hFo 10 "kind_of" (.str "loggather.words" 239) 71,79,hFo 11 "words_of" (.str "loggather.words" 239) 78,86,hFo 12 "word_key" (.str "loggather.words" 239) 85,91,hFo 13 "line_key" (.str "loggather.words" 239) 90,98,hFo 14 "in_order" (.str "loggather.words" 239) 97,106,hFo 17 "is_hole" (.str "loggather.patterns" 296) 105,113,hFo 18 "part_takes" (.str "loggather.patterns" 296) 112,120,hFo 19 "all_taken" (.str "loggather.patterns" 296) 119,127,hFo 20 "fits" (.str "loggather.patterns" 296) 126,132,hFo 21 "filled" (.str "loggather.patterns" 296) 131,139,hFo 22 "kind_of_hole_around" (.str "loggather.patterns" 296) 138,144,hFo 23 "joined_part" (.str "loggather.patterns" 296) 143,149,hFo 24 "joined" (.str "loggather.patterns" 296) 148,156,hFo 25 "part_key" (.str "loggather.patterns" 296) 155,161,hFo 26 "pattern_key" (.str "loggather.patterns" 296) 160,166,hFo 27 "ordered" (.str "loggather.patterns" 296) 165,174,hFo 30 "grouped" (.str "loggather.gathering" 382) 173,179,hFo 31 "words_at" (.str "loggather.gathering" 382) 178,186,hFo 32 "many_unlike_at" (.str "loggather.gathering" 382) 185,191,hFo 33 "is_fit_to_part_at" (.str "loggather.gathering" 382) 190,196,hFo 34 "place_to_part_at" (.str "loggather.gathering" 382) 195,203,hFo 35 "parted" (.str "loggather.gathering" 382) 202,208,hFo 36 "pattern_of_group" (.str "loggather.gathering" 382) 207,214,wV 37 "gathered" (.str "loggather.gathering" 382) 213 209,221,hFo 39 "looseness_of_part" (.str "loggather.falling" 447) 220,226,hFo 40 "looseness" (.str "loggather.falling" 447) 225,231,hFo 41 "falls_under" (.str "loggather.falling" 447) 230,236,hFo 42 "is_news" (.str "loggather.falling" 447) 235,242,wV 43 "news" (.str "loggather.falling" 447) 241 237,249,hFo 45 "_law_deck" (.str "law_loggather_k39_sixty_patterns_and_lines" 480) 248,256,hFo 46 "_law_pick" (.str "law_loggather_k39_sixty_patterns_and_lines" 480) 255,261,hFo 47 "_law_kind" (.str "law_loggather_k39_sixty_patterns_and_lines" 480) 260,268,hFo 48 "_law_fits_part" (.str "law_loggather_k39_sixty_patterns_and_lines" 480) 267,273,hFo 49 "_law_fits" (.str "law_loggather_k39_sixty_patterns_and_lines" 480) 272,278,hFo 50 "_law_word" (.str "law_loggather_k39_sixty_patterns_and_lines" 480) 277,283,hFo 51 "_law_line" (.str "law_loggather_k39_sixty_patterns_and_lines" 480) 282,288,hFo 52 "_law_lines" (.str "law_loggather_k39_sixty_patterns_and_lines" 480) 287,295,hFo 53 "_law_pattern" (.str "law_loggather_k39_sixty_patterns_and_lines" 480) 294,302,hFo 54 "_law_place" (.str "law_loggather_k39_sixty_patterns_and_lines" 480) 301,307,hFo 55 "_law_ordered" (.str "law_loggather_k39_sixty_patterns_and_lines" 480) 306,312,hFo 56 "_law_joined" (.str "law_loggather_k39_sixty_patterns_and_lines" 480) 311,317,hFo 57 "_law_groups" (.str "law_loggather_k39_sixty_patterns_and_lines" 480) 316,322,hFo 58 "_law_gathered" (.str "law_loggather_k39_sixty_patterns_and_lines" 480) 321,329,hFo 59 "_law_sieve" (.str "law_loggather_k39_sixty_patterns_and_lines" 480) 328,336,hFo 60 "_law_loose" (.str "law_loggather_k39_sixty_patterns_and_lines" 480) 335,341,hFo 61 "_law_falls" (.str "law_loggather_k39_sixty_patterns_and_lines" 480) 340,348,hFo 62 "_law_sixty" (.str "law_loggather_k39_sixty_patterns_and_lines" 480) 347,353,hFo 63 "law" (.str "law_loggather_k39_sixty_patterns_and_lines" 480) 352,99,167,195,193⟩
set_option maxHeartbeats 8000000 in
theorem hT {P:Params}{h:Heap}{mg:Str->Option Value} (X:(hK P).In h) (G:h.Ns mainGlobals mg):Tx (hK P) mg hA:=⟨PySem.W.mg_none_of X G (by kernel_rfl),
 PySem.W.mg_none_of X G (by kernel_rfl),
 PySem.W.mg_none_of X G (by kernel_rfl),
 PySem.W.mg_none_of X G (by kernel_rfl),
 PySem.W.mg_none_of X G (by kernel_rfl),
 PySem.W.mg_none_of X G (by kernel_rfl),
 PySem.W.mg_none_of X G (by kernel_rfl),
 PySem.W.mg_none_of X G (by kernel_rfl),
 PySem.W.mg_none_of X G (by kernel_rfl),
 PySem.W.mg_none_of X G (by kernel_rfl),
 PySem.W.mg_none_of X G (by kernel_rfl),
 PySem.W.mg_none_of X G (by kernel_rfl),
 PySem.W.mg_none_of X G (by kernel_rfl),
 (by rw [Gr];exact ⟨241,PySem.W.mg_of X G (by kernel_rfl)⟩),
 (by rw [Gu];exact ⟨243,PySem.W.mg_of X G (by kernel_rfl)⟩),
 (by rw [BP];exact ⟨245,PySem.W.mg_of X G (by kernel_rfl)⟩),
 PySem.W.mg_of X G (by kernel_rfl),
 (λH=>.inr ⟨_,_,_,rfl,rfl,rfl,(by show 3<=sizeLine;decide),.cons ⟨_,rfl⟩ (.cons ⟨_,rfl⟩ (.cons ⟨_,rfl⟩ (.nil)))⟩),
 ⟨_,rfl,rfl,rfl⟩,
 PySem.W.mg_of X G (by kernel_rfl),
 (λH=>.inr ⟨_,_,_,rfl,rfl,rfl,(by show 2<=sizeLine;decide),.cons ⟨_,rfl⟩ (.cons ⟨_,rfl⟩ (.nil))⟩),
 ⟨_,rfl,rfl,rfl⟩,
 hDf X G ["text","signs"] rfl (by kernel_rfl) (by kernel_rfl) (by kernel_rfl) λ_ _ _ _ _ _=>on2 λ_ _=>rfl,
 hDf X G ["thing"] rfl (by kernel_rfl) (by kernel_rfl) (by kernel_rfl) λ_ _ _ _ _ _=>on1 λ_=>rfl,
 hDf X G ["word"] rfl (by kernel_rfl) (by kernel_rfl) (by kernel_rfl) λ_ _ _ _ _ _=>on1 λ_=>rfl,
 hDf X G ["line"] rfl (by kernel_rfl) (by kernel_rfl) (by kernel_rfl) λ_ _ _ _ _ _=>on1 λ_=>rfl,
 hDf X G ["word"] rfl (by kernel_rfl) (by kernel_rfl) (by kernel_rfl) λ_ _ _ _ _ _=>on1 λ_=>rfl,
 hDf X G ["line"] rfl (by kernel_rfl) (by kernel_rfl) (by kernel_rfl) λ_ _ _ _ _ _=>on1 λ_=>rfl,
 hDf X G ["lines"] rfl (by kernel_rfl) (by kernel_rfl) (by kernel_rfl) λ_ _ _ _ _ _=>on1 λ_=>rfl,
 hDf X G ["part"] rfl (by kernel_rfl) (by kernel_rfl) (by kernel_rfl) λ_ _ _ _ _ _=>on1 λ_=>rfl,
 hDf X G ["part","word"] rfl (by kernel_rfl) (by kernel_rfl) (by kernel_rfl) λ_ _ _ _ _ _=>on2 λ_ _=>rfl,
 hDf X G ["parts","words"] rfl (by kernel_rfl) (by kernel_rfl) (by kernel_rfl) λ_ _ _ _ _ _=>on2 λ_ _=>rfl,
 hDf X G ["pattern","line"] rfl (by kernel_rfl) (by kernel_rfl) (by kernel_rfl) λ_ _ _ _ _ _=>on2 λ_ _=>rfl,
 hDf X G ["pattern","words"] rfl (by kernel_rfl) (by kernel_rfl) (by kernel_rfl) λ_ _ _ _ _ _=>on2 λ_ _=>rfl,
 hDf X G ["part"] rfl (by kernel_rfl) (by kernel_rfl) (by kernel_rfl) λ_ _ _ _ _ _=>on1 λ_=>rfl,
 hDf X G ["parts"] rfl (by kernel_rfl) (by kernel_rfl) (by kernel_rfl) λ_ _ _ _ _ _=>on1 λ_=>rfl,
 hDf X G ["patterns"] rfl (by kernel_rfl) (by kernel_rfl) (by kernel_rfl) λ_ _ _ _ _ _=>on1 λ_=>rfl,
 hDf X G ["part"] rfl (by kernel_rfl) (by kernel_rfl) (by kernel_rfl) λ_ _ _ _ _ _=>on1 λ_=>rfl,
 hDf X G ["pattern"] rfl (by kernel_rfl) (by kernel_rfl) (by kernel_rfl) λ_ _ _ _ _ _=>on1 λ_=>rfl,
 hDf X G ["patterns"] rfl (by kernel_rfl) (by kernel_rfl) (by kernel_rfl) λ_ _ _ _ _ _=>on1 λ_=>rfl,
 hDf X G ["rows","keys"] rfl (by kernel_rfl) (by kernel_rfl) (by kernel_rfl) λ_ _ _ _ _ _=>on2 λ_ _=>rfl,
 hDf X G ["group","place"] rfl (by kernel_rfl) (by kernel_rfl) (by kernel_rfl) λ_ _ _ _ _ _=>on2 λ_ _=>rfl,
 hDf X G ["group","place"] rfl (by kernel_rfl) (by kernel_rfl) (by kernel_rfl) λ_ _ _ _ _ _=>on2 λ_ _=>rfl,
 hDf X G ["group","place","sieve"] rfl (by kernel_rfl) (by kernel_rfl) (by kernel_rfl) λ_ _ _ _ _ _=>on3 λ_ _ _=>rfl,
 hDf X G ["group","sieve"] rfl (by kernel_rfl) (by kernel_rfl) (by kernel_rfl) λ_ _ _ _ _ _=>on2 λ_ _=>rfl,
 hDf X G ["group","sieve"] rfl (by kernel_rfl) (by kernel_rfl) (by kernel_rfl) λ_ _ _ _ _ _=>on2 λ_ _=>rfl,
 hDf X G ["group"] rfl (by kernel_rfl) (by kernel_rfl) (by kernel_rfl) λ_ _ _ _ _ _=>on1 λ_=>rfl,
 Jk X G ["lines","sieve"] rfl (by kernel_rfl) (by kernel_rfl) (by kernel_rfl) λs us X2 hl=>rR X2 us (by rw [N6] at hl;exact hl),
 hDf X G ["part"] rfl (by kernel_rfl) (by kernel_rfl) (by kernel_rfl) λ_ _ _ _ _ _=>on1 λ_=>rfl,
 hDf X G ["pattern"] rfl (by kernel_rfl) (by kernel_rfl) (by kernel_rfl) λ_ _ _ _ _ _=>on1 λ_=>rfl,
 hDf X G ["line","patterns"] rfl (by kernel_rfl) (by kernel_rfl) (by kernel_rfl) λ_ _ _ _ _ _=>on2 λ_ _=>rfl,
 hDf X G ["line","lines","sieve"] rfl (by kernel_rfl) (by kernel_rfl) (by kernel_rfl) λ_ _ _ _ _ _=>on3 λ_ _ _=>rfl,
 Jk X G ["lines","sieve"] rfl (by kernel_rfl) (by kernel_rfl) (by kernel_rfl) λs us X2 hl=>Aw X2 us (by rw [N6] at hl;exact hl),
 hDf X G ["cell","turn"] rfl (by kernel_rfl) (by kernel_rfl) (by kernel_rfl) λ_ _ _ _ _ _=>on2 λ_ _=>rfl,
 hDf X G ["deck","many"] rfl (by kernel_rfl) (by kernel_rfl) (by kernel_rfl) λ_ _ _ _ _ _=>on2 λ_ _=>rfl,
 hDf X G ["word"] rfl (by kernel_rfl) (by kernel_rfl) (by kernel_rfl) λ_ _ _ _ _ _=>on1 λ_=>rfl,
 hDf X G ["part","word"] rfl (by kernel_rfl) (by kernel_rfl) (by kernel_rfl) λ_ _ _ _ _ _=>on2 λ_ _=>rfl,
 hDf X G ["pattern","line"] rfl (by kernel_rfl) (by kernel_rfl) (by kernel_rfl) λ_ _ _ _ _ _=>on2 λ_ _=>rfl,
 hDf X G ["deck"] rfl (by kernel_rfl) (by kernel_rfl) (by kernel_rfl) λ_ _ _ _ _ _=>on1 λ_=>rfl,
 hDf X G ["deck","most"] rfl (by kernel_rfl) (by kernel_rfl) (by kernel_rfl) λ_ _ _ _ _ _=>on2 λ_ _=>rfl,
 hDf X G ["deck","most"] rfl (by kernel_rfl) (by kernel_rfl) (by kernel_rfl) λ_ _ _ _ _ _=>on2 λ_ _=>rfl,
 hDf X G ["deck","line"] rfl (by kernel_rfl) (by kernel_rfl) (by kernel_rfl) λ_ _ _ _ _ _=>on2 λ_ _=>rfl,
 hDf X G ["pattern"] rfl (by kernel_rfl) (by kernel_rfl) (by kernel_rfl) λ_ _ _ _ _ _=>on1 λ_=>rfl,
 hDf X G ["patterns"] rfl (by kernel_rfl) (by kernel_rfl) (by kernel_rfl) λ_ _ _ _ _ _=>on1 λ_=>rfl,
 hDf X G ["patterns"] rfl (by kernel_rfl) (by kernel_rfl) (by kernel_rfl) λ_ _ _ _ _ _=>on1 λ_=>rfl,
 hDf X G ["rows","sieve"] rfl (by kernel_rfl) (by kernel_rfl) (by kernel_rfl) λ_ _ _ _ _ _=>on2 λ_ _=>rfl,
 hDf X G ["lines","sieve"] rfl (by kernel_rfl) (by kernel_rfl) (by kernel_rfl) λ_ _ _ _ _ _=>on2 λ_ _=>rfl,
 hDf X G ["deck"] rfl (by kernel_rfl) (by kernel_rfl) (by kernel_rfl) λ_ _ _ _ _ _=>on1 λ_=>rfl,
 hDf X G ["pattern"] rfl (by kernel_rfl) (by kernel_rfl) (by kernel_rfl) λ_ _ _ _ _ _=>on1 λ_=>rfl,
 hDf X G ["line","patterns"] rfl (by kernel_rfl) (by kernel_rfl) (by kernel_rfl) λ_ _ _ _ _ _=>on2 λ_ _=>rfl,
 hDf X G ["deck"] rfl (by kernel_rfl) (by kernel_rfl) (by kernel_rfl) λ_ _ _ _ _ _=>on1 λ_=>rfl,
 ⟨rfl,λh X2=>PySem.W.codeHd_of_K X2 (by kernel_rfl),4,_,PySem.W.mg_of X G (by kernel_rfl),by decide,by decide,rfl,rfl,rfl,rfl⟩⟩
theorem hF (w:World) (mg:Str->Option Value) (fa:Addr) (h:Heap) (X:(hK w.params).In h) (G:h.Ns mainGlobals mg) (e:mg "law" = some (.ref fa)) :
  ∃ fd:FuncData,(∀ (s:Shared) (u:Value),BindsTo s fd ⟨[u],[]⟩ [("script",u)])/\∀ base:Heap,aA PySem.Challenge.rw_loggather_k39_sixty_patterns_and_lines.prog w (hK w.params) mg base CX0 23 fa fd ["script"] (uK (hK w.params) 193):=by
 have q:=e.symm.trans (PySem.W.mg_of X G (show PySem.W.nsIn (hK w.params) mainGlobals "law" = some (some (.ref 353)) by kernel_rfl));cases q;exact ⟨hFo 63 "law" (.str "law_loggather_k39_sixty_patterns_and_lines" 480) 352,λs v=>.of_eq rfl,λbase=>Hg (A:=hA) (DL rfl (by kernel_rfl) (by kernel_rfl)) (hT X G)⟩
abbrev hSp:=uK
end K39
open PySem PySem.W PyProof.Rows
set_option maxRecDepth 100000 in
set_option maxHeartbeats 0 in
theorem PySem.Challenge.cw_loggather_k39_sixty_patterns_and_lines_holds : PySem.Challenge.rw_loggather_k39_sixty_patterns_and_lines.Holds := by
 refine holds_law K39.hS λLH=>@PySem.W.holds_open (OpenLaw.row PySem.Challenge.rw_loggather_k39_sixty_patterns_and_lines) K39.hV K39.hLo K39.hX (XL K39.hV []) _ K39.hH.obs K39.hH.val K39.hH.says ?dr ?kw 4386 K39.hL K39.hH.of K39.hH.keeps
  (λs e=>xl_of s (K39.hX1 e)) XL.keeps ?x1 ?x2 ?x3 (λs e=>recFacts_of (K39.hX2 e)) ?x4 LH ?x5 ?x6 ?hw ?hc
 case x1=>exact rfl
 case x2=>exact rfl
 case x3=>exact rfl
 case x4=>rfl
 case x5=>decide +kernel
 case x6=>exact ⟨rfl,rfl,rfl,rfl,rfl,by decide +kernel⟩
 case hw=>w_witness2
 exact L2.B0 (l:=PySem.Challenge.rw_loggather_k39_sixty_patterns_and_lines) (n:=63) (k:=23) (x:= "script") (K:=K39.hK) (c:=195) (T:=193) (sp:=λw=>K39.hSp (K39.hK w.params) 193) rfl (by decide) rfl ⟨rfl,by decide,by decide,rfl⟩ (λw h Y=>⟨PySem.W.km_in_of Y,PySem.W.km_tabs_of Y _ (List.Mem.head _)⟩) (λw h X=>PySem.W.codeHd_of_K X (by kernel_rfl)) (λw=>by kernel_rfl)
  (λw mg fa h X G e=>let ⟨fd,b,k⟩:=K39.hF w mg fa h X G e;⟨fd,b,λbase=>k base⟩) (λ_ _ a ns hl hT hS=>⟨a,ns,rfl,hS,hl,⟨_,hT,trivial,.inl rfl⟩,λ_=>rfl⟩)
